import PyProof.Rows.All
import Wide.All
import OpenK.AllK
import Wide.FinOn
import Lean
import PyProof.EqAt
import PyProof.EqKinds
import PyProof.TupleCall
import PyProof.NeData
import PySem.Challenge.RW_caseways_k08_numbers_in_stretches
local macro_rules | `(tactic| omega) => `(tactic| first | with_reducible assumption | lia | omega +splitDisjunctions)
set_option Elab.async false
set_option linter.all false
set_option maxRecDepth 100000
theorem ω {p : Prop}(h : p := by omega) : p := h
theorem δ {p : Prop}(h : p := by decide) : p := h
theorem ψ {p : Prop}(h : p := by decide +kernel) : p := h
open List (all_cons all_eq_true all_map any_cons any_eq_true any_map append_assoc append_nil cons_append drop_drop drop_eq_getElem_cons drop_length drop_sublist eq_nil_or_concat ext_getElem filterMap_map filter_append filter_congr filter_cons filter_eq_nil_iff filter_nil find?_cons flatten_cons forIn_cons forIn_nil getElem?_append_left getElem?_append_right getElem?_cons_succ getElem?_cons_zero getElem?_eq_getElem getElem?_eq_none getElem?_map getElem?_toArray getElem_mem getLast?_concat length_append length_cons length_drop length_eq_zero_iff length_filter_le length_map length_nil length_range length_singleton length_tail length_take length_take_le lookup_cons mapM_nil mapM_toArray map_append map_cons map_map map_nil mem_append mem_append_left mem_append_right mem_cons mem_cons_of_mem mem_cons_self mem_filter mem_flatten mem_iff_getElem mem_map mem_map_of_mem mem_of_getElem? mem_range mem_range'_1 mem_reverse mem_singleton nil_append nodup_cons not_mem_nil of_mem_zip pairwise_append pairwise_cons pairwise_iff_getElem pairwise_lt_range pairwise_map pairwise_reverse pairwise_singleton perm_append_comm range_succ replicate_succ reverse_perm set_comm set_cons_succ set_cons_zero size_toArray sum_append sum_cons take_add_one take_append_drop take_length take_of_length_le take_sublist zipIdx_cons)
open PySem.Heap (get?_push_ne get?_push_of_some get?_push_size get?_update_other get?_update_self lt_size size_push size_update)
open Option (getD_none map_eq_some_iff map_some)
open PySem.W (codeIn fnOf keepIn mg_none_of mg_of nsIn)
open Array (getElem?_extract getElem?_toList length_toList size_map toList_append toList_extract toList_map toList_push toList_reverse)
namespace L2
open PySem PySem.Spec PyProof.Rows
abbrev Key:=Sum Int Str
def BX:Key->Value->Bool
 | .inl k,v=>Value.isInt k v
 | .inr x,v=>Value.isStrOf x v
def acQ (w:World):Key->Int
 | .inl k=>hashInt k
 | .inr x=>hashStr w x
theorem dO:∀{k:Key}{v:Value},BX k v=true->(∃i t,k=Sum.inl i/\v=Value.int i t)\/(∃x t,k=Sum.inr x/\v=Value.str x t)
 | .inl i,v,h=>by
  obtain⟨t,e⟩:=Value.isInt_shape (k:=i) (v:=v) h;exact .inl ⟨i,t,rfl,e⟩
 | .inr x,v,h=>by
  obtain⟨t,e⟩:=Value.isStrOf_shape (x:=x) (v:=v) h;exact .inr ⟨x,t,rfl,e⟩
theorem N8 (i:Int)(t:Tok):BX (.inl i) (.int i t)=true:=by simp [BX,Value.isInt]
theorem N7 (x:Str)(t:Tok):BX (.inr x) (.str x t)=true:=by simp [BX,Value.isStrOf]
theorem abk (a b:Int):decide ((Sum.inl a:Key)=Sum.inl b)=(a == b):=by
 by_cases e:a=b
 ·subst e;simp
 ·have h:¬(Sum.inl a:Key)=Sum.inl b:=fun q=>e (Sum.inl.inj q);rw[decide_eq_false h];exact(beq_eq_false_iff_ne.mpr e).symm
theorem abh (a b:Str):decide ((Sum.inr a:Key)=Sum.inr b)=decide (a=b):=by
 by_cases e:a=b
 ·subst e;simp
 ·have h:¬(Sum.inr a:Key)=Sum.inr b:=fun q=>e (Sum.inr.inj q);rw[decide_eq_false h,decide_eq_false e]
theorem abj (a:Int)(b:Str):decide ((Sum.inl a:Key)=Sum.inr b)=false:=decide_eq_false (fun q=>nomatch q)
theorem abi (a:Str)(b:Int):decide ((Sum.inr a:Key)=Sum.inl b)=false:=decide_eq_false (fun q=>nomatch q)
def cG (prog:Program)(w:World):PySem.KeyKind prog w Key where
 is:=BX
 hash:=acQ w
 inj:=fun v a b ha hb=>by
  rcases dO ha with⟨i,t,rfl,rfl⟩|⟨x,t,rfl,rfl⟩
  ·rcases dO hb with⟨j,u,rfl,e⟩|⟨y,u,rfl,e⟩
   ·injection e with e1 _;rw[e1]
   ·exact nomatch e
  ·rcases dO hb with⟨j,u,rfl,e⟩|⟨y,u,rfl,e⟩
   ·exact nomatch e
   ·injection e with e1 _;rw[e1]
 byValue:=fun k v h=>by
  rcases dO h with⟨i,t,rfl,rfl⟩|⟨x,t,rfl,rfl⟩ <;> rfl
 pyHash:=fun hv h=>by
  rcases dO hv with⟨i,t,rfl,rfl⟩|⟨x,t,rfl,rfl⟩
  ·exact wpAny_pyHash_int h
  ·exact wpAny_pyHash_str h
 eqBool:=fun hu hv h=>by
  rcases dO hu with⟨i,t,rfl,rfl⟩|⟨x,t,rfl,rfl⟩
  ·rcases dO hv with⟨j,u,rfl,rfl⟩|⟨y,u,rfl,rfl⟩
   ·rw[abk] at h;exact wpAny_eqBool_int h
   ·rw[abj] at h;exact SeqAt.EqAt.int_str i t y u _ _ _ _ h
  ·rcases dO hv with⟨j,u,rfl,rfl⟩|⟨y,u,rfl,rfl⟩
   ·rw[abi] at h;exact SeqAt.EqAt.str_int x t j u _ _ _ _ h
   ·rw[abh] at h;exact wpAny_eqBool_str h
 «strs»:=fun k x t v h=>by
  rcases dO h with⟨i,u,rfl,e⟩|⟨y,u,rfl,e⟩
  ·exact nomatch e
  ·injection e with e1 _;subst e1;cases v <;> rfl
theorem Gz (prog:Program)(w:World)(i:Int)(t:Tok):(cG prog w).is (.inl i) (.int i t)=true:=N8 i t
theorem Gy (prog:Program)(w:World)(x:Str)(t:Tok):(cG prog w).is (.inr x) (.str x t)=true:=N7 x t
inductive V where
 | non|bl (b:Bool)|int (i:Int)|str (x:Str)|byt (b:Array UInt8)|flt (b:UInt64)|ref (a:Addr)|ty (n:String)
 deriving DecidableEq
def RelV:V->Value->Prop
 | .non,u=>u=Value.none
 | .bl b,u=>u=Value.bool b
 | .int i,u=>∃t,u=Value.int i t
 | .str x,u=>∃t,u=Value.str x t
 | .byt b,u=>∃t,u=Value.bytes b t
 | .flt b,u=>∃t,u=Value.float b t
 | .ref a,u=>u=Value.ref a
 | .ty n,u=>u=Value.type n
abbrev Vals:List V->List Value->Prop:=Paired RelV
theorem Vals.length {xs:List V}{us:List Value}(r:Vals xs us):xs.length=us.length:=Paired.length r
theorem Vals.get:∀{xs:List V}{us:List Value}{i:Nat}{x:V},Vals xs us->xs[i]?=some x->∃u,us[i]?=some u/\RelV x u
 | _,_,_,_,.nil,e=>by simp at e
 | _,_,0,_,.cons r _,e=>by simp at e;subst e;exact⟨_,rfl,r⟩
 | _,_,i+1,x,.cons _ t,e=>by
  obtain⟨u,h1,h2⟩:=Vals.get (i:=i) (x:=x) t (by simpa using e);exact⟨u,by simpa using h1,h2⟩
theorem Vals.set {x:V}{u:Value}(r:RelV x u):∀{xs:List V}{us:List Value}(i:Nat),Vals xs us->Vals (xs.set i x) (us.set i u)
 | _,_,_,.nil=>.nil
 | _,_,0,.cons _ t=>.cons r t
 | _,_,i+1,.cons q t=>.cons q (Vals.set r i t)
theorem Vals.append:∀{xs ys:List V}{us ws:List Value},Vals xs us->Vals ys ws->Vals (xs++ys) (us++ws)
 | _,_,_,_,.nil,s=>s
 | _,_,_,_,.cons r t,s=>.cons r (Vals.append t s)
theorem Vals.take:∀{xs:List V}{us:List Value}(n:Nat),Vals xs us->Vals (xs.take n) (us.take n)
 | _,_,0,_=>.nil
 | _,_,_+1,.nil=>.nil
 | _,_,n+1,.cons r t=>.cons r (Vals.take n t)
theorem Vals.drop:∀{xs:List V}{us:List Value}(n:Nat),Vals xs us->Vals (xs.drop n) (us.drop n)
 | _,_,0,r=>r
 | _,_,_+1,.nil=>.nil
 | _,_,n+1,.cons _ t=>Vals.drop n t
theorem Vals.none_of:∀{xs:List V}{us:List Value}{i:Nat},Vals xs us->xs[i]?=none->us[i]?=none:=fun {xs us i} r e=>by
 have h1:=r.length;have h2:xs.length<=i:=List.getElem?_eq_none_iff.mp e;exact List.getElem?_eq_none_iff.mpr ω
def J8:Option V->Option Value->Prop
 | some v,some u=>RelV v u
 | none,none=>True
 | _,_=>False
def KV {κ:Type}:List (κ×V)->List (κ×Value)->Prop:=Paired fun(p:κ×V)(q:κ×Value)=>p.1=q.1/\RelV p.2 q.2
def kV:Key->V
 | .inl i=>.int i
 | .inr x=>.str x
inductive HO where
 /-- a list -/
 | lst (xs:List V)
 /-- a tuple (never changes) -/
 | tup (xs:List V)
 /-- a dict whose keys are ints and texts;one whose keys are tuples of ints and texts (the empty one is both) -/
 | dK (kvs:List (Key×V))|dT (kvs:List (List Key×V))
 /-- a set of ints: its members,its size -/
 | set (S:Int->Bool) (n:Nat)
 /-- an instance of the class at C,its dict at dx,its attributes -/
 | ins (C dx:Addr) (fs:List (Str×V))
 /-- the dict of the instance at x -/
 | own (x:Addr)
 /-- the dict of an exception -/
 | xd (fs:List (Str×V))
 /-- a bound method,f of x -/
 | met (f x:Addr)
 /-- a range object lo,lo+1,.. below hi -/
 | rng (lo hi:Int)
 /-- a thing that is known to the object (the script;a dict while a loop walks it): read,never written while it is so -/
 | frz (o:Obj) (u:HO)
 /-- a code object's table -/
 | tbl (ps:Array Value)
 /-- any other thing,by what is true of its one object (a def of one's own: SetO a S n:=HO.ext fun h=>..) -/
 | ext (φ:Heap->Prop)
abbrev Hp:=Addr->Option HO
def upd (H:Hp)(a:Addr)(o:HO):Hp:=fun b=>if b=a then some o else H b
theorem aB {H:Hp}{a:Addr}{o:HO}:upd H a o a=some o:=by unfold upd;rw[if_pos rfl]
theorem aH {H:Hp}{a b:Addr}{o:HO}(h:b≠a):upd H a o b=H b:=by unfold upd;rw[if_neg h]
theorem aF {H:Hp}{a b:Addr}{o:HO}(h:H a=some o)(h':H b=none):a≠b:=by
 intro e;subst e;rw[h] at h';cases h'
section
variable (P:Program)(w:World)
def cO (H:Hp)(h:Heap)(a:Addr):HO->Prop
 | .lst xs=>xs.length<=sizeLine/\∃(its:List Value)(n:Nat),Vals xs its/\h.get? a=some { cls:=.type "list",data:=.seq its.toArray n }
 | .tup xs=>xs.length<=sizeLine/\∃its:List Value,Vals xs its/\IsTup h a its.toArray
 | .dK kvs=>kvs.length<=sizeLine/\(a == sysModules)=false/\∃vs,KV kvs vs/\h.DictOf (cG P w) a vs
 | .dT kvs=>kvs.length<=sizeLine/\(a == sysModules)=false/\∃xs:List (List Key×Addr×Value),
   Paired (fun(p:List Key×V)(q:List Key×Addr×Value)=>p.1=q.1/\H q.2.1=some (.tup (p.1.map kV))/\RelV p.2 q.2.2) kvs xs /\
   ∃o es ep,h.get? a=some o/\o.ExactDict/\o.data=.dict es ep/\es.toList=xs.map (entryOfKey (tupleKind (cG P w)))/\(xs.map (·.1)).Nodup
 | .set S n=>h.SetOf (intKind P w) a S n
 | .ins C dx fs=>H dx=some (.own a)/\fs.length<=1000/\dx≠a/\h.get? a=some (PySem.W.instObj C dx) /\
   ∃mA,h.Ns1 dx mA/\(∀f,J8 (fs.lookup f) (mA f))/\PySem.Within mA (fs.map (·.1))
 | .own _=>∃o,h.get? a=some o
 | .xd fs=>∃mA,h.Ns1 a mA/\∀f,J8 (fs.lookup f) (mA f)
 | .rng lo hi=>∃t u v,h.get? a=some { cls:=.type "range",data:=.fields #[.int lo t,.int hi u,.int 1 v] }
 | .frz o u=>h.get? a=some o/\cO H h a u
 | .tbl ps=>h.get? a=some { cls:=.none,data:=.fields ps }
 | .met f x=>h.get? a=some (PySem.W.methodObj (.ref f) (.ref x))
 | .ext φ=>φ h/\(∃o,h.get? a=some o)/\∀h1 h2:Heap,φ h1->(∀o,h1.get? a=some o->h2.get? a=some o)->φ h2
def HOk (H:Hp)(h:Heap):Prop:=∀a o,H a=some o->cO P w H h a o
end
section
variable {P:Program}{w:World}{H H':Hp}{h h':Heap}{a:Addr}{o:HO}
theorem cO.lt (x:cO P w H h a o):a<h.objs.size:=by
 cases o with
 | lst xs=>obtain⟨_,_,_,_,e⟩:=x;exact lt_size e
 | tup xs=>obtain⟨_,_,_,p⟩:=x;exact p.lt
 | dK kvs=>obtain⟨_,_,_,_,o,_,_,e,_⟩:=x;exact lt_size e
 | dT kvs=>obtain⟨_,_,_,_,o,_,_,e,_⟩:=x;exact lt_size e
 | set S n=>obtain⟨o,_,_,_,e,_⟩:=x;exact lt_size e
 | ins C dx fs=>obtain⟨_,_,_,e,_⟩:=x;exact lt_size e
 | own y=>obtain⟨_,e⟩:=x;exact lt_size e
 | xd fs=>obtain⟨_,⟨_,_,_,e,_⟩,_⟩:=x;exact lt_size e
 | rng lo hi=>obtain⟨_,_,_,e⟩:=x;exact lt_size e
 | frz ob u=>obtain⟨e,_⟩:=x;exact lt_size e
 | tbl ps=>exact lt_size (show h.get? a=some _ from x)
 | met f y=>exact lt_size (show h.get? a=some _ from x)
 | ext φ=>obtain⟨_,⟨_,e⟩,_⟩:=x;exact lt_size e
theorem Paired.ack {α β:Type}{F G:α->β->Prop}:∀{l₁:List α}{l₂:List β},Paired F l₁ l₂->(∀a b,F a b->G a b)->Paired G l₁ l₂
 | _,_,.nil,_=>.nil
 | _,_,.cons r t,f=>.cons (f _ _ r) (Paired.ack t f)
theorem cO.stay (x:cO P w H h a o)(k:∀b u,(b=a\/H b=some (.own a))->h.get? b=some u->h'.get? b=some u)
  (ho:∀b,H b=some (.own a)->H' b=some (.own a)) (ht:∀b xs,H b=some (.tup xs)->H' b=some (.tup xs)):cO P w H' h' a o:=by
 induction o with
 | lst xs=>obtain⟨z,its,n,r,e⟩:=x;exact⟨z,its,n,r,k _ _ (.inl rfl) e⟩
 | tup xs=>obtain⟨z,its,r,ob,e,c⟩:=x;exact⟨z,its,r,ob,k _ _ (.inl rfl) e,c⟩
 | dK kvs=>obtain⟨z,y,vs,r,ob,es,ep,e,c⟩:=x;exact⟨z,y,vs,r,ob,es,ep,k _ _ (.inl rfl) e,c⟩
 | dT kvs=>
  obtain⟨z,y,xs,r,ob,es,ep,e,c⟩:=x;exact⟨z,y,xs,Paired.ack r fun p q z=>⟨z.1,ht _ _ z.2.1,z.2.2⟩,ob,es,ep,k _ _ (.inl rfl) e,c⟩
 | set S n=>obtain⟨ob,es,ep,t,e,c⟩:=x;exact⟨ob,es,ep,t,k _ _ (.inl rfl) e,c⟩
 | ins C dx fs=>
  obtain⟨d,z,ne,e,mA,⟨od,es,ep,e2,c⟩,r⟩:=x;exact⟨ho _ d,z,ne,k _ _ (.inl rfl) e,mA,⟨od,es,ep,k _ _ (.inr d) e2,c⟩,r⟩
 | own y=>obtain⟨ob,e⟩:=x;exact⟨ob,k _ _ (.inl rfl) e⟩
 | xd fs=>obtain⟨mA,⟨od,es,ep,e,c⟩,r⟩:=x;exact⟨mA,⟨od,es,ep,k _ _ (.inl rfl) e,c⟩,r⟩
 | rng lo hi=>obtain⟨t,u,v,e⟩:=x;exact⟨t,u,v,k _ _ (.inl rfl) e⟩
 | frz ob u ih=>obtain⟨e,q⟩:=x;exact⟨k _ _ (.inl rfl) e,ih q⟩
 | tbl ps=>
  have e:h.get? a=some { cls:=.none,data:=.fields ps }:=x;show h'.get? a=some { cls:=.none,data:=.fields ps };exact k a _ (.inl rfl) e
 | met f y=>
  have e:h.get? a=some (PySem.W.methodObj (.ref f) (.ref y)):=x;show h'.get? a=some (PySem.W.methodObj (.ref f) (.ref y));exact k a _ (.inl rfl) e
 | ext φ=>obtain⟨p,⟨o,e⟩,st⟩:=x;exact⟨st _ _ p fun o q=>k _ _ (.inl rfl) q,⟨o,k _ _ (.inl rfl) e⟩,st⟩
theorem HOk.lt (x:HOk P w H h)(e:H a=some o):a<h.objs.size:=(x a o e).lt
theorem HOk.fresh (x:HOk P w H h)(e:h.objs.size<=a):H a=none:=by
 cases q:H a with
 | none=>rfl
 | some u=>exact absurd (Nat.lt_of_lt_of_le (x.lt q) e) (Nat.lt_irrefl _)
theorem HOk.kept (x:HOk P w H h)(k:∀b u,h.get? b=some u->h'.get? b=some u):HOk P w H h':=fun a o e=>
 (x a o e).stay (fun b u _ q=>k b u q) (fun _ q=>q) fun _ _ q=>q
theorem HOk.laid (x:HOk P w H h)(k:∀b u,h.get? b=some u->h'.get? b=some u)(hp:h.objs.size<=a)(new:cO P w (upd H a o) h' a o):HOk P w (upd H a o) h':=fun b u e=>by
 have hn:=x.fresh hp;by_cases hb:b=a
 ·subst hb;rw[aB] at e;cases e;exact new
 ·rw[aH hb] at e;exact(x b u e).stay (fun c v _ q=>k c v q) (fun c q=>by rw[aH (aF q hn)];exact q) fun c xs q=>by rw[aH (aF q hn)];exact q
end
def Rd (H:Hp)(a:Addr)(u:HO):Prop:=H a=some u\/∃o,H a=some (.frz o u)
theorem Rd.ok {P:Program}{w:World}{H:Hp}{h:Heap}{a:Addr}{u:HO}(r:Rd H a u)(x:HOk P w H h):cO P w H h a u:=by
 rcases r with r|⟨o,r⟩
 ·exact x a u r
 ·obtain⟨_,q⟩:=x a _ r;exact q
def Mut:Option HO->Prop
 | some (.lst _)=>True
 | some (.dK _)=>True
 | some (.dT _)=>True
 | some (.set _ _)=>True
 | some (.ins _ _ _)=>True
 | some (.ext _)=>True
 | _=>False
section
variable {P:Program}{w:World}{H:Hp}{h h':Heap}{x e:Addr}{o':HO}
theorem HOk.write (ok:HOk P w H h)(mu:Mut (H x))(he:e=x\/H e=some (.own x))(k:∀b u,b≠e->h.get? b=some u->h'.get? b=some u)(heo:∃u,h'.get? e=some u)
  (new:cO P w (upd H x o') h' x o'):HOk P w (upd H x o') h':=fun b u q=>by
 have nown:∀c y,H c=some (.own y)->c≠x:=fun c y r z=>by subst z;rw[r] at mu;exact mu
 have ntup:∀c xs,H c=some (.tup xs)->c≠x:=fun c xs r z=>by subst z;rw[r] at mu;exact mu
 by_cases hb:b=x
 ·subst hb;rw[aB] at q;cases q;exact new
 ·rw[aH hb] at q;by_cases hbe:b=e
  ·have q':H b=some (.own x):=by
    rcases he with z|z
    ·exact absurd (hbe.trans z) hb
    ·rw[hbe];exact z
   rw[q] at q';cases q';obtain⟨v,hv⟩:=heo;exact⟨v,by rw[hbe];exact hv⟩
  ·refine(ok b u q).stay (fun c v hc r=>k c v ?_ r) (fun c r=>by rw[aH (nown c b r)];exact r) fun c xs r=>by rw[aH (ntup c xs r)];exact r
   rcases hc with rfl|hc
   ·exact hbe
   ·rintro rfl;rcases he with z|z
    ·exact nown c b hc z
    ·rw[hc] at z;cases z;exact hb rfl
end
structure Un (fs ex:List Addr)(H H':Hp)(h h':Heap):Prop where
 keep:∀b o,h.get? b=some o->H b=none->b∉fs->b∉ex->h'.get? b=some o
 slot:∀b o,h.get? b=some o->H b=none->b∈fs->b∉ex->∃sl,h'.get? b=some { o with slots:=sl }
 free:∀b o,h.get? b=some o->H b=none->b∉ex->H' b=none
 there:∀b o,h.get? b=some o->b∉ex->∃o',h'.get? b=some o'
 tups:∀b xs,H b=some (.tup xs)->H' b=some (.tup xs)
 frzs:∀b o u,H b=some (.frz o u)->H' b=some (.frz o u)
 tbls:∀b ps,H b=some (.tbl ps)->∃more,H' b=some (.tbl (ps++more))
section
variable {fs fs' ex ex':List Addr}{H H1 H2:Hp}{h h1 h2 h':Heap}{a x e:Addr}{o:HO}
theorem Un.any (u:Un fs ex H H1 h h1){b:Addr}{ob:Obj}(q:h.get? b=some ob)(n:H b=none)(hx:b∉ex):∃sl,h1.get? b=some { ob with slots:=sl }:=by
 by_cases hb:b∈fs
 ·exact u.slot b ob q n hb hx
 ·exact⟨ob.slots,u.keep b ob q n hb hx⟩
theorem Un.kept (k:∀b u,h.get? b=some u->h'.get? b=some u):Un fs ex H H h h':=
 ⟨fun b ob q _ _ _=>k b ob q,fun b ob q _ _ _=>⟨ob.slots,k b ob q⟩,fun _ _ _ n _=>n,fun b ob q _=>⟨ob,k b ob q⟩,fun _ _ q=>q,fun _ _ _ q=>q,fun _ ps q=>⟨#[],by rw[q];simp⟩⟩
theorem Un.refl:Un fs ex H H h h:=Un.kept fun _ _ q=>q
theorem Un.laid (k:∀b u,h.get? b=some u->h'.get? b=some u)(hp:h.objs.size<=a)(hn:H a=none):Un fs ex H (upd H a o) h h' where
 keep:=fun b u q _ _ _=>k b u q
 slot:=fun b u q _ _ _=>⟨u.slots,k b u q⟩
 free:=fun b u q n _=>by rw[aH (Nat.ne_of_lt (Nat.lt_of_lt_of_le (lt_size q) hp))];exact n
 there:=fun b u q _=>⟨u,k b u q⟩
 tups:=fun b xs q=>by rw[aH (aF q hn)];exact q
 frzs:=fun b u xs q=>by rw[aH (aF q hn)];exact q
 tbls:=fun b ps q=>⟨#[],by rw[aH (aF q hn),q];simp⟩
theorem Un.write (mu:Mut (H x))(he:e=x\/H e=some (.own x))(k:∀b u,b≠e->h.get? b=some u->h'.get? b=some u)(heo:∃u,h'.get? e=some u):Un fs ex H (upd H x o) h h':=by
 have hx:∀b,H b=none->b≠x:=fun b n z=>by subst z;rw[n] at mu;exact mu
 have hb:∀b,H b=none->b≠e:=fun b n z=>by
  subst z;rcases he with r|r
  ·exact hx b n r
  ·rw[n] at r;cases r
 have hm:∀b u,H b=some u->¬Mut (some u)->b≠x:=fun b u q nm z=>by subst z;rw[q] at mu;exact nm mu
 refine⟨fun b u q n _ _=>k b u (hb b n) q,fun b u q n _ _=>⟨u.slots,k b u (hb b n) q⟩,fun b u q n _=>by rw[aH (hx b n)];exact n,fun b u q _=>?_,
  fun b xs q=>by rw[aH (hm b _ q fun z=>z)];exact q,fun b u xs q=>by rw[aH (hm b _ q fun z=>z)];exact q,fun b ps q=>⟨#[],by rw[aH (hm b _ q fun z=>z),q];simp⟩⟩
 by_cases hbe:b=e
 ·subst hbe;exact heo
 ·exact⟨u,k b u hbe q⟩
end
def trk (h:Heap)(H:Hp):List Addr:=(List.range h.objs.size).filter fun a=>(H a).isSome
def Eb (h:Heap)(H:Hp):Heap:=PySem.W.hideAll h (trk h H)
theorem Oc (h:Heap)(H:Hp):(Eb h H).objs.size=h.objs.size:=PySem.W.hideAll_size _ _
theorem Um {h:Heap}{H:Hp}{b:Addr}{o:Obj}(e:h.get? b=some o)(n:H b=none):(Eb h H).get? b=some o:=
 PySem.W.hideAll_get _ e fun hm=>by
  have q:(H b).isSome=true:=(mem_filter.mp hm).2;rw[n] at q;simp at q
theorem XH {h:Heap}{H:Hp}{b:Addr}{o:Obj}(e:(Eb h H).get? b=some o):h.get? b=some o/\H b=none:=by
 have e':h.get? b=some o:=PySem.W.of_hideAll (trk h H) e;refine⟨e',?_⟩;cases q:H b with
 | none=>rfl
 | some x=>
  have hm:b∈trk h H:=mem_filter.mpr ⟨mem_range.mpr (lt_size e'),by simp [q]⟩;have z:(Eb h H).get? b=none:=PySem.W.hideAll_none (trk h H) hm;rw[z] at e;cases e
structure Mod (K:PySem.W.Frag)(mg:Str->Option Value)(base:Heap):Prop where
 kin:K.In base
 glob:base.Ns mainGlobals mg
 blt:∃mb,base.Ns builtinsNs mb/\∀x:Str,x ≠ "__name__" -> mb x=bootBuiltins x
 nolimit:base.NoLimit
structure Cx where
 prog:Program
 w:World
 K:PySem.W.Frag
 mg:Str->Option Value
 base:Heap
 A:Around
 N:List Str
 s₀:Shared
 H₀:Hp
 env:Env
 outer:List Env
 stack:List Env
 ex:List Addr
 fn:Str->Bool
 calm:Bool
 pn:List (Addr×Obj)
 xe:Value->Shared->Prop
def frs (l:List Env):List Addr:=l.filterMap (·.frame)
abbrev Cx.fs (X:Cx):List Addr:=frs X.outer
def Vis (sc:Scope)(x:Str):Prop:=sc.names.lookup x=some .local\/sc.names.lookup x=some .cell\/sc.names.lookup x=some .free
def Loc (sc:Scope)(x:Str):Prop:=sc.names.lookup x=some .local\/sc.names.lookup x=some .cell
def Look (env:Env)(h:Heap)(m:Str->Option Value)(x:Str)(u:Value):Prop:=
 (env.kindOf x=some .local/\m x=some u)\/((env.kindOf x=some .cell\/env.kindOf x=some .free)/\∃c,env.cells.lookup x=some c/\h.IsCell c (some u))
structure Cx.Ok (X:Cx):Prop where
 mod:Mod X.K X.mg X.base
 kind:X.env.scope.kind=.function
 glob:X.env.globals=mainGlobals
 blt:X.env.builtins=builtinsNs
 above:X.s₀.heap.objs.size<=X.env.locals
 inj:∀x y c,X.env.cells.lookup x=some c->X.env.cells.lookup y=some c->x=y
 has:∀x,(X.env.kindOf x=some .cell\/X.env.kindOf x=some .free)->∃c,X.env.cells.lookup x=some c
 cab:∀x c,X.fn x=true->X.env.cells.lookup x=some c->X.s₀.heap.objs.size<=c
 hd:X.calm=true->X.A.handled=none
 frames:X.A.frames=some X.stack
 stk:X.stack=X.outer\/(X.stack=X.env::X.outer/\X.env.frame=some X.env.locals)
 exf:∀b∈X.ex,b≠X.env.locals/\∀x c,X.env.cells.lookup x=some c->c≠b
 bs:∀b o,X.base.get? b=some o->X.s₀.heap.get? b=some o/\X.H₀ b=none
 bsz:X.base.objs.size<=X.s₀.heap.objs.size
 noex:∀b o,X.base.get? b=some o->b∉X.ex
 exfs:∀b∈X.ex,b∉X.fs
 xq:X.s₀.heap.FunFrames X.base X.outer
 frf:∀b∈X.fs,X.H₀ b=none
structure Inv (X:Cx)(pins:List (Addr×Obj))(σ:List (Option V))(H:Hp)(s:Shared):Prop where
 ok:X.Ok
 os:s.os=X.s₀.os
 bare:AllBare s.gens
 base:Un X.fs X.ex X.H₀ H X.s₀.heap s.heap
 loc:∃m,s.heap.Ns X.env.locals m/\∀(i:Nat)(x:Str)(v:V),X.N[i]?=some x->σ[i]?=some (some v)->Vis X.env.scope x->∃u,RelV v u/\Look X.env s.heap m x u
 cell:∀x c,X.env.cells.lookup x=some c->∃v,s.heap.IsCell c v
 free:H X.env.locals=none
 freeC:∀x c,X.env.cells.lookup x=some c->H c=none
 pin:∀p∈X.pn++pins,s.heap.get? p.1=some p.2/\H p.1=none/\p.1≠X.env.locals/\p.1∉X.fs/\∀v,p.2.data≠.cell v
 hok:HOk X.prog X.w H s.heap
 len:σ.length=X.N.length
section
variable {X:Cx}{pins:List (Addr×Obj)}{σ:List (Option V)}{H H':Hp}{s:Shared}{h':Heap}
theorem Cx.Ok.acO (ok:X.Ok){b:Addr}{o:Obj}(e:X.base.get? b=some o):b∉X.fs:=fun hb=>by
 have:=(ok.xq.mem hb).1;rw[e] at this;cases this
theorem Inv.bs (I:Inv X pins σ H s):∀b o,X.base.get? b=some o->s.heap.get? b=some o/\H b=none:=fun b o e=>
 ⟨I.base.keep b o (I.ok.bs b o e).1 (I.ok.bs b o e).2 (I.ok.acO e) (I.ok.noex b o e),I.base.free b o (I.ok.bs b o e).1 (I.ok.bs b o e).2 (I.ok.noex b o e)⟩
theorem Inv.bk (I:Inv X pins σ H s):∀b o,X.base.get? b=some o->s.heap.get? b=some o:=fun b o e=>(I.bs b o e).1
theorem Inv.mod (I:Inv X pins σ H s):Mod X.K X.mg X.base:=I.ok.mod
theorem Inv.kIn (I:Inv X pins σ H s):X.K.In s.heap:=I.ok.mod.kin.keeps I.bk
theorem Inv.lt (I:Inv X pins σ H s):X.env.locals<s.heap.objs.size:=let ⟨_,hn,_⟩:=I.loc;hn.lt
theorem Inv.sz (I:Inv X pins σ H s):X.s₀.heap.objs.size<=s.heap.objs.size:=Nat.le_trans I.ok.above (Nat.le_of_lt I.lt)
theorem Inv.XJ (I:Inv X pins σ H s){a:Addr}(h:s.heap.objs.size<=a):a∉X.fs:=fun hb=>by
 obtain⟨_,o,ho,_⟩:=I.ok.xq.mem hb;exact absurd (Nat.lt_of_lt_of_le (lt_size ho) (Nat.le_trans I.sz h)) (Nat.lt_irrefl _)
theorem Inv.cne (I:Inv X pins σ H s):∀x c,X.env.cells.lookup x=some c->c≠X.env.locals:=fun x c e z=>by
 obtain⟨v,o,ho,hd⟩:=I.cell x c e;obtain⟨m,⟨o',es,ep,ho',hd',_⟩,_⟩:=I.loc;rw[z,ho'] at ho;cases ho;rw[hd'] at hd;cases hd
theorem Inv.xq (I:Inv X pins σ H s):s.heap.FunFrames X.base X.outer:=by
 have all:∀(l:List Env),(∀b∈frs l,b∈X.fs)->X.s₀.heap.FunFrames X.base l->s.heap.FunFrames X.base l:=by
  intro l
  induction l with
  | nil=>intro _ _;trivial
  | cons env r ih=>
   intro hs hl;obtain⟨hk,⟨L,o,hf,hn,ho,hd⟩,hr⟩:=hl;have hL:L∈X.fs:=hs L (by unfold frs;rw[List.filterMap_cons,hf];exact mem_cons_self);obtain⟨sl,e⟩:=I.base.slot L o ho (I.ok.frf L hL) hL fun z=>I.ok.exfs L z hL;exact⟨hk,⟨L,_,hf,hn,e,hd⟩,ih (fun b hb=>hs b (by unfold frs;rw[List.filterMap_cons,hf];exact mem_cons_of_mem _ hb)) hr⟩
 exact all X.outer (fun _ hb=>hb) I.ok.xq
theorem Inv.stack (I:Inv X pins σ H s):s.heap.FunFrames X.base X.stack:=by
 rcases I.ok.stk with e|⟨e,hf⟩
 ·rw[e];exact I.xq
 ·rw[e];obtain⟨m,hn,_⟩:=I.loc;refine .cons (by rw[I.ok.kind];decide) hf hn ?_ I.xq;exact Heap.get?_none_of_le (Nat.le_trans I.ok.bsz I.ok.above)
theorem Inv.vA (I:Inv X pins σ H s):∀b∈frs X.stack,b∈X.env.locals::X.fs:=fun b hb=>by
 rcases I.ok.stk with e|⟨e,hf⟩
 ·rw[e] at hb;exact mem_cons_of_mem _ hb
 ·rw[e] at hb;unfold frs at hb;rw[List.filterMap_cons,hf] at hb;exact hb
theorem Inv.Kg (I:Inv X pins σ H s):∀b∈frs X.stack,H b=none:=fun b hb=>by
 rcases mem_cons.mp (I.vA b hb) with e|hb
 ·rw[e];exact I.free
 ·obtain⟨_,o,ho,_⟩:=I.ok.xq.mem hb;exact I.base.free b o ho (I.ok.frf b hb) fun z=>I.ok.exfs b z hb
theorem Inv.step {g':Array GenState}{t':Nat}{d':Drawn}{ch:List Addr}(I:Inv X pins σ H s)
  (hch:∀b∈ch,(b∈X.ex\/X.s₀.heap.objs.size<=b)/\b≠X.env.locals/\(∀x c,X.env.cells.lookup x=some c->c≠b)/\∀p∈X.pn++pins,p.1≠b)
  (keep:∀b o,b≠X.env.locals->b∉X.fs->b∉ch->s.heap.get? b=some o->H b=none->h'.get? b=some o)
  (slot:∀b o,b≠X.env.locals->b∈X.fs->b∉ch->s.heap.get? b=some o->H b=none->∃sl,h'.get? b=some { o with slots:=sl }) (free:∀b o,b∉ch->s.heap.get? b=some o->H b=none->H' b=none)
  (there:∀b o,b∉ch->s.heap.get? b=some o->∃o',h'.get? b=some o')
  (tups:∀b xs,H b=some (.tup xs)->H' b=some (.tup xs)) (frzs:∀b o u,H b=some (.frz o u)->H' b=some (.frz o u)) (tbls:∀b ps,H b=some (.tbl ps)->∃more,H' b=some (.tbl (ps++more)))
  (ns:∀m,s.heap.Ns X.env.locals m->h'.Ns X.env.locals m) (hok:HOk X.prog X.w H' h') (hg:AllBare g') :
  Inv X pins σ H' { s with heap:=h',gens:=g',drawn:=d',toks:=t' }:=by
 have neL:∀b o,X.s₀.heap.get? b=some o->b≠X.env.locals:=fun b o e=>Nat.ne_of_lt (Nat.lt_of_lt_of_le (lt_size e) I.ok.above);have neC:∀b o,X.s₀.heap.get? b=some o->b∉X.ex->b∉ch:=fun b o e hx hb=>by
  rcases(hch b hb).1 with z|z
  ·exact hx z
  ·exact absurd (Nat.lt_of_lt_of_le (lt_size e) z) (Nat.lt_irrefl _)
 have cellK:∀x c,X.env.cells.lookup x=some c->∀v,s.heap.IsCell c v->h'.IsCell c v:=fun x c e v ⟨o,ho,hd⟩=>by
  have nch:c∉ch:=fun z=>(hch c z).2.2.1 x c e rfl;by_cases hc:c∈X.fs
  ·obtain⟨sl,q⟩:=slot c o (I.cne x c e) hc nch ho (I.freeC x c e);exact⟨_,q,hd⟩
  ·exact⟨o,keep c o (I.cne x c e) hc nch ho (I.freeC x c e),hd⟩
 refine⟨I.ok,I.os,hg,⟨fun b o e n hb hx=>?_,fun b o e n hb hx=>?_,fun b o e n hx=>?_,fun b o e hx=>?_,fun b xs e=>tups b xs (I.base.tups b xs e),fun b o xs e=>frzs b o xs (I.base.frzs b o xs e),fun b ps e=>?_⟩,?_,fun x c e=>?_,?_,fun x c e=>?_,fun p hp=>?_,hok,I.len⟩
 ·exact keep b o (neL b o e) hb (neC b o e hx) (I.base.keep b o e n hb hx) (I.base.free b o e n hx)
 ·obtain⟨sl,e1⟩:=I.base.slot b o e n hb hx;obtain⟨sl',e2⟩:=slot b _ (neL b o e) hb (neC b o e hx) e1 (I.base.free b o e n hx);exact⟨sl',e2⟩
 ·obtain⟨o',e1⟩:=I.base.there b o e hx;exact free b o' (neC b o e hx) e1 (I.base.free b o e n hx)
 ·obtain⟨o',e1⟩:=I.base.there b o e hx;exact there b o' (neC b o e hx) e1
 ·obtain⟨m1,e1⟩:=I.base.tbls b ps e;obtain⟨m2,e2⟩:=tbls b _ e1;exact⟨m1++m2,by rw[e2,Array.append_assoc]⟩
 ·obtain⟨m,hn,hl⟩:=I.loc;refine⟨m,ns m hn,fun i x v e1 e2 e3=>?_⟩;obtain⟨u,r,l⟩:=hl i x v e1 e2 e3;refine⟨u,r,?_⟩;rcases l with l|⟨k,c,e,z⟩
  ·exact .inl l
  ·exact .inr ⟨k,c,e,cellK x c e _ z⟩
 ·obtain⟨v,z⟩:=I.cell x c e;exact⟨v,cellK x c e v z⟩
 ·obtain⟨m,⟨o,_,_,ho,_⟩,_⟩:=I.loc;exact free _ o (fun z=>(hch _ z).2.1 rfl) ho I.free
 ·obtain⟨v,o,ho,hd⟩:=I.cell x c e;exact free c o (fun z=>(hch c z).2.2.1 x c e rfl) ho (I.freeC x c e)
 ·obtain⟨e,n,ne,nf,d⟩:=I.pin p hp;have nch:p.1∉ch:=fun z=>(hch p.1 z).2.2.2 p hp rfl;exact⟨keep p.1 p.2 ne nf nch e n,free p.1 p.2 nch e n,ne,nf,d⟩
theorem Inv.un {t':Nat}(I:Inv X pins σ H s)(u:Un X.fs [] H H' s.heap h')(hok:HOk X.prog X.w H' h'):Inv X pins σ H' { s with heap:=h',toks:=t' }:=by
 obtain⟨m,⟨o,es,ep,ho,r⟩,_⟩:=id I.loc;obtain⟨sl,hL⟩:=u.any ho I.free (by simp);exact I.step (g':=s.gens) (d':=s.drawn) (ch:=[]) (fun _ z=>nomatch z) (fun b o _ hb _ e n=>u.keep b o e n hb (by simp)) (fun b o _ hb _ e n=>u.slot b o e n hb (by simp)) (fun b o _ e n=>u.free b o e n (by simp)) (fun b o _ e=>u.there b o e (by simp)) u.tups u.frzs u.tbls (fun m' hm=>by
  obtain⟨o',es',ep',ho',r'⟩:=hm;rw[ho] at ho';cases ho';exact⟨_,es',ep',hL,r'⟩) hok I.bare
theorem Inv.call {g':Array GenState}{t':Nat}{d':Drawn}{ch:List Addr}(I:Inv X pins σ H s)(u:Un (frs X.stack) ch H H' s.heap h')(hok:HOk X.prog X.w H' h')(hg:AllBare g')
  (hch:∀b∈ch,(b∈X.ex\/X.s₀.heap.objs.size<=b)/\b≠X.env.locals/\(∀x c,X.env.cells.lookup x=some c->c≠b)/\∀p∈X.pn++pins,p.1≠b) :
  Inv X pins σ H' { s with heap:=h',gens:=g',drawn:=d',toks:=t' }:=by
 obtain⟨m,⟨o,es,ep,ho,r⟩,_⟩:=id I.loc;obtain⟨sl,hL⟩:=u.any ho I.free fun z=>(hch _ z).2.1 rfl;exact I.step (ch:=ch) hch (fun b o hL hb hc e n=>u.keep b o e n (fun z=>(mem_cons.mp (I.vA b z)).elim hL hb) hc) (fun b o _ _ hc e n=>u.any e n hc) (fun b o hc e n=>u.free b o e n hc) (fun b o hc e=>u.there b o e hc) u.tups u.frzs u.tbls (fun m' hm=>by
  obtain⟨o',es',ep',ho',r'⟩:=hm;rw[ho] at ho';cases ho';exact⟨_,es',ep',hL,r'⟩) hok hg
theorem Inv.turned {t':Nat}{it:Addr}(I:Inv X pins σ H s)(k:∀b o,b≠it->s.heap.get? b=some o->h'.get? b=some o)(hn:H it=none)(hL:it≠X.env.locals)
  (h1:it∈X.ex\/X.s₀.heap.objs.size<=it) (h2:∀x c,X.env.cells.lookup x=some c->c≠it) (h3:∀p∈X.pn++pins,p.1≠it):Inv X pins σ H { s with heap:=h',toks:=t' }:=by
 have nit:∀b u,H b=some u->b≠it:=fun b u e z=>by rw[z,hn] at e;cases e
 refine I.step (g':=s.gens) (d':=s.drawn) (ch:=[it]) (fun b hb=>?_) (fun b o _ _ hc e _=>k b o (fun z=>hc (by simp [z])) e) (fun b o _ _ hc e _=>⟨o.slots,k b o (fun z=>hc (by simp [z])) e⟩) (fun _ _ _ _ n=>n)
  (fun b o hc e=>⟨o,k b o (fun z=>hc (by simp [z])) e⟩) (fun _ _ e=>e) (fun _ _ _ e=>e) (fun b ps e=>⟨#[],by rw[e];simp⟩) (fun m hm=>?_) (fun b u e=>?_) I.bare
 ·have e:b=it:=by simpa using hb
  subst e;exact⟨h1,hL,h2,h3⟩
 ·obtain⟨o,es,ep,ho,r⟩:=hm;exact⟨o,es,ep,k _ o (Ne.symm hL) ho,r⟩
 ·refine(I.hok b u e).stay (fun c v hc q=>k c v ?_ q) (fun _ q=>q) fun _ _ q=>q;rcases hc with z|z
  ·rw[z];exact nit b u e
  ·exact nit c _ z
theorem Inv.tok (I:Inv X pins σ H s)(t:Nat):Inv X pins σ H { s with toks:=t }:=I.un (h':=s.heap) (t':=t) Un.refl I.hok
theorem Inv.kept {t':Nat}(I:Inv X pins σ H s)(k:∀b u,s.heap.get? b=some u->h'.get? b=some u):Inv X pins σ H { s with heap:=h',toks:=t' }:=I.un (Un.kept k) (I.hok.kept k)
theorem Inv.laid {a:Addr}{o:HO}{t':Nat}(I:Inv X pins σ H s)(k:∀b u,s.heap.get? b=some u->h'.get? b=some u)(hp:s.heap.objs.size<=a)(new:cO X.prog X.w (upd H a o) h' a o) :
  Inv X pins σ (upd H a o) { s with heap:=h',toks:=t' }:=I.un (Un.laid k hp (I.hok.fresh hp)) (I.hok.laid k hp new)
theorem Inv.write {x e:Addr}{o:HO}{t':Nat}(I:Inv X pins σ H s)(mu:Mut (H x))(he:e=x\/H e=some (.own x))(k:∀b u,b≠e->s.heap.get? b=some u->h'.get? b=some u)(heo:∃u,h'.get? e=some u)
  (new:cO X.prog X.w (upd H x o) h' x o):Inv X pins σ (upd H x o) { s with heap:=h',toks:=t' }:=I.un (Un.write mu he k heo) (I.hok.write mu he k heo new)
theorem Inv.lV {pins':List (Addr×Obj)}(I:Inv X pins σ H s)(h:∀p∈pins',s.heap.get? p.1=some p.2/\H p.1=none/\p.1≠X.env.locals/\p.1∉X.fs/\∀v,p.2.data≠.cell v):Inv X pins' σ H s:=
 ⟨I.ok,I.os,I.bare,I.base,I.loc,I.cell,I.free,I.freeC,fun p hp=>(mem_append.mp hp).elim (fun z=>I.pin p (mem_append_left _ z)) (h p),I.hok,I.len⟩
theorem Gm {N:List Str}(hN:N.Nodup){i j:Nat}{x:Str}(a:N[i]?=some x)(b:N[j]?=some x):i=j:=by
 obtain⟨h1,e1⟩:=List.getElem?_eq_some_iff.mp a;obtain⟨h2,e2⟩:=List.getElem?_eq_some_iff.mp b;exact(List.getElem_inj hN).mp (e1.trans e2.symm)
theorem Bq {M:Model}{A:Around}{E:Value->Shared->Prop}{i:Nat}{x:Str}{v:V}{u:Value}{Q:Unit->Shared->Prop}(I:Inv X pins σ H s)(hN:X.N.Nodup)(hi:X.N[i]?=some x)(hx:Loc X.env.scope x)(r:RelV v u)
  (h:∀s',Inv X pins (σ.set i (some v)) H s'->(∃a,Heap.SameBut a s.heap s'.heap/\(a=X.env.locals\/X.env.cells.lookup x=some a))->Q () s') (hf:X.fn x=true\/X.env.scope.names.lookup x=some .local:=by first|exact .inl rfl|exact .inr rfl|assumption):wpAny M A (storeName X.env x u) Q E s:=by
 obtain⟨m,hn,hl⟩:=id I.loc;have hcls:(X.env.scope.kind == .class||(X.env.scope.kind == .module&&X.env.locals != X.env.globals))=false:=by rw[I.ok.kind];rfl
 have hiσ:i<σ.length:=by rw[I.len];exact(List.getElem?_eq_some_iff.mp hi).1
 have cne:=I.cne;have tracked:∀{a:Addr}{h':Heap},(∃o,s.heap.get? a=some o/\H a=none)->Heap.SameBut a s.heap h'->HOk X.prog X.w H h':=fun {a h'} ha hs b ob e=>by
  obtain⟨_,_,hfree⟩:=ha;refine(I.hok b ob e).stay (fun c w' hc q=>(hs.2 c ?_).trans q) (fun _ q=>q) fun _ _ q=>q;rintro rfl;rcases hc with rfl|hc
  ·rw[hfree] at e;cases e
  ·rw[hfree] at hc;cases hc
 rcases hx with hk|hk
 ·refine wpAny_storeName_local hk hn (fun h' hn' hs=>?_) hcls;obtain⟨oL,_,_,hoL,_⟩:=id hn;refine h _ ⟨I.ok,I.os,I.bare,⟨fun b o e n hb hx=>?_,fun b o e n hb hx=>?_,I.base.free,fun b o e hx=>?_,I.base.tups,I.base.frzs,I.base.tbls⟩,⟨_,hn',fun j y v' e1 e2 e3=>?_⟩,fun y c e=>?_,I.free,I.freeC,fun p hp=>?_,tracked ⟨oL,hoL,I.free⟩ hs,by simpa using I.len⟩ ⟨_,hs,.inl rfl⟩
  ·exact(hs.2 b (Nat.ne_of_lt (Nat.lt_of_lt_of_le (lt_size e) I.ok.above))).trans (I.base.keep b o e n hb hx)
  ·obtain⟨sl,e1⟩:=I.base.slot b o e n hb hx;exact⟨sl,(hs.2 b (Nat.ne_of_lt (Nat.lt_of_lt_of_le (lt_size e) I.ok.above))).trans e1⟩
  ·obtain⟨o',e1⟩:=I.base.there b o e hx;exact⟨o',(hs.2 b (Nat.ne_of_lt (Nat.lt_of_lt_of_le (lt_size e) I.ok.above))).trans e1⟩
  ·by_cases hj:j=i
   ·subst hj;rw[hi] at e1;cases e1;rw[List.getElem?_set_self hiσ] at e2;cases e2;exact⟨u,r,.inl ⟨hk,by simp⟩⟩
   ·rw[List.getElem?_set_ne (Ne.symm hj)] at e2;obtain⟨u',r',q⟩:=hl j y v' e1 e2 e3;refine⟨u',r',?_⟩;rcases q with⟨k,e⟩|⟨k,c,e,z⟩
    ·refine .inl ⟨k,?_⟩;have:y≠x:=fun e=>hj (Gm hN e1 (e ▸ hi));simp [this,e]
    ·exact .inr ⟨k,c,e,z.sameBut hs (cne y c e)⟩
  ·obtain⟨w',z⟩:=I.cell y c e;exact⟨w',z.sameBut hs (cne y c e)⟩
  ·obtain⟨e,n,ne,nf,d⟩:=I.pin p hp;exact⟨(hs.2 p.1 ne).trans e,n,ne,nf,d⟩
 ·have hfn:X.fn x=true:=by
   rcases hf with z|z
   ·exact z
   ·rw[z] at hk;cases hk
  obtain⟨c,hc⟩:=I.ok.has x (.inl hk);obtain⟨w',z⟩:=I.cell x c hc;refine wpAny_storeName_cell I.ok.kind hk hc z (fun h' hc' hs=>?_);obtain⟨oc,hoc,hocd⟩:=id z;refine h { s with heap:=h' } ⟨I.ok,I.os,I.bare,⟨fun b o e n hb hx=>?_,fun b o e n hb hx=>?_,I.base.free,fun b o e hx=>?_,I.base.tups,I.base.frzs,I.base.tbls⟩,⟨m,hn.sameBut hs (Ne.symm (cne x c hc)),fun j y v' e1 e2 e3=>?_⟩,fun y c' e=>?_,I.free,I.freeC,fun p hp=>?_,tracked ⟨oc,hoc,I.freeC x c hc⟩ hs,by simpa using I.len⟩ ⟨c,hs,.inr hc⟩
  ·exact(hs.2 b (Nat.ne_of_lt (Nat.lt_of_lt_of_le (lt_size e) (I.ok.cab x c hfn hc)))).trans (I.base.keep b o e n hb hx)
  ·obtain⟨sl,e1⟩:=I.base.slot b o e n hb hx;exact⟨sl,(hs.2 b (Nat.ne_of_lt (Nat.lt_of_lt_of_le (lt_size e) (I.ok.cab x c hfn hc)))).trans e1⟩
  ·obtain⟨o',e1⟩:=I.base.there b o e hx;exact⟨o',(hs.2 b (Nat.ne_of_lt (Nat.lt_of_lt_of_le (lt_size e) (I.ok.cab x c hfn hc)))).trans e1⟩
  ·by_cases hj:j=i
   ·subst hj;rw[hi] at e1;cases e1;rw[List.getElem?_set_self hiσ] at e2;cases e2;exact⟨u,r,.inr ⟨.inl hk,c,hc,hc'⟩⟩
   ·rw[List.getElem?_set_ne (Ne.symm hj)] at e2;obtain⟨u',r',q⟩:=hl j y v' e1 e2 e3;refine⟨u',r',?_⟩;rcases q with q|⟨k,c',e,z'⟩
    ·exact .inl q
    ·refine .inr ⟨k,c',e,z'.sameBut hs ?_⟩;rintro rfl;exact hj (Gm hN e1 (I.ok.inj _ _ _ e hc ▸ hi))
  ·by_cases hcc:c'=c
   ·subst hcc;exact⟨_,hc'⟩
   ·obtain⟨w2,z2⟩:=I.cell y c' e;exact⟨w2,z2.sameBut hs hcc⟩
  ·obtain⟨e,n,ne,nf,d⟩:=I.pin p hp;refine⟨(hs.2 p.1 ?_).trans e,n,ne,nf,d⟩;intro q;rw[q,hoc] at e;have q':oc=p.2:=Option.some.inj e;exact d w' (by rw[<- q'];exact hocd)
theorem j8 {M:Model}{A:Around}{E:Value->Shared->Prop}{i:Nat}{x:Str}{v:V}{u:Value}{Q:Unit->Shared->Prop}(I:Inv X pins σ H s)(hN:X.N.Nodup)(hi:X.N[i]?=some x)(hx:Loc X.env.scope x)(r:RelV v u)
  (h:∀s',Inv X pins (σ.set i (some v)) H s'->Q () s') (hf:X.fn x=true\/X.env.scope.names.lookup x=some .local:=by first|exact .inl rfl|exact .inr rfl|assumption):wpAny M A (storeName X.env x u) Q E s:=
 Bq I hN hi hx r (fun s' I' _=>h s' I') hf
theorem Inv.call' {s':Shared}{ch:List Addr}(I:Inv X pins σ H s)(ho:s'.os=s.os)(u:Un (frs X.stack) ch H H' s.heap s'.heap)(hok:HOk X.prog X.w H' s'.heap)(hg:AllBare s'.gens)
  (hch:∀b∈ch,(b∈X.ex\/X.s₀.heap.objs.size<=b)/\b≠X.env.locals/\(∀x c,X.env.cells.lookup x=some c->c≠b)/\∀p∈X.pn++pins,p.1≠b):Inv X pins σ H' s':=by
 obtain⟨h',g',d',t',o'⟩:=s';have e:o'=s.os:=ho;subst e;exact I.call (g':=g') (t':=t') (d':=d') u hok hg hch
end
abbrev XK:=Value->Option Addr->Hp->Prop
abbrev St:=List (Option V)
abbrev VK:=V->Hp->Prop
abbrev TE:=St->Hp->VK->Prop
abbrev TT:=St->Hp->(Bool->Hp->Prop)->Prop
abbrev TA:=St->Hp->(List V->Hp->Prop)->Prop
structure Ends where
 nx:St->Hp->Prop
 rt:VK
 bk:St->Hp->Prop:=fun _ _=>False
 ct:St->Hp->Prop:=fun _ _=>False
abbrev TS:=Ends->St->Hp->Prop
def EP (X:Cx)(pins:List (Addr×Obj))(σ:St)(Q:VK)(u:Value)(s':Shared):Prop:=∃v H',Inv X pins σ H' s'/\RelV v u/\Q v H'
def TP (X:Cx)(pins:List (Addr×Obj))(σ:St)(Q:Bool->Hp->Prop)(b:Bool)(s':Shared):Prop:=∃H',Inv X pins σ H' s'/\Q b H'
def AP (X:Cx)(pins:List (Addr×Obj))(σ:St)(Q:List V->Hp->Prop)(us:List Value)(s':Shared):Prop:=∃vs H',Inv X pins σ H' s'/\Vals vs us/\Q vs H'
def SP (X:Cx)(pins:List (Addr×Obj))(D:Ends)(f:Flow)(s':Shared):Prop:=
 match f with
 | .next=>∃σ' H',Inv X pins σ' H' s'/\D.nx σ' H'
 | .brk=>∃σ' H',Inv X pins σ' H' s'/\D.bk σ' H'
 | .cont=>∃σ' H',Inv X pins σ' H' s'/\D.ct σ' H'
 | .ret u=>∃v σ' H',Inv X pins σ' H' s'/\RelV v u/\D.rt v H'
def PE (X:Cx)(e:Expr)(t:TE):Prop:=
 ∀(pins:List (Addr×Obj)) (s:Shared) (σ:St) (H:Hp) (Q:VK),Inv X pins σ H s->t σ H Q->wpAny (model X.prog X.w) X.A (eval e X.env) (EP X pins σ Q) X.xe s
def PT (X:Cx)(e:Expr)(t:TT):Prop:=
 ∀(pins:List (Addr×Obj)) (s:Shared) (σ:St) (H:Hp) (Q:Bool->Hp->Prop),Inv X pins σ H s->t σ H Q->wpAny (model X.prog X.w) X.A (isTrue e X.env (eval e X.env)) (TP X pins σ Q) X.xe s
def PW (X:Cx)(e:Expr)(t:TT):Prop:=
 ∀(whole:Sem Value)(pins:List (Addr×Obj)) (s:Shared) (σ:St) (H:Hp) (Q:Bool->Hp->Prop),Inv X pins σ H s->t σ H Q->wpAny (model X.prog X.w) X.A (isTrue e X.env whole) (TP X pins σ Q) X.xe s
theorem PW.pt {X:Cx}{e:Expr}{t:TT}(h:PW X e t):PT X e t:=h _
def PA (X:Cx)(es:List Expr)(t:TA):Prop:=
 ∀(pos:Pos)(pins:List (Addr×Obj)) (s:Shared) (σ:St) (H:Hp) (Q:List V->Hp->Prop),Inv X pins σ H s->t σ H Q->wpAny (model X.prog X.w) X.A (spliced (backTo pos (starEach es X.env))) (AP X pins σ Q) X.xe s
def PS (X:Cx)(st:Stmt)(t:TS):Prop:=
 ∀(pins:List (Addr×Obj)) (s:Shared) (σ:St) (H:Hp) (D:Ends),Inv X pins σ H s->t D σ H->wpAny (model X.prog X.w) X.A (exec st X.env) (SP X pins D) X.xe s
def PSs (X:Cx)(st:List Stmt)(t:TS):Prop:=
 ∀(pins:List (Addr×Obj)) (s:Shared) (σ:St) (H:Hp) (D:Ends),Inv X pins σ H s->t D σ H->wpAny (model X.prog X.w) X.A (execs st X.env) (SP X pins D) X.xe s
theorem thn {α:Type}{t:Sem α}{Q Q':α->Shared->Prop}{M:Model}{A:Around}{E:Value->Shared->Prop}{s:Shared}(h:wpAny M A t Q E s)(hQ:∀a s,Q a s->Q' a s):wpAny M A t Q' E s:=wpAny_mono h hQ fun _ _ x=>x
theorem thE {t:Sem Value}{X:Cx}{pins:List (Addr×Obj)}{σ:St}{Q:VK}{Q':Value->Shared->Prop}{M:Model}{A:Around}{E:Value->Shared->Prop}{s:Shared}(h:wpAny M A t (EP X pins σ Q) E s)(hQ:∀u s x H,Inv X pins σ H s->RelV x u->Q x H->Q' u s):wpAny M A t Q' E s:=thn h fun u s z=>by
 obtain⟨x,H,I,r,q⟩:=z;exact hQ u s x H I r q
theorem thA {t:Sem (List Value)}{X:Cx}{pins:List (Addr×Obj)}{σ:St}{Q:List V->Hp->Prop}{Q':List Value->Shared->Prop}{M:Model}{A:Around}{E:Value->Shared->Prop}{s:Shared}(h:wpAny M A t (AP X pins σ Q) E s)(hQ:∀u s x H,Inv X pins σ H s->Vals x u->Q x H->Q' u s):wpAny M A t Q' E s:=thn h fun u s z=>by
 obtain⟨x,H,I,r,q⟩:=z;exact hQ u s x H I r q
theorem thT {t:Sem Bool}{X:Cx}{pins:List (Addr×Obj)}{σ:St}{Q:Bool->Hp->Prop}{Q':Bool->Shared->Prop}{M:Model}{A:Around}{E:Value->Shared->Prop}{s:Shared}(h:wpAny M A t (TP X pins σ Q) E s)(hQ:∀u s H,Inv X pins σ H s->Q u H->Q' u s):wpAny M A t Q' E s:=thn h fun u s z=>by
 obtain⟨H,I,q⟩:=z;exact hQ u s H I q
section
variable {X:Cx}
def Pu (i:Nat):TE:=fun σ H Q=>∃v,σ[i]?=some (some v)/\Q v H
def tC (v:V):TE:=fun _ H Q=>Q v H
theorem RV {i:Nat}{x:Str}{pos:Pos}(hN:X.N[i]?=some x) (hv:Vis X.env.scope x) (hd:(x == ("__debug__" : Str))=false:=by decide) (hcd:(x == ("__classdict__" : Str))=false:=by decide):PE X (.Name x pos) (Pu i):=by
 intro pins s σ H Q I h;obtain⟨v,e,h⟩:=h;obtain⟨m,hn,hl⟩:=I.loc;obtain⟨u,r,l⟩:=hl i x v hN e hv;have fin:EP X pins σ Q u s:=⟨v,H,I,r,h⟩;rcases l with⟨hk,hm⟩|⟨hk,c,hc,hcell⟩
 ·exact wpAny_Name (wpAny_loadName_local I.ok.kind hk hn hm fin) hd
 ·rcases hk with hk|hk
  ·exact wpAny_Name (wpAny_loadName_cell I.ok.kind hk hc hcell fin) hd
  ·exact wpAny_Name (wpAny_loadName_free I.ok.kind hk hc hcell fin hcd) hd
theorem aaI {i j pos}:PE X (.Constant (.int i) j pos) (tC (.int i)):=fun _ _ _ H _ I h=>wpAny_Constant_int ⟨.int i,H,I.tok _,⟨_,rfl⟩,h⟩
theorem ab9 {b j pos}:PE X (.Constant (.bool b) j pos) (tC (.bl b)):=fun _ _ _ H _ I h=>Constant_bool ⟨.bl b,H,I,rfl,h⟩
theorem aaG {j pos}:PE X (.Constant .none j pos) (tC .non):=fun _ _ _ H _ I h=>Constant_none ⟨.non,H,I,rfl,h⟩
theorem aaD {x j pos}:PE X (.Constant (.str x) j pos) (tC (.str x)):=fun _ _ _ H _ I h=>Calls.Constant_str ⟨.str x,H,I.tok _,⟨_,rfl⟩,h⟩
def Gl (X:Cx)(x:Str):Prop:=X.env.kindOf x=some .globalImplicit
theorem Yg {E:Value->Shared->Prop}{pins:List (Addr×Obj)}{s:Shared}{σ:St}{H:Hp}{x:Str}{u:Value}{pos:Pos}{Q:Value->Shared->Prop}(I:Inv X pins σ H s)(hg:Gl X x)(hm:X.mg x=some u)(h:Q u s)
  (hd:(x == ("__debug__" : Str))=false:=by decide):wpAny (model X.prog X.w) X.A (eval (.Name x pos) X.env) Q E s:=
 Calls.Name_function_global I.ok.kind hg (Calls.loadGlobal_global (by rw[I.ok.glob];exact I.mod.glob.keeps I.bk) hm h) hd
theorem lE {E:Value->Shared->Prop}{pins:List (Addr×Obj)}{s:Shared}{σ:St}{H:Hp}{x:Str}{u:Value}{pos:Pos}{Q:Value->Shared->Prop}(I:Inv X pins σ H s)(hg:Gl X x)(hm:X.mg x=none)(hv:bootBuiltins x=some u)(h:Q u s)
  (hn:x ≠ "__name__" := by decide) (hd:(x == ("__debug__" : Str))=false:=by decide):wpAny (model X.prog X.w) X.A (eval (.Name x pos) X.env) Q E s:=by
 obtain⟨mb,h1,h2⟩:=I.mod.blt;exact Calls.Name_function_global I.ok.kind hg (Calls.loadGlobal_builtin (by rw[I.ok.glob];exact I.mod.glob.keeps I.bk) hm (by rw[I.ok.blt];exact h1.keeps I.bk) ((h2 x hn).trans hv) h) hd
theorem Xo {x:Str}{v:V}{u:Value}{pos:Pos}(hg:Gl X x) (hm:X.mg x=none) (hv:bootBuiltins x=some u) (r:RelV v u) (hn:x ≠ "__name__" := by decide) (hd:(x == ("__debug__" : Str))=false:=by decide):PE X (.Name x pos) (tC v):=
 fun _ _ _ H _ I h=>lE I hg hm hv ⟨v,H,I,r,h⟩ hn hd
variable {a b:Expr}{ta tb:TE}{pos:Pos}
def tB (t:TE):TT:=fun σ H Q=>t σ H fun x H1=>∃c,x=.bl c/\Q c H1
theorem aas {e:Expr}{t:TE}(h:PE X e t)(he:∀whole,isTrue e X.env whole=(do let v <- whole;standAt e.pos;holding [v] (truthy v)):=by intro _;rfl):PT X e (tB t):=by
 intro pins s σ H Q I hw;refine isTrue_plain (thE (h pins s σ H _ I hw) fun v s1 x H1 I1 r1 q1=>?_) (he _);obtain⟨d,rfl,q⟩:=q1;cases r1;exact wpAny_truthy_bool ⟨H1,I1,q⟩
variable {tA tB':TT}{rest:List Expr}
def Wd (t u:TT):TT:=fun σ H Q=>t σ H fun c H1=>if c=true then u σ H1 Q else Q false H1
def tOr (t u:TT):TT:=fun σ H Q=>t σ H fun c H1=>if c=true then Q true H1 else u σ H1 Q
def Wb (t:TT):TT:=fun σ H Q=>t σ H fun c H1=>Q (!c) H1
theorem WX (ha:PT X a tA):PW X (.BoolOp .And [a] pos) tA:=by
 intro wh pins s σ H Q I h;refine isTrue_and (thn (ha pins s σ H Q I h) fun c s1 e=>?_);cases c with
 | true=>exact isTrue_and_nil e
 | false=>exact e
theorem aap (ha:PT X a tA):PW X (.BoolOp .Or [a] pos) tA:=by
 intro wh pins s σ H Q I h;refine isTrue_or (thn (ha pins s σ H Q I h) fun c s1 e=>?_);cases c with
 | false=>exact isTrue_or_nil e
 | true=>exact e
theorem aar (ha:PT X a tA)(hb:PW X (.BoolOp .And (b::rest) pos) tB'):PW X (.BoolOp .And (a::b::rest) pos) (Wd tA tB'):=by
 intro wh pins s σ H Q I h;refine isTrue_and (thT (ha pins s σ H _ I h) fun c s1 H1 I1 q1=>?_);cases c with
 | true=>exact hb wh pins s1 σ H1 Q I1 q1
 | false=>exact⟨H1,I1,q1⟩
theorem abY (ha:PT X a tA)(hb:PW X (.BoolOp .Or (b::rest) pos) tB'):PW X (.BoolOp .Or (a::b::rest) pos) (tOr tA tB'):=by
 intro wh pins s σ H Q I h;refine isTrue_or (thT (ha pins s σ H _ I h) fun c s1 H1 I1 q1=>?_);cases c with
 | true=>exact⟨H1,I1,q1⟩
 | false=>exact hb wh pins s1 σ H1 Q I1 q1
theorem aau (ha:PT X a tA):PT X (.UnaryOp .Not a pos) (Wb tA):=by
 intro pins s σ H Q I h;exact isTrue_not (ha pins s σ H (fun c H1=>Q (!c) H1) I h)
def Qg (ta tb:TE):TE:=fun σ H Q=>ta σ H fun x H1=>∃c,x=.bl c/\if c=true then tb σ H1 Q else Q (.bl false) H1
def PK (ta:TE):TE:=fun σ H Q=>ta σ H fun x H1=>∃c,x=.bl c/\Q (.bl (!c)) H1
theorem aaE {op}{t:TE}(h:PE X a t):PE X (.BoolOp op [a] pos) t:=fun pins s σ H Q I hw=>BoolOp_one (h pins s σ H Q I hw)
theorem aaK (ha:PE X a ta)(hb:PE X (.BoolOp .And (b::rest) pos) tb):PE X (.BoolOp .And (a::b::rest) pos) (Qg ta tb):=by
 intro pins s σ H Q I h;refine BoolOp_and (thE (ha pins s σ H _ I h) fun v s1 x H1 I1 r1 q1=>?_);obtain⟨c,rfl,q1⟩:=q1;cases r1;refine wpAny_truthy_bool ?_;cases c with
 | true=>exact hb pins s1 σ H1 Q I1 q1
 | false=>exact⟨.bl false,H1,I1,rfl,q1⟩
theorem aaF (ha:PE X a ta):PE X (.UnaryOp .Not a pos) (PK ta):=by
 intro pins s σ H Q I h;refine UnaryOp_ (thE (ha pins s σ H _ I h) fun v s1 x H1 I1 r1 q1=>?_);obtain⟨c,rfl,q1⟩:=q1;cases r1;exact not_of (wpAny_truthy_bool ⟨.bl (!c),H1,I1,rfl,q1⟩)
def tIf (t:TT)(ta tb:TE):TE:=fun σ H Q=>t σ H fun c H1=>if c=true then ta σ H1 Q else tb σ H1 Q
theorem RZ {c:Expr}(hc:PT X c tA)(ha:PE X a ta)(hb:PE X b tb):PE X (.IfExp c a b pos) (tIf tA ta tb):=by
 intro pins s σ H Q I h;refine wpAny_IfExp (thT (hc pins s σ H _ I h) fun d s1 H1 I1 q1=>?_);cases d with
 | true=>exact ha pins s1 σ H1 Q I1 q1
 | false=>exact hb pins s1 σ H1 Q I1 q1
end
def SqL (K:PySem.W.Frag)(H:Hp)(a:Addr)(xs:List V):Prop:=
 Rd H a (.lst xs) \/
  ∃(o:Obj)(its:Array Value)(n:Nat),K.lookup a=some o/\o.cls=.type "list" /\ o.dict=none/\o.data=.seq its n/\its.size<=sizeLine/\Vals xs its.toList
def SqT (K:PySem.W.Frag)(H:Hp)(a:Addr)(xs:List V):Prop:=
 Rd H a (.tup xs) \/
  ∃(o:Obj)(its:Array Value)(n:Nat),K.lookup a=some o/\o.cls=.type "tuple" /\ o.data=.seq its n/\its.size<=sizeLine/\Vals xs its.toList
def acT:Value->Option V
 | .none=>some .non
 | .bool b=>some (.bl b)
 | .int i _=>some (.int i)
 | .str x _=>some (.str x)
 | .bytes b _=>some (.byt b)
 | .float b _=>some (.flt b)
 | .ref a=>some (.ref a)
 | .type n=>some (.ty n)
 | _=>none
theorem RelV.abs {x:V}{u:Value}(r:RelV x u):acT u=some x:=by
 cases x with
 | non=>cases r;rfl
 | bl _=>cases r;rfl
 | int _=>obtain⟨t,rfl⟩:=r;rfl
 | str _=>obtain⟨t,rfl⟩:=r;rfl
 | byt _=>obtain⟨t,rfl⟩:=r;rfl
 | flt _=>obtain⟨t,rfl⟩:=r;rfl
 | ref _=>cases r;rfl
 | ty _=>cases r;rfl
theorem RelV.inj {x y:V}{u:Value}(r:RelV x u)(q:RelV y u):x=y:=Option.some.inj (r.abs.symm.trans q.abs)
theorem Vals.inj:∀{xs ys:List V}{us:List Value},Vals xs us->Vals ys us->xs=ys
 | _,_,_,.nil,.nil=>rfl
 | _,_,_,.cons r t,.cons r' t'=>by rw[r.inj r',Vals.inj t t']
section
variable {X:Cx}{pins:List (Addr×Obj)}{σ:St}{H:Hp}{s:Shared}{a:Addr}{xs ys:List V}
theorem SqL.of {K:PySem.W.Frag}(h:H a=some (.lst xs)):SqL K H a xs:=.inl (.inl h)
theorem SqT.of {K:PySem.W.Frag}(h:H a=some (.tup xs)):SqT K H a xs:=.inl (.inl h)
theorem Inv.list (I:Inv X pins σ H s)(h:SqL X.K H a xs):∃its:List Value,Vals xs its/\PlainL s.heap a its.toArray/\xs.length<=sizeLine:=by
 rcases h with h|⟨o,its,n,hk,hc,hd,hs,hz,r⟩
 ·obtain⟨z,its,n,r,e⟩:=h.ok I.hok;exact⟨its,r,⟨_,n,e,rfl,rfl,rfl⟩,z⟩
 ·refine⟨its.toList,r,⟨o,n,I.kIn a o hk,hc,hd,by simpa using hs⟩,?_⟩;have e:=r.length;simp only[length_toList] at e;omega
theorem Inv.tuple (I:Inv X pins σ H s)(h:SqT X.K H a xs):∃its:List Value,Vals xs its/\IsTup s.heap a its.toArray/\xs.length<=sizeLine:=by
 rcases h with h|⟨o,its,n,hk,hc,hs,hz,r⟩
 ·obtain⟨z,its,r,p⟩:=h.ok I.hok;exact⟨its,r,p,z⟩
 ·refine⟨its.toList,r,⟨o,I.kIn a o hk,hc,n,by simpa using hs⟩,?_⟩;have e:=r.length;simp only[length_toList] at e;omega
theorem Inv.uO (I:Inv X pins σ H s)(h:SqL X.K H a xs)(h':SqL X.K H a ys):xs=ys:=by
 obtain⟨its,r,⟨o,n,e,_,_,d⟩,_⟩:=I.list h;obtain⟨its',r',⟨o',n',e',_,_,d'⟩,_⟩:=I.list h';rw[e] at e';cases e';rw[d] at d';injection d' with d1 _;have:its=its':=by simpa using congrArg Array.toList d1
 subst this;exact r.inj r'
theorem Inv.vz (I:Inv X pins σ H s)(h:SqT X.K H a xs)(h':SqT X.K H a ys):xs=ys:=by
 obtain⟨its,r,⟨o,e,_,n,d⟩,_⟩:=I.tuple h;obtain⟨its',r',⟨o',e',_,n',d'⟩,_⟩:=I.tuple h';rw[e] at e';cases e';rw[d] at d';injection d' with d1 _;have:its=its':=by simpa using congrArg Array.toList d1
 subst this;exact r.inj r'
end
abbrev Cx.wish (X:Cx)(E:Value->Shared->Prop):Cx:={ X with xe:=E }
abbrev Cx.nox (X:Cx):Cx:=X.wish fun _ _=>False
theorem Cx.Ok.wish {X:Cx}(ok:X.Ok)(E:Value->Shared->Prop):(X.wish E).Ok:=
 ⟨ok.mod,ok.kind,ok.glob,ok.blt,ok.above,ok.inj,ok.has,ok.cab,ok.hd,ok.frames,ok.stk,ok.exf,ok.bs,ok.bsz,ok.noex,ok.exfs,ok.xq,ok.frf⟩
theorem Cx.Ok.oR {X:Cx}{E:Value->Shared->Prop}(ok:(X.wish E).Ok):X.Ok:=
 ⟨ok.mod,ok.kind,ok.glob,ok.blt,ok.above,ok.inj,ok.has,ok.cab,ok.hd,ok.frames,ok.stk,ok.exf,ok.bs,ok.bsz,ok.noex,ok.exfs,ok.xq,ok.frf⟩
section
variable {X:Cx}{pins:List (Addr×Obj)}{σ:St}{H:Hp}{s:Shared}{E:Value->Shared->Prop}
theorem Inv.wish (I:Inv X pins σ H s)(E:Value->Shared->Prop):Inv (X.wish E) pins σ H s:=⟨I.ok.wish E,I.os,I.bare,I.base,I.loc,I.cell,I.free,I.freeC,I.pin,I.hok,I.len⟩
theorem Inv.oR (I:Inv (X.wish E) pins σ H s):Inv X pins σ H s:=⟨I.ok.oR,I.os,I.bare,I.base,I.loc,I.cell,I.free,I.freeC,I.pin,I.hok,I.len⟩
theorem SP.oR {D:Ends}{f:Flow}{s':Shared}(h:SP (X.wish E) pins D f s'):SP X pins D f s':=by
 cases f with
 | next=>obtain⟨σ',H',I,q⟩:=h;exact⟨σ',H',I.oR,q⟩
 | brk=>obtain⟨σ',H',I,q⟩:=h;exact⟨σ',H',I.oR,q⟩
 | cont=>obtain⟨σ',H',I,q⟩:=h;exact⟨σ',H',I.oR,q⟩
 | ret u=>obtain⟨v,σ',H',I,r,q⟩:=h;exact⟨v,σ',H',I.oR,r,q⟩
theorem PSs.nox {st:List Stmt}{t:TS}(h:PSs X.nox st t):PSs X st t:=fun pins s σ H D I hw=>
 wpAny_mono (h pins s σ H D (I.wish _) hw) (fun _ _ q=>q.oR) fun _ _ z=>False.elim z
end
section
variable {X:Cx}{st:Stmt}{rest:List Stmt}{t u:TS}{e:Expr}{te:TE}{pos:Pos}
def Kd:TS:=fun D σ H=>D.nx σ H
def Ii (t u:TS):TS:=fun D σ H=>t { D with nx:=u D } σ H
theorem W6:PSs X [] Kd:=fun _ _ σ H _ I h=>wpAny_execs_nil ⟨σ,H,I,h⟩
theorem RL (h1:PS X st t)(h2:PSs X rest u):PSs X (st::rest) (Ii t u):=by
 intro pins s σ H D I h;refine wpAny_execs_cons (thn (h1 pins s σ H { D with nx:=u D } I h) fun f s1 q=>?_);cases f with
 | next=>
  obtain⟨σ',H',I',q⟩:=q;exact h2 pins s1 σ' H' D I' q
 | ret v=>exact q
 | brk=>exact q
 | cont=>exact q
theorem W5 (h1:PS X st t):PSs X [st] t:=by
 intro pins s σ H D I h;refine wpAny_execs_cons (thn (h1 pins s σ H D I h) fun f s1 q=>?_);cases f with
 | next=>exact wpAny_execs_nil q
 | ret v=>exact q
 | brk=>exact q
 | cont=>exact q
theorem Inv.quiet {pins:List (Addr×Obj)}{σ:St}{H:Hp}{s:Shared}(I:Inv X pins σ H s):interactive X.env=false:=by simp [interactive,I.ok.kind]
def Qa (te:TE):TS:=fun D σ H=>te σ H fun _ H1=>D.nx σ H1
theorem W9 (he:PE X e te)(hs:swapsWith e none pos.line X.env=pure false:=by rfl):PS X (.Expr e pos) (Qa te):=by
 intro pins s σ H D I h;exact wpAny_Expr_any (thE (he pins s σ H _ I h) fun v s1 x H1 I1 r1 q1=>⟨σ,H1,I1,q1⟩) I.quiet hs
def Fp (te:TE):TS:=fun D σ H=>te σ H D.rt
theorem aaw (he:PE X e te):PS X (.Return (some e) pos) (Fp te):=by
 intro pins s σ H D I h;exact wpAny_Return_some (thE (he pins s σ H _ I h) fun v s1 x H1 I1 r1 q1=>⟨x,σ,H1,I1,r1,q1⟩)
def PX (c:TT)(t u:TS):TS:=fun D σ H=>c σ H fun b H1=>if b=true then t D σ H1 else u D σ H1
theorem ab0 {c:Expr}{a b:List Stmt}{tc:TT}(hc:PT X c tc)(ha:PSs X a t)(hb:PSs X b u):PS X (.If c a b pos) (PX tc t u):=by
 intro pins s σ H D I h;refine wpAny_If (thT (hc pins s σ H _ I h) fun d s1 H1 I1 q1=>?_);cases d with
 | true=>exact ha pins s1 σ H1 D I1 q1
 | false=>exact hb pins s1 σ H1 D I1 q1
end
abbrev TG:=V->St->Hp->(St->Hp->Prop)->Prop
abbrev TGs:=List V->St->Hp->(St->Hp->Prop)->Prop
def PG (X:Cx)(target:Expr)(t:TG):Prop:=
 ∀(pins:List (Addr×Obj)) (s:Shared) (σ:St) (H:Hp) (v:V) (u:Value) (Q:St->Hp->Prop),Inv X pins σ H s->RelV v u->t v σ H Q ->
  wpAny (model X.prog X.w) X.A (assign target X.env u) (fun _ s'=>∃σ' H',Inv X pins σ' H' s'/\Q σ' H') X.xe s
def PGs (X:Cx)(ts:List Expr)(t:TGs):Prop:=
 ∀(pins:List (Addr×Obj)) (s:Shared) (σ:St) (H:Hp) (vs:List V) (us:List Value) (Q:St->Hp->Prop),Inv X pins σ H s->Vals vs us->t vs σ H Q ->
  wpAny (model X.prog X.w) X.A (assignInOrder ((assignEach ts X.env).map (·.2)) us) (fun _ s'=>∃σ' H',Inv X pins σ' H' s'/\Q σ' H') X.xe s
abbrev VG:=V->V->V->Hp->(Hp->Prop)->Prop
def VJ (X:Cx)(t:VG):Prop:=
 ∀(pins:List (Addr×Obj)) (s:Shared) (σ:St) (H:Hp) (o i v:V) (ov iv u:Value) (Q:Hp->Prop),Inv X pins σ H s->RelV o ov->RelV i iv->RelV v u->t o i v H Q ->
  wpAny (model X.prog X.w) X.A (setItem ov iv u) (fun _ s'=>∃H',Inv X pins σ H' s'/\Q H') X.xe s
section
variable {X:Cx}{pos:Pos}
def lH (i:Nat):TG:=fun v σ H Q=>Q (σ.set i (some v)) H
theorem KQ {i:Nat}{x:Str}(hN:X.N.Nodup)(hi:X.N[i]?=some x)(hx:Loc X.env.scope x)(hf:X.fn x=true\/X.env.scope.names.lookup x=some .local:=by first|exact .inl rfl|exact .inr rfl|assumption):PG X (.Name x pos) (lH i):=by
 intro pins s σ H v u Q I r h;exact wpAny_assign_Name (j8 I hN hi hx r (fun s' I'=>⟨_,H,I',h⟩) hf)
def abv:TGs:=fun vs σ H Q=>vs=[]/\Q σ H
def Uu (t:TG)(u:TGs):TGs:=fun vs σ H Q=>∃v r,vs=v::r/\t v σ H fun σ' H'=>u r σ' H' Q
theorem Xg:PGs X [] abv:=by
 intro pins s σ H vs us Q I r h;obtain⟨e,h⟩:=h;subst e;cases r;exact assignInOrder_nil ⟨σ,H,I,h⟩
theorem RQ {e:Expr}{es:List Expr}{t:TG}{u:TGs}(h1:PG X e t)(h2:PGs X es u)
  (hs:(assignEach (e::es) X.env).map (·.2)=assign e X.env::(assignEach es X.env).map (·.2):=by rfl):PGs X (e::es) (Uu t u):=by
 intro pins s σ H vs us Q I r h;obtain⟨v,vr,e1,h⟩:=h;subst e1;cases r with
 | cons r rr=>
  rw[hs];refine assignInOrder_cons (thn (h1 pins s σ H _ _ _ I r h) fun _ s1 ⟨σ1,H1,I1,q1⟩=>?_);exact h2 pins s1 σ1 H1 _ _ Q I1 rr q1
def acS (K:PySem.W.Frag)(n:Nat)(t:TGs):TG:=fun v σ H Q=>∃a xs,v=.ref a/\SqT K H a xs/\xs.length=n/\t xs σ H Q
theorem aaB {es:List Expr}{k:Nat}{t:TGs}{n:Nat}(hc:X.calm=true)(h:PGs X es t)
  (hn:(assignEach es X.env).length=n:=by rfl) (hst:(assignEach es X.env).findIdx? (·.1)=none:=by rfl):PG X (.Tuple es k pos) (acS X.K n t):=by
 intro pins s σ H v u Q I r hw;obtain⟨a,xs,e1,hq,hl,hw⟩:=hw;subst e1;cases r;obtain⟨its,rv,ht,hz⟩:=I.tuple hq;refine assign_Tuple_tuple (I.ok.hd hc) ht (by simp [hn,<- hl,rv.length]) hst fun h' hx=>?_;have I1:Inv X pins σ H { s with heap:=h' }:=I.kept (t':=s.toks) fun b o e=>hx b o (Nat.ne_of_lt (lt_size e)) e;exact h pins _ σ H xs _ Q I1 (by simpa using rv) hw
def YD (to ti:TE)(t:VG):TG:=fun v σ H Q=>to σ H fun o H1=>ti σ H1 fun i H2=>t o i v H2 fun H3=>Q σ H3
theorem RT {o i:Expr}{to ti:TE}{t:VG}(ho:PE X o to)(hi:PE X i ti)(hs:VJ X t)
  (ha:∀v,assign (.Subscript o i pos) X.env v=(do
   let ov <- holding [v] (eval o X.env)
   let iv <- holding [v,ov] (eval i X.env)
   standAt pos
   holding [v,ov,iv] (setItem ov iv v)
   release [v,ov,iv] []):=by intro _;rfl):PG X (.Subscript o i pos) (YD to ti t):=by
 intro pins s σ H v u Q I r h;rw[ha];refine wpAny_bind (wpAny_holding (thE (ho pins s σ H _ I h) fun ov s1 x H1 I1 r1 q1=>?_));refine wpAny_bind (wpAny_holding (thE (hi pins s1 σ H1 _ I1 q1) fun iv s2 y H2 I2 r2 q2=>?_));refine wpAny_bind (wpAny_standAt (wpAny_bind (wpAny_holding (thn (hs pins s2 σ H2 x y v ov iv u _ I2 r1 r2 r q2) fun _ s3 ⟨H3,I3,q3⟩=>?_))));exact wpAny_release ⟨σ,H3,I3,q3⟩
def wW (te:TE)(g:TG):TS:=fun D σ H=>te σ H fun x H1=>g x σ H1 D.nx
theorem aaz {tg e:Expr}{te:TE}{g:TG}(he:PE X e te)(hg:PG X tg g)(hs:swapsWithSole [tg] e pos.line X.env=pure false:=by rfl)(hw:swappedStores [tg] e X.env=pure none:=by rfl)
  (h1:(assignEach [tg] X.env).map (·.2)=[assign tg X.env]:=by rfl):PS X (.Assign [tg] e pos) (wW te g):=by
 intro pins s σ H D I h;refine wpAny_Assign_stores (thE (he pins s σ H _ I h) fun v s1 x H1 I1 r1 q1=>?_) hs hw;rw[h1];exact thn (hg pins s1 σ H1 x v _ I1 r1 q1) fun _ s2 q=>q
theorem aav {i:Nat}{x:Str}{e:Expr}{te:TE}{pos':Pos}(hN:X.N.Nodup)(hi:X.N[i]?=some x)(hx:Loc X.env.scope x)(he:PE X e te)(hs:swapsWith e (some (.Name x pos')) pos.line X.env=pure false:=by rfl)(hf:X.fn x=true\/X.env.scope.names.lookup x=some .local:=by first|exact .inl rfl|exact .inr rfl|assumption) :
  PS X (.Assign [.Name x pos'] e pos) (wW te (lH i)):=by
 intro pins s σ H D I h;refine wpAny_Assign_Name (thE (he pins s σ H _ I h) fun v s1 y H1 I1 r1 q1=>?_) hs;exact j8 I1 hN hi hx r1 (fun s2 I2=>⟨_,H1,I2,q1⟩) hf
def Z7 (i j:Nat)(ta:TA):TS:=fun D σ H=>ta σ H fun vs H1=>∃v w,vs=[v,w]/\D.nx ((σ.set i (some v)).set j (some w)) H1
theorem aax {i j:Nat}{x y:Str}{a b:Expr}{ta:TA}{px py pt:Pos}{kt k2 pt2}(hc:X.calm=true)(hN:X.N.Nodup)(hi:X.N[i]?=some x)(hj:X.N[j]?=some y)(hij:i≠j)
  (hx:X.env.scope.names.lookup x=some .local) (hy:X.env.scope.names.lookup y=some .local) (ha:PA X [a,b] ta)
  (hw:swappedStores [.Tuple [.Name x px,.Name y py] kt pt] (.Tuple [a,b] k2 pt2) X.env=pure (some [x,y]))
  (hs:swapsWithSole [.Tuple [.Name x px,.Name y py] kt pt] (.Tuple [a,b] k2 pt2) pos.line X.env=pure false:=by rfl) :
  PS X (.Assign [.Tuple [.Name x px,.Name y py] kt pt] (.Tuple [a,b] k2 pt2) pos) (Z7 i j ta):=by
 intro pins s σ H D I h;rw[exec_Assign_arm];refine wpAny_bind (wpAny_standAt ?_);rw[hs];refine wpAny_bind (wpAny_pure ?_);rw[if_neg δ];refine wpAny_bind (Tuple_ (thA (ha _ pins s σ H _ I h) fun us s1 vs H1 I1 r1 q1=>?_));obtain⟨v,w,e1,q1⟩:=q1;subst e1;obtain⟨u1,u2,rfl,rv,rw'⟩:∃u1 u2,us=[u1,u2]/\RelV v u1/\RelV w u2:=by
  cases r1 with
  | cons p q=>
   cases q with
   | cons p' q'=>
    cases q';exact⟨_,_,rfl,p,p'⟩
 refine wpAny_newObj_type ?_ (by show 2<=sizeLine;decide);have I2:Inv X pins σ H1 { s1 with heap:=s1.heap.push { cls:=.type "tuple",data:=.seq [u1,u2].toArray } }:=I1.kept (t':=s1.toks) fun b o e=>get?_push_of_some _ e;rw[hw];refine wpAny_bind (wpAny_pure ?_);show wpAny (model X.prog X.w) X.A (do rule "assign.swapped-stores";let items <- unpackItems (.ref s1.heap.objs.size) 2 none;assignInOrder [fun v=>bindName X.env y v,fun v=>bindName X.env x v] items.reverse;pure Flow.next) _ _ _;refine wpAny_bind (wpAny_rule (wpAny_bind (unpackItems_tuple (items:=#[u1,u2]) (I.ok.hd hc) (IsTup.new s1.heap _) fun h' hx'=>?_)));have I3:=I2.kept (h':=h') (t':=s1.toks) fun b o e=>hx' b o (Nat.ne_of_lt (lt_size e)) e;show wpAny _ _ (assignInOrder [fun v=>bindName X.env y v,fun v=>bindName X.env x v] [u2,u1] >>= fun _=>pure Flow.next) _ _ _;refine wpAny_bind (assignInOrder_cons (wpAny_bindName (j8 I3 hN hj (.inl hy) rw' (fun s2 I4=>?_) (.inr hy))));refine assignInOrder_cons (wpAny_bindName (j8 I4 hN hi (.inl hx) rv (fun s3 I5=>assignInOrder_nil (wpAny_pure ?_)) (.inr hx)));rw[set_comm _ _ (Ne.symm hij)] at I5;exact⟨_,H1,I5,q1⟩
def Ih (c:TT)(tb:TS):TS:=fun D σ H=>∃W:Nat->St->Hp->Prop,(∃m,W m σ H)/\∀m σ H,W m σ H ->
 c σ H fun b H1=>if b=true then ∃N:St->Hp->Prop,(∀σ' H',N σ' H'->∃m',m'<m/\W m' σ' H')/\tb { D with nx:=N,ct:=N,bk:=D.nx } σ H1 else D.nx σ H1
theorem RM {c:Expr}{body:List Stmt}{tc:TT}{tb:TS}(hp:PassesOwn (model X.prog X.w) X.A X.env X.xe)(hc:PT X c tc)(hb:PSs X body tb):PS X (.While c body [] pos) (Ih tc tb):=by
 intro pins s σ H D I h;obtain⟨W,⟨m0,w0⟩,turn⟩:=h;refine wpAny_While (codeAny_whileLoop (fun n s'=>∃σ' H',Inv X pins σ' H' s'/\W n σ' H') ?_ m0 ⟨σ,H,I,w0⟩);rintro n s1 ⟨σ1,H1,I1,w1⟩;refine wpAny_passesOwn hp (thT (hc pins s1 σ1 H1 _ I1 (turn n σ1 H1 w1)) fun b s2 H2 I2 q2=>?_);cases b with
 | true=>
  obtain⟨N,hN,q2⟩:=q2;rw[if_pos rfl];refine wpAny_passesOwn hp (thn (hb pins s2 σ1 H2 _ I2 q2) fun f s3 q3=>?_);cases f with
  | next=>
   obtain⟨σ3,H3,I3,n3⟩:=q3;obtain⟨m',hm,w3⟩:=hN σ3 H3 n3;exact⟨m',hm,σ3,H3,I3,w3⟩
  | cont=>
   obtain⟨σ3,H3,I3,n3⟩:=q3;obtain⟨m',hm,w3⟩:=hN σ3 H3 n3;exact⟨m',hm,σ3,H3,I3,w3⟩
  | brk=>exact q3
  | ret v=>exact q3
 | false=>
  rw[if_neg Bool.false_ne_true];exact wpAny_execs_nil ⟨σ1,H2,I2,q2⟩
end
structure It where
 go:Nat->Hp->Prop
 yld:Nat->Hp->V->Hp->Prop
 stop:Nat->Hp->Prop
def tM (X:Cx)(pins:List (Addr×Obj))(H:Hp)(b:Addr):Prop:=
 H b=none/\b≠X.env.locals/\b∉X.fs/\(b∈X.ex\/X.s₀.heap.objs.size<=b)/\(∀x c,X.env.cells.lookup x=some c->c≠b)/\∀p∈X.pn++pins,p.1≠b
theorem Inv.Uy {X:Cx}{pins:List (Addr×Obj)}{σ:St}{H H':Hp}{s:Shared}{b:Addr}(I:Inv X pins σ H s)(hb:s.heap.objs.size<=b)(hn:H' b=none):tM X pins H' b:=by
 refine⟨hn,Nat.ne_of_gt (Nat.lt_of_lt_of_le I.lt hb),I.XJ hb,.inr (Nat.le_trans I.sz hb),fun x c e z=>?_,fun p hp z=>?_⟩
 ·obtain⟨v,q⟩:=I.cell x c e;exact absurd (Nat.lt_of_lt_of_le q.lt (by rw[z];exact hb)) (Nat.lt_irrefl _)
 ·exact absurd (Nat.lt_of_lt_of_le (lt_size (I.pin p hp).1) (by rw[z];exact hb)) (Nat.lt_irrefl _)
structure Turn (P:Program)(w:World)(K:PySem.W.Frag)(tg:Expr)(J:It)(fp:List Addr)(it:Addr)(tn:Nat->Heap->Prop):Prop where
 mem:it∈fp
 obj:∀i h,tn i h->∀b∈fp,∃o,h.get? b=some o/\∀v,o.data≠.cell v
 keep:∀i h h',tn i h->(∀b∈fp,∀o,h.get? b=some o->h'.get? b=some o)->tn i h'
 item:∀(X:Cx),X.prog=P->X.w=w->X.K=K->X.calm=true->∀(i:Nat)(pins:List (Addr×Obj)) (s:Shared) (σ:St) (H:Hp) (E:Value->Shared->Prop),Inv X pins σ H s->(∀b∈fp,tM X pins H b)->tn i s.heap->J.go i H ->
  wpAny (model P w) X.A (pyNext (.ref it)) (fun r s1=>∃u,r=some u /\
   wpAny (model P w) X.A (letOwnedTupleGo tg (.ref it) u) (fun _ s2=>∃x H',Inv X pins σ H' s2/\RelV x u/\J.yld i H x H'/\tn (i+1) s2.heap/\∀b∈fp,H' b=none) E s1) E s
 done:∀(X:Cx),X.prog=P->X.w=w->X.K=K->X.calm=true->∀(i:Nat)(pins:List (Addr×Obj)) (s:Shared) (σ:St) (H:Hp) (E:Value->Shared->Prop),Inv X pins σ H s->(∀b∈fp,tM X pins H b)->tn i s.heap->J.stop i H ->
  wpAny (model P w) X.A (pyNext (.ref it)) (fun r s1=>r=none/\Inv X pins σ H s1) E s
 self:∀(A:Around)(i:Nat)(s:Shared)(Q:Value->Shared->Prop)(E:Value->Shared->Prop),tn i s.heap->Q (.ref it) s->wpAny (model P w) A (pyIter (.ref it)) Q E s
abbrev TI:=St->Hp->(It->Hp->Prop)->Prop
def PIE (X:Cx)(pins:List (Addr×Obj))(σ:St)(tg:Expr)(R:It->Hp->Prop)(itv:Value)(s2:Shared):Prop:=
 ∃(it:Addr)(fp:List Addr)(tn:Nat->Heap->Prop)(J:It)(H':Hp),itv=.ref it/\Inv X pins σ H' s2/\Turn X.prog X.w X.K tg J fp it tn/\tn 0 s2.heap/\(∀b∈fp,tM X pins H' b)/\R J H'
def PI (X:Cx)(tg iter:Expr)(wi:TI):Prop:=
 ∀(pins:List (Addr×Obj)) (s:Shared) (σ:St) (H:Hp) (R:It->Hp->Prop),Inv X pins σ H s->wi σ H R ->
  wpAny (model X.prog X.w) X.A (eval iter X.env) (fun v s1=>wpAny (model X.prog X.w) X.A (pyIter v) (PIE X pins σ tg R) X.xe s1) X.xe s
theorem Ur {M:Model}{A:Around}{E:Value->Shared->Prop}{s:Shared}{tg:Expr}{it:Addr}{u:Value}{o:Obj}{n:String}{vs:Array Value}{Q:Unit->Shared->Prop}(ho:s.heap.get? it=some o)(hc:o.cls=.type n)(hd:o.data=.fields vs)
  (hn:["enumerate","zip","dict_itemiterator","dict_reverseitemiterator","odict_iterator","itertools.zip_longest","itertools.pairwise"].contains n=false) (hQ:Q () s):wpAny M A (letOwnedTupleGo tg (.ref it) u) Q E s:=by
 unfold letOwnedTupleGo;cases tg <;> first
  | exact wpAny_pure hQ
  | (cases u <;> first
    | exact wpAny_pure hQ
    | (refine wpAny_bind (wpAny_load ho ?_)
       rw[hc,hd];show wpAny M A (if (["enumerate","zip","dict_itemiterator","dict_reverseitemiterator","odict_iterator","itertools.zip_longest","itertools.pairwise"].contains n&&vs[0]? == some (rawInt _))=true then _ else _) Q E s;rw[if_neg (by intro h;rw[hn,Bool.false_and] at h;cases h)];exact wpAny_pure hQ))
def Itl (K:PySem.W.Frag)(a:Addr):It:=
 ⟨fun i H=>∃xs x,SqL K H a xs/\xs[i]?=some x,fun i H x H'=>H'=H/\∀xs,SqL K H a xs->xs[i]?=some x,fun i H=>∃xs,SqL K H a xs/\xs.length<=i⟩
def Itt (K:PySem.W.Frag)(a:Addr):It:=
 ⟨fun i H=>∃xs x,SqT K H a xs/\xs[i]?=some x,fun i H x H'=>H'=H/\∀xs,SqT K H a xs->xs[i]?=some x,fun i H=>∃xs,SqT K H a xs/\xs.length<=i⟩
def Itr (lo:Int)(n:Nat):It:=⟨fun i _=>i<n,fun i H x H'=>H'=H/\x=.int (lo+i),fun i _=>n<=i⟩
theorem Mg {P:Program}{w:World}{K:PySem.W.Frag}{tg:Expr}(a it:Addr):Turn P w K tg (Itl K a) [it] it (fun i h=>h.IsListIter it a i) where
 mem:=by simp
 obj:=fun i h st b hb=>by
  have e:b=it:=by simpa using hb
  subst e;obtain⟨o,e,c,d⟩:=st;exact⟨o,e,fun v z=>by rw[d] at z;cases z⟩
 keep:=fun i h h' st k=>st.at fun o e=>k it (by simp) o e
 item:=by
  intro X hP hw hK hc i pins s σ H E I hf st hg;subst hP hw hK;obtain⟨xs,x,hq,hx⟩:=hg;obtain⟨its,rv,p,hz⟩:=I.list hq;obtain⟨u,hu,ru⟩:=rv.get hx;obtain⟨f0,f1,f2,f3,f4,f5⟩:=hf it (by simp);refine wpAny_pyNext_list_item st p.isList (x:=u) (by simpa using hu) fun h' st' sb=>?_;have I1:Inv X pins σ H { s with heap:=h' }:=I.turned (t':=s.toks) (fun b o hb e=>(sb.2 b hb).trans e) f0 f1 f3 f4 f5;obtain⟨o,e,c,d⟩:=id st';exact⟨u,rfl,Ur (s:={ s with heap:=h' }) e c d δ ⟨x,H,I1,ru,⟨rfl,fun ys hy=>by rw[I.uO hy hq];exact hx⟩,st',fun b hb=>(hf b hb).1⟩⟩
 done:=by
  intro X hP hw hK hc i pins s σ H E I hf st hg;subst hP hw hK;obtain⟨xs,hq,hx⟩:=hg;obtain⟨its,rv,p,hz⟩:=I.list hq;obtain⟨f0,f1,f2,f3,f4,f5⟩:=hf it (by simp);have hl:=rv.length;exact wpAny_pyNext_list_end (I.ok.hd hc) st p.isList (by simp;omega) fun h' eb=>⟨rfl,I.turned (t':=s.toks) (fun b o hb e=>eb b o hb e) f0 f1 f3 f4 f5⟩
 self:=fun _ _ _ _ _ st h=>wpAny_pyIter_listiter st h
theorem Ie {P:Program}{w:World}{K:PySem.W.Frag}{tg:Expr}(a it:Addr):Turn P w K tg (Itt K a) [it] it (fun i h=>h.IsTupleIter it a i) where
 mem:=by simp
 obj:=fun i h st b hb=>by
  have e:b=it:=by simpa using hb
  subst e;obtain⟨o,e,c,d⟩:=st;exact⟨o,e,fun v z=>by rw[d] at z;cases z⟩
 keep:=fun i h h' st k=>st.at fun o e=>k it (by simp) o e
 item:=by
  intro X hP hw hK hc i pins s σ H E I hf st hg;subst hP hw hK;obtain⟨xs,x,hq,hx⟩:=hg;obtain⟨its,rv,p,hz⟩:=I.tuple hq;obtain⟨u,hu,ru⟩:=rv.get hx;obtain⟨f0,f1,f2,f3,f4,f5⟩:=hf it (by simp);refine wpAny_pyNext_tuple_item st (show s.heap.IsTuple a its.toArray from p) (x:=u) (by simpa using hu) fun h' st' sb=>?_;have I1:Inv X pins σ H { s with heap:=h' }:=I.turned (t':=s.toks) (fun b o hb e=>(sb.2 b hb).trans e) f0 f1 f3 f4 f5;obtain⟨o,e,c,d⟩:=id st';exact⟨u,rfl,Ur (s:={ s with heap:=h' }) e c d δ ⟨x,H,I1,ru,⟨rfl,fun ys hy=>by rw[I.vz hy hq];exact hx⟩,st',fun b hb=>(hf b hb).1⟩⟩
 done:=by
  intro X hP hw hK hc i pins s σ H E I hf st hg;subst hP hw hK;obtain⟨xs,hq,hx⟩:=hg;obtain⟨its,rv,p,hz⟩:=I.tuple hq;obtain⟨f0,f1,f2,f3,f4,f5⟩:=hf it (by simp);have hl:=rv.length;exact wpAny_pyNext_tuple_end (I.ok.hd hc) st (show s.heap.IsTuple a its.toArray from p) (by simp;omega) fun h' eb=>⟨rfl,I.turned (t':=s.toks) (fun b o hb e=>eb b o hb e) f0 f1 f3 f4 f5⟩
 self:=fun _ _ _ _ _ st h=>wpAny_pyIter_tupleiter st h
theorem Ig {P:Program}{w:World}{K:PySem.W.Frag}{tg:Expr}(it:Addr)(lo:Int)(n:Nat):Turn P w K tg (Itr lo n) [it] it (fun i h=>IsRangeIter h it (lo+(i:Nat)*1) ((n:Int)-(i:Nat)) 1) where
 mem:=by simp
 obj:=fun i h st b hb=>by
  have e:b=it:=by simpa using hb
  subst e;exact⟨_,st,fun v z=>by
   have z':Data.fields _=Data.cell v:=z;cases z'⟩
 keep:=fun i h h' st k=>k it (by simp) _ st
 item:=by
  intro X hP hw hK hc i pins s σ H E I hf st hg;subst hP hw hK;obtain⟨f0,f1,f2,f3,f4,f5⟩:=hf it (by simp);have W:=Walks.range (prog:=X.prog) (w:=X.w) (I.ok.hd hc) it lo 1 n;refine W.item i s _ _ hg st fun v h' tk hv st' kk=>?_;obtain⟨t,rfl⟩:=hv;have I1:Inv X pins σ H { s with heap:=h',toks:=tk }:=I.turned (fun b o hb e=>kk b o (by simpa using hb) e) f0 f1 f3 f4 f5;refine⟨_,rfl,Ur (s:={ s with heap:=h',toks:=tk }) (n := "range_iterator") st' rfl rfl δ ⟨.int (lo+i),H,I1,⟨t,?_⟩,⟨rfl,rfl⟩,st',fun b hb=>(hf b hb).1⟩⟩;rw[Int.mul_one]
 done:=by
  intro X hP hw hK hc i pins s σ H E I hf st hg;subst hP hw hK;obtain⟨f0,f1,f2,f3,f4,f5⟩:=hf it (by simp);exact wpAny_pyNext_range_end (I.ok.hd hc) st (by have:n<=i:=hg;omega) fun h' eb=>⟨rfl,I.turned (t':=s.toks) (fun b o hb e=>eb b o hb e) f0 f1 f3 f4 f5⟩
 self:=fun _ _ _ _ _ st h=>wpAny_pyIter_rangeiter st h
section
variable {X:Cx}{tg:Expr}
theorem Gd {pins:List (Addr×Obj)}{σ:St}{H:Hp}{s:Shared}{R:It->Hp->Prop}{E:Value->Shared->Prop}{lo hi:Int}{t u v:Tok}{tk:Nat}(I:Inv X pins σ H s)(h1:-(2^62)<=lo)(h2:lo<2^62)(h3:-(2^62)<=hi)(h4:hi<2^62)
  (q:R (Itr lo (hi-lo).toNat) H):wpAny (model X.prog X.w) X.A (pyIter (.ref s.heap.objs.size)) (PIE X pins σ tg R) E { s with heap:=s.heap.push { cls:=.type "range",data:=.fields #[.int lo t,.int hi u,.int 1 v] },toks:=tk }:=by
 refine wpAny_pyIter_range (IsRange.new ..) (small_one h1 h2 h3 h4) ?_;have I1:Inv X pins σ H { s with heap:=s.heap.push { cls:=.type "range",data:=.fields #[.int lo t,.int hi u,.int 1 v] },toks:=tk }:=I.kept fun b o e=>get?_push_of_some _ e;refine⟨(s.heap.push { cls:=.type "range",data:=.fields #[.int lo t,.int hi u,.int 1 v] }).objs.size,[(s.heap.push { cls:=.type "range",data:=.fields #[.int lo t,.int hi u,.int 1 v] }).objs.size],_,_,H,rfl,
  I1.kept (t':=tk) fun b o e=>get?_push_of_some _ e,Ig _ lo (hi-lo).toNat,?_,fun b hb=>?_,q⟩
 ·have e1:lo+((0:Nat):Int)*1=lo:=by simp
  have e2:(((hi-lo).toNat:Nat):Int)-((0:Nat):Int)=Builtin.Range.rangeSize lo hi 1:=by rw[rangeSize_one];split <;> omega
  show IsRangeIter _ _ (lo+((0:Nat):Int)*1) ((((hi-lo).toNat:Nat):Int)-((0:Nat):Int)) 1;rw[e1,e2];exact get?_push_size _ rfl
 ·have e:b=(s.heap.push { cls:=.type "range",data:=.fields #[.int lo t,.int hi u,.int 1 v] }).objs.size:=by simpa using hb
  subst e;exact I1.Uy (Nat.le_refl _) (I1.hok.fresh (Nat.le_refl _))
def qg (ta:TA):TI:=fun σ H R=>ta σ H fun vs H1=>∃j:Int,vs=[.int j]/\-(2^62)<=j/\j<2^62/\R (Itr 0 j.toNat) H1
def Ul (ta:TA):TI:=fun σ H R=>ta σ H fun vs H1=>∃i j:Int,vs=[.int i,.int j]/\(-(2^62)<=i/\i<2^62/\-(2^62)<=j/\j<2^62)/\R (Itr i (j-i).toNat) H1
theorem Nb {a:Expr}{ta:TA}{p pos:Pos}(hg:Gl X "range") (hm:X.mg "range" = none) (ha:PA X [a] ta) (hs:starEach [a] X.env=[(false,eval a X.env)]:=by rfl):PI X tg (.Call (.Name "range" p) [a] [] pos) (qg ta):=by
 intro pins s σ H R I h;refine Call_ (lE I hg hm boot_range (PyProof.Rows.callWith_type1 (thA (ha pos pins s σ H _ I h) fun us s1 vs H1 I1 r1 q1=>?_) hs rfl));obtain⟨j,e,q1,q2,q⟩:=q1;subst e;cases r1 with
 | cons r rr=>
  cases rr;obtain⟨t,rfl⟩:=r;exact call_range_1 (Gd I1 ω ω q1 q2 (by simpa using q))
theorem M9 {a b:Expr}{ta:TA}{p pos:Pos}(hg:Gl X "range") (hm:X.mg "range" = none) (ha:PA X [a,b] ta) (hs:starEach [a,b] X.env=[(false,eval a X.env),(false,eval b X.env)]:=by rfl) (hs2:starEach [b] X.env=[(false,eval b X.env)]:=by rfl) :
  PI X tg (.Call (.Name "range" p) [a,b] [] pos) (Ul ta):=by
 intro pins s σ H R I h;refine Call_ (lE I hg hm boot_range (PyProof.Rows.callWith_type1 (thA (ha pos pins s σ H _ I h) fun us s1 vs H1 I1 r1 q1=>?_) (by rw[hs,hs2]) (by rw[hs2];rfl)));obtain⟨i,j,e,⟨q1,q2,q3,q4⟩,q⟩:=q1;subst e;cases r1 with
 | cons r rr=>
  cases rr with
  | cons r' rr=>
   cases rr;obtain⟨t,rfl⟩:=r;obtain⟨t',rfl⟩:=r';exact call_range_2 (Gd I1 q1 q2 q3 q4 q)
def Wc (wi:TI)(g:TG)(tb:TS):TS:=fun D σ H=>wi σ H fun J H1=>∃W:Nat->Nat->St->Hp->Prop,(∃m,W 0 m σ H1)/\∀i m σ H,W i m σ H ->
 (J.stop i H/\D.nx σ H)\/(J.go i H/\∃N:St->Hp->Prop,(∀σ' H',N σ' H'->∃m',m'<m/\W (i+1) m' σ' H')/\∀x H',J.yld i H x H'->g x σ H' fun σ2 H2=>tb { D with nx:=N,ct:=N,bk:=D.nx } σ2 H2)
def gR (fp:List Addr)(h:Heap):List (Addr×Obj):=fp.filterMap fun b=>(h.get? b).map fun o=>(b,o)
theorem jq {fp:List Addr}{h:Heap}{b:Addr}{o:Obj}(hb:b∈fp)(e:h.get? b=some o):(b,o)∈gR fp h:=List.mem_filterMap.mpr ⟨b,hb,by rw[e];rfl⟩
theorem qR {fp:List Addr}{h:Heap}{p:Addr×Obj}(hp:p∈gR fp h):p.1∈fp/\h.get? p.1=some p.2:=by
 obtain⟨b,hb,e⟩:=List.mem_filterMap.mp hp;cases q:h.get? b with
 | none=>rw[q] at e;cases e
 | some o=>
  rw[q] at e;have e':(b,o)=p:=Option.some.inj e;subst e';exact⟨hb,q⟩
theorem Inv.pinned {pins:List (Addr×Obj)}{σ:St}{H:Hp}{s:Shared}{fp:List Addr}(I:Inv X pins σ H s)(hf:∀b∈fp,tM X pins H b)(ho:∀b∈fp,∃o,s.heap.get? b=some o/\∀v,o.data≠.cell v):Inv X (pins++gR fp s.heap) σ H s:=
 I.lV fun p hp=>(mem_append.mp hp).elim (fun z=>I.pin p (mem_append_right _ z)) fun z=>by
  obtain⟨hb,e⟩:=qR z;obtain⟨f0,f1,f2,_⟩:=hf p.1 hb;obtain⟨o,e',d⟩:=ho p.1 hb;rw[e] at e';cases e';exact⟨e,f0,f1,f2,d⟩
theorem Inv.j6 {pins pl:List (Addr×Obj)}{σ:St}{H:Hp}{s:Shared}(I:Inv X (pins++pl) σ H s):Inv X pins σ H s:=I.lV fun p hp=>I.pin p (mem_append_right _ (mem_append_left _ hp))
theorem aay {iter:Expr}{body:List Stmt}{wi:TI}{g:TG}{tb:TS}{pos:Pos}(hp:PassesOwn (model X.prog X.w) X.A X.env X.xe)(hc:X.calm=true)(hi:PI X tg iter wi)(hg:PG X tg g)(hb:PSs X body tb)
  (hs:∀x,foldedSetIterable iter X.env x=pure x:=by intro _;rfl):PS X (.For tg iter body [] pos) (Wc wi g tb):=by
 intro pins s σ H D I h;refine wpAny_For (thn (hi pins s σ H _ I h) fun v s1 h1=>thn h1 fun itv s2 h2=>?_) hs;obtain⟨it,fp,tn,J,H2,e,I2,T,st2,f2,W,⟨m0,w0⟩,turn⟩:=h2;subst e
 -- what stays true of the iterator's objects through the loop
 have stat:∀{H':Hp},(∀b∈fp,H' b=none)->∀b∈fp,tM X pins H' b:=fun hn b hb=>⟨hn b hb,(f2 b hb).2⟩;refine codeAny_forLoop_any (fun n s'=>∃i σ' H',Inv X pins σ' H' s'/\tn i s'.heap/\(∀b∈fp,H' b=none)/\W i n σ' H') ?_ m0 ⟨0,σ,H2,I2,st2,fun b hb=>(f2 b hb).1,w0⟩;rintro n s3 ⟨i,σ3,H3,I3,st3,fr3,w3⟩;rcases turn i n σ3 H3 w3 with⟨stop,qn⟩|⟨go,N,hN,step⟩
 ·refine wpAny_passesOwn hp (thn (T.done X rfl rfl rfl hc i pins s3 σ3 H3 X.xe I3 (stat fr3) st3 stop) fun r s4 ⟨hr,I4⟩=>?_);subst hr;exact wpAny_execs_nil ⟨σ3,H3,I4,qn⟩
 ·refine wpAny_passesOwn hp (thn (T.item X rfl rfl rfl hc i pins s3 σ3 H3 X.xe I3 (stat fr3) st3 go) fun r s4 ⟨u,hr,h4⟩=>?_);subst hr;refine wpAny_passesOwn hp (thn h4 fun _ s5 ⟨x,H5,I5,r5,y5,st5,fr5⟩=>?_);have I5':=I5.pinned (stat fr5) (T.obj _ _ st5);refine wpAny_passesOwn hp (thn (hg _ s5 σ3 H5 x u _ I5' r5 (step x H5 y5)) fun _ s6 ⟨σ6,H6,I6,q6⟩=>?_);refine wpAny_passesOwn hp (thn (hb _ s6 σ6 H6 _ I6 q6) fun f s7 q7=>?_);have again:∀{σ7:St}{H7:Hp},Inv X (pins++gR fp s5.heap) σ7 H7 s7->N σ7 H7->∃m,m<n/\∃i σ' H',Inv X pins σ' H' s7/\tn i s7.heap/\(∀b∈fp,H' b=none)/\W i m σ' H':=fun {σ7 H7} I7 n7=>by
   obtain⟨m',hm,w7⟩:=hN σ7 H7 n7;refine⟨m',hm,i+1,σ7,H7,I7.j6,T.keep _ _ _ st5 fun b hb o e=>(I7.pin (b,o) (mem_append_right _ (mem_append_right _ (jq hb e)))).1,fun b hb=>?_,w7⟩;obtain⟨o,e,d⟩:=T.obj _ _ st5 b hb;exact(I7.pin (b,o) (mem_append_right _ (mem_append_right _ (jq hb e)))).2.1
  cases f with
  | next=>obtain⟨σ7,H7,I7,n7⟩:=q7;exact again I7 n7
  | cont=>obtain⟨σ7,H7,I7,n7⟩:=q7;exact again I7 n7
  | brk=>obtain⟨σ7,H7,I7,q7⟩:=q7;exact⟨σ7,H7,I7.j6,q7⟩
  | ret v=>obtain⟨x7,σ7,H7,I7,r7,q7⟩:=q7;exact⟨x7,σ7,H7,I7.j6,r7,q7⟩
end
theorem Uz {K:PySem.W.Frag}{a:Addr}{xs:List V}{g:TG}{tb:TS}{D:Ends}{σ:St}{H:Hp}(Pv:Nat->St->Hp->Prop)(h0:Pv 0 σ H)(hl:∀i σ H,i<=xs.length->Pv i σ H->SqL K H a xs)
  (hs:∀i x σ H,xs[i]?=some x->Pv i σ H->g x σ H fun σ2 H2=>tb { D with nx:=Pv (i+1),ct:=Pv (i+1),bk:=D.nx } σ2 H2) (hd:∀σ H,Pv xs.length σ H->D.nx σ H) :
  ∃W:Nat->Nat->St->Hp->Prop,(∃m,W 0 m σ H)/\∀i m σ H,W i m σ H ->
   ((Itl K a).stop i H/\D.nx σ H)\/((Itl K a).go i H/\∃N:St->Hp->Prop,(∀σ' H',N σ' H'->∃m',m'<m/\W (i+1) m' σ' H')/\∀x H',(Itl K a).yld i H x H'->g x σ H' fun σ2 H2=>tb { D with nx:=N,ct:=N,bk:=D.nx } σ2 H2):=by
 refine⟨fun i m σ H=>m=xs.length-i/\i<=xs.length/\Pv i σ H,⟨xs.length,by simp,Nat.zero_le _,h0⟩,?_⟩;rintro i m σ H ⟨rfl,hi,p⟩;have q:=hl i σ H hi p;by_cases hlt:i<xs.length
 ·refine .inr ⟨⟨xs,xs[i],q,by simp [hlt]⟩,Pv (i+1),fun σ' H' p'=>⟨xs.length-(i+1),ω,rfl,hlt,p'⟩,fun x H' y=>?_⟩;obtain⟨e,y⟩:=y;subst e;exact hs i x σ _ (y xs q) p
 ·have e:i=xs.length:=ω;subst e;exact .inl ⟨⟨xs,q,Nat.le_refl _⟩,hd σ H p⟩
theorem Oi {lo:Int}{n:Nat}{g:TG}{tb:TS}{D:Ends}{σ:St}{H:Hp}(Pv:Nat->St->Hp->Prop)(h0:Pv 0 σ H)
  (hs:∀i σ H,i<n->Pv i σ H->g (.int (lo+i)) σ H fun σ2 H2=>tb { D with nx:=Pv (i+1),ct:=Pv (i+1),bk:=D.nx } σ2 H2) (hd:∀σ H,Pv n σ H->D.nx σ H) :
  ∃W:Nat->Nat->St->Hp->Prop,(∃m,W 0 m σ H)/\∀i m σ H,W i m σ H ->
   ((Itr lo n).stop i H/\D.nx σ H)\/((Itr lo n).go i H/\∃N:St->Hp->Prop,(∀σ' H',N σ' H'->∃m',m'<m/\W (i+1) m' σ' H')/\∀x H',(Itr lo n).yld i H x H'->g x σ H' fun σ2 H2=>tb { D with nx:=N,ct:=N,bk:=D.nx } σ2 H2):=by
 refine⟨fun i m σ H=>m=n-i/\i<=n/\Pv i σ H,⟨n,by simp,Nat.zero_le _,h0⟩,?_⟩;rintro i m σ H ⟨rfl,hi,p⟩;by_cases hlt:i<n
 ·refine .inr ⟨hlt,Pv (i+1),fun σ' H' p'=>⟨n-(i+1),ω,rfl,hlt,p'⟩,fun x H' y=>?_⟩;obtain⟨e,y⟩:=y;subst e y;exact hs i σ _ hlt p
 ·have e:i=n:=ω;subst e;exact .inl ⟨Nat.le_refl _,hd σ H p⟩
abbrev R2:=V->V->Hp->VK->Prop
def OpR (X:Cx)(f:Value->Value->Sem Value)(r:R2):Prop:=
 ∀(pins:List (Addr×Obj)) (s:Shared) (σ:St) (H:Hp) (x y:V) (v u:Value) (Q:VK),Inv X pins σ H s->RelV x v->RelV y u->r x y H Q ->
  wpAny (model X.prog X.w) X.A (f v u) (EP X pins σ Q) X.xe s
def UnR (X:Cx)(f:Value->Sem Value)(r:V->Hp->VK->Prop):Prop:=
 ∀(pins:List (Addr×Obj)) (s:Shared) (σ:St) (H:Hp) (x:V) (v:Value) (Q:VK),Inv X pins σ H s->RelV x v->r x H Q ->
  wpAny (model X.prog X.w) X.A (f v) (EP X pins σ Q) X.xe s
def dR (X:Cx)(f:Value)(r:List V->Hp->VK->Prop):Prop:=
 ∀(pins:List (Addr×Obj)) (s:Shared) (σ:St) (H:Hp) (xs:List V) (us:List Value) (Q:VK),Inv X pins σ H s->Vals xs us->r xs H Q ->
  wpAny (model X.prog X.w) X.A (call f us) (EP X pins σ Q) X.xe s
def acV (X:Cx)(r:V->Hp->(Bool->Hp->Prop)->Prop):Prop:=
 ∀(pins:List (Addr×Obj)) (s:Shared) (σ:St) (H:Hp) (x:V) (v:Value) (Q:Bool->Hp->Prop),Inv X pins σ H s->RelV x v->r x H Q ->
  wpAny (model X.prog X.w) X.A (truthy v) (TP X pins σ Q) X.xe s
def tOp (r:R2)(ta tb:TE):TE:=fun σ H Q=>ta σ H fun x H1=>tb σ H1 fun y H2=>r x y H2 Q
def tUn (r:V->Hp->VK->Prop)(ta:TE):TE:=fun σ H Q=>ta σ H fun x H1=>r x H1 Q
def rI (C:Int->Int->Prop)(g:Int->Int->V):R2:=fun x y H Q=>∃i j,x=.int i/\y=.int j/\C i j/\Q (g i j) H
def rI0 (g:Int->Int->V):R2:=fun x y H Q=>∃i j,x=.int i/\y=.int j/\Q (g i j) H
def rU (g:Int->V):V->Hp->VK->Prop:=fun x H Q=>∃i,x=.int i/\Q (g i) H
section
variable {X:Cx}{a b c:Expr}{ta tb tc:TE}{pos:Pos}
theorem abI (ha:PE X a ta)(hb:PE X b tb){pins:List (Addr×Obj)}{s:Shared}{σ:St}{H:Hp}{R:V->V->Hp->Prop}(I:Inv X pins σ H s)
  (h:ta σ H fun x H1=>tb σ H1 fun y H2=>R x y H2) {Q:Value->Shared->Prop} {f:Value->Value->Sem Value}
  (hf:∀v u s2 x y H2,Inv X pins σ H2 s2->RelV x v->RelV y u->R x y H2->wpAny (model X.prog X.w) X.A (f v u) Q X.xe s2) :
  wpAny (model X.prog X.w) X.A (eval a X.env) (fun v s₁=>wpAny (model X.prog X.w) X.A (eval b X.env) (fun u s₂=>wpAny (model X.prog X.w) X.A (f v u) Q X.xe s₂) X.xe s₁) X.xe s:=by
 refine thE (ha pins s σ H _ I h) fun v s1 x H1 I1 r1 q1=>?_;refine thE (hb pins s1 σ H1 _ I1 q1) fun u s2 y H2 I2 r2 q2=>?_;exact hf v u s2 x y H2 I2 r1 r2 q2
theorem ab3 {op:Operator}{r:R2}(ho:OpR X (binaryOp op) r)(ha:PE X a ta)(hb:PE X b tb):PE X (.BinOp a op b pos) (tOp r ta tb):=by
 intro pins s σ H Q I h;exact wpAny_BinOp (abI ha hb I h fun v u s2 x y H2 I2 rx ry q=>ho pins s2 σ H2 x y v u Q I2 rx ry q)
theorem ab2 {op:UnaryOp}{r:V->Hp->VK->Prop}(ho:UnR X (unaryOp op) r)(ha:PE X a ta):PE X (.UnaryOp op a pos) (tUn r ta):=by
 intro pins s σ H Q I h;exact UnaryOp_ (thE (ha pins s σ H _ I h) fun v s1 x H1 I1 r1 q1=>ho pins s1 σ H1 x v Q I1 r1 q1)
theorem opI {f:Value->Value->Sem Value}{C:Int->Int->Prop}{g:Int->Int->Int}
  (rule:∀(i j:Int)(t u:Tok)(s:Shared)(Q:Value->Shared->Prop)(E:Value->Shared->Prop),C i j->Q (.int (g i j) s.toks) { s with toks:=s.toks+1 }->wpAny (model X.prog X.w) X.A (f (.int i t) (.int j u)) Q E s) :
  OpR X f (rI C fun i j=>.int (g i j)):=by
 intro pins s σ H x y v u Q I rx ry h;obtain⟨i,j,rfl,rfl,hc,q⟩:=h;obtain⟨t,rfl⟩:=rx;obtain⟨t',rfl⟩:=ry;exact rule i j t t' s _ _ hc ⟨.int (g i j),H,I.tok _,⟨_,rfl⟩,q⟩
theorem aaR {f:Value->Value->Sem Value}{g:Int->Int->Int}
  (rule:∀(i j:Int)(t u:Tok)(s:Shared)(Q:Value->Shared->Prop)(E:Value->Shared->Prop),Q (.int (g i j) s.toks) { s with toks:=s.toks+1 }->wpAny (model X.prog X.w) X.A (f (.int i t) (.int j u)) Q E s) :
  OpR X f (rI0 fun i j=>.int (g i j)):=by
 intro pins s σ H x y v u Q I rx ry h;obtain⟨i,j,rfl,rfl,q⟩:=h;obtain⟨t,rfl⟩:=rx;obtain⟨t',rfl⟩:=ry;exact rule i j t t' s _ _ ⟨.int (g i j),H,I.tok _,⟨_,rfl⟩,q⟩
theorem Xu {f:Value->Value->Sem Value}{g:Int->Int->Bool}
  (rule:∀(i j:Int)(t u:Tok)(s:Shared)(Q:Value->Shared->Prop)(E:Value->Shared->Prop),Q (.bool (g i j)) s->wpAny (model X.prog X.w) X.A (f (.int i t) (.int j u)) Q E s) :
  OpR X f (rI0 fun i j=>.bl (g i j)):=by
 intro pins s σ H x y v u Q I rx ry h;obtain⟨i,j,rfl,rfl,q⟩:=h;obtain⟨t,rfl⟩:=rx;obtain⟨t',rfl⟩:=ry;exact rule i j t t' s _ _ ⟨.bl (g i j),H,I,rfl,q⟩
def Zm (i j:Int):Prop:=0<=j/\j<=1000000/\i.natAbs<2^64
def O7 (i j:Int):Prop:=(-(2^64)<i/\i<2^64)\/(-(2^64)<j/\j<2^64)
theorem O7.ok {i j:Int}(h:O7 i j):IntMulOk i j:=by
 rcases h with⟨h1,h2⟩|⟨h1,h2⟩
 ·exact .of_left (intBits_le_64 h1 h2)
 ·exact .of_right (intBits_le_64 h1 h2)
theorem HX (k:Nat):(0:Int)<=2^k:=by
 rw[two_pow_cast];exact Int.natCast_nonneg _
theorem aaQ:OpR X (binaryOp .Add) (rI0 fun i j=>.int (i+j)):=aaR fun _ _ _ _ _ _ _ q=>add_int q
theorem dY:OpR X (binaryOp .Sub) (rI0 fun i j=>.int (i-j)):=aaR fun _ _ _ _ _ _ _ q=>sub_int q
theorem aaO:OpR X (binaryOp .Mult) (rI O7 fun i j=>.int (i*j)):=opI fun _ _ _ _ _ _ _ hc q=>mul_int q hc.ok
theorem jG:OpR X (binaryOp .Mod) (rI (fun _ j=>0<j) fun i j=>.int (i%j)):=opI fun i j _ _ _ _ _ hc q=>by
 have h1:(0:Int)<j:=hc;exact mod_int' ω (by rw[Int.fmod_eq_emod_of_nonneg i ω];exact q)
theorem Sg:OpR X (binaryOp .Pow) (rI Zm fun i j=>.int (i^j.toNat)):=opI fun _ _ _ _ _ _ _ hc q=>pow_int_small hc.1 hc.2.1 hc.2.2 q
theorem dJ:OpR X (binaryOp .LShift) (rI Zm fun i j=>.int (i*2^j.toNat)):=opI fun _ _ _ _ _ _ _ hc q=>lshift_int_small hc.1 hc.2.1 hc.2.2 q
theorem Du:OpR X (binaryOp .RShift) (rI (fun _ j=>0<=j) fun i j=>.int (i/2^j.toNat)):=opI fun i j _ _ _ _ _ hc q=>
 rshift_int hc (by rw[Int.fdiv_eq_ediv_of_nonneg i (HX _)];exact q)
theorem jH:OpR X (binaryOp .BitAnd) (rI0 fun i j=>.int (Builtin.bitAnd i j)):=aaR fun _ _ _ _ _ _ _ q=>and_int q
theorem unI {f:Value->Sem Value}{g:Int->Int}
  (rule:∀(i:Int)(t:Tok)(s:Shared)(Q:Value->Shared->Prop)(E:Value->Shared->Prop),Q (.int (g i) s.toks) { s with toks:=s.toks+1 }->wpAny (model X.prog X.w) X.A (f (.int i t)) Q E s) :
  UnR X f (rU fun i=>.int (g i)):=by
 intro pins s σ H x v Q I rx h;obtain⟨i,rfl,q⟩:=h;obtain⟨t,rfl⟩:=rx;exact rule i t s _ _ ⟨.int (g i),H,I.tok _,⟨_,rfl⟩,q⟩
theorem jE:UnR X (unaryOp .USub) (rU fun i=>.int (-i)):=unI fun _ _ _ _ _ q=>neg_int q
end
def Mx:V->V->Bool
 | .non,.non=>true | .non,.int _=>true | .int _,.non=>true | .non,.bl _=>true | .bl _,.non=>true | .non,.str _=>true | .str _,.non=>true
 | .int _,.int _=>true | .bl _,.bl _=>true | .str _,.str _=>true | .byt _,.byt _=>true
 | .int _,.str _=>true | .str _,.int _=>true | .bl _,.str _=>true | .str _,.bl _=>true
 | _,_=>false
def rEq:R2:=fun x y H Q=>Mx x y=true/\Q (.bl (decide (x=y))) H
def rNe:R2:=fun x y H Q=>Mx x y=true/\Q (.bl (!decide (x=y))) H
theorem Lp {i j:Int}:decide (V.int i=V.int j)=(i == j):=by
 rw[Bool.eq_iff_iff];simp
theorem Va {i j:Bool}:decide (V.bl i=V.bl j)=(i == j):=by
 rw[Bool.eq_iff_iff];simp
theorem Ln {i j:Str}:decide (V.str i=V.str j)=(i == j):=by
 rw[Bool.eq_iff_iff];simp
theorem Lq {i j:Array UInt8}:decide (V.byt i=V.byt j)=(i.toList == j.toList):=by
 rw[Bool.eq_iff_iff];cases i;cases j;simp
section
variable {X:Cx}{a b c:Expr}{ta tb tc:TE}{pos:Pos}
theorem cD {pins:List (Addr×Obj)}{σ:St}{H:Hp}{s:Shared}{Q:VK}{k k':Bool}(I:Inv X pins σ H s)(q:Q (.bl k) H)(e:k=k'):EP X pins σ Q (.bool k') s:=by
 subst e;exact⟨.bl k,H,I,rfl,q⟩
theorem acf:OpR X (compareOp .Eq) rEq:=by
 intro pins s σ H x y v u Q I rx ry h;obtain⟨hs,q⟩:=h;cases x with
 | non=>
  cases rx;cases y with
  | non=>cases ry;exact PySem.EqNone.eq_none_none (cD I q (by simp))
  | bl j=>cases ry;exact PySem.EqNone.eq_none_bool (cD I q (by simp))
  | int j=>obtain⟨t',rfl⟩:=ry;exact PySem.EqNone.eq_none_int (cD I q (by simp))
  | str j=>obtain⟨t',rfl⟩:=ry;exact PySem.EqNone.eq_none_str (cD I q (by simp))
  | _=>exact absurd (show false=true from hs) Bool.false_ne_true
 | bl i=>
  cases rx;cases y with
  | non=>cases ry;exact PySem.EqNone.eq_bool_none (cD I q (by simp))
  | bl j=>cases ry;exact eq_bool (cD I q Va)
  | str j=>obtain⟨t',rfl⟩:=ry;exact PySem.EqMixed.eq_bool_str (cD I q (by simp))
  | _=>exact absurd (show false=true from hs) Bool.false_ne_true
 | int i=>
  obtain⟨t,rfl⟩:=rx;cases y with
  | non=>cases ry;exact PySem.EqNone.eq_int_none (cD I q (by simp))
  | int j=>obtain⟨t',rfl⟩:=ry;exact eq_int (cD I q Lp)
  | str j=>obtain⟨t',rfl⟩:=ry;exact PySem.EqMixed.eq_int_str (cD I q (by simp))
  | _=>exact absurd (show false=true from hs) Bool.false_ne_true
 | str i=>
  obtain⟨t,rfl⟩:=rx;cases y with
  | non=>cases ry;exact PySem.EqNone.eq_str_none (cD I q (by simp))
  | bl j=>cases ry;exact PySem.EqMixed.eq_str_bool (cD I q (by simp))
  | int j=>obtain⟨t',rfl⟩:=ry;exact PySem.EqMixed.eq_str_int (cD I q (by simp))
  | str j=>obtain⟨t',rfl⟩:=ry;exact eq_str (cD I q Ln)
  | _=>exact absurd (show false=true from hs) Bool.false_ne_true
 | byt i=>
  obtain⟨t,rfl⟩:=rx;cases y with
  | byt j=>obtain⟨t',rfl⟩:=ry;exact PySem.W.eq_bytes (cD I q Lq)
  | _=>exact absurd (show false=true from hs) Bool.false_ne_true
 | _=>cases y <;> exact absurd (show false=true from hs) Bool.false_ne_true
theorem ace:OpR X (compareOp .NotEq) rNe:=by
 intro pins s σ H x y v u Q I rx ry h;obtain⟨hs,q⟩:=h;cases x with
 | non=>
  cases rx;cases y with
  | non=>cases ry;exact PySem.EqNone.ne_none_none (cD I q (by simp))
  | bl j=>cases ry;exact PySem.EqNone.ne_none_bool (cD I q (by simp))
  | int j=>obtain⟨t',rfl⟩:=ry;exact PySem.EqNone.ne_none_int (cD I q (by simp))
  | str j=>obtain⟨t',rfl⟩:=ry;exact PySem.EqNone.ne_none_str (cD I q (by simp))
  | _=>exact absurd (show false=true from hs) Bool.false_ne_true
 | bl i=>
  cases rx;cases y with
  | non=>cases ry;exact PySem.EqNone.ne_bool_none (cD I q (by simp))
  | bl j=>cases ry;exact ne_bool (cD I q (congrArg not Va))
  | str j=>obtain⟨t',rfl⟩:=ry;exact PySem.EqMixed.ne_bool_str (cD I q (by simp))
  | _=>exact absurd (show false=true from hs) Bool.false_ne_true
 | int i=>
  obtain⟨t,rfl⟩:=rx;cases y with
  | non=>cases ry;exact PySem.EqNone.ne_int_none (cD I q (by simp))
  | int j=>obtain⟨t',rfl⟩:=ry;exact ne_int (cD I q (congrArg not Lp))
  | str j=>obtain⟨t',rfl⟩:=ry;exact PySem.EqMixed.ne_int_str (cD I q (by simp))
  | _=>exact absurd (show false=true from hs) Bool.false_ne_true
 | str i=>
  obtain⟨t,rfl⟩:=rx;cases y with
  | non=>cases ry;exact PySem.EqNone.ne_str_none (cD I q (by simp))
  | bl j=>cases ry;exact PySem.EqMixed.ne_str_bool (cD I q (by simp))
  | int j=>obtain⟨t',rfl⟩:=ry;exact PySem.EqMixed.ne_str_int (cD I q (by simp))
  | str j=>obtain⟨t',rfl⟩:=ry;exact ne_str (cD I q (congrArg not Ln))
  | _=>exact absurd (show false=true from hs) Bool.false_ne_true
 | byt i=>
  obtain⟨t,rfl⟩:=rx;cases y with
  | byt j=>obtain⟨t',rfl⟩:=ry;exact PySem.W.ne_bytes (cD I q (congrArg not Lq))
  | _=>exact absurd (show false=true from hs) Bool.false_ne_true
 | _=>cases y <;> exact absurd (show false=true from hs) Bool.false_ne_true
theorem pH:OpR X (compareOp .Lt) (rI0 fun i j=>.bl (decide (i<j))):=Xu fun _ _ _ _ _ _ _ q=>lt_int q
theorem uw:OpR X (compareOp .LtE) (rI0 fun i j=>.bl (decide (i<=j))):=Xu fun _ _ _ _ _ _ _ q=>le_int q
theorem KY:OpR X (compareOp .Gt) (rI0 fun i j=>.bl (decide (j<i))):=Xu fun _ _ _ _ _ _ _ q=>gt_int q
theorem ZD:OpR X (compareOp .GtE) (rI0 fun i j=>.bl (decide (j<=i))):=Xu fun _ _ _ _ _ _ _ q=>ge_int q
theorem Sq:OpR X (compareOp .Is) (fun x y H Q=>y=.non/\Q (.bl (decide (x=.non))) H):=by
 intro pins s σ H x y v u Q I rx ry h;obtain⟨rfl,q⟩:=h;cases ry;refine is_none_gen (cD I q ?_);cases x <;> first
  | (cases rx;rfl)
  | (obtain⟨t,rfl⟩:=rx;rfl)
theorem KR:OpR X (compareOp .IsNot) (fun x y H Q=>y=.non/\Q (.bl (!decide (x=.non))) H):=by
 intro pins s σ H x y v u Q I rx ry h;obtain⟨rfl,q⟩:=h;cases ry;refine isnot_none_gen (cD I q ?_);cases x <;> first
  | (cases rx;rfl)
  | (obtain⟨t,rfl⟩:=rx;rfl)
theorem aM (b:Expr){op:CmpOp}(h:op≠.In:=by decide)(h2:op≠.NotIn:=by decide):behindInMarks op b=false:=by
 have e1:(op == CmpOp.In)=false:=by cases op <;> first|rfl|exact absurd rfl h
 have e2:(op == CmpOp.NotIn)=false:=by cases op <;> first|rfl|exact absurd rfl h2
 cases b <;> simp [behindInMarks,e1,e2]
theorem Xm {op:CmpOp}{r:R2}(ho:OpR X (compareOp op) r)(ha:PE X a ta)(hb:PE X b tb)(hm:behindInMarks op b=false):PE X (.Compare a [op] [b] pos) (tOp r ta tb):=by
 intro pins s σ H Q I h;exact wpAny_Compare1 (abI ha hb I h fun v u s2 x y H2 I2 rx ry q=>ho pins s2 σ H2 x y v u Q I2 rx ry q) hm
def wD (t:TE):TT:=fun σ H Q=>t σ H fun x H'=>∃k,x=.bl k/\Q k H'
theorem W4 {op:CmpOp}{r:R2}(ho:OpR X (compareOp op) r)(ha:PE X a ta)(hb:PE X b tb)(hm:behindInMarks op b=false):PT X (.Compare a [op] [b] pos) (wD (tOp r ta tb)):=by
 intro pins s σ H Q I h;refine wpAny_isTrue_Compare1 (thE (ha pins s σ H _ I h) fun v s1 x H1 I1 r1 q1=>thE (hb pins s1 σ H1 _ I1 q1) fun u s2 y H2 I2 r2 q2=>
  thn (ho pins s2 σ H2 x y v u _ I2 r1 r2 q2) fun c s3 ⟨z,H3,I3,r3,k,e,q3⟩=>?_) hm
 subst e;cases r3;exact wpAny_truthy_bool ⟨H3,I3,q3⟩
def xX (r r':R2)(ta tb tc:TE):TE:=fun σ H Q=>ta σ H fun x H1=>tb σ H1 fun y H2=>r x y H2 fun z H3=>∃k,z=.bl k /\
 (if k=true then tc σ H3 fun w' H4=>r' y w' H4 Q else Q (.bl false) H3)
theorem R8 {op op':CmpOp}{r r':R2}(ho:OpR X (compareOp op) r)(ho':OpR X (compareOp op') r')(ha:PE X a ta)(hb:PE X b tb)(hc:PE X c tc)
  (hm:lastMarks [op,op'] [b,c]=false:=by with_unfolding_all rfl):PE X (.Compare a [op,op'] [b,c] pos) (xX r r' ta tb tc):=by
 intro pins s σ H Q I h;refine Compare_chain (thE (ha pins s σ H _ I h) fun v s1 x H1 I1 r1 q1=>chain_link (thE (hb pins s1 σ H1 _ I1 q1) fun u s2 y H2 I2 r2 q2=>
  thn (ho pins s2 σ H2 x y v u _ I2 r1 r2 q2) fun d s3 ⟨z,H3,I3,r3,k,e,q3⟩=>?_)) hm
 subst e;cases r3;refine wpAny_truthy_bool ?_;cases k with
 | false=>exact ite_ff ⟨.bl false,H3,I3,rfl,q3⟩
 | true=>exact ite_tt (chain_last (thn (hc pins s3 σ H3 _ I3 q3) fun w' s4 ⟨z',H4,I4,r4,q4⟩=>ho' pins s4 σ H4 y z' u w' Q I4 r2 r4 q4))
theorem RK {op op':CmpOp}{r r':R2}(ho:OpR X (compareOp op) r)(ho':OpR X (compareOp op') r')(ha:PE X a ta)(hb:PE X b tb)(hc:PE X c tc)
  (hm:lastMarks [op,op'] [b,c]=false:=by with_unfolding_all rfl):PT X (.Compare a [op,op'] [b,c] pos) (wD (xX r r' ta tb tc)):=by
 intro pins s σ H Q I h;refine isTrue_chain (thE (ha pins s σ H _ I h) fun v s1 x H1 I1 r1 q1=>test_link (thE (hb pins s1 σ H1 _ I1 q1) fun u s2 y H2 I2 r2 q2=>
  thn (ho pins s2 σ H2 x y v u _ I2 r1 r2 q2) fun d s3 ⟨z,H3,I3,r3,k,e,q3⟩=>?_)) hm
 subst e;cases r3;refine wpAny_truthy_bool ?_;cases k with
 | false=>
  obtain⟨k',e',q'⟩:=q3;cases e';exact ite_ff ⟨H3,I3,q'⟩
 | true=>
  refine ite_tt (test_last (thn (hc pins s3 σ H3 _ I3 q3) fun w' s4 ⟨z',H4,I4,r4,q4⟩=>thn (ho' pins s4 σ H4 y z' u w' _ I4 r2 r4 q4) fun d' s5 ⟨z2,H5,I5,r5,k2,e2,q5⟩=>?_));subst e2;cases r5;exact wpAny_truthy_bool ⟨H5,I5,q5⟩
def acU (K:PySem.W.Frag)(x:V)(H:Hp)(k:Bool):Prop:=
 match x with
 | .non=>k=false
 | .bl b=>k=b
 | .int i=>k=(i != 0)
 | .str y=>y.length<=sizeLine/\k=((y.length:Int) != 0)
 | .byt y=>y.size<=sizeLine/\k=((y.size:Int) != 0)
 | .ref p=>(∃xs,SqL K H p xs/\k=!xs.isEmpty)\/(∃xs,SqT K H p xs/\k=!xs.isEmpty)\/∃kvs,H p=some (.dK kvs)/\k=!kvs.isEmpty
 | _=>False
theorem JC {κ:Type}{kvs:List (κ×V)}{vs:List (κ×Value)}(r:KV kvs vs):(!vs.isEmpty)=!kvs.isEmpty:=by
 cases r <;> rfl
theorem zp {xs:List V}{its:List Value}(r:Vals xs its):(!its.toArray.isEmpty)=!xs.isEmpty:=by
 cases r <;> simp
theorem zf:(sizeLine:Nat)<2^63:=by rw[sizeLine_eq];decide
theorem Z1:acV X (fun x H Q=>∃k,acU X.K x H k/\Q k H):=by
 intro pins s σ H x v Q I rx h;obtain⟨k,e,q⟩:=h;have hl:=zf;have hs:sizeLine=16777216:=sizeLine_eq;cases x with
 | non=>
  cases rx;have e':k=false:=e;subst e';exact truthy_none ⟨H,I,q⟩
 | bl b=>
  cases rx;have e':k=b:=e;subst e';exact wpAny_truthy_bool ⟨H,I,q⟩
 | int i=>
  obtain⟨t,rfl⟩:=rx;have e':k=(i != 0):=e;subst e';exact PySem.P.truthy_int ⟨H,I,q⟩
 | str y=>
  obtain⟨t,rfl⟩:=rx;obtain⟨hy,e'⟩:y.length<=sizeLine/\k=((y.length:Int) != 0):=e;subst e';exact PySem.P.truthy_str ω ⟨H,I.tok _,q⟩
 | byt y=>
  obtain⟨t,rfl⟩:=rx;obtain⟨hy,e'⟩:y.size<=sizeLine/\k=((y.size:Int) != 0):=e;subst e';exact PySem.W.truthy_bytes ω ⟨H,I.tok _,q⟩
 | ref p=>
  cases rx;have e':(∃xs,SqL X.K H p xs/\k=!xs.isEmpty)\/(∃xs,SqT X.K H p xs/\k=!xs.isEmpty)\/∃kvs,H p=some (.dK kvs)/\k=!kvs.isEmpty:=e;rcases e' with⟨xs,hx,e'⟩|⟨xs,hx,e'⟩|⟨kvs,hx,e'⟩
  ·subst e';obtain⟨its,r,pl,hz⟩:=I.list hx;have hlen:=r.length;exact wpAny_truthy_list pl.isList (by simp only[size_toArray];omega) ⟨H,I.tok _,by rw[zp r];exact q⟩
  ·subst e';obtain⟨its,r,pl,hz⟩:=I.tuple hx;have hlen:=r.length;exact truthy_tuple pl (by simp only[size_toArray];omega) ⟨H,I.tok _,by rw[zp r];exact q⟩
  ·subst e';obtain⟨hz,hS,vs,r,m⟩:kvs.length<=sizeLine/\(p == sysModules)=false/\∃vs,KV kvs vs/\s.heap.DictOf (cG X.prog X.w) p vs:=I.hok p _ hx;have hlen:kvs.length=vs.length:=Paired.length r;exact wpAny_truthy_dict hS m ω ⟨H,I.tok _,by rw[JC r];exact q⟩
 | _=>exact(show False from e).elim
theorem vals1 {x:V}{us:List Value}(r:Vals [x] us):∃u,us=[u]/\RelV x u:=by
 cases r with
 | cons r1 r2=>cases r2;exact⟨_,rfl,r1⟩
theorem vals2 {x y:V}{us:List Value}(r:Vals [x,y] us):∃u w',us=[u,w']/\RelV x u/\RelV y w':=by
 cases r with
 | cons r1 r2=>
  cases r2 with
  | cons r3 r4=>cases r4;exact⟨_,_,rfl,r1,r3⟩
theorem G9:dR X (.builtin "abs") (fun xs H Q=>∃i,xs=[.int i]/\Q (.int (if i<0 then -i else i)) H):=by
 intro pins s σ H xs us Q I r h;obtain⟨i,rfl,q⟩:=h;obtain⟨u,rfl,t,rfl⟩:=vals1 r;exact call_abs_int fun u tk=>⟨.int (if i<0 then -i else i),H,I.tok _,⟨_,rfl⟩,q⟩
theorem Ou (hc:X.calm=true):dR X (.builtin "max") (fun xs H Q=>∃i j,xs=[.int i,.int j]/\Q (.int (if j>i then j else i)) H):=by
 intro pins s σ H xs us Q I r h;obtain⟨i,j,rfl,q⟩:=h;obtain⟨u,w',rfl,⟨t,rfl⟩,⟨t',rfl⟩⟩:=vals2 r;refine max_two_ints (I.ok.hd hc) fun h' tk k=>⟨_,H,I.kept k,?_,q⟩;by_cases hj:j>i
 ·rw[if_pos hj,if_pos hj];exact⟨_,rfl⟩
 ·rw[if_neg hj,if_neg hj];exact⟨_,rfl⟩
theorem Ot (hc:X.calm=true):dR X (.builtin "min") (fun xs H Q=>∃i j,xs=[.int i,.int j]/\Q (.int (if j<i then j else i)) H):=by
 intro pins s σ H xs us Q I r h;obtain⟨i,j,rfl,q⟩:=h;obtain⟨u,w',rfl,⟨t,rfl⟩,⟨t',rfl⟩⟩:=vals2 r;refine min_two_ints (I.ok.hd hc) fun h' tk k=>⟨_,H,I.kept k,?_,q⟩;by_cases hj:j<i
 ·rw[if_pos hj,if_pos hj];exact⟨_,rfl⟩
 ·rw[if_neg hj,if_neg hj];exact⟨_,rfl⟩
theorem Cp:dR X (.type "int") (fun xs H Q=>(∃i,xs=[.int i]/\Q (.int i) H)\/∃k,xs=[.bl k]/\Q (.int (if k then 1 else 0)) H):=by
 intro pins s σ H xs us Q I r h;rcases h with⟨i,rfl,q⟩|⟨k,rfl,q⟩
 ·obtain⟨u,rfl,t,rfl⟩:=vals1 r;exact call_int_int ⟨.int i,H,I,⟨_,rfl⟩,q⟩
 ·obtain⟨u,rfl,r1⟩:=vals1 r;cases r1;exact call_int_bool ⟨.int (if k then 1 else 0),H,I.tok _,⟨_,rfl⟩,q⟩
end
structure abP (h:Heap)(x dx C:Addr)(mA:Str->Option Value):Prop where
 obj:h.get? x=some (PySem.W.instObj C dx)
 ns:h.Ns1 dx mA
 ne:dx≠x
theorem NZ {h:Heap}{dx:Addr}{mA:Str->Option Value}(n:h.Ns1 dx mA):∃od,h.get? dx=some od/\∀name,PySem.W.lookIn name od=some (mA name):=by
 obtain⟨o,es,ep,ho,hd,hk,_,hm⟩:=n;refine⟨o,ho,fun name=>?_⟩;have e:=hm name;unfold nsFind findBy at e;rw[<- Array.find?_toList] at e;unfold PySem.W.lookIn;rw[hd];dsimp only;split
 ·rename_i y q;rw[q] at e;exact congrArg some e
 ·rename_i q;rw[q] at e;have a:es.toList.any (·.refKey)=false:=by
   rw[List.any_eq_false];intro y hy;obtain⟨z,t,hkey⟩:=hk y (Array.mem_toList_iff.mp hy);simp [DictEntry.refKey,hkey]
  have a':¬es.toList.any (·.refKey)=true:=by rw[a];exact Bool.false_ne_true
  rw[if_neg a'];exact congrArg some e
theorem abP.look {h:Heap}{x dx C:Addr}{mA:Str->Option Value}(I:abP h x dx C mA):∃od,PySem.W.InstAt h x (PySem.W.instObj C dx) C (some od)/\∀name,PySem.W.lookIn name od=some (mA name):=
 let ⟨od,ho,hl⟩:=NZ I.ns
 ⟨od,⟨I.obj,rfl,rfl,ho⟩,hl⟩
section
variable {P:Program}{w:World}{H H':Hp}{h h':Heap}{a C dx:Addr}{fs fs':List (Str×V)}
theorem Yu (hok:HOk P w H h)(e:H a=some (.ins C dx fs)):∃mA,abP h a dx C mA/\(∀f,J8 (fs.lookup f) (mA f))/\PySem.Within mA (fs.map (·.1))/\fs.length<=1000/\H dx=some (.own a):=by
 obtain⟨d,z,ne,ob,mA,n,r,q⟩:=(show cO P w H h a (.ins C dx fs) from hok a _ e);exact⟨mA,⟨ob,n,ne⟩,r,q,z,d⟩
end
structure Cls (K:PySem.W.Frag)(C:Addr):Prop where
 pg:PySem.W.plainGet K C Str.empty=true
 hd:PySem.W.hasDictIn K C=true
 po:PySem.W.plainOver K C=true
 sa:PySem.W.findIn K (.ref C) "__setattr__" = some (some (.builtin "object.__setattr__"))
theorem Cls.get {K:PySem.W.Frag}{C:Addr}(c:Cls K C)(f:Str):PySem.W.plainGet K C f=true:=c.pg
section
variable {X:Cx}{pins:List (Addr×Obj)}{σ:St}{H:Hp}{s:Shared}{A:Around}{E:Value->Shared->Prop}{Q:Value->Shared->Prop}{c:Value}{b:Bool}
inductive rF (K:PySem.W.Frag)(H:Hp):V->Value->Prop where
 | non:rF K H .non (.type "NoneType")
 | bl (x:Bool):rF K H (.bl x) (.type "bool")
 | int (i:Int):rF K H (.int i) (.type "int")
 | str (x:Str):rF K H (.str x) (.type "str")
 | flt (x:UInt64):rF K H (.flt x) (.type "float")
 | lst {a:Addr} {xs:List V} (e:H a=some (.lst xs)):rF K H (.ref a) (.type "list")
 | frz {a:Addr} {o:Obj} {xs:List V} (e:H a=some (.frz o (.lst xs))):rF K H (.ref a) (.type "list")
 | tup {a:Addr} {xs:List V} (e:H a=some (.tup xs)):rF K H (.ref a) (.type "tuple")
 | dK {a:Addr} {kvs:List (Key×V)} (e:H a=some (.dK kvs)):rF K H (.ref a) (.type "dict")
 | dT {a:Addr} {kvs:List (List Key×V)} (e:H a=some (.dT kvs)):rF K H (.ref a) (.type "dict")
 | ins {a C dx:Addr} {fs:List (Str×V)} (e:H a=some (.ins C dx fs)) (cl:Cls K C) (ha:PySem.W.findIn K (.ref C) "__class__" = some (some (.builtin "object.__class__")))
   (hn:PySem.W.specialIn K (.builtin "object.__class__") "__get__" = some (some (.builtin "getset_descriptor.__get__"))) (htk:PySem.W.takesIn K (.builtin "object.__class__")=some true)
   (hm:PySem.W.mroIn K C (.type "object")=some true):rF K H (.ref a) (.ref C)
theorem Oa {x:V}{u t:Value}(I:Inv X pins σ H s)(rx:RelV x u)(ty:rF X.K H x t)(e:PySem.W.kitOne X.K t c=some b)(h:∀tk,Q (.bool b) { s with toks:=tk }) :
  wpAny (model X.prog X.w) A (call (.builtin "isinstance") [u,c]) Q E s:=by
 cases ty with
 | non=>cases (show u=Value.none from rx);exact PySem.W.kia_one PySem.W.kitx_none I.kIn True.intro e (fun z=>nomatch z) h
 | bl y=>cases (show u=Value.bool y from rx);exact PySem.W.kia_one PySem.W.kitx_bool I.kIn True.intro e (fun z=>nomatch z) h
 | int i=>obtain⟨t,q⟩:=(show ∃t,u=Value.int i t from rx);cases q;exact PySem.W.kia_one PySem.W.kitx_int I.kIn True.intro e (fun z=>nomatch z) h
 | str y=>obtain⟨t,q⟩:=(show ∃t,u=Value.str y t from rx);cases q;exact PySem.W.kia_one PySem.W.kitx_str I.kIn True.intro e (fun z=>nomatch z) h
 | flt y=>obtain⟨t,q⟩:=(show ∃t,u=Value.float y t from rx);cases q;exact PySem.W.kia_one PySem.W.kitx_float I.kIn True.intro e (fun z=>nomatch z) h
 | @lst a xs ea=>
  cases (show u=Value.ref a from rx);obtain⟨_,_,n,_,h1⟩:=(show cO X.prog X.w H s.heap a (.lst xs) from I.hok a _ ea);exact PySem.W.kia_one PySem.W.kitx_list I.kIn ⟨_,h1,rfl⟩ e (fun z=>nomatch z) h
 | @frz a ob xs ea=>
  cases (show u=Value.ref a from rx);obtain⟨_,_,_,n,_,h1⟩:=(show cO X.prog X.w H s.heap a (.frz ob (.lst xs)) from I.hok a _ ea);exact PySem.W.kia_one PySem.W.kitx_list I.kIn ⟨_,h1,rfl⟩ e (fun z=>nomatch z) h
 | @tup a xs ea=>
  cases (show u=Value.ref a from rx);obtain⟨_,_,_,p⟩:=(show cO X.prog X.w H s.heap a (.tup xs) from I.hok a _ ea);obtain⟨o,h1,h2,_⟩:=p;exact PySem.W.kia_one PySem.W.kitx_tuple I.kIn ⟨o,h1,h2⟩ e (fun z=>nomatch z) h
 | @dK a kvs ea=>
  cases (show u=Value.ref a from rx);obtain⟨_,_,vs,_,p⟩:=(show cO X.prog X.w H s.heap a (.dK kvs) from I.hok a _ ea);obtain⟨o,es,ep,h1,h2,_⟩:=p;exact PySem.W.kia_one PySem.W.kitx_dict I.kIn ⟨o,h1,h2.1⟩ e (fun z=>nomatch z) h
 | @dT a kvs ea=>
  cases (show u=Value.ref a from rx);obtain⟨_,_,xs,_,o,es,ep,h1,h2,_⟩:=(show cO X.prog X.w H s.heap a (.dT kvs) from I.hok a _ ea);exact PySem.W.kia_one PySem.W.kitx_dict I.kIn ⟨o,h1,h2.1⟩ e (fun z=>nomatch z) h
 | @ins a C dx fs ea cl ha hn htk hm=>
  cases (show u=Value.ref a from rx);obtain⟨mA,O,_⟩:=Yu I.hok ea;obtain⟨od,J,_⟩:=O.look;exact PySem.W.kia_one (PySem.W.kitx_own (cl.get _) cl.hd ha hn htk hm) I.kIn J e (fun z=>nomatch z) h
end
structure jR (k:Nat)(A:Around):Prop where
 hd:A.handled=none
 dp:A.depth+3*k+5<recursionLimit
 un:A.units+16*k+200<cLine
 gd:A.guards=some []
theorem jR.mono {j k:Nat}{A:Around}(r:jR k A)(h:j<=k):jR j A:=⟨r.hd,by have:=r.dp;omega,by have:=r.un;omega,r.gd⟩
theorem jR.deeper {k:Nat}{A:Around}(r:jR (k+1) A)(env:Env):jR k (A.deeper env):=
 ⟨r.hd,by have:=r.dp;show A.depth+1+3*k+5<_;omega,by have:=r.un;show A.units+3+16*k+200<_;omega,r.gd⟩
theorem jR.depth {k:Nat}{A:Around}(r:jR k A):A.depth<recursionLimit:=by have:=r.dp;omega
theorem jR.aZ {k:Nat}{A:Around}(r:jR k A):A.units<cLine:=by have:=r.un;omega
def xW:TA:=fun _ H Q=>Q [] H
def jT (ta:TE)(tr:TA):TA:=fun σ H Q=>ta σ H fun x H1=>tr σ H1 fun xs H2=>Q (x::xs) H2
section
variable {X:Cx}{e:Expr}{es:List Expr}{te:TE}{t:TA}{pos:Pos}
theorem aaL:PA X [] xW:=fun _ _ _ _ H Q I h=>Calls.spliced_nil ⟨[],H,I,.nil,h⟩
theorem Xr (ha:PE X e te)(hr:PA X es t)(hs:starEach (e::es) X.env=(false,eval e X.env)::starEach es X.env:=by rfl):PA X (e::es) (jT te t):=by
 intro pos pins s σ H Q I h;rw[hs];show wpAny _ _ (spliced ((false,eval e X.env)::backTo pos (starEach es X.env))) _ _ s;refine Calls.spliced_cons (thE (ha pins s σ H _ I h) fun u s1 x H1 I1 r1 q1=>?_);exact thA (hr pos pins s1 σ H1 _ I1 q1) fun us s2 xs H2 I2 r2 q2=>⟨x::xs,H2,I2,.cons r1 r2,q2⟩
def Mq (t:TA):TE:=fun σ H Q=>t σ H fun xs H1=>xs.length<=sizeLine/\∀p,H1 p=none->Q (.ref p) (upd H1 p (.tup xs))
def PL (t:TA):TE:=fun σ H Q=>t σ H fun xs H1=>xs.length<=sizeLine/\∀p,H1 p=none->Q (.ref p) (upd H1 p (.lst xs))
theorem aaC {x1}(h:PA X es t):PE X (.Tuple es x1 pos) (Mq t):=by
 intro pins s σ H Q I hq;refine wpAny_Tuple_spliced (thn (h pos pins s σ H _ I hq) fun us s1 ⟨xs,H1,I1,r,z,q⟩=>⟨by rw[<- r.length];exact z,?_⟩);have hf:H1 s1.heap.objs.size=none:=I1.hok.fresh (Nat.le_refl _);refine⟨.ref s1.heap.objs.size,upd H1 s1.heap.objs.size (.tup xs),I1.laid (t':=s1.toks) (fun b u e=>get?_push_of_some _ e) (Nat.le_refl _) ?_,rfl,q _ hf⟩;exact⟨z,us,r,⟨_,get?_push_size _ rfl,rfl,_,rfl⟩⟩
theorem aaH (h:PA X es t):PE X (.List es pos) (PL t):=by
 intro pins s σ H Q I hq;refine wpAny_List_spliced (thn (h pos pins s σ H _ I hq) fun us s1 ⟨xs,H1,I1,r,z,q⟩=>⟨by rw[<- r.length];exact z,?_⟩);have hf:H1 s1.heap.objs.size=none:=I1.hok.fresh (Nat.le_refl _);refine⟨.ref s1.heap.objs.size,upd H1 s1.heap.objs.size (.lst xs),I1.laid (t':=s1.toks) (fun b u e=>get?_push_of_some _ e) (Nat.le_refl _) ?_,rfl,q _ hf⟩;exact⟨z,us,0,r,get?_push_size _ rfl⟩
end
abbrev Sp:=List V->Hp->VK->XK->Prop
abbrev CXT:=List Env->Hp->Shared->XK->Value->Shared->Prop
structure Zj (P:Program)(w:World)(K:PySem.W.Frag)(mg:Str->Option Value)(base:Heap)(A:Around)(outer:List Env)(s:Shared)(H:Hp):Prop where
 frames:A.frames=some outer
 mod:Mod K mg base
 bs:∀b o,base.get? b=some o->s.heap.get? b=some o/\H b=none
 bsz:base.objs.size<=s.heap.objs.size
 xq:s.heap.FunFrames base outer
 frf:∀b∈frs outer,H b=none
 hok:HOk P w H s.heap
 bare:AllBare s.gens
def CE (outer:List Env)(P:Program)(w:World)(H:Hp)(s:Shared)(Q:VK)(u:Value)(s':Shared):Prop:=
 ∃v H',s'.os=s.os/\AllBare s'.gens/\Un (frs outer) [] H H' s.heap s'.heap/\HOk P w H' s'.heap/\RelV v u/\Q v H'
def CR (CX:CXT)(outer:List Env)(P:Program)(w:World)(H:Hp)(s:Shared)(Q:VK)(E:XK)(r:Result)(s':Shared):Prop:=
 match r with
 | .ok (.ret u)=>CE outer P w H s Q u s'
 | .ok _=>False
 | .error e=>CX outer H s E e s'
structure dm (P:Program)(w:World)(K:PySem.W.Frag)(mg:Str->Option Value)(base:Heap)(CX:CXT)(k:Nat)(f:Addr)(fd:FuncData)(ps:List Str)(sp:Sp):Prop where
 len:∀vs H Q E,sp vs H Q E->vs.length=ps.length
 run:∀(A:Around)(outer:List Env)(s:Shared)(H:Hp)(args:Args)(us:List Value)(vs:List V)(Q:VK)(E:XK),jR k A->Zj P w K mg base A outer s H->BindsTo s fd args (ps.zip us)->Vals vs us->sp vs H Q E ->
  codeAny (model P w) A (.call (.ref f) args) (CR CX outer P w H s Q E) s
section
variable {X:Cx}{pins:List (Addr×Obj)}{σ:St}{H:Hp}{s s':Shared}
theorem Inv.env0 (I:Inv X pins σ H s):Zj X.prog X.w X.K X.mg X.base X.A X.stack s H:=
 ⟨I.ok.frames,I.ok.mod,I.bs,Nat.le_trans I.ok.bsz I.sz,I.stack,I.Kg,I.hok,I.bare⟩
theorem Inv.after {Q:VK}{u:Value}(I:Inv X pins σ H s)(h:CE X.stack X.prog X.w H s Q u s'):EP X pins σ Q u s':=by
 obtain⟨v,H',os,bare,un,hok,r,q⟩:=h;obtain⟨hh,g,d,t,os'⟩:=s';obtain rfl:os'=s.os:=os;exact⟨v,H',I.call (h':=hh) (g':=g) (d':=d) (t':=t) (ch:=[]) un hok bare (fun b z=>absurd z (by simp)),r,q⟩
end
def oU (sp:Sp)(dvs:List V)(E:XK)(t:TA):TE:=fun σ H Q=>t σ H fun vs H1=>sp (vs++dvs) H1 Q E
def Binds (K:PySem.W.Frag)(fd:FuncData)(ps:List Str)(ds:List Value):Prop:=
 ∀(s:Shared)(us:List Value),K.In s.heap->(us++ds).length=ps.length->BindsTo s fd ⟨us,[]⟩ (ps.zip (us++ds))
theorem Binds.all {K:PySem.W.Frag}{fd:FuncData}{ps:List Str}(h:∀us:List Value,us.length=ps.length->bindArgs fd ⟨us,[]⟩=pure (ps.zip us)):Binds K fd ps []:=fun s us _ hl=>by
 rw[append_nil] at hl |-;exact .of_eq (h us hl)
def J9 (CX:CXT)(X:Cx)(E:XK):Prop:=∀(pins:List (Addr×Obj)) (σ:St) (H:Hp) (s:Shared) (e:Value) (s':Shared),Inv X pins σ H s->CX X.stack H s E e s'->X.xe e s'
section
variable {X:Cx}{CX:CXT}{k:Nat}{f C:Addr}{fd:FuncData}{ps:List Str}{sp:Sp}{dvs:List V}{ds:List Value}{E:XK}{x m:Str}{p pos apos:Pos}{e o:Expr}{es:List Expr}{ta:TE}{t:TA}
theorem aae {pins:List (Addr×Obj)}{σ:St}{H:Hp}{s:Shared}{Q:VK}{us:List Value}{vs:List V}(F:dm X.prog X.w X.K X.mg X.base CX k f fd ps sp)(hr:jR k X.A)(hb:Binds X.K fd ps ds)(hd:Vals dvs ds)(hx:J9 CX X E)
  (I:Inv X pins σ H s) (r:Vals vs us) (h:sp (vs++dvs) H Q E):wpAny (model X.prog X.w) X.A (call (.ref f) us) (EP X pins σ Q) X.xe s:=by
 have r2:Vals (vs++dvs) (us++ds):=r.append hd;have hl:(us++ds).length=ps.length:=by rw[<- r2.length];exact F.len _ _ _ _ h
 refine wpAny_call (codeAny_mono (F.run X.A X.stack s H ⟨us,[]⟩ (us++ds) (vs++dvs) Q E hr I.env0 (hb s us I.kIn hl) r2 h) fun r s' hq=>?_);cases r with
 | error e=>exact hx pins σ H s e s' I hq
 | ok fl=>
  cases fl with
  | ret u=>exact I.after hq
  | next=>exact False.elim hq
  | brk=>exact False.elim hq
  | cont=>exact False.elim hq
theorem Xn (F:dm X.prog X.w X.K X.mg X.base CX k f fd ps sp)(hr:jR k X.A)(hg:Gl X x)(hm:X.mg x=some (.ref f))(hk:keepIn X.K (.ref f)=true)(hb:Binds X.K fd ps ds)(hd:Vals dvs ds)(hx:J9 CX X E)
  (ha:PA X (e::es) t) (hdb:(x == ("__debug__" : Str))=false:=by decide) (he:starEach (e::es) X.env=(false,eval e X.env)::starEach es X.env:=by rfl) (hpl:(backTo pos (starEach es X.env)).any (·.1)=false:=by rfl) :
  PE X (.Call (.Name x p) (e::es) [] pos) (oU sp dvs E t):=by
 intro pins s σ H Q I h;refine wpAny_Call_Name_kw (Yg I hg hm ?_ hdb);refine PySem.W.callWith_K (h₀:=X.base) I.ok.mod.kin hk (thA (ha pos pins s σ H _ I h) fun us s1 vs H1 I1 r q=>⟨I1.kIn,?_⟩) he hpl;exact aae F hr hb hd hx I1 r q
end
structure aY (N P:List Str)(sc:Scope):Prop where
 kind:sc.kind=.function
 co:sc.isCoroutine=false
 gen:sc.isGenerator=false
 nd:N.Nodup
 pre:N.take P.length=P
 par:∀x∈P,sc.names.lookup x=some .local\/sc.names.lookup x=some .cell
 nofree:∀y∈sc.names,y.2≠.free
theorem Cw {kindOf:Str->Option NameKind}{x:Str}:∀{binds:List (Str×Value)}{m:Str->Option Value},(∀v,(x,v)∉binds)->bindL kindOf binds m x=m x
 | [],_,_=>rfl
 | (n,v)::r,m,h=>by
  unfold bindL;rw[Cw fun w hw=>h w (mem_cons_of_mem _ hw)];split
  ·have:x≠n:=by rintro rfl;exact h v mem_cons_self
   simp [this]
  ·rfl
theorem Cz {kindOf:Str->Option NameKind}{x:Str}:∀{binds:List (Str×Value)}{m:Str->Option Value},(∀v,(x,v)∉binds)->bindC kindOf binds m x=m x
 | [],_,_=>rfl
 | (n,v)::r,m,h=>by
  unfold bindC;rw[Cz fun w hw=>h w (mem_cons_of_mem _ hw)];split
  ·rfl
  ·have:x≠n:=by rintro rfl;exact h v mem_cons_self
   simp [this]
theorem Cy {kindOf:Str->Option NameKind}{x:Str}{v:Value}:∀{P:List Str}{vs:List Value}{i:Nat}{m:Str->Option Value},P.Nodup->P[i]?=some x->vs[i]?=some v->kindOf x=some .local ->
  bindL kindOf (P.zip vs) m x=some v
 | [],_,_,_,_,h,_,_=>by simp at h
 | _::_,[],_,_,_,_,h,_=>by simp at h
 | p::P,w::vs,0,m,nd,h1,h2,hk=>by
  simp at h1 h2;subst h1;subst h2;show bindL kindOf ((p,w)::P.zip vs) m p=_;unfold bindL;rw[Cw fun v hv=>(nodup_cons.mp nd).1 (of_mem_zip hv).1,if_pos hk];simp
 | p::P,w::vs,i+1,m,nd,h1,h2,hk=>by
  show bindL kindOf ((p,w)::P.zip vs) m x=_;unfold bindL;exact Cy (i:=i) (nodup_cons.mp nd).2 (by simpa using h1) (by simpa using h2) hk
theorem CG {kindOf:Str->Option NameKind}{x:Str}{v:Value}:∀{P:List Str}{vs:List Value}{i:Nat}{m:Str->Option Value},P.Nodup->P[i]?=some x->vs[i]?=some v->kindOf x≠some .local ->
  bindC kindOf (P.zip vs) m x=some v
 | [],_,_,_,_,h,_,_=>by simp at h
 | _::_,[],_,_,_,_,h,_=>by simp at h
 | p::P,w::vs,0,m,nd,h1,h2,hk=>by
  simp at h1 h2;subst h1;subst h2;show bindC kindOf ((p,w)::P.zip vs) m p=_;unfold bindC;rw[Cz fun v hv=>(nodup_cons.mp nd).1 (of_mem_zip hv).1,if_neg hk];simp
 | p::P,w::vs,i+1,m,nd,h1,h2,hk=>by
  show bindC kindOf ((p,w)::P.zip vs) m x=_;unfold bindC;exact CG (i:=i) (nodup_cons.mp nd).2 (by simpa using h1) (by simpa using h2) hk
def start (N:List Str)(vs:List V):St:=vs.map some++List.replicate (N.length-vs.length) none
def JS (CX:CXT)(P:Program)(w:World)(K:PySem.W.Frag)(mg:Str->Option Value)(base:Heap)(N:List Str)(qual:Str)(scope:Scope)(f:Addr)(cd:Value)(A:Around)(outer:List Env)(s:Shared)(H:Hp)(E:XK):Cx where
 prog:=P
 w:=w
 K:=K
 mg:=mg
 base:=base
 A:=A.deeper (envOfC qual scope s.heap.objs.size f cd)
 N:=N
 s₀:=s
 H₀:=H
 env:=envOfC qual scope s.heap.objs.size f cd
 outer:=outer
 stack:=envOfC qual scope s.heap.objs.size f cd::outer
 ex:=[]
 calm:=true
 fn:=fun _=>true
 pn:=[]
 xe:=fun e s'=>wpAny (model P w) (A.deeper (envOfC qual scope s.heap.objs.size f cd)) (leaving (envOfC qual scope s.heap.objs.size f cd) e) (fun _ s''=>CX outer H s E e s'') (fun e' s''=>CX outer H s E e' s'') s'
theorem G7 {sc:Scope}{n:Nat}{x:Str}(h:sc.names.lookup x=some .cell):∃c,(cellsFrom n sc.names []).lookup x=some c:=by
 have q:=PySem.W.cellsFrom_some sc.names n [] (.inl h);exact Option.isSome_iff_exists.mp q
theorem Ob {CX:CXT}{P:Program}{w:World}{K:PySem.W.Frag}{mg:Str->Option Value}{base:Heap}{N ps:List Str}{qual:Str}{scope:Scope}{f:Addr}{cd:Value}{A:Around}{outer:List Env}{s s1:Shared}{H:Hp}{E:XK}{us:List Value}{vs:List V}
  (S:aY N ps scope) (hd:A.handled=none) (e0:Zj P w K mg base A outer s H) (hl:vs.length=ps.length) (r:Vals vs us)
  (x:InCallC s s.heap.objs.size (bindL (envOfC qual scope s.heap.objs.size f cd).kindOf (ps.zip us) fun _=>none) (cellsFrom (s.heap.objs.size+1) scope.names []) (bindC (envOfC qual scope s.heap.objs.size f cd).kindOf (ps.zip us) fun _=>none) s1) :
  Inv (JS CX P w K mg base N qual scope f cd A outer s H E) [] (start N vs) H s1:=by
 have hpl:ps.length<=N.length:=by have:=congrArg List.length S.pre;rw[length_take] at this;omega
 obtain⟨h1,tk,rfl,hk⟩:=x.done;have noA:∀b:Addr,b∉(JS CX P w K mg base N qual scope f cd A outer s H E).ex:=fun b z=>absurd (show b∈([]:List Addr) from z) (by simp);refine⟨⟨e0.mod,S.kind,rfl,rfl,Nat.le_refl _,fun y z c h1 h2=>?_,fun y hy=>?_,fun y c _ h=>?_,fun _=>hd,Around.frames_deeper e0.frames,.inr ⟨rfl,rfl⟩,fun b z=>absurd z (noA b),e0.bs,e0.bsz,fun b _ _=>noA b,fun b z=>absurd z (noA b),e0.xq,e0.frf⟩,
  rfl,e0.bare,Un.kept hk,⟨_,x.toInCall.ns,fun i y v h1 h2 h3=>?_⟩,fun y c h=>⟨_,x.cell y c h⟩,e0.hok.fresh (Nat.le_refl _),fun y c h=>?_,fun p hp=>absurd (show p∈([]:List (Addr×Obj)) from hp) (by simp),e0.hok.kept hk,?_⟩
 ·exact name_of_addr x.apart (PySem.mem_of_lookup h1) (PySem.mem_of_lookup h2)
 ·have hy:scope.names.lookup y=some .cell\/scope.names.lookup y=some .free:=hy;rcases hy with hy|hy
  ·exact G7 hy
  ·exact absurd rfl (S.nofree _ (PySem.mem_of_lookup hy))
 ·exact Nat.le_of_lt (x.above y c (PySem.mem_of_lookup h))
 ·have hi:i<vs.length:=by
   unfold start at h2;by_cases hi:i<vs.length
   ·exact hi
   ·rw[getElem?_append_right (by simpa using hi)] at h2;rw[List.getElem?_replicate] at h2;split at h2 <;> cases h2
  have ha:vs[i]?=some v:=by
   unfold start at h2;rw[getElem?_append_left (by simpa using hi),getElem?_map] at h2;cases e:vs[i]? with
   | none=>rw[e] at h2;cases h2
   | some a=>rw[e] at h2;cases h2;rfl
  obtain⟨u,hu,rv⟩:=r.get ha;have hp:ps[i]?=some y:=by
   rw[<- S.pre,List.getElem?_take_of_lt ω];exact h1
  have ndP:ps.Nodup:=by rw[<- S.pre];exact S.nd.sublist (take_sublist _ _)
  refine⟨u,rv,?_⟩;rcases S.par y (mem_of_getElem? hp) with k|k
  ·exact .inl ⟨k,Cy ndP hp hu k⟩
  ·obtain⟨c,e⟩:=G7 (n:=s.heap.objs.size+1) k;refine .inr ⟨.inl k,c,e,?_⟩;have q:=x.cell y c e;rw[CG ndP hp hu (by show scope.names.lookup y≠_;rw[k];decide)] at q;exact q
 ·exact e0.hok.fresh (Nat.le_of_lt (x.above y c (PySem.mem_of_lookup h)))
 ·unfold start;show _=N.length;rw[length_append,length_map,List.length_replicate];omega
theorem acu {CX:CXT}{P:Program}{w:World}{K:PySem.W.Frag}{mg:Str->Option Value}{base:Heap}{k:Nat}{f:Addr}{name qual:Str}{params:Arguments}{body:List Stmt}{scope:Scope}{dV kV doc pm cdv ct oc:Value}{an od:Option Addr}
  {osl:Array (Option Value)} {N ps:List Str} {sp:Sp} (lk:K.lookup f=some ⟨oc,od,.func (fnOf name qual params body scope dV kV doc pm an cdv ct),osl⟩) (hcd:codeIn K cdv qual=true) (S:aY N ps scope)
  (len:∀vs H Q E,sp vs H Q E->vs.length=ps.length)
  (hbody:∀(A:Around)(outer:List Env)(s:Shared)(H:Hp)(vs:List V)(Q:VK)(E:XK),jR k (A.deeper (envOfC qual scope s.heap.objs.size f cdv))->sp vs H Q E ->
   ∃t,PSs (JS CX P w K mg base N qual scope f cdv A outer s H E) body t/\t { nx:=fun _ H'=>Q .non H',rt:=Q } (start N vs) H) :
  dm P w K mg base CX (k+1) f (fnOf name qual params body scope dV kV doc pm an cdv ct) ps sp:=by
 refine⟨len,fun A outer s H args us vs Q E hr e0 hb r hsp=>?_⟩;have hl:=len _ _ _ _ hsp;have KX:K.In s.heap:=e0.mod.kin.keeps fun b o e=>(e0.bs b o e).1;have lim:s.heap.NoLimit:=e0.mod.nolimit.keeps fun b o e=>(e0.bs b o e).1;have hkind:∀y∈ps.zip us,scope.names.lookup y.1=some .local\/(scope.names.lookup y.1=some .cell/\((cellsFrom (s.heap.objs.size+1) scope.names []).lookup y.1).isSome=true):=fun⟨n,v⟩ hy=>by
  rcases S.par n (of_mem_zip hy).1 with q|q
  ·exact .inl q
  ·exact .inr ⟨q,PySem.W.cellsFrom_some _ _ _ (.inl q)⟩
 refine codeAny_call_function hr.depth (KX _ _ lk) rfl S.co S.gen rfl (PySem.W.codeRec_of KX hcd) (hb _ _ _ _ ?_);refine wpAny_newFunctionEnv_cells S.kind hkind fun env he s1 x=>?_;subst he;refine⟨lim.keeps x.toInCall.keep,codeAny_func ?_⟩;obtain⟨t,ht,hq⟩:=hbody A outer s H vs Q E (hr.deeper _) hsp;have I:Inv (JS CX P w K mg base N qual scope f cdv A outer s H E) [] (start N vs) H s1:=Ob S hr.hd e0 hl r x;refine wpAny_mono (ht [] s1 (start N vs) H _ I hq) (fun fl s' hs=>?_) fun e s' hs=>hs;have fin:∀{σ':St}{H':Hp}{v:V}{u:Value},Inv (JS CX P w K mg base N qual scope f cdv A outer s H E) [] σ' H' s'->RelV v u->Q v H'->CE outer P w H s Q u s':=
  fun {σ' H' v u} J rv q=>⟨v,H',J.os,J.bare,J.base,J.hok,rv,q⟩
 cases fl with
 | ret u=>
  obtain⟨v,σ',H',J,rv,q⟩:=hs;exact fin J rv q
 | next=>
  obtain⟨σ',H',J,q⟩:=hs;exact fin (v:=V.non) (u:=Value.none) J rfl q
 | brk=>
  obtain⟨_,_,_,q⟩:=hs;exact False.elim q
 | cont=>
  obtain⟨_,_,_,q⟩:=hs;exact False.elim q
section
variable {X:Cx}{x:Str}{p pos:Pos}{e:Expr}{es:List Expr}{t:TA}{id T:String}{r:List V->Hp->VK->Prop}
def tCB (r:List V->Hp->VK->Prop)(t:TA):TE:=fun σ H Q=>t σ H fun vs H1=>r vs H1 Q
theorem R9 (hc:dR X (.builtin id) r) (hg:Gl X x) (hm:X.mg x=none) (hv:bootBuiltins x=some (.builtin id)) (ha:PA X (e::es) t) (hn:x ≠ "__name__" := by decide) (hdb:(x == ("__debug__" : Str))=false:=by decide)
  (he:starEach (e::es) X.env=(false,eval e X.env)::starEach es X.env:=by rfl) (hpl:(backTo pos (starEach es X.env)).any (·.1)=false:=by rfl):PE X (.Call (.Name x p) (e::es) [] pos) (tCB r t):=by
 intro pins s σ H Q I h;refine wpAny_Call_Name_kw (lE I hg hm hv ?_ hn hdb);exact PyProof.Rows.callWith_builtin1 (thA (ha pos pins s σ H _ I h) fun us s1 vs H1 I1 r1 q1=>hc pins s1 σ H1 vs us Q I1 r1 q1) he hpl
theorem Nf (hc:dR X (.type T) r) (hg:Gl X x) (hm:X.mg x=none) (hv:bootBuiltins x=some (.type T)) (ha:PA X (e::es) t) (hn:x ≠ "__name__" := by decide) (hdb:(x == ("__debug__" : Str))=false:=by decide)
  (he:starEach (e::es) X.env=(false,eval e X.env)::starEach es X.env:=by rfl) (hpl:(backTo pos (starEach es X.env)).any (·.1)=false:=by rfl):PE X (.Call (.Name x p) (e::es) [] pos) (tCB r t):=by
 intro pins s σ H Q I h;refine wpAny_Call_Name_kw (lE I hg hm hv ?_ hn hdb);exact PyProof.Rows.callWith_type1 (thA (ha pos pins s σ H _ I h) fun us s1 vs H1 I1 r1 q1=>hc pins s1 σ H1 vs us Q I1 r1 q1) he hpl
end
end L2
namespace HT
open PySem PyProof.Rows
section
variable {prog:Program}{w:World}{A:Around}{E:Value->Shared->Prop}{s:Shared}
def sIx (n d:Nat):Option Int->Nat
 | none=>d
 | some v=>if v<0 then (v+(n:Int)).toNat else min v.toNat n
theorem aac (n d:Nat)(hd:d<=n)(o:Option Int):sIx n d o<=n:=by
 cases o with
 | none=>exact hd
 | some v=>
  show(if v<0 then (v+(n:Int)).toNat else min v.toNat n)<=n;by_cases hv:v<0
  ·rw[if_pos hv];omega
  ·rw[if_neg hv];exact Nat.min_le_right _ _
theorem Ls (v:Int)(n d:Nat):(if v<0 then max (v+(n:Int)) 0 else min v (n:Int))=((sIx n d (some v):Nat):Int):=by
 show(if v<0 then max (v+(n:Int)) 0 else min v (n:Int))=(((if v<0 then (v+(n:Int)).toNat else min v.toNat n):Nat):Int);by_cases hv:v<0
 ·simp only[if_pos hv];omega
 ·simp only[if_neg hv];omega
theorem J7 (lo hi:Option Int)(n:Nat):Builtin.Slice.sliceAdjust lo hi 1 (n:Int)=(((sIx n 0 lo:Nat):Int),((sIx n n hi:Nat):Int)):=by
 have h1:¬((1:Int)<0):=ω;unfold Builtin.Slice.sliceAdjust;simp only[h1,if_false];refine Prod.ext ?_ ?_
 ·cases lo with
  | none=>rfl
  | some v=>exact Ls v n 0
 ·cases hi with
  | none=>rfl
  | some v=>exact Ls v n n
theorem Jf (i j:Nat):Builtin.Slice.slicePlaces (i:Int) (j:Int) 1=j-i:=by
 unfold Builtin.Slice.slicePlaces;have h1:(1:Int)>0:=ω;simp only[h1,if_true,Int.ediv_one];split <;> omega
theorem yc {v:Value}{o:Option Int}{Q:Option Int->Shared->Prop}(p:IsPart v o)(h:Q o s):wpAny (model prog w) A (Builtin.Slice.slicePartIndex v) Q E s:=by
 cases p with
 | none=>exact slicePart_none h
 | int i t=>exact slicePart_int h
theorem vC {sl:Addr}{vl vu:Value}{lo hi:Option Int}{n:Nat}{Q:Int×Int×Nat->Shared->Prop}(hs:s.heap.IsSliceOf sl vl vu .none)(pl:IsPart vl lo)(pu:IsPart vu hi)
  (h:Q (((sIx n 0 lo:Nat):Int),1,sIx n n hi-sIx n 0 lo) s):wpAny (model prog w) A (Builtin.Slice.sliceApplied (.ref sl) (pure (n:Int))) Q E s:=by
 obtain⟨os,hos,hcs,hds⟩:=id hs;unfold Builtin.Slice.sliceApplied Builtin.Slice.sliceFields;refine wpAny_bind (wpAny_bind (wpAny_field hos hds (x:=vl) rfl (wpAny_bind (wpAny_field hos hds (x:=vu) rfl (wpAny_bind (wpAny_field hos hds (x:=.none) rfl (wpAny_pure ?_)))))));refine wpAny_bind (slicePart_none ?_);show wpAny _ _ (if ((1:Int) == 0)=true then _ else _) _ _ s;rw[if_neg δ];refine wpAny_bind (yc pl (wpAny_bind (yc pu (wpAny_bind (wpAny_pure ?_)))));show wpAny _ _ (match Builtin.Slice.sliceAdjust lo hi 1 (n:Int) with|(lo,hi)=>pure (lo,(1:Int),Builtin.Slice.slicePlaces lo hi 1)) _ _ s
 rw[J7 lo hi n];show wpAny _ _ (pure (((sIx n 0 lo:Nat):Int),(1:Int),Builtin.Slice.slicePlaces ((sIx n 0 lo:Nat):Int) ((sIx n n hi:Nat):Int) 1)) _ _ s;rw[Jf];exact wpAny_pure h
theorem RP (xs:Array Value)(i k:Nat):((List.range k).filterMap fun(m:Nat)=>xs[((i:Int)+(m:Int)*1).toNat]?).toArray=((xs.toList.drop i).take k).toArray:=by
 have e:(fun(m:Nat)=>xs[((i:Int)+(m:Int)*1).toNat]?)=fun m=>xs[i+m]?:=by
  funext m;have:((i:Int)+(m:Int)*1).toNat=i+m:=by omega
  rw[this]
 rw[e];have:=pick_run xs i k;rw[filterMap_map] at this;have e2:((fun x=>xs[x]?)∘fun x=>i+x)=fun m=>xs[i+m]?:=rfl;rw[e2] at this;rw[this]
theorem uT {t sl:Addr}{items:Array Value}{vl vu:Value}{lo hi:Option Int}{Q:Value->Shared->Prop}(ht:IsTup s.heap t items)(hs:s.heap.IsSliceOf sl vl vu .none)(pl:IsPart vl lo)(pu:IsPart vu hi)
  (hw:¬(sIx items.size 0 lo=0/\sIx items.size items.size hi=items.size))
  (h:Q (.ref s.heap.objs.size) { s with heap:=s.heap.push { cls:=.type "tuple",data:=.seq ((items.toList.drop (sIx items.size 0 lo)).take (sIx items.size items.size hi-sIx items.size 0 lo)).toArray } })
  (hsz:items.size<=sizeLine):wpAny (model prog w) A (getItem (.ref t) (.ref sl)) Q E s:=by
 have htake:sizeOk (.seq ((items.toList.drop (sIx items.size 0 lo)).take (sIx items.size items.size hi-sIx items.size 0 lo)).toArray):=by
  show((items.toList.drop (sIx items.size 0 lo)).take (sIx items.size items.size hi-sIx items.size 0 lo)).toArray.size<=sizeLine;rw[size_toArray,length_take,length_drop,length_toList];omega
 have hj:sIx items.size items.size hi<=items.size:=aac _ _ (Nat.le_refl _) hi;obtain⟨os,hos,hcs,hds⟩:=id hs;have hTs:s.TypeIs (.ref sl) "slice" := ⟨os,hos,hcs⟩;unfold getItem
 try with_reducible refine wpAny_holding ?_
 first|refine wpAny_bind (wpAny_pure ?_)|skip
 refine wpAny_bind (wpAny_sequenceKey ht.typeIs δ ?_);refine wpAny_bind (wpAny_callSpecial?_slot (name:=Str.ofString "__getitem__") ht.typeIs PyProof.Rows.slot_tuple_getitem
  (wpAny_call_entry PyProof.Rows.slot_tuple_getitem ht.typeIs entry_tuple_getitem ?_ (args_tuple_getitem _ _)))
 show wpAny _ _ (Builtin.Tuple.tupleItemsOf (.ref t) >>= _) _ _ s;refine wpAny_bind (tupleItemsOf_ ht ?_);refine wpAny_bind (wpAny_typeOf hTs ?_);rw[if_pos δ];refine wpAny_bind (vC hs pl pu ?_);have hno:¬((((sIx items.size 0 lo:Nat):Int) == 0&&(1:Int) == 1&&(sIx items.size items.size hi-sIx items.size 0 lo) == items.size)=true):=by
  intro q;rw[Bool.and_eq_true,Bool.and_eq_true] at q;have q1:((sIx items.size 0 lo:Nat):Int)=0:=eq_of_beq q.1.1;have q2:sIx items.size items.size hi-sIx items.size 0 lo=items.size:=eq_of_beq q.2;exact hw ⟨ω,ω⟩
 show wpAny _ _ (if (((sIx items.size 0 lo:Nat):Int) == 0&&(1:Int) == 1&&(sIx items.size items.size hi-sIx items.size 0 lo) == items.size)=true then _ else _) _ _ s;rw[if_neg hno,RP]
 first
  | exact wpAny_bind (m:=Builtin.Tuple.tupleExact _) (wpAny_newObj_type (wpAny_pure ⟨_,rfl,wpAny_pure h⟩) htake)
  | exact wpAny_bind (m:=Builtin.Tuple.tupleExact _) (wpAny_newObj_type (wpAny_bind (wpAny_pure (wpAny_pure ⟨_,rfl,wpAny_pure h⟩))) htake)
  | exact wpAny_bind (wpAny_bind (m:=Builtin.Tuple.tupleExact _) (wpAny_newObj_type (wpAny_pure (wpAny_pure ⟨_,rfl,wpAny_pure h⟩)) htake))
  | exact wpAny_bind (wpAny_bind (m:=Builtin.Tuple.tupleExact _) (wpAny_newObj_type (wpAny_pure ⟨_,rfl,wpAny_pure h⟩) htake))
end
end HT
namespace L2
open PySem PySem.Spec PyProof.Rows
abbrev TO:=St->Hp->(Option Int->Hp->Prop)->Prop
def PO (X:Cx)(e:Option Expr)(t:TO):Prop:=
 ∀(pins:List (Addr×Obj)) (s:Shared) (σ:St) (H:Hp) (Q:Option Int->Hp->Prop),Inv X pins σ H s->t σ H Q ->
  wpAny (model X.prog X.w) X.A (evalPart e X.env) (fun u s'=>∃o H',Inv X pins σ H' s'/\IsPart u o/\Q o H') X.xe s
def CP:TO:=fun _ H Q=>Q none H
def PB (t:TE):TO:=fun σ H Q=>t σ H fun x H1=>∃i,x=.int i/\Q (some i) H1
section
variable {X:Cx}{e:Expr}{te:TE}{lo hi:Option Expr}{tl th:TO}{pos p2:Pos}
theorem Xb:PO X none CP:=by
 intro pins s σ H Q I h;rw[evalPart_none];exact wpAny_pure ⟨none,H,I,.none,h⟩
theorem Xa (h:PE X e te):PO X (some e) (PB te):=by
 intro pins s σ H Q I hw;rw[evalPart_some];refine thE (h pins s σ H _ I hw) fun u s1 x H1 I1 r1 q1=>?_;obtain⟨i,rfl,q⟩:=q1;obtain⟨t,rfl⟩:=r1;exact⟨some i,H1,I1,.int i t,q⟩
def SlR (X:Cx)(r:V->Option Int->Option Int->Hp->VK->Prop):Prop:=
 ∀(pins:List (Addr×Obj)) (s:Shared) (σ:St) (H:Hp) (x:V) (v vl vu:Value) (lo hi:Option Int) (sl:Addr) (Q:VK),Inv X pins σ H s->RelV x v->s.heap.IsSliceOf sl vl vu .none->IsPart vl lo->IsPart vu hi->r x lo hi H Q ->
  ∃T id,typeLookup (.type T) "__getitem__" = pure (some (.builtin id))/\s.TypeIs v T/\wpAny (model X.prog X.w) X.A (getItem v (.ref sl)) (EP X pins σ Q) X.xe s
def tSl (r:V->Option Int->Option Int->Hp->VK->Prop)(te:TE)(tl th:TO):TE:=fun σ H Q=>te σ H fun x H1=>tl σ H1 fun l H2=>th σ H2 fun u H3=>r x l u H3 Q
theorem RX {r:V->Option Int->Option Int->Hp->VK->Prop}(hr:SlR X r)(he:PE X e te)(hl:PO X lo tl)(hu:PO X hi th):PE X (.Subscript e (.Slice lo hi none p2) pos) (tSl r te tl th):=by
 intro pins s σ H Q I h;refine Subscript_ (thE (he pins s σ H _ I h) fun v s1 x H1 I1 r1 q1=>?_);refine wpAny_Slice (thn (hl pins s1 σ H1 _ I1 q1) fun vl s2 ⟨l,H2,I2,pl,q2⟩=>thn (hu pins s2 σ H2 _ I2 q2) fun vu s3 ⟨u,H3,I3,pu,q3⟩=>?_);rw[evalPart_none];refine wpAny_pure ?_;have I4:Inv X pins σ H3 { s3 with heap:=s3.heap.push { cls:=.type "slice",data:=.fields #[vl,vu,.none] } }:=I3.kept (t':=s3.toks) fun b ob q=>get?_push_of_some _ q;obtain⟨T,id,hT,ht,hg⟩:=hr pins { s3 with heap:=s3.heap.push { cls:=.type "slice",data:=.fields #[vl,vu,.none] } } σ H3 x v vl vu l u s3.heap.objs.size Q I4 r1 (Heap.IsSliceOf.new ..) pl pu q3;show wpAny (model X.prog X.w) X.A (subscriptTail e (.Slice lo hi none p2) v (.ref s3.heap.objs.size)) (EP X pins σ Q) X.xe { s3 with heap:=s3.heap.push { cls:=.type "slice",data:=.fields #[vl,vu,.none] } };exact tail_any (ops:=[.ref s3.heap.objs.size,v]) ht hT hg (by with_unfolding_all rfl)
def sZ (xs:List V)(lo hi:Option Int):List V:=(xs.drop (HT.sIx xs.length 0 lo)).take (HT.sIx xs.length xs.length hi-HT.sIx xs.length 0 lo)
theorem wO (xs:List V)(lo hi:Option Int):(sZ xs lo hi).length<=xs.length:=by
 unfold sZ;rw[length_take,length_drop];omega
def acF (K:PySem.W.Frag):V->Option Int->Option Int->Hp->VK->Prop:=fun x lo hi H Q=>∃a xs,x=.ref a/\SqT K H a xs /\
 ¬(HT.sIx xs.length 0 lo=0/\HT.sIx xs.length xs.length hi=xs.length)/\∀p,H p=none->Q (.ref p) (upd H p (.tup (sZ xs lo hi)))
theorem Z9:SlR X (acF X.K):=by
 intro pins s σ H x v vl vu lo hi sl Q I rx hs pl pu h;obtain⟨a,xs,rfl,hx,hw,q⟩:=h;cases rx;obtain⟨its,r,ht,hz⟩:=I.tuple hx;have hlen:its.toArray.size=xs.length:=by rw[size_toArray];exact r.length.symm
 refine⟨"tuple",_,PyProof.Rows.slot_tuple_getitem.lookup,ht.typeIs,?_⟩;refine HT.uT ht hs pl pu (by rw[hlen];exact hw) ?_ (by rw[hlen];exact hz);rw[hlen];refine⟨.ref s.heap.objs.size,_,I.laid (t':=s.toks) (o:=.tup (sZ xs lo hi)) (fun b ob q=>get?_push_of_some _ q) (Nat.le_refl _) ?_,rfl,q _ (I.hok.fresh (Nat.le_refl _))⟩;exact⟨Nat.le_trans (wO xs lo hi) hz,_,(r.drop (HT.sIx xs.length 0 lo)).take (HT.sIx xs.length xs.length hi-HT.sIx xs.length 0 lo),IsTup.new _ _⟩
end
def ixN (n:Nat)(i:Int):Option Nat:=if 0<=i then (if i<n then some i.toNat else none) else if -(n:Int)<=i then some (i+n).toNat else none
def atI {α:Type}(xs:List α)(i:Int):Option α:=(ixN xs.length i).bind fun j=>xs[j]?
theorem La {n:Nat}{i:Int}{j:Nat}(h:ixN n i=some j):seqIndex? i n=some j/\j<n/\-(n:Int)<=i/\i<n:=by
 unfold ixN at h;by_cases h0:0<=i
 ·rw[if_pos h0] at h;by_cases h1:i<n
  ·rw[if_pos h1] at h;have e:i.toNat=j:=Option.some.inj h;exact⟨by rw[seqIndex_of h0 h1,e],ω,ω,h1⟩
  ·rw[if_neg h1] at h;cases h
 ·rw[if_neg h0] at h;by_cases h1:-(n:Int)<=i
  ·rw[if_pos h1] at h;have e:(i+n).toNat=j:=Option.some.inj h;exact⟨by rw[seqIndex_neg ω h1,e],ω,h1,ω⟩
  ·rw[if_neg h1] at h;cases h
theorem LQ {α:Type}{xs:List α}{i:Int}{v:α}(h:atI xs i=some v):∃j,seqIndex? i xs.length=some j/\xs[j]?=some v/\j<xs.length/\-(xs.length:Int)<=i/\i<xs.length:=by
 unfold atI at h;cases e:ixN xs.length i with
 | none=>rw[e] at h;cases h
 | some j=>
  rw[e] at h;obtain⟨h1,h2,h3,h4⟩:=La e;exact⟨j,h1,h,h2,h3,h4⟩
theorem gJ {α:Type}{xs:List α}{j:Nat}{v:α}(h:xs[j]?=some v):atI xs (j:Int)=some v:=by
 have hj:j<xs.length:=(List.getElem?_eq_some_iff.mp h).1;have e:ixN xs.length (j:Int)=some j:=by
  unfold ixN;rw[if_pos ω,if_pos ω];simp
 unfold atI;rw[e];exact h
def LR (b:Expr):Prop:=∀o i,subscripted b false o i=operate [o,i] (getItem o i)
def IxR (X:Cx)(r:R2):Prop:=
 ∀(value slice:Expr)(pins:List (Addr×Obj)) (s:Shared) (σ:St) (H:Hp) (x y:V) (v u:Value) (Q:VK),Inv X pins σ H s->RelV x v->RelV y u->r x y H Q ->
  subscripted slice false v u=operate [v,u] (getItem v u)->wpAny (model X.prog X.w) X.A (subscriptTail value slice v u) (EP X pins σ Q) X.xe s
section
variable {X:Cx}{a b:Expr}{ta tb:TE}{pos:Pos}
theorem ab4 {r:R2}(hr:IxR X r)(ha:PE X a ta)(hb:PE X b tb)(hs:LR b):PE X (.Subscript a b pos) (tOp r ta tb):=by
 intro pins s σ H Q I h;exact Subscript_ (abI ha hb I h fun v u s2 x y H2 I2 rx ry q=>hr a b pins s2 σ H2 x y v u Q I2 rx ry q (hs _ _))
def abW (K:PySem.W.Frag):R2:=fun x y H Q=>∃p xs i v,x=.ref p/\y=.int i/\SqL K H p xs/\atI xs i=some v/\Q v H
def acJ (K:PySem.W.Frag):R2:=fun x y H Q=>∃p xs i v,x=.ref p/\y=.int i/\SqT K H p xs/\atI xs i=some v/\Q v H
theorem K8:IxR X (abW X.K):=by
 intro value slice pins s σ H x y v u Q I rx ry h hs;obtain⟨p,xs,i,z,rfl,rfl,hq,he,q⟩:=h;cases rx;obtain⟨t,rfl⟩:=ry;obtain⟨its,r,pl,hz⟩:=I.list hq;obtain⟨j,h1,h2,h3,h4,h5⟩:=LQ he;obtain⟨w,ew,rw'⟩:=r.get h2;have hl:=r.length;have hn:=zf;have fin:EP X pins σ Q w s:=⟨z,H,I,rw',q⟩;by_cases h0:0<=i
 ·have hj:i.toNat=j:=by
   rw[seqIndex_of h0 h5] at h1;exact Option.some.inj h1
  exact item_listR pl.isList h0 ω (by rw[hj];simpa using ew) fin hs
 ·have hj:(i+(its.toArray.size:Int)).toNat=j:=by
   rw[seqIndex_neg ω h4] at h1;rw[size_toArray,<- hl];exact Option.some.inj h1
  exact subscriptTail_builtinR (x:=w) pl.isList.typeIs slot_list_getitem.lookup
   (wpAny_getItem_list_neg (Q:=fun r s'=>r=w/\EP X pins σ Q r s') pl.isList ω (by rw[size_toArray] <;> omega) ω (by rw[hj];simpa using ew) ⟨rfl,fin⟩) hs
theorem abn:IxR X (acJ X.K):=by
 intro value slice pins s σ H x y v u Q I rx ry h hs;obtain⟨p,xs,i,z,rfl,rfl,hq,he,q⟩:=h;cases rx;obtain⟨t,rfl⟩:=ry;obtain⟨its,r,pl,hz⟩:=I.tuple hq;obtain⟨j,h1,h2,h3,h4,h5⟩:=LQ he;obtain⟨w,ew,rw'⟩:=r.get h2;have hl:=r.length;have hn:=zf;have fin:EP X pins σ Q w s:=⟨z,H,I,rw',q⟩;exact subscriptTail_builtinR (x:=w) pl.typeIs slot_tuple_getitem.lookup
  (getItem_tuple (j:=j) (Q:=fun r s'=>r=w/\EP X pins σ Q r s') pl ω ω (by rw[size_toArray,<- hl];exact h1) (by simpa using ew) ⟨rfl,fin⟩) hs
theorem Jt (its:List Value) (n j:Nat) (u:Value):Obj.mapSeq (·.setIfInBounds j u) { cls:=.type "list",data:=.seq its.toArray n }={ cls:=.type "list",data:=.seq (its.set j u).toArray n }:=by
 simp [Obj.mapSeq]
theorem Inv.lst {pins:List (Addr×Obj)}{σ:St}{H:Hp}{s:Shared}{p:Addr}{xs:List V}(I:Inv X pins σ H s)(h:H p=some (.lst xs)) :
  ∃(its:List Value)(n:Nat),Vals xs its/\s.heap.get? p=some { cls:=.type "list",data:=.seq its.toArray n }/\xs.length<=sizeLine:=by
 obtain⟨z,its,n,r,e⟩:=I.hok p _ h;exact⟨its,n,r,e,z⟩
theorem Inv.abb {pins:List (Addr×Obj)}{σ:St}{H:Hp}{s:Shared}{p:Addr}{xs ys:List V}{its its':List Value}{n n':Nat}{f:Obj->Obj}(I:Inv X pins σ H s)(h:H p=some (.lst xs))
  (ho:s.heap.get? p=some { cls:=.type "list",data:=.seq its.toArray n }) (hf:f { cls:=.type "list",data:=.seq its.toArray n }={ cls:=.type "list",data:=.seq its'.toArray n' }) (r:Vals ys its') (hz:ys.length<=sizeLine) (t:Nat) :
  Inv X pins σ (upd H p (.lst ys)) { s with heap:=s.heap.update p f,toks:=t }:=by
 have e:(s.heap.update p f).get? p=some { cls:=.type "list",data:=.seq its'.toArray n' }:=by
  rw[get?_update_self f ho (by rw[hf] <;> rfl),hf]
 refine I.write (x:=p) (e:=p) (by rw[h];trivial) (.inl rfl) (fun b u hb q=>(get?_update_other _ _ (Ne.symm hb)).trans q) ⟨_,e⟩ ?_;exact⟨hz,its',n',r,e⟩
def abV:V->V->V->Hp->(Hp->Prop)->Prop:=fun o i v H Q=>∃p xs k j,o=.ref p/\i=.int k/\H p=some (.lst xs)/\ixN xs.length k=some j/\Q (upd H p (.lst (xs.set j v)))
theorem set_list:VJ X abV:=by
 intro pins s σ H o i v ov iv u Q I ro ri rv h;obtain⟨p,xs,k,j,rfl,rfl,hp,hj,q⟩:=h;cases ro;obtain⟨t,rfl⟩:=ri;obtain⟨its,n,r,ho,hz⟩:=I.lst hp;obtain⟨h1,h2,h3,h4⟩:=La hj;have hl:=r.length;have hn:=zf;have I':Inv X pins σ (upd H p (.lst (xs.set j v))) { s with heap:=s.heap.update p (Obj.mapSeq (·.setIfInBounds j u)) }:=
  I.abb hp ho (Jt its n j u) (r.set rv j) (by rw[List.length_set];exact hz) s.toks
 by_cases h0:0<=k
 ·have hk:k.toNat=j:=by
   rw[seqIndex_of h0 h4] at h1;exact Option.some.inj h1
  exact PySem.W.ki_setAt ho h0 ω (by rw[size_toArray,<- hl];exact h4) (by rw[hk];exact⟨_,I',q⟩)
 ·have hk:(k+(its.toArray.size:Int)).toNat=j:=by
   rw[seqIndex_neg ω h3] at h1;rw[size_toArray,<- hl];exact Option.some.inj h1
  exact PySem.W.ki_setBack ho ω (by rw[size_toArray,<- hl];exact h3) ω (by rw[hk];exact⟨_,I',q⟩)
theorem Dc (lo hi:Option Int)(n:Nat):(sliceBounds lo hi none n).1=((HT.sIx n 0 lo:Nat):Int)/\(sliceBounds lo hi none n).2.1=((HT.sIx n n hi:Nat):Int)/\(sliceBounds lo hi none n).2.2=1:=by
 refine⟨?_,?_,rfl⟩
 ·cases lo with
  | none=>simp [sliceBounds,HT.sIx]
  | some i=>
   simp only[sliceBounds,HT.sIx,getD_none,show(1:Int)>0 by decide,if_true];by_cases h:i<0
   ·simp only[h,if_true] <;> omega
   ·simp only[h,if_false] <;> omega
 ·cases hi with
  | none=>simp [sliceBounds,HT.sIx]
  | some i=>
   simp only[sliceBounds,HT.sIx,getD_none,show(1:Int)>0 by decide,if_true];by_cases h:i<0
   ·simp only[h,if_true] <;> omega
   ·simp only[h,if_false] <;> omega
theorem Ao (its:List Value)(lo hi:Option Int):slicePick its.toArray lo hi none=((its.drop (HT.sIx its.length 0 lo)).take (HT.sIx its.length its.length hi-HT.sIx its.length 0 lo)).toArray:=by
 obtain⟨h1,h2,h3⟩:=Dc lo hi its.toArray.size;unfold slicePick;rw[h1,h2,h3];simp only[sliceRange_one,pick_run,size_toArray] <;> rfl
def acG (K:PySem.W.Frag):V->Option Int->Option Int->Hp->VK->Prop:=fun x lo hi H Q=>∃a xs,x=.ref a/\SqL K H a xs/\∀p,H p=none->Q (.ref p) (upd H p (.lst (sZ xs lo hi)))
theorem Wj:SlR X (acG X.K):=by
 intro pins s σ H x v vl vu lo hi sl Q I rx hs pl pu h;obtain⟨a,xs,rfl,hx,q⟩:=h;cases rx;obtain⟨its,r,ht,hz⟩:=I.list hx;have hlen:=r.length;refine⟨"list",_,slot_list_getitem.lookup,ht.isList.typeIs,?_⟩;refine wpAny_getItem_list_slice ht.isList hs pl pu .none (by simp) ?_ (by rw[size_toArray] <;> omega)
 rw[Ao,<- hlen];refine⟨.ref s.heap.objs.size,_,I.laid (t':=s.toks) (o:=.lst (sZ xs lo hi)) (fun b ob q=>get?_push_of_some _ q) (Nat.le_refl _) ?_,rfl,q _ (I.hok.fresh (Nat.le_refl _))⟩;exact⟨Nat.le_trans (wO xs lo hi) hz,_,0,(r.drop (HT.sIx xs.length 0 lo)).take (HT.sIx xs.length xs.length hi-HT.sIx xs.length 0 lo),get?_push_size _ rfl⟩
def iY:V->Bool
 | .non=>true
 | .bl _=>true
 | .int _=>true
 | .str _=>true
 | _=>false
def eqV:V->V->Bool
 | .non,.non=>true
 | .bl a,.bl b=>a == b
 | .bl a,.int b=>(if a then 1 else 0) == b
 | .int a,.bl b=>a == (if b then 1 else 0)
 | .int a,.int b=>a == b
 | .str a,.str b=>a == b
 | _,_=>false
theorem U6 {A:Around}{s:Shared}{y x:V}{u v:Value}(ry:RelV y u)(rx:RelV x v)(fy:iY y=true)(fx:iY x=true):SeqAt.EqAt A s u v (eqV y x):=by
 cases y with
 | non=>
  cases ry;cases x with
  | non=>cases rx;exact SeqAt.EqAt.same _
  | bl b=>cases rx;exact SeqAt.EqAt.none_bool b
  | int b=>obtain⟨t,rfl⟩:=rx;exact SeqAt.EqAt.none_int b t
  | str b=>obtain⟨t,rfl⟩:=rx;exact SeqAt.EqAt.none_str b t
  | _=>exact absurd (show false=true from fx) Bool.false_ne_true
 | bl a=>
  cases ry;cases x with
  | non=>cases rx;exact SeqAt.EqAt.bool_none a
  | bl b=>cases rx;exact SeqAt.EqAt.bool_bool a b
  | int b=>obtain⟨t,rfl⟩:=rx;exact SeqAt.EqAt.bool_int a b t
  | str b=>obtain⟨t,rfl⟩:=rx;exact SeqAt.EqAt.bool_str a b t
  | _=>exact absurd (show false=true from fx) Bool.false_ne_true
 | int a=>
  obtain⟨t',rfl⟩:=ry;cases x with
  | non=>cases rx;exact SeqAt.EqAt.int_none a t'
  | bl b=>cases rx;exact SeqAt.EqAt.int_bool a t' b
  | int b=>obtain⟨t,rfl⟩:=rx;exact SeqAt.EqAt.int_int a t' b t
  | str b=>obtain⟨t,rfl⟩:=rx;exact SeqAt.EqAt.int_str a t' b t
  | _=>exact absurd (show false=true from fx) Bool.false_ne_true
 | str a=>
  obtain⟨t',rfl⟩:=ry;cases x with
  | non=>cases rx;exact SeqAt.EqAt.str_none a t'
  | bl b=>cases rx;exact SeqAt.EqAt.str_bool a t' b
  | int b=>obtain⟨t,rfl⟩:=rx;exact SeqAt.EqAt.str_int a t' b t
  | str b=>obtain⟨t,rfl⟩:=rx;exact SeqAt.EqAt.str_str a t' b t
  | _=>exact absurd (show false=true from fx) Bool.false_ne_true
 | _=>exact absurd (show false=true from fy) Bool.false_ne_true
def eqU (x:V)(u:Value):Bool:=match u with
 | .none=>eqV .non x
 | .bool b=>eqV (.bl b) x
 | .int i _=>eqV (.int i) x
 | .str z _=>eqV (.str z) x
 | _=>false
theorem U5 {x y:V}{u:Value}(r:RelV y u)(f:iY y=true):eqU x u=eqV y x:=by
 cases y with
 | non=>cases r;rfl
 | bl b=>cases r;rfl
 | int i=>obtain⟨t,rfl⟩:=r;rfl
 | str z=>obtain⟨t,rfl⟩:=r;rfl
 | _=>exact absurd (show false=true from f) Bool.false_ne_true
theorem Et {x:V}:∀{xs:List V}{us:List Value},Vals xs us->xs.all iY=true->us.any (eqU x)=xs.any fun y=>eqV y x
 | _,_,.nil,_=>rfl
 | y::xs,u::us,.cons r t,f=>by
  rw[all_cons,Bool.and_eq_true] at f;rw[any_cons,any_cons,U5 r f.1,Et t f.2]
theorem yW {A:Around}{s:Shared}{x:V}{v:Value}(rx:RelV x v)(fx:iY x=true):∀{xs:List V}{us:List Value},Vals xs us->xs.all iY=true->∀u∈us,SeqAt.EqAt A s u v (eqU x u)
 | _,_,.nil,_=>fun u hu=>by cases hu
 | y::xs,u::us,.cons r t,f=>fun u' hu=>by
  rw[all_cons,Bool.and_eq_true] at f;rcases mem_cons.mp hu with rfl|hu
  ·rw[U5 r f.1];exact U6 r rx f.1 fx
  ·exact yW rx fx t f.2 u' hu
def inV (x:V)(xs:List V):Bool:=xs.any fun y=>eqV y x
def rIn (K:PySem.W.Frag)(neg:Bool):R2:=fun x y H Q=>∃p xs,y=.ref p/\(SqL K H p xs\/SqT K H p xs)/\iY x=true/\xs.all iY=true/\Q (.bl (if neg then !inV x xs else inV x xs)) H
theorem Dv:OpR X (compareOp .NotIn) (rIn X.K true):=by
 intro pins s σ H x y v u Q I rx ry h;obtain⟨p,xs,rfl,hq,fx,fs,q⟩:=h;cases ry;rcases hq with hq|hq
 ·obtain⟨its,r,pl,hz⟩:=I.list hq;refine SeqAt.notIn_listAt (eqU x) pl.isList (fun w hw=>yW rx fx r fs w (by simpa using hw)) ⟨.bl _,H,I,rfl,?_⟩;rw[show its.toArray.any (eqU x)=its.any (eqU x) by simp,Et r fs];exact q
 ·obtain⟨its,r,pl,hz⟩:=I.tuple hq;refine SeqAt.notIn_tupleAt (eqU x) pl (fun w hw=>yW rx fx r fs w (by simpa using hw)) ⟨.bl _,H,I,rfl,?_⟩;rw[show its.toArray.any (eqU x)=its.any (eqU x) by simp,Et r fs];exact q
theorem jZ:dR X (.builtin "len") (fun xs H Q=>∃p ys,xs=[.ref p]/\(SqL X.K H p ys\/SqT X.K H p ys)/\Q (.int ys.length) H):=by
 intro pins s σ H xs us Q I r h;obtain⟨p,ys,rfl,hq,q⟩:=h;obtain⟨u,rfl,rx⟩:=vals1 r;cases rx;have hn:=zf;rcases hq with hq|hq
 ·obtain⟨its,r',pl,hz⟩:=I.list hq;have hlen:=r'.length;exact Calls.call_len_list pl.isList (by simp only[size_toArray] <;> omega) ⟨.int ys.length,H,I.tok _,⟨s.toks+1,by rw[size_toArray,hlen]⟩,q⟩
 ·obtain⟨its,r',pl,hz⟩:=I.tuple hq;have hlen:=r'.length;exact len_tuple pl (by simp only[size_toArray] <;> omega) ⟨.int ys.length,H,I.tok _,⟨s.toks+1,by rw[size_toArray,hlen]⟩,q⟩
def tyV (K:PySem.W.Frag)(T:String)(x:V)(H:Hp):Prop:=match x with
 | .str _=>T = "str"
 | .int _=>T = "int"
 | .ref p=>(T = "list" /\ ∃xs,SqL K H p xs)\/(T = "tuple" /\ ∃o,K.lookup p=some o/\o.cls=.type "tuple" /\ o.dict=none) \/
   (T = "dict" /\ ((∃kvs,H p=some (.dK kvs))\/∃kvs,H p=some (.dT kvs)))\/(T = "set" /\ ∃S n,H p=some (.set S n))
 | _=>False
theorem HW {pins:List (Addr×Obj)}{σ:St}{H:Hp}{s:Shared}{T:String}{x:V}{v:Value}(I:Inv X pins σ H s)(r:RelV x v)(ty:tyV X.K T x H) :
  s.TypeIs v T/\∀a,v=.ref a->∃ob,s.heap.get? a=some ob/\ob.dict=none:=by
 cases x with
 | str z=>
  obtain⟨t,rfl⟩:=r;cases (show T = "str" from ty);exact⟨typeIs_str s z t,fun _ e=>nomatch e⟩
 | int i=>
  obtain⟨t,rfl⟩:=r;cases (show T = "int" from ty);exact⟨typeIs_int s i t,fun _ e=>nomatch e⟩
 | ref p=>
  cases r;rcases ty with⟨rfl,xs,hq⟩|⟨rfl,o,hk,hc,hd⟩|⟨rfl,hk⟩|⟨rfl,S,n,hk⟩
  ·obtain⟨its,_,pl,_⟩:=I.list hq;refine⟨pl.isList.typeIs,fun a e=>?_⟩;cases e;obtain⟨o,n,e,c,hd,_⟩:=pl;exact⟨o,e,hd⟩
  ·refine⟨⟨o,I.kIn p o hk,hc⟩,fun a e=>?_⟩;cases e;exact⟨o,I.kIn _ o hk,hd⟩
  ·have z:∃o,s.heap.get? p=some o/\o.ExactDict:=by
    rcases hk with⟨kvs,hk⟩|⟨kvs,hk⟩
    ·obtain⟨_,_,_,_,o,_,_,e,ex,_⟩:=I.hok p _ hk;exact⟨o,e,ex⟩
    ·obtain⟨_,_,_,_,o,_,_,e,ex,_⟩:=I.hok p _ hk;exact⟨o,e,ex⟩
   obtain⟨o,e,ex⟩:=z;refine⟨⟨o,e,ex.1⟩,fun a e2=>?_⟩;cases e2;exact⟨o,e,ex.2.1⟩
  ·obtain⟨o,_,_,_,e,ex,_⟩:=I.hok p _ hk;refine⟨⟨o,e,ex.1⟩,fun a e2=>?_⟩;cases e2;exact⟨o,e,ex.2.1⟩
 | _=>exact False.elim ty
variable {o e:Expr}{es:List Expr}{to:TE}{t:TA}{name:Str}{apos cpos:Pos}{T id:String}{r:V->List V->Hp->VK->Prop}
end
def MtM (X:Cx)(id:String)(r:V->List V->Hp->VK->Prop):Prop:=
 ∀(pins:List (Addr×Obj)) (s:Shared) (σ:St) (H:Hp) (x:V) (xs:List V) (v:Value) (us:List Value) (Q:VK),Inv X pins σ H s->RelV x v->Vals xs us->r x xs H Q ->
  wpAny (model X.prog X.w) X.A (call (.builtin id) (v::us)) (EP X pins σ Q) X.xe s
theorem Vals.one:∀{x:V}{us:List Value},Vals [x] us->∃u,us=[u]/\RelV x u:=fun h=>by
 cases h with
 | cons r h=>
  cases h;exact⟨_,rfl,r⟩
theorem Vals.zero:∀{us:List Value},Vals [] us->us=[]
 | _,.nil=>rfl
theorem Vals.reverse {xs:List V}{us:List Value}(h:Vals xs us):Vals xs.reverse us.reverse:=by
 induction h with
 | nil=>exact .nil
 | cons r t ih=>rw[List.reverse_cons,List.reverse_cons];exact Vals.append ih (.cons r .nil)
theorem Vals.rep {xs:List V}{us:List Value}(h:Vals xs us):∀k:Nat,Vals (List.replicate k xs).flatten (List.replicate k us).flatten
 | 0=>.nil
 | k+1=>by
  rw[replicate_succ,replicate_succ,flatten_cons,flatten_cons];exact Vals.append h (Vals.rep h k)
theorem foldl_rep (its:List Value):∀(k:Nat)(acc:List Value),
  List.foldl (fun x1 x2=>x1++x2) acc.toArray (List.replicate k its.toArray)=(acc++(List.replicate k its).flatten).toArray
 | 0,acc=>by simp
 | k+1,acc=>by
  have e:acc.toArray++its.toArray=(acc++its).toArray:=by simp
  have e2:(acc++its)++(List.replicate k its).flatten=acc++(List.replicate (k+1) its).flatten:=by
   rw[replicate_succ,flatten_cons,append_assoc]
  rw[<- e2,<- foldl_rep its k (acc++its),<- e,replicate_succ,List.foldl_cons]
section
variable {X:Cx}{pins:List (Addr×Obj)}{σ:St}{H:Hp}{s:Shared}{l b:Addr}{xs ys zs:List V}
theorem Inv.abf {its its':List Value}{n:Nat}{f:Array Value->Array Value}{t':Nat}(I:Inv X pins σ H s)(hH:H l=some (.lst xs))
  (e:s.heap.get? l=some { cls:=.type "list",data:=.seq its.toArray n }) (hf:f its.toArray=its'.toArray) (hv:Vals ys its') (hz:ys.length<=sizeLine) :
  Inv X pins σ (upd H l (.lst ys)) { s with heap:=s.heap.update l (Obj.mapSeq f),toks:=t' }:=by
 have q:=PySem.IsL.update e f;rw[hf] at q;refine I.write (x:=l) (e:=l) (by rw[hH];exact trivial) (.inl rfl) (fun b' u hb hu=>(get?_update_other s.heap (Obj.mapSeq f) (Ne.symm hb)).trans hu) ⟨_,q⟩ ?_;exact⟨hz,its',_,hv,q⟩
theorem Inv.acn {its:List Value}{t':Nat}(I:Inv X pins σ H s)(hv:Vals ys its)(hz:ys.length<=sizeLine) :
  Inv X pins σ (upd H s.heap.objs.size (.lst ys)) { s with heap:=s.heap.push { cls:=.type "list",data:=.seq its.toArray },toks:=t' }:=
 I.laid (fun _ _ q=>get?_push_of_some _ q) (Nat.le_refl _) ⟨hz,its,0,hv,get?_push_size _ rfl⟩
theorem Inv.fresh (I:Inv X pins σ H s):H s.heap.objs.size=none:=I.hok.fresh (Nat.le_refl _)
theorem Inv.Jx (I:Inv X pins σ H s) (hH:H l=some (.lst xs)):xs.length<=sizeLine/\∃(its:List Value)(n:Nat),Vals xs its/\xs.length=its.length/\s.heap.get? l=some { cls:=.type "list",data:=.seq its.toArray n }:=by
 obtain⟨z,its,n,r,e⟩:=I.hok l _ hH;exact⟨z,its,n,r,r.length,e⟩
theorem Gk {n:Nat}(h:n<=sizeLine):Builtin.List.listTooLong n=false:=by
 unfold Builtin.List.listTooLong;exact decide_eq_false ω
end
section
variable {X:Cx}
def WD:V->List V->Hp->VK->Prop:=fun x vs H Q=>∃l xs y,x=.ref l/\vs=[y]/\H l=some (.lst xs)/\xs.length<sizeLine/\Q .non (upd H l (.lst (xs++[y])))
theorem NP:MtM X "list.append" WD:=by
 intro pins s σ H x vs v us Q I rx rv h;obtain⟨l,xs,y,rfl,rfl,hH,hz,q⟩:=h;cases rx;obtain⟨u,rfl,ru⟩:=rv.one;obtain⟨z,its,n,r,hl,e⟩:=I.Jx hH;refine call_meets F.slot_list_append ⟨_,e,rfl⟩ F.entry_list_append (F.args_list_append_2 _ _) (PySem.list_append l its.toArray n u (by rw[size_toArray];omega)) ⟨e,?_⟩;refine⟨.non,_,I.abf (its':=its++[u]) hH e (by simp) (r.append (.cons ru .nil)) ?_,rfl,q⟩;rw[length_append,length_singleton];omega
def Wu:V->List V->Hp->VK->Prop:=fun x vs H Q=>∃l b xs zs,x=.ref l/\vs=[.ref b]/\H l=some (.lst xs)/\H b=some (.lst zs)/\xs.length+zs.length<=sizeLine/\Q .non (upd H l (.lst (xs++zs)))
theorem NK:MtM X "list.extend" Wu:=by
 intro pins s σ H x vs v us Q I rx rv h;obtain⟨l,b,xs,zs,rfl,rfl,hH,hB,hz,q⟩:=h;cases rx;obtain⟨u,rfl,ru⟩:=rv.one;cases ru;obtain⟨z,its,n,r,hl,e⟩:=I.Jx hH;obtain⟨z2,its2,n2,r2,hl2,e2⟩:=I.Jx hB;have hsz:its.toArray.size+its2.toArray.size<=sizeLine:=by rw[size_toArray,size_toArray];omega
 have hlong:¬(!its.toArray.isEmpty&&Builtin.List.listTooLong (its.toArray.size+its2.toArray.size))=true:=by
  rw[Gk hsz,Bool.and_false];exact Bool.false_ne_true
 refine call_meets F.slot_list_extend ⟨_,e,rfl⟩ F.entry_list_extend (F.args_list_extend_2 _ _)
  (AutoSeq1.list_extend_list_list_0 l its.toArray n b its2.toArray n2 hlong (by rw[size_toArray];omega) ω) ⟨e,e2,?_⟩
 refine⟨.non,_,I.abf (its':=its++its2) hH e (by simp) (r.append r2) ?_,rfl,q⟩;rw[length_append];omega
def Q9:V->List V->Hp->VK->Prop:=fun x vs H Q=>∃l xs,x=.ref l/\vs=[]/\H l=some (.lst xs)/\Q .non (upd H l (.lst xs.reverse))
theorem Jr:MtM X "list.reverse" Q9:=by
 intro pins s σ H x vs v us Q I rx rv h;obtain⟨l,xs,rfl,rfl,hH,q⟩:=h;cases rx;have hus:=rv.zero;subst hus;obtain⟨z,its,n,r,hl,e⟩:=I.Jx hH;refine call_meets F.slot_list_reverse ⟨_,e,rfl⟩ F.entry_list_reverse (F.args_list_reverse_1 _) (AutoSeq1.list_reverse_list_0 l its.toArray n (by rw[size_toArray];omega)) ⟨e,?_⟩;refine⟨.non,_,I.abf (its':=its.reverse) hH e (by simp) r.reverse ?_,rfl,q⟩;rw[List.length_reverse];omega
def acL:R2:=fun x y H Q=>∃l b xs zs,x=.ref l/\y=.ref b/\H l=some (.lst xs)/\H b=some (.lst zs)/\xs.length+zs.length<=sizeLine/\∀p,H p=none->Q (.ref p) (upd H p (.lst (xs++zs)))
theorem aaP:OpR X (binaryOp .Add) acL:=by
 intro pins s σ H x y v u Q I rx ry h;obtain⟨l,b,xs,zs,rfl,rfl,hH,hB,hz,q⟩:=h;cases rx;cases ry;obtain⟨z,its,n,r,hl,e⟩:=I.Jx hH;obtain⟨z2,its2,n2,r2,hl2,e2⟩:=I.Jx hB;refine PySem.P.add_list e e2 ?_ (by rw[size_toArray,size_toArray];omega);have ea:its.toArray++its2.toArray=(its++its2).toArray:=by simp
 rw[ea];exact⟨.ref _,_,I.acn (t':=s.toks) (r.append r2) (by rw[length_append];omega),rfl,q _ I.fresh⟩
def acH:R2:=fun x y H Q=>∃l k xs,x=.ref l/\y=.int k/\H l=some (.lst xs)/\-(2^63)<=k/\k<2^63/\xs.length*k.toNat<=sizeLine /\
 ∀p,H p=none->Q (.ref p) (upd H p (.lst (List.replicate k.toNat xs).flatten))
theorem len_rep {α:Type}(xs:List α)(k:Nat):(List.replicate k xs).flatten.length=k*xs.length:=by
 induction k with
 | zero=>simp
 | succ k ih=>rw[replicate_succ,flatten_cons,length_append,ih,Nat.succ_mul,Nat.add_comm]
theorem aaM:OpR X (binaryOp .Mult) acH:=by
 intro pins s σ H x y v u Q I rx ry h;obtain⟨l,k,xs,rfl,rfl,hH,h1,h2,hz,q⟩:=h;cases rx;obtain⟨t,rfl⟩:=ry;obtain⟨z,its,n,r,hl,e⟩:=I.Jx hH;have hlen:its.toArray.size*k.toNat<=sizeLine:=by rw[size_toArray,<- hl];exact hz
 have hcap:¬its.toArray.size*k.toNat>(2^63-1)/8:=by
  have:(sizeLine:Nat)<=(2^63-1)/8:=by decide
  omega
 have hfit:¬(!Builtin.List.listFitsIndex k)=true:=by
  rw[fitsIndex_both h1 h2];exact Bool.false_ne_true
 have hlong:¬Builtin.List.listTooLong (its.toArray.size*k.toNat)=true:=by
  rw[Gk hlen];exact Bool.false_ne_true
 have hnew:List.foldl (fun x1 x2=>x1++x2) #[] (List.replicate (if its.toArray.isEmpty=true then 0 else k.toNat) its.toArray)=(List.replicate k.toNat its).flatten.toArray:=by
  have f0:∀m:Nat,List.foldl (fun x1 x2=>x1++x2) #[] (List.replicate m its.toArray)=(List.replicate m its).flatten.toArray:=fun m=>by
   have:=foldl_rep its m [];rw[nil_append] at this;exact this
  rw[f0];cases its with
  | nil=>simp
  | cons a r'=>rw[if_neg (by simp)]
 refine wpAny_binaryOp_repeat_ref (T := "list") (U := "int") δ ⟨_,e,rfl⟩ (fun s'=>typeIs_int s' k t) noFill_list_mul F.fills_int_mul F.slot_int_rmul repeat_list F.slot_int_index.lookup
  (call_meets F.slot_int_rmul (typeIs_int s k t) F.entry_int_rmul (F.args_int_rmul_2 _ _) (int___rmul___int_list k t l its.toArray n)
   ⟨e,rfl,⟨_,e,rfl⟩,call_meets F.slot_list_mul ⟨_,e,rfl⟩ F.entry_list_mul (F.args_list_mul_2 _ _) (AutoListH.list___mul___list_int_3 l its.toArray n k t hfit hcap hlong) ⟨e,?_⟩⟩)
 rw[hnew];exact⟨.ref _,_,I.acn (t':=s.toks) (r.rep k.toNat) (by rw[len_rep,Nat.mul_comm];exact hz),rfl,q _ I.fresh⟩
end
end L2
namespace Att
open PySem PySem.W PySem.Calls PyProof.Rows
theorem w6 {P:Params}{h:Heap}:∀(ns:List Int)(vs:List Value),WellAll P h vs (ns.map WData.int)->IntsAre vs ns:=by
 intro ns
 induction ns with
 | nil=>
  intro vs w;rw[map_nil] at w;cases w;exact .nil
 | cons n ns ih=>
  intro vs w;rw[map_cons] at w;cases w with
  | cons a b=>
   cases a;exact .cons _ _ (ih _ b)
theorem Mw {l:OpenLaw}{n:Nat}(hn:l.most=some n){P:Params}{h:Heap}{args:List WData}{vals:List Value}
  (hpre:l.row.toRowW.claim.pre args=true) (hwl:WellAll P h vals args) :
  ∃a vs ns,vals=[Value.ref a]/\args=[WData.list (ns.map WData.int)]/\h.get? a=some { cls:=.type "list",data:=.seq vs.toArray }/\IntsAre vs ns/\ns.length<=n:=by
 have hsh:WShape.hasAll [] args [.list .int]=true:=(pre_splitW hpre).1;have hc:l.pre.holds [] { args:=args }=true:=(pre_splitW hpre).2;obtain⟨d,r,rfl,h1,h2⟩:=hasAllW_cons hsh;obtain rfl:=hasAllW_nil h2;obtain⟨xs,rfl,h3⟩:=hasW_list h1;obtain⟨ns,rfl⟩:=items_int h3;have hlen:ns.length<=n:=by
  unfold OpenLaw.pre at hc;have h4:(WTm.not (.lt (.lit (.int (n:Int))) (.len (.arg 0)))).holds [] { args:=[.list (ns.map .int)] }=true:=by
   have h4:=(holds_andW hc).1;rw[hn] at h4;exact h4
  have h5:=condW_of h4 (w_not (w_lt w_lit (w_len_list (w_arg rfl))));rw[length_map] at h5;refine Nat.le_of_not_lt fun q=>?_;have q':(n:Int)<((ns.length:Nat):Int):=ω
  first
   | (rw[decide_eq_true q'] at h5;exact absurd h5 δ)
   | (simp at h5;omega)
 cases hwl with
 | cons w1 w2=>
  cases w2;cases w1 with
  | list ho hall=>exact⟨_,_,ns,rfl,rfl,ho,w6 ns _ hall,hlen⟩
theorem M7 (l:OpenLaw)(args:List WData):l.row.toRowW.claim.post args (.bool true) args=true:=
 postW_of (r:=l.row.toRowW) (X:=(true == true))
  (show WShape.has [] (.bool true) .bool=true by first|rfl|decide|simp [WShape.has,WShape.arms,WShape.armsAll])
  (show(WTm.eq .res (.lit (.bool true))).value [] { args:=args,res:=some (.bool true),after:=args }=some (.bool (true == true)) from w_eq_bool (w_res rfl) w_lit) rfl
theorem Hz {l:OpenLaw}{n:Nat}{q:Program}{loose:List Str}{XP:(Str->Option Value)->Heap->Prop}{YP:World->Heap->Prop}{d:DefRec}
  (hn:l.most=some n) (hdf:d.params.defaults=[])
  (call:∀(w:World)(s₀ s₁:Shared)(mg mb:Str->Option Value)(fa:Addr)(o:Obj)(pm cd doc:Value)(a:Addr)(vs:List Value)(ns:List Int),
   Ground q loose [] XP w s₀ mg mb s₁.heap->YP w s₁.heap ->
   s₁.heap.get? fa=some o->o.data=.func (docDef d.name d.params d.body d.scope pm cd doc)->s₁.heap.CodeRec cd d.name->mg d.name=some (.ref fa) ->
   s₁.heap.get? a=some { cls:=.type "list",data:=.seq vs.toArray }->IntsAre vs ns->ns.length<=n->s₁.gens=#[] ->
   codeAny (model l.prog w) callerA (.call (.ref fa) ⟨[.ref a],[]⟩) (fun r s'=>r=.ok (.ret (.bool true))/\OldK s₁.heap s'.heap/\s'.os=s₁.os/\AllBare s'.gens) s₁) :
  WalkO q loose XP YP l.row.toRowW d [] (fun f vs=>PySem.call f vs):=by
 intro w s₀ s₁ mg mb G Y fa o pm cd doc dV kV ho hd hcd hD hmg hg args vals as hpre hlay hrd hwl hlo;obtain rfl:dV=.none:=Dflts.none hD hdf;obtain rfl:kV=.none:=Dflts.noKw hD;obtain⟨a,vs,ns,rfl,rfl,hobj,hints,hlen⟩:=Mw hn hpre hwl;refine enter_call (codeAny_mono (call w s₀ s₁ mg mb fa o pm cd doc a vs ns G Y ho (fd_plain hd) hcd hmg hobj hints hlen hg) fun r s' hq=>?_);obtain⟨rfl,h2,h3,h4⟩:=hq;exact⟨.inl ⟨.bool true,.bool true,[],rfl,fun _=>rfl,.bool true,M7 l _,fun _=>⟨List.Pairwise.nil,fun _ hm=>(nomatch hm)⟩⟩,h2,h3,h4⟩
end Att
namespace L2
open PySem PySem.Spec PyProof.Rows
theorem Bm:∀{vs:List Value}{ns:List Int},IntsAre vs ns->Vals (ns.map V.int) vs
 | _,_,.nil=>.nil
 | _,_,.cons n t h=>.cons ⟨t,rfl⟩ (Bm h)
def Only (H:Hp):Prop:=∀b,H b=none\/∃o xs,H b=some (.frz o (.lst xs))
theorem T6 {P:Program}{w:World}{K:PySem.W.Frag}{mg mb:Str->Option Value}{CX:CXT}{k:Nat}{fa a:Addr}{fd:FuncData}{x:Str}{sp:Sp}{s₁:Shared}{vs:List Value}{ns:List Int}
  (KX:K.In s₁.heap) (hns:s₁.heap.Ns mainGlobals mg) (hb:s₁.heap.Ns builtinsNs mb) (hbb:∀x:Str,x ≠ "__name__" -> mb x=bootBuiltins x) (hlim:s₁.heap.NoLimit) (hg:s₁.gens=#[])
  (ha:s₁.heap.get? a=some { cls:=.type "list",data:=.seq vs.toArray }) (hi:IntsAre vs ns) (hl:ns.length<=sizeLine) (hr:jR k callerA)
  (F:∀base:Heap,K.In base->base.Ns mainGlobals mg->dm P w K mg base CX k fa fd [x] sp) (hbind:∀(s:Shared)(u:Value),BindsTo s fd ⟨[u],[]⟩ [(x,u)])
  (hsp:∀H:Hp,Only H->SqL K H a (ns.map V.int)->sp [.ref a] H (fun v _=>v=.bl true) fun _ _ _=>False)
  (hCX:∀H e s',CX [] H s₁ (fun _ _ _=>False) e s'->False) :
  codeAny (model P w) callerA (.call (.ref fa) ⟨[.ref a],[]⟩) (fun r s'=>r=.ok (.ret (.bool true))/\OldK s₁.heap s'.heap/\s'.os=s₁.os/\AllBare s'.gens) s₁:=by
 have rv:=Bm hi;have lenV:=hi.length
 -- from an abstract heap in which nothing but the script may be tracked
 have core:∀H:Hp,Only H->SqL K H a (ns.map V.int)->HOk P w H s₁.heap->(∀b,H b≠none->b=a)->(H a≠none->K.lookup a=none) ->
   codeAny (model P w) callerA (.call (.ref fa) ⟨[.ref a],[]⟩) (fun r s'=>r=.ok (.ret (.bool true))/\OldK s₁.heap s'.heap/\s'.os=s₁.os/\AllBare s'.gens) s₁:=by
  intro H hO hS hok hA hK;have base_of:∀{b:Addr}{o:Obj},s₁.heap.get? b=some o->H b=none->(Eb s₁.heap H).get? b=some o:=fun e n=>Um e n;have noA:∀{b:Addr}{o:Obj}{es:Array DictEntry}{ep:Nat},s₁.heap.get? b=some o->o.data=.dict es ep->H b=none:=fun {b o es ep} e d=>by
   cases q:H b with
   | none=>rfl
   | some u=>
    have e':b=a:=hA b (by rw[q];simp);subst e';rw[ha] at e;cases e;have d':Data.seq vs.toArray _=Data.dict es ep:=d;cases d'
  have nsK:∀{b:Addr}{m:Str->Option Value},s₁.heap.Ns b m->(Eb s₁.heap H).Ns b m:=fun {b m} ⟨o,es,ep,e,d,r⟩=>⟨o,es,ep,base_of e (noA e d),d,r⟩;have hKb:K.In (Eb s₁.heap H):=fun b o e=>base_of (KX b o e) (by
   cases q:H b with
   | none=>rfl
   | some u=>
    have e':b=a:=hA b (by rw[q];simp);subst e';rw[hK (by rw[q];simp)] at e;cases e)
  have hM:Mod K mg (Eb s₁.heap H):=⟨hKb,nsK hns,⟨mb,nsK hb,hbb⟩,let ⟨mc,h1,h2⟩:=hlim;⟨mc,nsK h1,h2⟩⟩;have e0:Zj P w K mg (Eb s₁.heap H) callerA [] s₁ H:=⟨rfl,hM,fun b o e=>XH e,Nat.le_of_eq (Oc _ _),trivial,fun b hb=>absurd (show b∈([]:List Addr) from hb) (by simp),hok,.of_eq hg⟩;refine codeAny_mono ((F _ hKb (nsK hns)).run callerA [] s₁ H ⟨[.ref a],[]⟩ [.ref a] [.ref a] _ _ hr e0 (hbind s₁ (.ref a)) (.cons rfl .nil) (hsp H hO hS)) fun r s' h=>?_;cases r with
  | error e=>exact(hCX H e s' h).elim
  | ok fl=>
   cases fl with
   | next=>exact False.elim h
   | brk=>exact False.elim h
   | cont=>exact False.elim h
   | ret u=>
    obtain⟨v,H',os,bare,un,hok',r',q⟩:=h;have q':v=.bl true:=q;subst q';obtain rfl:u=Value.bool true:=r';refine⟨rfl,OldK.of_keep fun b o e=>?_,os,bare⟩;cases q:H b with
    | none=>exact un.keep b o e q (by intro z;exact absurd (show b∈([]:List Addr) from z) (by simp)) (by simp)
    | some u=>
     rcases hO b with z|⟨ob,xs,z⟩
     ·rw[q] at z;cases z
     ·have z2:=un.frzs b ob _ z;obtain⟨e1,_⟩:=hok b _ z;obtain⟨e2,_⟩:=hok' b _ z2;rw[e] at e1;cases e1;exact e2
 cases hk:K.lookup a with
 | some o=>
  -- the script is one of the module's own objects
  have e:=KX a o hk;rw[ha] at e;cases e;refine core (fun _=>none) (fun _=>.inl rfl) (.inr ⟨_,vs.toArray,_,hk,rfl,rfl,rfl,by rw[size_toArray,lenV];exact hl,by simpa using rv⟩) (fun b u z=>by have z':(none:Option HO)=some u:=z;cases z') (fun b z=>absurd rfl z) fun z=>absurd rfl z
 | none=>
  refine core (fun b=>if b=a then some (.frz { cls:=.type "list",data:=.seq vs.toArray } (.lst (ns.map V.int))) else none) (fun b=>?_) (.inl (.inr ⟨{ cls:=.type "list",data:=.seq vs.toArray },if_pos rfl⟩)) (fun b u z=>?_) (fun b z=>?_) fun _=>hk
  ·by_cases hb:b=a
   ·exact .inr ⟨_,_,if_pos hb⟩
   ·exact .inl (if_neg hb)
  ·by_cases hb:b=a
   ·have z':=(if_pos hb).symm.trans z;cases z';subst hb;exact⟨ha,by rw[length_map];exact hl,vs,_,rv,ha⟩
   ·have z':=(if_neg hb).symm.trans z;cases z'
  ·by_cases hb:b=a
   ·exact hb
   ·exact absurd (if_neg hb) z
theorem V3 {l:PySem.W.OpenLaw}{n k:Nat}{q:Program}{loose:List Str}{XP:(Str->Option Value)->Heap->Prop}{YP:World->Heap->Prop}{d:DefRec}{K:Params->PySem.W.Frag}{CX:World->CXT}{sp:World->Sp}{x:Str}
  (hn:l.most=some n) (hn2:n<=sizeLine) (hdf:d.params.defaults=[]) (hr:jR k callerA)
  (hY:∀(w:World)(h:Heap),YP w h->(K w.params).In h)
  (F:∀(w:World)(mg:Str->Option Value)(fa:Addr)(h:Heap),(K w.params).In h->h.Ns mainGlobals mg->mg d.name=some (.ref fa) ->
   ∃fd:FuncData,(∀(s:Shared)(u:Value),BindsTo s fd ⟨[u],[]⟩ [(x,u)]) /\
    ∀base:Heap,(K w.params).In base->base.Ns mainGlobals mg->dm l.prog w (K w.params) mg base (CX w) k fa fd [x] (sp w))
  (hsp:∀(w:World)(H:Hp)(a:Addr)(ns:List Int),ns.length<=n->Only H->SqL (K w.params) H a (ns.map V.int)->sp w [.ref a] H (fun v _=>v=.bl true) fun _ _ _=>False)
  (hCX:∀(w:World)(H:Hp)(s:Shared)(e:Value)(s':Shared),CX w [] H s (fun _ _ _=>False) e s'->False) :
  PySem.W.WalkO q loose XP YP l.row.toRowW d [] (fun f vs=>PySem.call f vs):=by
 refine Att.Hz hn hdf fun w s₀ s₁ mg mb fa o pm cd doc a vs ns G Y ho hd hcd hmg hobj hints hlen hg=>?_;have KX:=hY w _ Y;obtain⟨fd,hb,hF⟩:=F w mg fa _ KX G.T.g hmg;exact T6 KX G.T.g G.T.b G.T.builtins G.T.nolimit hg hobj hints (Nat.le_trans hlen hn2) hr hF hb (fun H hO hS=>hsp w H a ns hlen hO hS) fun H e s'=>hCX w H s₁ e s'
def iZ (s:Stmt):Arguments:=match s with
 | .FunctionDef _ a _ _ _ _ _ _ _ _=>a
 | _=>{ posonlyargs:=[],args:=[],vararg:=none,kwonlyargs:=[],kw_defaults:=[],kwarg:=none,defaults:=[] }
def fZ (s:Stmt):List Stmt:=match s with
 | .FunctionDef _ _ b _ _ _ _ _ _ _=>b
 | _=>[]
def aj (s:Stmt):Scope:=match s with
 | .FunctionDef _ _ _ _ _ _ sc _ _ _=>sc
 | _=>{ kind:=.function,names:=[],isGenerator:=false,isCoroutine:=false }
abbrev CX0:CXT:=fun _ _ _ _ _ _=>False
abbrev E0:XK:=fun _ _ _=>False
theorem acd {X:Cx}:J9 CX0 X E0:=fun _ _ _ _ _ _ _ h=>h.elim
structure Fun (K:PySem.W.Frag)(x qual:Str)(st:Stmt)(f:Addr)(fd:FuncData):Prop where
 ex:∃(oc:Value)(od:Option Addr)(kV doc pm:Value)(an:Option Addr)(cdv ct:Value)(osl:Array (Option Value)),
  fd=fnOf x qual (iZ st) (fZ st) (aj st) .none kV doc pm an cdv ct/\K.lookup f=some ⟨oc,od,.func fd,osl⟩/\codeIn K cdv qual=true
 kp:keepIn K (.ref f)=true
section
variable {P:Program}{w:World}{K:PySem.W.Frag}{mg:Str->Option Value}{base:Heap}
theorem Fun.ok {x qual:Str}{st:Stmt}{f:Addr}{fd:FuncData}{N ps:List Str}{k:Nat}{sp:Sp}(F:Fun K x qual st f fd)(S:aY N ps (aj st))(len:∀vs H Q E,sp vs H Q E->vs.length=ps.length)
  (hbody:∀(cdv:Value)(A:Around)(outer:List Env)(s:Shared)(H:Hp)(vs:List V)(Q:VK)(E:XK),jR k (A.deeper (envOfC qual (aj st) s.heap.objs.size f cdv))->sp vs H Q E ->
   ∃t,PSs (JS CX0 P w K mg base N qual (aj st) f cdv A outer s H E).nox (fZ st) t/\t { nx:=fun _ H'=>Q .non H',rt:=Q } (start N vs) H):dm P w K mg base CX0 (k+1) f fd ps sp:=by
 obtain⟨oc,od,kV,doc,pm,an,cdv,ct,osl,rfl,lk,hcd⟩:=F.ex;refine acu lk hcd S len fun A outer s H vs Q E hr hsp=>?_;obtain⟨t,h,q⟩:=hbody cdv A outer s H vs Q E hr hsp;exact⟨t,h.nox,q⟩
theorem Fun.binds {x qual:Str}{st:Stmt}{f:Addr}{fd:FuncData}{ps:List Str}(F:Fun K x qual st f fd)
  (h:∀(kV doc pm:Value)(an:Option Addr)(cdv ct:Value)(us:List Value),us.length=ps.length->bindArgs (fnOf x qual (iZ st) (fZ st) (aj st) .none kV doc pm an cdv ct) ⟨us,[]⟩=pure (ps.zip us)):Binds K fd ps []:=by
 obtain⟨oc,od,kV,doc,pm,an,cdv,ct,osl,rfl,lk,hcd⟩:=F.ex;exact .all (h kV doc pm an cdv ct)
theorem Uv {x qual:Str}{st:Stmt}{f:Addr}{oc:Value}{od an:Option Addr}{osl:Array (Option Value)}{kV doc pm cdv ct:Value}(l:K.lookup f=some ⟨oc,od,.func (fnOf x qual (iZ st) (fZ st) (aj st) .none kV doc pm an cdv ct),osl⟩)
  (c:codeIn K cdv qual=true) (k:keepIn K (.ref f)=true):Fun K x qual st f (fnOf x qual (iZ st) (fZ st) (aj st) .none kV doc pm an cdv ct):=⟨⟨oc,od,kV,doc,pm,an,cdv,ct,osl,rfl,l,c⟩,k⟩
end
def Same (H H':Hp):Prop:=∀b o,H b=some o->H' b=some o
theorem Same.refl (H:Hp):Same H H:=fun _ _ h=>h
theorem Same.trans {H H1 H2:Hp}(a:Same H H1)(b:Same H1 H2):Same H H2:=fun c o h=>b c o (a c o h)
theorem Same.seq {K:PySem.W.Frag}{H H':Hp}{a:Addr}{xs:List V}(e:Same H H')(h:SqL K H a xs):SqL K H' a xs:=by
 rcases h with(h|⟨o,h⟩)|h
 ·exact .inl (.inl (e _ _ h))
 ·exact .inl (.inr ⟨o,e _ _ h⟩)
 ·exact .inr h
end L2
set_option maxHeartbeats 4000000
namespace L2
open PySem PySem.Spec PyProof.Rows
theorem zU {env:Env}:∀(names:List (Str×NameKind)) (acc:List (Str×Addr)),
  (∀y∈names,y.2=.free->∃c,env.cells.lookup y.1=some c)->(∀x c,acc.lookup x=some c->env.cells.lookup x=some c) ->
  ∃cl,(forIn names acc fun(y:Str×NameKind)(r:List (Str×Addr))=>(match y with
   | (name,kind)=>if (kind == .free)=true then (do let a <- cellOf env name;pure (ForInStep.yield ((name,a)::r))) else pure (ForInStep.yield r):Sem (ForInStep (List (Str×Addr)))))=pure cl /\
   (∀x c,cl.lookup x=some c->env.cells.lookup x=some c)/\(∀y∈names,y.2=.free->∃c,cl.lookup y.1=some c)/\(∀x c,acc.lookup x=some c->∃c',cl.lookup x=some c')
 | [],acc,_,ha=>⟨acc,rfl,ha,fun _ h=>(nomatch h),fun x c h=>⟨c,h⟩⟩
 | (n,k)::r,acc,hf,ha=>by
  have hf':∀y∈r,y.2=.free->∃c,env.cells.lookup y.1=some c:=fun y hy=>hf y (mem_cons_of_mem _ hy);by_cases hk:k=.free
  ·subst hk;obtain⟨c0,e0⟩:=hf (n,.free) mem_cons_self rfl;have hce:cellOf env n=pure c0:=by unfold cellOf;rw[e0]
   have ha2:∀x c,((n,c0)::acc).lookup x=some c->env.cells.lookup x=some c:=fun x c h=>by
    rw[lookup_cons] at h;cases hx:x == n with
    | true=>
     rw[hx] at h;have e1:x=n:=by simpa using hx
     rw[e1,e0];exact h
    | false=>
     rw[hx] at h;exact ha x c h
   obtain⟨cl,e,h1,h2,h3⟩:=zU r ((n,c0)::acc) hf' ha2;refine⟨cl,?_,h1,fun y hy hz=>?_,fun x c h=>?_⟩
   ·rw[forIn_cons];simp only[beq_self_eq_true,if_true,hce];exact e
   ·rcases mem_cons.mp hy with q|q
    ·subst q;exact h3 n c0 (by simp)
    ·exact h2 y q hz
   ·cases hx:x == n with
    | true=>exact h3 x c0 (by rw[lookup_cons,hx])
    | false=>exact h3 x c (by rw[lookup_cons,hx];exact h)
  ·have hb:(k == NameKind.free)=false:=by simpa using hk
   obtain⟨cl,e,h1,h2,h3⟩:=zU r acc hf' ha;refine⟨cl,?_,h1,fun y hy hz=>?_,h3⟩
   ·rw[forIn_cons];simp only[hb,Bool.false_eq_true,if_false];exact e
   ·rcases mem_cons.mp hy with q|q
    ·subst q;exact absurd hz hk
    ·exact h2 y q hz
theorem Eo {env:Env}{scope:Scope}(hf:∀y∈scope.names,y.2=.free->∃c,env.cells.lookup y.1=some c) :
  ∃cl,closureFor scope env=pure cl/\(∀x c,cl.lookup x=some c->env.cells.lookup x=some c)/\(∀y∈scope.names,y.2=.free->∃c,cl.lookup y.1=some c):=by
 obtain⟨cl,e,h1,h2,_⟩:=zU (env:=env) scope.names [] hf (fun x c h=>by simp at h);refine⟨cl,?_,h1,h2⟩;unfold closureFor;show(forIn scope.names [] _ >>= fun r=>pure r)=_;rw[show(forIn scope.names ([]:List (Str×Addr)) fun(y:Str×NameKind)(r:List (Str×Addr))=>(match y with
   | (name,kind)=>if (kind == .free)=true then (do let a <- cellOf env name;pure (ForInStep.yield ((name,a)::r))) else pure (ForInStep.yield r):Sem (ForInStep (List (Str×Addr)))))=pure cl from e]
 rfl
section
variable {prog:Program}{w:World}{A:Around}{R:Result->Shared->Prop}{s:Shared}
theorem Cj {elt tg iter:Expr}{ifs:List Expr}{scope:Scope}{pos:Pos}{it acc:Value}{env:Env}(J:Nat->Shared->Prop)
  (turn:∀n s,J n s->wpAny (model prog w) A (pyNext it) (fun r s1=>match r with
   | none=>R (.ok .next) s1
   | some v=>wpAny (model prog w) A (letOwnedTupleGo tg it v) (fun _ s1'=>wpAny (model prog w) A (assign tg env v) (fun _ s2=>
     wpAny (model prog w) A (forIn ifs true fun c r=>if r=true then do let ok <- isTrue c env (eval c env);pure (ForInStep.yield ok) else pure (ForInStep.yield r)) (fun ok s3=>
      if ok=true then wpAny (model prog w) A (eval elt env) (fun x s4=>
       wpAny (model prog w) A (call (.builtin "list.append") [acc,x]) (fun _ s5=>∃m,m<n/\J m s5) (notedBy (model prog w) A env fun e z=>R (.error e) z) s4) (notedBy (model prog w) A env fun e z=>R (.error e) z) s3
      else ∃m,m<n/\J m s3) (notedBy (model prog w) A env fun e z=>R (.error e) z) s2) (notedBy (model prog w) A env fun e z=>R (.error e) z) s1') (notedBy (model prog w) A env fun e z=>R (.error e) z) s1) (notedBy (model prog w) A env fun e z=>R (.error e) z) s)
  (n:Nat) (h:J n s):codeAny (model prog w) A (.compLoop (.ListComp elt [⟨tg,iter,ifs,0⟩] scope pos) 0 it acc env) R s:=by
 refine codeAny_loop rfl J (fun n z hJ=>?_) n h;show wpAny _ A ((compTurn (.ListComp elt [⟨tg,iter,ifs,0⟩] scope pos) 0 it acc env).onRaise (fun y=>do noteFrame y env;theTreesLotGoes y)) _ _ z;refine wpAny_noted ?_;rw[compTurn_list];refine wpAny_bind (wpAny_standAt (wpAny_bind (wpAny_mono (turn n z hJ) (fun r s1 h1=>?_) fun _ _ q=>q)));cases r with
 | none=>exact wpAny_pure h1
 | some v=>
  refine wpAny_bind (wpAny_mono h1 (fun _ s1' h1'=>?_) fun _ _ q=>q);refine wpAny_bind (wpAny_mono h1' (fun _ s2 h2=>wpAny_bind (wpAny_mono h2 (fun ok s3 h3=>?_) fun _ _ q=>q)) fun _ _ q=>q);cases ok with
  | false=>exact wpAny_pure ⟨rfl,h3⟩
  | true=>
   exact wpAny_bind (wpAny_bind (wpAny_mono h3 (fun x s4 h4=>wpAny_bind (wpAny_mono h4 (fun _ s5 h5=>wpAny_pure (wpAny_pure ⟨rfl,h5⟩)) fun _ _ q=>q)) fun _ _ q=>q))
end
def jh (mp:List (Option Nat))(σ:St):St:=mp.map fun o=>match o with
 | some j=>(σ[j]?).join
 | none=>none
def bG (X:Cx)(N:List Str)(scope:Scope)(cl:List (Str×Addr))(C:Addr)(s:Shared)(H:Hp)(fp:List Addr):Cx:=
 { X with N:=N,s₀:=s,H₀:=H,env:=compEnvC scope cl C X.env,outer:=X.stack,stack:=X.stack,ex:=fp,fn:=fun _=>false,pn:=[],xe:=fun _ _=>False }
def rJ (NX:List Str)(names:List (Str×NameKind)):List Str->List (Option Nat)->Bool
 | [],[]=>true
 | x::r,o::q=>(match o with
   | none=>names.lookup x == some .local
   | some j=>NX[j]? == some x&&names.lookup x == some .free)&&rJ NX names r q
 | _,_=>false
theorem BV {NX:List Str}{names:List (Str×NameKind)}:∀{N:List Str}{mp:List (Option Nat)}{i j:Nat}{x:Str},rJ NX names N mp=true->N[i]?=some x->mp[i]?=some (some j)->NX[j]?=some x/\names.lookup x=some .free
 | [],_,i,_,_,_,h,_=>by simp at h
 | _::_,[],_,_,_,h,_,_=>by simp [rJ] at h
 | y::r,o::q,0,j,x,h,h1,h2=>by
  simp at h1 h2;subst h1 h2;unfold rJ at h;simp only[Bool.and_eq_true,beq_iff_eq] at h;exact h.1
 | y::r,o::q,i+1,j,x,h,h1,h2=>by
  unfold rJ at h;rw[Bool.and_eq_true] at h;exact BV (i:=i) h.2 (by simpa using h1) (by simpa using h2)
theorem BR {NX:List Str}{names:List (Str×NameKind)}:∀{N:List Str}{mp:List (Option Nat)},rJ NX names N mp=true->mp.length=N.length
 | [],[],_=>rfl
 | [],_::_,h=>by simp [rJ] at h
 | _::_,[],h=>by simp [rJ] at h
 | _::r,_::q,h=>by
  unfold rJ at h;rw[Bool.and_eq_true] at h;simp [BR h.2]
structure wU (NX:List Str)(kX:List (Str×NameKind))(N:List Str)(mp:List (Option Nat))(scope:Scope):Prop where
 kind:scope.kind=.function
 nocell:∀y∈scope.names,y.2≠.cell
 locs:∀y∈scope.names,y.2=.local->scope.names.lookup y.1=some .local
 fre:∀y∈scope.names,y.2=.free->kX.lookup y.1=some .cell\/kX.lookup y.1=some .free
 map:rJ NX scope.names N mp=true
def PTs (X:Cx)(cs:List Expr)(t:TT):Prop:=
 ∀(pins:List (Addr×Obj)) (s:Shared) (σ:St) (H:Hp) (Q:Bool->Hp->Prop),Inv X pins σ H s->t σ H Q ->
  wpAny (model X.prog X.w) X.A (forIn cs true fun c r=>if r=true then do let ok <- isTrue c X.env (eval c X.env);pure (ForInStep.yield ok) else pure (ForInStep.yield r)) (TP X pins σ Q) X.xe s
def Pr:TT:=fun _ H Q=>Q true H
theorem W3 {X:Cx}:PTs X [] Pr:=fun _ _ _ H _ I h=>wpAny_tests_nil ⟨H,I,h⟩
theorem W0 {X:Cx}{c:Expr}{t:TT}(h:PT X c t):PTs X [c] t:=fun pins s σ H Q I q=>wpAny_tests_one (h pins s σ H Q I q)
def Bp (mp:List (Option Nat))(wi:TI)(g:TG)(tc:TT)(te:TE):TE:=fun σ H Q=>wi σ H fun J H1=>
 ∃W:Nat->Nat->List V->St->Hp->Prop,(∃m,W 0 m [] (jh mp σ) H1)/\∀i m acc τ H2,W i m acc τ H2 ->
  (J.stop i H2/\∀d,H2 d=none->Q (.ref d) (upd H2 d (.lst acc))) \/
  (J.go i H2/\acc.length<sizeLine/\∃N:List V->St->Hp->Prop,(∀acc' τ' H',N acc' τ' H'->∃m',m'<m/\W (i+1) m' acc' τ' H')/\∀x H3,J.yld i H2 x H3->g x τ H3 fun τ1 H4=>tc τ1 H4 fun b H5=>
   if b=true then te τ1 H5 fun v H6=>N (acc++[v]) τ1 H6 else N acc τ1 H5)
theorem iV {env:Env}:∀{names:List (Str×NameKind)}{x:Str}{k:NameKind},(names.map fun(n,k)=>if (k == NameKind.free&&env.scope.kind == .function&&env.kindOf n == some .cell) then (n,NameKind.cell) else (n,k)).lookup x=some k ->
  names.lookup x=some k\/(k=.cell/\names.lookup x=some .free)
 | [],_,_,h=>by simp at h
 | (n,k0)::r,x,k,h=>by
  have ih:=@iV env r x k;rw[map_cons] at h;by_cases hc:(k0 == NameKind.free&&env.scope.kind == .function&&env.kindOf n == some .cell)=true
  ·simp only[hc,if_true] at h;cases hx:x == n with
   | true=>
    rw[lookup_cons,hx] at h;have hk:k0=.free:=by
     rw[Bool.and_eq_true,Bool.and_eq_true] at hc;simpa using hc.1.1
    right;refine⟨(Option.some.inj h).symm,?_⟩;rw[lookup_cons,hx,hk]
   | false=>
    rw[lookup_cons,hx] at h;rw[lookup_cons,hx];exact ih h
  ·simp only[hc,if_false] at h;cases hx:x == n with
   | true=>
    rw[if_neg (by simp),lookup_cons,hx] at h;rw[lookup_cons,hx];exact .inl h
   | false=>
    rw[if_neg (by simp),lookup_cons,hx] at h;rw[lookup_cons,hx];exact ih h
theorem na0 {b D E:Nat}(h:b<E)(hD:E=D):b≠D:=by omega
theorem na1 {b D E C:Nat}(h:b<E)(hD:E=D)(hC:C=D+1):b≠C:=by omega
theorem na2 {C D:Nat}(hC:C=D+1):D≠C:=by omega
theorem na3 {C D E:Nat}(hD:E=D)(hC:C=D+1):E<=C:=by omega
theorem na4 {D E:Nat}(hD:E=D):E<=D:=by omega
section
variable {X:Cx}{NX N:List Str}{kX:List (Str×NameKind)}{mp:List (Option Nat)}{scope:Scope}{pins:List (Addr×Obj)}{σ:St}{s s':Shared}{H:Hp}{fp:List Addr}{cl:List (Str×Addr)}{C:Addr}
theorem Em (hkX:X.env.scope.names=kX)(S:wU NX kX N mp scope)(I:Inv X pins σ H s)(hfp:∀b∈fp,tM X pins H b)(hold:∀b∈fp,b<s.heap.objs.size)(hC:s.heap.objs.size<=C)
  (hsub:∀x c,cl.lookup x=some c->X.env.cells.lookup x=some c) (hhas:∀y∈scope.names,y.2=.free->∃c,cl.lookup y.1=some c):(bG X N scope cl C s H fp).Ok where
 mod:=I.ok.mod
 kind:=S.kind
 glob:=I.ok.glob
 blt:=I.ok.blt
 above:=hC
 inj:=fun x y c h1 h2=>I.ok.inj x y c (hsub x c h1) (hsub y c h2)
 has:=fun x h=>by
  have key:scope.names.lookup x=some .free:=by
   rcases h with h|h
   ·rcases iV (env:=X.env) (names:=scope.names) h with q|⟨_,q⟩
    ·exact absurd rfl (S.nocell _ (PySem.mem_of_lookup q))
    ·exact q
   ·rcases iV (env:=X.env) (names:=scope.names) h with q|⟨q,_⟩
    ·exact q
    ·cases q
  exact hhas _ (PySem.mem_of_lookup key) rfl
 cab:=fun x c h=>by cases h
 hd:=I.ok.hd
 frames:=I.ok.frames
 stk:=.inl rfl
 exf:=fun b hb=>⟨Nat.ne_of_lt (Nat.lt_of_lt_of_le (hold b hb) hC),fun x c e=>(hfp b hb).2.2.2.2.1 x c (hsub x c e)⟩
 bs:=I.bs
 bsz:=Nat.le_trans I.ok.bsz I.sz
 noex:=fun b o e hb=>by
  rcases(hfp b hb).2.2.2.1 with q|q
  ·exact I.ok.noex b o e q
  ·exact absurd (Nat.lt_of_lt_of_le (Nat.lt_of_lt_of_le (lt_size e) I.ok.bsz) q) (Nat.lt_irrefl _)
 exfs:=fun b hb hz=>by
  obtain⟨_,h1,h2,_⟩:=hfp b hb;rcases mem_cons.mp (I.vA b hz) with q|q
  ·exact h1 q
  ·exact h2 q
 xq:=I.stack
 frf:=I.Kg
theorem En (hNX:X.N=NX)(hkX:X.env.scope.names=kX)(S:wU NX kX N mp scope)(I:Inv X pins σ H s)(hfp:∀b∈fp,tM X pins H b)(hold:∀b∈fp,b<s.heap.objs.size)(hC:s.heap.objs.size<=C)
  (hsub:∀x c,cl.lookup x=some c->X.env.cells.lookup x=some c) (hhas:∀y∈scope.names,y.2=.free->∃c,cl.lookup y.1=some c)
  (ho:s'.os=s.os) (hg:s'.gens=s.gens) (hn:∃m,s'.heap.Ns C m) (hk:∀b o,s.heap.get? b=some o->s'.heap.get? b=some o) {pl:List (Addr×Obj)}
  (hp:∀p∈pl,s'.heap.get? p.1=some p.2/\H p.1=none/\p.1≠C/\p.1∉frs X.stack/\∀v,p.2.data≠.cell v) :
  Inv (bG X N scope cl C s H fp) pl (jh mp σ) H s' where
 ok:=Em hkX S I hfp hold hC hsub hhas
 os:=ho
 bare:=by rw[hg];exact I.bare
 base:=Un.kept hk
 loc:=by
  obtain⟨m,hm⟩:=hn;refine⟨m,hm,fun i x v h1 h2 h3=>?_⟩;have h2':(mp.map fun o=>match o with|some j=>(σ[j]?).join|none=>none)[i]?=some (some v):=h2
  rw[getElem?_map] at h2';cases e:mp[i]? with
  | none=>rw[e] at h2';cases h2'
  | some o=>
   rw[e] at h2';cases o with
   | none=>cases h2'
   | some j=>
    have h4:(σ[j]?).join=some v:=by simpa using h2'
    have h5:σ[j]?=some (some v):=by
     cases q:σ[j]? with
     | none=>rw[q] at h4;cases h4
     | some z=>rw[q] at h4;rw[show z=some v from h4]
    obtain⟨g1,g2⟩:=BV S.map h1 e;have fk:=S.fre _ (PySem.mem_of_lookup g2) rfl;obtain⟨m0,_,hl⟩:=I.loc;have vis:Vis X.env.scope x:=by
     rcases fk with q|q
     ·exact .inr (.inl (by rw[hkX];exact q))
     ·exact .inr (.inr (by rw[hkX];exact q))
    obtain⟨u,r,l⟩:=hl j x v (by rw[hNX];exact g1) h5 vis;refine⟨u,r,.inr ?_⟩;have l':∃c,X.env.cells.lookup x=some c/\s.heap.IsCell c (some u):=by
     rcases l with⟨q,_⟩|⟨_,q⟩
     ·have q':X.env.scope.names.lookup x=some .local:=q;rw[hkX] at q';rcases fk with z|z
      ·rw[q'] at z;cases z
      ·rw[q'] at z;cases z
     ·exact q
    obtain⟨c,hc,oc,hoc,hd⟩:=l';obtain⟨c',hc'⟩:=hhas _ (PySem.mem_of_lookup g2) rfl;have ec:c'=c:=by
     have:=hsub x c' hc';rw[hc] at this;exact(Option.some.inj this).symm
    subst ec;refine⟨?_,c',hc',oc,hk _ _ hoc,hd⟩;rcases h3 with q|q|q
    ·rcases iV (env:=X.env) (names:=scope.names) q with z|⟨z,_⟩
     ·rw[g2] at z;cases z
     ·cases z
    ·exact .inl q
    ·exact .inr q
 cell:=fun x c e=>by
  obtain⟨v,o,h1,h2⟩:=I.cell x c (hsub x c e);exact⟨v,o,hk _ _ h1,h2⟩
 free:=I.hok.fresh hC
 freeC:=fun x c e=>I.freeC x c (hsub x c e)
 pin:=fun p hpp=>hp p (by simpa [bG] using hpp)
 hok:=I.hok.kept hk
 len:=by
  show(mp.map _).length=N.length;rw[length_map];exact BR S.map
set_option maxHeartbeats 8000000 in
theorem Xl {tg iter elt:Expr}{ifs:List Expr}{pos:Pos}{wi:TI}{g:TG}{tc:TT}{te:TE}(N:List Str)(mp:List (Option Nat))(hNX:X.N=NX)(hkX:X.env.scope.names=kX)(S:wU NX kX N mp scope)(hc:X.calm=true)
  (hi:PI X tg iter wi) (hg:∀cl C s H fp,PG (bG X N scope cl C s H fp) tg g) (ht:∀cl C s H fp,PTs (bG X N scope cl C s H fp) ifs tc) (he:∀cl C s H fp,PE (bG X N scope cl C s H fp) elt te)
  (hs:∀x,foldedSetIterable iter X.env x=pure x:=by intro _;rfl):PE X (.ListComp elt [⟨tg,iter,ifs,0⟩] scope pos) (Bp mp wi g tc te):=by
 intro pins s σ H Q I h;obtain⟨cl,hcl,hsub,hhas⟩:=Eo (env:=X.env) (scope:=scope) fun y hy hf=>I.ok.has y.1 (by
  rcases S.fre y hy hf with q|q
  ·exact .inl (show X.env.scope.names.lookup y.1=_ by rw[hkX];exact q)
  ·exact .inr (show X.env.scope.names.lookup y.1=_ by rw[hkX];exact q))
 rw[eval_ListComp];refine wpAny_comprehension_free (use:=none) rfl hs hcl S.kind S.locs ?_;refine thn (hi pins s σ H _ I h) fun v s1 h1=>thn h1 fun itv s2 h2=>?_;obtain⟨it,fp,tn,J,H2,e,I2,T,st2,f2,W,⟨m0,w0⟩,turn⟩:=h2;subst e;refine wpAny_newObj_type (wpAny_newFunctionEnv S.nocell (by intro y hy;simp at hy) (fun h3 hns hsb=>?_) S.kind);dsimp only at hns hsb |-;have hold:∀b∈fp,b<s2.heap.objs.size:=fun b hb=>by
  obtain⟨o,q,_⟩:=T.obj _ _ st2 b hb;exact lt_size q
 generalize hD:s2.heap.objs.size=D at hns hsb;generalize hH2:s2.heap.push { cls:=.type "list",dict:=none,data:=.seq ([]:List Value).toArray }=P2 at hns hsb |-;have hC:P2.objs.size=D+1:=by rw[<- hH2,size_push,hD]
 generalize hC':P2.objs.size=C at hns hsb |-;rw[hC'] at hC;have old:∀b o,s2.heap.get? b=some o->h3.get? b=some o:=fun b o q=>by
  have hb:=lt_size q;exact hsb.extBut b o (na1 hb hD hC) (get?_push_of_some _ (hH2 ▸ get?_push_of_some _ q))
 have accD:h3.get? D=some { cls:=.type "list",data:=.seq ([]:List Value).toArray }:=
  hsb.extBut _ _ (na2 hC) (get?_push_of_some _ (by rw[<- hH2,<- hD];exact get?_push_size _ rfl))
 have hfr:D∉frs X.stack:=fun z=>by
  rcases mem_cons.mp (I2.vA D z) with q|q
  ·exact na0 I2.lt hD q.symm
  ·exact I2.XJ (na4 hD) q
 have I0:Inv (bG X N scope cl C s2 H2 fp) [(D,{ cls:=.type "list",data:=.seq ([]:List Value).toArray })] (jh mp σ) H2 { s2 with heap:=h3,toks:=s2.toks+([]:List (Str×Value)).length }:=
  En (s':={ s2 with heap:=h3,toks:=s2.toks+([]:List (Str×Value)).length }) hNX hkX S I2 f2 hold (na3 hD hC) hsub hhas rfl rfl ⟨_,hns⟩ old fun p hp=>by
   have ep:=mem_singleton.mp hp;subst ep;exact⟨accD,I2.hok.fresh (na4 hD),na2 hC,hfr,fun v z=>by cases z⟩
 have T0:tn 0 h3:=T.keep _ _ _ st2 fun b _ o q=>old b o q;have loop:∀z:Shared,z={ s2 with heap:=h3,toks:=s2.toks+([]:List (Str×Value)).length } ->
   codeAny (model X.prog X.w) X.A (.compLoop (.ListComp elt [⟨tg,iter,ifs,0⟩] scope pos) 0 (.ref it) (.ref D) (compEnvC scope cl C X.env))
    (compPost (model X.prog X.w) X.A X.xe none (EP X pins σ Q) (.ref D) C) z:=by
  rintro z rfl;have stat:∀{H':Hp}{pl:List (Addr×Obj)},(∀b∈fp,H' b=none)->(∀p∈pl,p.1=D)->∀b∈fp,tM (bG X N scope cl C s2 H2 fp) pl H' b:=fun hn hp b hb=>by
   have hb2:=hold b hb;refine⟨hn b hb,na1 hb2 hD hC,(Em hkX S I2 f2 hold (na3 hD hC) hsub hhas).exfs b hb,.inl hb,fun x c q=>(f2 b hb).2.2.2.2.1 x c (hsub x c q),fun p hpp=>?_⟩;have hpD:=hp p (by simpa [bG] using hpp);rw[hpD];exact(na0 hb2 hD).symm
  refine Cj (env:=compEnvC scope cl C X.env) (fun n z=>∃i acc τ H' its k,Inv (bG X N scope cl C s2 H2 fp) [(D,{ cls:=.type "list",data:=.seq (List.toArray its) k })] τ H' z/\tn i z.heap/\(∀b∈fp,H' b=none)/\Vals acc its/\acc.length<=sizeLine/\W i n acc τ H')
   ?_ m0 ⟨0,[],_,H2,[],0,I0,T0,fun b hb=>(f2 b hb).1,.nil,Nat.zero_le _,w0⟩
  rintro n s5 ⟨i,acc,τ,H5,its,k,I5,st5,fr5,va,hz,w5⟩;rcases turn i n acc τ H5 w5 with⟨stop,qn⟩|⟨go,hz2,N9,hN9,step⟩
  ·refine thn (T.done (bG X N scope cl C s2 H2 fp) rfl rfl rfl hc i _ s5 τ H5 _ I5 (stat fr5 (by simp)) st5 stop) fun r s6 ⟨hr,I6⟩=>?_;subst hr;obtain⟨m6,hn6,_⟩:=I6.loc;refine⟨m6,hn6,fun h' sb=>?_⟩;obtain⟨dD,nD,_,_,_⟩:=I6.pin (D,_) (mem_append_right _ (mem_singleton.mpr rfl));have U:=I6.base;have nC:H5 C=none:=I6.free;have ne:∀b o,s2.heap.get? b=some o->b≠C/\b≠D:=fun b o q=>by
    exact⟨na1 (lt_size q) hD hC,na0 (lt_size q) hD⟩
   have keepC:∀b o,b≠C->s6.heap.get? b=some o->h'.get? b=some o:=fun b o hb q=>(sb.2 b hb).trans q;have U':Un (frs X.stack) fp H2 (upd H5 D (.lst acc)) s2.heap h':=by
    refine⟨fun b o q n1 hb hx=>keepC b o (ne b o q).1 (U.keep b o q n1 hb hx),fun b o q n1 hb hx=>?_,fun b o q n1 hx=>?_,fun b o q hx=>?_,fun b xs q=>?_,fun b o xs q=>?_,fun b ps q=>?_⟩
    ·obtain⟨sl,z⟩:=U.slot b o q n1 hb hx;exact⟨sl,keepC b _ (ne b o q).1 z⟩
    ·rw[aH (ne b o q).2];exact U.free b o q n1 hx
    ·obtain⟨o',z⟩:=U.there b o q hx;exact⟨o',keepC b _ (ne b o q).1 z⟩
    ·have z:=U.tups b xs q;rw[aH (aF z nD)];exact z
    ·have z:=U.frzs b o xs q;rw[aH (aF z nD)];exact z
    ·obtain⟨more,z⟩:=U.tbls b ps q;exact⟨more,by rw[aH (aF z nD)];exact z⟩
   have hok:HOk X.prog X.w (upd H5 D (.lst acc)) h':=fun b u q=>by
    by_cases hb:b=D
    ·subst hb;rw[aB] at q;cases q;exact⟨hz,its,k,va,keepC _ _ (na2 hC) dD⟩
    ·rw[aH hb] at q;refine(I6.hok b u q).stay (fun c v hcc z=>keepC c v ?_ z) (fun c z=>by rw[aH (aF z nD)];exact z) fun c xs z=>by rw[aH (aF z nD)];exact z
     rcases hcc with z1|z1
     ·subst z1;exact aF q nC
     ·exact aF z1 nC
   have I7:Inv X pins σ (upd H5 D (.lst acc)) { s6 with heap:=h' }:=I2.call' (s':={ s6 with heap:=h' }) (ch:=fp) I6.os U' hok I6.bare fun b hb=>by
    obtain⟨_,a2,_,a4,a5,a6⟩:=f2 b hb;exact⟨a4,a2,a5,a6⟩
   exact⟨.ref D,_,I7,rfl,qn D nD⟩
  ·refine thn (T.item (bG X N scope cl C s2 H2 fp) rfl rfl rfl hc i _ s5 τ H5 _ I5 (stat fr5 (by simp)) st5 go) fun r s6 ⟨u,hr,h6⟩=>?_;subst hr;refine thn h6 fun _ s7 ⟨x,H7,I7,r7,y7,st7,fr7⟩=>?_;have I7':=I7.pinned (stat fr7 (by simp)) (T.obj _ _ st7);have no:∀{α:Type}{t:Sem α}{Q1 Q2:α->Shared->Prop}{E:Value->Shared->Prop}{z:Shared},wpAny (model X.prog X.w) X.A t Q1 (fun _ _=>False) z->(∀a z,Q1 a z->Q2 a z)->wpAny (model X.prog X.w) X.A t Q2 E z:=
    fun q f=>wpAny_mono q f fun _ _ z=>z.elim
   refine no (hg cl C s2 H2 fp _ s7 τ H7 x u _ I7' r7 (step x H7 y7)) fun _ s8 ⟨τ1,H8,I8,q8⟩=>?_;refine no (ht cl C s2 H2 fp _ s8 τ1 H8 _ I8 q8) fun ok s9 ⟨H9,I9,q9⟩=>?_;have again:∀{H':Hp}{z:Shared}{its':List Value}{k':Nat},Inv (bG X N scope cl C s2 H2 fp) ([(D,{ cls:=.type "list",data:=.seq (List.toArray its') k' })]++gR fp s7.heap) τ1 H' z ->
     tn (i+1) z.heap/\(∀b∈fp,H' b=none)/\Inv (bG X N scope cl C s2 H2 fp) [(D,{ cls:=.type "list",data:=.seq (List.toArray its') k' })] τ1 H' z:=fun {H' z its' k'} Iz=>by
    have get:∀b∈fp,∀o,s7.heap.get? b=some o->z.heap.get? b=some o/\H' b=none:=fun b hb o q=>by
     obtain⟨a1,a2,_⟩:=Iz.pin (b,o) (mem_append_right _ (mem_append_right _ (jq hb q)));exact⟨a1,a2⟩
    refine⟨T.keep _ _ _ st7 fun b hb o q=>(get b hb o q).1,fun b hb=>?_,Iz.j6⟩;obtain⟨o,q,_⟩:=T.obj _ _ st7 b hb;exact(get b hb o q).2
   cases ok with
   | false=>
    rw[if_neg Bool.false_ne_true] at q9 |-;obtain⟨m',hm,w9⟩:=hN9 _ _ _ q9;obtain⟨a1,a2,a3⟩:=again I9;exact⟨m',hm,i+1,acc,τ1,H9,its,k,a3,a1,a2,va,hz,w9⟩
   | true=>
    rw[if_pos rfl] at q9 |-;refine no (he cl C s2 H2 fp _ s9 τ1 H9 _ I9 q9) fun y s10 ⟨v,H10,I10,rv,q10⟩=>?_;obtain⟨m',hm,w10⟩:=hN9 _ _ _ q10;obtain⟨a1,a2,a3⟩:=again I10;obtain⟨dD,nD,_,_,_⟩:=a3.pin (D,_) (mem_append_right _ (mem_singleton.mpr rfl));have hlen:=va.length;refine call_meets F.slot_list_append ⟨_,dD,rfl⟩ F.entry_list_append (F.args_list_append_2 _ _) (PySem.list_append D its.toArray k y (by rw[size_toArray];omega)) ⟨dD,?_⟩;obtain⟨k',q⟩:∃k',(s10.heap.update D (Obj.mapSeq fun a=>a.push y)).get? D=some { cls:=.type "list",data:=.seq (its++[y]).toArray k' }:=by
     have q:=PySem.IsL.update dD (fun a=>a.push y);rw[show its.toArray.push y=(its++[y]).toArray by simp] at q;exact⟨_,q⟩
    have a4:Inv (bG X N scope cl C s2 H2 fp) (gR fp s7.heap) τ1 H10 s10:=I10.lV fun p hp=>I10.pin p (mem_append_right _ (mem_append_right _ hp));have a5:Inv (bG X N scope cl C s2 H2 fp) (gR fp s7.heap) τ1 H10 { s10 with heap:=s10.heap.update D (Obj.mapSeq fun a=>a.push y),toks:=s10.toks }:=
     a4.turned (it:=D) (fun b o hb z=>(get?_update_other _ _ (Ne.symm hb)).trans z) nD (na2 hC) (.inr (na4 hD))
      (fun x c z=>by
       obtain⟨_,o,h1,_⟩:=I2.cell x c (hsub x c z);exact na0 (lt_size h1) hD) fun p hp=>by
       have hb:=(qR (by simpa [bG] using hp)).1;exact na0 (hold _ hb) hD
    obtain⟨b1,b2,b3⟩:=(show tn (i+1) (s10.heap.update D (Obj.mapSeq fun a=>a.push y))/\(∀b∈fp,H10 b=none)/\True from
     ⟨T.keep _ _ _ a1 fun b hb o z=>(get?_update_other _ _ (na0 (hold b hb) hD).symm).trans z,a2,trivial⟩)
    refine⟨m',hm,i+1,acc++[v],τ1,H10,its++[y],k',a5.lV fun p hp=>?_,b1,b2,va.append (.cons rv .nil),by rw[length_append,length_singleton];omega,w10⟩;have ep:=mem_singleton.mp hp;subst ep;exact⟨q,nD,na2 hC,hfr,fun v z=>by cases z⟩
 have e1:{ newEnv scope C X.env.globals cl X.env.qual none .none (some X.env) X.env.builtins with scope:=relabel scope X.env }=compEnvC scope cl C X.env:=rfl;exact codeAny_compStart_list (loop _ rfl) (T.self _ 0 _ _ _ T0 (loop _ rfl))
end
section
variable {X:Cx}{pins:List (Addr×Obj)}{σ:St}{H:Hp}{s:Shared}
theorem Inv.Pk {ch:List Addr}{h':Heap}{t':Nat}(I:Inv X pins σ H s)(hf:∀b∈ch,tM X pins H b)(k:∀b o,b∉ch->s.heap.get? b=some o->h'.get? b=some o):Inv X pins σ H { s with heap:=h',toks:=t' }:=by
 have nit:∀b u,H b=some u->b∉ch:=fun b u e z=>by rw[(hf b z).1] at e;cases e
 refine I.step (g':=s.gens) (d':=s.drawn) (ch:=ch) (fun b hb=>?_) (fun b o _ _ hc e _=>k b o hc e) (fun b o _ _ hc e _=>⟨o.slots,k b o hc e⟩) (fun _ _ _ _ n=>n)
  (fun b o hc e=>⟨o,k b o hc e⟩) (fun _ _ e=>e) (fun _ _ _ e=>e) (fun b ps e=>⟨#[],by rw[e];simp⟩) (fun m hm=>?_) (fun b u e=>?_) I.bare
 ·obtain⟨_,a2,_,a4,a5,a6⟩:=hf b hb;exact⟨a4,a2,a5,a6⟩
 ·obtain⟨o,es,ep,ho,r⟩:=hm;exact⟨o,es,ep,k _ o (fun z=>(hf _ z).2.1 rfl) ho,r⟩
 ·refine(I.hok b u e).stay (fun c v hc q=>k c v ?_ q) (fun _ q=>q) fun _ _ q=>q;rcases hc with z|z
  ·rw[z];exact nit b u e
  ·exact nit c _ z
theorem Inv.Pj {ch:List Addr}{h':Heap}{t':Nat}{p:Addr}{o:HO}(I:Inv X pins σ H s)(hf:∀b∈ch,tM X pins H b)(k:∀b o,b∉ch->s.heap.get? b=some o->h'.get? b=some o)(hp:s.heap.objs.size<=p)
  (new:cO X.prog X.w (upd H p o) h' p o):Inv X pins σ (upd H p o) { s with heap:=h',toks:=t' }:=by
 have hn:H p=none:=I.hok.fresh hp;have nit:∀b u,H b=some u->b∉ch:=fun b u e z=>by rw[(hf b z).1] at e;cases e
 have lt:∀b u,s.heap.get? b=some u->b≠p:=fun b u e=>Nat.ne_of_lt (Nat.lt_of_lt_of_le (lt_size e) hp);refine I.step (g':=s.gens) (d':=s.drawn) (ch:=ch) (fun b hb=>?_) (fun b o _ _ hc e _=>k b o hc e) (fun b o _ _ hc e _=>⟨o.slots,k b o hc e⟩) (fun b o _ e n=>by rw[aH (lt b o e)];exact n)
  (fun b o hc e=>⟨o,k b o hc e⟩) (fun b xs e=>by rw[aH (aF e hn)];exact e) (fun b u xs e=>by rw[aH (aF e hn)];exact e) (fun b ps e=>⟨#[],by rw[aH (aF e hn),e];simp⟩) (fun m hm=>?_) (fun b u e=>?_) I.bare
 ·obtain⟨_,a2,_,a4,a5,a6⟩:=hf b hb;exact⟨a4,a2,a5,a6⟩
 ·obtain⟨o,es,ep,ho,r⟩:=hm;exact⟨o,es,ep,k _ o (fun z=>(hf _ z).2.1 rfl) ho,r⟩
 ·by_cases hb:b=p
  ·subst hb;rw[aB] at e;cases e;exact new
  ·rw[aH hb] at e;refine(I.hok b u e).stay (fun c v hc q=>k c v ?_ q) (fun c q=>by rw[aH (aF q hn)];exact q) fun c xs q=>by rw[aH (aF q hn)];exact q
   rcases hc with z|z
   ·rw[z];exact nit b u e
   ·exact nit c _ z
end
def Itz (K:PySem.W.Frag)(a b:Addr):It:=
 ⟨fun i H=>∃xs ys x y,SqL K H a xs/\SqL K H b ys/\xs[i]?=some x/\ys[i]?=some y,
  fun i H v H'=>∃p x y,v=.ref p/\H p=none/\H'=upd H p (.tup [x,y])/\(∀xs,SqL K H a xs->xs[i]?=some x)/\∀ys,SqL K H b ys->ys[i]?=some y,
  fun i H=>∃xs ys,SqL K H a xs/\SqL K H b ys/\(xs[i]?=none\/ys[i]?=none)⟩
theorem Pg {P:Program}{w:World}{K:PySem.W.Frag}{es:List Expr}{kk:Nat}{tpos:Pos}{z TI TO i1 i2 l1 l2:Addr}(D:ZipApart z TI TO i1 i2 l1 l2) :
  Turn P w K (.Tuple es kk tpos) (Itz K l1 l2) [z,TI,TO,i1,i2] z (fun i h=>IsZip h z TI TO .none/\IsPair h TI (.ref i1) (.ref i2)/\(∃a b,IsPair h TO a b)/\h.IsListIter i1 l1 i/\h.IsListIter i2 l2 i) where
 mem:=by simp
 obj:=fun i h st b hb=>by
  obtain⟨hz,hTI,⟨a,b',hTO⟩,⟨o1,e1,c1,d1⟩,⟨o2,e2,c2,d2⟩⟩:=st;simp only[mem_cons,not_mem_nil,or_false] at hb;rcases hb with rfl|rfl|rfl|rfl|rfl
  ·exact⟨_,hz,fun v q=>by cases q⟩
  ·exact⟨_,hTI,fun v q=>by cases q⟩
  ·exact⟨_,hTO,fun v q=>by cases q⟩
  ·exact⟨o1,e1,fun v q=>by rw[d1] at q;cases q⟩
  ·exact⟨o2,e2,fun v q=>by rw[d2] at q;cases q⟩
 keep:=fun i h h' st k=>by
  obtain⟨hz,hTI,⟨a,b',hTO⟩,h1,h2⟩:=st;exact⟨k z (by simp) _ hz,k TI (by simp) _ hTI,⟨a,b',k TO (by simp) _ hTO⟩,h1.at fun o e=>k i1 (by simp) o e,h2.at fun o e=>k i2 (by simp) o e⟩
 item:=by
  intro X hP hw hK hc i pins s σ H E I hf st hg;subst hP hw hK;obtain⟨xs,ys,x,y,q1,q2,hx,hy⟩:=hg;obtain⟨its1,rv1,p1,hz1⟩:=I.list q1;obtain⟨its2,rv2,p2,hz2⟩:=I.list q2;obtain⟨u1,hu1,ru1⟩:=rv1.get hx;obtain⟨u2,hu2,ru2⟩:=rv2.get hy;obtain⟨hz,hTI,⟨a,b',hTO⟩,h1,h2⟩:=st;refine wpAny_pyNext_zip_item D hz hTI hTO h1 h2 p1.isList p2.isList (x:=u1) (y:=u2) (by simpa using hu1) (by simpa using hu2) fun h' a1 a2 a3 a4 a5 a6 hk=>?_;have new:cO X.prog X.w (upd H s.heap.objs.size (.tup [x,y])) h' s.heap.objs.size (.tup [x,y]):=⟨by show 2<=sizeLine;decide,[u1,u2],.cons ru1 (.cons ru2 .nil),_,a5,rfl,_,rfl⟩;have I1:Inv X pins σ (upd H s.heap.objs.size (.tup [x,y])) { s with heap:=h' }:=I.Pj (t':=s.toks) (ch:=[z,TO,i1,i2]) (fun b hb=>hf b (by
   simp only[mem_cons,not_mem_nil,or_false] at hb |-;rcases hb with r|r|r|r <;> simp [r]))
   (fun b o hb e=>hk b o (fun q=>hb (by simp [q])) (fun q=>hb (by simp [q])) (fun q=>hb (by simp [q])) (fun q=>hb (by simp [q])) e) (Nat.le_refl _) new
  have hTI':IsPair h' TI (.ref i1) (.ref i2):=hk _ _ D.TIz D.TITO D.TIi1 D.TIi2 hTI;have hsz:∀b,b∈[z,TI,TO,i1,i2]->b≠s.heap.objs.size:=fun b hb=>by
   obtain⟨_,_,hlt,_⟩:=hf b hb;have lt:∃o,s.heap.get? b=some o:=by
    simp only[mem_cons,not_mem_nil,or_false] at hb;rcases hb with rfl|rfl|rfl|rfl|rfl
    ·exact⟨_,hz⟩
    ·exact⟨_,hTI⟩
    ·exact⟨_,hTO⟩
    ·obtain⟨o,e,_⟩:=h1;exact⟨o,e⟩
    ·obtain⟨o,e,_⟩:=h2;exact⟨o,e⟩
   obtain⟨o,e⟩:=lt;exact Nat.ne_of_lt (lt_size e)
  refine⟨_,rfl,wpAny_letOwnedTupleGo_zip (s:={ s with heap:=h' }) a1 fun h'' z2 sb=>?_⟩;have fz:=hf z (by simp);have I2:Inv X pins σ (upd H s.heap.objs.size (.tup [x,y])) { s with heap:=h'' }:=Inv.turned (s:={ s with heap:=h' }) (it:=z) (t':=s.toks) I1 (fun b o hb e=>(sb.2 b hb).trans e) (by rw[aH (hsz z (by simp))];exact fz.1) fz.2.1 fz.2.2.2.1 fz.2.2.2.2.1 fz.2.2.2.2.2;refine⟨.ref s.heap.objs.size,_,I2,rfl,⟨_,x,y,rfl,I.fresh,rfl,fun xs' q=>by rw[I.uO q q1];exact hx,fun ys' q=>by rw[I.uO q q2];exact hy⟩,
   ⟨z2,(sb.2 _ D.TIz).trans hTI',⟨_,_,(sb.2 _ D.TOz).trans a2⟩,a3.extBut sb.extBut D.i1z,a4.extBut sb.extBut D.i2z⟩,fun b hb=>by rw[aH (hsz b hb)];exact(hf b hb).1⟩
 done:=by
  intro X hP hw hK hc i pins s σ H E I hf st hg;subst hP hw hK;obtain⟨xs,ys,q1,q2,hx⟩:=hg;obtain⟨its1,rv1,p1,hz1⟩:=I.list q1;obtain⟨its2,rv2,p2,hz2⟩:=I.list q2;obtain⟨hz,hTI,⟨a,b',hTO⟩,h1,h2⟩:=st;have hend:its1.toArray[i]?=none\/its2.toArray[i]?=none:=by
   rcases hx with r|r
   ·exact .inl (by simpa using rv1.none_of r)
   ·exact .inr (by simpa using rv2.none_of r)
  refine wpAny_pyNext_zip_end (I.ok.hd hc) D hz hTI hTO h1 h2 p1.isList p2.isList hend fun h' hk=>⟨rfl,?_⟩;exact I.Pk (t':=s.toks) (ch:=[z,TO,i1,i2]) (fun b hb=>hf b (by
   simp only[mem_cons,not_mem_nil,or_false] at hb |-;rcases hb with r|r|r|r <;> simp [r]))
   (fun b o hb e=>hk b o (fun q=>hb (by simp [q])) (fun q=>hb (by simp [q])) (fun q=>hb (by simp [q])) (fun q=>hb (by simp [q])) e)
 self:=fun _ _ _ _ _ st h=>wpAny_pyIter_zip st.1 h
def Ite (K:PySem.W.Frag)(a:Addr):It:=
 ⟨fun i H=>∃xs x,SqL K H a xs/\xs[i]?=some x,
  fun i H v H'=>∃p x,v=.ref p/\H p=none/\H'=upd H p (.tup [.int (i:Nat),x])/\∀xs,SqL K H a xs->xs[i]?=some x,
  fun i H=>∃xs,SqL K H a xs/\xs[i]?=none⟩
theorem Mh {P:Program}{w:World}{K:PySem.W.Frag}{es:List Expr}{kk:Nat}{tpos:Pos}{e it l:Addr}(hne:e≠it) :
  Turn P w K (.Tuple es kk tpos) (Ite K l) [e,it] e (fun i h=>(∃old,IsEnum h e it ((i:Nat):Int) old)/\h.IsListIter it l i) where
 mem:=by simp
 obj:=fun i h st b hb=>by
  obtain⟨⟨old,he⟩,⟨o1,e1,c1,d1⟩⟩:=st;simp only[mem_cons,not_mem_nil,or_false] at hb;rcases hb with rfl|rfl
  ·exact⟨_,he,fun v q=>by cases q⟩
  ·exact⟨o1,e1,fun v q=>by rw[d1] at q;cases q⟩
 keep:=fun i h h' st k=>by
  obtain⟨⟨old,he⟩,h1⟩:=st;exact⟨⟨old,k e (by simp) _ he⟩,h1.at fun o q=>k it (by simp) o q⟩
 item:=by
  intro X hP hw hK hc i pins s σ H E I hf st hg;subst hP hw hK;obtain⟨xs,x,q1,hx⟩:=hg;obtain⟨its1,rv1,p1,hz1⟩:=I.list q1;obtain⟨u1,hu1,ru1⟩:=rv1.get hx;obtain⟨⟨old,he⟩,h1⟩:=st;refine wpAny_pyNext_enum_item he h1 p1.isList (x:=u1) (by simpa using hu1) hne fun h' a1 a2 a3 a4 hk=>?_;have new:cO X.prog X.w (upd H s.heap.objs.size (.tup [.int (i:Nat),x])) h' s.heap.objs.size (.tup [.int (i:Nat),x]):=⟨by show 2<=sizeLine;decide,[.int (i:Nat) s.toks,u1],.cons ⟨_,rfl⟩ (.cons ru1 .nil),_,a3,rfl,_,rfl⟩;have I1:Inv X pins σ (upd H s.heap.objs.size (.tup [.int (i:Nat),x])) { s with heap:=h',toks:=s.toks+1 }:=I.Pj (ch:=[e,it]) hf
   (fun b o hb q=>hk b o (fun z=>hb (by simp [z])) (fun z=>hb (by simp [z])) q) (Nat.le_refl _) new
  have hsz:∀b,b∈[e,it]->b≠s.heap.objs.size:=fun b hb=>by
   have lt:∃o,s.heap.get? b=some o:=by
    simp only[mem_cons,not_mem_nil,or_false] at hb;rcases hb with rfl|rfl
    ·exact⟨_,he⟩
    ·obtain⟨o,q,_⟩:=h1;exact⟨o,q⟩
   obtain⟨o,q⟩:=lt;exact Nat.ne_of_lt (lt_size q)
  refine⟨_,rfl,wpAny_letOwnedTupleGo_enum (s:={ s with heap:=h',toks:=s.toks+1 }) a1 fun h'' z2 sb=>?_⟩;have fz:=hf e (by simp);have I2:Inv X pins σ (upd H s.heap.objs.size (.tup [.int (i:Nat),x])) { s with heap:=h'',toks:=s.toks+1 }:=Inv.turned (s:={ s with heap:=h',toks:=s.toks+1 }) (it:=e) I1 (fun b o hb q=>(sb.2 b hb).trans q) (by rw[aH (hsz e (by simp))];exact fz.1) fz.2.1 fz.2.2.2.1 fz.2.2.2.2.1 fz.2.2.2.2.2;refine⟨.ref s.heap.objs.size,_,I2,rfl,⟨_,x,rfl,I.fresh,rfl,fun xs' q=>by rw[I.uO q q1];exact hx⟩,
   ⟨⟨_,by simpa using z2⟩,a2.extBut sb.extBut hne.symm⟩,fun b hb=>by rw[aH (hsz b hb)];exact(hf b hb).1⟩
 done:=by
  intro X hP hw hK hc i pins s σ H E I hf st hg;subst hP hw hK;obtain⟨xs,q1,hx⟩:=hg;obtain⟨its1,rv1,p1,hz1⟩:=I.list q1;obtain⟨⟨old,he⟩,h1⟩:=st;refine wpAny_pyNext_enum_end (I.ok.hd hc) he h1 p1.isList (by simpa using rv1.none_of hx) fun h' hk=>⟨rfl,?_⟩;exact I.Pk (t':=s.toks) (ch:=[e,it]) hf (fun b o hb q=>hk b o (fun z=>hb (by simp [z])) q)
 self:=fun _ _ _ _ _ st h=>by
  obtain⟨⟨old,he⟩,_⟩:=st;exact wpAny_pyIter_enum he h
def zu (K:PySem.W.Frag)(ta:TA):TI:=fun σ H R=>ta σ H fun vs H1=>∃a,vs=[.ref a]/\(∃xs,SqL K H1 a xs)/\R (Ite K a) H1
section
variable {X:Cx}
theorem Xf {es:List Expr}{kk:Nat}{tpos:Pos}{a:Expr}{ta:TA}{p pos:Pos}(hg:Gl X "enumerate") (hm:X.mg "enumerate" = none) (ha:PA X [a] ta) (hs:starEach [a] X.env=[(false,eval a X.env)]:=by rfl) :
  PI X (.Tuple es kk tpos) (.Call (.Name "enumerate" p) [a] [] pos) (zu X.K ta):=by
 intro pins s σ H R I h;refine Call_ (lE I hg hm PyProof.Rows.Boot.«enumerate» (PyProof.Rows.callWith_type1 (thA (ha pos pins s σ H _ I h) fun us s1 vs H1 I1 r1 q1=>?_) hs rfl));obtain⟨l1,e,⟨xs,g1⟩,q⟩:=q1;subst e;cases r1 with
 | cons r rr=>
  cases rr;cases r;obtain⟨its1,rv1,p1,hz1⟩:=I1.list g1;refine call_enumerate_list p1.isList fun h' b1 b2 b3 hk=>?_;refine wpAny_pyIter_enum (s:={ s1 with heap:=h' }) b1 ?_;have I2:Inv X pins σ H1 { s1 with heap:=h' }:=I1.kept (t':=s1.toks) hk;refine⟨_,_,_,_,H1,rfl,I2,Mh (Nat.ne_of_gt (Nat.lt_succ_self _)),⟨⟨_,b1⟩,b2⟩,fun b hb=>?_,q⟩;have hle:s1.heap.objs.size<=b:=by
   simp only[mem_cons,not_mem_nil,or_false] at hb;rcases hb with rfl|rfl <;> simp
  exact I1.Uy hle (I1.hok.fresh hle)
end
theorem Vals.bools:∀{bs:List Bool}{us:List Value},Vals (bs.map V.bl) us->us=bs.map Value.bool
 | [],_,.nil=>rfl
 | _::_,_,.cons r t=>by rw[Vals.bools t,(show _=Value.bool _ from r)];rfl
section
variable {X:Cx}
theorem OJ (bs:List Bool):((List.range bs.length).all fun i=>(bs[i]?).getD true)=bs.all id:=by
 rw[Bool.eq_iff_iff,all_eq_true,all_eq_true];constructor
 ·intro h b hb;obtain⟨i,hi,rfl⟩:=List.getElem_of_mem hb;have:=h i (mem_range.mpr hi);rw[getElem?_eq_getElem hi] at this;exact this
 ·intro h i hi;have hi':=mem_range.mp hi;rw[getElem?_eq_getElem hi'];exact h _ (getElem_mem hi')
theorem OD (bs:List Bool):((List.range bs.length).any fun i=>(bs[i]?).getD false)=bs.any id:=by
 rw[Bool.eq_iff_iff,any_eq_true,any_eq_true];constructor
 ·intro⟨i,hi,h⟩;have hi':=mem_range.mp hi;rw[getElem?_eq_getElem hi'] at h;exact⟨_,getElem_mem hi',h⟩
 ·intro⟨b,hb,h⟩;obtain⟨i,hi,rfl⟩:=List.getElem_of_mem hb;exact⟨i,mem_range.mpr hi,by rw[getElem?_eq_getElem hi];exact h⟩
def Ra (K:PySem.W.Frag)(f:List Bool->Bool):List V->Hp->VK->Prop:=fun xs H Q=>∃p bs,xs=[.ref p]/\SqL K H p (List.map V.bl bs)/\Q (.bl (f bs)) H
theorem Vi (hc:X.calm=true):dR X (.builtin "all") (Ra X.K fun bs=>bs.all id):=by
 intro pins s σ H xs us Q I r h;obtain⟨p,bs,rfl,hq,q⟩:=h;cases r with
 | cons r rr=>
  cases rr;cases r;obtain⟨its,rv,pl,hz⟩:=I.list hq;have e:=rv.bools;subst e;have lt:p<s.heap.objs.size:=by obtain⟨_,e,_⟩:=pl.isList;exact lt_size e
  refine call_all_walk (wpAny_pyIter_list pl.isList ?_);refine⟨s.heap.objs.size,[s.heap.objs.size,p],[s.heap.objs.size],(bs.map Value.bool).toArray.size,_,_,fun i=>(bs[i]?).getD true,rfl,Walks.list (A:=X.A.in1) (I.ok.hd hc) _ p (Nat.ne_of_lt lt) _,
   ⟨⟨_,get?_push_size _ rfl,rfl,rfl⟩,pl.isList.push _⟩,fun i v s' Q' E' hP hQ=>?_,fun h' tk hk=>?_⟩
  ·have e:(bs.map Value.bool)[i]?=some v:=by simpa using hP
   rw[getElem?_map] at e;cases z:bs[i]? with
   | none=>rw[z] at e;cases e
   | some b=>
    rw[z] at e;have e':Value.bool b=v:=Option.some.inj e;subst e';dsimp only at hQ;rw[z] at hQ;exact wpAny_truthy_bool hQ
  ·rw[size_toArray,length_map,OJ];refine⟨.bl _,H,I.kept fun b o e=>hk b o (fun hm=>?_) (get?_push_of_some _ e),rfl,q⟩;rw[mem_singleton.mp hm] at e;exact Nat.lt_irrefl _ (lt_size e)
theorem Vh (hc:X.calm=true):dR X (.builtin "any") (Ra X.K fun bs=>bs.any id):=by
 intro pins s σ H xs us Q I r h;obtain⟨p,bs,rfl,hq,q⟩:=h;cases r with
 | cons r rr=>
  cases rr;cases r;obtain⟨its,rv,pl,hz⟩:=I.list hq;have e:=rv.bools;subst e;have lt:p<s.heap.objs.size:=by obtain⟨_,e,_⟩:=pl.isList;exact lt_size e
  refine call_any_walk (wpAny_pyIter_list pl.isList ?_);refine⟨s.heap.objs.size,[s.heap.objs.size,p],[s.heap.objs.size],(bs.map Value.bool).toArray.size,_,_,fun i=>(bs[i]?).getD false,rfl,Walks.list (A:=X.A.in1) (I.ok.hd hc) _ p (Nat.ne_of_lt lt) _,
   ⟨⟨_,get?_push_size _ rfl,rfl,rfl⟩,pl.isList.push _⟩,fun i v s' Q' E' hP hQ=>?_,fun h' tk hk=>?_⟩
  ·have e:(bs.map Value.bool)[i]?=some v:=by simpa using hP
   rw[getElem?_map] at e;cases z:bs[i]? with
   | none=>rw[z] at e;cases e
   | some b=>
    rw[z] at e;have e':Value.bool b=v:=Option.some.inj e;subst e';dsimp only at hQ;rw[z] at hQ;exact wpAny_truthy_bool hQ
  ·rw[size_toArray,length_map,OD];refine⟨.bl _,H,I.kept fun b o e=>hk b o (fun hm=>?_) (get?_push_of_some _ e),rfl,q⟩;rw[mem_singleton.mp hm] at e;exact Nat.lt_irrefl _ (lt_size e)
def acK (K:PySem.W.Frag):List V->Hp->VK->Prop:=fun xs H Q=>∃x T t b,xs=[x,.ty T]/\rF K H x t/\PySem.W.kitOne K t (.type T)=some b/\Q (.bl b) H
theorem Vg:dR X (.builtin "isinstance") (acK X.K):=by
 intro pins s σ H xs us Q I r h;obtain⟨x,T,t,b,rfl,ty,e,q⟩:=h;cases r with
 | cons r rr=>
  cases rr with
  | cons r' rr=>
   cases rr;cases (show _=Value.type T from r');exact Oa I r ty e fun tk=>⟨.bl b,H,I.tok tk,rfl,q⟩
def abX (K:PySem.W.Frag):List V->Hp->VK->Prop:=fun xs H Q=>∃x p Ts t b,xs=[x,.ref p]/\SqT K H p (List.map V.ty Ts)/\rF K H x t/\PySem.W.kitAny K t (Ts.map Value.type)=some b/\Q (.bl b) H
theorem Vals.types:∀{bs:List String}{us:List Value},Vals (bs.map V.ty) us->us=bs.map Value.type
 | [],_,.nil=>rfl
 | _::_,_,.cons r t=>by rw[Vals.types t,(show _=Value.type _ from r)];rfl
theorem acP {x:V}{u t:Value}{pins:List (Addr×Obj)}{σ:St}{H:Hp}{s:Shared}(I:Inv X pins σ H s)(rx:RelV x u)(ty:rF X.K H x t)(hl:∀a C dx fs,H a=some (.ins C dx fs)->x≠.ref a) :
  ∃Hh:Heap->Prop,PySem.W.KitX X.K u t Hh/\Hh s.heap/\u≠.builtin "__main__.__loader__#opaque" := by
 cases ty with
 | non=>cases (show u=Value.none from rx);exact⟨_,PySem.W.kitx_none,True.intro,fun z=>nomatch z⟩
 | bl y=>cases (show u=Value.bool y from rx);exact⟨_,PySem.W.kitx_bool,True.intro,fun z=>nomatch z⟩
 | int i=>obtain⟨t,q⟩:=(show ∃t,u=Value.int i t from rx);cases q;exact⟨_,PySem.W.kitx_int,True.intro,fun z=>nomatch z⟩
 | str y=>obtain⟨t,q⟩:=(show ∃t,u=Value.str y t from rx);cases q;exact⟨_,PySem.W.kitx_str,True.intro,fun z=>nomatch z⟩
 | flt y=>obtain⟨t,q⟩:=(show ∃t,u=Value.float y t from rx);cases q;exact⟨_,PySem.W.kitx_float,True.intro,fun z=>nomatch z⟩
 | @lst a xs ea=>
  cases (show u=Value.ref a from rx);obtain⟨_,_,n,_,h1⟩:=(show cO X.prog X.w H s.heap a (.lst xs) from I.hok a _ ea);exact⟨_,PySem.W.kitx_list,⟨_,h1,rfl⟩,fun z=>nomatch z⟩
 | @frz a ob xs ea=>
  cases (show u=Value.ref a from rx);obtain⟨_,_,_,n,_,h1⟩:=(show cO X.prog X.w H s.heap a (.frz ob (.lst xs)) from I.hok a _ ea);exact⟨_,PySem.W.kitx_list,⟨_,h1,rfl⟩,fun z=>nomatch z⟩
 | @tup a xs ea=>
  cases (show u=Value.ref a from rx);obtain⟨_,_,_,p⟩:=(show cO X.prog X.w H s.heap a (.tup xs) from I.hok a _ ea);obtain⟨o,h1,h2,_⟩:=p;exact⟨_,PySem.W.kitx_tuple,⟨o,h1,h2⟩,fun z=>nomatch z⟩
 | @dK a kvs ea=>
  cases (show u=Value.ref a from rx);obtain⟨_,_,vs,_,p⟩:=(show cO X.prog X.w H s.heap a (.dK kvs) from I.hok a _ ea);obtain⟨o,es,ep,h1,h2,_⟩:=p;exact⟨_,PySem.W.kitx_dict,⟨o,h1,h2.1⟩,fun z=>nomatch z⟩
 | @dT a kvs ea=>
  cases (show u=Value.ref a from rx);obtain⟨_,_,xs,_,o,es,ep,h1,h2,_⟩:=(show cO X.prog X.w H s.heap a (.dT kvs) from I.hok a _ ea);exact⟨_,PySem.W.kitx_dict,⟨o,h1,h2.1⟩,fun z=>nomatch z⟩
 | @ins a C dx fs ea cl ha hn htk hm=>exact absurd rfl (hl a C dx fs ea)
theorem Ov:dR X (.builtin "isinstance") (fun xs H Q=>abX X.K xs H Q/\∀a C dx fs,H a=some (.ins C dx fs)->xs.head?≠some (.ref a)):=by
 intro pins s σ H xs us Q I r h;obtain⟨⟨x,p,Ts,t,b,rfl,hq,ty,e,q⟩,hl⟩:=h;cases r with
 | cons r rr=>
  cases rr with
  | cons r' rr=>
   cases rr;cases r';obtain⟨Hh,Z,hh,ne⟩:=acP I r ty fun a C dx fs z w'=>hl a C dx fs z (by rw[w'];rfl);obtain⟨its,rv,⟨o,ho,hcl,n,hd⟩,hz⟩:=I.tuple hq;have ei:=rv.types;subst ei;obtain⟨c0,d0,dt0,sl0⟩:=o;cases (show c0=Value.type "tuple" from hcl);cases (show dt0=Data.seq (List.map Value.type Ts).toArray n from hd);exact PySem.W.kia_tup Z I.kIn hh ho e ne fun tk=>⟨.bl b,H,I.tok tk,rfl,q⟩
end
inductive Tn (H:Hp):V->String->Prop where
 | non:Tn H .non "NoneType"
 | bl (b:Bool):Tn H (.bl b) "bool"
 | int (i:Int):Tn H (.int i) "int"
 | str (x:Str):Tn H (.str x) "str"
 | lst {a:Addr} {xs:List V} (e:H a=some (.lst xs)):Tn H (.ref a) "list"
 | tup {a:Addr} {xs:List V} (e:H a=some (.tup xs)):Tn H (.ref a) "tuple"
theorem Tn.ty {K:PySem.W.Frag}{H:Hp}{x:V}{t:String}(h:Tn H x t):rF K H x (.type t):=by
 cases h with
 | non=>exact .non
 | bl b=>exact .bl b
 | int i=>exact .int i
 | str x=>exact .str x
 | lst e=>exact .lst e
 | tup e=>exact .tup e
def iy (t T:String):Bool:=t == T||(t == "bool" && T == "int")
def fj:List String:=["NoneType","bool","int","str","list","tuple"]
theorem K6 (K:PySem.W.Frag):∀t∈fj,∀T∈fj,PySem.W.kitOne K (.type t) (.type T)=some (iy t T):=by
 intro t ht T hT;simp only[fj,mem_cons,not_mem_nil,or_false] at ht hT;rcases ht with rfl|rfl|rfl|rfl|rfl|rfl <;> rcases hT with rfl|rfl|rfl|rfl|rfl|rfl <;> first|rfl|kernel_rfl
theorem Tn.known {H:Hp}{x:V}{t:String}(h:Tn H x t):t∈fj:=by cases h <;> decide
section
variable {X:Cx}
theorem Oz:dR X (.builtin "isinstance") (fun xs H Q=>∃x T t,xs=[x,.ty T]/\Tn H x t/\T∈fj/\Q (.bl (iy t T)) H):=by
 intro pins s σ H xs us Q I r h;obtain⟨x,T,t,rfl,ty,hT,q⟩:=h;exact Vg pins s σ H _ us Q I r ⟨x,T,_,_,rfl,ty.ty,K6 X.K t ty.known T hT,q⟩
theorem K7 (K:PySem.W.Frag){t:String}(ht:t∈fj):∀Ts:List String,(∀T∈Ts,T∈fj)->PySem.W.kitAny K (.type t) (Ts.map Value.type)=some (Ts.any fun T=>iy t T)
 | [],_=>rfl
 | T::r,h=>by
  have e:=K6 K t ht T (h T mem_cons_self);have ih:=K7 K ht r fun T' h'=>h T' (mem_cons_of_mem _ h');show(match PySem.W.kitOne K (.type t) (.type T) with|some true=>some true|some false=>PySem.W.kitAny K (.type t) (r.map Value.type)|none=>none)=_
  rw[e,any_cons];cases iy t T with
  | true=>rfl
  | false=>exact ih
theorem Ox:dR X (.builtin "isinstance") (fun xs H Q=>∃x p Ts t,xs=[x,.ref p]/\H p=some (.tup (List.map V.ty Ts))/\Tn H x t/\(∀T∈Ts,T∈fj)/\Q (.bl (Ts.any fun T=>iy t T)) H):=by
 intro pins s σ H xs us Q I r h;obtain⟨x,p,Ts,t,rfl,hp,ty,hT,q⟩:=h;refine Ov pins s σ H _ us Q I r ⟨⟨x,p,Ts,_,_,rfl,SqT.of hp,ty.ty,K7 X.K ty.known Ts hT,q⟩,fun a C dx fs e z=>?_⟩;have z':x=.ref a:=by simpa using z
 subst z';cases ty with
 | lst e'=>rw[e] at e';cases e'
 | tup e'=>rw[e] at e';cases e'
def ZQ (i j:Int):Prop:=0<j/\j<2^70
theorem Gj:OpR X (binaryOp .FloorDiv) (rI ZQ fun i j=>.int (i/j)):=opI fun i j _ _ _ _ _ hc q=>by
 have h1:(0:Int)<j:=hc.1;have h2:j<2^70:=hc.2;refine floordiv_int ω (by rw[Int.fdiv_eq_ediv_of_nonneg i ω];exact q) (.inl (PyProof.noPylong_of_log2 ?_));have h3:j.natAbs≠0:=ω;have h4:j.natAbs.log2<70:=(Nat.log2_lt h3).mpr ω;omega
end
def dZ (p:Addr)(H H':Hp):Prop:=∀b o,b≠p->H b=some o->H' b=some o
theorem dZ.trans {p:Addr}{H H1 H2:Hp}(a:dZ p H H1)(b:dZ p H1 H2):dZ p H H2:=fun c o n h=>b c o n (a c o n h)
theorem dZ.upd {p:Addr}{H:Hp}{o:HO}:dZ p H (upd H p o):=fun b u n h=>by rw[aH n];exact h
theorem Same.x {p:Addr}{H H':Hp}(h:Same H H'):dZ p H H':=fun b o _ q=>h b o q
theorem aA {H:Hp}{p:Addr}{o:HO}(h:H p=none):Same H (upd H p o):=fun b u q=>by rw[aH (aF q h)];exact q
structure Cal (P:Program)(w:World)(K:PySem.W.Frag)(mg:Str->Option Value)(base:Heap)(x:Str)(k:Nat)(ps:List Str)(sp:Sp):Prop where
 ex:∃(f:Addr)(fd:FuncData),dm P w K mg base CX0 k f fd ps sp/\Binds K fd ps []/\keepIn K (.ref f)=true/\mg x=some (.ref f)
section
variable {X:Cx}{k:Nat}{ps:List Str}{sp:Sp}{x:Str}{p pos:Pos}{e:Expr}{es:List Expr}{t:TA}
theorem aaJ (C:Cal X.prog X.w X.K X.mg X.base x k ps sp) (hr:jR k X.A) (hg:Gl X x) (ha:PA X (e::es) t) (hdb:(x == ("__debug__" : Str))=false:=by decide)
  (he:starEach (e::es) X.env=(false,eval e X.env)::starEach es X.env:=by rfl) (hpl:(backTo pos (starEach es X.env)).any (·.1)=false:=by rfl):PE X (.Call (.Name x p) (e::es) [] pos) (oU sp [] E0 t):=by
 obtain⟨f,fd,F,b,kp,hm⟩:=C.ex;exact Xn F hr hg hm kp b .nil acd ha hdb he hpl
end
structure Zk (K:PySem.W.Frag)(mg:Str->Option Value)(x:Str)(st:Stmt)(ps:List Str)(f:Addr)(fd:FuncData):Prop where
 fn:Fun K x x st f fd
 bd:Binds K fd ps []
 nm:mg x=some (.ref f)
theorem Zk.cal {P:Program}{w:World}{K:PySem.W.Frag}{mg:Str->Option Value}{base:Heap}{x:Str}{st:Stmt}{ps:List Str}{f:Addr}{fd:FuncData}{k:Nat}{sp:Sp}(D:Zk K mg x st ps f fd)(F:dm P w K mg base CX0 k f fd ps sp):Cal P w K mg base x k ps sp:=
 ⟨f,fd,F,D.bd,D.fn.kp,D.nm⟩
theorem g8 {k:Nat}(h:k<=40):(2:Int)^k<=1099511627776:=by
 have h1:(2:Nat)^k<=2^40:=Nat.pow_le_pow_right δ h;have h2:((2^k:Nat):Int)=(2:Int)^k:=by simp
 have h3:(2:Nat)^40=1099511627776:=by decide
 omega
theorem QK (i j:Int):Mx (.int i) (.int j)=true:=rfl
theorem Wk (i j:Bool):Mx (.bl i) (.bl j)=true:=rfl
theorem QF (i j:Str):Mx (.str i) (.str j)=true:=rfl
theorem QJ:Mx .non .non=true:=rfl
theorem Vx {α:Type}(a:α)(r:List α):atI (a::r) 0=some a:=gJ (j:=0) rfl
theorem ZL {α:Type}(a b:α)(r:List α):atI (a::b::r) 1=some b:=gJ (j:=1) rfl
theorem acy {α:Type}(a b c:α)(r:List α):atI (a::b::c::r) 2=some c:=gJ (j:=2) rfl
theorem Uc:ixN 3 0=some 0/\ixN 3 1=some 1/\ixN 3 2=some 2:=⟨δ,δ,δ⟩
theorem aP {n:Nat}(h:n<=1000000):n<=sizeLine:=Nat.le_trans h δ
def ixq (o:Option HO)(i:Int)(H:Hp)(Q:VK):Prop:=match o with
 | some (.lst xs)=>∃v,atI xs i=some v/\Q v H
 | some (.tup xs)=>∃v,atI xs i=some v/\Q v H
 | _=>False
def stq (o:Option HO)(p:Addr)(k:Int)(v:V)(H:Hp)(Q:Hp->Prop):Prop:=match o with
 | some (.lst xs)=>∃j,ixN xs.length k=some j/\Q (upd H p (.lst (xs.set j v)))
 | _=>False
def lnq (o:Option HO)(H:Hp)(Q:VK):Prop:=match o with
 | some (.lst ys)=>Q (.int ys.length) H
 | some (.tup ys)=>Q (.int ys.length) H
 | _=>False
def Jc:R2:=fun x y H Q=>match x,y with
 | .ref p,.int i=>ixq (H p) i H Q
 | _,_=>False
def Q8:V->V->V->Hp->(Hp->Prop)->Prop:=fun o i v H Q=>match o,i with
 | .ref p,.int k=>stq (H p) p k v H Q
 | _,_=>False
def Ri:List V->Hp->VK->Prop:=fun xs H Q=>match xs with
 | [.ref p]=>lnq (H p) H Q
 | _=>False
theorem Rj (p:Addr)(i:Int)(H:Hp)(Q:VK):Jc (.ref p) (.int i) H Q=ixq (H p) i H Q:=rfl
theorem MT (p:Addr)(k:Int)(v:V)(H:Hp)(Q:Hp->Prop):Q8 (.ref p) (.int k) v H Q=stq (H p) p k v H Q:=rfl
theorem M4 (p:Addr)(H:Hp)(Q:VK):Ri [.ref p] H Q=lnq (H p) H Q:=rfl
theorem Wf (xs:List V)(p:Addr)(k:Int)(v:V)(H:Hp)(Q:Hp->Prop):stq (some (.lst xs)) p k v H Q=∃j,ixN xs.length k=some j/\Q (upd H p (.lst (xs.set j v))):=rfl
theorem Ye (xs:List V)(H:Hp)(Q:VK):lnq (some (.lst xs)) H Q=Q (.int xs.length) H:=rfl
theorem Yd (xs:List V)(H:Hp)(Q:VK):lnq (some (.tup xs)) H Q=Q (.int xs.length) H:=rfl
section
variable {X:Cx}
theorem b7:IxR X Jc:=by
 intro value slice pins s σ H x y v u Q I rx ry h hs;unfold Jc at h;split at h
 ·rename_i p i;unfold ixq at h;split at h
  ·rename_i xs e;obtain⟨z,hz,q⟩:=h;exact K8 value slice pins s σ H _ _ v u Q I rx ry ⟨p,xs,i,z,rfl,rfl,SqL.of e,hz,q⟩ hs
  ·rename_i xs e;obtain⟨z,hz,q⟩:=h;exact abn value slice pins s σ H _ _ v u Q I rx ry ⟨p,xs,i,z,rfl,rfl,SqT.of e,hz,q⟩ hs
  ·exact h.elim
 ·exact h.elim
theorem Fz:VJ X Q8:=by
 intro pins s σ H o i v ov iv u Q I ro ri rv h;unfold Q8 at h;split at h
 ·rename_i p k;unfold stq at h;split at h
  ·rename_i xs e;obtain⟨j,hj,q⟩:=h;exact set_list pins s σ H _ _ v ov iv u Q I ro ri rv ⟨p,xs,k,j,rfl,rfl,e,hj,q⟩
  ·exact h.elim
 ·exact h.elim
theorem jr:dR X (.builtin "len") Ri:=by
 intro pins s σ H xs us Q I r h;unfold Ri at h;split at h
 ·rename_i p;unfold lnq at h;split at h
  ·rename_i ys e;exact jZ pins s σ H _ us Q I r ⟨p,ys,rfl,.inl (SqL.of e),h⟩
  ·rename_i ys e;exact jZ pins s σ H _ us Q I r ⟨p,ys,rfl,.inr (SqT.of e),h⟩
  ·exact h.elim
 ·exact h.elim
end
def Rq:List V->Hp->VK->Prop:=fun xs H Q=>match xs with
 | [.int i]=>Q (.int i) H
 | [.bl k]=>Q (.int (if k then 1 else 0)) H
 | _=>False
theorem Wt (k:Bool)(H:Hp)(Q:VK):Rq [.bl k] H Q=Q (.int (if k then 1 else 0)) H:=rfl
theorem tu {X:Cx}:dR X (.type "int") Rq:=by
 intro pins s σ H xs us Q I r h;unfold Rq at h;split at h
 ·exact Cp pins s σ H _ us Q I r (.inl ⟨_,rfl,h⟩)
 ·exact Cp pins s σ H _ us Q I r (.inr ⟨_,rfl,h⟩)
 ·exact h.elim
theorem aL {t u:TS}{D:Ends}{σ:St}{H:Hp}(h:∀k,k=u D->t { D with nx:=k } σ H):Ii t u D σ H:=h _ rfl
theorem iW {wi:TI}{g:TG}{tb:TS}{D:Ends}{σ:St}{H:Hp}(h:∀R:It->Hp->Prop,R=(fun J H1=>∃W:Nat->Nat->St->Hp->Prop,(∃m,W 0 m σ H1)/\∀i m σ H,W i m σ H ->
  (J.stop i H/\D.nx σ H)\/(J.go i H/\∃N:St->Hp->Prop,(∀σ' H',N σ' H'->∃m',m'<m/\W (i+1) m' σ' H')/\∀x H',J.yld i H x H'->g x σ H' fun σ2 H2=>tb { D with nx:=N,ct:=N,bk:=D.nx } σ2 H2))->wi σ H R):Wc wi g tb D σ H:=h _ rfl
theorem zP {lo:Int}{n:Nat}{g:TG}{tb:TS}{D:Ends}{σ:St}{H:Hp}{R:It->Hp->Prop}(hR:R=(fun J H1=>∃W:Nat->Nat->St->Hp->Prop,(∃m,W 0 m σ H1)/\∀i m σ H,W i m σ H ->
  (J.stop i H/\D.nx σ H)\/(J.go i H/\∃N:St->Hp->Prop,(∀σ' H',N σ' H'->∃m',m'<m/\W (i+1) m' σ' H')/\∀x H',J.yld i H x H'->g x σ H' fun σ2 H2=>tb { D with nx:=N,ct:=N,bk:=D.nx } σ2 H2)))
  (Pv:Nat->St->Hp->Prop) (h0:Pv 0 σ H) (hs:∀i σ H,i<n->Pv i σ H->g (.int (lo+i)) σ H fun σ2 H2=>tb { D with nx:=Pv (i+1),ct:=Pv (i+1),bk:=D.nx } σ2 H2) (hd:∀σ H,Pv n σ H->D.nx σ H):R (Itr lo n) H:=by
 subst hR;exact Oi Pv h0 hs hd
theorem zQ {K:PySem.W.Frag}{a:Addr}{xs:List V}{g:TG}{tb:TS}{D:Ends}{σ:St}{H:Hp}{R:It->Hp->Prop}(hR:R=(fun J H1=>∃W:Nat->Nat->St->Hp->Prop,(∃m,W 0 m σ H1)/\∀i m σ H,W i m σ H ->
  (J.stop i H/\D.nx σ H)\/(J.go i H/\∃N:St->Hp->Prop,(∀σ' H',N σ' H'->∃m',m'<m/\W (i+1) m' σ' H')/\∀x H',J.yld i H x H'->g x σ H' fun σ2 H2=>tb { D with nx:=N,ct:=N,bk:=D.nx } σ2 H2)))
  (Pv:Nat->St->Hp->Prop) (h0:Pv 0 σ H) (hl:∀i σ H,i<=xs.length->Pv i σ H->SqL K H a xs) (hs:∀i x σ H,xs[i]?=some x->Pv i σ H->g x σ H fun σ2 H2=>tb { D with nx:=Pv (i+1),ct:=Pv (i+1),bk:=D.nx } σ2 H2) (hd:∀σ H,Pv xs.length σ H->D.nx σ H):R (Itl K a) H:=by
 subst hR;exact Uz Pv h0 hl hs hd
def Bk (mp:List (Option Nat))(g:TG)(tc:TT)(te:TE)(σ:St)(Q:VK)(J:It)(H1:Hp):Prop:=∃W:Nat->Nat->List V->St->Hp->Prop,(∃m,W 0 m [] (jh mp σ) H1)/\∀i m acc τ H2,W i m acc τ H2 ->
  (J.stop i H2/\∀d,H2 d=none->Q (.ref d) (upd H2 d (.lst acc))) \/
  (J.go i H2/\acc.length<sizeLine/\∃N:List V->St->Hp->Prop,(∀acc' τ' H',N acc' τ' H'->∃m',m'<m/\W (i+1) m' acc' τ' H')/\∀x H3,J.yld i H2 x H3->g x τ H3 fun τ1 H4=>tc τ1 H4 fun b H5=>
   if b=true then te τ1 H5 fun v H6=>N (acc++[v]) τ1 H6 else N acc τ1 H5)
theorem fu {mp:List (Option Nat)}{wi:TI}{g:TG}{tc:TT}{te:TE}{σ:St}{H:Hp}{Q:VK}(h:∀R:It->Hp->Prop,R=Bk mp g tc te σ Q->wi σ H R):Bp mp wi g tc te σ H Q:=h _ rfl
theorem qX {J:It}{mp:List (Option Nat)}{g:TG}{tc:TT}{te:TE}{σ:St}{H:Hp}{Q:VK}{R:It->Hp->Prop}(hR:R=Bk mp g tc te σ Q)(n:Nat)(hz:n<=sizeLine)(Pv:Nat->List V->St->Hp->Prop)(h0:Pv 0 [] (jh mp σ) H)
  (hl:∀i acc τ H,Pv i acc τ H->acc.length<=i) (hgo:∀i acc τ H,i<n->Pv i acc τ H->J.go i H) (hst:∀acc τ H,Pv n acc τ H->J.stop n H)
  (hs:∀i acc τ H x H3,i<n->Pv i acc τ H->J.yld i H x H3->g x τ H3 fun τ1 H4=>tc τ1 H4 fun b H5=>if b=true then te τ1 H5 fun v H6=>Pv (i+1) (acc++[v]) τ1 H6 else Pv (i+1) acc τ1 H5)
  (hd:∀acc τ H d,Pv n acc τ H->H d=none->Q (.ref d) (upd H d (.lst acc))):R J H:=by
 subst hR;refine⟨fun i m acc τ H2=>m=n-i/\i<=n/\Pv i acc τ H2,⟨_,rfl,Nat.zero_le _,h0⟩,?_⟩;rintro i m acc τ H2 ⟨rfl,hi,p⟩;have q3:=hl i acc τ H2 p;by_cases hlt:i<n
 ·exact .inr ⟨hgo i acc τ H2 hlt p,ω,Pv (i+1),fun acc' τ' H' q=>⟨_,ω,rfl,hlt,q⟩,fun x H3 y=>hs i acc τ H2 x H3 hlt p y⟩
 ·have e:i=n:=ω;subst e;exact .inl ⟨hst acc τ H2 p,fun d hd'=>hd acc τ H2 d p hd'⟩
structure Nm (N:List Str)(sc:Scope)(i:Nat)(x:Str):Prop where
 hN:N[i]?=some x
 hv:Loc sc x
 hd:(x == ("__debug__" : Str))=false
 hcd:(x == ("__classdict__" : Str))=false
def aci (N:List Str) (sc:Scope) (i:Nat) (x:Str):Bool:=decide (N[i]?=some x)&&(decide (sc.names.lookup x=some .local)||decide (sc.names.lookup x=some .cell)) && !(x == ("__debug__" : Str)) && !(x == ("__classdict__" : Str))
theorem Nm.of {N:List Str}{sc:Scope}{i:Nat}{x:Str}(h:aci N sc i x=true):Nm N sc i x:=by
 unfold aci at h;rw[Bool.and_eq_true,Bool.and_eq_true,Bool.and_eq_true,Bool.or_eq_true] at h;obtain⟨⟨⟨h1,h2⟩,h3⟩,h4⟩:=h;exact⟨of_decide_eq_true h1,h2.elim (fun z=>.inl (of_decide_eq_true z)) (fun z=>.inr (of_decide_eq_true z)),by simpa using h3,by simpa using h4⟩
structure Bn (x:Str):Prop where
 hn:x ≠ "__name__"
 hd:(x == ("__debug__" : Str))=false
section
variable {X:Cx}{i:Nat}{x:Str}{pos pos' p:Pos}{e:Expr}{es:List Expr}{te:TE}{t:TA}{k:Nat}{ps:List Str}{sp:Sp}{id T:String}{r:List V->Hp->VK->Prop}
theorem pn (n:Nm X.N X.env.scope i x):PE X (.Name x pos) (Pu i):=RV n.hN (n.hv.elim .inl fun z=>.inr (.inl z)) n.hd n.hcd
theorem abZ (n:Nm X.N X.env.scope i x)(hN:X.N.Nodup)(he:PE X e te)(hs:swapsWith e (some (.Name x pos')) pos.line X.env=pure false:=by rfl)(hf:X.fn x=true\/X.env.scope.names.lookup x=some .local:=by exact .inl rfl) :
  PS X (.Assign [.Name x pos'] e pos) (wW te (lH i)):=aav hN n.hN n.hv he hs hf
theorem ab1 (n:Nm X.N X.env.scope i x)(hN:X.N.Nodup)(hf:X.fn x=true\/X.env.scope.names.lookup x=some .local:=by exact .inl rfl):PG X (.Name x pos) (lH i):=KQ hN n.hN n.hv hf
theorem ab6 (C:Cal X.prog X.w X.K X.mg X.base x k ps sp)(hr:jR k X.A)(hg:Gl X x)(hdb:Bn x)(ha:PA X (e::es) t)
  (he:starEach (e::es) X.env=(false,eval e X.env)::starEach es X.env:=by rfl) (hpl:(backTo pos (starEach es X.env)).any (·.1)=false:=by rfl):PE X (.Call (.Name x p) (e::es) [] pos) (oU sp [] E0 t):=
 aaJ C hr hg ha hdb.hd he hpl
theorem ab7 (hc:dR X (.builtin id) r)(hg:Gl X x)(hm:X.mg x=none)(hv:bootBuiltins x=some (.builtin id))(b:Bn x)(ha:PA X (e::es) t)
  (he:starEach (e::es) X.env=(false,eval e X.env)::starEach es X.env:=by rfl) (hpl:(backTo pos (starEach es X.env)).any (·.1)=false:=by rfl):PE X (.Call (.Name x p) (e::es) [] pos) (tCB r t):=R9 hc hg hm hv ha b.hn b.hd he hpl
theorem ab5 (hc:dR X (.type T) r)(hg:Gl X x)(hm:X.mg x=none)(hv:bootBuiltins x=some (.type T))(b:Bn x)(ha:PA X (e::es) t)
  (he:starEach (e::es) X.env=(false,eval e X.env)::starEach es X.env:=by rfl) (hpl:(backTo pos (starEach es X.env)).any (·.1)=false:=by rfl):PE X (.Call (.Name x p) (e::es) [] pos) (tCB r t):=Nf hc hg hm hv ha b.hn b.hd he hpl
theorem ab8 (n:String)(hg:Gl X x)(hm:X.mg x=none)(hv:bootBuiltins x=some (.type n))(b:Bn x):PE X (.Name x pos) (tC (.ty n)):=Xo hg hm hv rfl b.hn b.hd
end
theorem qJ:Bn "len" := ⟨ψ,ψ⟩
theorem Vm:Bn "abs" := ⟨ψ,ψ⟩
theorem J0:Bn "min" := ⟨ψ,ψ⟩
theorem Vk:Bn "max" := ⟨ψ,ψ⟩
theorem Ep:Bn "all" := ⟨ψ,ψ⟩
theorem Vl:Bn "any" := ⟨ψ,ψ⟩
theorem bF:Bn "isinstance" := ⟨ψ,ψ⟩
theorem zY:Bn "int" := ⟨ψ,ψ⟩
theorem abG:Bn "sum" := ⟨ψ,ψ⟩
theorem xJ:Bn "list" := ⟨ψ,ψ⟩
theorem vh:Bn "tuple" := ⟨ψ,ψ⟩
theorem JZ:Bn "str" := ⟨ψ,ψ⟩
theorem xK:Bn "bool" := ⟨ψ,ψ⟩
theorem wB:Bn "sorted" := ⟨ψ,ψ⟩
theorem Lw:Bn "repr" := ⟨ψ,ψ⟩
def tyO:Option HO->Option String
 | some (.lst _)=>some "list"
 | some (.tup _)=>some "tuple"
 | _=>none
def tyN (x:V)(H:Hp):Option String:=match x with
 | .non=>some "NoneType"
 | .bl _=>some "bool"
 | .int _=>some "int"
 | .str _=>some "str"
 | .ref a=>tyO (H a)
 | _=>none
theorem Tn.of {x:V}{H:Hp}{t:String}(h:tyN x H=some t):Tn H x t:=by
 cases x with
 | non=>cases h;exact .non
 | bl b=>cases h;exact .bl b
 | int i=>cases h;exact .int i
 | str s=>cases h;exact .str s
 | ref a=>
  have h':tyO (H a)=some t:=h;cases e:H a with
  | none=>rw[e] at h';cases h'
  | some o=>
   rw[e] at h';cases o with
   | lst xs=>cases h';exact .lst e
   | tup xs=>cases h';exact .tup e
   | _=>cases h'
 | _=>cases h
def Rp:List V->Hp->VK->Prop:=fun xs H Q=>match xs with
 | [x,.ty T]=>∃t,tyN x H=some t/\fj.contains T=true/\Q (.bl (iy t T)) H
 | _=>False
def i2q (o:Option HO)(x:V)(H:Hp)(Q:VK):Prop:=match o with
 | some (.tup [.ty T,.ty U])=>∃t,tyN x H=some t/\fj.contains T=true/\fj.contains U=true/\Q (.bl (iy t T||iy t U)) H
 | _=>False
def Rn:List V->Hp->VK->Prop:=fun xs H Q=>match xs with
 | [x,.ref p]=>i2q (H p) x H Q
 | _=>False
theorem cP {X:Cx}:dR X (.builtin "isinstance") Rp:=by
 intro pins s σ H xs us Q I r h;unfold Rp at h;split at h
 ·obtain⟨t,e,k,q⟩:=h;exact Oz pins s σ H _ us Q I r ⟨_,_,t,rfl,Tn.of e,by simpa using k,q⟩
 ·exact h.elim
theorem Ow {X:Cx}:dR X (.builtin "isinstance") Rn:=by
 intro pins s σ H xs us Q I r h;unfold Rn at h;split at h
 ·rename_i x p;unfold i2q at h;split at h
  ·rename_i T U e;obtain⟨t,e1,k1,k2,q⟩:=h;refine Ox pins s σ H _ us Q I r ⟨x,p,[T,U],t,rfl,e,Tn.of e1,fun z hz=>?_,by simpa using q⟩;rcases mem_cons.mp hz with rfl|hz
   ·simpa using k1
   ·obtain rfl:=mem_singleton.mp hz;simpa using k2
  ·exact h.elim
 ·exact h.elim
theorem Ro (x:V)(T:String)(H:Hp)(Q:VK):Rp [x,.ty T] H Q=∃t,tyN x H=some t/\fj.contains T=true/\Q (.bl (iy t T)) H:=rfl
theorem Rm (x:V)(p:Addr)(H:Hp)(Q:VK):Rn [x,.ref p] H Q=i2q (H p) x H Q:=rfl
theorem abt (x:V)(T U:String)(H:Hp)(Q:VK):i2q (some (.tup [.ty T,.ty U])) x H Q=∃t,tyN x H=some t/\fj.contains T=true/\fj.contains U=true/\Q (.bl (iy t T||iy t U)) H:=rfl
theorem Yj:fj.contains "list" = true:=by decide
theorem T8:fj.contains "tuple" = true:=by decide
theorem abm:fj.contains "int" = true:=by decide
theorem abl:fj.contains "str" = true:=by decide
theorem kc_bool:fj.contains "bool" = true:=by decide
theorem ty_int (i:Int) (H:Hp):tyN (.int i) H=some "int" := rfl
theorem abR (i:Bool) (H:Hp):tyN (.bl i) H=some "bool" := rfl
theorem ty_str (i:Str) (H:Hp):tyN (.str i) H=some "str" := rfl
theorem Z0 (H:Hp):tyN .non H=some "NoneType" := rfl
theorem ZX (p:Addr)(H:Hp):tyN (.ref p) H=tyO (H p):=rfl
theorem V7 (xs:List V):tyO (some (.lst xs))=some "list" := rfl
theorem V6 (xs:List V):tyO (some (.tup xs))=some "tuple" := rfl
theorem wX:iy "NoneType" "str" = false:=by decide
theorem vG:iy "NoneType" "list" = false:=by decide
theorem ud:iy "NoneType" "tuple" = false:=by decide
theorem Dk:iy "bool" "bool" = true:=by decide
theorem FZ:iy "bool" "str" = false:=by decide
theorem Dj:iy "bool" "list" = false:=by decide
theorem Aw:iy "bool" "tuple" = false:=by decide
theorem FW:iy "int" "bool" = false:=by decide
theorem IW:iy "int" "int" = true:=by decide
theorem IV:iy "int" "str" = false:=by decide
theorem FT:iy "int" "list" = false:=by decide
theorem Di:iy "int" "tuple" = false:=by decide
theorem Iw:iy "str" "str" = true:=by decide
theorem FQ:iy "str" "list" = false:=by decide
theorem Dg:iy "str" "tuple" = false:=by decide
theorem Dh:iy "list" "list" = true:=by decide
theorem Av:iy "list" "tuple" = false:=by decide
theorem Ar:iy "tuple" "list" = false:=by decide
theorem ye:iy "tuple" "tuple" = true:=by decide
def gtq (o:Option HO)(n:Nat)(t:TGs)(σ:St)(H:Hp)(Q:St->Hp->Prop):Prop:=match o with
 | some (.tup xs)=>xs.length=n/\t xs σ H Q
 | _=>False
def Ld (n:Nat)(t:TGs):TG:=fun v σ H Q=>match v with
 | .ref a=>gtq (H a) n t σ H Q
 | _=>False
theorem Oe (n:Nat)(t:TGs)(a:Addr)(σ:St)(H:Hp)(Q:St->Hp->Prop):Ld n t (.ref a) σ H Q=gtq (H a) n t σ H Q:=rfl
theorem Yz (xs:List V)(n:Nat)(t:TGs)(σ:St)(H:Hp)(Q:St->Hp->Prop):gtq (some (.tup xs)) n t σ H Q=(xs.length=n/\t xs σ H Q):=rfl
def qtq (o:Option HO)(f:List Bool->Bool)(H:Hp)(Q:VK):Prop:=match o with
 | some (.lst xs)=>∃bs,xs=List.map V.bl bs/\Q (.bl (f bs)) H
 | _=>False
def uh (f:List Bool->Bool):List V->Hp->VK->Prop:=fun xs H Q=>match xs with
 | [.ref p]=>qtq (H p) f H Q
 | _=>False
theorem Ge (f:List Bool->Bool)(p:Addr)(H:Hp)(Q:VK):uh f [.ref p] H Q=qtq (H p) f H Q:=rfl
theorem WM (f:List Bool->Bool)(xs:List V)(H:Hp)(Q:VK):qtq (some (.lst xs)) f H Q=∃bs,xs=List.map V.bl bs/\Q (.bl (f bs)) H:=rfl
section
variable {X:Cx}{es:List Expr}{k:Nat}{t:TGs}{n:Nat}{pos:Pos}
theorem Xh (hc:X.calm=true)(h:PGs X es t)(hn:(assignEach es X.env).length=n:=by rfl)(hst:(assignEach es X.env).findIdx? (·.1)=none:=by rfl):PG X (.Tuple es k pos) (Ld n t):=by
 intro pins s σ H v u Q I r hw;unfold Ld at hw;split at hw
 ·rename_i a;unfold gtq at hw;split at hw
  ·rename_i xs e;exact aaB hc h hn hst pins s σ H _ u Q I r ⟨a,xs,rfl,SqT.of e,hw.1,hw.2⟩
  ·exact hw.elim
 ·exact hw.elim
theorem qY (hc:X.calm=true):dR X (.builtin "all") (uh fun bs=>bs.all id):=by
 intro pins s σ H xs us Q I r h;unfold uh at h;split at h
 ·rename_i p;unfold qtq at h;split at h
  ·rename_i ys e;obtain⟨bs,rfl,q⟩:=h;exact Vi hc pins s σ H _ us Q I r ⟨p,bs,rfl,SqL.of e,q⟩
  ·exact h.elim
 ·exact h.elim
theorem Cq (hc:X.calm=true):dR X (.builtin "any") (uh fun bs=>bs.any id):=by
 intro pins s σ H xs us Q I r h;unfold uh at h;split at h
 ·rename_i p;unfold qtq at h;split at h
  ·rename_i ys e;obtain⟨bs,rfl,q⟩:=h;exact Vh hc pins s σ H _ us Q I r ⟨p,bs,rfl,SqL.of e,q⟩
  ·exact h.elim
 ·exact h.elim
end
def Rf:List V->Hp->VK->Prop:=fun xs H Q=>match xs with
 | [.int i,.int j]=>Q (.int (if j<i then j else i)) H
 | _=>False
def Rh:List V->Hp->VK->Prop:=fun xs H Q=>match xs with
 | [.int i,.int j]=>Q (.int (if j>i then j else i)) H
 | _=>False
theorem Rc (i j:Int)(H:Hp)(Q:VK):Rf [.int i,.int j] H Q=Q (.int (if j<i then j else i)) H:=rfl
theorem Rg (i j:Int)(H:Hp)(Q:VK):Rh [.int i,.int j] H Q=Q (.int (if j>i then j else i)) H:=rfl
theorem wA {X:Cx}(hc:X.calm=true):dR X (.builtin "min") Rf:=by
 intro pins s σ H xs us Q I r h;unfold Rf at h;split at h
 ·exact Ot hc pins s σ H _ us Q I r ⟨_,_,rfl,h⟩
 ·exact h.elim
theorem Ck {X:Cx}(hc:X.calm=true):dR X (.builtin "max") Rh:=by
 intro pins s σ H xs us Q I r h;unfold Rh at h;split at h
 ·exact Ou hc pins s σ H _ us Q I r ⟨_,_,rfl,h⟩
 ·exact h.elim
structure QE (X:Cx)(e:Expr)(t:TE):Prop where
 h:PE X e t
structure QT (X:Cx)(e:Expr)(t:TT):Prop where
 h:PT X e t
structure QW (X:Cx)(e:Expr)(t:TT):Prop where
 h:PW X e t
structure QA (X:Cx)(es:List Expr)(t:TA):Prop where
 h:PA X es t
structure QS (X:Cx)(st:Stmt)(t:TS):Prop where
 h:PS X st t
structure QB (X:Cx)(st:List Stmt)(t:TS):Prop where
 h:PSs X st t
structure QG (X:Cx)(e:Expr)(t:TG):Prop where
 h:PG X e t
structure QGs (X:Cx)(es:List Expr)(t:TGs):Prop where
 h:PGs X es t
structure QI (X:Cx)(tg e:Expr)(t:TI):Prop where
 h:PI X tg e t
structure QC (X:Cx)(cs:List Expr)(t:TT):Prop where
 h:PTs X cs t
section
variable {X:Cx}{i:Nat}{x:Str}{pos pos' p tpos:Pos}{e a b c o:Expr}{es rest:List Expr}{te ta tb tc to ti:TE}{tA tB':TT}{t:TA}{k n kk:Nat}{ps:List Str}{sp:Sp}{id T:String}{r:List V->Hp->VK->Prop}{st:Stmt}{sts:List Stmt}{ts us:TS}{tg iter:Expr}{wi:TI}{g:TG}{gs:TGs}
theorem acN (h:Nm X.N X.env.scope i x):QE X (.Name x pos) (Pu i):=⟨pn h⟩
theorem acM (i:Nat) {x:Str}{pos:Pos}(hN:X.N[i]?=some x:=by rfl) (hv:Vis X.env.scope x:=by first|exact Or.inl rfl|exact Or.inr (Or.inl rfl)|exact Or.inr (Or.inr rfl)) (hd:(x == ("__debug__" : Str))=false:=by decide)
  (hcd:(x == ("__classdict__" : Str))=false:=by decide):QE X (.Name x pos) (Pu i):=⟨RV hN hv hd hcd⟩
theorem aq {i j pos}:QE X (.Constant (.int i) j pos) (tC (.int i)):=⟨aaI⟩
theorem pF {b j pos}:QE X (.Constant (.bool b) j pos) (tC (.bl b)):=⟨ab9⟩
theorem rR {j pos}:QE X (.Constant .none j pos) (tC .non):=⟨aaG⟩
theorem iB {x j pos}:QE X (.Constant (.str x) j pos) (tC (.str x)):=⟨aaD⟩
theorem aJ {op:Operator}{r:R2}(ho:OpR X (binaryOp op) r)(ha:QE X a ta)(hb:QE X b tb):QE X (.BinOp a op b pos) (tOp r ta tb):=⟨ab3 ho ha.h hb.h⟩
theorem oG {op:UnaryOp}{r:V->Hp->VK->Prop}(ho:UnR X (unaryOp op) r)(ha:QE X a ta):QE X (.UnaryOp op a pos) (tUn r ta):=⟨ab2 ho ha.h⟩
theorem Rx (ha:QE X a ta):QE X (.UnaryOp .Not a pos) (PK ta):=⟨aaF ha.h⟩
theorem fM {op:CmpOp}{r:R2}(ho:OpR X (compareOp op) r)(ha:QE X a ta)(hb:QE X b tb)(hm:behindInMarks op b=false):QE X (.Compare a [op] [b] pos) (tOp r ta tb):=⟨Xm ho ha.h hb.h hm⟩
theorem aU {op:CmpOp}{r:R2}(ho:OpR X (compareOp op) r)(ha:QE X a ta)(hb:QE X b tb)(hm:behindInMarks op b=false):QT X (.Compare a [op] [b] pos) (wD (tOp r ta tb)):=⟨W4 ho ha.h hb.h hm⟩
theorem Gh {op op':CmpOp}{r r':R2}(ho:OpR X (compareOp op) r)(ho':OpR X (compareOp op') r')(ha:QE X a ta)(hb:QE X b tb)(hc:QE X c tc)
  (hm:lastMarks [op,op'] [b,c]=false:=by with_unfolding_all rfl):QE X (.Compare a [op,op'] [b,c] pos) (xX r r' ta tb tc):=⟨R8 ho ho' ha.h hb.h hc.h hm⟩
theorem Rt {op op':CmpOp}{r r':R2}(ho:OpR X (compareOp op) r)(ho':OpR X (compareOp op') r')(ha:QE X a ta)(hb:QE X b tb)(hc:QE X c tc)
  (hm:lastMarks [op,op'] [b,c]=false:=by with_unfolding_all rfl):QT X (.Compare a [op,op'] [b,c] pos) (wD (xX r r' ta tb tc)):=⟨RK ho ho' ha.h hb.h hc.h hm⟩
theorem vL {op}(h:QE X a ta):QE X (.BoolOp op [a] pos) ta:=⟨aaE h.h⟩
theorem rT (ha:QE X a ta)(hb:QE X (.BoolOp .And (b::rest) pos) tb):QE X (.BoolOp .And (a::b::rest) pos) (Qg ta tb):=⟨aaK ha.h hb.h⟩
theorem ur (hc:QT X c tA)(ha:QE X a ta)(hb:QE X b tb):QE X (.IfExp c a b pos) (tIf tA ta tb):=⟨RZ hc.h ha.h hb.h⟩
theorem aX {r:R2}(hr:IxR X r)(ha:QE X a ta)(hb:QE X b tb)(hs:LR b):QE X (.Subscript a b pos) (tOp r ta tb):=⟨ab4 hr ha.h hb.h hs⟩
theorem dg (h:QA X es t):QE X (.List es pos) (PL t):=⟨aaH h.h⟩
theorem cX {x1}(h:QA X es t):QE X (.Tuple es x1 pos) (Mq t):=⟨aaC h.h⟩
theorem au:QA X [] xW:=⟨aaL⟩
theorem ak (ha:QE X e te)(hr:QA X es t)(hs:starEach (e::es) X.env=(false,eval e X.env)::starEach es X.env:=by rfl):QA X (e::es) (jT te t):=⟨Xr ha.h hr.h hs⟩
theorem bw (C:Cal X.prog X.w X.K X.mg X.base x k ps sp)(hr:jR k X.A)(hg:Gl X x)(hdb:Bn x)(ha:QA X (e::es) t)
  (he:starEach (e::es) X.env=(false,eval e X.env)::starEach es X.env:=by rfl) (hpl:(backTo pos (starEach es X.env)).any (·.1)=false:=by rfl):QE X (.Call (.Name x p) (e::es) [] pos) (oU sp [] E0 t):=⟨ab6 C hr hg hdb ha.h he hpl⟩
theorem cB (hc:dR X (.builtin id) r)(hg:Gl X x)(hm:X.mg x=none)(hv:bootBuiltins x=some (.builtin id))(b:Bn x)(ha:QA X (e::es) t)
  (he:starEach (e::es) X.env=(false,eval e X.env)::starEach es X.env:=by rfl) (hpl:(backTo pos (starEach es X.env)).any (·.1)=false:=by rfl):QE X (.Call (.Name x p) (e::es) [] pos) (tCB r t):=⟨ab7 hc hg hm hv b ha.h he hpl⟩
theorem Rz (hc:dR X (.type T) r)(hg:Gl X x)(hm:X.mg x=none)(hv:bootBuiltins x=some (.type T))(b:Bn x)(ha:QA X (e::es) t)
  (he:starEach (e::es) X.env=(false,eval e X.env)::starEach es X.env:=by rfl) (hpl:(backTo pos (starEach es X.env)).any (·.1)=false:=by rfl):QE X (.Call (.Name x p) (e::es) [] pos) (tCB r t):=⟨ab5 hc hg hm hv b ha.h he hpl⟩
theorem jz (n:String)(hg:Gl X x)(hm:X.mg x=none)(hv:bootBuiltins x=some (.type n))(b:Bn x):QE X (.Name x pos) (tC (.ty n)):=⟨ab8 n hg hm hv b⟩
theorem vK (ha:QT X a tA):QT X (.UnaryOp .Not a pos) (Wb tA):=⟨aau ha.h⟩
theorem gQ (h:QE X e te)(he:∀whole,isTrue e X.env whole=(do let v <- whole;standAt e.pos;holding [v] (truthy v)):=by intro _;rfl):QT X e (tB te):=⟨aas h.h he⟩
theorem um (ha:QT X a tA):QW X (.BoolOp .And [a] pos) tA:=⟨WX ha.h⟩
theorem pD (ha:QT X a tA):QW X (.BoolOp .Or [a] pos) tA:=⟨aap ha.h⟩
theorem vI (ha:QT X a tA)(hb:QW X (.BoolOp .And (b::rest) pos) tB'):QW X (.BoolOp .And (a::b::rest) pos) (Wd tA tB'):=⟨aar ha.h hb.h⟩
theorem rG (ha:QT X a tA)(hb:QW X (.BoolOp .Or (b::rest) pos) tB'):QW X (.BoolOp .Or (a::b::rest) pos) (tOr tA tB'):=⟨abY ha.h hb.h⟩
theorem vJ (h:QW X e tA):QT X e tA:=⟨h.h.pt⟩
theorem bL:QB X [] Kd:=⟨W6⟩
theorem aG (h:QS X st ts):QB X [st] ts:=⟨W5 h.h⟩
theorem aD (h:QS X st ts)(h2:QB X sts us):QB X (st::sts) (Ii ts us):=⟨RL h.h h2.h⟩
theorem aO (he:QE X e te):QS X (.Return (some e) pos) (Fp te):=⟨aaw he.h⟩
theorem cA {c:Expr}{a b:List Stmt}{tc:TT}(hc:QT X c tc)(ha:QB X a ts)(hb:QB X b us):QS X (.If c a b pos) (PX tc ts us):=⟨ab0 hc.h ha.h hb.h⟩
theorem fD (he:QE X e te)(hs:swapsWith e none pos.line X.env=pure false:=by rfl):QS X (.Expr e pos) (Qa te):=⟨W9 he.h hs⟩
theorem bQ (h:Nm X.N X.env.scope i x)(hN:X.N.Nodup)(he:QE X e te)(hs:swapsWith e (some (.Name x pos')) pos.line X.env=pure false:=by rfl)(hf:X.fn x=true\/X.env.scope.names.lookup x=some .local:=by exact .inl rfl) :
  QS X (.Assign [.Name x pos'] e pos) (wW te (lH i)):=⟨abZ h hN he.h hs hf⟩
theorem iz (he:QE X e te)(hg:QG X tg g)(hs:swapsWithSole [tg] e pos.line X.env=pure false:=by rfl)(hw:swappedStores [tg] e X.env=pure none:=by rfl)
  (h1:(assignEach [tg] X.env).map (·.2)=[assign tg X.env]:=by rfl):QS X (.Assign [tg] e pos) (wW te g):=⟨aaz he.h hg.h hs hw h1⟩
theorem Dp {i j:Nat}{x y:Str}{a b:Expr}{ta:TA}{px py pt:Pos}{kt k2 pt2}(hc:X.calm=true)(hN:X.N.Nodup)(hi:X.N[i]?=some x)(hj:X.N[j]?=some y)(hij:i≠j)
  (hx:X.env.scope.names.lookup x=some .local) (hy:X.env.scope.names.lookup y=some .local) (ha:QA X [a,b] ta)
  (hw:swappedStores [.Tuple [.Name x px,.Name y py] kt pt] (.Tuple [a,b] k2 pt2) X.env=pure (some [x,y]))
  (hs:swapsWithSole [.Tuple [.Name x px,.Name y py] kt pt] (.Tuple [a,b] k2 pt2) pos.line X.env=pure false:=by rfl) :
  QS X (.Assign [.Tuple [.Name x px,.Name y py] kt pt] (.Tuple [a,b] k2 pt2) pos) (Z7 i j ta):=⟨aax hc hN hi hj hij hx hy ha.h hw hs⟩
theorem Ru {c:Expr}{body:List Stmt}{tc:TT}(hp:PassesOwn (model X.prog X.w) X.A X.env X.xe)(hc:QT X c tc)(hb:QB X body ts):QS X (.While c body [] pos) (Ih tc ts):=⟨RM hp hc.h hb.h⟩
theorem eX {body:List Stmt}(hp:PassesOwn (model X.prog X.w) X.A X.env X.xe)(hc:X.calm=true)(hi:QI X tg iter wi)(hg:QG X tg g)(hb:QB X body ts)
  (hs:∀x,foldedSetIterable iter X.env x=pure x:=by intro _;rfl):QS X (.For tg iter body [] pos) (Wc wi g ts):=⟨aay hp hc hi.h hg.h hb.h hs⟩
theorem bN (h:Nm X.N X.env.scope i x)(hN:X.N.Nodup)(hf:X.fn x=true\/X.env.scope.names.lookup x=some .local:=by exact .inl rfl):QG X (.Name x pos) (lH i):=⟨ab1 h hN hf⟩
theorem cI (i:Nat)(hN:X.N.Nodup)(hi:X.N[i]?=some x)(hx:Loc X.env.scope x)(hf:X.fn x=true\/X.env.scope.names.lookup x=some .local:=by first|exact .inl rfl|exact .inr rfl):QG X (.Name x pos) (lH i):=⟨KQ hN hi hx hf⟩
theorem cR:QGs X [] abv:=⟨Xg⟩
theorem aK (h1:QG X e g)(h2:QGs X es gs)(hs:(assignEach (e::es) X.env).map (·.2)=assign e X.env::(assignEach es X.env).map (·.2):=by rfl):QGs X (e::es) (Uu g gs):=⟨RQ h1.h h2.h hs⟩
theorem dX {n:Nat}(hc:X.calm=true)(h:QGs X es gs)(hn:(assignEach es X.env).length=n:=by rfl)(hst:(assignEach es X.env).findIdx? (·.1)=none:=by rfl):QG X (.Tuple es k pos) (Ld n gs):=⟨Xh hc h.h hn hst⟩
theorem Vz (o:Expr)(c j)(p pos:Pos)(env:Env)(v:Value):assign (.Subscript o (.Constant c j p) pos) env v=(do
   let ov <- holding [v] (eval o env)
   let iv <- holding [v,ov] (eval (.Constant c j p) env)
   standAt pos
   holding [v,ov,iv] (setItem ov iv v)
   release [v,ov,iv] []):=rfl
theorem Dr {c j}{t:VG}(ho:QE X o to)(hi:QE X (.Constant c j p) ti)(hs:VJ X t):QG X (.Subscript o (.Constant c j p) pos) (YD to ti t):=⟨RT ho.h hi.h hs (fun v=>Vz o c j p pos X.env v)⟩
theorem gZ (hg:Gl X "range") (hm:X.mg "range" = none) (ha:QA X [a] t) (hs:starEach [a] X.env=[(false,eval a X.env)]:=by rfl):QI X tg (.Call (.Name "range" p) [a] [] pos) (qg t):=⟨Nb hg hm ha.h hs⟩
theorem M6 (hg:Gl X "range") (hm:X.mg "range" = none) (ha:QA X [a,b] t) (hs:starEach [a,b] X.env=[(false,eval a X.env),(false,eval b X.env)]:=by rfl) (hs2:starEach [b] X.env=[(false,eval b X.env)]:=by rfl):QI X tg (.Call (.Name "range" p) [a,b] [] pos) (Ul t):=⟨M9 hg hm ha.h hs hs2⟩
theorem uq (hg:Gl X "enumerate") (hm:X.mg "enumerate" = none) (ha:QA X [a] t) (hs:starEach [a] X.env=[(false,eval a X.env)]:=by rfl):QI X (.Tuple es kk tpos) (.Call (.Name "enumerate" p) [a] [] pos) (zu X.K t):=⟨Xf hg hm ha.h hs⟩
theorem jF:QC X [] Pr:=⟨W3⟩
theorem vM (h:QT X c tA):QC X [c] tA:=⟨W0 h.h⟩
theorem eY {NX:List Str}{kX:List (Str×NameKind)}{scope:Scope}{elt:Expr}{ifs:List Expr}{tc:TT}(N:List Str)(mp:List (Option Nat))(hNX:X.N=NX)(hkX:X.env.scope.names=kX)(S:wU NX kX N mp scope)(hc:X.calm=true)
  (hi:QI X tg iter wi) (hg:∀cl C s H fp,QG (bG X N scope cl C s H fp) tg g) (ht:∀cl C s H fp,QC (bG X N scope cl C s H fp) ifs tc) (he:∀cl C s H fp,QE (bG X N scope cl C s H fp) elt te)
  (hs:∀x,foldedSetIterable iter X.env x=pure x:=by intro _;rfl):QE X (.ListComp elt [⟨tg,iter,ifs,0⟩] scope pos) (Bp mp wi g tc te):=
 ⟨Xl N mp hNX hkX S hc hi.h (fun cl C s H fp=>(hg cl C s H fp).h) (fun cl C s H fp=>(ht cl C s H fp).h) (fun cl C s H fp=>(he cl C s H fp).h) hs⟩
end
section
variable {P:Program}{w:World}{K:PySem.W.Frag}{mg:Str->Option Value}{base:Heap}
theorem Fun.okq {x qual:Str}{st:Stmt}{f:Addr}{fd:FuncData}{N ps:List Str}{k:Nat}{sp:Sp}(F:Fun K x qual st f fd)(S:aY N ps (aj st))(len:∀vs H Q E,sp vs H Q E->vs.length=ps.length)
  (hbody:∀(cdv:Value)(A:Around)(outer:List Env)(s:Shared)(H:Hp)(vs:List V)(Q:VK)(E:XK),jR k (A.deeper (envOfC qual (aj st) s.heap.objs.size f cdv))->sp vs H Q E ->
   ∃t,QB (JS CX0 P w K mg base N qual (aj st) f cdv A outer s H E).nox (fZ st) t/\t { nx:=fun _ H'=>Q .non H',rt:=Q } (L2.start N vs) H):dm P w K mg base CX0 (k+1) f fd ps sp:=
 F.ok S len fun cdv A outer s H vs Q E hr hsp=>by
  obtain⟨t,h,q⟩:=hbody cdv A outer s H vs Q E hr hsp;exact⟨t,h.h,q⟩
end
theorem Je:∀(ns:List Int),preSum (fun i=>(ns[i]?).getD 0) ns.length=ns.sum:=by
 have key:∀(f:Nat->Int)(n:Nat),preSum f (n+1)=preSum f n+f n:=fun f n=>rfl;have key2:∀(n:Nat)(f g:Nat->Int),(∀i,i<n->f i=g i)->preSum f n=preSum g n:=by
  intro n
  induction n with
  | zero=>intros;rfl
  | succ n ih=>intro f g h;rw[key,key,ih f g fun i hi=>h i (Nat.lt_succ_of_lt hi),h n (Nat.lt_succ_self n)]
 have key3:∀(n:Nat)(f:Nat->Int),preSum f (n+1)=f 0+preSum (fun i=>f (i+1)) n:=by
  intro n
  induction n with
  | zero=>intro f;show(0:Int)+f 0=f 0+0;omega
  | succ n ih=>intro f;rw[key,ih,key];omega
 intro ns
 induction ns with
 | nil=>rfl
 | cons a r ih=>
  rw[length_cons,key3,sum_cons,<- ih];rfl
def smq (o:Option HO)(H:Hp)(Q:VK):Prop:=match o with
 | some (.lst xs)=>∃ns:List Int,xs=ns.map V.int/\Q (.int ns.sum) H
 | _=>False
def Q6:List V->Hp->VK->Prop:=fun xs H Q=>match xs with
 | [.ref p]=>smq (H p) H Q
 | _=>False
theorem MP (p:Addr)(H:Hp)(Q:VK):Q6 [.ref p] H Q=smq (H p) H Q:=rfl
theorem Wh (xs:List V)(H:Hp)(Q:VK):smq (some (.lst xs)) H Q=∃ns:List Int,xs=ns.map V.int/\Q (.int ns.sum) H:=rfl
section
variable {X:Cx}
theorem Oo (hc:X.calm=true):dR X (.builtin "sum") Q6:=by
 intro pins s σ H xs us Q I r h;unfold Q6 at h;split at h
 ·rename_i p;unfold smq at h;split at h
  ·rename_i ys e;obtain⟨ns,rfl,q⟩:=h;cases r with
   | cons r rr=>
    cases rr;cases r;obtain⟨its,rv,pl,hz⟩:=I.list (SqL.of e);have hl:=rv.length;have lt:p<s.heap.objs.size:=by obtain⟨_,e,_⟩:=pl.isList;exact lt_size e
    refine call_sum_walkG (wpAny_pyIter_list pl.isList ?_);refine⟨s.heap.objs.size,[s.heap.objs.size,p],[s.heap.objs.size],its.toArray.size,_,_,fun i=>(ns[i]?).getD 0,rfl,Walks.list (A:=X.A.in1) (I.ok.hd hc) _ p (Nat.ne_of_lt lt) _,
     ⟨⟨_,get?_push_size _ rfl,rfl,rfl⟩,pl.isList.push _⟩,?_,fun i v hP=>?_,fun h' tk t' hk=>?_⟩
    ·intro b hb;rw[size_push];simp only[mem_cons,not_mem_nil,or_false] at hb;rcases hb with rfl|rfl
     ·exact Nat.lt_succ_self _
     ·exact Nat.lt_succ_of_lt lt
    ·have e1:its[i]?=some v:=by simpa using hP
     have hi:i<its.length:=by
      rcases Nat.lt_or_ge i its.length with z|z
      ·exact z
      ·rw[getElem?_eq_none z] at e1;cases e1
     have hi2:i<ns.length:=by rw[<- hl,length_map] at hi;exact hi
     obtain⟨u,hu,ru⟩:=rv.get (i:=i) (x:=.int ns[i]) (by rw[getElem?_map,getElem?_eq_getElem hi2];rfl);rw[e1] at hu;cases hu;obtain⟨t,rfl⟩:=ru;exact⟨t,by show _=Value.int ((ns[i]?).getD 0) t;rw[getElem?_eq_getElem hi2];rfl⟩
    ·have e2:its.toArray.size=ns.length:=by rw[size_toArray,<- hl,length_map]
     rw[e2,Je];refine⟨.int _,H,I.kept fun b o e=>hk b o (fun hm=>?_) (get?_push_of_some _ e),⟨t',rfl⟩,q⟩;rw[mem_singleton.mp hm] at e;exact Nat.lt_irrefl _ (lt_size e)
  ·exact h.elim
 ·exact h.elim
def Q5 (i:Int)(n:Nat):List V:=(List.range n).map fun k=>V.int (i+(k:Nat))
def PN (ta:TA):TE:=fun σ H Q=>ta σ H fun vs H1=>∃i j:Int,vs=[.int i,.int j]/\(-(2^62)<=i/\i<2^62/\-(2^62)<=j/\j<2^62)/\(j-i).toNat<=sizeLine/\∀p,H1 p=none->Q (.ref p) (upd H1 p (.lst (Q5 i (j-i).toNat)))
theorem Ka:∀{xs:List V}{us:List Value},xs.length=us.length->(∀(i:Nat) x u,xs[i]?=some x->us[i]?=some u->RelV x u)->Vals xs us
 | [],[],_,_=>.nil
 | [],_::_,h,_=>by cases h
 | _::_,[],h,_=>by cases h
 | x::xs,u::us,h,f=>.cons (f 0 x u rfl rfl) (Ka (by simpa using h) fun i y v h1 h2=>f (i+1) y v h1 h2)
theorem abg:sizeLine<=2^24:=by decide
theorem Xj {a b:Expr}{ta:TA}{p p2 pos pos2:Pos}(hc:X.calm=true) (hgl:Gl X "list") (hml:X.mg "list" = none) (hg:Gl X "range") (hm:X.mg "range" = none) (ha:PA X [a,b] ta)
  (hs:starEach [a,b] X.env=[(false,eval a X.env),(false,eval b X.env)]:=by rfl) (hs2:starEach [b] X.env=[(false,eval b X.env)]:=by rfl)
  (he:starEach [.Call (.Name "range" p2) [a,b] [] pos2] X.env=[(false,eval (.Call (.Name "range" p2) [a,b] [] pos2) X.env)]:=by rfl) :
  PE X (.Call (.Name "list" p) [.Call (.Name "range" p2) [a,b] [] pos2] [] pos) (PN ta):=by
 intro pins s σ H Q I h;refine wpAny_Call_Name_kw (lE I hgl hml boot_list ?_ δ δ);refine PyProof.Rows.callWith_type1 ?_ he rfl;rw[he];show wpAny _ _ (spliced ((false,eval (.Call (.Name "range" p2) [a,b] [] pos2) X.env)::[])) _ _ s;refine Calls.spliced_cons ?_;refine Call_ (lE I hg hm boot_range (PyProof.Rows.callWith_type1 (thA (ha pos2 pins s σ H _ I h) fun us s1 vs H1 I1 r1 q1=>?_) (by rw[hs,hs2]) (by rw[hs2];rfl)));obtain⟨i,j,e,⟨q1,q2,q3,q4⟩,hz,q⟩:=q1;subst e;cases r1 with
 | cons r rr=>
  cases rr with
  | cons r' rr=>
   cases rr;obtain⟨t,rfl⟩:=r;obtain⟨t',rfl⟩:=r';refine call_range_2 (Calls.spliced_nil ?_);refine call_list_range (n:=(j-i).toNat) (I1.ok.hd hc) (IsRange.new ..) (small_one q1 q2 q3 q4) (by rw[rangeSize_one];split <;> omega) (Nat.le_trans hz abg) fun h' tk acc' c' kp e it=>?_
   have I2:Inv X pins σ H1 { s1 with heap:=s1.heap.push { cls:=.type "range",data:=.fields #[.int i t,.int j t',.int 1 s1.toks] },toks:=s1.toks+1 }:=I1.kept fun b o e=>get?_push_of_some _ e;have hf:H1 (s1.heap.push { cls:=.type "range",data:=.fields #[.int i t,.int j t',.int 1 s1.toks] }).objs.size=none:=I2.hok.fresh (Nat.le_refl _);refine⟨.ref _,_,I2.laid (t':=tk) kp (Nat.le_refl _) (show cO X.prog X.w _ h' _ (.lst (Q5 i (j-i).toNat)) from⟨?_,acc'.toList,c',?_,by simpa using e⟩),rfl,q _ hf⟩
   ·simpa [Q5] using hz
   ·obtain⟨it1,it2⟩:=it;refine Ka (by simp [Q5,it1]) fun k x u h1 h2=>?_;have h2':acc'[k]?=some u:=by simpa using h2
    obtain⟨t9,rfl⟩:=it2 k u h2';unfold Q5 at h1;rw[getElem?_map] at h1;have hk:k<(j-i).toNat:=by
     rcases Nat.lt_or_ge k (j-i).toNat with z|z
     ·exact z
     ·rw[getElem?_eq_none (by simpa using z)] at h1;cases h1
    rw[List.getElem?_range hk] at h1;cases h1;exact⟨t9,by rw[Int.mul_one]⟩
theorem WT {a b:Expr}{ta:TA}{p p2 pos pos2:Pos}(hc:X.calm=true) (hgl:Gl X "list") (hml:X.mg "list" = none) (hg:Gl X "range") (hm:X.mg "range" = none) (ha:QA X [a,b] ta)
  (hs:starEach [a,b] X.env=[(false,eval a X.env),(false,eval b X.env)]:=by rfl) (hs2:starEach [b] X.env=[(false,eval b X.env)]:=by rfl)
  (he:starEach [.Call (.Name "range" p2) [a,b] [] pos2] X.env=[(false,eval (.Call (.Name "range" p2) [a,b] [] pos2) X.env)]:=by rfl) :
  QE X (.Call (.Name "list" p) [.Call (.Name "range" p2) [a,b] [] pos2] [] pos) (PN ta):=⟨Xj hc hgl hml hg hm ha.h hs hs2 he⟩
def adq (a b:Option HO)(H:Hp)(Q:VK):Prop:=match a,b with
 | some (.lst xs),some (.lst zs)=>xs.length+zs.length<=sizeLine/\∀p,H p=none->Q (.ref p) (upd H p (.lst (xs++zs)))
 | _,_=>False
def Gf:R2:=fun x y H Q=>match x,y with
 | .int i,.int j=>Q (.int (i+j)) H
 | .ref p,.ref q=>adq (H p) (H q) H Q
 | _,_=>False
theorem WL (i j:Int)(H:Hp)(Q:VK):Gf (.int i) (.int j) H Q=Q (.int (i+j)) H:=rfl
theorem WK (p q:Addr)(H:Hp)(Q:VK):Gf (.ref p) (.ref q) H Q=adq (H p) (H q) H Q:=rfl
theorem Eu (xs zs:List V)(H:Hp)(Q:VK):adq (some (.lst xs)) (some (.lst zs)) H Q=(xs.length+zs.length<=sizeLine/\∀p,H p=none->Q (.ref p) (upd H p (.lst (xs++zs)))):=rfl
theorem bA:OpR X (binaryOp .Add) Gf:=by
 intro pins s σ H x y v u Q I rx ry h;unfold Gf at h;split at h
 ·exact aaQ pins s σ H _ _ v u Q I rx ry ⟨_,_,rfl,rfl,h⟩
 ·rename_i p q;unfold adq at h;split at h
  ·rename_i xs zs e1 e2;exact aaP pins s σ H _ _ v u Q I rx ry ⟨p,q,xs,zs,rfl,rfl,e1,e2,h.1,h.2⟩
  ·exact h.elim
 ·exact h.elim
def eqL:List V->List V->Bool
 | [],[]=>true
 | x::xs,y::ys=>eqV x y&&eqL xs ys
 | _,_=>false
def XR (a b:Option HO)(H:Hp)(Q:VK):Prop:=match a,b with
 | some (.lst xs),some (.lst zs)=>xs.all iY=true/\zs.all iY=true/\Q (.bl (!eqL xs zs)) H
 | _,_=>False
def Jb:R2:=fun x y H Q=>match x,y with
 | .ref p,.ref q=>XR (H p) (H q) H Q
 | x,y=>rNe x y H Q
theorem aaj (p q:Addr)(H:Hp)(Q:VK):Jb (.ref p) (.ref q) H Q=XR (H p) (H q) H Q:=rfl
theorem aak (i j:Int)(H:Hp)(Q:VK):Jb (.int i) (.int j) H Q=rNe (.int i) (.int j) H Q:=rfl
theorem aal (i j:Bool)(H:Hp)(Q:VK):Jb (.bl i) (.bl j) H Q=rNe (.bl i) (.bl j) H Q:=rfl
theorem aai (i j:Str)(H:Hp)(Q:VK):Jb (.str i) (.str j) H Q=rNe (.str i) (.str j) H Q:=rfl
theorem XQ (xs zs:List V)(H:Hp)(Q:VK):XR (some (.lst xs)) (some (.lst zs)) H Q=(xs.all iY=true/\zs.all iY=true/\Q (.bl (!eqL xs zs)) H):=rfl
theorem Lj:∀(xs zs:List V),xs.length=zs.length->((List.range xs.length).all fun j=>match xs[j]?,zs[j]? with|some a,some b=>eqV a b|_,_=>true)=eqL xs zs
 | [],[],_=>rfl
 | [],_::_,h=>by cases h
 | _::_,[],h=>by cases h
 | x::xs,z::zs,h=>by
  have ih:=Lj xs zs (by simpa using h);rw[length_cons,List.range_succ_eq_map,all_cons,all_map];show(eqV x z&&_)=(eqV x z&&eqL xs zs);rw[<- ih];rfl
theorem Li:∀(xs zs:List V),xs.length≠zs.length->eqL xs zs=false
 | [],[],h=>absurd rfl h
 | [],_::_,_=>rfl
 | _::_,[],_=>rfl
 | x::xs,z::zs,h=>by
  show(eqV x z&&eqL xs zs)=false;rw[Li xs zs (by simpa using h),Bool.and_false]
theorem kj (hu:X.A.units<cLine):OpR X (compareOp .NotEq) Jb:=by
 intro pins s σ H x y v u Q I rx ry h;unfold Jb at h;split at h
 ·rename_i p q;unfold XR at h;split at h
  ·rename_i xs zs e1 e2;obtain⟨f1,f2,q⟩:=h;cases rx;cases ry;obtain⟨its1,r1,pl1,hz1⟩:=I.list (SqL.of e1);obtain⟨its2,r2,pl2,hz2⟩:=I.list (SqL.of e2);have l1:=r1.length;have l2:=r2.length;by_cases hl:xs.length=zs.length
   ·refine SeqAt.RcNeAt.lists (e:=fun j=>match xs[j]?,zs[j]? with|some a,some b=>eqV a b|_,_=>true) pl1.isList pl2.isList (by simp only[size_toArray];omega) hu (fun j h1 h2=>?_) X.prog X.w X.xe (EP X pins σ Q) ?_
    ·have j1:j<xs.length:=by simp only[size_toArray] at h1;omega
     have j2:j<zs.length:=ω;have g1:xs[j]?=some xs[j]:=getElem?_eq_getElem j1;have g2:zs[j]?=some zs[j]:=getElem?_eq_getElem j2;obtain⟨u1,hu1,ru1⟩:=r1.get g1;obtain⟨u2,hu2,ru2⟩:=r2.get g2;have k1:its1.toArray[j]=u1:=by
      have:=List.getElem?_eq_some_iff.mp hu1;obtain⟨_,z⟩:=this;simpa using z
     have k2:its2.toArray[j]=u2:=by
      have:=List.getElem?_eq_some_iff.mp hu2;obtain⟨_,z⟩:=this;simpa using z
     rw[k1,k2,g1,g2];exact U6 ru1 ru2 (all_eq_true.mp f1 _ (getElem_mem j1)) (all_eq_true.mp f2 _ (getElem_mem j2))
    ·rw[show its1.toArray.size=xs.length by simp only[size_toArray];omega,Lj xs zs hl];exact⟨.bl _,H,I,rfl,q⟩
   ·rw[Li xs zs hl] at q;refine SeqAt.RcNeAt.lists_lengths pl1.isList pl2.isList (by simp only[size_toArray,bne_iff_ne,ne_eq];omega) hu X.prog X.w X.xe (EP X pins σ Q) ⟨.bl _,H,I,rfl,q⟩
  ·exact h.elim
 ·exact ace pins s σ H _ _ v u Q I rx ry h
def inq (neg:Bool)(o:Option HO)(x:V)(H:Hp)(Q:VK):Prop:=match o with
 | some (.lst xs)=>iY x=true/\xs.all iY=true/\Q (.bl (if neg then !inV x xs else inV x xs)) H
 | some (.tup xs)=>iY x=true/\xs.all iY=true/\Q (.bl (if neg then !inV x xs else inV x xs)) H
 | _=>False
def aan (neg:Bool):R2:=fun x y H Q=>match y with
 | .ref p=>inq neg (H p) x H Q
 | _=>False
theorem aam (neg:Bool)(x:V)(p:Addr)(H:Hp)(Q:VK):aan neg x (.ref p) H Q=inq neg (H p) x H Q:=rfl
theorem acr (neg:Bool)(x:V)(xs:List V)(H:Hp)(Q:VK):inq neg (some (.lst xs)) x H Q=(iY x=true/\xs.all iY=true/\Q (.bl (if neg then !inV x xs else inV x xs)) H):=rfl
theorem abr {neg:Bool}{o:Option HO}{x:V}{H:Hp}{Q:VK}{p:Addr}{K:PySem.W.Frag}(e:H p=o)(h:inq neg o x H Q):rIn K neg x (.ref p) H Q:=by
 unfold inq at h;split at h
 ·rename_i xs;exact⟨p,xs,rfl,.inl (SqL.of e),h.1,h.2.1,h.2.2⟩
 ·rename_i xs;exact⟨p,xs,rfl,.inr (SqT.of e),h.1,h.2.1,h.2.2⟩
 ·exact h.elim
theorem Ng:OpR X (compareOp .NotIn) (aan true):=by
 intro pins s σ H x y v u Q I rx ry h;unfold aan at h;split at h
 ·exact Dv pins s σ H _ _ v u Q I rx ry (abr rfl h)
 ·exact h.elim
end
theorem Vw {α:Type}(a b:α):atI [a,b] (-1)=some b:=rfl
theorem Vv {α:Type}(a b c:α):atI [a,b,c] (-1)=some c:=rfl
theorem V2 {c:TT}{tb:TS}{D:Ends}{σ:St}{H:Hp}(W:Nat->St->Hp->Prop)(m:Nat)(h0:W m σ H)
  (h:∀m σ H,W m σ H->c σ H fun b H1=>if b=true then ∃N:St->Hp->Prop,(∀σ' H',N σ' H'->∃m',m'<m/\W m' σ' H')/\tb { D with nx:=N,ct:=N,bk:=D.nx } σ H1 else D.nx σ H1):Ih c tb D σ H:=⟨W,⟨m,h0⟩,h⟩
structure bO (H:Hp)(p:Addr)(B:Int):Prop where
 ex:∃a b c:Int,H p=some (.lst [.int a,.int b,.int c])/\0<=a/\0<=b/\b<2147483629/\0<=c/\c<=B
theorem bO.same {H H':Hp}{p:Addr}{B:Int}(h:bO H p B)(s:Same H H'):bO H' p B:=by
 obtain⟨a,b,c,e,r⟩:=h;exact⟨a,b,c,s _ _ e,r⟩
theorem bO.le {H:Hp}{p:Addr}{B B':Int}(h:bO H p B)(l:B<=B'):bO H p B':=by
 obtain⟨a,b,c,e,r1,r2,r3,r4,r5⟩:=h;exact⟨a,b,c,e,r1,r2,r3,r4,ω⟩
theorem bO.ne {H:Hp}{p q:Addr}{B:Int}(h:bO H p B)(n:H q=none):q≠p:=by
 obtain⟨a,b,c,e,_⟩:=h;exact(aF e n).symm
theorem bO.net {H:Hp}{p q:Addr}{B:Int}{xs:List V}(h:bO H p B)(n:H q=some (.tup xs)):q≠p:=by
 obtain⟨a,b,c,e,_⟩:=h;intro z;rw[z,e] at n;cases n
theorem two_pow_pos (k:Nat):(0:Int)<2^k:=Int.pow_pos δ
def Qv (K:PySem.W.Frag):Sp:=fun vs H Q _=>∃(a:Addr)(ns:List Int)(k:Int),vs=[.ref a,.int k]/\SqL K H a (ns.map V.int)/\0<=k/\∀v:Int,Q (.int v) H
def Qm (K:PySem.W.Frag):Sp:=fun vs H Q _=>∃(a:Addr)(ns:List Int)(k:Int),vs=[.ref a,.int k]/\SqL K H a (ns.map V.int)/\0<=k/\k<=100/\∀p H',H p=none->Same H H'->bO H' p 0->Q (.ref p) H'
def gM (n:Nat):Sp:=fun vs H Q _=>∃(p:Addr)(m B:Int),vs=[.ref p,.int m]/\bO H p B/\B+(n:Int)<=1000100/\0<m/\m<2^70/\1<=n/\(1000000<=m->2<=n) /\
 ∀r H',0<=r->r<m->dZ p H H'->bO H' p (B+n)->Q (.int r) H'
theorem aaA (c:Int):∃v:Int,atI [V.int 2147483587,V.int 2147483579,V.int 2147483563,V.int 2147483549,V.int 2147483543,V.int 2147483497,V.int 2147483489] (c%7)=some (.int v)/\0<v:=by
 have h1:0<=c%7:=Int.emod_nonneg _ δ;have h2:c%7<7:=Int.emod_lt_of_pos _ δ;generalize c%7=d at h1 h2;have h3:d=0\/d=1\/d=2\/d=3\/d=4\/d=5\/d=6:=ω;rcases h3 with rfl|rfl|rfl|rfl|rfl|rfl|rfl
 ·exact⟨_,gJ (j:=0) rfl,δ⟩
 ·exact⟨_,gJ (j:=1) rfl,δ⟩
 ·exact⟨_,gJ (j:=2) rfl,δ⟩
 ·exact⟨_,gJ (j:=3) rfl,δ⟩
 ·exact⟨_,gJ (j:=4) rfl,δ⟩
 ·exact⟨_,gJ (j:=5) rfl,δ⟩
 ·exact⟨_,gJ (j:=6) rfl,δ⟩
def Br:Sp:=fun vs H Q _=>∃n w,vs=[.int n,.int w]/\1<=w/\w<=40/\Q (.int (n%2^w.toNat)) H
def wl (w s:Int):Int:=0-2^(w-1).toNat*s
theorem mZ {w:Int}(h:1<=w):(2:Int)^w.toNat=2*2^(w-1).toNat:=by
 have e:w.toNat=(w-1).toNat+1:=ω;rw[e,Int.pow_succ];omega
theorem jj {w s:Int}(h1:1<=w)(h2:w<=40)(hs:s=0\/s=1):-1099511627776<=wl w s/\wl w s<=0/\0<wl w s+2^w.toNat/\wl w s+2^w.toNat<=1099511627776:=by
 have e:=mZ h1;have p:=two_pow_pos (w-1).toNat;have q:=g8 (k:=w.toNat) ω;unfold wl;rcases hs with rfl|rfl
 ·simp only[Int.mul_zero,Int.sub_zero,Int.zero_add];omega
 ·simp only[Int.mul_one];omega
def oX:Sp:=fun vs H Q _=>∃w s,vs=[.int w,.int s]/\1<=w/\w<=40/\(s=0\/s=1)/\Q (.int (wl w s)) H
def Qs:Sp:=fun vs H Q _=>∃(p:Addr)(B:Int),vs=[.ref p]/\bO H p B/\0<=B/\B<=1000050 /\
 ∀(w s:Int)(t:Addr) H',1<=w->w<=40->(s=0\/s=1)->dZ p H H'->bO H' p (B+10)->H' t=some (.tup [.int w,.int s])->Q (.ref t) H'
def Zv:Sp:=fun vs H Q _=>∃(p:Addr)(w s o B:Int),vs=[.ref p,.int w,.int s,.int o]/\bO H p B/\0<=B/\B<=1000050/\1<=w/\w<=40/\(s=0\/s=1) /\
 ∀(r:Int) H',wl w s<=r->r<wl w s+2^w.toNat->dZ p H H'->bO H' p (B+10)->Q (.int r) H'
theorem abH (X k:Nat):((X:Int)/2^k)%2=if X.testBit k then 1 else 0:=by
 have e:(X:Int)/2^k%2=((X/2^k%2:Nat):Int):=by
  rw[Int.natCast_emod,Int.natCast_ediv,Int.natCast_pow];rfl
 rw[e,Nat.testBit_eq_decide_div_mod_eq];have:=Nat.mod_lt (X/2^k) (show 0<2 by decide);by_cases h:X/2^k%2=1
 ·simp [h]
 ·have h0:X/2^k%2=0:=ω;simp [h0]
theorem Zh (y:Int):Builtin.bitAnd y 1=y%2:=by
 have:=PySem.W.kbt_mask y 1;simpa using this
theorem Dd (X k:Nat):Builtin.bitAnd ((X:Int)/2^k) 1=if X.testBit k then 1 else 0:=by
 rw[Zh,abH]
theorem gW (a b:Nat):Builtin.bitAnd (a:Int) (b:Int)=((a &&& b:Nat):Int):=by
 unfold Builtin.bitAnd;simp
def isFree (m k:Nat):Bool:=!m.testBit k&&(List.range k).any fun j=>m.testBit j
def frees (n m:Nat):List Nat:=(List.range n).filter (isFree m)
def unset (n b m:Nat):Nat:=((List.range n).filter fun k=>decide (b<=k) && !m.testBit k).length
theorem mK {α:Type}(p q:α->Bool):∀l:List α,(∀x∈l,p x=true->q x=true)->(l.filter p).length<=(l.filter q).length
 | [],_=>Nat.le_refl _
 | x::l,h=>by
  have ih:=mK p q l fun y hy=>h y (mem_cons_of_mem _ hy);have hx:=h x mem_cons_self;rw[filter_cons,filter_cons];cases hp:p x with
  | true=>
   rw[hx hp];simp only[if_true,length_cons];omega
  | false=>
   simp only[Bool.false_eq_true,if_false];split
   ·rw[length_cons];omega
   ·exact ih
theorem Ux {n b m:Nat}(h:∀k,k<b->m.testBit k=false):(frees n m).length<=unset n b m:=by
 refine mK _ _ _ fun k hk hf=>?_;unfold isFree at hf;rw[Bool.and_eq_true,any_eq_true] at hf;obtain⟨h1,j,hj,hb⟩:=hf;have hj':=mem_range.mp hj;have:b<=j:=by
  rcases Nat.lt_or_ge j b with z|z
  ·rw[h j z] at hb;cases hb
  ·exact z
 rw[h1,Bool.and_true];exact decide_eq_true ω
theorem Pb (n b m:Nat):unset n b m<=n-b:=by
 have key:∀n,((List.range n).filter fun k=>decide (b<=k)).length<=n-b:=by
  intro n
  induction n with
  | zero=>exact Nat.zero_le _
  | succ n ih=>
   rw[range_succ,filter_append,length_append];by_cases h:b<=n
   ·simp only[filter_cons,h,decide_true,if_true,filter_nil,length_singleton];omega
   ·simp only[filter_cons,h,decide_false,Bool.false_eq_true,if_false,filter_nil,length_nil];omega
 refine Nat.le_trans (mK _ _ _ fun k hk hf=>?_) (key n);rw[Bool.and_eq_true] at hf;exact hf.1
theorem xT {n b m:Nat}(h:∀k,b<=k->k<n->m.testBit k=true):unset n b m=0:=by
 unfold unset;rw[length_eq_zero_iff,filter_eq_nil_iff];intro k hk;have hk':=mem_range.mp hk;by_cases hb:b<=k
 ·simp [h k hb hk']
 ·simp [hb]
theorem HS {n b m m' j:Nat}(h:∀k,m'.testBit k=(m.testBit k && !decide (k=j))):unset n b m'<=unset n b m+1:=by
 unfold unset
 induction n with
 | zero=>exact Nat.zero_le _
 | succ n ih=>
  have one:∀(p:Nat->Bool),((List.range (n+1)).filter p).length=((List.range n).filter p).length+if p n then 1 else 0:=by
   intro p;rw[range_succ,filter_append,length_append];cases hp:p n <;> simp [hp]
  rw[one,one];by_cases hj:n=j
  ·subst hj;have same:((List.range n).filter fun k=>decide (b<=k) && !m'.testBit k).length=((List.range n).filter fun k=>decide (b<=k) && !m.testBit k).length:=by
    have:(List.range n).filter (fun k=>decide (b<=k) && !m'.testBit k)=(List.range n).filter fun k=>decide (b<=k) && !m.testBit k:=by
     refine filter_congr fun k hk=>?_;have hk':=mem_range.mp hk;rw[h k];have:decide (k=n)=false:=decide_eq_false ω;rw[this,Bool.not_false,Bool.and_true]
    rw[this]
   rw[same];split <;> split <;> omega
  ·rw[h n];have:decide (n=j)=false:=decide_eq_false hj;rw[this,Bool.not_false,Bool.and_true];omega
theorem tQ {m j:Nat}(h:m.testBit j=true):∀k,(m-2^j).testBit k=(m.testBit k && !decide (k=j)):=by
 intro k;have p:0<2^j:=Nat.pow_pos δ;have hd:m/2^j%2=1:=by
  rw[Nat.testBit_eq_decide_div_mod_eq] at h;exact of_decide_eq_true h
 -- m=2^j*(2*a+1)+lo
 have e0:=Nat.div_add_mod m (2^j);have e1:m/2^j=2*(m/2^j/2)+1:=ω;generalize m/2^j/2=a at e1;have lo:=Nat.mod_lt m p;generalize m%2^j=l at e0 lo;rw[e1] at e0;have e2:m-2^j=2^j*(2*a)+l:=by
  rw[<- e0,Nat.mul_add,Nat.mul_one];omega
 rw[e2,<- e0,Nat.testBit_two_pow_mul_add _ lo,Nat.testBit_two_pow_mul_add _ lo];by_cases hk:k<j
 ·have:decide (k=j)=false:=decide_eq_false ω;rw[if_pos hk,if_pos hk,this,Bool.not_false,Bool.and_true]
 ·rw[if_neg hk,if_neg hk];by_cases hkj:k=j
  ·subst hkj;simp
  ·have:decide (k=j)=false:=decide_eq_false hkj;rw[this,Bool.not_false,Bool.and_true];obtain⟨d,hd⟩:∃d,k-j=d+1:=⟨k-j-1,ω⟩;rw[hd,Nat.testBit_succ,Nat.testBit_succ];congr 1;omega
theorem Zg (m j:Nat):m &&& 2^j=if m.testBit j then 2^j else 0:=by
 refine Nat.eq_of_testBit_eq fun k=>?_;rw[Nat.testBit_and,Nat.testBit_two_pow];by_cases hk:j=k
 ·subst hk;cases h:m.testBit j
  ·simp
  ·simp [Nat.testBit_two_pow]
 ·have:decide (j=k)=false:=decide_eq_false hk;rw[this,Bool.and_false];split
  ·rw[Nat.testBit_two_pow,this]
  ·rw[Nat.zero_testBit]
theorem Tw (m j:Nat):∃m':Nat,(m:Int)-Builtin.bitAnd (m:Int) ((2:Int)^j)=(m':Int)/\m'<=m/\∀k,m'.testBit k=(m.testBit k && !decide (k=j)):=by
 have e:((2:Int)^j)=((2^j:Nat):Int):=by simp
 rw[e,gW,Zg];cases h:m.testBit j with
 | true=>
  have hle:2^j<=m:=Nat.ge_two_pow_of_testBit h;refine⟨m-2^j,?_,Nat.sub_le _ _,tQ h⟩;simp only[if_true];omega
 | false=>
  refine⟨m,by simp,Nat.le_refl _,fun k=>?_⟩;by_cases hk:k=j
  ·subst hk;simp [h]
  ·simp [hk]
def xr (W b m i:Nat):Prop:=m<2^W/\(∀k,k<b->m.testBit k=false)/\unset W b m<=i
theorem xr.frees {W b m i:Nat}(h:xr W b m i):(frees W m).length<=i:=Nat.le_trans (Ux h.2.1) h.2.2
theorem lM (k:Nat):(2:Int)^k=((2^k:Nat):Int):=by simp
theorem TV {n k:Nat}(h:(n:Int)<2^k):n<2^k:=by
 rw[lM] at h;omega
theorem aa5 {W T:Nat}(h:T<=W):∃m:Nat,((2:Int)^T-1)*2^(W-T)=(m:Int)/\xr W (W-T) m 0:=by
 have p:=Nat.pow_pos (n:=T) (show 0<2 by decide);have tb:∀k,((2^T-1)*2^(W-T)).testBit k=(decide (W-T<=k)&&decide (k-(W-T)<T)):=fun k=>by
  rw[Nat.testBit_mul_two_pow,Nat.testBit_two_pow_sub_one]
 refine⟨(2^T-1)*2^(W-T),?_,?_,fun k hk=>?_,?_⟩
 ·rw[lM,lM,Int.natCast_mul,Int.natCast_sub p];rfl
 ·have e:2^W=2^T*2^(W-T):=by rw[<- Nat.pow_add,Nat.add_sub_cancel' h]
  rw[e];exact Nat.mul_lt_mul_of_pos_right ω (Nat.pow_pos δ)
 ·rw[tb,decide_eq_false ω,Bool.false_and]
 ·rw[xT fun k h1 h2=>by rw[tb,decide_eq_true h1,decide_eq_true (show k-(W-T)<T by omega)];rfl];exact Nat.le_refl _
theorem aa7 (W:Nat):∃m:Nat,(2:Int)^W-1=(m:Int)/\xr W 0 m 0:=by
 have p:=Nat.pow_pos (n:=W) (show 0<2 by decide);refine⟨2^W-1,?_,ω,fun k hk=>ω,?_⟩
 ·rw[lM];omega
 ·rw[xT fun k h1 h2=>by rw[Nat.testBit_two_pow_sub_one,decide_eq_true h2]];exact Nat.le_refl _
theorem X3 {W r:Nat}(h:4<=W)(hr:r<16):∃m:Nat,(r:Int)*2^(W-4)=(m:Int)/\xr W (W-4) m 4:=by
 refine⟨r*2^(W-4),?_,?_,fun k hk=>?_,?_⟩
 ·rw[lM,Int.natCast_mul]
 ·have e:2^W=16*2^(W-4):=by rw[show 16=2^4 from rfl,<- Nat.pow_add,Nat.add_sub_cancel' h]
  rw[e];exact Nat.mul_lt_mul_of_pos_right hr (Nat.pow_pos δ)
 ·rw[Nat.testBit_mul_two_pow,decide_eq_false ω,Bool.false_and]
 ·have:=Pb W (W-4) (r*2^(W-4));omega
theorem aa6 {W b m i:Nat}(h:xr W b m i)(j:Nat):∃m':Nat,(m:Int)-Builtin.bitAnd (m:Int) ((2:Int)^j)=(m':Int)/\xr W b m' (i+1):=by
 obtain⟨m',e,l,tb⟩:=Tw m j;refine⟨m',e,Nat.lt_of_le_of_lt l h.1,fun k hk=>?_,?_⟩
 ·rw[tb,h.2.1 k hk,Bool.false_and]
 ·exact Nat.le_trans (HS tb) (Nat.succ_le_succ h.2.2)
theorem xr.le {W b m i j:Nat}(h:xr W b m i)(l:i<=j):xr W b m j:=⟨h.1,h.2.1,Nat.le_trans h.2.2 l⟩
inductive It1 where
 | one (a:Int)
 | rng (a b:Int)
 | bits (m v:Nat)
def itV:It1->List V
 | .one a=>[.str "is",.int a]
 | .rng a b=>[.str "from",.int a,.int b]
 | .bits m v=>[.str "bits",.int m,.int v]
theorem Yn (a:Int):itV (.one a)=[.str "is",.int a]:=rfl
theorem Ym (a b:Int):itV (.rng a b)=[.str "from",.int a,.int b]:=rfl
theorem Ue (m v:Nat):itV (.bits m v)=[.str "bits",.int m,.int v]:=rfl
structure qK (H:Hp)(t:Addr)(it:It1):Prop where
 h:H t=some (.tup (itV it))
def bZ (w s a:Int):Prop:=wl w s<=a/\a<wl w s+2^w.toNat
def It1.Ok (w s:Int):It1->Prop
 | .one a=>bZ w s a
 | .rng a b=>bZ w s a/\bZ w s b/\a<=b
 | .bits m v=>m<2^w.toNat/\v<2^w.toNat/\(9<=w->(frees w.toNat m).length<=4)
def aN (w:Int)(n:Int):It1->Bool
 | .one a=>decide (n=a)
 | .rng a b=>decide (a<=n)&&decide (n<=b)
 | .bits m v=>decide ((n%2^w.toNat).toNat &&& m=v)
def tU:Sp:=fun vs H Q _=>∃(w n:Int)(t:Addr)(it:It1),vs=[.int w,.ref t,.int n]/\1<=w/\w<=40/\qK H t it/\Q (.bl (aN w n it)) H
def Qp:Sp:=fun vs H Q _=>∃(p:Addr)(w B:Int),vs=[.ref p,.int w]/\bO H p B/\0<=B/\B<=1000050/\1<=w/\w<=40 /\
 ∀(m:Nat) H',m<2^w.toNat->(9<=w->(frees w.toNat m).length<=4)->dZ p H H'->bO H' p (B+20)->Q (.int m) H'
def Qt:Sp:=fun vs H Q _=>∃(p:Addr)(w s o B:Int),vs=[.ref p,.int w,.int s,.int o]/\bO H p B/\0<=B/\B<=1000000/\1<=w/\w<=40/\(s=0\/s=1) /\
 ∀(it:It1)(t:Addr) H',It1.Ok w s it->dZ p H H'->bO H' p (B+60)->qK H' t it->Q (.ref t) H'
def Qu:Sp:=fun vs H Q _=>∃(w:Int)(m:Nat),vs=[.int w,.int m]/\1<=w/\w<=40/\m<2^w.toNat /\
 ∀(p:Addr) H',H' p=some (.lst ((frees w.toNat m).map fun k=>V.int (k:Nat)))->Same H H'->Q (.ref p) H'
theorem aaq (n w:Int):(((n%2^w.toNat).toNat:Nat):Int)=n%2^w.toNat:=by
 have:=Int.emod_nonneg n (Int.ne_of_gt (two_pow_pos w.toNat));omega
theorem yh (w n:Int)(m v:Nat):decide (Builtin.bitAnd (n%2^w.toNat) (m:Int)=(v:Int))=aN w n (.bits m v):=by
 unfold aN;rw[<- aaq n w,gW];simp only[decide_eq_decide,Int.ofNat_inj,Int.toNat_natCast]
section
variable {mp:List (Option Nat)}{g:TG}{tc:TT}{te:TE}{σ:St}{H:Hp}{Q:VK}{R:It->Hp->Prop}{K:PySem.W.Frag}
theorem Ve {lo:Int}{n:Nat}(hR:R=Bk mp g tc te σ Q)(hz:n<=sizeLine)(Pv:Nat->List V->St->Hp->Prop)(h0:Pv 0 [] (jh mp σ) H)(hl:∀i acc τ H,Pv i acc τ H->acc.length<=i)
  (hs:∀i acc τ H,i<n->Pv i acc τ H->g (.int (lo+i)) τ H fun τ1 H4=>tc τ1 H4 fun b H5=>if b=true then te τ1 H5 fun v H6=>Pv (i+1) (acc++[v]) τ1 H6 else Pv (i+1) acc τ1 H5)
  (hd:∀acc τ H d,Pv n acc τ H->H d=none->Q (.ref d) (upd H d (.lst acc))):R (Itr lo n) H:=by
 refine qX hR n hz Pv h0 hl (fun i acc τ H hi _=>hi) (fun acc τ H _=>Nat.le_refl n) (fun i acc τ H x H3 hi p y=>?_) hd;obtain⟨rfl,rfl⟩:=y;exact hs i acc τ _ hi p
theorem lK {a:Addr}{xs:List V}(hR:R=Bk mp g tc te σ Q)(hz:xs.length<=sizeLine)(Pv:Nat->List V->St->Hp->Prop)(h0:Pv 0 [] (jh mp σ) H)(hl:∀i acc τ H,Pv i acc τ H->acc.length<=i)
  (hq:∀i acc τ H,Pv i acc τ H->SqL K H a xs)
  (hs:∀i x acc τ H,xs[i]?=some x->Pv i acc τ H->g x τ H fun τ1 H4=>tc τ1 H4 fun b H5=>if b=true then te τ1 H5 fun v H6=>Pv (i+1) (acc++[v]) τ1 H6 else Pv (i+1) acc τ1 H5)
  (hd:∀acc τ H d,Pv xs.length acc τ H->H d=none->Q (.ref d) (upd H d (.lst acc))):R (Itl K a) H:=by
 refine qX hR xs.length hz Pv h0 hl (fun i acc τ H hi p=>⟨xs,xs[i],hq i acc τ H p,getElem?_eq_getElem hi⟩) (fun acc τ H p=>⟨xs,hq _ acc τ H p,Nat.le_refl _⟩) (fun i acc τ H x H3 hi p y=>?_) hd;obtain⟨rfl,hx⟩:=y;exact hs i x acc τ _ (hx xs (hq i acc τ _ p)) p
theorem Vf {a:Addr}{xs:List V}(hR:R=Bk mp g tc te σ Q)(hz:xs.length<=sizeLine)(Pv:Nat->List V->St->Hp->Prop)(h0:Pv 0 [] (jh mp σ) H)(hl:∀i acc τ H,Pv i acc τ H->acc.length<=i)
  (hq:∀i acc τ H,Pv i acc τ H->SqL K H a xs)
  (hs:∀(i:Nat) x acc τ H p,xs[i]?=some x->Pv i acc τ H->H p=none->g (.ref p) τ (upd H p (.tup [.int (i:Nat),x])) fun τ1 H4=>tc τ1 H4 fun b H5=>if b=true then te τ1 H5 fun v H6=>Pv (i+1) (acc++[v]) τ1 H6 else Pv (i+1) acc τ1 H5)
  (hd:∀acc τ H d,Pv xs.length acc τ H->H d=none->Q (.ref d) (upd H d (.lst acc))):R (Ite K a) H:=by
 refine qX hR xs.length hz Pv h0 hl (fun i acc τ H hi p=>⟨xs,xs[i],hq i acc τ H p,getElem?_eq_getElem hi⟩) (fun acc τ H p=>⟨xs,hq _ acc τ H p,getElem?_eq_none (Nat.le_refl _)⟩) (fun i acc τ H x H3 hi p y=>?_) hd;obtain⟨q,x1,rfl,hq1,rfl,hx⟩:=y;exact hs i x1 acc τ _ q (hx xs (hq i acc τ _ p)) p hq1
end
def dh (l:List Nat):List V:=l.map fun k=>V.int (k:Nat)
def places (n m:Nat):List Nat:=(List.range n).filter m.testBit
theorem Bw (l:List Nat)(k:Nat):dh (l++[k])=dh l++[.int (k:Nat)]:=by simp [dh]
theorem eG (l:List Nat):(dh l).length=l.length:=by simp [dh]
theorem Bx (l:List Nat):(dh l).all iY=true:=by
 rw[all_eq_true];intro x hx;obtain⟨k,_,rfl⟩:=mem_map.mp hx;rfl
theorem lZ (p:Nat->Bool)(i:Nat):(List.range (i+1)).filter p=(List.range i).filter p++if p i then [i] else []:=by
 rw[range_succ,filter_append];congr 1;cases h:p i <;> simp [h]
theorem m9 (p:Nat->Bool)(i:Nat):((List.range i).filter p).length<=i:=by
 have:=length_filter_le p (List.range i);simpa using this
theorem Yv (k:Nat)(l:List Nat):inV (.int (k:Nat)) (dh l)=l.contains k:=by
 unfold inV dh;rw[any_map]
 induction l with
 | nil=>rfl
 | cons a r ih=>
  rw[any_cons,List.contains_cons,ih];congr 1;show((a:Int) == (k:Int))=(k == a);rw[Bool.eq_iff_iff,beq_iff_eq,beq_iff_eq];omega
theorem abz (x:V)(xs:List V):eqL (x::xs) []=false:=rfl
theorem Oh {n m k:Nat}(h:places n m=[])(hk:k<n):isFree m k=false:=by
 unfold isFree;rw[Bool.and_eq_false_iff];refine .inr ?_;rw[List.any_eq_false];intro j hj;have hj':=mem_range.mp hj;unfold places at h;rw[filter_eq_nil_iff] at h;exact h j (mem_range.mpr ω)
theorem Og {n m k a:Nat}{r:List Nat}(h:places n m=a::r)(hk:k<n):isFree m k=(decide (a<k) && !(a::r).contains k):=by
 have ha:a∈places n m:=by rw[h];exact mem_cons_self
 have ha2:=(mem_filter.mp ha).2;have mn:∀j,j<n->m.testBit j=true->a<=j:=by
  intro j hj hb;have hm:j∈places n m:=mem_filter.mpr ⟨mem_range.mpr hj,hb⟩;have pw:(places n m).Pairwise (· < ·):=List.Pairwise.filter _ pairwise_lt_range;rw[h] at pw hm;rcases mem_cons.mp hm with rfl|hm
  ·exact Nat.le_refl _
  ·exact Nat.le_of_lt ((pairwise_cons.mp pw).1 j hm)
 have e1:((List.range k).any fun j=>m.testBit j)=decide (a<k):=by
  rw[Bool.eq_iff_iff,any_eq_true,decide_eq_true_eq];constructor
  ·intro⟨j,hj,hb⟩;have hj':=mem_range.mp hj;have:=mn j ω hb;omega
  ·intro h1;exact⟨a,mem_range.mpr h1,ha2⟩
 have e2:(a::r).contains k=m.testBit k:=by
  rw[<- h,Bool.eq_iff_iff,List.contains_iff_mem];unfold places;rw[mem_filter];exact⟨fun z=>z.2,fun z=>⟨mem_range.mpr hk,z⟩⟩
 unfold isFree;rw[e1,e2,Bool.and_comm]
theorem Uw {n m k:Nat}(h:k∈frees n m):k<n:=mem_range.mp (mem_filter.mp h).1
section
variable {X:Cx}{pos:Pos}
def PJ (i j k:Nat)(ta:TA):TS:=fun D σ H=>ta σ H fun vs H1=>∃u v w,vs=[u,v,w]/\D.nx (((σ.set i (some u)).set j (some v)).set k (some w)) H1
theorem W8 {i j k:Nat}{x y z:Str}{a b c:Expr}{ta:TA}{px py pz pt:Pos}{kt k2 pt2}(hc:X.calm=true)(hN:X.N.Nodup)(hi:X.N[i]?=some x)(hj:X.N[j]?=some y)(hk:X.N[k]?=some z)(hij:i≠j)(hik:i≠k)(hjk:j≠k)
  (hx:X.env.scope.names.lookup x=some .local) (hy:X.env.scope.names.lookup y=some .local) (hz:X.env.scope.names.lookup z=some .local) (ha:PA X [a,b,c] ta)
  (hw:swappedStores [.Tuple [.Name x px,.Name y py,.Name z pz] kt pt] (.Tuple [a,b,c] k2 pt2) X.env=pure (some [x,y,z]))
  (hs:swapsWithSole [.Tuple [.Name x px,.Name y py,.Name z pz] kt pt] (.Tuple [a,b,c] k2 pt2) pos.line X.env=pure false:=by rfl) :
  PS X (.Assign [.Tuple [.Name x px,.Name y py,.Name z pz] kt pt] (.Tuple [a,b,c] k2 pt2) pos) (PJ i j k ta):=by
 intro pins s σ H D I h;rw[exec_Assign_arm];refine wpAny_bind (wpAny_standAt ?_);rw[hs];refine wpAny_bind (wpAny_pure ?_);rw[if_neg δ];refine wpAny_bind (Tuple_ (thA (ha _ pins s σ H _ I h) fun us s1 vs H1 I1 r1 q1=>?_));obtain⟨u,v,w,e1,q1⟩:=q1;subst e1;obtain⟨u1,u2,u3,rfl,ru,rv,rw'⟩:∃u1 u2 u3,us=[u1,u2,u3]/\RelV u u1/\RelV v u2/\RelV w u3:=by
  cases r1 with
  | cons p q=>
   cases q with
   | cons p' q'=>
    cases q' with
    | cons p'' q''=>
     cases q'';exact⟨_,_,_,rfl,p,p',p''⟩
 refine wpAny_newObj_type ?_ (by show 3<=sizeLine;decide);have I2:Inv X pins σ H1 { s1 with heap:=s1.heap.push { cls:=.type "tuple",data:=.seq [u1,u2,u3].toArray } }:=I1.kept (t':=s1.toks) fun b o e=>get?_push_of_some _ e;rw[hw];refine wpAny_bind (wpAny_pure ?_);show wpAny (model X.prog X.w) X.A (do rule "assign.swapped-stores";let items <- unpackItems (.ref s1.heap.objs.size) 3 none;assignInOrder [fun v=>bindName X.env z v,fun v=>bindName X.env y v,fun v=>bindName X.env x v] items.reverse;pure Flow.next) _ _ _;refine wpAny_bind (wpAny_rule (wpAny_bind (unpackItems_tuple (items:=#[u1,u2,u3]) (I.ok.hd hc) (IsTup.new s1.heap _) fun h' hx'=>?_)));have I3:=I2.kept (h':=h') (t':=s1.toks) fun b o e=>hx' b o (Nat.ne_of_lt (lt_size e)) e;show wpAny _ _ (assignInOrder [fun v=>bindName X.env z v,fun v=>bindName X.env y v,fun v=>bindName X.env x v] [u3,u2,u1] >>= fun _=>pure Flow.next) _ _ _;refine wpAny_bind (assignInOrder_cons (wpAny_bindName (j8 I3 hN hk (.inl hz) rw' (fun s2 I4=>?_) (.inr hz))));refine assignInOrder_cons (wpAny_bindName (j8 I4 hN hj (.inl hy) rv (fun s3 I5=>?_) (.inr hy)));refine assignInOrder_cons (wpAny_bindName (j8 I5 hN hi (.inl hx) ru (fun s4 I6=>?_) (.inr hx)));refine assignInOrder_nil (wpAny_pure ⟨_,H1,?_,q1⟩);have e:((σ.set k (some w)).set j (some v)).set i (some u)=((σ.set i (some u)).set j (some v)).set k (some w):=by
  rw[set_comm (some v) (some u) (Ne.symm hij),set_comm (some w) (some u) (Ne.symm hik),set_comm (some w) (some v) (Ne.symm hjk)]
 rw[<- e];exact I6
theorem Kz {i j k:Nat}{x y z:Str}{a b c:Expr}{ta:TA}{px py pz pt:Pos}{kt k2 pt2}(hc:X.calm=true)(hN:X.N.Nodup)(hi:X.N[i]?=some x)(hj:X.N[j]?=some y)(hk:X.N[k]?=some z)(hij:i≠j)(hik:i≠k)(hjk:j≠k)
  (hx:X.env.scope.names.lookup x=some .local) (hy:X.env.scope.names.lookup y=some .local) (hz:X.env.scope.names.lookup z=some .local) (ha:QA X [a,b,c] ta)
  (hw:swappedStores [.Tuple [.Name x px,.Name y py,.Name z pz] kt pt] (.Tuple [a,b,c] k2 pt2) X.env=pure (some [x,y,z]))
  (hs:swapsWithSole [.Tuple [.Name x px,.Name y py,.Name z pz] kt pt] (.Tuple [a,b,c] k2 pt2) pos.line X.env=pure false:=by rfl) :
  QS X (.Assign [.Tuple [.Name x px,.Name y py,.Name z pz] kt pt] (.Tuple [a,b,c] k2 pt2) pos) (PJ i j k ta):=⟨W8 hc hN hi hj hk hij hik hjk hx hy hz ha.h hw hs⟩
end
theorem YF (g:TG)(gs:TGs)(x:V)(xs:List V)(σ:St)(H:Hp)(Q:St->Hp->Prop):Uu g gs (x::xs) σ H Q=g x σ H fun σ1 H1=>gs xs σ1 H1 Q:=
 propext ⟨fun⟨_,_,e,h⟩=>by cases e;exact h,fun h=>⟨x,xs,rfl,h⟩⟩
theorem abu (σ:St)(H:Hp)(Q:St->Hp->Prop):abv [] σ H Q=Q σ H:=propext ⟨fun h=>h.2,fun h=>⟨rfl,h⟩⟩
theorem U3 {a b:Int}{P:Int->Int->Prop}:(∃v w,(a=v/\b=w)/\P v w)=P a b:=propext ⟨fun⟨_,_,⟨h1,h2⟩,h⟩=>h1 ▸ h2 ▸ h,fun h=>⟨a,b,⟨rfl,rfl⟩,h⟩⟩
theorem YH {a b c:V}{P:V->V->V->Prop}:(∃u v w,(a=u/\b=v/\c=w)/\P u v w)=P a b c:=propext ⟨fun⟨_,_,_,⟨h1,h2,h3⟩,h⟩=>h1 ▸ h2 ▸ h3 ▸ h,fun h=>⟨a,b,c,⟨rfl,rfl,rfl⟩,h⟩⟩
theorem Im:((("from" : Str):Str)=("is" : Str))=False:=eq_false ψ
theorem Io:(("bits" : Str)=("is" : Str))=False:=eq_false ψ
theorem CV:(("bits" : Str)=("from" : Str))=False:=eq_false ψ
theorem Il:(("is" : Str)=("bits" : Str))=False:=eq_false ψ
theorem CT:(("from" : Str)=("bits" : Str))=False:=eq_false ψ
theorem acs {tc:TT}{ts us:TS}{D:Ends}{σ:St}{H:Hp}(h:∀kt ke,kt=ts D->ke=us D->tc σ H fun b H1=>if b=true then kt σ H1 else ke σ H1):PX tc ts us D σ H:=h _ _ rfl rfl
theorem Wn {p:Addr}{H H':Hp}(h:dZ p H H')(e:H p=none):Same H H':=fun b o hb=>h b o (aF hb e) hb
section
variable {X:Cx}{e o:Expr}{te to:TE}{pos:Pos}
def apq (ob:Option HO)(l:Addr)(y:V)(H:Hp)(Q:VK):Prop:=match ob with
 | some (.lst xs)=>xs.length<sizeLine/\Q .non (upd H l (.lst (xs++[y])))
 | _=>False
def isq (ob:Option HO):Prop:=match ob with
 | some (.lst _)=>True
 | _=>False
theorem lX (xs:List V):isq (some (.lst xs))=True:=rfl
theorem oA (xs:List V)(l:Addr)(y:V)(H:Hp)(Q:VK):apq (some (.lst xs)) l y H Q=(xs.length<sizeLine/\Q .non (upd H l (.lst (xs++[y])))):=rfl
def abM (x:V)(te:TE)(σ:St)(H1:Hp)(Q:VK):Prop:=match x with
 | .ref l=>isq (H1 l)/\te σ H1 fun y H2=>apq (H2 l) l y H2 Q
 | _=>False
def Qf (to te:TE):TE:=fun σ H Q=>to σ H fun x H1=>abM x te σ H1 Q
theorem Qe (to te:TE)(σ:St)(H:Hp)(Q:VK):Qf to te σ H Q=to σ H fun x H1=>abM x te σ H1 Q:=rfl
theorem VB (l:Addr)(te:TE)(σ:St)(H1:Hp)(Q:VK):abM (.ref l) te σ H1 Q=(isq (H1 l)/\te σ H1 fun y H2=>apq (H2 l) l y H2 Q):=rfl
theorem Xq {apos cpos:Pos}(ho:PE X o to)(he:PE X e te)
  (hbase:attributeBase o "append" X.env (eval o X.env)=eval o X.env:=by rfl)
  (hfew:((backTo cpos (starEach [e] X.env)).all (fun x=>!x.1)&&(backToKw cpos (keywordEach [] X.env)).all (fun x=>x.1.isSome)
   && decide ([e].length+([]:List Keyword).length+(if ([]:List Keyword).isEmpty then 0 else 1)<30))=true:=by rfl)
  (hline:(apos.endLine == cpos.line)=true:=by rfl) (hs:starEach [e] X.env=(false,eval e X.env)::starEach [] X.env:=by rfl) (hplain:(backTo cpos (starEach [] X.env)).any (·.1)=false:=by rfl) :
  PE X (.Call (.Attribute o "append" apos) [e] [] cpos) (Qf to te):=by
 intro pins s σ H Q I h;refine wpAny_Call_method_late hbase hfew hline rfl (thE (ho pins s σ H _ I h) fun v s1 x H1 I1 r1 q=>?_);cases x with
 | ref l=>
  obtain⟨q1,q2⟩:=q;cases el:H1 l with
  | none=>rw[el] at q1;exact q1.elim
  | some ob=>
   cases ob with
   | lst xs=>
    obtain⟨h1,h2⟩:=HW (T := "list") I1 r1 (.inl ⟨rfl,xs,SqL.of el⟩);refine⟨"list","list.append",PySem.F.plainAttrs_list,PySem.F.slot_list_append,PySem.F.type_list_append,h1,h2,?_⟩;rw[hs];refine Calls.callWith_builtin (by show(false||(backTo cpos (starEach [] X.env)).any (·.1))=false;rw[hplain] <;> rfl) (Calls.evalArgs_plain ?_)
    refine Calls.spliced_cons (thE (he pins s1 σ H1 _ I1 q2) fun u s2 y H2 I2 r2 q3=>Calls.spliced_nil ?_);replace q3:apq (H2 l) l y H2 Q:=q3;cases el2:H2 l with
    | none=>rw[el2] at q3;exact q3.elim
    | some ob2=>
     cases ob2 with
     | lst ys=>
      rw[el2] at q3;exact NP pins s2 σ H2 (.ref l) [y] v [u] Q I2 r1 (.cons r2 .nil) ⟨l,ys,y,rfl,rfl,el2,q3.1,q3.2⟩
     | _=>rw[el2] at q3;exact q3.elim
   | _=>rw[el] at q1;exact q1.elim
 | _=>exact q.elim
theorem jx {apos cpos:Pos}(ho:QE X o to)(he:QE X e te)
  (hbase:attributeBase o "append" X.env (eval o X.env)=eval o X.env:=by rfl)
  (hfew:((backTo cpos (starEach [e] X.env)).all (fun x=>!x.1)&&(backToKw cpos (keywordEach [] X.env)).all (fun x=>x.1.isSome)
   && decide ([e].length+([]:List Keyword).length+(if ([]:List Keyword).isEmpty then 0 else 1)<30))=true:=by rfl)
  (hline:(apos.endLine == cpos.line)=true:=by rfl) (hs:starEach [e] X.env=(false,eval e X.env)::starEach [] X.env:=by rfl) (hplain:(backTo cpos (starEach [] X.env)).any (·.1)=false:=by rfl) :
  QE X (.Call (.Attribute o "append" apos) [e] [] cpos) (Qf to te):=⟨Xq ho.h he.h hbase hfew hline hs hplain⟩
def slq (ob:Option HO)(lo hi:Option Int)(H:Hp)(Q:VK):Prop:=match ob with
 | some (.lst xs)=>∀p,H p=none->Q (.ref p) (upd H p (.lst (sZ xs lo hi)))
 | some (.tup xs)=>¬(HT.sIx xs.length 0 lo=0/\HT.sIx xs.length xs.length hi=xs.length)/\∀p,H p=none->Q (.ref p) (upd H p (.tup (sZ xs lo hi)))
 | _=>False
def aag:V->Option Int->Option Int->Hp->VK->Prop:=fun x lo hi H Q=>match x with
 | .ref p=>slq (H p) lo hi H Q
 | _=>False
theorem Q7 (p:Addr)(lo hi:Option Int)(H:Hp)(Q:VK):aag (.ref p) lo hi H Q=slq (H p) lo hi H Q:=rfl
theorem Wi (xs:List V)(lo hi:Option Int)(H:Hp)(Q:VK):slq (some (.lst xs)) lo hi H Q=∀p,H p=none->Q (.ref p) (upd H p (.lst (sZ xs lo hi))):=rfl
theorem abS:SlR X aag:=by
 intro pins s σ H x v vl vu lo hi sl Q I rx hs pl pu h;unfold aag at h;split at h
 ·rename_i p;unfold slq at h;split at h
  ·rename_i xs e;exact Wj pins s σ H _ v vl vu lo hi sl Q I rx hs pl pu ⟨p,xs,rfl,SqL.of e,h⟩
  ·rename_i xs e;exact Z9 pins s σ H _ v vl vu lo hi sl Q I rx hs pl pu ⟨p,xs,rfl,SqT.of e,h.1,h.2⟩
  ·exact h.elim
 ·exact h.elim
structure QO (X:Cx)(e:Option Expr)(t:TO):Prop where
 h:PO X e t
theorem KD:QO X none CP:=⟨Xb⟩
theorem KC (h:QE X e te):QO X (some e) (PB te):=⟨Xa h.h⟩
theorem Gg {r:V->Option Int->Option Int->Hp->VK->Prop}{lo hi:Option Expr}{tl th:TO}{p2:Pos}(hr:SlR X r)(he:QE X e te)(hl:QO X lo tl)(hu:QO X hi th):QE X (.Subscript e (.Slice lo hi none p2) pos) (tSl r te tl th):=⟨RX hr he.h hl.h hu.h⟩
def rpq (ob:Option HO)(k:Int)(H:Hp)(Q:VK):Prop:=match ob with
 | some (.lst xs)=>-(2^63)<=k/\k<2^63/\xs.length*k.toNat<=sizeLine/\∀p,H p=none->Q (.ref p) (upd H p (.lst (List.replicate k.toNat xs).flatten))
 | _=>False
def Rb:R2:=fun x y H Q=>match x,y with
 | .ref p,.int k=>rpq (H p) k H Q
 | x,y=>rI O7 (fun i j=>.int (i*j)) x y H Q
theorem Ws (i j:Int)(H:Hp)(Q:VK):Rb (.int i) (.int j) H Q=rI O7 (fun i j=>.int (i*j)) (.int i) (.int j) H Q:=rfl
theorem iD:OpR X (binaryOp .Mult) Rb:=by
 intro pins s σ H x y v u Q I rx ry h;unfold Rb at h;split at h
 ·rename_i p k;unfold rpq at h;split at h
  ·rename_i xs e;exact aaM pins s σ H _ _ v u Q I rx ry ⟨p,k,xs,rfl,rfl,e,h.1,h.2.1,h.2.2.1,h.2.2.2⟩
  ·exact h.elim
 ·exact aaO pins s σ H _ _ v u Q I rx ry h
def eqo (ob:Option HO)(H:Hp)(Q:VK):Prop:=match ob with
 | some (.lst _)=>Q (.bl false) H
 | some (.tup _)=>Q (.bl false) H
 | _=>False
def M5:R2:=fun x y H Q=>match x,y with
 | .ref p,.str _=>eqo (H p) H Q
 | x,y=>rEq x y H Q
theorem Wy (i j:Int)(H:Hp)(Q:VK):M5 (.int i) (.int j) H Q=rEq (.int i) (.int j) H Q:=rfl
theorem Wz (i j:Bool)(H:Hp)(Q:VK):M5 (.bl i) (.bl j) H Q=rEq (.bl i) (.bl j) H Q:=rfl
theorem Ww (i j:Str)(H:Hp)(Q:VK):M5 (.str i) (.str j) H Q=rEq (.str i) (.str j) H Q:=rfl
theorem Wx (H:Hp)(Q:VK):M5 .non .non H Q=rEq .non .non H Q:=rfl
theorem bT (hu:X.A.units<cLine):OpR X (compareOp .Eq) M5:=by
 intro pins s σ H x y v u Q I rx ry h;unfold M5 at h;split at h
 ·rename_i p z;cases rx;obtain⟨t,rfl⟩:=ry;unfold eqo at h;split at h
  ·rename_i xs e;obtain⟨its,r,pl,hz⟩:=I.list (SqL.of e);exact SeqAt.RcAt.list_str z t pl.isList hu X.prog X.w X.xe (EP X pins σ Q) ⟨.bl false,H,I,rfl,h⟩
  ·rename_i xs e;obtain⟨its,r,pl,hz⟩:=I.tuple (SqT.of e);exact SeqAt.RcAt.tuple_str z t pl hu X.prog X.w X.xe (EP X pins σ Q) ⟨.bl false,H,I,rfl,h⟩
  ·exact h.elim
 ·exact acf pins s σ H _ _ v u Q I rx ry h
end
mutual
inductive bC (ok:Addr->Prop)(H:Hp):V->PyData->Prop
 | non:bC ok H .non .none
 | bl (b:Bool):bC ok H (.bl b) (.bool b)
 | int (i:Int):bC ok H (.int i) (.int i)
 | str (x:Str):bC ok H (.str x) (.str x)
 | lst {p:Addr} {xs:List V} {ds:List PyData}:ok p->H p=some (.lst xs)->xs.length<=1000000->aQ ok H xs ds->bC ok H (.ref p) (.list ds)
 | tup {p:Addr} {xs:List V} {ds:List PyData}:ok p->H p=some (.tup xs)->xs.length<=1000000->aQ ok H xs ds->bC ok H (.ref p) (.tuple ds)
inductive aQ (ok:Addr->Prop)(H:Hp):List V->List PyData->Prop
 | nil:aQ ok H [] []
 | cons {x:V} {d:PyData} {xs:List V} {ds:List PyData}:bC ok H x d->aQ ok H xs ds->aQ ok H (x::xs) (d::ds)
end
mutual
theorem bC.keep {ok ok':Addr->Prop}{H H':Hp}(k:∀a o,ok a->H a=some o->ok' a/\H' a=some o):∀{v:V}{d:PyData},bC ok H v d->bC ok' H' v d
 | _,_,.non=>.non
 | _,_,.bl b=>.bl b
 | _,_,.int i=>.int i
 | _,_,.str x=>.str x
 | _,_,.lst o e z t=>.lst (k _ _ o e).1 (k _ _ o e).2 z (aQ.keep k t)
 | _,_,.tup o e z t=>.tup (k _ _ o e).1 (k _ _ o e).2 z (aQ.keep k t)
theorem aQ.keep {ok ok':Addr->Prop}{H H':Hp}(k:∀a o,ok a->H a=some o->ok' a/\H' a=some o):∀{vs:List V}{ds:List PyData},aQ ok H vs ds->aQ ok' H' vs ds
 | _,_,.nil=>.nil
 | _,_,.cons t r=>.cons (bC.keep k t) (aQ.keep k r)
end
theorem bC.same {ok:Addr->Prop}{H H':Hp}{v:V}{d:PyData}(t:bC ok H v d)(s:Same H H'):bC ok H' v d:=t.keep fun a o h e=>⟨h,s a o e⟩
theorem aQ.same {ok:Addr->Prop}{H H':Hp}{v:List V}{d:List PyData}(t:aQ ok H v d)(s:Same H H'):aQ ok H' v d:=t.keep fun a o h e=>⟨h,s a o e⟩
theorem aQ.length {ok:Addr->Prop}{H:Hp}:∀{vs:List V}{ds:List PyData},aQ ok H vs ds->vs.length=ds.length
 | _,_,.nil=>rfl
 | _,_,.cons _ r=>by rw[length_cons,length_cons,r.length]
theorem aQ.append {ok:Addr->Prop}{H:Hp}:∀{vs ws:List V}{ds es:List PyData},aQ ok H vs ds->aQ ok H ws es->aQ ok H (vs++ws) (ds++es)
 | _,_,_,_,.nil,t=>t
 | _,_,_,_,.cons h r,t=>.cons h (r.append t)
theorem aQ.get {ok:Addr->Prop}{H:Hp}:∀{vs:List V}{ds:List PyData}{i:Nat}{v:V},aQ ok H vs ds->vs[i]?=some v->∃d,ds[i]?=some d/\bC ok H v d
 | _,_,0,_,.cons h _,e=>by cases e;exact⟨_,rfl,h⟩
 | _,_,i+1,_,.cons _ r,e=>aQ.get r (i:=i) e
section
variable {X:Cx}{pins:List (Addr×Obj)}{σ:St}{H:Hp}{s:Shared}{ok:Addr->Prop}
mutual
theorem bC.reads (I:Inv X pins σ H s):∀{v:V}{d:PyData}{u:Value},bC ok H v d->RelV v u->∃as,Reads s.heap u d as
 | _,_,_,.non,r=>by cases r;exact⟨_,.none⟩
 | _,_,_,.bl b,r=>by cases r;exact⟨_,.bool b⟩
 | _,_,_,.int i,r=>by obtain⟨t,rfl⟩:=r;exact⟨_,.int i t⟩
 | _,_,_,.str x,r=>by obtain⟨t,rfl⟩:=r;exact⟨_,.str x t⟩
 | _,_,_,.lst o e z t,r=>by
  cases r;obtain⟨its,rv,pl,hz⟩:=I.list (SqL.of e);obtain⟨ob,h1,h2,n,h3⟩:=pl.isList;obtain⟨as,h4⟩:=aQ.reads I t rv;exact⟨_,.list h1 h2 h3 (by simpa using h4)⟩
 | _,_,_,.tup o e z t,r=>by
  cases r;obtain⟨its,rv,pl,hz⟩:=I.tuple (SqT.of e);obtain⟨ob,h1,h2,n,h3⟩:=pl;obtain⟨as,h4⟩:=aQ.reads I t rv;exact⟨_,.tuple h1 h2 h3 (by simpa using h4)⟩
theorem aQ.reads (I:Inv X pins σ H s):∀{vs:List V}{ds:List PyData}{us:List Value},aQ ok H vs ds->Vals vs us->∃as,ReadsAll s.heap us ds as
 | _,_,_,.nil,r=>by cases r;exact⟨_,.nil⟩
 | _,_,_,.cons h t,r=>by
  cases r with
  | cons r1 r2=>
   obtain⟨as,h1⟩:=bC.reads I h r1;obtain⟨bs,h2⟩:=aQ.reads I t r2;exact⟨_,.cons h1 h2⟩
end
end
mutual
def nodes:PyData->Nat
 | .list ds=>1+gq ds
 | .tuple ds=>1+gq ds
 | _=>1
def gq:List PyData->Nat
 | []=>0
 | d::ds=>nodes d+gq ds
end
mutual
def smD:PyData->Bool
 | .none=>true
 | .bool _=>true
 | .int i=>decide (i.natAbs<2^50\/i.natAbs=10^20\/i.natAbs<2^55)
 | .str x=>decide ((reprText x).length<=50)
 | .list ds=>tX ds
 | .tuple ds=>tX ds
 | .dict _=>false
def tX:List PyData->Bool
 | []=>true
 | d::ds=>smD d&&tX ds
end
theorem Yt {i:Int}(h:i.natAbs<2^70):(Str.ofString (toString i)).length<=71:=by
 rw[PySem.ofString_length];have:=int_text_length_le10 (a:=i) (k:=30) δ ω;omega
mutual
theorem Bs:∀(d:PyData),smD d=true->d.shown.length+2<=80*nodes d
 | .none,_=>by decide
 | .bool b,_=>by cases b <;> decide
 | .int i,h=>by
  have h1:i.natAbs<2^70:=by
   have:i.natAbs<2^50\/i.natAbs=10^20\/i.natAbs<2^55:=of_decide_eq_true (by simpa [smD] using h);omega
  have:=Yt h1;show(Str.ofString (toString i)).length+2<=80*1;omega
 | .str x,h=>by
  have h1:(reprText x).length<=50:=by simpa [smD] using h
  show(reprText x).length+2<=80*1;omega
 | .list ds,h=>by
  have h1:=nF ds (by simpa [smD] using h);have h2:=listText_len_le (PyData.shownAll ds);rw[PyData.shown.eq_5,nodes];omega
 | .tuple ds,h=>by
  have h1:=nF ds (by simpa [smD] using h);have h2:=tupleText_len_le (PyData.shownAll ds);rw[PyData.shown.eq_6,nodes];omega
 | .dict kvs,h=>by simp [smD] at h
theorem nF:∀(ds:List PyData),tX ds=true->((PyData.shownAll ds).map fun x=>x.length).sum+2*(PyData.shownAll ds).length<=80*gq ds
 | [],_=>by simp [PyData.shownAll,gq]
 | d::ds,h=>by
  rw[tX,Bool.and_eq_true] at h;have h1:=Bs d h.1;have h2:=nF ds h.2;rw[PyData.shownAll.eq_2,gq,map_cons,sum_cons,length_cons];omega
end
mutual
theorem CZ:∀(d:PyData),smD d=true->d.showable=true/\d.hasDict=false
 | .none,_=>⟨rfl,rfl⟩
 | .bool b,_=>⟨rfl,rfl⟩
 | .int i,h=>by
  refine⟨?_,rfl⟩;have h1:i.natAbs<2^70:=by
   have:i.natAbs<2^50\/i.natAbs=10^20\/i.natAbs<2^55:=of_decide_eq_true (by simpa [smD] using h);omega
  show decide (i.natAbs.log2<1920)=true;refine decide_eq_true ?_;by_cases z:i.natAbs=0
  ·rw[z];decide
  ·have:=(Nat.log2_lt z).mpr h1;omega
 | .str x,_=>⟨rfl,rfl⟩
 | .list ds,h=>by
  obtain⟨h1,h2⟩:=rO ds (by simpa [smD] using h);exact⟨h1,h2⟩
 | .tuple ds,h=>by
  obtain⟨h1,h2⟩:=rO ds (by simpa [smD] using h);exact⟨h1,h2⟩
 | .dict kvs,h=>by simp [smD] at h
theorem rO:∀(ds:List PyData),tX ds=true->PyData.showableAll ds=true/\PyData.hasDictAll ds=false
 | [],_=>⟨rfl,rfl⟩
 | d::ds,h=>by
  rw[tX,Bool.and_eq_true] at h;obtain⟨h1,h2⟩:=CZ d h.1;obtain⟨h3,h4⟩:=rO ds h.2;refine⟨?_,?_⟩
  ·rw[PyData.showableAll.eq_2,h1,h3];rfl
  ·rw[PyData.hasDictAll.eq_2,h2,h4];rfl
end
structure VF (d:PyData):Prop where
 sm:smD d=true
 nd:nodes d<=200000
 dp:d.depth<=100
theorem VF.len {d:PyData}(t:VF d):d.shown.length<=sizeLine:=by
 have h1:=Bs d t.sm;have h2:=t.nd;have h3:16000000<=sizeLine:=by decide
 omega
section
variable {X:Cx}{tg l:Expr}{tl:TE}
def itq (K:PySem.W.Frag)(ob:Option HO)(a:Addr)(H:Hp)(R:It->Hp->Prop):Prop:=match ob with
 | some (.lst _)=>R (Itl K a) H
 | some (.tup _)=>R (Itt K a) H
 | _=>False
def itK (K:PySem.W.Frag)(x:V)(H:Hp)(R:It->Hp->Prop):Prop:=match x with
 | .ref a=>itq K (H a) a H R
 | _=>False
def Lb (K:PySem.W.Frag)(tl:TE):TI:=fun σ H R=>tl σ H fun x H1=>itK K x H1 R
theorem Uk (K:PySem.W.Frag)(tl:TE)(σ:St)(H:Hp)(R:It->Hp->Prop):Lb K tl σ H R=tl σ H fun x H1=>itK K x H1 R:=rfl
theorem Yo (K:PySem.W.Frag)(a:Addr)(H:Hp)(R:It->Hp->Prop):itK K (.ref a) H R=itq K (H a) a H R:=rfl
theorem Yl (K:PySem.W.Frag)(xs:List V)(a:Addr)(H:Hp)(R:It->Hp->Prop):itq K (some (.lst xs)) a H R=R (Itl K a) H:=rfl
theorem Yk (K:PySem.W.Frag)(xs:List V)(a:Addr)(H:Hp)(R:It->Hp->Prop):itq K (some (.tup xs)) a H R=R (Itt K a) H:=rfl
theorem Xe (hl:PE X l tl):PI X tg l (Lb X.K tl):=by
 intro pins s σ H R I h;refine thn (hl pins s σ H _ I h) fun v s1 ⟨x,H1,I1,r1,q1⟩=>?_;cases x with
 | ref a=>
  replace q1:itq X.K (H1 a) a H1 R:=q1;cases r1;unfold itq at q1;split at q1
  ·rename_i xs e;obtain⟨its,rv,p,hz⟩:=I1.list (SqL.of e);refine wpAny_pyIter_list p.isList ?_;refine⟨s1.heap.objs.size,[s1.heap.objs.size],_,_,H1,rfl,I1.kept (t':=s1.toks) fun b o e=>get?_push_of_some _ e,Mg a _,⟨_,get?_push_size _ rfl,rfl,rfl⟩,fun b hb=>?_,q1⟩;have e:b=s1.heap.objs.size:=by simpa using hb
   subst e;exact I1.Uy (Nat.le_refl _) (I1.hok.fresh (Nat.le_refl _))
  ·rename_i xs e;obtain⟨its,rv,p,hz⟩:=I1.tuple (SqT.of e);refine wpAny_pyIter_tuple (show s1.heap.IsTuple a its.toArray from p) ?_;refine⟨s1.heap.objs.size,[s1.heap.objs.size],_,_,H1,rfl,I1.kept (t':=s1.toks) fun b o e=>get?_push_of_some _ e,Ie a _,⟨_,get?_push_size _ rfl,rfl,rfl⟩,fun b hb=>?_,q1⟩;have e:b=s1.heap.objs.size:=by simpa using hb
   subst e;exact I1.Uy (Nat.le_refl _) (I1.hok.fresh (Nat.le_refl _))
  ·exact q1.elim
 | _=>exact q1.elim
theorem cN (hl:QE X l tl):QI X tg l (Lb X.K tl):=⟨Xe hl.h⟩
end
section
variable {mp:List (Option Nat)}{g:TG}{tc:TT}{te:TE}{σ:St}{H:Hp}{Q:VK}{R:It->Hp->Prop}{K:PySem.W.Frag}
theorem abF {a:Addr}{xs:List V}(hR:R=Bk mp g tc te σ Q)(hz:xs.length<=sizeLine)(Pv:Nat->List V->St->Hp->Prop)(h0:Pv 0 [] (jh mp σ) H)(hl:∀i acc τ H,Pv i acc τ H->acc.length<=i)
  (hq:∀i acc τ H,Pv i acc τ H->SqT K H a xs)
  (hs:∀i x acc τ H,xs[i]?=some x->Pv i acc τ H->g x τ H fun τ1 H4=>tc τ1 H4 fun b H5=>if b=true then te τ1 H5 fun v H6=>Pv (i+1) (acc++[v]) τ1 H6 else Pv (i+1) acc τ1 H5)
  (hd:∀acc τ H d,Pv xs.length acc τ H->H d=none->Q (.ref d) (upd H d (.lst acc))):R (Itt K a) H:=by
 refine qX hR xs.length hz Pv h0 hl (fun i acc τ H hi p=>⟨xs,xs[i],hq i acc τ H p,getElem?_eq_getElem hi⟩) (fun acc τ H p=>⟨xs,hq _ acc τ H p,Nat.le_refl _⟩) (fun i acc τ H x H3 hi p y=>?_) hd;obtain⟨rfl,hx⟩:=y;exact hs i x acc τ _ (hx xs (hq i acc τ _ p)) p
end
def xY:Sp:=fun vs H Q _=>∃w s,vs=[.int w,.int s]/\1<=w/\w<=40/\(s=0\/s=1)/\Q (.int (wl w s)) H
def xu:Sp:=fun vs H Q _=>∃w s,vs=[.int w,.int s]/\1<=w/\w<=40/\(s=0\/s=1)/\Q (.int (wl w s+2^w.toNat-1)) H
section
variable {X:Cx}{NX N:List Str}{kX:List (Str×NameKind)}{mp:List (Option Nat)}{scope:Scope}
set_option maxHeartbeats 8000000 in
theorem W7 {tg iter elt:Expr}{ifs:List Expr}{pos pos' pos2:Pos}{wi:TI}{g:TG}{tc:TT}{te:TE}{i:Nat}{x:Str}(N:List Str)(mp:List (Option Nat))(hn:Nm X.N X.env.scope i x)(hNd:X.N.Nodup)(hNX:X.N=NX)(hkX:X.env.scope.names=kX)(S:wU NX kX N mp scope)(hc:X.calm=true)
  (hi:PI X tg iter wi) (hg:∀cl C s H fp,PG (bG X N scope cl C s H fp) tg g) (ht:∀cl C s H fp,PTs (bG X N scope cl C s H fp) ifs tc) (he:∀cl C s H fp,PE (bG X N scope cl C s H fp) elt te)
  (hf:X.fn x=true\/X.env.scope.names.lookup x=some .local:=by exact .inl rfl)
  (hsw:swapsWithSole [.Name x pos'] (.ListComp elt [⟨tg,iter,ifs,0⟩] scope pos) pos2.line X.env=pure true:=by rfl)
  (h1:(assignEach [.Name x pos'] X.env).map (·.2)=[assign (.Name x pos') X.env]:=by rfl)
  (hs:∀x,foldedSetIterable iter X.env x=pure x:=by intro _;rfl):PS X (.Assign [.Name x pos'] (.ListComp elt [⟨tg,iter,ifs,0⟩] scope pos) pos2) (wW (Bp mp wi g tc te) (lH i)):=by
 intro pins s σ H Dn I h;rw[exec_Assign_arm];refine wpAny_bind (wpAny_standAt ?_);rw[hsw];refine wpAny_bind (wpAny_pure ?_);rw[if_pos rfl,h1];replace h:Bp mp wi g tc te σ H (fun v H1=>Dn.nx (σ.set i (some v)) H1):=h;obtain⟨cl,hcl,hsub,hhas⟩:=Eo (env:=X.env) (scope:=scope) fun y hy hf=>I.ok.has y.1 (by
  rcases S.fre y hy hf with q|q
  ·exact .inl (show X.env.scope.names.lookup y.1=_ by rw[hkX];exact q)
  ·exact .inr (show X.env.scope.names.lookup y.1=_ by rw[hkX];exact q))
 generalize hQ:(fun(v:V)(H1:Hp)=>Dn.nx (σ.set i (some v)) H1)=Q at h
 let QQ:Value->Shared->Prop:=fun _ s'=>∃τ H',Inv X pins τ H' s'/\Dn.nx τ H'
 refine wpAny_bind (wpAny_bind (thn (Q:=QQ) (wpAny_comprehension_free (e:=.ListComp elt [⟨tg,iter,ifs,0⟩] scope pos) (use:=some fun v=>assignAll v [assign (.Name x pos') X.env]) rfl hs hcl S.kind S.locs ?_) fun _ s' ⟨τ,H',I',q'⟩=>wpAny_pure (wpAny_pure ⟨τ,H',I',q'⟩)));refine thn (hi pins s σ H _ I h) fun v s1 h1=>thn h1 fun itv s2 h2=>?_;obtain⟨it,fp,tn,J,H2,e,I2,T,st2,f2,W,⟨m0,w0⟩,turn⟩:=h2;subst e;refine wpAny_newObj_type (wpAny_newFunctionEnv S.nocell (by intro y hy;simp at hy) (fun h3 hns hsb=>?_) S.kind);dsimp only at hns hsb |-;have hold:∀b∈fp,b<s2.heap.objs.size:=fun b hb=>by
  obtain⟨o,q,_⟩:=T.obj _ _ st2 b hb;exact lt_size q
 generalize hD:s2.heap.objs.size=D at hns hsb;generalize hH2:s2.heap.push { cls:=.type "list",dict:=none,data:=.seq ([]:List Value).toArray }=P2 at hns hsb |-;have hC:P2.objs.size=D+1:=by rw[<- hH2,size_push,hD]
 generalize hC':P2.objs.size=C at hns hsb |-;rw[hC'] at hC;have old:∀b o,s2.heap.get? b=some o->h3.get? b=some o:=fun b o q=>by
  have hb:=lt_size q;exact hsb.extBut b o (na1 hb hD hC) (get?_push_of_some _ (hH2 ▸ get?_push_of_some _ q))
 have accD:h3.get? D=some { cls:=.type "list",data:=.seq ([]:List Value).toArray }:=
  hsb.extBut _ _ (na2 hC) (get?_push_of_some _ (by rw[<- hH2,<- hD];exact get?_push_size _ rfl))
 have hfr:D∉frs X.stack:=fun z=>by
  rcases mem_cons.mp (I2.vA D z) with q|q
  ·exact na0 I2.lt hD q.symm
  ·exact I2.XJ (na4 hD) q
 have I0:Inv (bG X N scope cl C s2 H2 fp) [(D,{ cls:=.type "list",data:=.seq ([]:List Value).toArray })] (jh mp σ) H2 { s2 with heap:=h3,toks:=s2.toks+([]:List (Str×Value)).length }:=
  En (s':={ s2 with heap:=h3,toks:=s2.toks+([]:List (Str×Value)).length }) hNX hkX S I2 f2 hold (na3 hD hC) hsub hhas rfl rfl ⟨_,hns⟩ old fun p hp=>by
   have ep:=mem_singleton.mp hp;subst ep;exact⟨accD,I2.hok.fresh (na4 hD),na2 hC,hfr,fun v z=>by cases z⟩
 have T0:tn 0 h3:=T.keep _ _ _ st2 fun b _ o q=>old b o q;have loop:∀z:Shared,z={ s2 with heap:=h3,toks:=s2.toks+([]:List (Str×Value)).length } ->
   codeAny (model X.prog X.w) X.A (.compLoop (.ListComp elt [⟨tg,iter,ifs,0⟩] scope pos) 0 (.ref it) (.ref D) (compEnvC scope cl C X.env))
    (compPost (model X.prog X.w) X.A X.xe (some fun v=>assignAll v [assign (.Name x pos') X.env]) QQ (.ref D) C) z:=by
  rintro z rfl;have stat:∀{H':Hp}{pl:List (Addr×Obj)},(∀b∈fp,H' b=none)->(∀p∈pl,p.1=D)->∀b∈fp,tM (bG X N scope cl C s2 H2 fp) pl H' b:=fun hn hp b hb=>by
   have hb2:=hold b hb;refine⟨hn b hb,na1 hb2 hD hC,(Em hkX S I2 f2 hold (na3 hD hC) hsub hhas).exfs b hb,.inl hb,fun x c q=>(f2 b hb).2.2.2.2.1 x c (hsub x c q),fun p hpp=>?_⟩;have hpD:=hp p (by simpa [bG] using hpp);rw[hpD];exact(na0 hb2 hD).symm
  refine Cj (env:=compEnvC scope cl C X.env) (fun n z=>∃i acc τ H' its k,Inv (bG X N scope cl C s2 H2 fp) [(D,{ cls:=.type "list",data:=.seq (List.toArray its) k })] τ H' z/\tn i z.heap/\(∀b∈fp,H' b=none)/\Vals acc its/\acc.length<=sizeLine/\W i n acc τ H')
   ?_ m0 ⟨0,[],_,H2,[],0,I0,T0,fun b hb=>(f2 b hb).1,.nil,Nat.zero_le _,w0⟩
  rintro n s5 ⟨i,acc,τ,H5,its,k,I5,st5,fr5,va,hz,w5⟩;rcases turn i n acc τ H5 w5 with⟨stop,qn⟩|⟨go,hz2,N9,hN9,step⟩
  ·refine thn (T.done (bG X N scope cl C s2 H2 fp) rfl rfl rfl hc i _ s5 τ H5 _ I5 (stat fr5 (by simp)) st5 stop) fun r s6 ⟨hr,I6⟩=>?_;subst hr;obtain⟨m6,hn6,_⟩:=I6.loc;obtain⟨dD,nD,_,_,_⟩:=I6.pin (D,_) (mem_append_right _ (mem_singleton.mpr rfl));have U:=I6.base;have nC:H5 C=none:=I6.free;have ne:∀b o,s2.heap.get? b=some o->b≠C/\b≠D:=fun b o q=>by
    exact⟨na1 (lt_size q) hD hC,na0 (lt_size q) hD⟩
   have key:∀h',Heap.SameBut C s6.heap h'->Inv X pins σ (upd H5 D (.lst acc)) { s6 with heap:=h' }:=fun h' sb=>by
    have keepC:∀b o,b≠C->s6.heap.get? b=some o->h'.get? b=some o:=fun b o hb q=>(sb.2 b hb).trans q;have U':Un (frs X.stack) fp H2 (upd H5 D (.lst acc)) s2.heap h':=by
     refine⟨fun b o q n1 hb hx=>keepC b o (ne b o q).1 (U.keep b o q n1 hb hx),fun b o q n1 hb hx=>?_,fun b o q n1 hx=>?_,fun b o q hx=>?_,fun b xs q=>?_,fun b o xs q=>?_,fun b ps q=>?_⟩
     ·obtain⟨sl,z⟩:=U.slot b o q n1 hb hx;exact⟨sl,keepC b _ (ne b o q).1 z⟩
     ·rw[aH (ne b o q).2];exact U.free b o q n1 hx
     ·obtain⟨o',z⟩:=U.there b o q hx;exact⟨o',keepC b _ (ne b o q).1 z⟩
     ·have z:=U.tups b xs q;rw[aH (aF z nD)];exact z
     ·have z:=U.frzs b o xs q;rw[aH (aF z nD)];exact z
     ·obtain⟨more,z⟩:=U.tbls b ps q;exact⟨more,by rw[aH (aF z nD)];exact z⟩
    have hok:HOk X.prog X.w (upd H5 D (.lst acc)) h':=fun b u q=>by
     by_cases hb:b=D
     ·subst hb;rw[aB] at q;cases q;exact⟨hz,its,k,va,keepC _ _ (na2 hC) dD⟩
     ·rw[aH hb] at q;refine(I6.hok b u q).stay (fun c v hcc z=>keepC c v ?_ z) (fun c z=>by rw[aH (aF z nD)];exact z) fun c xs z=>by rw[aH (aF z nD)];exact z
      rcases hcc with z1|z1
      ·subst z1;exact aF q nC
      ·exact aF z1 nC
    have I7:Inv X pins σ (upd H5 D (.lst acc)) { s6 with heap:=h' }:=I2.call' (s':={ s6 with heap:=h' }) (ch:=fp) I6.os U' hok I6.bare fun b hb=>by
     obtain⟨_,a2,_,a4,a5,a6⟩:=f2 b hb;exact⟨a4,a2,a5,a6⟩
    exact I7
   have I7:Inv X pins σ (upd H5 D (.lst acc)) s6:=key s6.heap (Heap.SameBut.refl _ _);have lC:X.env.locals≠C:=na1 I2.lt hD hC;have cC:∀y c,X.env.cells.lookup y=some c->c≠C:=fun y c z=>by
    obtain⟨_,o,h1,_⟩:=I2.cell y c z;exact na1 (lt_size h1) hD hC
   show wpAny _ _ (assign (.Name x pos') X.env (.ref D)) _ _ s6;refine wpAny_assign_Name (Bq (v:=.ref D) I7 hNd hn.hN hn.hv rfl (fun s7 I8 ⟨a,sa,ha⟩=>?_) hf);have aC:a≠C:=by
    rcases ha with rfl|ha
    ·exact lC
    ·exact cC _ _ ha
   obtain⟨o6,es6,ep6,g1,g2,g3,g4⟩:=hn6;refine⟨m6,⟨o6,es6,ep6,(sa.2 C (Ne.symm aC)).trans g1,g2,g3,g4⟩,fun h' sb=>?_⟩;have q9:=qn D nD;rw[<- hQ] at q9;refine⟨_,_,I8.turned (it:=C) (t':=s7.toks) (fun b o hb q=>(sb.2 b hb).trans q) ?_ (Ne.symm lC) (.inr (Nat.le_trans I2.sz (na3 hD hC))) cC (fun p hp=>?_),q9⟩
   ·rw[aH (Ne.symm (na2 hC))];exact nC
   ·obtain⟨h1,_⟩:=I2.pin p hp;exact na1 (lt_size h1) hD hC
  ·refine thn (T.item (bG X N scope cl C s2 H2 fp) rfl rfl rfl hc i _ s5 τ H5 _ I5 (stat fr5 (by simp)) st5 go) fun r s6 ⟨u,hr,h6⟩=>?_;subst hr;refine thn h6 fun _ s7 ⟨x,H7,I7,r7,y7,st7,fr7⟩=>?_;have I7':=I7.pinned (stat fr7 (by simp)) (T.obj _ _ st7);have no:∀{α:Type}{t:Sem α}{Q1 Q2:α->Shared->Prop}{E:Value->Shared->Prop}{z:Shared},wpAny (model X.prog X.w) X.A t Q1 (fun _ _=>False) z->(∀a z,Q1 a z->Q2 a z)->wpAny (model X.prog X.w) X.A t Q2 E z:=
    fun q f=>wpAny_mono q f fun _ _ z=>z.elim
   refine no (hg cl C s2 H2 fp _ s7 τ H7 x u _ I7' r7 (step x H7 y7)) fun _ s8 ⟨τ1,H8,I8,q8⟩=>?_;refine no (ht cl C s2 H2 fp _ s8 τ1 H8 _ I8 q8) fun ok s9 ⟨H9,I9,q9⟩=>?_;have again:∀{H':Hp}{z:Shared}{its':List Value}{k':Nat},Inv (bG X N scope cl C s2 H2 fp) ([(D,{ cls:=.type "list",data:=.seq (List.toArray its') k' })]++gR fp s7.heap) τ1 H' z ->
     tn (i+1) z.heap/\(∀b∈fp,H' b=none)/\Inv (bG X N scope cl C s2 H2 fp) [(D,{ cls:=.type "list",data:=.seq (List.toArray its') k' })] τ1 H' z:=fun {H' z its' k'} Iz=>by
    have get:∀b∈fp,∀o,s7.heap.get? b=some o->z.heap.get? b=some o/\H' b=none:=fun b hb o q=>by
     obtain⟨a1,a2,_⟩:=Iz.pin (b,o) (mem_append_right _ (mem_append_right _ (jq hb q)));exact⟨a1,a2⟩
    refine⟨T.keep _ _ _ st7 fun b hb o q=>(get b hb o q).1,fun b hb=>?_,Iz.j6⟩;obtain⟨o,q,_⟩:=T.obj _ _ st7 b hb;exact(get b hb o q).2
   cases ok with
   | false=>
    rw[if_neg Bool.false_ne_true] at q9 |-;obtain⟨m',hm,w9⟩:=hN9 _ _ _ q9;obtain⟨a1,a2,a3⟩:=again I9;exact⟨m',hm,i+1,acc,τ1,H9,its,k,a3,a1,a2,va,hz,w9⟩
   | true=>
    rw[if_pos rfl] at q9 |-;refine no (he cl C s2 H2 fp _ s9 τ1 H9 _ I9 q9) fun y s10 ⟨v,H10,I10,rv,q10⟩=>?_;obtain⟨m',hm,w10⟩:=hN9 _ _ _ q10;obtain⟨a1,a2,a3⟩:=again I10;obtain⟨dD,nD,_,_,_⟩:=a3.pin (D,_) (mem_append_right _ (mem_singleton.mpr rfl));have hlen:=va.length;refine call_meets F.slot_list_append ⟨_,dD,rfl⟩ F.entry_list_append (F.args_list_append_2 _ _) (PySem.list_append D its.toArray k y (by rw[size_toArray];omega)) ⟨dD,?_⟩;obtain⟨k',q⟩:∃k',(s10.heap.update D (Obj.mapSeq fun a=>a.push y)).get? D=some { cls:=.type "list",data:=.seq (its++[y]).toArray k' }:=by
     have q:=PySem.IsL.update dD (fun a=>a.push y);rw[show its.toArray.push y=(its++[y]).toArray by simp] at q;exact⟨_,q⟩
    have a4:Inv (bG X N scope cl C s2 H2 fp) (gR fp s7.heap) τ1 H10 s10:=I10.lV fun p hp=>I10.pin p (mem_append_right _ (mem_append_right _ hp));have a5:Inv (bG X N scope cl C s2 H2 fp) (gR fp s7.heap) τ1 H10 { s10 with heap:=s10.heap.update D (Obj.mapSeq fun a=>a.push y),toks:=s10.toks }:=
     a4.turned (it:=D) (fun b o hb z=>(get?_update_other _ _ (Ne.symm hb)).trans z) nD (na2 hC) (.inr (na4 hD))
      (fun x c z=>by
       obtain⟨_,o,h1,_⟩:=I2.cell x c (hsub x c z);exact na0 (lt_size h1) hD) fun p hp=>by
       have hb:=(qR (by simpa [bG] using hp)).1;exact na0 (hold _ hb) hD
    obtain⟨b1,b2,b3⟩:=(show tn (i+1) (s10.heap.update D (Obj.mapSeq fun a=>a.push y))/\(∀b∈fp,H10 b=none)/\True from
     ⟨T.keep _ _ _ a1 fun b hb o z=>(get?_update_other _ _ (na0 (hold b hb) hD).symm).trans z,a2,trivial⟩)
    refine⟨m',hm,i+1,acc++[v],τ1,H10,its++[y],k',a5.lV fun p hp=>?_,b1,b2,va.append (.cons rv .nil),by rw[length_append,length_singleton];omega,w10⟩;have ep:=mem_singleton.mp hp;subst ep;exact⟨q,nD,na2 hC,hfr,fun v z=>by cases z⟩
 have e1:{ newEnv scope C X.env.globals cl X.env.qual none .none (some X.env) X.env.builtins with scope:=relabel scope X.env }=compEnvC scope cl C X.env:=rfl;exact codeAny_compStart_list (loop _ rfl) (T.self _ 0 _ _ _ T0 (loop _ rfl))
theorem Dm {tg iter elt:Expr}{ifs:List Expr}{pos pos' pos2:Pos}{wi:TI}{g:TG}{tc:TT}{te:TE}{i:Nat}{x:Str}(N:List Str)(mp:List (Option Nat))(hn:Nm X.N X.env.scope i x)(hNd:X.N.Nodup)(hNX:X.N=NX)(hkX:X.env.scope.names=kX)(S:wU NX kX N mp scope)(hc:X.calm=true)
  (hi:QI X tg iter wi) (hg:∀cl C s H fp,QG (bG X N scope cl C s H fp) tg g) (ht:∀cl C s H fp,QC (bG X N scope cl C s H fp) ifs tc) (he:∀cl C s H fp,QE (bG X N scope cl C s H fp) elt te)
  (hf:X.fn x=true\/X.env.scope.names.lookup x=some .local:=by exact .inl rfl)
  (hsw:swapsWithSole [.Name x pos'] (.ListComp elt [⟨tg,iter,ifs,0⟩] scope pos) pos2.line X.env=pure true:=by rfl)
  (h1:(assignEach [.Name x pos'] X.env).map (·.2)=[assign (.Name x pos') X.env]:=by rfl)
  (hs:∀x,foldedSetIterable iter X.env x=pure x:=by intro _;rfl):QS X (.Assign [.Name x pos'] (.ListComp elt [⟨tg,iter,ifs,0⟩] scope pos) pos2) (wW (Bp mp wi g tc te) (lH i)):=
 ⟨W7 N mp hn hNd hNX hkX S hc hi.h (fun cl C s H fp=>(hg cl C s H fp).h) (fun cl C s H fp=>(ht cl C s H fp).h) (fun cl C s H fp=>(he cl C s H fp).h) hf hsw h1 hs⟩
end
def qL (H0:Hp)(f:PyData->Bool)(ds:List PyData)(ok:St->Prop)(i:Nat)(acc:List V)(τ:St)(H':Hp):Prop:=Same H0 H'/\ok τ/\acc=((ds.take i).map f).map V.bl
section
variable {mp:List (Option Nat)}{g:TG}{te:TE}{σ:St}{H:Hp}{Q:VK}{R:It->Hp->Prop}{K:PySem.W.Frag}{a:Addr}{xs:List V}{ds:List PyData}{ok:Addr->Prop}
theorem take_snoc {α:Type}{l:List α}{i:Nat}{x:α}(h:l[i]?=some x):l.take (i+1)=l.take i++[x]:=by
 rw[take_add_one,h];rfl
theorem zX {f:PyData->Bool}{d:PyData}{i:Nat}(h:ds[i]?=some d):((ds.take (i+1)).map f).map V.bl=((ds.take i).map f).map V.bl++[V.bl (f d)]:=by
 rw[take_snoc h,map_append,map_append];rfl
theorem Cr (f:PyData->Bool)(ds:List PyData)(i:Nat):(((ds.take i).map f).map V.bl).length<=i:=by
 simp only[length_map,length_take];omega
theorem El (f:PyData->Bool)(okT:St->Prop)(hR:R=Bk mp g Pr te σ Q)(tr:aQ ok H xs ds)(e:H a=some (.tup xs))(hz:xs.length<=1000000)(h0:okT (jh mp σ))
  (hs:∀x d τ H1 (Qn:V->St->Hp->Prop),d∈ds->Same H H1->bC ok H1 x d->okT τ->(∀τ1 H6,okT τ1->Same H1 H6->Qn (.bl (f d)) τ1 H6)->g x τ H1 fun τ1 H4=>te τ1 H4 fun v H6=>Qn v τ1 H6)
  (hd:∀H2 d,Same H H2->H2 d=none->Q (.ref d) (upd H2 d (.lst ((ds.map f).map V.bl)))):R (Itt K a) H:=by
 have hl:=tr.length;refine abF hR (aP hz) (qL H f ds okT) ⟨Same.refl _,h0,rfl⟩ (fun i acc τ H1 ⟨_,_,e⟩=>by rw[e];exact Cr f ds i) (fun i acc τ H1 ⟨s,_,_⟩=>SqT.of (s _ _ e)) (fun i x acc τ H1 hx ⟨s,k,ea⟩=>?_) (fun acc τ H1 d ⟨s,k,ea⟩ hn=>?_)
 ·obtain⟨d,hd2,td⟩:=tr.get hx;have z:=hs x d τ H1 (fun v τ1 H6=>qL H f ds okT (i+1) (acc++[v]) τ1 H6) (mem_of_getElem? hd2) s (td.same s) k fun τ1 H6 k1 s6=>⟨s.trans s6,k1,by rw[ea,zX hd2]⟩;show g x τ H1 fun τ1 H4=>if true=true then te τ1 H4 fun v H6=>qL H f ds okT (i+1) (acc++[v]) τ1 H6 else qL H f ds okT (i+1) acc τ1 H4;simp only[if_true];exact z
 ·rw[ea,hl,take_length];exact hd H1 d s hn
theorem vg (f:PyData->Bool)(okT:St->Prop)(hR:R=Bk mp g Pr te σ Q)(tr:aQ ok H xs ds)(e:H a=some (.lst xs))(hz:xs.length<=1000000)(h0:okT (jh mp σ))
  (hs:∀x d τ H1 (Qn:V->St->Hp->Prop),d∈ds->Same H H1->bC ok H1 x d->okT τ->(∀τ1 H6,okT τ1->Same H1 H6->Qn (.bl (f d)) τ1 H6)->g x τ H1 fun τ1 H4=>te τ1 H4 fun v H6=>Qn v τ1 H6)
  (hd:∀H2 d,Same H H2->H2 d=none->Q (.ref d) (upd H2 d (.lst ((ds.map f).map V.bl)))):R (Itl K a) H:=by
 have hl:=tr.length;refine lK hR (aP hz) (qL H f ds okT) ⟨Same.refl _,h0,rfl⟩ (fun i acc τ H1 ⟨_,_,e⟩=>by rw[e];exact Cr f ds i) (fun i acc τ H1 ⟨s,_,_⟩=>SqL.of (s _ _ e)) (fun i x acc τ H1 hx ⟨s,k,ea⟩=>?_) (fun acc τ H1 d ⟨s,k,ea⟩ hn=>?_)
 ·obtain⟨d,hd2,td⟩:=tr.get hx;have z:=hs x d τ H1 (fun v τ1 H6=>qL H f ds okT (i+1) (acc++[v]) τ1 H6) (mem_of_getElem? hd2) s (td.same s) k fun τ1 H6 k1 s6=>⟨s.trans s6,k1,by rw[ea,zX hd2]⟩;show g x τ H1 fun τ1 H4=>if true=true then te τ1 H4 fun v H6=>qL H f ds okT (i+1) (acc++[v]) τ1 H6 else qL H f ds okT (i+1) acc τ1 H4;simp only[if_true];exact z
 ·rw[ea,hl,take_length];exact hd H1 d s hn
end
def itD:It1->PyData
 | .one a=>.tuple [.str "is",.int a]
 | .rng a b=>.tuple [.str "from",.int a,.int b]
 | .bits m v=>.tuple [.str "bits",.int m,.int v]
def ni (its:List It1):PyData:=.list (its.map itD)
def jy (w s:Int)(css:List (List It1)):PyData:=.tuple [.int w,.int s,.list (css.map ni)]
theorem qK.tree {H:Hp}{t:Addr}{it:It1}{ok:Addr->Prop}(h:qK H t it)(o:ok t):bC ok H (.ref t) (itD it):=by
 cases it with
 | one a=>exact .tup o h.h (by show 2<=1000000;decide) (.cons (.str _) (.cons (.int _) .nil))
 | rng a b=>exact .tup o h.h (by show 3<=1000000;decide) (.cons (.str _) (.cons (.int _) (.cons (.int _) .nil)))
 | bits m v=>exact .tup o h.h (by show 3<=1000000;decide) (.cons (.str _) (.cons (.int _) (.cons (.int _) .nil)))
theorem zN {p c:Addr}{H Hk:Hp}{B:Int}(s:dZ p H Hk)(t:bO Hk p B)(h:Hk c=none):c≠p/\H c=none:=by
 have n:=t.ne h;refine⟨n,?_⟩;cases e:H c with
 | none=>rfl
 | some o=>rw[s _ _ n e] at h;cases h
theorem qO {p c:Addr}{H H':Hp}{o:HO}(s:dZ p H H')(h:H c=none):dZ p H (upd H' c o):=fun b u n e=>by
 rw[aH (aF e h)];exact s b u n e
theorem bO.upd {H:Hp}{p c:Addr}{B:Int}{o:HO}(t:bO H p B)(n:c≠p):bO (upd H c o) p B:=by
 obtain⟨a,b,c',e,r⟩:=t;exact⟨a,b,c',by rw[aH (Ne.symm n)];exact e,r⟩
theorem Ad {α:Type}(l:List α)(x:α):atI (l++[x]) (-1)=some x:=by
 unfold atI ixN;rw[if_neg δ,if_pos (by rw[length_append,length_singleton];omega)];show(l++[x])[_]?=some x;rw[getElem?_append_right (by rw[length_append,length_singleton];omega)];rw[show(-1+((l++[x]).length:Int)).toNat-l.length=0 by rw[length_append,length_singleton];omega];rfl
def Ql:Sp:=fun vs H Q _=>∃(p:Addr)(B:Int),vs=[.ref p]/\bO H p B/\0<=B/\B<=900000 /\
 ∀(w s:Int)(t:Addr)(css:List (List It1)) H',1<=w->w<=40->(s=0\/s=1)->dZ p H H'->bO H' p (B+6000)->bC (·≠p) H' (.ref t) (jy w s css) ->
  (∀its∈css,its.length<=6/\∀it∈its,it.Ok w s)->css.length<=12->Q (.ref t) H'
theorem uR {w s:Int}:bZ w s (wl w s):=⟨Int.le_refl _,by have:=two_pow_pos w.toNat;omega⟩
structure Bd (n k:Nat)(d:PyData):Prop where
 sm:smD d=true
 nd:nodes d<=n
 dp:d.depth<=k
theorem Bd.mono {n k n' k':Nat}{d:PyData}(b:Bd n k d)(h1:n<=n')(h2:k<=k'):Bd n' k' d:=⟨b.sm,Nat.le_trans b.nd h1,Nat.le_trans b.dp h2⟩
theorem Bd.tell {n k:Nat}{d:PyData}(b:Bd n k d)(h1:n<=200000)(h2:k<=100):VF d:=⟨b.sm,Nat.le_trans b.nd h1,Nat.le_trans b.dp h2⟩
theorem J6 {n k:Nat}:∀{ds:List PyData},(∀d∈ds,Bd n k d)->tX ds=true/\gq ds<=ds.length*n/\PyData.depthAll ds<=k
 | [],_=>⟨rfl,Nat.zero_le _,Nat.zero_le _⟩
 | d::ds,h=>by
  have h1:=h d mem_cons_self;obtain⟨a,b,c⟩:=J6 fun x hx=>h x (mem_cons_of_mem _ hx);have:=h1.nd;have:=h1.dp;refine⟨by rw[tX,h1.sm,a];rfl,?_,?_⟩
  ·rw[gq,length_cons,Nat.succ_mul];omega
  ·rw[PyData.depthAll.eq_2];omega
theorem Lz {n k m:Nat}{ds:List PyData}(h:∀d∈ds,Bd n k d)(hl:ds.length<=m):Bd (1+m*n) (k+1) (.list ds):=by
 obtain⟨a,b,c⟩:=J6 h;have:=Nat.mul_le_mul_right n hl;refine⟨a,?_,?_⟩
 ·show 1+gq ds<=_;omega
 ·rw[PyData.depth.eq_1];omega
theorem vo {n k m:Nat}{ds:List PyData}(h:∀d∈ds,Bd n k d)(hl:ds.length<=m):Bd (1+m*n) (k+1) (.tuple ds):=by
 obtain⟨a,b,c⟩:=J6 h;have:=Nat.mul_le_mul_right n hl;refine⟨a,?_,?_⟩
 ·show 1+gq ds<=_;omega
 ·rw[PyData.depth.eq_2];omega
theorem tE {i:Int}(h:i.natAbs<2^55):Bd 1 0 (.int i):=⟨by show decide _=true;exact decide_eq_true (.inr (.inr h)),Nat.le_refl _,Nat.le_refl _⟩
theorem abK {x:Str}(h:(reprText x).length<=50):Bd 1 0 (.str x):=⟨by show decide _=true;exact decide_eq_true h,Nat.le_refl _,Nat.le_refl _⟩
theorem Er {x:Str}(h:x = "is" \/ x = "from" \/ x = "bits"):Bd 1 0 (.str x):=by
 rcases h with rfl|rfl|rfl <;> exact abK ψ
theorem Zb {w s:Int}{it:It1}(hw1:1<=w)(hw2:w<=40)(hs:s=0\/s=1)(h:it.Ok w s):Bd 4 1 (itD it):=by
 have b:=jj hw1 hw2 hs;have ik:∀{a:Int},bZ w s a->a.natAbs<2^55:=fun {a} h=>by have:=h.1;have:=h.2;omega
 have nk:∀{a:Nat},a<2^w.toNat->((a:Int)).natAbs<2^55:=fun {a} h=>by
  have:2^w.toNat<=2^40:=Nat.pow_le_pow_right δ ω;omega
 cases it with
 | one a=>
  refine(vo (n:=1) (k:=0) (m:=3) ?_ (by show 2<=3;decide));intro d hd;simp only[mem_cons,not_mem_nil,or_false] at hd;rcases hd with rfl|rfl
  ·exact Er (.inl rfl)
  ·exact tE (ik h)
 | rng a c=>
  refine(vo (n:=1) (k:=0) (m:=3) ?_ (by show 3<=3;decide));intro d hd;simp only[mem_cons,not_mem_nil,or_false] at hd;rcases hd with rfl|rfl|rfl
  ·exact Er (.inr (.inl rfl))
  ·exact tE (ik h.1)
  ·exact tE (ik h.2.1)
 | bits m v=>
  refine(vo (n:=1) (k:=0) (m:=3) ?_ (by show 3<=3;decide));intro d hd;simp only[mem_cons,not_mem_nil,or_false] at hd;rcases hd with rfl|rfl|rfl
  ·exact Er (.inr (.inr rfl))
  ·exact tE (nk h.1)
  ·exact tE (nk h.2.1)
theorem Zc {w s:Int}{its:List It1}{m:Nat}(hw1:1<=w)(hw2:w<=40)(hs:s=0\/s=1)(h:∀it∈its,it.Ok w s)(hl:its.length<=m):Bd (1+m*4) 2 (ni its):=
 Lz (fun d hd=>by
  obtain⟨it,hi,rfl⟩:=mem_map.mp hd;exact Zb hw1 hw2 hs (h it hi)) (by rw[length_map];exact hl)
theorem Vt {n k:Nat}{w s:Int}{d:PyData}(hw1:1<=w)(hw2:w<=40)(hs:s=0\/s=1)(h:Bd n k d)(hn:1<=n):Bd (1+3*n) (k+1) (.tuple [.int w,.int s,d]):=by
 refine vo ?_ (by show 3<=3;decide);intro x hx;simp only[mem_cons,not_mem_nil,or_false] at hx;rcases hx with rfl|rfl|rfl
 ·exact(tE ω).mono hn (Nat.zero_le _)
 ·exact(tE ω).mono hn (Nat.zero_le _)
 ·exact h
theorem jR.Zn {k:Nat}{A:Around}(r:jR k A):A.units+200<cLine:=by have:=r.un;omega
theorem iG {prog:Program}{w:World}{A:Around}{E:Value->Shared->Prop}{s:Shared}{it t:Addr}{i:Nat}{items:Array Value}{x:Value}{Q:Value->Shared->Prop}(hit:s.heap.IsTupleIter it t i)(ht:s.heap.IsTuple t items)(hx:items[i]?=some x)
  (hQ:∀h',h'.IsTupleIter it t (i+1)->Heap.SameBut it s.heap h'->Q x { s with heap:=h' }):wpAny (model prog w) A (Builtin.SmallTypes.nextOf (Value.ref it)) Q E s:=by
 obtain⟨o,ho,hc,hd⟩:=id hit;obtain⟨ol,hol,hcl,nl,hdl⟩:=ht;unfold Builtin.SmallTypes.nextOf;refine wpAny_bind (wpAny_callSpecial?_slot hit.typeIs F.slot_tuple_iterator_next (wpAny_call_entry F.slot_tuple_iterator_next hit.typeIs F.entry_tuple_iterator_next ?_ (F.args_tuple_iterator_next_1 _)));refine wpAny_bind (wpAny_pure (wpAny_bind (wpAny_field ho hd (i:=0) rfl ?_)));refine wpAny_ite_false rfl (wpAny_bind (wpAny_field ho hd (i:=1) rfl ?_));refine wpAny_bind (wpAny_seqItems hol hdl ?_);show wpAny _ _ (match items[(i:Int).toNat]? with
  | some x=>(do setField (.ref it) 1 (rawInt ((i:Int)+1));ret x)
  | none=>_) _ _ _
 rw[Int.toNat_natCast,hx];refine wpAny_bind (wpAny_setField ho hd (Nat.lt_succ_self 1) (wpAny_pure ⟨x,rfl,wpAny_pure (hQ _ ?_ ?_)⟩))
 ·refine⟨_,get?_update_self _ ho (Obj.isFreed_of_fields (Obj.data_mapFields hd _)),(Obj.cls_mapFields o _).trans hc,?_⟩;rw[Obj.data_mapFields hd];rfl
 ·exact Heap.SameBut.update s.heap it _
theorem mV {prog:Program}{w:World}{A:Around}{E:Value->Shared->Prop}{s:Shared}{it t:Addr}{i:Nat}{items:Array Value}{Q:Value->Shared->Prop}(hh:A.handled=none)(hit:s.heap.IsTupleIter it t i)(ht:s.heap.IsTuple t items)(hx:items[i]?=none)
  (hE:∀h' e,Heap.ExtBut it s.heap h'->(∃o,h'.get? e=some o/\o.cls=Value.type "StopIteration")->E (.ref e) { s with heap:=h' }):wpAny (model prog w) A (Builtin.SmallTypes.nextOf (Value.ref it)) Q E s:=by
 obtain⟨o,ho,hc,hd⟩:=id hit;obtain⟨ol,hol,hcl,nl,hdl⟩:=ht;unfold Builtin.SmallTypes.nextOf;refine wpAny_bind (wpAny_callSpecial?_slot hit.typeIs F.slot_tuple_iterator_next (wpAny_call_entry F.slot_tuple_iterator_next hit.typeIs F.entry_tuple_iterator_next ?_ (F.args_tuple_iterator_next_1 _)));refine wpAny_bind (wpAny_pure (wpAny_bind (wpAny_field ho hd (i:=0) rfl ?_)));refine wpAny_ite_false rfl (wpAny_bind (wpAny_field ho hd (i:=1) rfl ?_));refine wpAny_bind (wpAny_seqItems hol hdl ?_);show wpAny _ _ (match items[(i:Int).toNat]? with
  | some x=>_
  | none=>(do rule (toString "tuple_iterator.__next__" ++ toString ".end");setField (.ref it) 0 .none;Builtin.SmallTypes.stopIteration)) _ _ _
 rw[Int.toNat_natCast,hx];refine wpAny_bind (wpAny_rule (wpAny_bind (wpAny_setField ho hd (Nat.zero_lt_succ 1) ?_)));unfold Builtin.SmallTypes.stopIteration newExc;refine wpAny_bind (wpAny_bind (wpAny_newObj_type ?_));refine wpAny_bind (wpAny_of_eq (a:=.none) rfl ?_);refine wpAny_newObj_type ?_;refine wpAny_raiseNew_none hh (hE _ _ ?_ ?_)
 ·exact fun b ob hb e=>get?_push_of_some _ (get?_push_of_some _ ((get?_update_other _ _ (Ne.symm hb)).trans e))
 ·exact⟨_,get?_push_size _ rfl,rfl⟩
theorem UJ {J:It}{g:TG}{tb:TS}{D:Ends}{σ:St}{H:Hp}{R:It->Hp->Prop}(hR:R=(fun J H1=>∃W:Nat->Nat->St->Hp->Prop,(∃m,W 0 m σ H1)/\∀i m σ H,W i m σ H ->
  (J.stop i H/\D.nx σ H)\/(J.go i H/\∃N:St->Hp->Prop,(∀σ' H',N σ' H'->∃m',m'<m/\W (i+1) m' σ' H')/\∀x H',J.yld i H x H'->g x σ H' fun σ2 H2=>tb { D with nx:=N,ct:=N,bk:=D.nx } σ2 H2)))
  (n:Nat) (Pv:Nat->St->Hp->Prop) (h0:Pv 0 σ H) (hgo:∀i σ H,i<n->Pv i σ H->J.go i H) (hst:∀σ H,Pv n σ H->J.stop n H)
  (hs:∀i σ H x H3,i<n->Pv i σ H->J.yld i H x H3->g x σ H3 fun σ2 H2=>tb { D with nx:=Pv (i+1),ct:=Pv (i+1),bk:=D.nx } σ2 H2) (hd:∀σ H,Pv n σ H->D.nx σ H):R J H:=by
 subst hR;refine⟨fun i m σ H2=>m=n-i/\i<=n/\Pv i σ H2,⟨_,rfl,Nat.zero_le _,h0⟩,?_⟩;rintro i m σ H2 ⟨rfl,hi,p⟩;by_cases hlt:i<n
 ·exact .inr ⟨hgo i σ H2 hlt p,Pv (i+1),fun σ' H' q=>⟨_,ω,rfl,hlt,q⟩,fun x H3 y=>hs i σ H2 x H3 hlt p y⟩
 ·have e:i=n:=ω;subst e;exact .inl ⟨hst σ H2 p,hd σ H2 p⟩
section
variable {X:Cx}{e o:Expr}{te to:TE}{pos:Pos}
def exq (ob oc:Option HO)(l:Addr)(H:Hp)(Q:VK):Prop:=match ob,oc with
 | some (.lst xs),some (.lst zs)=>xs.length+zs.length<=sizeLine/\Q .non (upd H l (.lst (xs++zs)))
 | _,_=>False
def U4 (l:Addr)(y:V)(H:Hp)(Q:VK):Prop:=match y with
 | .ref b=>exq (H l) (H b) l H Q
 | _=>False
def exK (x:V)(te:TE)(σ:St)(H1:Hp)(Q:VK):Prop:=match x with
 | .ref l=>isq (H1 l)/\te σ H1 fun y H2=>U4 l y H2 Q
 | _=>False
def P0 (to te:TE):TE:=fun σ H Q=>to σ H fun x H1=>exK x te σ H1 Q
theorem Fq (to te:TE)(σ:St)(H:Hp)(Q:VK):P0 to te σ H Q=to σ H fun x H1=>exK x te σ H1 Q:=rfl
theorem Lh (l:Addr)(te:TE)(σ:St)(H1:Hp)(Q:VK):exK (.ref l) te σ H1 Q=(isq (H1 l)/\te σ H1 fun y H2=>U4 l y H2 Q):=rfl
theorem GX (l b:Addr)(H:Hp)(Q:VK):U4 l (.ref b) H Q=exq (H l) (H b) l H Q:=rfl
theorem U0 (xs zs:List V)(l:Addr)(H:Hp)(Q:VK):exq (some (.lst xs)) (some (.lst zs)) l H Q=(xs.length+zs.length<=sizeLine/\Q .non (upd H l (.lst (xs++zs)))):=rfl
theorem Xk {apos cpos:Pos}(ho:PE X o to)(he:PE X e te)
  (hbase:attributeBase o "extend" X.env (eval o X.env)=eval o X.env:=by rfl)
  (hfew:((backTo cpos (starEach [e] X.env)).all (fun x=>!x.1)&&(backToKw cpos (keywordEach [] X.env)).all (fun x=>x.1.isSome)
   && decide ([e].length+([]:List Keyword).length+(if ([]:List Keyword).isEmpty then 0 else 1)<30))=true:=by rfl)
  (hline:(apos.endLine == cpos.line)=true:=by rfl) (hs:starEach [e] X.env=(false,eval e X.env)::starEach [] X.env:=by rfl) (hplain:(backTo cpos (starEach [] X.env)).any (·.1)=false:=by rfl) :
  PE X (.Call (.Attribute o "extend" apos) [e] [] cpos) (P0 to te):=by
 intro pins s σ H Q I h;refine wpAny_Call_method_late hbase hfew hline rfl (thE (ho pins s σ H _ I h) fun v s1 x H1 I1 r1 q=>?_);cases x with
 | ref l=>
  obtain⟨q1,q2⟩:=q;cases el:H1 l with
  | none=>rw[el] at q1;exact q1.elim
  | some ob=>
   cases ob with
   | lst xs=>
    obtain⟨h1,h2⟩:=HW (T := "list") I1 r1 (.inl ⟨rfl,xs,SqL.of el⟩);refine⟨"list","list.extend",PySem.F.plainAttrs_list,PySem.F.slot_list_extend,PySem.F.type_list_extend,h1,h2,?_⟩;rw[hs];refine Calls.callWith_builtin (by show(false||(backTo cpos (starEach [] X.env)).any (·.1))=false;rw[hplain] <;> rfl) (Calls.evalArgs_plain ?_)
    refine Calls.spliced_cons (thE (he pins s1 σ H1 _ I1 q2) fun u s2 y H2 I2 r2 q3=>Calls.spliced_nil ?_);replace q3:U4 l y H2 Q:=q3;unfold U4 at q3;split at q3
    ·rename_i b;unfold exq at q3;split at q3
     ·rename_i ys zs e1 e2;exact NK pins s2 σ H2 (.ref l) [.ref b] v [u] Q I2 r1 (.cons r2 .nil) ⟨l,b,ys,zs,rfl,rfl,e1,e2,q3.1,q3.2⟩
     ·exact q3.elim
    ·exact q3.elim
   | _=>rw[el] at q1;exact q1.elim
 | _=>exact q.elim
theorem KJ {apos cpos:Pos}(ho:QE X o to)(he:QE X e te)
  (hbase:attributeBase o "extend" X.env (eval o X.env)=eval o X.env:=by rfl)
  (hfew:((backTo cpos (starEach [e] X.env)).all (fun x=>!x.1)&&(backToKw cpos (keywordEach [] X.env)).all (fun x=>x.1.isSome)
   && decide ([e].length+([]:List Keyword).length+(if ([]:List Keyword).isEmpty then 0 else 1)<30))=true:=by rfl)
  (hline:(apos.endLine == cpos.line)=true:=by rfl) (hs:starEach [e] X.env=(false,eval e X.env)::starEach [] X.env:=by rfl) (hplain:(backTo cpos (starEach [] X.env)).any (·.1)=false:=by rfl) :
  QE X (.Call (.Attribute o "extend" apos) [e] [] cpos) (P0 to te):=⟨Xk ho.h he.h hbase hfew hline hs hplain⟩
end
mutual
def szD (a:Nat):PyData->Prop
 | .none=>True
 | .bool _=>True
 | .int i=>i.natAbs<=10^20*2^a
 | .str x=>x.length<=30+a/\∀c∈x.cps.toList,c<16^8
 | .list ds=>ds.length<=210*5^a/\Ft a ds
 | .tuple ds=>ds.length<=210*5^a/\Ft a ds
 | .dict _=>False
def Ft (a:Nat):List PyData->Prop
 | []=>True
 | d::ds=>szD a d/\Ft a ds
end
structure Shw (d:PyData):Prop where
 sh:d.showable=true
 nd:d.hasDict=false
 dp:d.depth<=100
 ln:d.shown.length<=sizeLine
def aah:List V->Hp->VK->Prop:=fun xs H Q=>∃v ok d,xs=[v]/\bC ok H v d/\Shw d/\Q (.str d.shown) H
theorem zW {X:Cx}(hg:X.A.guards=some []) (hu:X.A.units+200<cLine):dR X (.builtin "repr") aah:=by
 intro pins s σ H xs us Q I r h;obtain⟨v,ok,d,rfl,t,⟨sh,hd,hdp,hl⟩,q⟩:=h;obtain⟨u,rfl,rv⟩:=vals1 r;have nodict:∀as:List Addr,d.hasDict=true->¬sysModules∈as:=fun as z=>by rw[hd] at z;cases z
 cases t with
 | non=>cases rv;exact P.repr_of_none ⟨.str _,H,I.tok _,⟨_,rfl⟩,q⟩
 | bl b=>cases rv;exact P.repr_of_bool ⟨.str _,H,I.tok _,⟨_,rfl⟩,q⟩
 | int i=>
  obtain⟨t,rfl⟩:=rv;exact P.repr_of_int (of_decide_eq_true sh) ⟨.str _,H,I.tok _,⟨_,rfl⟩,q⟩
 | str x=>
  obtain⟨t,rfl⟩:=rv;exact P.repr_of_str ⟨.str _,H,I.tok _,⟨_,rfl⟩,q⟩ hl
 | lst o e z t=>
  obtain⟨as,rd⟩:=bC.reads I (bC.lst o e z t) rv;cases rv;exact repr_of_reads' rd sh (nodict as) hg ω (fun _ _ z=>z) (fun h' u tk k=>⟨.str _,H,I.kept k,⟨_,rfl⟩,q⟩) hl
 | tup o e z t=>
  obtain⟨as,rd⟩:=bC.reads I (bC.tup o e z t) rv;cases rv;exact repr_of_reads' rd sh (nodict as) hg ω (fun _ _ z=>z) (fun h' u tk k=>⟨.str _,H,I.kept k,⟨_,rfl⟩,q⟩) hl
theorem vf {x:PyData}:∀{ds:List PyData},x∈ds->x.depth<=PyData.depthAll ds
 | y::ds,h=>by
  rw[PyData.depthAll.eq_2];rcases mem_cons.mp h with rfl|z
  ·omega
  ·have:=vf z;omega
theorem MJ {H H':Hp}{l:Addr}{o:HO}(s:Same H H')(h:H l=none):Same H (upd H' l o):=fun b u e=>by
 rw[aH (aF e h)];exact s b u e
theorem Vb (x:V)(xs:List V):sZ (x::xs) (some 1) none=xs:=by
 unfold sZ;have e1:HT.sIx (x::xs).length 0 (some 1)=1:=by
  rw[length_cons];simp [HT.sIx]
 have e2:HT.sIx (x::xs).length (x::xs).length none=(x::xs).length:=by simp [HT.sIx]
 rw[e1,e2];simp
section
variable {X:Cx}{a:Expr}{ta:TE}
def trq (ob:Option HO)(H:Hp)(Q:Bool->Hp->Prop):Prop:=match ob with
 | some (.lst xs)=>Q (!xs.isEmpty) H
 | some (.tup xs)=>Q (!xs.isEmpty) H
 | _=>False
def Z2 (x:V)(H:Hp)(Q:Bool->Hp->Prop):Prop:=match x with
 | .ref p=>trq (H p) H Q
 | .bl b=>Q b H
 | .int i=>Q (i != 0) H
 | .non=>Q false H
 | _=>False
def Z5 (te:TE):TT:=fun σ H Q=>te σ H fun x H1=>Z2 x H1 Q
theorem Wa (te:TE)(σ:St)(H:Hp)(Q:Bool->Hp->Prop):Z5 te σ H Q=te σ H fun x H1=>Z2 x H1 Q:=rfl
theorem Pn (p:Addr)(H:Hp)(Q:Bool->Hp->Prop):Z2 (.ref p) H Q=trq (H p) H Q:=rfl
theorem V9 (xs:List V)(H:Hp)(Q:Bool->Hp->Prop):trq (some (.lst xs)) H Q=Q (!xs.isEmpty) H:=rfl
theorem aat (ha:PE X a ta)(he:∀whole,isTrue a X.env whole=(do let v <- whole;standAt a.pos;holding [v] (truthy v))):PT X a (Z5 ta):=by
 intro pins s σ H Q I h;refine isTrue_plain (thE (ha pins s σ H _ I h) fun v s1 x H1 I1 r1 q1=>Z1 pins s1 σ H1 x v Q I1 r1 ?_) (he _);cases x with
 | ref p=>
  replace q1:trq (H1 p) H1 Q:=q1;unfold trq at q1;split at q1
  ·rename_i xs e;exact⟨_,.inl ⟨xs,SqL.of e,rfl⟩,q1⟩
  ·rename_i xs e;exact⟨_,.inr (.inl ⟨xs,SqT.of e,rfl⟩),q1⟩
  ·exact q1.elim
 | bl b=>exact⟨_,rfl,q1⟩
 | int i=>exact⟨_,rfl,q1⟩
 | non=>exact⟨_,rfl,q1⟩
 | _=>exact(show False from q1).elim
theorem Rr (h:QE X a ta)(he:∀whole,isTrue a X.env whole=(do let v <- whole;standAt a.pos;holding [v] (truthy v)):=by intro _;rfl):QT X a (Z5 ta):=⟨aat h.h he⟩
def acI:R2:=fun x y H Q=>∃p q xs,x=.ref p/\y=.ref q/\H p=some (.lst xs)/\H q=some (.lst [])/\Q (.bl (!xs.isEmpty)) H
theorem aaN (hu:X.A.units<cLine):OpR X (compareOp .NotEq) acI:=by
 intro pins s σ H x y v u Q I rx ry h;obtain⟨p,q,xs,rfl,rfl,e1,e2,qq⟩:=h;cases rx;cases ry;obtain⟨its1,r1,pl1,hz1⟩:=I.list (SqL.of e1);obtain⟨its2,r2,pl2,hz2⟩:=I.list (SqL.of e2);cases r2;cases xs with
 | nil=>
  cases r1;exact SeqAt.RcNeAt.lists (e:=fun _=>true) pl1.isList pl2.isList rfl hu (fun j h1 h2=>absurd h2 (Nat.not_lt_zero _)) X.prog X.w X.xe (EP X pins σ Q) ⟨.bl false,H,I,rfl,qq⟩
 | cons a b=>
  cases r1;exact SeqAt.RcNeAt.lists_lengths pl1.isList pl2.isList (by simp) hu X.prog X.w X.xe (EP X pins σ Q) ⟨.bl true,H,I,rfl,qq⟩
end
theorem ZJ {K:PySem.W.Frag}{a b:Addr}{xs ys:List V}{g:TG}{tb:TS}{D:Ends}{σ:St}{H:Hp}{R:It->Hp->Prop}(hR:R=(fun J H1=>∃W:Nat->Nat->St->Hp->Prop,(∃m,W 0 m σ H1)/\∀i m σ H,W i m σ H ->
  (J.stop i H/\D.nx σ H)\/(J.go i H/\∃N:St->Hp->Prop,(∀σ' H',N σ' H'->∃m',m'<m/\W (i+1) m' σ' H')/\∀x H',J.yld i H x H'->g x σ H' fun σ2 H2=>tb { D with nx:=N,ct:=N,bk:=D.nx } σ2 H2)))
  (hyx:ys.length<=xs.length) (Pv:Nat->St->Hp->Prop) (h0:Pv 0 σ H) (hl:∀i σ H,Pv i σ H->H a=some (.lst xs)/\H b=some (.lst ys))
  (hs:∀i x y σ H p,xs[i]?=some x->ys[i]?=some y->Pv i σ H->H p=none->g (.ref p) σ (upd H p (.tup [x,y])) fun σ2 H2=>tb { D with nx:=Pv (i+1),ct:=Pv (i+1),bk:=D.nx } σ2 H2) (hd:∀σ H,Pv ys.length σ H->D.nx σ H):R (Itz K a b) H:=by
 refine UJ hR ys.length Pv h0 (fun i σ H hi p=>?_) (fun σ H p=>?_) (fun i σ H x H3 hi p y=>?_) hd
 ·obtain⟨e1,e2⟩:=hl i σ H p;exact⟨xs,ys,_,_,SqL.of e1,SqL.of e2,getElem?_eq_getElem ω,getElem?_eq_getElem hi⟩
 ·obtain⟨e1,e2⟩:=hl _ σ H p;exact⟨xs,ys,SqL.of e1,SqL.of e2,.inr (getElem?_eq_none (Nat.le_refl _))⟩
 ·obtain⟨e1,e2⟩:=hl i σ H p;obtain⟨q,x1,y1,rfl,hq,rfl,hx,hy⟩:=y;exact hs i x1 y1 σ H q (hx _ (SqL.of e1)) (hy _ (SqL.of e2)) p hq
theorem Pq {α:Type}(xs:List α)(i:Nat):xs.tail[i]?=xs[i+1]?:=by cases xs <;> simp
theorem Ci (xs:List V):sZ xs (some 1) none=xs.tail:=by
 cases xs with
 | nil=>rfl
 | cons x xs=>exact Vb x xs
theorem VF.shw {d:PyData}(t:VF d):Shw d:=⟨(CZ d t.sm).1,(CZ d t.sm).2,t.dp,t.len⟩
section
variable {κ:Type}[DecidableEq κ]
def jg (kvs:List (κ×V))(k:κ):Option V:=(kvs.find? fun kv=>decide (kv.1=k)).map (·.2)
def putK (kvs:List (κ×V))(k:κ)(v:V):List (κ×V):=
 if (kvs.any fun kv=>decide (kv.1=k))=true then kvs.map (fun kv=>if kv.1=k then (kv.1,v) else kv) else kvs++[(k,v)]
theorem fH {p:κ×V}{r:List (κ×V)}{k:κ}(e:p.1=k):jg (p::r) k=some p.2:=by simp [jg,find?_cons,e]
theorem fJ {p:κ×V}{r:List (κ×V)}{k:κ}(e:¬p.1=k):jg (p::r) k=jg r k:=by simp [jg,find?_cons,e]
theorem xR (k:κ):∀kvs:List (κ×V),(kvs.any fun kv=>decide (kv.1=k))=(jg kvs k).isSome
 | []=>rfl
 | p::r=>by
  rw[any_cons];by_cases e:p.1=k
  ·simp only[fH e,decide_eq_true e,Bool.true_or,Option.isSome_some]
  ·rw[fJ e,decide_eq_false e,Bool.false_or];exact xR k r
theorem Fj (k j:κ)(y:V):∀kvs:List (κ×V),jg (kvs.map fun kv=>if kv.1=k then (kv.1,y) else kv) j=(jg kvs j).map fun x=>if j=k then y else x
 | []=>rfl
 | p::r=>by
  have ih:=Fj k j y r;rw[map_cons];by_cases h:p.1=k
  ·rw[if_pos h];by_cases e:p.1=j
   ·rw[fH (p:=(p.1,y)) e,fH e,map_some,if_pos (e.symm.trans h)]
   ·rw[fJ (p:=(p.1,y)) e,fJ e,ih]
  ·rw[if_neg h];by_cases e:p.1=j
   ·rw[fH (p:=p) e,fH e,map_some,if_neg (fun z=>h (e.trans z))]
   ·rw[fJ (p:=p) e,fJ e,ih]
theorem Bo (k j:κ)(y:V):∀kvs:List (κ×V),jg kvs k=none->jg (kvs++[(k,y)]) j=if j=k then some y else jg kvs j
 | [],_=>by
  by_cases e:k=j
  ·rw[if_pos e.symm];exact fH (p:=(k,y)) e
  ·rw[if_neg (fun z=>e z.symm)];exact fJ (p:=(k,y)) e
 | p::r,hn=>by
  rw[cons_append];have hk:¬p.1=k:=fun z=>by rw[fH z] at hn;cases hn
  rw[fJ hk] at hn;have ih:=Bo k j y r hn;by_cases e:p.1=j
  ·rw[fH e,fH e,if_neg (fun z=>hk (e.trans z))]
  ·rw[fJ e,fJ e,ih]
theorem O9 (kvs:List (κ×V))(k j:κ)(y:V):jg (putK kvs k y) j=if j=k then some y else jg kvs j:=by
 unfold putK;by_cases a:(kvs.any fun kv=>decide (kv.1=k))=true
 ·rw[if_pos a,Fj];rw[xR] at a;by_cases e:j=k
  ·obtain⟨x,hx⟩:=Option.isSome_iff_exists.mp a;rw[if_pos e,e,hx,map_some,if_pos rfl]
  ·rw[if_neg e];cases jg kvs j with
   | none=>rfl
   | some x=>rw[map_some,if_neg e]
 ·rw[if_neg a];refine Bo k j y kvs ?_;rw[xR] at a;cases q:jg kvs k with
  | none=>rfl
  | some x=>rw[q] at a;exact(a rfl).elim
theorem GJ (kvs:List (κ×V))(k:κ)(v:V):(putK kvs k v).length<=kvs.length+1:=by
 unfold putK;split
 ·rw[length_map];omega
 ·rw[length_append,length_cons,length_nil];omega
theorem J8.getD {o:Option V}{u:Option Value}{d:V}{d':Value}(r:J8 o u)(rd:RelV d d'):RelV (o.getD d) (u.getD d'):=by
 cases o with
 | none=>cases u with
  | none=>exact rd
  | some _=>exact(show False from r).elim
 | some _=>cases u with
  | none=>exact(show False from r).elim
  | some _=>exact r
theorem KV.val {kvs:List (κ×V)}{vs:List (κ×Value)}(r:KV kvs vs)(k:κ):J8 (jg kvs k) (valueAt vs k):=by
 unfold KV at r
 induction r with
 | nil=>exact True.intro
 | @cons p q ps qs h t ih=>
  obtain⟨h1,h2⟩:=h;by_cases e:p.1=k
  ·have e':q.1=k:=h1.symm.trans e;have b:valueAt (q::qs) k=some q.2:=by simp [valueAt,find?_cons,e']
   rw[fH e,b];exact h2
  ·have e':¬q.1=k:=fun z=>e (h1.trans z);have b:valueAt (q::qs) k=valueAt qs k:=by simp [valueAt,find?_cons,e']
   rw[fJ e,b];exact ih
theorem KV.any {kvs:List (κ×V)}{vs:List (κ×Value)}(r:KV kvs vs)(k:κ):(kvs.any fun kv=>decide (kv.1=k))=vs.any fun kv=>decide (kv.1=k):=by
 unfold KV at r
 induction r with
 | nil=>rfl
 | cons h t ih=>rw[any_cons,any_cons,ih,h.1]
theorem KV.repl {kvs:List (κ×V)}{vs:List (κ×Value)}(r:KV kvs vs)(k:κ){y:V}{u:Value}(ry:RelV y u) :
  KV (kvs.map fun kv=>if kv.1=k then (kv.1,y) else kv) (vs.map fun kv=>if kv.1=k then (kv.1,u) else kv):=by
 unfold KV at r |-
 induction r with
 | nil=>exact .nil
 | @cons p q ps qs h t ih=>
  rw[map_cons,map_cons];refine .cons ?_ ih;obtain⟨h1,h2⟩:=h;by_cases e:p.1=k
  ·rw[if_pos e,if_pos (h1.symm.trans e)];exact⟨h1,ry⟩
  ·rw[if_neg e,if_neg (fun z=>e (h1.trans z))];exact⟨h1,h2⟩
theorem KV.put {kvs:List (κ×V)}{vs:List (κ×Value)}(r:KV kvs vs)(k:κ){y:V}{u:Value}(ry:RelV y u):KV (putK kvs k y) (stored vs k u):=by
 unfold putK stored;rw[r.any k];by_cases e:(vs.any fun kv=>decide (kv.1=k))=true
 ·rw[if_pos e,if_pos e];exact r.repl k ry
 ·rw[if_neg e,if_neg e];exact Paired.snoc r ⟨rfl,ry⟩
theorem KV.length {kvs:List (κ×V)}{vs:List (κ×Value)}(r:KV kvs vs):kvs.length=vs.length:=Paired.length r
end
theorem T9 {P:Program}{w:World}{k:Key}{u:Value}(r:RelV (kV k) u):(cG P w).is k u=true:=by
 cases k with
 | inl i=>obtain⟨t,e⟩:=(show ∃t,u=Value.int i t from r);subst e;exact Gz P w i t
 | inr x=>obtain⟨t,e⟩:=(show ∃t,u=Value.str x t from r);subst e;exact Gy P w x t
theorem BZ {P:Program}{w:World}:∀{ks:List Key}{us:List Value},Vals (ks.map kV) us->ItemsAre (cG P w) ks us
 | [],_,r=>by rw[map_nil] at r;cases r;exact .nil
 | k::ks,_,r=>by
  rw[map_cons] at r;cases r with
  | cons h t=>exact .cons (T9 h) (BZ t)
abbrev KT (H:Hp):List (List Key×V)->List (List Key×Addr×Value)->Prop:=Paired fun p q=>p.1=q.1/\H q.2.1=some (.tup (p.1.map kV))/\RelV p.2 q.2.2
theorem KT.val {H:Hp}{kvs:List (List Key×V)}{xs:List (List Key×Addr×Value)}(r:KT H kvs xs)(k:List Key):J8 (jg kvs k) ((atKey xs k).map (·.2)):=by
 induction r with
 | nil=>exact True.intro
 | @cons p q ps qs h t ih=>
  obtain⟨h1,_,h2⟩:=h;by_cases e:p.1=k
  ·have e':q.1=k:=h1.symm.trans e;have b:atKey (q::qs) k=some q.2:=by simp [atKey,find?_cons,e']
   rw[fH e,b];exact h2
  ·have e':¬q.1=k:=fun z=>e (h1.trans z);have b:atKey (q::qs) k=atKey qs k:=by simp [atKey,find?_cons,e']
   rw[fJ e,b];exact ih
section
variable {P:Program}{w:World}{H:Hp}{h:Heap}{a:Addr}
theorem ZC {u:HO}(ok:HOk P w H h)(e:Rd H a u):cO P w H h a u:=e.ok ok
theorem U8 {kvs:List (Key×V)}(ok:HOk P w H h)(e:Rd H a (.dK kvs)):kvs.length<=sizeLine/\(a == sysModules)=false/\∃vs,KV kvs vs/\h.DictOf (cG P w) a vs:=
 show cO P w H h a (.dK kvs) from ZC ok e
theorem acv {kvs:List (Key×V)}(ok:HOk P w H h)(e:H a=some (.dK kvs)):kvs.length<=sizeLine/\(a == sysModules)=false/\∃vs,KV kvs vs/\h.DictOf (cG P w) a vs:=U8 ok (.inl e)
theorem T7 {ks:List Key}(ok:HOk P w H h)(e:H a=some (.tup (ks.map kV))):(tupleKind (cG P w)).is h ks a:=by
 obtain⟨_,its,r,o,h1,h2,n,h3⟩:=(show cO P w H h a (.tup (ks.map kV)) from ok a _ e);exact⟨o,its.toArray,n,h1,h2,h3,by simpa using BZ r⟩
theorem ZK {kvs:List (List Key×V)}(ok:HOk P w H h)(e:Rd H a (.dT kvs)):kvs.length<=sizeLine/\(a == sysModules)=false /\
  ∃xs,KT H kvs xs/\h.DictOfH (tupleKind (cG P w)) a xs:=by
 obtain⟨z,y,xs,r,o,es,ep,h1,h2,h3,h4,h5⟩:=(show cO P w H h a (.dT kvs) from ZC ok e);refine⟨z,y,xs,r,o,es,ep,h1,h2,h3,h4,fun x hx=>?_,h5⟩;have all:∀{l:List (List Key×V)}{m:List (List Key×Addr×Value)},KT H l m->∀x∈m,(tupleKind (cG P w)).is h x.1 x.2.1:=by
  intro l m q
  induction q with
  | nil=>intro x hx;exact nomatch hx
  | @cons p q ps qs hq t ih=>
   intro x hx;rcases mem_cons.mp hx with e|hx
   ·subst e;exact T7 ok (by rw[<- hq.1];exact hq.2.1)
   ·exact ih x hx
 exact all r x hx
end
def V0 (H:Hp)(a:Addr)(y:V)(r:Option V):Prop:=
 (∃kvs k,Rd H a (.dK kvs)/\y=kV k/\r=jg kvs k)\/∃kvs k b,Rd H a (.dT kvs)/\y=.ref b/\H b=some (.tup (k.map kV))/\r=jg kvs k
theorem V0.k {H:Hp}{a:Addr}{kvs:List (Key×V)}{k:Key}(e:H a=some (.dK kvs)):V0 H a (kV k) (jg kvs k):=.inl ⟨kvs,k,.inl e,rfl,rfl⟩
section
variable {X:Cx}{pins:List (Addr×Obj)}{σ:St}{H:Hp}{s:Shared}{a:Addr}{y v:V}{u r:Value}{o:Option V}{A:Around}{E:Value->Shared->Prop}
theorem Inv.big (I:Inv X pins σ H s):sysModules<s.heap.objs.size:=by
 have h:mainGlobals<s.heap.objs.size:=(I.mod.glob.keeps I.bk).lt;exact Nat.lt_trans δ h
theorem abA {P:Program}{w:World}{H':Hp}{h':Heap}{kvs:List (Key×V)}{vs:List (Key×Value)}(z:kvs.length<=sizeLine)(hd:(a == sysModules)=false)(rel:KV kvs vs)(dd:h'.DictOf (cG P w) a vs) :
  cO P w H' h' a (.dK kvs):=⟨z,hd,vs,rel,dd⟩
end
theorem U9 {P:Program}{w:World}{H:Hp}(h:Heap) (hb:sysModules<h.objs.size):cO P w H (h.push { cls:=.type "dict",data:=.dict #[] }) h.objs.size (.dK []):=
 ⟨Nat.zero_le _,beq_eq_false_iff_ne.mpr (Ne.symm (Nat.ne_of_lt hb)),[],.nil,Heap.DictOf.new h⟩
def Ij:TE:=fun _ H Q=>∀p,H p=none->Q (.ref p) (upd H p (.dK []))
section
variable {X:Cx}{pos:Pos}
theorem R0:PE X (.Dict [] [] pos) Ij:=fun pins s σ H Q I h=>
 wpAny_Dict_empty ⟨.ref s.heap.objs.size,_,I.laid (a:=s.heap.objs.size) (o:=.dK []) (t':=s.toks) (fun _ _ q=>get?_push_of_some _ q) (Nat.le_refl _) (U9 s.heap I.big),rfl,h _ (I.hok.fresh (Nat.le_refl _))⟩
end
structure M1 (X:Cx)(o:Expr)(m:Str)(apos:Pos)(e:Expr)(cpos:Pos):Prop where
 base:attributeBase o m X.env (eval o X.env)=eval o X.env
 few:((backTo cpos (starEach [e] X.env)).all (fun x=>!x.1)&&(backToKw cpos (keywordEach [] X.env)).all (fun x=>x.1.isSome)
  && decide (([e]:List Expr).length+([]:List Keyword).length+(if ([]:List Keyword).isEmpty then 0 else 1)<30))=true
 line:(apos.endLine == cpos.line)=true
 trees:backTo cpos (starEach [e] X.env)=[(false,eval e X.env)]
structure M2 (X:Cx)(o:Expr)(m:Str)(apos:Pos)(e f:Expr)(cpos:Pos):Prop where
 base:attributeBase o m X.env (eval o X.env)=eval o X.env
 few:((backTo cpos (starEach [e,f] X.env)).all (fun x=>!x.1)&&(backToKw cpos (keywordEach [] X.env)).all (fun x=>x.1.isSome)
  && decide (([e,f]:List Expr).length+([]:List Keyword).length+(if ([]:List Keyword).isEmpty then 0 else 1)<30))=true
 line:(apos.endLine == cpos.line)=true
 trees:backTo cpos (starEach [e,f] X.env)=[(false,eval e X.env),(false,eval f X.env)]
def IsD (H:Hp)(a:Addr):Prop:=(∃kvs,Rd H a (.dK kvs))\/∃kvs,Rd H a (.dT kvs)
theorem Uh {X:Cx}{pins:List (Addr×Obj)}{σ:St}{H:Hp}{s:Shared}{a:Addr}(I:Inv X pins σ H s)(d:IsD H a) :
  s.TypeIs (.ref a) "dict" /\ (∀b,Value.ref a=.ref b->∃ob,s.heap.get? b=some ob/\ob.dict=none)/\(a == sysModules)=false:=by
 rcases d with⟨kvs,e⟩|⟨kvs,e⟩
 ·obtain⟨_,hd,vs,_,dd⟩:=U8 I.hok e;refine⟨dd.typeIs,fun b q=>?_,hd⟩;cases q;obtain⟨ob,_,_,h1,h2,_⟩:=dd;exact⟨ob,h1,h2.2.1⟩
 ·obtain⟨_,hd,xs,_,dd⟩:=ZK I.hok e;refine⟨dd.typeIs,fun b q=>?_,hd⟩;cases q;obtain⟨ob,_,_,h1,h2,_⟩:=dd;exact⟨ob,h1,h2.2.1⟩
section
variable {X:Cx}{pins:List (Addr×Obj)}{σ:St}{H:Hp}{s:Shared}{a:Addr}{y d:V}{u r:Value}{o:Option V}{A:Around}{E:Value->Shared->Prop}
theorem abC {Q:Value->Shared->Prop}(hu:A.units+1<cLine)(I:Inv X pins σ H s)(g:V0 H a y o)(ry:RelV y u)(rd:RelV d r)(h:∀w' s',Inv X pins σ H s'->RelV (o.getD d) w'->Q w' s') :
  wpAny (model X.prog X.w) A (call (.builtin "dict.get") [.ref a,u,r]) Q E s:=by
 rcases g with⟨kvs,k,e,ey,l⟩|⟨kvs,k,b,e,ey,eb,l⟩
 ·subst ey;obtain⟨z,hd,vs,rel,dd⟩:=U8 I.hok e;refine call_meetsIn PySem.F.slot_dict_get dd.typeIs PySem.F.entry_dict_get (PySem.F.args_dict_get_3 _ _ _) (meets_dict_get_default (cG X.prog X.w) a (T9 ry) hd r) ⟨_,dd.mapOf,h _ _ (I.tok _) ?_⟩;rw[l];exact(rel.val k).getD rd
 ·subst ey;cases (show u=Value.ref b from ry);obtain⟨z,hd,xs,rel,dd⟩:=ZK I.hok e;refine call_meetsIn PySem.F.slot_dict_get dd.typeIs PySem.F.entry_dict_get (PySem.F.args_dict_get_3 _ _ _) (meetsH_dict_get_default (tupleKind (cG X.prog X.w)) a b hd r) ⟨tupleKind_room_in1 hu,k,xs,T7 I.hok eb,dd,h _ _ (I.tok _) ?_⟩;rw[l];exact(rel.val k).getD rd
end
def CQ (td ty tx:TE):TE:=fun σ H Q=>td σ H fun x H1=>∃a,x=.ref a/\IsD H1 a/\ty σ H1 fun y H2=>tx σ H2 fun z H3=>∃o,V0 H3 a y o/\Q (o.getD z) H3
section
variable {X:Cx}{o e f:Expr}{apos cpos:Pos}{td ty tx:TE}
theorem R6 (hu:X.A.units+1<cLine) (ho:PE X o td) (he:PE X e ty) (hf:PE X f tx) (m:M2 X o "get" apos e f cpos):PE X (.Call (.Attribute o "get" apos) [e,f] [] cpos) (CQ td ty tx):=by
 intro pins s σ H Q I h;refine wpAny_Call_method m.base m.few m.line PySem.F.plainAttrs_dict PySem.F.slot_dict_get PySem.F.type_dict_get (thn (ho pins s σ H _ I h) fun u s1 ⟨x,H1,I1,rx,a,ex,d,q1⟩=>?_);subst ex;obtain rfl:u=Value.ref a:=rx;obtain⟨t1,t2,_⟩:=Uh I1 d;refine⟨t1,t2,?_⟩;rw[m.trees];refine Calls.callWith_builtin rfl (Calls.evalArgs_plain (Calls.spliced_cons (thE (he pins s1 σ H1 _ I1 q1) fun iv s2 y H2 I2 ry q2=>
  Calls.spliced_cons (thn (hf pins s2 σ H2 _ I2 q2) fun fv s3 ⟨z,H3,I3,rz,ov,g,q3⟩=>Calls.spliced_nil ?_))))
 exact abC hu I3 g ry rz fun w' s4 I4 rw'=>⟨_,H3,I4,rw',q3⟩
end
theorem jR.ZW {k:Nat}{A:Around}(r:jR k A):A.units+1<cLine:=by have:=r.un;omega
section
variable {X:Cx}{pos:Pos}
theorem Ry {o e f:Expr}{apos cpos:Pos}{td ty tx:TE}(hu:X.A.units+1<cLine) (ho:QE X o td) (he:QE X e ty) (hf:QE X f tx) (m:M2 X o "get" apos e f cpos):QE X (.Call (.Attribute o "get" apos) [e,f] [] cpos) (CQ td ty tx):=⟨R6 hu ho.h he.h hf.h m⟩
theorem Rv {st:Stmt}:QS X st (fun _ _ _=>False):=⟨fun _ _ _ _ _ _ h=>h.elim⟩
end
theorem aQ.ints {ok:Addr->Prop}{H:Hp}:∀{xs:List V}{is:List Int},aQ ok H xs (is.map PyData.int)->xs=is.map V.int
 | _,[],.nil=>rfl
 | _,i::is,.cons h r=>by
  cases h;rw[r.ints];rfl
theorem UG {K:PySem.W.Frag}{a:Addr}{xs:List V}{g:TG}{tb:TS}{D:Ends}{σ:St}{H:Hp}{R:It->Hp->Prop}(hR:R=(fun J H1=>∃W:Nat->Nat->St->Hp->Prop,(∃m,W 0 m σ H1)/\∀i m σ H,W i m σ H ->
  (J.stop i H/\D.nx σ H)\/(J.go i H/\∃N:St->Hp->Prop,(∀σ' H',N σ' H'->∃m',m'<m/\W (i+1) m' σ' H')/\∀x H',J.yld i H x H'->g x σ H' fun σ2 H2=>tb { D with nx:=N,ct:=N,bk:=D.nx } σ2 H2)))
  (Pv:Nat->St->Hp->Prop) (h0:Pv 0 σ H) (hl:∀i σ H,Pv i σ H->H a=some (.lst xs))
  (hs:∀(i:Nat) x σ H p,xs[i]?=some x->Pv i σ H->H p=none->g (.ref p) σ (upd H p (.tup [.int (i:Nat),x])) fun σ2 H2=>tb { D with nx:=Pv (i+1),ct:=Pv (i+1),bk:=D.nx } σ2 H2) (hd:∀σ H,Pv xs.length σ H->D.nx σ H):R (Ite K a) H:=by
 refine UJ hR xs.length Pv h0 (fun i σ H hi p=>?_) (fun σ H p=>?_) (fun i σ H x H3 hi p y=>?_) hd
 ·exact⟨xs,_,SqL.of (hl i σ H p),getElem?_eq_getElem hi⟩
 ·exact⟨xs,SqL.of (hl _ σ H p),getElem?_eq_none (Nat.le_refl _)⟩
 ·obtain⟨q,x1,rfl,hq,rfl,hx⟩:=y;exact hs i x1 σ H q (hx _ (SqL.of (hl i σ H p))) p hq
mutual
def szB:PyData->Bool
 | .none=>true
 | .bool _=>true
 | .int i=>decide (i.natAbs<=10^20)
 | .str x=>decide (x.length<=30)&&x.cps.toList.all fun c=>decide (c<16^8)
 | .list ds=>decide (ds.length<=210)&&Z8 ds
 | .tuple ds=>decide (ds.length<=210)&&Z8 ds
 | .dict _=>false
def Z8:List PyData->Bool
 | []=>true
 | d::ds=>szB d&&Z8 ds
end
theorem xO {prog:Program}{w:World}{A:Around}{E:Value->Shared->Prop}{s:Shared}{z TI TO i1 i2 l1 l2:Addr}{k1 k2:Nat}{xs ys:Array Value}{x y a b:Value}{Q:Value->Shared->Prop}(D:ZipApart z TI TO i1 i2 l1 l2)(hz:IsZip s.heap z TI TO Value.none)(hTI:IsPair s.heap TI (Value.ref i1) (Value.ref i2))(hTO:IsPair s.heap TO a b)
  (h1:s.heap.IsTupleIter i1 l1 k1) (h2:s.heap.IsTupleIter i2 l2 k2) (hl1:s.heap.IsTuple l1 xs) (hl2:s.heap.IsTuple l2 ys) (hx:xs[k1]?=some x) (hy:ys[k2]?=some y)
  (hQ:∀h':Heap,IsZip h' z TI TO (rawInt s.heap.objs.size)->IsPair h' TO x y->h'.IsTupleIter i1 l1 (k1+1)->h'.IsTupleIter i2 l2 (k2+1)->IsPair h' s.heap.objs.size x y->h'.objs.size=s.heap.objs.size+1->(∀c o,c≠z->c≠TO->c≠i1->c≠i2->s.heap.get? c=some o->h'.get? c=some o)->Q (Value.ref s.heap.objs.size) { s with heap:=h' }) :
  wpAny (model prog w) A (Builtin.«zip.__next__» { pos:=[Value.ref z] }) (fun fin s'=>∃v,fin=Fin.done (Flow.ret v)/\Q v s') E s:=by
 show wpAny _ _ (field (Value.ref z) 2 >>= _) _ _ _;refine wpAny_bind (wpAny_field hz rfl rfl ?_);show wpAny _ _ (field (Value.ref z) 3 >>= _) _ _ _;refine wpAny_bind (wpAny_field hz rfl rfl ?_);refine wpAny_bind (wpAny_seqItems hTI rfl ?_);show wpAny _ _ (Builtin.SmallTypes.ownedTupleIsFree (Value.ref z) >>= _) _ _ _;refine wpAny_bind ?_;show wpAny _ _ (field (Value.ref z) 0 >>= _) _ _ _;refine wpAny_bind (wpAny_field hz rfl rfl (wpAny_pure ?_));show wpAny _ _ (rule _ >>= _) _ _ _;refine wpAny_bind (wpAny_rule (wpAny_bind (wpAny_field hz rfl rfl ?_)));show wpAny _ _ (setField (Value.ref z) 0 Value.ellipsis >>= _) _ _ _;refine wpAny_bind (wpAny_setField_rec hz (Nat.lt_of_sub_pos (Nat.zero_lt_succ 4)) fun h₁ hz₁ hs₁=>?_);have old1:∀c o,c≠z->s.heap.get? c=some o->h₁.get? c=some o:=fun c o hc e=>(hs₁.2 c hc).trans e;have h1a:h₁.IsTupleIter i1 l1 k1:=h1.at fun o e=>old1 i1 o D.i1z e;have h2a:h₁.IsTupleIter i2 l2 k2:=h2.at fun o e=>old1 i2 o D.i2z e;have tup:∀{h:Heap}{l:Addr}{vs:Array Value},s.heap.IsTuple l vs->(∀o,s.heap.get? l=some o->h.get? l=some o)->h.IsTuple l vs:=fun⟨o,e,r⟩ k=>⟨o,k o e,r⟩;refine wpAny_bind ?_;show wpAny _ _ (forIn [(Value.ref i1,0),(Value.ref i2,1)] (none,()) _) _ _ _;rw[forIn_cons];refine wpAny_bind ?_;show wpAny _ _ ((Sem.onRaise (Builtin.SmallTypes.nextOf (Value.ref i1) >>= fun v=>pure (some v)) (fun _=>setField (Value.ref z) 0 Value.none)) >>= _) _ _ _;refine wpAny_bind (wpAny_onRaise (wpAny_bind (iG (s:={ s with heap:=h₁ }) h1a (tup hl1 fun o e=>old1 l1 o D.l1z e) hx fun h₂ h1b sb₂=>wpAny_pure ?_)));have old2:∀c o,c≠z->c≠i1->s.heap.get? c=some o->h₂.get? c=some o:=fun c o hc hc1 e=>(sb₂.2 c hc1).trans (old1 c o hc e);have hTO2:IsPair h₂ TO a b:=old2 TO _ D.TOz D.TOi1 hTO;show wpAny _ _ (seqItems? (Value.ref TO) >>= _) _ _ _;refine wpAny_bind (wpAny_seqItems (s:={ s with heap:=h₂ }) hTO2 rfl ?_);show wpAny _ _ (updateSeq TO _ >>= _) _ _ _;refine wpAny_bind (wpAny_updateSeq_pair (s:={ s with heap:=h₂ }) hTO2 fun h₃ g₃ sb₃=>?_);refine wpAny_bind (wpAny_letGo (wpAny_pure ?_));show wpAny _ _ (forIn [(Value.ref i2,1)] (none,()) _) _ _ _;rw[forIn_cons];refine wpAny_bind ?_;have old3:∀c o,c≠z->c≠i1->c≠TO->s.heap.get? c=some o->h₃.get? c=some o:=fun c o hc hc1 hc2 e=>(sb₃.2 c hc2).trans (old2 c o hc hc1 e);have h2c:h₃.IsTupleIter i2 l2 k2:=h2.at fun o e=>old3 i2 o D.i2z (Ne.symm D.i12) (Ne.symm D.TOi2) e;have g₃':IsPair h₃ TO x b:=g₃;show wpAny _ _ ((Sem.onRaise (Builtin.SmallTypes.nextOf (Value.ref i2) >>= fun v=>pure (some v)) (fun _=>setField (Value.ref z) 0 Value.none)) >>= _) _ _ _;refine wpAny_bind (wpAny_onRaise (wpAny_bind (iG (s:={ s with heap:=h₃ }) h2c (tup hl2 fun o e=>old3 l2 o D.l2z D.l2i1 D.l2TO e) hy fun h₄ h2d sb₄=>wpAny_pure ?_)));have hTO4:IsPair h₄ TO x b:=(sb₄.2 TO D.TOi2).trans g₃';show wpAny _ _ (seqItems? (Value.ref TO) >>= _) _ _ _;refine wpAny_bind (wpAny_seqItems (s:={ s with heap:=h₄ }) hTO4 rfl ?_);show wpAny _ _ (updateSeq TO _ >>= _) _ _ _
 refine wpAny_bind (wpAny_updateSeq_pair (s:={ s with heap:=h₄ }) hTO4 fun h₅ g₅ sb₅=>?_);refine wpAny_bind (wpAny_letGo (wpAny_pure ?_));have g₅':IsPair h₅ TO x y:=g₅;show wpAny _ _ (forIn [] (none,()) _) _ _ _;rw[forIn_nil];refine wpAny_pure ?_;show wpAny _ _ (seqItems? (Value.ref TO) >>= _) _ _ _;refine wpAny_bind (wpAny_seqItems (s:={ s with heap:=h₅ }) g₅' rfl ?_);show wpAny _ _ (newTuple [x,y] >>= _) _ _ _;refine wpAny_bind (wpAny_newTuple ?_ (by show 2<=sizeLine;decide));have sz:h₅.objs.size=s.heap.objs.size:=by
  rw[sb₅.1,sb₄.1,sb₃.1,sb₂.1,hs₁.1]
 have z5:h₅.get? z=_:=(sb₅.2 z (Ne.symm D.TOz)).trans ((sb₄.2 z (Ne.symm D.i2z)).trans ((sb₃.2 z (Ne.symm D.TOz)).trans ((sb₂.2 z (Ne.symm D.i1z)).trans hz₁)));have z6:(h₅.push { cls:=Value.type "tuple",data:=Data.seq #[x,y] }).get? z=_:=get?_push_of_some _ z5;refine wpAny_bind ?_;show wpAny _ _ (setField (Value.ref z) 0 (rawInt h₅.objs.size) >>= fun _=>setField (Value.ref z) 1 (Value.bool false)) _ _ _;refine wpAny_bind (wpAny_setField_rec (s:={ s with heap:=h₅.push { cls:=Value.type "tuple",data:=Data.seq #[x,y] } }) z6 (Nat.lt_of_sub_pos (Nat.zero_lt_succ 4)) fun h₇ hz₇ hs₇=>?_);refine wpAny_setField_rec (s:={ s with heap:=h₇ }) hz₇ (Nat.lt_of_sub_pos (Nat.zero_lt_succ 3)) fun h₈ hz₈ hs₈=>?_;have nzs:s.heap.objs.size≠z:=fun q=>by
  have:=lt_size hz;rw[<- q] at this;exact Nat.lt_irrefl _ this
 have old6:∀c o,h₅.get? c=some o->(h₅.push { cls:=Value.type "tuple",data:=Data.seq #[x,y] }).get? c=some o:=fun c o e=>get?_push_of_some _ e;have old8:∀c o,c≠z->h₅.get? c=some o->h₈.get? c=some o:=fun c o hc e=>(hs₈.2 c hc).trans ((hs₇.2 c hc).trans (old6 c o e));have new8:h₈.get? s.heap.objs.size=some { cls:=Value.type "tuple",data:=Data.seq #[x,y] }:=by
  refine(hs₈.2 _ nzs).trans ((hs₇.2 _ nzs).trans ?_);show(h₅.push { cls:=Value.type "tuple",data:=Data.seq #[x,y] }).get? s.heap.objs.size=_;rw[<- sz];exact get?_push_size _ rfl
 refine wpAny_pure ⟨_,rfl,?_⟩;rw[show(({ s with heap:=h₅ }:Shared).heap.objs.size)=s.heap.objs.size from sz];refine hQ h₈ ?_ ?_ ?_ ?_ new8 ?_ ?_
 ·rw[sz] at hz₈;exact hz₈
 ·exact old8 TO _ D.TOz g₅'
 ·refine h1b.at fun o e=>old8 i1 o D.i1z ?_;exact(sb₅.2 i1 (Ne.symm D.TOi1)).trans ((sb₄.2 i1 D.i12).trans ((sb₃.2 i1 (Ne.symm D.TOi1)).trans e))
 ·refine h2d.at fun o e=>old8 i2 o D.i2z ?_;exact(sb₅.2 i2 (Ne.symm D.TOi2)).trans e
 ·rw[hs₈.1,hs₇.1];show(h₅.push { cls:=Value.type "tuple",data:=Data.seq #[x,y] }).objs.size=_;rw[size_push,sz]
 ·intro c o hc1 hc2 hc3 hc4 e;exact old8 c o hc1 ((sb₅.2 c hc2).trans ((sb₄.2 c hc4).trans (old3 c o hc1 hc3 hc2 e)))
theorem nu {prog:Program}{w:World}{A:Around}{E:Value->Shared->Prop}{s:Shared}{z TI TO i1 i2 l1 l2:Addr}{k1 k2:Nat}{xs ys:Array Value}{x y a b:Value}{Q:Option Value->Shared->Prop}(D:ZipApart z TI TO i1 i2 l1 l2)(hz:IsZip s.heap z TI TO Value.none)(hTI:IsPair s.heap TI (Value.ref i1) (Value.ref i2))(hTO:IsPair s.heap TO a b)
  (h1:s.heap.IsTupleIter i1 l1 k1) (h2:s.heap.IsTupleIter i2 l2 k2) (hl1:s.heap.IsTuple l1 xs) (hl2:s.heap.IsTuple l2 ys) (hx:xs[k1]?=some x) (hy:ys[k2]?=some y)
  (hQ:∀h':Heap,IsZip h' z TI TO (rawInt s.heap.objs.size)->IsPair h' TO x y->h'.IsTupleIter i1 l1 (k1+1)->h'.IsTupleIter i2 l2 (k2+1)->IsPair h' s.heap.objs.size x y->h'.objs.size=s.heap.objs.size+1->(∀c o,c≠z->c≠TO->c≠i1->c≠i2->s.heap.get? c=some o->h'.get? c=some o)->Q (some (Value.ref s.heap.objs.size)) { s with heap:=h' }) :
  wpAny (model prog w) A (pyNext (Value.ref z)) Q E s:=by
 have hT:∃o,s.heap.get? z=some o/\o.cls=Value.type "zip" := ⟨_,hz,rfl⟩;exact wpAny_bind (wpAny_attempt (wpAny_callSpecial?_slot hT F.slot_zip_next (wpAny_call_entry F.slot_zip_next hT F.entry_zip_next
  (xO D hz hTI hTO h1 h2 hl1 hl2 hx hy fun h' a1 a2 a3 a4 a5 a6 a7=>wpAny_pure (hQ h' a1 a2 a3 a4 a5 a6 a7)) (F.args_zip_next_1 (Value.ref z)))))
theorem Ak {prog:Program}{w:World}{A:Around}{E:Value->Shared->Prop}{s:Shared}{z TI TO i1 i2 l1 l2:Addr}{k1 k2:Nat}{xs ys:Array Value}{a b:Value}{Q:PySem.Fin->Shared->Prop}(hh:A.handled=none)(D:ZipApart z TI TO i1 i2 l1 l2)(hz:IsZip s.heap z TI TO Value.none)(hTI:IsPair s.heap TI (Value.ref i1) (Value.ref i2))(hTO:IsPair s.heap TO a b)
  (h1:s.heap.IsTupleIter i1 l1 k1) (h2:s.heap.IsTupleIter i2 l2 k2) (hl1:s.heap.IsTuple l1 xs) (hl2:s.heap.IsTuple l2 ys) (hend:xs[k1]?=none\/ys[k2]?=none)
  (hE:∀(h':Heap)(e:Addr),(∀c o,c≠z->c≠TO->c≠i1->c≠i2->s.heap.get? c=some o->h'.get? c=some o)->(∃o,h'.get? e=some o/\o.cls=Value.type "StopIteration")->E (Value.ref e) { s with heap:=h' }) :
  wpAny (model prog w) A (Builtin.«zip.__next__» { pos:=[Value.ref z] }) Q E s:=by
 show wpAny _ _ (field (Value.ref z) 2 >>= _) _ _ _;refine wpAny_bind (wpAny_field hz rfl rfl ?_);show wpAny _ _ (field (Value.ref z) 3 >>= _) _ _ _;refine wpAny_bind (wpAny_field hz rfl rfl ?_);refine wpAny_bind (wpAny_seqItems hTI rfl ?_);show wpAny _ _ (Builtin.SmallTypes.ownedTupleIsFree (Value.ref z) >>= _) _ _ _;refine wpAny_bind ?_;show wpAny _ _ (field (Value.ref z) 0 >>= _) _ _ _;refine wpAny_bind (wpAny_field hz rfl rfl (wpAny_pure ?_));show wpAny _ _ (rule _ >>= _) _ _ _;refine wpAny_bind (wpAny_rule (wpAny_bind (wpAny_field hz rfl rfl ?_)));show wpAny _ _ (setField (Value.ref z) 0 Value.ellipsis >>= _) _ _ _;refine wpAny_bind (wpAny_setField_rec hz (Nat.lt_of_sub_pos (Nat.zero_lt_succ 4)) fun h₁ hz₁ hs₁=>?_);have old1:∀c o,c≠z->s.heap.get? c=some o->h₁.get? c=some o:=fun c o hc e=>(hs₁.2 c hc).trans e;have h1a:h₁.IsTupleIter i1 l1 k1:=h1.at fun o e=>old1 i1 o D.i1z e;have tup:∀{h:Heap}{l:Addr}{vs:Array Value},s.heap.IsTuple l vs->(∀o,s.heap.get? l=some o->h.get? l=some o)->h.IsTuple l vs:=fun⟨o,e,r⟩ k=>⟨o,k o e,r⟩;have out:∀{h:Heap}{e:Addr}{vs:Array Value},h.get? z=some { cls:=Value.type "zip",data:=Data.fields vs }->0<vs.size->(∀c o,c≠z->c≠TO->c≠i1->c≠i2->s.heap.get? c=some o->h.get? c=some o)->(∃o,h.get? e=some o/\o.cls=Value.type "StopIteration") ->
   wpAny (model prog w) A (setField (Value.ref z) 0 Value.none) (fun _ s''=>E (Value.ref e) s'') E { s with heap:=h }:=fun {h e vs} ez hv hk he=>by
  refine wpAny_setField_rec (s:={ s with heap:=h }) ez hv fun h' _ hs=>hE h' e (fun c o c1 c2 c3 c4 g=>(hs.2 c c1).trans (hk c o c1 c2 c3 c4 g)) ?_;obtain⟨o,ho,hc⟩:=he;refine⟨o,(hs.2 e fun q=>?_).trans ho,hc⟩;rw[q,ez] at ho;cases ho;injection hc with hc;exact absurd hc δ
 refine wpAny_bind ?_;show wpAny _ _ (forIn [(Value.ref i1,0),(Value.ref i2,1)] (none,()) _) _ _ _;rw[forIn_cons];refine wpAny_bind ?_;show wpAny _ _ ((Sem.onRaise (Builtin.SmallTypes.nextOf (Value.ref i1) >>= fun v=>pure (some v)) (fun _=>setField (Value.ref z) 0 Value.none)) >>= _) _ _ _;cases hx:xs[k1]? with
 | none=>
  refine wpAny_bind (wpAny_onRaise (wpAny_bind (mV (s:={ s with heap:=h₁ }) hh h1a (tup hl1 fun o e=>old1 l1 o D.l1z e) hx fun h₂ e ext he=>?_)));exact out (h:=h₂) (ext z _ (Ne.symm D.i1z) hz₁) (Nat.lt_of_sub_pos (Nat.zero_lt_succ 4)) (fun c o c1 c2 c3 c4 g=>ext c o c3 (old1 c o c1 g)) he
 | some x=>
  have hy:ys[k2]?=none:=by
   rcases hend with q|q
   ·rw[hx] at q;cases q
   ·exact q
  refine wpAny_bind (wpAny_onRaise (wpAny_bind (iG (s:={ s with heap:=h₁ }) h1a (tup hl1 fun o e=>old1 l1 o D.l1z e) hx fun h₂ h1b sb₂=>wpAny_pure ?_)));have old2:∀c o,c≠z->c≠i1->s.heap.get? c=some o->h₂.get? c=some o:=fun c o hc hc1 e=>(sb₂.2 c hc1).trans (old1 c o hc e);have hTO2:IsPair h₂ TO a b:=old2 TO _ D.TOz D.TOi1 hTO;show wpAny _ _ (seqItems? (Value.ref TO) >>= _) _ _ _;refine wpAny_bind (wpAny_seqItems (s:={ s with heap:=h₂ }) hTO2 rfl ?_);show wpAny _ _ (updateSeq TO _ >>= _) _ _ _;refine wpAny_bind (wpAny_updateSeq_pair (s:={ s with heap:=h₂ }) hTO2 fun h₃ g₃ sb₃=>?_);refine wpAny_bind (wpAny_letGo (wpAny_pure ?_));show wpAny _ _ (forIn [(Value.ref i2,1)] (none,()) _) _ _ _;rw[forIn_cons];refine wpAny_bind ?_;have old3:∀c o,c≠z->c≠i1->c≠TO->s.heap.get? c=some o->h₃.get? c=some o:=fun c o hc hc1 hc2 e=>(sb₃.2 c hc2).trans (old2 c o hc hc1 e);have h2c:h₃.IsTupleIter i2 l2 k2:=h2.at fun o e=>old3 i2 o D.i2z (Ne.symm D.i12) (Ne.symm D.TOi2) e;have z3:h₃.get? z=_:=(sb₃.2 z (Ne.symm D.TOz)).trans ((sb₂.2 z (Ne.symm D.i1z)).trans hz₁);show wpAny _ _ ((Sem.onRaise (Builtin.SmallTypes.nextOf (Value.ref i2) >>= fun v=>pure (some v)) (fun _=>setField (Value.ref z) 0 Value.none)) >>= _) _ _ _;refine wpAny_bind (wpAny_onRaise (wpAny_bind (mV (s:={ s with heap:=h₃ }) hh h2c (tup hl2 fun o e=>old3 l2 o D.l2z D.l2i1 D.l2TO e) hy fun h₄ e ext he=>?_)));exact out (h:=h₄) (ext z _ (Ne.symm D.i2z) z3) (Nat.lt_of_sub_pos (Nat.zero_lt_succ 4)) (fun c o c1 c2 c3 c4 g=>ext c o c4 (old3 c o c1 c3 c2 g)) he
theorem oN {prog:Program}{w:World}{A:Around}{E:Value->Shared->Prop}{s:Shared}{z TI TO i1 i2 l1 l2:Addr}{k1 k2:Nat}{xs ys:Array Value}{a b:Value}{Q:Option Value->Shared->Prop}(hh:A.handled=none)(D:ZipApart z TI TO i1 i2 l1 l2)(hz:IsZip s.heap z TI TO Value.none)(hTI:IsPair s.heap TI (Value.ref i1) (Value.ref i2))(hTO:IsPair s.heap TO a b)
  (h1:s.heap.IsTupleIter i1 l1 k1) (h2:s.heap.IsTupleIter i2 l2 k2) (hl1:s.heap.IsTuple l1 xs) (hl2:s.heap.IsTuple l2 ys) (hend:xs[k1]?=none\/ys[k2]?=none)
  (hQ:∀h':Heap,(∀c o,c≠z->c≠TO->c≠i1->c≠i2->s.heap.get? c=some o->h'.get? c=some o)->Q none { s with heap:=h' }):wpAny (model prog w) A (pyNext (Value.ref z)) Q E s:=by
 have hT:∃o,s.heap.get? z=some o/\o.cls=Value.type "zip" := ⟨_,hz,rfl⟩;exact wpAny_bind (wpAny_attempt (wpAny_callSpecial?_slot hT F.slot_zip_next (wpAny_call_entry F.slot_zip_next hT F.entry_zip_next
  (Ak hh D hz hTI hTO h1 h2 hl1 hl2 hend fun h' e hk he=>by
   obtain⟨o,ho,hc⟩:=he;exact wpAny_bind (wpAny_isInstance ⟨o,ho,hc⟩ isSubtype_stop (wpAny_pure (hQ h' hk)))) (F.args_zip_next_1 (Value.ref z)))))
def tz1 (h:Heap) (l1:Addr):Heap:=h.push { cls:=Value.type "tuple_iterator",data:=Data.fields #[Value.ref l1,Value.int 0 0] }
def tz2 (h:Heap) (l1 l2:Addr):Heap:=(tz1 h l1).push { cls:=Value.type "tuple_iterator",data:=Data.fields #[Value.ref l2,Value.int 0 0] }
def tz3 (h:Heap) (l1 l2:Addr):Heap:=(tz2 h l1 l2).push { cls:=Value.type "tuple",data:=Data.seq #[Value.ref h.objs.size,Value.ref (tz1 h l1).objs.size] }
def tz4 (h:Heap) (l1 l2:Addr):Heap:=(tz3 h l1 l2).push { cls:=Value.type "tuple",data:=Data.seq #[Value.none,Value.none] }
def tz5 (h:Heap) (l1 l2:Addr):Heap:=(tz4 h l1 l2).push { cls:=Value.type "zip",data:=Data.fields #[Value.none,Value.bool false,Value.bool false,Value.ref (tz2 h l1 l2).objs.size,Value.ref (tz3 h l1 l2).objs.size] }
theorem O8 (l1 l2:Addr) (xs ys:Array Value):Meets (Builtin.«zip.__new__» { pos:=[Value.type "zip",Value.ref l1,Value.ref l2] }) fun _ R s=>
  s.heap.IsTuple l1 xs/\s.heap.IsTuple l2 ys/\R (.ok (.ret (.ref (tz4 s.heap l1 l2).objs.size))) { s with heap:=tz5 s.heap l1 l2 }:=by
 refine Meets.of_wp fun prog w A R s h=>?_;obtain⟨ht1,ht2,hR⟩:=h;unfold Builtin.«zip.__new__» Builtin.SmallTypes.newClass;refine wpAny_bind (wpAny_bind (wpAny_pure (wpAny_ite_false rfl (wpAny_bind (wpAny_of_eq sub_zip (wpAny_ite_false rfl (wpAny_pure ?_)))))));show wpAny _ _ (Builtin.SmallTypes.iterAll [Value.ref l1,Value.ref l2] >>= _) _ _ _;refine wpAny_bind ?_;unfold Builtin.SmallTypes.iterAll;refine wpAny_bind ?_;rw[forIn_cons];refine wpAny_bind (wpAny_bind (wpAny_holding (wpAny_pyIter_tuple ht1 (wpAny_pure ?_))));show wpAny _ _ (forIn [Value.ref l2] #[Value.ref s.heap.objs.size] _) _ _ _;rw[forIn_cons];have ht2':(tz1 s.heap l1).IsTuple l2 ys:=by
  obtain⟨o,e,r⟩:=ht2;exact⟨o,get?_push_of_some _ e,r⟩
 refine wpAny_bind (wpAny_bind (wpAny_holding (wpAny_pyIter_tuple (s:={ s with heap:=tz1 s.heap l1 }) ht2' (wpAny_pure ?_))));show wpAny _ _ (forIn [] #[Value.ref s.heap.objs.size,Value.ref (tz1 s.heap l1).objs.size] _) _ _ _;rw[forIn_nil];refine wpAny_pure (wpAny_pure ?_);show wpAny _ _ (newTuple [Value.ref s.heap.objs.size,Value.ref (tz1 s.heap l1).objs.size] >>= _) _ _ { s with heap:=tz2 s.heap l1 l2 };refine wpAny_bind (wpAny_newTuple ?_ (by show 2<=sizeLine;decide));show wpAny _ _ (newTuple [Value.none,Value.none] >>= _) _ _ { s with heap:=tz3 s.heap l1 l2 };refine wpAny_bind (wpAny_newTuple ?_ (by show 2<=sizeLine;decide));show wpAny _ _ (newObj (.type "zip") (.fields #[.none,.bool false,.bool false,.ref (tz2 s.heap l1 l2).objs.size,.ref (tz3 s.heap l1 l2).objs.size]) >>= fun r=>ret r) _ _ { s with heap:=tz4 s.heap l1 l2 };refine wpAny_bind (wpAny_newObj_type ?_);exact wpAny_pure ⟨_,rfl,hR⟩
theorem G8 {prog:Program}{w:World}{A:Around}{E:Value->Shared->Prop}{s:Shared}{l1 l2:Addr}{xs ys:Array Value}{Q:Value->Shared->Prop}(hl1:s.heap.IsTuple l1 xs)(hl2:s.heap.IsTuple l2 ys)
  (h:∀h':Heap,IsZip h' (s.heap.objs.size+4) (s.heap.objs.size+2) (s.heap.objs.size+3) Value.none->IsPair h' (s.heap.objs.size+2) (Value.ref s.heap.objs.size) (Value.ref (s.heap.objs.size+1))->IsPair h' (s.heap.objs.size+3) Value.none Value.none->h'.IsTupleIter s.heap.objs.size l1 0->h'.IsTupleIter (s.heap.objs.size+1) l2 0 ->
   h'.objs.size=s.heap.objs.size+5->(∀c o,s.heap.get? c=some o->h'.get? c=some o)->Q (Value.ref (s.heap.objs.size+4)) { s with heap:=h' }):wpAny (model prog w) A (call (Value.type "zip") [Value.ref l1,Value.ref l2]) Q E s:=by
 refine callType_new F.called_zip δ (F.typeCall_zip_2 _ _) (F.newCall_zip_2 _ _) (fun obj=>F.args_object_init_3 obj _ _) F.entry_zip_new (O8 l1 l2 xs ys) ⟨hl1,hl2,?_⟩;have z1:(tz1 s.heap l1).objs.size=s.heap.objs.size+1:=size_push ..;have z2:(tz2 s.heap l1 l2).objs.size=s.heap.objs.size+2:=(size_push ..).trans (by rw[z1]);have z3:(tz3 s.heap l1 l2).objs.size=s.heap.objs.size+3:=(size_push ..).trans (by rw[z2]);have z4:(tz4 s.heap l1 l2).objs.size=s.heap.objs.size+4:=(size_push ..).trans (by rw[z3]);have z5:(tz5 s.heap l1 l2).objs.size=s.heap.objs.size+5:=(size_push ..).trans (by rw[z4]);have g5:(tz5 s.heap l1 l2).get? (tz4 s.heap l1 l2).objs.size=_:=get?_push_size _ rfl;have g4:(tz5 s.heap l1 l2).get? (tz3 s.heap l1 l2).objs.size=_:=get?_push_of_some _ (get?_push_size _ rfl);have g3:(tz5 s.heap l1 l2).get? (tz2 s.heap l1 l2).objs.size=_:=get?_push_of_some _ (get?_push_of_some _ (get?_push_size _ rfl));have g2:(tz5 s.heap l1 l2).get? (tz1 s.heap l1).objs.size=_:=get?_push_of_some _ (get?_push_of_some _ (get?_push_of_some _ (get?_push_size _ rfl)));have g1:(tz5 s.heap l1 l2).get? s.heap.objs.size=_:=get?_push_of_some _ (get?_push_of_some _ (get?_push_of_some _ (get?_push_of_some _ (get?_push_size _ rfl))));have hk:∀c o,s.heap.get? c=some o->(tz5 s.heap l1 l2).get? c=some o:=fun c o e=>get?_push_of_some _ (get?_push_of_some _ (get?_push_of_some _ (get?_push_of_some _ (get?_push_of_some _ e))));rw[z4,z2,z3] at g5;rw[z3] at g4;rw[z2,z1] at g3;rw[z1] at g2;rw[z4];generalize tz5 s.heap l1 l2=h' at z5 g5 g4 g3 g2 g1 hk;exact⟨⟨_,g5,rfl⟩,h h' g5 g3 g4 ⟨_,g1,rfl,rfl⟩ ⟨_,g2,rfl,rfl⟩ z5 hk⟩
def Itu (K:PySem.W.Frag)(a b:Addr):It:=
 ⟨fun i H=>∃xs ys x y,SqT K H a xs/\SqT K H b ys/\xs[i]?=some x/\ys[i]?=some y,
  fun i H v H'=>∃p x y,v=.ref p/\H p=none/\H'=upd H p (.tup [x,y])/\(∀xs,SqT K H a xs->xs[i]?=some x)/\∀ys,SqT K H b ys->ys[i]?=some y,
  fun i H=>∃xs ys,SqT K H a xs/\SqT K H b ys/\(xs[i]?=none\/ys[i]?=none)⟩
theorem Mf {P:Program}{w:World}{K:PySem.W.Frag}{es:List Expr}{kk:Nat}{tpos:Pos}{z TI TO i1 i2 l1 l2:Addr}(D:ZipApart z TI TO i1 i2 l1 l2) :
  Turn P w K (.Tuple es kk tpos) (Itu K l1 l2) [z,TI,TO,i1,i2] z (fun i h=>IsZip h z TI TO .none/\IsPair h TI (.ref i1) (.ref i2)/\(∃a b,IsPair h TO a b)/\h.IsTupleIter i1 l1 i/\h.IsTupleIter i2 l2 i) where
 mem:=by simp
 obj:=fun i h st b hb=>by
  obtain⟨hz,hTI,⟨a,b',hTO⟩,⟨o1,e1,c1,d1⟩,⟨o2,e2,c2,d2⟩⟩:=st;simp only[mem_cons,not_mem_nil,or_false] at hb;rcases hb with rfl|rfl|rfl|rfl|rfl
  ·exact⟨_,hz,fun v q=>by cases q⟩
  ·exact⟨_,hTI,fun v q=>by cases q⟩
  ·exact⟨_,hTO,fun v q=>by cases q⟩
  ·exact⟨o1,e1,fun v q=>by rw[d1] at q;cases q⟩
  ·exact⟨o2,e2,fun v q=>by rw[d2] at q;cases q⟩
 keep:=fun i h h' st k=>by
  obtain⟨hz,hTI,⟨a,b',hTO⟩,h1,h2⟩:=st;exact⟨k z (by simp) _ hz,k TI (by simp) _ hTI,⟨a,b',k TO (by simp) _ hTO⟩,h1.at fun o e=>k i1 (by simp) o e,h2.at fun o e=>k i2 (by simp) o e⟩
 item:=by
  intro X hP hw hK hc i pins s σ H E I hf st hg;subst hP hw hK;obtain⟨xs,ys,x,y,q1,q2,hx,hy⟩:=hg;obtain⟨its1,rv1,p1,hz1⟩:=I.tuple q1;obtain⟨its2,rv2,p2,hz2⟩:=I.tuple q2;obtain⟨u1,hu1,ru1⟩:=rv1.get hx;obtain⟨u2,hu2,ru2⟩:=rv2.get hy;obtain⟨hz,hTI,⟨a,b',hTO⟩,h1,h2⟩:=st;refine nu D hz hTI hTO h1 h2 p1 p2 (x:=u1) (y:=u2) (by simpa using hu1) (by simpa using hu2) fun h' a1 a2 a3 a4 a5 a6 hk=>?_;have new:cO X.prog X.w (upd H s.heap.objs.size (.tup [x,y])) h' s.heap.objs.size (.tup [x,y]):=⟨by show 2<=sizeLine;decide,[u1,u2],.cons ru1 (.cons ru2 .nil),_,a5,rfl,_,rfl⟩;have I1:Inv X pins σ (upd H s.heap.objs.size (.tup [x,y])) { s with heap:=h' }:=I.Pj (t':=s.toks) (ch:=[z,TO,i1,i2]) (fun b hb=>hf b (by
   simp only[mem_cons,not_mem_nil,or_false] at hb |-;rcases hb with r|r|r|r <;> simp [r]))
   (fun b o hb e=>hk b o (fun q=>hb (by simp [q])) (fun q=>hb (by simp [q])) (fun q=>hb (by simp [q])) (fun q=>hb (by simp [q])) e) (Nat.le_refl _) new
  have hTI':IsPair h' TI (.ref i1) (.ref i2):=hk _ _ D.TIz D.TITO D.TIi1 D.TIi2 hTI;have hsz:∀b,b∈[z,TI,TO,i1,i2]->b≠s.heap.objs.size:=fun b hb=>by
   obtain⟨_,_,hlt,_⟩:=hf b hb;have lt:∃o,s.heap.get? b=some o:=by
    simp only[mem_cons,not_mem_nil,or_false] at hb;rcases hb with rfl|rfl|rfl|rfl|rfl
    ·exact⟨_,hz⟩
    ·exact⟨_,hTI⟩
    ·exact⟨_,hTO⟩
    ·obtain⟨o,e,_⟩:=h1;exact⟨o,e⟩
    ·obtain⟨o,e,_⟩:=h2;exact⟨o,e⟩
   obtain⟨o,e⟩:=lt;exact Nat.ne_of_lt (lt_size e)
  refine⟨_,rfl,wpAny_letOwnedTupleGo_zip (s:={ s with heap:=h' }) a1 fun h'' z2 sb=>?_⟩;have fz:=hf z (by simp);have I2:Inv X pins σ (upd H s.heap.objs.size (.tup [x,y])) { s with heap:=h'' }:=Inv.turned (s:={ s with heap:=h' }) (it:=z) (t':=s.toks) I1 (fun b o hb e=>(sb.2 b hb).trans e) (by rw[aH (hsz z (by simp))];exact fz.1) fz.2.1 fz.2.2.2.1 fz.2.2.2.2.1 fz.2.2.2.2.2;refine⟨.ref s.heap.objs.size,_,I2,rfl,⟨_,x,y,rfl,I.fresh,rfl,fun xs' q=>by rw[I.vz q q1];exact hx,fun ys' q=>by rw[I.vz q q2];exact hy⟩,
   ⟨z2,(sb.2 _ D.TIz).trans hTI',⟨_,_,(sb.2 _ D.TOz).trans a2⟩,a3.extBut sb.extBut D.i1z,a4.extBut sb.extBut D.i2z⟩,fun b hb=>by rw[aH (hsz b hb)];exact(hf b hb).1⟩
 done:=by
  intro X hP hw hK hc i pins s σ H E I hf st hg;subst hP hw hK;obtain⟨xs,ys,q1,q2,hx⟩:=hg;obtain⟨its1,rv1,p1,hz1⟩:=I.tuple q1;obtain⟨its2,rv2,p2,hz2⟩:=I.tuple q2;obtain⟨hz,hTI,⟨a,b',hTO⟩,h1,h2⟩:=st;have hend:its1.toArray[i]?=none\/its2.toArray[i]?=none:=by
   rcases hx with r|r
   ·exact .inl (by simpa using rv1.none_of r)
   ·exact .inr (by simpa using rv2.none_of r)
  refine oN (I.ok.hd hc) D hz hTI hTO h1 h2 p1 p2 hend fun h' hk=>⟨rfl,?_⟩;exact I.Pk (t':=s.toks) (ch:=[z,TO,i1,i2]) (fun b hb=>hf b (by
   simp only[mem_cons,not_mem_nil,or_false] at hb |-;rcases hb with r|r|r|r <;> simp [r]))
   (fun b o hb e=>hk b o (fun q=>hb (by simp [q])) (fun q=>hb (by simp [q])) (fun q=>hb (by simp [q])) (fun q=>hb (by simp [q])) e)
 self:=fun _ _ _ _ _ st h=>wpAny_pyIter_zip st.1 h
def zpq (K:PySem.W.Frag)(o1 o2:Option HO)(a b:Addr)(H:Hp)(R:It->Hp->Prop):Prop:=match o1,o2 with
 | some (.lst _),some (.lst _)=>R (Itz K a b) H
 | some (.tup _),some (.tup _)=>R (Itu K a b) H
 | _,_=>False
def zpK (K:PySem.W.Frag)(vs:List V)(H:Hp)(R:It->Hp->Prop):Prop:=match vs with
 | [.ref a,.ref b]=>zpq K (H a) (H b) a b H R
 | _=>False
def Uj (K:PySem.W.Frag)(ta:TA):TI:=fun σ H R=>ta σ H fun vs H1=>zpK K vs H1 R
theorem Ui (K:PySem.W.Frag)(ta:TA)(σ:St)(H:Hp)(R:It->Hp->Prop):Uj K ta σ H R=ta σ H fun vs H1=>zpK K vs H1 R:=rfl
theorem ZV (K:PySem.W.Frag)(a b:Addr)(H:Hp)(R:It->Hp->Prop):zpK K [.ref a,.ref b] H R=zpq K (H a) (H b) a b H R:=rfl
theorem ZS (K:PySem.W.Frag)(xs ys:List V)(a b:Addr)(H:Hp)(R:It->Hp->Prop):zpq K (some (.lst xs)) (some (.lst ys)) a b H R=R (Itz K a b) H:=rfl
theorem ZR (K:PySem.W.Frag)(xs ys:List V)(a b:Addr)(H:Hp)(R:It->Hp->Prop):zpq K (some (.tup xs)) (some (.tup ys)) a b H R=R (Itu K a b) H:=rfl
section
variable {X:Cx}
theorem Xd {es:List Expr}{kk:Nat}{tpos:Pos}{a b:Expr}{ta:TA}{p pos:Pos}(hg:Gl X "zip") (hm:X.mg "zip" = none) (ha:PA X [a,b] ta) (hs:starEach [a,b] X.env=[(false,eval a X.env),(false,eval b X.env)]:=by rfl) (hs2:starEach [b] X.env=[(false,eval b X.env)]:=by rfl) :
  PI X (.Tuple es kk tpos) (.Call (.Name "zip" p) [a,b] [] pos) (Uj X.K ta):=by
 intro pins s σ H R I h;refine Call_ (lE I hg hm boot_zip (PyProof.Rows.callWith_type1 (thA (ha pos pins s σ H _ I h) fun us s1 vs H1 I1 r1 q1=>?_) (by rw[hs,hs2]) (by rw[hs2];rfl)));replace q1:zpK X.K vs H1 R:=q1;unfold zpK at q1;split at q1
 ·rename_i l1 l2;unfold zpq at q1;cases r1 with
  | cons r rr=>
   cases rr with
   | cons r' rr=>
    cases rr;cases r;cases r';have apart:l1<s1.heap.objs.size->l2<s1.heap.objs.size->ZipApart (s1.heap.objs.size+4) (s1.heap.objs.size+2) (s1.heap.objs.size+3) s1.heap.objs.size (s1.heap.objs.size+1) l1 l2:=by
     generalize s1.heap.objs.size=n;intro lt1 lt2;have lt1':@LT.lt Nat _ l1 n:=lt1;have lt2':@LT.lt Nat _ l2 n:=lt2;constructor <;> (intro(z:@Eq Nat _ _);omega)
    have fp:∀b∈[s1.heap.objs.size+4,s1.heap.objs.size+2,s1.heap.objs.size+3,s1.heap.objs.size,s1.heap.objs.size+1],tM X pins H1 b:=fun b hb=>by
     have hle:s1.heap.objs.size<=b:=by
      simp only[mem_cons,not_mem_nil,or_false] at hb;rcases hb with rfl|rfl|rfl|rfl|rfl <;> simp
     exact I1.Uy hle (I1.hok.fresh hle)
    split at q1
    ·rename_i xs ys e1 e2;obtain⟨its1,rv1,p1,hz1⟩:=I1.list (SqL.of e1);obtain⟨its2,rv2,p2,hz2⟩:=I1.list (SqL.of e2);have lt1:l1<s1.heap.objs.size:=by obtain⟨_,e,_⟩:=p1.isList;exact lt_size e
     have lt2:l2<s1.heap.objs.size:=by obtain⟨_,e,_⟩:=p2.isList;exact lt_size e
     refine call_zip_2 p1.isList p2.isList fun h' b1 b2 b3 b4 b5 b6 hk=>?_;refine wpAny_pyIter_zip (s:={ s1 with heap:=h' }) b1 ?_;exact⟨_,_,_,_,H1,rfl,I1.kept (t':=s1.toks) hk,Pg (apart lt1 lt2),⟨b1,b2,⟨_,_,b3⟩,b4,b5⟩,fp,q1⟩
    ·rename_i xs ys e1 e2;obtain⟨its1,rv1,p1,hz1⟩:=I1.tuple (SqT.of e1);obtain⟨its2,rv2,p2,hz2⟩:=I1.tuple (SqT.of e2);have lt1:l1<s1.heap.objs.size:=by obtain⟨_,e,_⟩:=p1;exact lt_size e
     have lt2:l2<s1.heap.objs.size:=by obtain⟨_,e,_⟩:=p2;exact lt_size e
     refine G8 p1 p2 fun h' b1 b2 b3 b4 b5 b6 hk=>?_;refine wpAny_pyIter_zip (s:={ s1 with heap:=h' }) b1 ?_;exact⟨_,_,_,_,H1,rfl,I1.kept (t':=s1.toks) hk,Mf (apart lt1 lt2),⟨b1,b2,⟨_,_,b3⟩,b4,b5⟩,fp,q1⟩
    ·exact q1.elim
 ·exact q1.elim
theorem Dq {es:List Expr}{kk:Nat}{tpos:Pos}{a b:Expr}{t:TA}{p pos:Pos}(hg:Gl X "zip") (hm:X.mg "zip" = none) (ha:QA X [a,b] t) (hs:starEach [a,b] X.env=[(false,eval a X.env),(false,eval b X.env)]:=by rfl) (hs2:starEach [b] X.env=[(false,eval b X.env)]:=by rfl):QI X (.Tuple es kk tpos) (.Call (.Name "zip" p) [a,b] [] pos) (Uj X.K t):=⟨Xd hg hm ha.h hs hs2⟩
end
def tR (n:Nat):Sp:=fun vs H Q _=>∃x y ok d,vs=[x,y]/\bC ok H x d/\bC ok H y d/\d.depth<n/\∀H',Same H H'->Q (.bl true) H'
theorem Cg {d:PyData}{ds:List PyData}(h:d∈ds):d.depth<(PyData.list ds).depth/\d.depth<(PyData.tuple ds).depth:=by
 have:=vf h;rw[PyData.depth.eq_1,PyData.depth.eq_2];omega
section
variable {K:PySem.W.Frag}{mp:List (Option Nat)}{g:TG}{tc:TT}{te:TE}{σ:St}{H:Hp}{Q:VK}{R:It->Hp->Prop}
theorem YW {a b:Addr}{xs ys:List V}(hR:R=Bk mp g tc te σ Q)(hz:xs.length<=sizeLine)(hl2:xs.length=ys.length)(Pv:Nat->List V->St->Hp->Prop)(h0:Pv 0 [] (jh mp σ) H)(hl:∀i acc τ H,Pv i acc τ H->acc.length<=i)
  (hq:∀i acc τ H,Pv i acc τ H->H a=some (.lst xs)/\H b=some (.lst ys))
  (hs:∀i x y acc τ H p,xs[i]?=some x->ys[i]?=some y->Pv i acc τ H->H p=none->g (.ref p) τ (upd H p (.tup [x,y])) fun τ1 H4=>tc τ1 H4 fun b H5=>if b=true then te τ1 H5 fun v H6=>Pv (i+1) (acc++[v]) τ1 H6 else Pv (i+1) acc τ1 H5)
  (hd:∀acc τ H d,Pv xs.length acc τ H->H d=none->Q (.ref d) (upd H d (.lst acc))):R (Itz K a b) H:=by
 refine qX hR xs.length hz Pv h0 hl (fun i acc τ H hi p=>?_) (fun acc τ H p=>?_) (fun i acc τ H x H3 hi p y=>?_) hd
 ·obtain⟨e1,e2⟩:=hq i acc τ H p;exact⟨xs,ys,_,_,SqL.of e1,SqL.of e2,getElem?_eq_getElem hi,getElem?_eq_getElem ω⟩
 ·obtain⟨e1,e2⟩:=hq _ acc τ H p;exact⟨xs,ys,SqL.of e1,SqL.of e2,.inl (getElem?_eq_none (Nat.le_refl _))⟩
 ·obtain⟨e1,e2⟩:=hq i acc τ H p;obtain⟨q,x1,y1,rfl,hq1,rfl,hx,hy⟩:=y;exact hs i x1 y1 acc τ H q (hx _ (SqL.of e1)) (hy _ (SqL.of e2)) p hq1
theorem YT {a b:Addr}{xs ys:List V}(hR:R=Bk mp g tc te σ Q)(hz:xs.length<=sizeLine)(hl2:xs.length=ys.length)(Pv:Nat->List V->St->Hp->Prop)(h0:Pv 0 [] (jh mp σ) H)(hl:∀i acc τ H,Pv i acc τ H->acc.length<=i)
  (hq:∀i acc τ H,Pv i acc τ H->H a=some (.tup xs)/\H b=some (.tup ys))
  (hs:∀i x y acc τ H p,xs[i]?=some x->ys[i]?=some y->Pv i acc τ H->H p=none->g (.ref p) τ (upd H p (.tup [x,y])) fun τ1 H4=>tc τ1 H4 fun b H5=>if b=true then te τ1 H5 fun v H6=>Pv (i+1) (acc++[v]) τ1 H6 else Pv (i+1) acc τ1 H5)
  (hd:∀acc τ H d,Pv xs.length acc τ H->H d=none->Q (.ref d) (upd H d (.lst acc))):R (Itu K a b) H:=by
 refine qX hR xs.length hz Pv h0 hl (fun i acc τ H hi p=>?_) (fun acc τ H p=>?_) (fun i acc τ H x H3 hi p y=>?_) hd
 ·obtain⟨e1,e2⟩:=hq i acc τ H p;exact⟨xs,ys,_,_,SqT.of e1,SqT.of e2,getElem?_eq_getElem hi,getElem?_eq_getElem ω⟩
 ·obtain⟨e1,e2⟩:=hq _ acc τ H p;exact⟨xs,ys,SqT.of e1,SqT.of e2,.inl (getElem?_eq_none (Nat.le_refl _))⟩
 ·obtain⟨e1,e2⟩:=hq i acc τ H p;obtain⟨q,x1,y1,rfl,hq1,rfl,hx,hy⟩:=y;exact hs i x1 y1 acc τ H q (hx _ (SqT.of e1)) (hy _ (SqT.of e2)) p hq1
end
def scV:PyData->Option V
 | .int i=>some (.int i)
 | .str z=>some (.str z)
 | _=>none
theorem bC.sc {ok:Addr->Prop}{H:Hp}{x v:V}{d:PyData}(t:bC ok H x d)(h:scV d=some v):x=v:=by
 cases t with
 | int i=>exact Option.some.inj h
 | str z=>exact Option.some.inj h
 | _=>cases h
theorem aQ.sc {ok:Addr->Prop}{H:Hp}:∀{xs vs:List V}{ds:List PyData},aQ ok H xs ds->ds.map scV=vs.map some->xs=vs
 | _,[],_,.nil,_=>rfl
 | _,v::vs,_,.nil,h=>by cases h
 | _,[],_,.cons _ _,h=>by cases h
 | _,v::vs,_,.cons t ts,h=>by
  rw[map_cons,map_cons] at h;injection h with h1 h2;rw[t.sc h1,ts.sc h2]
section
variable {X:Cx}{e o:Expr}{te to:TE}{pos:Pos}
end
theorem WN (K:PySem.W.Frag){X:Cx}{tg l:Expr}{tl:TE}(hl:QE X l tl)(hK:X.K=K:=by rfl):QI X tg l (Lb K tl):=by
 subst hK;exact cN hl
theorem qH:entryFor table "dict.update.loop" = some Builtin.«dict.update.loop»:=entryFor_of_tree (by rfl)
theorem Mt {K:Type}[DecidableEq K](kvs:List (K×Value))(k:K)(v:Value):(stored kvs k v).length<=kvs.length+1:=by
 unfold stored;split
 ·rw[length_map];omega
 ·rw[length_append];simp
def key2 (a b:Int):List Key:=[Sum.inl a,Sum.inl b]
open PySem.W (Frag clsIn findIn takerIn InstAt looks_clsIn looks_findIn looks_takesIn Looks check_slot looks_mroIn mroIn set_plain osa_eq)
open Builtin Builtin.ObjectAttr
open PySem.W (Frag clsIn findIn takerIn InstAt looks_clsIn looks_findIn looks_takesIn Looks check_slot looks_mroIn mroIn handedIn handedOut_of)
open PySem.W (Frag clsIn findIn takerIn InstAt looks_clsIn looks_findIn looks_takesIn looks_specialIn specialIn takesIn Looks check_slot looks_mroIn mroIn handedIn handedOut_of class_get KitX)
open Builtin
mutual
def noL:PyData->Bool
 | .list _=>false
 | .tuple ds=>ach ds
 | _=>true
def ach:List PyData->Bool
 | []=>true
 | d::ds=>noL d&&ach ds
end
section
variable {X:Cx}{o e i:Expr}{to te td ty:TE}{pos:Pos}
theorem aao {pos:Pos}:QE X (.Dict [] [] pos) Ij:=⟨R0⟩
end
section
variable {X:Cx}{e o:Expr}{te to:TE}{pos:Pos}
def Wo (ob:Option HO)(l:Addr)(H:Hp)(Q:VK):Prop:=match ob with
 | some (.lst xs)=>Q .non (upd H l (.lst xs.reverse))
 | _=>False
def aad (x:V)(H:Hp)(Q:VK):Prop:=match x with
 | .ref l=>Wo (H l) l H Q
 | _=>False
def Zq (to:TE):TE:=fun σ H Q=>to σ H fun x H1=>aad x H1 Q
theorem Pz (to:TE)(σ:St)(H:Hp)(Q:VK):Zq to σ H Q=to σ H fun x H1=>aad x H1 Q:=rfl
theorem QZ (l:Addr)(H:Hp)(Q:VK):aad (.ref l) H Q=Wo (H l) l H Q:=rfl
theorem QX (xs:List V)(l:Addr)(H:Hp)(Q:VK):Wo (some (.lst xs)) l H Q=Q .non (upd H l (.lst xs.reverse)):=rfl
theorem WR {apos cpos:Pos}(ho:QE X o to) (hbase:attributeBase o "reverse" X.env (eval o X.env)=eval o X.env:=by rfl) (hline:(apos.endLine == cpos.line)=true:=by rfl) :
  QE X (.Call (.Attribute o "reverse" apos) [] [] cpos) (Zq to):=⟨by
 intro pins s σ H Q I h;refine wpAny_Call_method0_late hbase hline (thE (ho.h pins s σ H _ I h) fun v s1 x H1 I1 r1 q=>?_);cases x with
 | ref l=>
  replace q:Wo (H1 l) l H1 Q:=q;cases el:H1 l with
  | none=>rw[el] at q;exact q.elim
  | some ob=>
   cases ob with
   | lst xs=>
    rw[el] at q;obtain⟨h1,h2⟩:=HW (T := "list") I1 r1 (.inl ⟨rfl,xs,SqL.of el⟩);exact⟨"list","list.reverse",PySem.F.plainAttrs_list,PySem.F.slot_list_reverse,PySem.F.type_list_reverse,h1,h2,Calls.callWith_builtin rfl (PySem.evalArgs_none (Jr pins s1 σ H1 (.ref l) [] v [] Q I1 r1 .nil ⟨l,xs,rfl,rfl,el,q⟩))⟩
   | _=>rw[el] at q;exact q.elim
 | _=>exact q.elim⟩
theorem Sh:OpR X (compareOp .IsNot) (fun x y H Q=>∃a b,x=.bl a/\y=.bl b/\Q (.bl (!decide (a=b))) H):=by
 intro pins s σ H x y v u Q I rx ry h;obtain⟨a,b,rfl,rfl,q⟩:=h;cases rx;cases ry;cases a <;> cases b <;> exact wpAny_pure ⟨.bl _,H,I,rfl,q⟩
end
theorem ln1 {α:Type}{us:List α}(h:us.length=1):∃a,us=[a]:=by
 cases us with
 | nil=>cases h
 | cons a r=>
  cases r with
  | nil=>exact⟨a,rfl⟩
  | cons b r=>cases h
theorem ln2 {α:Type}{us:List α}(h:us.length=2):∃a0 a1,us=[a0,a1]:=by
 cases us with
 | nil=>cases h
 | cons a0 r=>
  obtain⟨a1,rfl⟩:=ln1 (Nat.succ.inj h);exact⟨a0,a1,rfl⟩
theorem ln3 {α:Type}{us:List α}(h:us.length=3):∃a0 a1 a2,us=[a0,a1,a2]:=by
 cases us with
 | nil=>cases h
 | cons a0 r=>
  obtain⟨a1,a2,rfl⟩:=ln2 (Nat.succ.inj h);exact⟨a0,a1,a2,rfl⟩
theorem ln4 {α:Type}{us:List α}(h:us.length=4):∃a0 a1 a2 a3,us=[a0,a1,a2,a3]:=by
 cases us with
 | nil=>cases h
 | cons a0 r=>
  obtain⟨a1,a2,a3,rfl⟩:=ln3 (Nat.succ.inj h);exact⟨a0,a1,a2,a3,rfl⟩
def tV (i:Nat):TE:=fun σ H Q=>match σ[i]? with
 | some (some x)=>Q x H
 | _=>False
theorem Zo {i:Nat}{σ:St}{H:Hp}{Q:VK}(h:tV i σ H Q):Pu i σ H Q:=by
 unfold tV at h;split at h
 ·rename_i x e;exact⟨x,e,h⟩
 ·exact h.elim
section
variable {X:Cx}{i:Nat}{x:Str}{pos:Pos}
theorem ao (h:Nm X.N X.env.scope i x):QE X (.Name x pos) (tV i):=⟨fun pins s σ H Q I q=>(acN h).h pins s σ H Q I (Zo q)⟩
theorem bI (i:Nat) {x:Str}{pos:Pos}(hN:X.N[i]?=some x:=by rfl) (hv:Vis X.env.scope x:=by first|exact Or.inl rfl|exact Or.inr (Or.inl rfl)|exact Or.inr (Or.inr rfl)) (hd:(x == ("__debug__" : Str))=false:=by decide)
  (hcd:(x == ("__classdict__" : Str))=false:=by decide):QE X (.Name x pos) (tV i):=⟨fun pins s σ H Q I q=>(acM i hN hv hd hcd).h pins s σ H Q I (Zo q)⟩
end
def atq (o:Option V)(H:Hp)(Q:VK):Prop:=∃v,o=some v/\Q v H
theorem Vu (v:V)(H:Hp)(Q:VK):atq (some v) H Q=Q v H:=propext ⟨fun⟨_,e,h⟩=>by cases e;exact h,fun h=>⟨v,rfl,h⟩⟩
theorem Ub (xs:List V)(i:Int)(H:Hp)(Q:VK):ixq (some (.lst xs)) i H Q=atq (atI xs i) H Q:=rfl
theorem Ua (xs:List V)(i:Int)(H:Hp)(Q:VK):ixq (some (.tup xs)) i H Q=atq (atI xs i) H Q:=rfl
theorem aby {b:Bool}{P:Bool->Prop}:(∃k,V.bl b=V.bl k/\P k)=P b:=propext ⟨fun⟨_,e,h⟩=>by cases e;exact h,fun h=>⟨b,rfl,h⟩⟩
theorem YL {a:Int}{P:Int->Prop}:(∃k,V.int a=V.int k/\P k)=P a:=propext ⟨fun⟨_,e,h⟩=>by cases e;exact h,fun h=>⟨a,rfl,h⟩⟩
theorem YK {a b:Int}{P:Int->Int->Prop}:(∃i j,V.int a=V.int i/\V.int b=V.int j/\P i j)=P a b:=propext ⟨fun⟨_,_,e,f,h⟩=>by cases e;cases f;exact h,fun h=>⟨a,b,rfl,rfl,h⟩⟩
theorem YJ {a b:V}{P:V->V->Prop}:(∃i j,[a,b]=[i,j]/\P i j)=P a b:=propext ⟨fun⟨_,_,e,h⟩=>by cases e;exact h,fun h=>⟨a,b,rfl,h⟩⟩
def ry0:=And.intro @Ii.eq_1 (And.intro @wD.eq_1 (And.intro @tOp.eq_1 (And.intro @rI.eq_1 (And.intro @rI0.eq_1 (And.intro @rU.eq_1 (And.intro @tUn.eq_1 (And.intro @tC.eq_1 (And.intro @Fp.eq_1 (And.intro @oU.eq_1 (And.intro @jT.eq_1 (And.intro @xW.eq_1 (And.intro @tCB.eq_1 (And.intro @tIf.eq_1 (And.intro @tB.eq_1 (And.intro @tOr.eq_1 (And.intro @Qg.eq_1 (And.intro @PK.eq_1 (And.intro @PL.eq_1 (And.intro @Mq.eq_1 (And.intro @wW.eq_1 (And.intro @lH.eq_1 (And.intro @YD.eq_1 (And.intro @Oe (And.intro @Yz (And.intro @Ge (And.intro @Rc (And.intro @Rg (And.intro @WM (And.intro @Pr.eq_1 (And.intro @YF @abu))))))))))))))))))))))))))))))
def ry1:=And.intro @Rj (And.intro @MT (And.intro @M4 (And.intro @Wt (And.intro @Ub (And.intro @Ua (And.intro @Wf (And.intro @Ye (And.intro @Yd (And.intro Uc.1 (And.intro Uc.2.1 (And.intro Uc.2.2 (And.intro @Vx (And.intro @ZL (And.intro @acy (And.intro @aB (And.intro @Ro (And.intro @Rm (And.intro @abt (And.intro @Yj (And.intro @T8 (And.intro @abm (And.intro @abl (And.intro @kc_bool (And.intro @ty_int (And.intro @abR (And.intro @ty_str (And.intro @Z0 (And.intro @ZX (And.intro @V7 (And.intro @V6 (And.intro @wX (And.intro @vG (And.intro @ud (And.intro @Dk @FZ))))))))))))))))))))))))))))))))))
def ry2:=And.intro @Dj (And.intro @Aw (And.intro @FW (And.intro @IW (And.intro @IV (And.intro @FT (And.intro @Di (And.intro @Iw (And.intro @FQ (And.intro @Dg (And.intro @Dh (And.intro @Av (And.intro @Ar (And.intro @ye (And.intro @Bool.or_false (And.intro @Bool.or_self (And.intro @Bool.or_true (And.intro @Bool.not_true (And.intro @Bool.not_false (And.intro @Bool.false_eq_true (And.intro @decide_true (And.intro @decide_false (And.intro @Qa.eq_1 (And.intro @rEq.eq_1 (And.intro @rNe.eq_1 @WL))))))))))))))))))))))))
def ry3:=And.intro @WK (And.intro @Eu (And.intro @aaj (And.intro @aak (And.intro @aal (And.intro @aai (And.intro @XQ (And.intro @aam (And.intro @acr (And.intro @MP (And.intro @Wh (And.intro @PN.eq_1 (And.intro @Vw (And.intro @Vv (And.intro @Z7.eq_1 (And.intro @xX.eq_1 (And.intro @QK (And.intro @Wk (And.intro @QF (And.intro @QJ (And.intro @O7.eq_1 (And.intro @Zm.eq_1 (And.intro @ZQ.eq_1 (And.intro @L2.start.eq_1 (And.intro @map_cons.{0,0} (And.intro @map_nil.{0,0} (And.intro @length_cons.{0} (And.intro @length_nil.{0} (And.intro @cons_append.{0} (And.intro @nil_append.{0} (And.intro @replicate_succ.{0} (And.intro @List.replicate_zero.{0} (And.intro @append_nil.{0} (And.intro @getElem?_cons_zero.{0} @getElem?_cons_succ.{0})))))))))))))))))))))))))))))))))
def ry4:=And.intro @set_cons_zero.{0} (And.intro @set_cons_succ.{0} (And.intro @Nat.sub_self (And.intro @Option.some.injEq.{0} (And.intro @exists_eq_left'.{1} (And.intro @U3 (And.intro @YH (And.intro @PJ.eq_1 (And.intro @V.int.injEq (And.intro @V.str.injEq (And.intro @Im (And.intro @Io (And.intro @CV (And.intro @Il (And.intro @CT (And.intro @Yn (And.intro @Ym (And.intro @Ue (And.intro @V.bl.injEq (And.intro @V.ref.injEq (And.intro @List.cons.injEq.{0} (And.intro @and_true (And.intro @true_and (And.intro @exists_and_left.{1} (And.intro @decide_eq_true_eq (And.intro @Qe (And.intro @VB (And.intro @lX (And.intro @oA (And.intro @Q7 (And.intro @Wi (And.intro @tSl.eq_1 (And.intro @CP.eq_1 @PB.eq_1))))))))))))))))))))))))))))))))
def ry5:=And.intro @Ws (And.intro @Wy (And.intro @Wz (And.intro @Ww (And.intro @Wx (And.intro @Uk (And.intro @Yo (And.intro @Yl (And.intro @Yk (And.intro @Wa (And.intro @Pn (And.intro @V9 (And.intro @CQ.eq_1 (And.intro @Ui (And.intro @ZV (And.intro @ZS @ZR)))))))))))))))
def ry6:=And.intro @Vu (And.intro @aby (And.intro @YL (And.intro @YK @YJ)))
def rdy:=And.intro ry0 (And.intro ry1 (And.intro ry2 (And.intro ry3 (And.intro ry4 (And.intro ry5 (And.intro ry6 @tV.eq_1))))))
theorem abB {K:PySem.W.Frag}{h:Heap}{mg:Str->Option Value}{x:Str}{st:Stmt}{ps:List Str}{f:Addr}{oc:Value}{od an:Option Addr}{osl:Array (Option Value)}{kV doc pm cdv ct:Value}(X:K.In h)(G:h.Ns mainGlobals mg)(a:nsIn K mainGlobals x=some (some (.ref f)))
  (l:K.lookup f=some ⟨oc,od,.func (fnOf x x (iZ st) (fZ st) (aj st) .none kV doc pm an cdv ct),osl⟩) (c:codeIn K cdv x=true) (k:keepIn K (.ref f)=true)
  (hb:∀(kV doc pm:Value)(an:Option Addr)(cdv ct:Value)(us:List Value),us.length=ps.length->bindArgs (fnOf x x (iZ st) (fZ st) (aj st) .none kV doc pm an cdv ct) ⟨us,[]⟩=pure (ps.zip us)):Zk K mg x st ps f (fnOf x x (iZ st) (fZ st) (aj st) .none kV doc pm an cdv ct):=
 ⟨Uv (st:=st) l c k,(Uv (st:=st) l c k).binds hb,mg_of X G a⟩
end L2
set_option maxHeartbeats 4100000
namespace SRT
open PySem PyProof.Rows
def Ris (xs:Array Nat):Prop:=xs.toList.Pairwise (· < ·)
theorem Ris.lt {xs:Array Nat}(h:Ris xs){i k x y:Nat}(hx:xs[i]?=some x)(hy:xs[k]?=some y)(hik:i<k):x<y:=by
 rw[<- getElem?_toList] at hx hy;obtain⟨h1,rfl⟩:=List.getElem?_eq_some_iff.mp hx;obtain⟨h2,rfl⟩:=List.getElem?_eq_some_iff.mp hy;exact pairwise_iff_getElem.mp h i k h1 h2 hik
theorem YB {xs:Array Nat}(hr:Ris xs)(j:Nat):∀fuel lo hi,hi-lo<=fuel->lo<=hi->hi<=xs.size->(∀i x,xs[i]?=some x->i<lo->x<j)->(∀i x,xs[i]?=some x->hi<=i->j<=x) ->
  (∀i x,xs[i]?=some x->(i<SetTable.below.go xs j fuel lo hi↔x<j))/\SetTable.below.go xs j fuel lo hi<=xs.size:=by
 intro fuel
 induction fuel with
 | zero=>
  intro lo hi h1 h2 h3 h4 h5;have e:hi=lo:=ω;subst e;refine⟨fun i x hx=>⟨fun hl=>h4 i x hx hl,fun hl=>?_⟩,h3⟩;show i<hi;refine Nat.lt_of_not_le fun hle=>?_;have:=h5 i x hx hle;omega
 | succ fuel ih=>
  intro lo hi h1 h2 h3 h4 h5;show(∀i x,xs[i]?=some x->(i<(if lo<hi then if xs.getD ((lo+hi)/2) j<j then SetTable.below.go xs j fuel ((lo+hi)/2+1) hi else SetTable.below.go xs j fuel lo ((lo+hi)/2) else lo)↔x<j))/\(if lo<hi then if xs.getD ((lo+hi)/2) j<j then SetTable.below.go xs j fuel ((lo+hi)/2+1) hi else SetTable.below.go xs j fuel lo ((lo+hi)/2) else lo)<=xs.size;by_cases hl:lo<hi
  ·rw[if_pos hl];have hm:(lo+hi)/2<xs.size:=ω;have hg:xs[(lo+hi)/2]?=some xs[(lo+hi)/2]:=by simp [hm]
   have hd:xs.getD ((lo+hi)/2) j=xs[(lo+hi)/2]:=by simp [Array.getD,hm]
   rw[hd];by_cases hc:xs[(lo+hi)/2]<j
   ·rw[if_pos hc];refine ih _ _ ω ω h3 (fun i x hx hi'=>?_) h5;by_cases e:i=(lo+hi)/2
    ·subst e;rw[hg] at hx;cases hx;exact hc
    ·exact Nat.lt_trans (hr.lt hx hg ω) hc
   ·rw[if_neg hc];refine ih _ _ ω ω ω h4 (fun i x hx hi'=>?_);by_cases e:i=(lo+hi)/2
    ·subst e;rw[hg] at hx;cases hx;omega
    ·have:=hr.lt hg hx ω;omega
  ·rw[if_neg hl];have e:hi=lo:=ω;subst e;refine⟨fun i x hx=>⟨fun hl=>h4 i x hx hl,fun hl=>?_⟩,h3⟩;refine Nat.lt_of_not_le fun hle=>?_;have:=h5 i x hx hle;omega
theorem tD {xs:Array Nat}(hr:Ris xs)(j:Nat):(∀i x,xs[i]?=some x->(i<SetTable.below xs j↔x<j))/\SetTable.below xs j<=xs.size:=by
 unfold SetTable.below;refine YB hr j _ _ _ ω ω (Nat.le_refl _) (fun _ _ _ h=>absurd h ω) fun i x hx hi=>?_;have:=(Array.getElem?_eq_some_iff.mp hx).1;omega
theorem Hw {xs:Array Nat}(hr:Ris xs){j:Nat}(hn:xs[SetTable.below xs j]?≠some j):∀x∈xs.toList,x≠j:=by
 intro x hx e;subst e;obtain⟨i,hi,e⟩:=mem_iff_getElem.mp hx;have hg:xs[i]?=some x:=by rw[<- getElem?_toList,getElem?_eq_getElem hi,e]
 have hs:=tD hr x;have h1:=(hs.1 i x hg);have h2:SetTable.below xs x<=i:=by
  refine Nat.le_of_not_lt fun h=>?_;exact Nat.lt_irrefl _ (h1.mp h)
 rcases Nat.lt_or_ge (SetTable.below xs x) i with h|h
 ·have hi':i<xs.size:=by simpa using hi
  have hb:SetTable.below xs x<xs.size:=ω;have hgb:xs[SetTable.below xs x]?=some xs[SetTable.below xs x]:=by simp [hb]
  have l1:=hr.lt hgb hg h;have:=(hs.1 _ _ hgb).mpr l1;omega
 ·have e:SetTable.below xs x=i:=ω;rw[e] at hn;exact hn hg
theorem Ay {α:Type}(xs:Array α)(p:Nat)(x:α):(SetTable.insertAt xs p x).toList=xs.toList.take p++x::xs.toList.drop p:=by
 unfold SetTable.insertAt;simp [toList_extract,List.extract,take_of_length_le]
theorem Ja {xs:Array Nat}(hr:Ris xs){j:Nat}(hn:xs[SetTable.below xs j]?≠some j):Ris (SetTable.insertAt xs (SetTable.below xs j) j):=by
 have hs:=tD hr j;have hne:=Hw hr hn;show(SetTable.insertAt xs (SetTable.below xs j) j).toList.Pairwise (· < ·);rw[Ay];have hx:xs.toList.Pairwise (· < ·):=hr;rw[pairwise_append,pairwise_cons];refine⟨hx.sublist (take_sublist _ _),⟨fun y hy=>?_,hx.sublist (drop_sublist _ _)⟩,fun a ha b hb=>?_⟩
 ·obtain⟨i,hi,e⟩:=mem_iff_getElem.mp hy;rw[List.getElem_drop] at e;have hl:SetTable.below xs j+i<xs.toList.length:=by rw[length_drop] at hi;omega
  have hg:xs[SetTable.below xs j+i]?=some y:=by rw[<- getElem?_toList,getElem?_eq_getElem hl,e]
  have h1:=hs.1 _ _ hg;have h2:=hne y (List.mem_of_mem_drop hy);have:¬(y<j):=fun h=>by have:=h1.mpr h;omega
  omega
 ·have l1:a<j:=by
   obtain⟨i,hi,e⟩:=mem_iff_getElem.mp ha;rw[List.getElem_take] at e;have hl:i<SetTable.below xs j/\i<xs.toList.length:=by rw[length_take] at hi;omega
   have hg:xs[i]?=some a:=by rw[<- getElem?_toList,getElem?_eq_getElem hl.2,e]
   exact(hs.1 _ _ hg).mp hl.1
  rcases mem_cons.mp hb with rfl|hb
  ·exact l1
  ·obtain⟨i,hi,e⟩:=mem_iff_getElem.mp hb;rw[List.getElem_drop] at e;have hl:SetTable.below xs j+i<xs.toList.length:=by rw[length_drop] at hi;omega
   have hg:xs[SetTable.below xs j+i]?=some b:=by rw[<- getElem?_toList,getElem?_eq_getElem hl,e]
   have h1:=hs.1 _ _ hg;have:¬(b<j):=fun h=>by have:=h1.mpr h;omega
   omega
def TOk (b:Bool)(t:SetTable):Prop:=Ris t.place/\t.dummies=#[]/\t.led=b
theorem Mj {b:Bool}{t:SetTable}(h:TOk b t)(p:Bool):TOk b { t with plain:=p }:=h
theorem MN (n:Nat):Ris (Array.range n):=by
 show(Array.range n).toList.Pairwise (· < ·);rw[Array.toList_range];exact pairwise_lt_range
theorem lR {b:Bool}{t:SetTable}(h:TOk b t)(n:Nat):TOk b (t.standIn n):=⟨MN n,rfl,h.2.2⟩
theorem Al {b:Bool}{t:SetTable}(h:TOk b t)(n:Nat):TOk b (t.orStandIn n):=by
 unfold SetTable.orStandIn;split
 ·exact h
 ·exact lR h n
theorem Ml (f m:Nat)(b:Bool):TOk b (SetTable.fresh f m b):=⟨List.Pairwise.nil,rfl,rfl⟩
theorem Jd {t:SetTable}(hd:t.dummies=#[]){f:Nat->Int}{h:Int}(hf:∀i,(f i == h)=false):∀(fuel:Nat)(p:SetTable.Probe),p.dummy=none ->
  ∀m,SetTable.probe.go t f h fuel p=some m->∃j,m=.empty j none/\t.place[SetTable.below t.place j]?≠some j:=by
 intro fuel
 induction fuel with
 | zero=>intro p _ m e;exact absurd e (by simp [SetTable.probe.go])
 | succ fuel ih=>
  intro p hp m e;unfold SetTable.probe.go at e;have hnd:∀j,SetTable.has t.dummies j=false:=fun j=>by rw[hd];simp [SetTable.has]
  have hadv:∀q:SetTable.Probe,q.dummy=none->(t.advance q).dummy=none:=fun q hq=>by
   unfold SetTable.advance;split
   ·exact hq
   ·exact hq
  split at e
  ·rename_i hs;cases e;refine⟨p.j,by rw[hp],fun hc=>?_⟩;unfold SetTable.slot at hs;simp [hc] at hs
  ·rename_i hs;unfold SetTable.slot at hs;dsimp only at hs;split at hs
   ·cases hs
   ·rw[hnd] at hs;simp at hs
  ·rw[hf,if_neg (by simp)] at e;exact ih _ (hadv _ hp) m e
theorem GR {t:SetTable}(hd:t.dummies=#[]){h:Int}{j:Nat}{b:Bool}(e:t.freeSlot h=some (j,b)):t.place[SetTable.below t.place j]?≠some j:=by
 unfold SetTable.freeSlot SetTable.probe at e;split at e
 ·rename_i j' d hp;obtain⟨j2,e2,hn⟩:=Jd hd (f:=fun _=>h+1) (h:=h) (fun i=>by simp;omega) _ _ rfl _ hp;cases e2;simp at e;rw[<- e.1];exact hn
 ·cases e
theorem JB {b:Bool}{t:SetTable}(ht:TOk b t)(es:Array (Int×Value))(h:Int)(x:Value):TOk b (layNew t es h x).2.1:=by
 unfold layNew;split
 ·rename_i slot wd hs;have hn:=GR ht.2.1 hs;refine Al ?_ _;unfold SetTable.put;refine⟨Ja ht.1 hn,?_,ht.2.2⟩;show(if SetTable.has t.dummies slot=true then SetTable.eraseAt t.dummies (SetTable.below t.dummies slot) else t.dummies)=#[];rw[ht.2.1];rfl
 ·exact lR ht _
theorem Dl {b:Bool}{t:SetTable}(ht:TOk b t)(es:Array (Int×Value))(n:Nat):TOk b (relayAll t es n).2.1:=by
 unfold relayAll;split
 ·rename_i t' order hr;dsimp only;split
  ·unfold SetTable.relaid SetTable.laid at hr;cases ho:SetTable.layClean (SetTable.sizeAbove n-1) (es.map (·.1)) with
   | none=>rw[ho] at hr;cases hr
   | some owner=>
    rw[ho] at hr;simp only[Option.bind_eq_bind,Option.bind_some,Option.pure_def,Option.some.injEq,Prod.mk.injEq] at hr;obtain⟨rfl,-⟩:=hr;refine⟨?_,rfl,ht.2.2⟩;show(List.map _ _).toArray.toList.Pairwise (· < ·);rw[List.toList_toArray,pairwise_map,List.pairwise_filterMap];refine pairwise_lt_range.imp fun {a c} hac p hp q hq=>?_;simp only[map_eq_some_iff] at hp hq;obtain⟨_,_,rfl⟩:=hp;obtain⟨_,_,rfl⟩:=hq;exact hac
  ·exact lR ht _
 ·exact lR ht _
end SRT
namespace SRT
open PySem PyProof.Rows
section
variable {prog:Program}{w:World}{K:Type}[DecidableEq K]
def SetT (knd:KeyKind prog w K)(b:Bool)(h:Heap)(a:Addr)(S:K->Bool)(n:Nat):Prop:=
 ∃o es ep t,h.get? a=some o/\o.ExactSet/\o.data=.set es ep t/\(ElemsOf knd es.toList/\(∀k,S k=true ↔ ∃e∈es.toList,knd.is k e.2=true)/\es.size<scanBound)/\t.fits es.size=true/\es.size=n/\TOk b t
variable {knd:KeyKind prog w K}{A:Around}{E:Value->Shared->Prop}{s:Shared}{b:Bool}
theorem SetT.get {h h':Heap}{a:Addr}{S:K->Bool}{n:Nat}(hS:SetT knd b h a S n)(hk:∀o,h.get? a=some o->h'.get? a=some o):SetT knd b h' a S n:=
 let ⟨o,es,ep,t,ho,r⟩:=hS;⟨o,es,ep,t,hk o ho,r⟩
theorem SetT.congr {h:Heap}{a:Addr}{S S':K->Bool}{n n':Nat}(hS:SetT knd b h a S n)(e:∀k,S k=S' k)(en:n=n'):SetT knd b h a S' n':=by
 have:S=S':=funext e;subst this;subst en;exact hS
theorem Bt {h:Heap}{a:Addr}{o:Obj}{es:Array (Int×Value)}{ep:Nat}{t:SetTable}(ho:h.get? a=some o)(hex:o.ExactSet)(hd:o.data=.set es ep t)
  {es':Array (Int×Value)} {t':SetTable} {S':K->Bool} (hel:ElemsOf knd es'.toList/\(∀k,S' k=true ↔ ∃e∈es'.toList,knd.is k e.2=true)/\es'.size<scanBound) (hf:t'.fits es'.size=true) (ht:TOk b t') :
  (h.update a (Obj.putSet es' t')).get? a=some { o with data:=.set es' (ep+1) t' }/\SetT knd b (h.update a (Obj.putSet es' t')) a S' es'.size:=by
 have hg:(h.update a (Obj.putSet es' t')).get? a=some { o with data:=.set es' (ep+1) t' }:=by
  have q:=get?_update_self (Obj.putSet es' t') ho (by rw[putSet_of es' t' hd];rfl);rw[putSet_of es' t' hd] at q;exact q
 exact⟨hg,_,es',ep+1,t',hg,hex,rfl,hel,hf,rfl,ht⟩
theorem HF {g:Bool->Sem Unit}(hg:∀(c:Bool)(s₁:Shared)(Q':Unit->Shared->Prop),Q' () s₁->wpAny (model prog w) A (g c) Q' E s₁)
  {a:Addr} {o:Obj} {es:Array (Int×Value)} {ep:Nat} {t:SetTable} (ho:s.heap.get? a=some o) (hex:o.ExactSet) (hd:o.data=.set es ep t)
  {es1:Array (Int×Value)} {t2:SetTable} {S':K->Bool} (hel:ElemsOf knd es1.toList/\(∀k,S' k=true ↔ ∃e∈es1.toList,knd.is k e.2=true)/\es1.size<scanBound)
  (hf:t2.fits es1.size=true) (ht:TOk b t2) {wd:Bool} {R:Option Bool->Shared->Prop}
  (h:∀h',Heap.SameBut a s.heap h'->SetT knd b h' a S' es1.size->R (some true) { s with heap:=h' }) :
  wpAny (model prog w) A (storeSet a es1 t2 >>= fun _=>if (!wd&&t2.tooFull)=true then (g (relayAll t2 es1 (SetTable.grown es1.size)).2.2 >>= fun _=>storeSet a (relayAll t2 es1 (SetTable.grown es1.size)).1 (relayAll t2 es1 (SetTable.grown es1.size)).2.1 >>= fun _=>pure (some true)) else pure (some true)) R E s:=by
 refine wpAny_bind (wpAny_storeSet_of ho hd ?_ (fits_of_scanBound hel.2.2));obtain⟨ho1,hS1⟩:=Bt (knd:=knd) ho hex hd hel hf ht;have hsb1:=Heap.SameBut.update s.heap a (Obj.putSet es1 t2);by_cases hc:(!wd&&t2.tooFull)=true
 ·rw[if_pos hc];have hp:=relayAll_perm t2 es1 (SetTable.grown es1.size);have hfr:=relayAll_fits t2 es1 (SetTable.grown es1.size);have htr:=Dl ht es1 (SetTable.grown es1.size);generalize relayAll t2 es1 (SetTable.grown es1.size)=Rl at hp hfr htr |-;obtain⟨es2,t3,gv⟩:=Rl;dsimp only at hp hfr htr |-;have hsz:es2.size=es1.size:=by rw[<- length_toList,hp.length_eq,length_toList]
  have hel2:ElemsOf knd es2.toList/\(∀k,S' k=true ↔ ∃e∈es2.toList,knd.is k e.2=true)/\es2.size<scanBound:=
   ⟨hel.1.perm hp,fun k=>(hel.2.1 k).trans ⟨fun⟨e,he,q⟩=>⟨e,hp.mem_iff.mpr he,q⟩,fun⟨e,he,q⟩=>⟨e,hp.mem_iff.mp he,q⟩⟩,by rw[hsz];exact hel.2.2⟩
  refine wpAny_bind (hg _ _ _ (wpAny_bind (wpAny_storeSet_of ho1 rfl ?_ (fits_of_scanBound hel2.2.2))));obtain⟨_,hS2⟩:=Bt (knd:=knd) ho1 hex rfl hel2 hfr htr;rw[hsz] at hS2;exact wpAny_pure (h _ (hsb1.trans (Heap.SameBut.update _ a _)) hS2)
 ·rw[if_neg hc];exact wpAny_pure (h _ hsb1 hS1)
theorem QD {a:Addr}{S:K->Bool}{n:Nat}{k:K}{x:Value}{Q:Bool->Shared->Prop}(hkey:knd.is k x=true)(hsc:x.scannable=true)(hS:SetT knd b s.heap a S n)(hroom:n+1<scanBound)
  (h:∀h',Heap.SameBut a s.heap h'->SetT knd b h' a (fun k'=>S k'||decide (k'=k)) (if S k then n else n+1)->Q (!S k) { s with heap:=h' }) :
  wpAny (model prog w) A (setAddHashed a x (knd.hash k)) Q E s:=by
 obtain⟨o,es,ep,t,ho,hex,hd,hel,hf,hn,ht⟩:=hS;unfold setAddHashed setAddHashedIn;refine wpAny_holding (wpAny_bind (wpAny_setState_of ho hd hf ?_));dsimp only;rw[byScan_of hsc hel.2.2 hel.1,if_pos rfl];unfold setAddByScan;refine wpAny_bind (wpAny_bind (wpAny_rule (wpAny_bind (wpAny_setScan_of hkey ho hd hf hel.1 ?_))));cases hr:List.findIdx? (fun e=>knd.is k e.2) es.toList with
 | some j=>
  dsimp only;obtain⟨hj,hpj,_⟩:=List.findIdx?_eq_some_iff_getElem.mp hr;have hSk:S k=true:=(hel.2.1 k).mpr ⟨es.toList[j],getElem_mem hj,hpj⟩;refine wpAny_pure (wpAny_pure ?_);have q:=h s.heap (Heap.SameBut.refl a s.heap) ⟨o,es,ep,t,ho,hex,hd,⟨hel.1,fun k'=>by
   rw[Bool.or_eq_true,decide_eq_true_eq,<- hel.2.1 k'];exact⟨fun hk=>hk.elim id (fun e=>e ▸ hSk),.inl⟩,hel.2.2⟩,hf,by rw[hSk];exact hn,ht⟩
  rw[hSk] at q;exact q
 | none=>
  dsimp only;have hSk:S k=false:=by
   cases hk:S k with
   | false=>rfl
   | true=>
    obtain⟨e,he,hp⟩:=(hel.2.1 k).mp hk;have q:=List.findIdx?_eq_none_iff.mp hr e he;rw[hp] at q;exact Bool.noConfusion q
  have hgw:∀(c:Bool){s₁:Shared}{Q':Unit->Shared->Prop},Q' () s₁->wpAny (model prog w) A (match c with|true=>rule "set.scan.the-table-gave-way" | false=>pure ()) Q' E s₁:=
   fun c s₁ Q' hq=>by cases c <;> first|exact wpAny_pure hq|exact wpAny_rule hq
  have hperm:=layNew_perm t es (knd.hash k) x;have hfits:=layNew_fits t es (knd.hash k) x;have htok:=JB ht es (knd.hash k) x;generalize layNew t es (knd.hash k) x=L at hperm hfits htok |-;obtain⟨es1,t1,wd,gv⟩:=L;dsimp only at hperm hfits htok |-;rw[toList_push] at hperm;have hsz1:es1.size=n+1:=by rw[<- length_toList,hperm.length_eq,length_append,length_toList,hn];rfl
  have hel1:ElemsOf knd es1.toList/\(∀k',(S k'||decide (k'=k))=true ↔ ∃e∈es1.toList,knd.is k' e.2=true)/\es1.size<scanBound:=
   ⟨(hel.1.push hkey hsc).perm hperm,mem_push_iff hkey hel.2.1 hperm,by rw[hsz1];exact hroom⟩
  have hend:∀h',Heap.SameBut a s.heap h'->SetT knd b h' a (fun k'=>S k'||decide (k'=k)) es1.size->Q true { s with heap:=h' }:=by
   intro h' hsb hS';have q:=h h' hsb;rw[hSk] at q;rw[hsz1] at hS';exact q hS'
  refine wpAny_bind (hgw _ ?_);by_cases hpl:t1.plain=true
  ·rw[if_pos hpl,hashByValue_scannable 8 hsc];refine wpAny_bind (wpAny_pure ?_);refine HF (b:=b) ?_ ho hex hd hel1 (t2:=if plainKind x=true then t1 else { t1 with plain:=false }) ?_ ?_ ?_
   ·intro c s₁ Q' hq;cases c <;> first|exact wpAny_pure hq|exact wpAny_rule hq
   ·split
    ·exact hfits
    ·exact SetTable.fits_plain_off hfits
   ·split
    ·exact htok
    ·exact Mj htok false
   ·intro h' hsb hS';dsimp only;exact wpAny_pure (hend h' hsb hS')
  ·rw[if_neg hpl];refine wpAny_bind (wpAny_pure ?_);refine HF (b:=b) ?_ ho hex hd hel1 hfits htok ?_
   ·intro c s₁ Q' hq;cases c <;> first|exact wpAny_pure hq|exact wpAny_rule hq
   ·intro h' hsb hS';dsimp only;exact wpAny_pure (hend h' hsb hS')
end
end SRT
namespace SRT
open PySem PyProof.Rows
abbrev bt (w:World):Bool:=w.params.followText "set-order"
section
variable {prog:Program}{w:World}{A:Around}{R:Result->Shared->Prop}{I:Addr}{fp wr:List Addr}{G:Array GenState->Array GenState->Prop}{n:Nat}{P:Nat->Value->Prop}{St:Nat->Shared->Prop}{b:Bool}
theorem Pa (W:WalksS prog w A.in1 I fp wr G n P St)(S:Addr)(hSf:S∉fp)(val:Nat->Int)(hval:∀i v,P i v->∃t,v=.int (val i) t)(hb:n+1<scanBound) :
  ∀(k i:Nat)(s:Shared),n-i=k->i<=n->St i s->SetT (intKind prog w) b s.heap S (fun k'=>(firstMet val i).any (· == k')) (firstMet val i).length ->
   (∀s',Moved (S::wr) G s s'->SetT (intKind prog w) b s'.heap S (fun k'=>(firstMet val n).any (· == k')) (firstMet val n).length->R (.ok (.ret .none)) s') ->
   codeAny (model prog w) A (.builtin "set.update.loop" ⟨[.ref S,.ref I],[]⟩) R s:=by
 have hSw:S∉wr:=fun h=>hSf (W.sub _ h);have hsub:∀c∈wr,c∈S::wr:=fun c hc=>mem_cons_of_mem _ hc;intro k
 induction k with
 | zero=>
  intro i s hk hi hst hS hR;have hin:i=n:=ω;subst hin;refine codeAny_builtin F.entry_set_update_loop ?_;rw[Around.under_plainId F.plain_set_update_loop _];show wpAny _ A.in1 (pyNext (.ref I) >>= _) _ _ s;refine wpAny_bind (W.done s _ _ hst fun s' hm=>?_);show wpAny _ A.in1 (ret Value.none) _ _ s';exact wpAny_pure (hR s' (hm.mono hsub) (hS.get fun o e=>hm.heap S _ hSw e))
 | succ k ih=>
  intro i s hk hi hst hS hR;have hlt:i<n:=ω;refine codeAny_builtin F.entry_set_update_loop ?_;rw[Around.under_plainId F.plain_set_update_loop _];show wpAny _ A.in1 (pyNext (.ref I) >>= _) _ _ s;refine wpAny_bind (W.item i s _ _ hlt hst fun v s' hP hst' hm=>?_);obtain⟨t,rfl⟩:=hval i v hP;have hS':=hS.get fun o e=>hm.heap S _ hSw e;show wpAny _ A.in1 (holding [Value.int (val i) t] (setAdd S (.int (val i) t)) >>= _) _ _ s';refine wpAny_bind (wpAny_holding ?_);unfold setAdd;refine wpAny_holding (wpAny_bind ((intKind prog w).pyHash (k:=val i) (intKind_is _ _ _ _) ?_));have hroom:(firstMet val i).length+1<scanBound:=by have:=firstMet_length_le val i;omega
  refine QD (knd:=intKind prog w) (s:={ s' with toks:=s'.toks+1 }) (intKind_is _ _ _ _) rfl hS' hroom fun h' hsb hS2=>?_;have hSi:SetT (intKind prog w) b h' S (fun k'=>(firstMet val (i+1)).any (· == k')) (firstMet val (i+1)).length:=
   hS2.congr (fun k'=>by rw[firstMet_succ,step_any]) (by rw[firstMet_succ,step_length])
  refine wpAny_pure ⟨plainId_quiet F.plain_set_update_loop _,ih (i+1) _ ω hlt (W.frame _ s' _ _ hst' (Nat.le_succ _) fun c hc o e=>?_) hSi fun s'' hm'' hS''=>?_⟩
  ·rw[hsb.2 c (fun h:c=S=>hSf (by rw[<- h];exact hc))];exact e
  ·refine hR s'' (Moved.trans W.gtrans ((hm.mono hsub).then_heap (Nat.le_succ _) fun c o hc e=>?_) hm'') hS'';rw[hsb.2 c (fun h:c=S=>hc (by rw[h];exact mem_cons_self))];exact e
end
abbrev Aq (w:World):Obj:={ cls:=.type "set",dict:=none,data:=.set #[] 0 (.fresh 0 0 (!bt w)) }
section
variable {prog:Program}{w:World}{A:Around}{E:Value->Shared->Prop}{s:Shared}
theorem Om (a:Value){Q₁:Value->Shared->Prop}(h:Q₁ (.ref s.heap.objs.size) { s with heap:=s.heap.push (Aq w) }) :
  codeAny (model prog w) A (.call (.builtin "set.__new__") ⟨[.type "set",a],[]⟩) (wants Q₁ E) s:=by
 refine codeAny_of_tree (show wpAny _ A.in1 (checkBuiltinCall "set.__new__" ⟨[.type "set",a],[]⟩ >>= fun _=>again (.builtin "set.__new__" ⟨[.type "set",a],[]⟩)) _ _ s from ?_);refine wpAny_bind (wpAny_of_eq (F.newCall_set_1 a) (wpAny_pure ⟨plainId_quiet F.plain_set_new _,codeAny_builtin F.entry_set_new ?_⟩));rw[Around.under_plainId F.plain_set_new _];unfold Builtin.«set.__new__» Builtin.Frozenset.newClass;have hsub:=sub_set_self;obtain⟨hp,g,d,tk,os⟩:=s;dsimp only
 wp_walk
 refine wpAny_askSetting (wpAny_pure ?_);dsimp only;simp only[newObj];exact wpAny_bind (wpAny_alloc (wpAny_pure (wpAny_pure h)))
set_option maxHeartbeats 3200000 in
theorem Oq {l:Addr}{items:Array Value}{ns:List Int}{Q:Value->Shared->Prop}(hh:A.handled=none)(hl:s.heap.IsList l items)(hi:IntsAre items.toList ns)(hb:items.size+1<scanBound)
  (h:∀(h':Heap)(tk:Nat),SetT (intKind prog w) (!bt w) h' s.heap.objs.size (fun k'=>(firstMet (fun i=>ns.getD i 0) items.size).any (· == k')) (firstMet (fun i=>ns.getD i 0) items.size).length ->
   (∀c o,c<s.heap.objs.size->s.heap.get? c=some o->h'.get? c=some o)->Q (.ref s.heap.objs.size) { s with heap:=h',toks:=tk }) :
  wpAny (model prog w) A (call (.type "set") [.ref l]) Q E s:=by
 obtain⟨c,tl,hmro⟩:=F.called_set.mro;have hmade:=F.called_set.made;have hsub:=F.called_set.sub;refine wpAny_call (codeAny_of_tree (show wpAny _ _ (callAny (.type "set") _) _ _ _ from wpAny_pure ⟨Code.quiet_builtin _ ψ,codeAny_builtin F.entry_type_call ?_⟩));rw[Around.under_plain (weight_type_call_type "set" [.ref l] []) rfl];have h1:=F.called_set.notType;have h2:=F.called_set.canCreate;have hct:=F.typeCall_set_1 (.ref l)
 repeat (any_goals (first|assumption|wp_step))
 refine codeAny_mono (Om (.ref l) (E:=E) (Q₁:=fun obj s₁=>obj=.ref s.heap.objs.size/\s₁={ s with heap:=s.heap.push (Aq w) }) ⟨rfl,rfl⟩) fun r s₁ hr=>?_;cases r with
 | error e=>exact hr
 | ok fl=>
  cases fl with
  | ret obj=>
   obtain⟨rfl,rfl⟩:=hr;have hS:(s.heap.push (Aq w)).get? s.heap.objs.size=some (Aq w):=get?_push_size _ rfl;have hT:Shared.TypeIs { s with heap:=s.heap.push (Aq w) } (.ref s.heap.objs.size) "set" := ⟨_,hS,rfl⟩;have hli:=F.called_set.init.lookup;have hbi:=F.called_set.init.bind (.ref s.heap.objs.size)
   repeat (any_goals (first|assumption|wp_step))
   refine codeAny_mono (codeAny_call_builtin (R:=wants (fun r s₂=>r=.none/\∃h' tk,s₂={ s with heap:=h',toks:=tk } /\
     SetT (intKind prog w) (!bt w) h' s.heap.objs.size (fun k'=>(firstMet (fun i=>ns.getD i 0) items.size).any (· == k')) (firstMet (fun i=>ns.getD i 0) items.size).length /\
     (∀c o,c<s.heap.objs.size->s.heap.get? c=some o->h'.get? c=some o)) E) F.called_set.init.plain F.entry_set_init (check_set_init_1 hT ?_)) fun r₂ s₂ hr₂=>?_
   ·obtain⟨ol,hol,hcl,nl,hdl⟩:=hl;obtain⟨ocls,odict,odata,oslots⟩:=ol;simp only at hcl hdl;subst hcl;subst hdl;have hol':(s.heap.push (Aq w)).get? l=some { cls:=.type "list",dict:=odict,data:=.seq items nl,slots:=oslots }:=get?_push_of_some _ hol;have hsls:=F.sub_list_set;have hslf:=F.sub_list_frozenset;have hne:(Value.type "list" == Value.type "dict")=false:=by decide
    have hl1:(s.heap.push (Aq w)).IsList l items:=⟨_,hol',rfl,nl,rfl⟩;unfold Builtin.«set.__init__» noKeywords Builtin.Frozenset.updateFrom;generalize hPI:pyIter=PI
    wp_walk
    subst hPI;refine wpAny_pyIter_list hl1 (wpAny_bind (wpAny_runValue ?_));have hlS:l<s.heap.objs.size:=lt_size hol;have hh3:A.in1.in1.in1.handled=none:=by simp [hh]
    have hneI:l≠(s.heap.push (Aq w)).objs.size:=by
     rw[size_push];exact Nat.ne_of_lt (Nat.lt_succ_of_lt hlS)
    have hSf:s.heap.objs.size∉[(s.heap.push (Aq w)).objs.size,l]:=by
     rw[size_push];simp only[mem_cons,mem_singleton,not_mem_nil,or_false,not_or];exact⟨Nat.ne_of_lt (Nat.lt_succ_self _),Nat.ne_of_gt hlS⟩
    have hval:∀(i:Nat)(v:Value),items[i]?=some v->∃t,v=.int ((fun i=>ns.getD i 0) i) t:=fun i v hv=>IntsAre.int_at hi i v (by rw[getElem?_toList];exact hv);refine Pa (b:=!bt w) ((Walks.list hh3 _ l hneI items).toS) s.heap.objs.size hSf (fun i=>ns.getD i 0) hval hb (items.size-0) 0 _ ω (Nat.zero_le _)
     ⟨⟨_,get?_push_size _ rfl,rfl,rfl⟩,(hl1.push _)⟩ ?hS0 ?hR
    case hS0=>exact⟨_,#[],0,_,get?_push_of_some _ hS,⟨rfl,rfl,rfl⟩,rfl,⟨fun e he=>by simp at he,fun k=>by simp [firstMet_zero],δ⟩,by rfl,rfl,Ml _ _ _⟩
    case hR=>
     intro s' hm hS';obtain⟨h',g',d',tk',os'⟩:=s';have eg:g'=s.gens:=hm.gens;have ed:d'=s.drawn:=hm.drawn;have eo:os'=s.os:=hm.os;subst eg;subst ed;subst eo;show wpAny _ _ _ _ _ _;refine wpAny_pure (show wpAny _ _ (ret Value.none) _ _ _ from wpAny_pure ⟨rfl,h',tk',rfl,hS',fun c o hc e=>?_⟩);have hc1:c≠s.heap.objs.size:=Nat.ne_of_lt hc;have hc2:c≠(s.heap.push (Aq w)).objs.size:=by
      rw[size_push];exact Nat.ne_of_lt (Nat.lt_succ_of_lt hc)
     exact hm.heap c o (by simp only[mem_cons,mem_singleton,not_mem_nil,or_false,not_or];exact⟨hc1,hc2⟩) (get?_push_of_some _ (get?_push_of_some _ e))
   ·cases r₂ with
    | error e=>exact hr₂
    | ok fl₂=>
     cases fl₂ with
     | ret r=>
      obtain⟨rfl,h',tk,rfl,hS',hk'⟩:=hr₂
      repeat (any_goals (first|assumption|wp_step))
      exact h _ _ hS' hk'
     | _=>exact hr₂.elim
  | _=>exact hr.elim
end
end SRT
namespace SRT
open PySem PyProof.Rows
theorem rY {α:Type}:∀{l:List α}{i:Nat}(h:i<l.length),(l[i]::l.eraseIdx i).Perm l
 | x::l,0,_=>List.Perm.refl _
 | x::l,i+1,h=>by
  have h':i<l.length:=by simpa using h
  show(l[i]::x::l.eraseIdx i).Perm (x::l);exact(List.Perm.swap _ _ _).trans (List.Perm.cons _ (rY h'))
section
variable {prog:Program}{w:World}{A:Around}{E:Value->Shared->Prop}
theorem wp_choose {s:Shared}{src:Source}{n:Nat}{Q:Nat->Shared->Prop}(hn:n≠0)(h:∀k d,k<n->Q k { s with drawn:=d }):wpAny (model prog w) A (choose src n) Q E s:=
 fun _ _ _=>⟨hn,h _ _ (Nat.mod_lt _ (Nat.pos_of_ne_zero hn))⟩
theorem YM {α:Type}:∀(n:Nat)(xs:List α)(s:Shared){Q:List α->Shared->Prop},xs.length=n->(∀ys d,ys.Perm xs->Q ys { s with drawn:=d })->wpAny (model prog w) A (drawOrder n xs) Q E s:=by
 intro n
 induction n with
 | zero=>
  intro xs s Q hl h;have e:xs=[]:=length_eq_zero_iff.mp hl;subst e;exact wpAny_pure (h [] s.drawn (List.Perm.refl _))
 | succ n ih=>
  intro xs s Q hl h;cases xs with
  | nil=>cases hl
  | cons x xs=>
   unfold drawOrder;refine wpAny_bind (wp_choose (by simp) fun i d hi=>?_);have hg:(x::xs)[i]?=some (x::xs)[i]:=getElem?_eq_getElem hi;rw[hg];dsimp only;refine wpAny_bind (ih _ _ (by rw[List.length_eraseIdx,if_pos hi];simpa using hl) fun ys d' hp=>wpAny_pure (h _ d' ?_));exact(List.Perm.cons _ hp).trans (rY hi)
end
theorem Xc {α:Type}(next:Nat->Nat):∀(fuel k:Nat)(left:List α)(out:Array α),left.length=fuel->(pickOrder.go next fuel k left out).toList.Perm (out.toList++left):=by
 intro fuel
 induction fuel with
 | zero=>
  intro k left out hl;have e:left=[]:=length_eq_zero_iff.mp hl;subst e;show out.toList.Perm _;rw[append_nil]
 | succ fuel ih=>
  intro k left out hl;unfold pickOrder.go;have hi:next k%left.length<left.length:=Nat.mod_lt _ ω;rw[getElem?_eq_getElem hi];dsimp only;refine(ih (k+1) _ _ (by rw[List.length_eraseIdx,if_pos hi];omega)).trans ?_;rw[toList_push,append_assoc];exact List.Perm.append_left _ (rY hi)
theorem M8 {α:Type}(next:Nat->Nat)(xs:Array α):(pickOrder next xs).toList.Perm xs.toList:=by
 have:=Xc next xs.size 0 xs.toList #[] (by simp);simpa [pickOrder] using this
def jb (h:Heap)(S:Addr)(es:Array (Int×Value))(ep:Nat)(t:SetTable):Prop:=∃o,h.get? S=some o/\o.ExactSet/\o.data=.set es ep t
def gm (h:Heap)(I:Addr)(first:Value)(i:Nat)(S:Addr)(n ep:Nat):Prop:=
 h.get? I=some { cls:=.type "set_iterator",dict:=none,data:=.fields #[first,.int i 0,.ref S,.int n 0,.int ep 0],slots:=#[] }
theorem jb.get {h h':Heap}{S:Addr}{es:Array (Int×Value)}{ep:Nat}{t:SetTable}(hS:jb h S es ep t)(hk:∀o,h.get? S=some o->h'.get? S=some o):jb h' S es ep t:=
 let ⟨o,ho,r⟩:=hS;⟨o,hk o ho,r⟩
section
variable {prog:Program}{w:World}{A:Around}{E:Value->Shared->Prop}{s:Shared}{S:Addr}{es:Array (Int×Value)}{ep:Nat}{t:SetTable}
theorem oW {Q:(Array (Int×Value)×Nat×SetTable)->Shared->Prop}(hS:jb s.heap S es ep t)(hf:t.fits es.size=true)(h:Q (es,ep,t) s):wpAny (model prog w) A (setState S) Q E s:=
 let ⟨_,ho,_,hd⟩:=hS;wpAny_setState_of ho hd hf h
theorem below_at {xs:Array Nat}(hr:Ris xs){i:Nat}(hi:i<=xs.size):SetTable.below xs (if i=0 then 0 else xs.getD (i-1) 0+1)=i:=by
 have hs:=tD hr (if i=0 then 0 else xs.getD (i-1) 0+1);generalize hb:SetTable.below xs (if i=0 then 0 else xs.getD (i-1) 0+1)=b at hs;by_cases h0:i=0
 ·subst h0;simp only[↓reduceIte] at hs;rcases Nat.eq_zero_or_pos b with h|h
  ·exact h
  ·have hl:0<xs.size:=ω;have hg:xs[0]?=some xs[0]:=by simp [hl]
   have:=(hs.1 0 _ hg).mp h;omega
 ·rw[if_neg h0] at hs;have hl:i-1<xs.size:=ω;have hg:xs[i-1]?=some xs[i-1]:=by simp [hl]
  have hd:xs.getD (i-1) 0=xs[i-1]:=by simp [Array.getD,hl]
  rw[hd] at hs;have h1:i-1<b:=(hs.1 _ _ hg).mpr ω;rcases Nat.lt_or_ge i b with h|h
  ·have hl2:i<xs.size:=ω;have hg2:xs[i]?=some xs[i]:=by simp [hl2]
   have h2:=(hs.1 _ _ hg2).mp h;have h3:=hr.lt hg hg2 ω;omega
  ·omega
theorem XM (hf:t.fits es.size=true)(ht:TOk (!bt w) t)(hd:bt w=true\/(!t.plain&&decide (es.size>1))=false) :
  ∃(vs:List Value)(sl:Nat->Nat),sl 0=0/\vs.Perm (es.toList.map (·.2))/\∀(i:Nat)(s:Shared)(A:Around)(E:Value->Shared->Prop)(Q:Option (Value×Nat)->Shared->Prop),i<=vs.length->jb s.heap S es ep t ->
   Q (vs[i]?.map fun x=>(x,sl (i+1))) s->wpAny (model prog w) A (setNext S (sl i) i ep) Q E s:=by
 by_cases hb:bt w=true
 ·refine⟨(pickOrder (w.params.setOrder S ep) es).toList.map (·.2),fun _=>0,rfl,(M8 _ es).map _,fun i s A E Q hi hS h=>?_⟩;unfold setNext;refine wpAny_bind (oW hS hf ?_);dsimp only;unfold setsByText;refine wpAny_bind (wpAny_bind (wpAny_askSetting (wpAny_pure ?_)));show wpAny _ _ (if bt w=true then _ else _) _ _ _;rw[if_pos hb,if_neg (by simp)];unfold setWalk;refine wpAny_bind (wpAny_bind (oW hS hf ?_));dsimp only;unfold setsByText;refine wpAny_bind (wpAny_bind (wpAny_askSetting (wpAny_pure ?_)));show wpAny _ _ (if bt w=true then _ else _) _ _ _;rw[if_pos hb];refine wpAny_bind (wpAny_askSetting (wpAny_pure (wpAny_pure ?_)));have e:((pickOrder (w.params.setOrder S ep) es)[i]?).map (fun e=>(e.2,0))=(((pickOrder (w.params.setOrder S ep) es).toList.map (·.2))[i]?).map fun x=>(x,0):=by
   rw[getElem?_map,Option.map_map,getElem?_toList];rfl
  show Q (((pickOrder (w.params.setOrder S ep) es)[i]?).map (fun e=>(e.2,0))) s;rw[e];exact h
 ·have hb':bt w=false:=by simpa using hb
  have hdr:=hd.resolve_left hb;have hps:t.place.size=es.size:=by
   have:=hf;unfold SetTable.fits at this;simp only[Bool.and_eq_true,beq_iff_eq] at this;exact this.1
  refine⟨es.toList.map (·.2),fun i=>if i=0 then 0 else t.place.getD (i-1) 0+1,rfl,List.Perm.refl _,fun i s A E Q hi hS h=>?_⟩;unfold setNext;refine wpAny_bind (oW hS hf ?_);dsimp only;unfold setsByText;refine wpAny_bind (wpAny_bind (wpAny_askSetting (wpAny_pure ?_)));show wpAny _ _ (if bt w=true then _ else _) _ _ _;rw[if_neg hb];show wpAny _ _ (if (!t.plain&&decide (es.size>1))=true then _ else _) _ _ _;rw[if_neg (by rw[hdr];simp)];refine wpAny_bind ?_;show wpAny _ _ (if (!t.led && !es.isEmpty)=true then _ else _) _ _ _;have hled:t.led=true:=by rw[ht.2.2,hb'];rfl
  rw[if_neg (by rw[hled];simp)];refine wpAny_pure (wpAny_pure ?_);have hi':i<=es.size:=by simpa using hi
  rw[below_at ht.1 (by rw[hps];exact hi')];rcases Nat.lt_or_ge i es.size with hlt|hge
  ·have g1:es[i]?=some es[i]:=by simp [hlt]
   have g2:t.place[i]?=some t.place[i]:=by simp [hps,hlt]
   have g3:(es.toList.map (·.2))[i]?=some es[i].2:=by rw[getElem?_map,getElem?_toList,g1];rfl
   rw[g1,g2];rw[g3] at h;have g4:t.place.getD i 0=t.place[i]'(by rw[hps];exact hlt):=by simp [Array.getD,hps,hlt]
   simp only[map_some,Nat.add_one_ne_zero,if_false,Nat.add_sub_cancel,g4] at h;exact h
  ·have g1:es[i]?=none:=by simp [hge]
   have g3:(es.toList.map (·.2))[i]?=none:=by rw[getElem?_map,getElem?_toList,g1];rfl
   rw[g1];rw[g3] at h;exact h
end
end SRT
namespace SRT
open PySem PyProof.Rows
theorem G4:entryFor table "set.__iter__" = some Builtin.«frozenset.__iter__»:=entryFor_alias (id' := "frozenset.__iter__") (by kernel_rfl) rfl ψ (by kernel_rfl)
theorem dw:Slot "set_iterator" "__next__" "set_iterator.__next__" :=
 .of (owner := "set_iterator") (n := "__next__") (by rw[typeLookup_type,builtinLookup_eq_fast];kernel_rfl) ψ ψ ψ (by first|exact .inl ψ|exact .inr ψ) (by rw[isSubtype_type];kernel_rfl)
theorem xZ:Slot "set_iterator" "__iter__" "set_iterator.__iter__" :=
 .of (owner := "set_iterator") (n := "__iter__") (by rw[typeLookup_type,builtinLookup_eq_fast];kernel_rfl) ψ ψ ψ (by first|exact .inl ψ|exact .inr ψ) (by rw[isSubtype_type];kernel_rfl)
theorem mC:entryFor table "set_iterator.__next__" = some Builtin.«set_iterator.__next__»:=entryFor_of_tree (by kernel_rfl)
theorem G3:entryFor table "set_iterator.__iter__" = some Builtin.«dict_keyiterator.__iter__»:=entryFor_alias (id' := "dict_keyiterator.__iter__") (by kernel_rfl) rfl ψ (by kernel_rfl)
theorem ou (a:Value):argsOk "set_iterator.__next__" ⟨[a],[]⟩:=by unfold argsOk;kernel_rfl
theorem J5 (a:Value):argsOk "set_iterator.__iter__" ⟨[a],[]⟩:=by unfold argsOk;kernel_rfl
section
variable {prog:Program}{w:World}{A:Around}{E:Value->Shared->Prop}{s:Shared}{S I:Addr}{es:Array (Int×Value)}{ep:Nat}{t:SetTable}
theorem gm.ty {h:Shared}{first:Value}{i n:Nat}(hI:gm h.heap I first i S n ep):h.TypeIs (.ref I) "set_iterator" := ⟨_,hI,rfl⟩
theorem gm.get {h h':Heap}{first:Value}{i n:Nat}(hI:gm h I first i S n ep)(hk:∀o,h.get? I=some o->h'.get? I=some o):gm h' I first i S n ep:=hk _ hI
theorem lJ {Q:Array (Int×Value)->Shared->Prop}(hS:jb s.heap S es ep t)(hf:t.fits es.size=true)(h:Q es s):wpAny (model prog w) A (setEntries S) Q E s:=
 let ⟨_,ho,_,hd⟩:=hS;wpAny_setEntries_of ho hd hf h
theorem GZ {Q:Nat->Shared->Prop}(hS:jb s.heap S es ep t)(hf:t.fits es.size=true)(h:Q ep s):wpAny (model prog w) A (setEpoch S) Q E s:=
 let ⟨_,ho,_,hd⟩:=hS;wpAny_setEpoch_of ho hd hf h
theorem Kf (hh:A.handled=none) {s:Shared}{P:Fin->Shared->Prop}{E':Value->Shared->Prop}(h:∀(h':Heap)(e:Value),(∀c o,s.heap.get? c=some o->h'.get? c=some o)->Shared.TypeIs { s with heap:=h' } e "StopIteration" -> E' e { s with heap:=h' }) :
  wpAny (model prog w) A (newExc (.type "StopIteration") [] >>= fun e=>(raiseNew e:Sem Fin)) P E' s:=by
 refine wpAny_bind ?_;simp only[newExc,newTuple];refine wpAny_bind (wpAny_newObj_type (wpAny_bind (m:=firstArgMember _ _) (wpAny_of_eq (a:=Value.none) (by first|rfl|(simp only[firstArgMember];rfl)) ?_)) (by size_fits))
 refine wpAny_newObj_type ?_ (by size_fits);simp only[raiseNew];refine wpAny_bind (wpAny_handled ?_);rw[hh];refine wpAny_bind (wpAny_pure (wpAny_throw (h _ (.ref _) (fun c o e=>get?_push_of_some _ (get?_push_of_some _ e)) ⟨_,get?_push_size _ rfl,rfl⟩)))
theorem next_item {n i:Nat}{first:Nat}{v:Value}{sl:Nat}{Q:Option Value->Shared->Prop}(hI:gm s.heap I (.int first 0) i S es.size ep)(hS:jb s.heap S es ep t)(hf:t.fits es.size=true)
  (hn:∀(s:Shared)(A:Around)(E:Value->Shared->Prop)(Q:Option (Value×Nat)->Shared->Prop),jb s.heap S es ep t->Q (some (v,sl)) s->wpAny (model prog w) A (setNext S first i ep) Q E s)
  (hne:S≠I) (hQ:∀h',gm h' I (.int sl 0) (i+1) S es.size ep->Heap.SameBut I s.heap h'->Q (some v) { s with heap:=h' }):wpAny (model prog w) A (pyNext (.ref I)) Q E s:=by
 unfold pyNext;refine wpAny_bind (wpAny_attempt (wpAny_callSpecial?_slot (name:=Str.ofString "__next__") hI.ty dw (wpAny_call_entry dw hI.ty mC ?_ (ou _))));show wpAny _ _ (fieldsOf (.ref I) >>= _) _ _ s;refine wpAny_bind (wpAny_fieldsOf hI rfl ?_);refine wpAny_bind (lJ hS hf ?_);rw[if_neg (by simp)];dsimp only;refine wpAny_bind (hn s _ _ _ hS ?_);dsimp only;refine wpAny_bind (wpAny_setField_rec hI (by simp) fun h1 g1 b1=>?_);refine wpAny_bind (wpAny_setField_rec (s:={ s with heap:=h1 }) g1 (by simp) fun h2 g2 b2=>?_);exact wpAny_pure ⟨_,rfl,wpAny_pure (hQ h2 g2 (b1.trans b2))⟩
end
end SRT
namespace SRT
open PySem PyProof.Rows
section
variable {prog:Program}{w:World}{A:Around}{E:Value->Shared->Prop}{s:Shared}{S I T:Addr}{es:Array (Int×Value)}{ep:Nat}{t:SetTable}
theorem Ga {a:Addr}{h h' h'':Heap}(b:Heap.SameBut a h h')(k:∀c o,h'.get? c=some o->h''.get? c=some o)(c:Addr)(o:Obj)(hc:c≠a)(e:h.get? c=some o):h''.get? c=some o:=k c o (b.extBut c o hc e)
theorem next_end {i first:Nat}{Q:Option Value->Shared->Prop}(hh:A.handled=none)(hI:gm s.heap I (.int first 0) i S es.size ep)(hS:jb s.heap S es ep t)(hf:t.fits es.size=true)
  (hn:∀(s:Shared)(A:Around)(E:Value->Shared->Prop)(Q:Option (Value×Nat)->Shared->Prop),jb s.heap S es ep t->Q none s->wpAny (model prog w) A (setNext S first i ep) Q E s)
  (hQ:∀h',(∀c o,c≠I->s.heap.get? c=some o->h'.get? c=some o)->Q none { s with heap:=h' }):wpAny (model prog w) A (pyNext (.ref I)) Q E s:=by
 unfold pyNext;refine wpAny_bind (wpAny_attempt (wpAny_callSpecial?_slot (name:=Str.ofString "__next__") hI.ty dw (wpAny_call_entry dw hI.ty mC ?_ (ou _))));show wpAny _ _ (fieldsOf (.ref I) >>= _) _ _ s;refine wpAny_bind (wpAny_fieldsOf hI rfl (wpAny_bind (lJ hS hf ?_)));rw[if_neg (by simp)];dsimp only;refine wpAny_bind (hn s _ _ _ hS ?_);dsimp only;refine wpAny_bind (wpAny_setField_rec hI (by simp) fun h1 g1 b1=>?_);refine Kf (s:={ s with heap:=h1 }) (by simpa using hh) fun h2 e k2 ty=>wpAny_bind (wpAny_isInstance ty isSubtype_stop (wpAny_pure (hQ h2 fun c o hc x=>Ga b1 k2 c o hc x)))
def TupAt (h:Heap) (T:Addr) (ds:List Nat):Prop:=h.get? T=some { cls:=.type "tuple",data:=.seq (ds.map fun(i:Nat)=>rawInt i).toArray }
theorem JR {i d:Nat}{ds:List Nat}{v:Value}{Q:Option Value->Shared->Prop}(hI:gm s.heap I (.ref T) i S es.size ep)(hS:jb s.heap S es ep t)(hT:TupAt s.heap T ds)(hf:t.fits es.size=true)
  (hd:ds[i]?=some d) (hv:(es[d]?).map (·.2)=some v) (hne:S≠I)
  (hQ:∀h',gm h' I (.ref T) (i+1) S es.size ep->Heap.SameBut I s.heap h'->Q (some v) { s with heap:=h' }):wpAny (model prog w) A (pyNext (.ref I)) Q E s:=by
 unfold pyNext;refine wpAny_bind (wpAny_attempt (wpAny_callSpecial?_slot (name:=Str.ofString "__next__") hI.ty dw (wpAny_call_entry dw hI.ty mC ?_ (ou _))));show wpAny _ _ (fieldsOf (.ref I) >>= _) _ _ s;refine wpAny_bind (wpAny_fieldsOf hI rfl (wpAny_bind (lJ hS hf ?_)));rw[if_neg (by simp)];dsimp only;refine wpAny_bind (wpAny_seqItems hT rfl ?_);dsimp only;have hg:(ds.map fun(i:Nat)=>rawInt i).toArray[(i:Int).toNat]?=some (.int (d:Int) 0):=by
  rw[Int.toNat_natCast,getElem?_toArray,getElem?_map,hd];rfl
 rw[hg];dsimp only;unfold setNextDrawn;refine wpAny_bind (wpAny_bind (oW hS hf ?_));dsimp only;rw[if_neg (by simp)];obtain⟨⟨hh,x⟩,he,rfl⟩:=map_eq_some_iff.mp hv;rw[Int.toNat_natCast,he];dsimp only;refine wpAny_pure ?_;refine wpAny_bind (wpAny_setField_rec hI (by simp) fun h1 g1 b1=>?_);exact wpAny_pure ⟨_,rfl,wpAny_pure (hQ h1 g1 b1)⟩
theorem Oj {i:Nat}{ds:List Nat}{Q:Option Value->Shared->Prop}(hh:A.handled=none)(hI:gm s.heap I (.ref T) i S es.size ep)(hS:jb s.heap S es ep t)(hT:TupAt s.heap T ds)(hf:t.fits es.size=true)
  (hd:ds[i]?=none) (hQ:∀h',(∀c o,c≠I->s.heap.get? c=some o->h'.get? c=some o)->Q none { s with heap:=h' }):wpAny (model prog w) A (pyNext (.ref I)) Q E s:=by
 unfold pyNext;refine wpAny_bind (wpAny_attempt (wpAny_callSpecial?_slot (name:=Str.ofString "__next__") hI.ty dw (wpAny_call_entry dw hI.ty mC ?_ (ou _))));show wpAny _ _ (fieldsOf (.ref I) >>= _) _ _ s;refine wpAny_bind (wpAny_fieldsOf hI rfl (wpAny_bind (lJ hS hf ?_)));rw[if_neg (by simp)];dsimp only;refine wpAny_bind (wpAny_seqItems hT rfl ?_);dsimp only;have hg:(ds.map fun(i:Nat)=>rawInt i).toArray[(i:Int).toNat]?=none:=by
  rw[Int.toNat_natCast,getElem?_toArray,getElem?_map,hd];rfl
 rw[hg];dsimp only;refine wpAny_bind (wpAny_setField_rec hI (by simp) fun h1 g1 b1=>?_);refine wpAny_bind (wpAny_setField_rec (s:={ s with heap:=h1 }) g1 (by simp) fun h2 g2 b2=>?_);refine Kf (s:={ s with heap:=h2 }) (by simpa using hh) fun h3 e k3 ty=>wpAny_bind (wpAny_isInstance ty isSubtype_stop (wpAny_pure (hQ h3 fun c o hc x=>Ga (b1.trans b2) k3 c o hc x)))
theorem Kv {first:Value}{i n:Nat}{Q:Value->Shared->Prop}(hI:gm s.heap I first i S n ep)(h:Q (.ref I) s):wpAny (model prog w) A (pyIter (.ref I)) Q E s:=by
 refine wpAny_pyIter_slot hI.ty xZ (wpAny_call_entry xZ hI.ty G3 ?_ (J5 _));show wpAny _ _ (ret (.ref I)) _ _ s;exact wpAny_pure ⟨_,rfl, "set_iterator",_,hI.ty,dw.lookup,h⟩
theorem Qz {Q:Value->Shared->Prop}(hh:A.handled=none)(hS:jb s.heap S es ep t)(hf:t.fits es.size=true)(ht:TOk (!bt w) t)(hz:es.size<=sizeLine)
  (h:∀(s':Shared)(I:Addr)(fp:List Addr)(vs:List Value)(St:Nat->Shared->Prop),(∀c o,s.heap.get? c=some o->s'.heap.get? c=some o)->s'.gens=s.gens->s'.os=s.os->s'.toks=s.toks->vs.Perm (es.toList.map (·.2))->I=s'.heap.objs.size-1->s.heap.objs.size<=I->I<s'.heap.objs.size ->
   (∀A':Around,A'.handled=none->WalksS prog w A' I fp [I] (fun a b=>b=a) vs.length (fun i v=>vs[i]?=some v) St)->St 0 s'->(∀b∈fp,b<s'.heap.objs.size/\(b=S\/s.heap.objs.size<=b))->Q (.ref I) s') :
  wpAny (model prog w) A (pyIter (.ref S)) Q E s:=by
 obtain⟨o,ho,hx,hd⟩:=id hS;have hty:s.TypeIs (.ref S) "set" := ⟨o,ho,hx.1⟩;have lt:S<s.heap.objs.size:=lt_size ho;refine wpAny_pyIter_slot hty F.slot_set_iter (wpAny_call_entry F.slot_set_iter hty G4 ?_ (F.args_set_iter_1 _));unfold Builtin.«frozenset.__iter__»;show wpAny _ _ (Builtin.Frozenset.sizeOf S >>= _) _ _ s;unfold Builtin.Frozenset.sizeOf;refine wpAny_bind (wpAny_bind (lJ hS hf (wpAny_pure ?_)));unfold setDrawn setsByText;refine wpAny_bind (wpAny_bind (oW hS hf ?_));dsimp only;refine wpAny_bind (wpAny_bind (wpAny_askSetting (wpAny_pure (wpAny_pure ?_))));show wpAny _ _ (if (!bt w&&(!t.plain&&decide (es.size>1)))=true then _ else _) _ _ _;have arith:∀{n m:Nat},m=n+1->n=m-1:=by intros;omega
 by_cases hc:(!bt w&&(!t.plain&&decide (es.size>1)))=true
 ·rw[if_pos hc];refine wpAny_bind (YM es.size (List.range es.size) _ (length_range) fun ds d hp=>?_);have hdl:ds.length=es.size:=by rw[hp.length_eq,length_range]
  refine wpAny_bind (wpAny_newTuple ?_ (by rw[length_map,hdl];exact hz));have hS1:jb (s.heap.push { cls:=.type "tuple",data:=.seq (ds.map fun(i:Nat)=>rawInt i).toArray }) S es ep t:=hS.get fun o e=>get?_push_of_some _ e;have hT1:TupAt (s.heap.push { cls:=.type "tuple",data:=.seq (ds.map fun(i:Nat)=>rawInt i).toArray }) s.heap.objs.size ds:=get?_push_size _ rfl;have hz1:(s.heap.push { cls:=.type "tuple",data:=.seq (ds.map fun(i:Nat)=>rawInt i).toArray }).objs.size=s.heap.objs.size+1:=size_push ..;have hk1:∀c o,s.heap.get? c=some o->(s.heap.push { cls:=.type "tuple",data:=.seq (ds.map fun(i:Nat)=>rawInt i).toArray }).get? c=some o:=fun c o e=>get?_push_of_some _ e;generalize s.heap.push { cls:=.type "tuple",data:=.seq (ds.map fun(i:Nat)=>rawInt i).toArray }=h1 at hS1 hT1 hz1 hk1 |-;refine wpAny_bind (GZ (s:={ s with drawn:=d,heap:=h1 }) hS1 hf (wpAny_bind (wpAny_newObj_type ?_)));have hI:gm (h1.push { cls:=.type "set_iterator",data:=.fields #[.ref s.heap.objs.size,.int (0:Nat) 0,.ref S,.int (es.size:Nat) 0,.int (ep:Nat) 0] }) h1.objs.size (.ref s.heap.objs.size) 0 S es.size ep:=get?_push_size _ rfl;refine wpAny_pure ⟨_,rfl, "set_iterator",_,⟨_,hI,rfl⟩,dw.lookup,?_⟩;have hz2:(h1.push { cls:=.type "set_iterator",data:=.fields #[.ref s.heap.objs.size,.int (0:Nat) 0,.ref S,.int (es.size:Nat) 0,.int (ep:Nat) 0] }).objs.size=h1.objs.size+1:=size_push ..;have hk2:∀c o,h1.get? c=some o->(h1.push { cls:=.type "set_iterator",data:=.fields #[.ref s.heap.objs.size,.int (0:Nat) 0,.ref S,.int (es.size:Nat) 0,.int (ep:Nat) 0] }).get? c=some o:=fun c o e=>get?_push_of_some _ e;show Q (.ref h1.objs.size) { s with drawn:=d,heap:=h1.push { cls:=.type "set_iterator",data:=.fields #[.ref s.heap.objs.size,.int (0:Nat) 0,.ref S,.int (es.size:Nat) 0,.int (ep:Nat) 0] } };generalize h1.push { cls:=.type "set_iterator",data:=.fields #[.ref s.heap.objs.size,.int (0:Nat) 0,.ref S,.int (es.size:Nat) 0,.int (ep:Nat) 0] }=h2 at hI hz2 hk2 |-;have n1:S≠h1.objs.size:=by rw[hz1];exact Nat.ne_of_lt (Nat.lt_succ_of_lt lt)
  have n2:s.heap.objs.size≠h1.objs.size:=by rw[hz1];exact Nat.ne_of_lt (Nat.lt_succ_self _)
  have hmem:∀i d:Nat,ds[i]?=some d->∃x:Value,(es[d]?).map (fun(e:Int×Value)=>e.2)=some x/\(ds.map fun d=>(es.toList.map (·.2)).getD d .none)[i]?=some x:=by
   intro i d hi;have:d<es.size:=by have:=hp.mem_iff.mp (mem_of_getElem? hi);simpa using this
   refine⟨es[d].2,by simp [this],?_⟩;rw[getElem?_map,hi];simp [this]
  refine h { s with drawn:=d,heap:=h2 } h1.objs.size [h1.objs.size,S,s.heap.objs.size] (ds.map fun d=>(es.toList.map (·.2)).getD d .none)
   (fun i s'=>gm s'.heap h1.objs.size (.ref s.heap.objs.size) i S es.size ep/\jb s'.heap S es ep t/\TupAt s'.heap s.heap.objs.size ds)
   (fun c o e=>hk2 c o (hk1 c o e)) rfl rfl rfl ?_ (arith hz2) (by rw[hz1];exact Nat.le_succ _) (by show h1.objs.size<h2.objs.size;rw[hz2];exact Nat.lt_succ_self _) (fun A' hh'=>?_) ⟨hI,hS1.get (hk2 S),hk2 _ _ hT1⟩ ?_
  ·have e:(List.range es.size).map (fun d=>(es.toList.map (·.2)).getD d .none)=es.toList.map (·.2):=by
    refine ext_getElem (by simp) fun i h1 h2=>?_;simp at h1 h2;simp [h2]
   exact(hp.map fun d=>(es.toList.map fun(x:Int×Value)=>x.2).getD d Value.none).trans (List.Perm.of_eq e)
  ·have hlen:(ds.map fun d=>(es.toList.map (·.2)).getD d .none).length=ds.length:=length_map _;exact {
    sub:=fun b hb=>by simp at hb;simp [hb]
    grefl:=fun _=>rfl
    gtrans:=fun a b c e f=>f.trans e
    frame:=fun i s1 h' tk st _ hk=>⟨st.1.get fun o e=>hk _ (by simp) o e,st.2.1.get fun o e=>hk _ (by simp) o e,hk _ (by simp) _ st.2.2⟩
    item:=fun i s1 Q1 E1 hi st hQ1=>by
     rw[hlen] at hi;obtain⟨x,e1,e2⟩:=hmem i ds[i] (getElem?_eq_getElem hi);refine JR st.1 st.2.1 st.2.2 hf (getElem?_eq_getElem hi) e1 n1 fun h' i' b'=>?_;exact hQ1 x { s1 with heap:=h' } e2 ⟨i',st.2.1.get fun o e=>b'.extBut _ o n1 e,b'.extBut _ _ n2 st.2.2⟩ ⟨fun b o hb e=>b'.extBut b o (fun z=>hb (by simp [z])) e,rfl,rfl,rfl,Nat.le_refl _⟩
    done:=fun s1 Q1 E1 st hQ1=>by
     refine Oj hh' st.1 st.2.1 st.2.2 hf (by rw[hlen];simp) fun h' k'=>?_;exact hQ1 { s1 with heap:=h' } ⟨fun b o hb e=>k' b o (fun z=>hb (by simp [z])) e,rfl,rfl,rfl,Nat.le_refl _⟩
    self:=fun i s1 Q1 E1 st hQ1=>Kv st.1 hQ1 }
  ·intro b hb;show b<h2.objs.size/\_;have l0:=Nat.lt_succ_of_lt lt;simp only[mem_cons,not_mem_nil,or_false] at hb;rw[hz2,hz1];rcases hb with rfl|rfl|rfl
   ·rw[hz1];exact⟨Nat.lt_succ_self _,.inr (Nat.le_succ _)⟩
   ·exact⟨Nat.lt_succ_of_lt l0,.inl rfl⟩
   ·exact⟨Nat.lt_succ_of_lt (Nat.lt_succ_self _),.inr (Nat.le_refl _)⟩
 ·rw[if_neg hc];obtain⟨vs,sl,sl0,hp,hn⟩:=XM (prog:=prog) (w:=w) (S:=S) (ep:=ep) hf ht (by
   cases hb:bt w with
   | true=>exact .inl rfl
   | false=>rw[hb] at hc;exact .inr (by simpa using hc))
  refine wpAny_bind (wpAny_pure (wpAny_bind (GZ hS hf (wpAny_bind (wpAny_newObj_type ?_)))));have hI:gm (s.heap.push { cls:=.type "set_iterator",data:=.fields #[.int (0:Nat) 0,.int (0:Nat) 0,.ref S,.int (es.size:Nat) 0,.int (ep:Nat) 0] }) s.heap.objs.size (.int (sl 0) 0) 0 S es.size ep:=by rw[sl0];exact get?_push_size _ rfl
  refine wpAny_pure ⟨_,rfl, "set_iterator",_,⟨_,hI,rfl⟩,dw.lookup,?_⟩;have hz2:(s.heap.push { cls:=.type "set_iterator",data:=.fields #[.int (0:Nat) 0,.int (0:Nat) 0,.ref S,.int (es.size:Nat) 0,.int (ep:Nat) 0] }).objs.size=s.heap.objs.size+1:=size_push ..;have hk2:∀c o,s.heap.get? c=some o->(s.heap.push { cls:=.type "set_iterator",data:=.fields #[.int (0:Nat) 0,.int (0:Nat) 0,.ref S,.int (es.size:Nat) 0,.int (ep:Nat) 0] }).get? c=some o:=fun c o e=>get?_push_of_some _ e;show Q (.ref s.heap.objs.size) { s with heap:=s.heap.push { cls:=.type "set_iterator",data:=.fields #[.int (0:Nat) 0,.int (0:Nat) 0,.ref S,.int (es.size:Nat) 0,.int (ep:Nat) 0] } };generalize s.heap.push { cls:=.type "set_iterator",data:=.fields #[.int (0:Nat) 0,.int (0:Nat) 0,.ref S,.int (es.size:Nat) 0,.int (ep:Nat) 0] }=h2 at hI hz2 hk2 |-;have n1:S≠s.heap.objs.size:=Nat.ne_of_lt lt;refine h { s with heap:=h2 } s.heap.objs.size [s.heap.objs.size,S] vs (fun i s'=>gm s'.heap s.heap.objs.size (.int (sl i) 0) i S es.size ep/\jb s'.heap S es ep t)
   (fun c o e=>hk2 c o e) rfl rfl rfl hp (arith hz2) (Nat.le_refl _) (by show s.heap.objs.size<h2.objs.size;rw[hz2];exact Nat.lt_succ_self _) (fun A' hh'=>?_) ⟨hI,hS.get (hk2 S)⟩ ?_
  ·exact {
    sub:=fun b hb=>by simp at hb;simp [hb]
    grefl:=fun _=>rfl
    gtrans:=fun a b c e f=>f.trans e
    frame:=fun i s1 h' tk st _ hk=>⟨st.1.get fun o e=>hk _ (by simp) o e,st.2.get fun o e=>hk _ (by simp) o e⟩
    item:=fun i s1 Q1 E1 hi st hQ1=>by
     have hv:vs[i]?=some vs[i]:=getElem?_eq_getElem hi;refine next_item (n:=0) st.1 st.2 hf (v:=vs[i]) (sl:=sl (i+1)) (fun s2 A2 E2 Q2 st2 hQ2=>hn i s2 A2 E2 Q2 (Nat.le_of_lt hi) st2 (by rw[hv];exact hQ2)) n1 fun h' i' b'=>?_;exact hQ1 vs[i] { s1 with heap:=h' } hv ⟨i',st.2.get fun o e=>b'.extBut _ o n1 e⟩ ⟨fun b o hb e=>b'.extBut b o (fun z=>hb (by simp [z])) e,rfl,rfl,rfl,Nat.le_refl _⟩
    done:=fun s1 Q1 E1 st hQ1=>by
     have hv:vs[vs.length]?=none:=by simp
     refine next_end hh' st.1 st.2 hf (fun s2 A2 E2 Q2 st2 hQ2=>hn vs.length s2 A2 E2 Q2 (Nat.le_refl _) st2 (by rw[hv];exact hQ2)) fun h' k'=>?_;exact hQ1 { s1 with heap:=h' } ⟨fun b o hb e=>k' b o (fun z=>hb (by simp [z])) e,rfl,rfl,rfl,Nat.le_refl _⟩
    self:=fun i s1 Q1 E1 st hQ1=>Kv st.1 hQ1 }
  ·intro b hb;show b<h2.objs.size/\_;rw[hz2];simp only[mem_cons,not_mem_nil,or_false] at hb;rcases hb with rfl|rfl
   ·exact⟨Nat.lt_succ_self _,.inr (Nat.le_refl _)⟩
   ·exact⟨Nat.lt_succ_of_lt lt,.inl rfl⟩
end
end SRT
namespace SRT
open PySem PyProof.Rows
def YC:Bool->Keyed->Array Keyed->Nat->Nat->Nat->StateT SortSt Sem (Option Nat):=sortPriv% PySem.Builtin.gallop
def Tp:Array Keyed->Array Keyed->StateT SortSt Sem (Array Keyed):=sortPriv% PySem.Builtin.mergeLo
def Tt:Array Keyed->Array Keyed->StateT SortSt Sem (Array Keyed):=sortPriv% PySem.Builtin.mergeHi
def IK (p:Keyed):Prop:=∃n t,p.1=.int n t
def AllIK (xs:Array Keyed):Prop:=∀(i:Nat) p,xs[i]?=some p->IK p
section
variable {prog:Program}{w:World}{s:Shared}{A:Around}{E:Value->Shared->Prop}
theorem bJ {st:SortSt}{xs:Array Keyed}{i:Nat}{Q:Keyed->SortSt->Prop}(hi:i<xs.size)(h:∀p,xs[i]?=some p->Q p st):wpS (model prog w) A E s (elem' xs i) Q st:=by
 rw[elem'_eq];have e:xs[i]?=some xs[i]:=getElem?_pos xs i hi;rw[e];exact wpS_pure (h _ e)
end
end SRT
namespace SRT
open PySem PyProof.Rows
abbrev lQ (st:SortSt)(g:Nat):SortSt:=SortSt.mk' (kindOf st) (arrOf st) (pendingOf st) g (failedOf st)
section
variable {prog:Program}{w:World}{s:Shared}{A:Around}{E:Value->Shared->Prop}
def eV (a b out:Array Keyed)(i j:Nat):List Keyed:=out.toList++(a.toList.drop i++b.toList.drop j)
theorem Yc {a b out:Array Keyed}{i j:Nat}:(out++a.extract i a.size++b.extract j b.size).toList=eV a b out i j:=by
 unfold eV;simp [take_of_length_le]
theorem Yb {a b out:Array Keyed}{i j:Nat}:(out++b.extract j b.size++a.extract i a.size).toList.Perm (eV a b out i j):=by
 unfold eV;simp [take_of_length_le];exact List.Perm.append_left _ perm_append_comm
theorem T4 {a b out:Array Keyed}{i j:Nat}{p:Keyed}(h:a[i]?=some p):(eV a b (out.push p) (i+1) j).Perm (eV a b out i j):=by
 unfold eV;have hi:i<a.toList.length:=by
  have:=(Array.getElem?_eq_some_iff.mp h).1;simpa using this
 have e:a.toList.drop i=p::a.toList.drop (i+1):=by
  rw[drop_eq_getElem_cons hi];have:=(Array.getElem?_eq_some_iff.mp h).2;simp [this]
 rw[e];simp
theorem T3 {a b out:Array Keyed}{i j:Nat}{p:Keyed}(h:b[j]?=some p):(eV a b (out.push p) i (j+1)).Perm (eV a b out i j):=by
 unfold eV;have hi:j<b.toList.length:=by
  have:=(Array.getElem?_eq_some_iff.mp h).1;simpa using this
 have e:b.toList.drop j=p::b.toList.drop (j+1):=by
  rw[drop_eq_getElem_cons hi];have:=(Array.getElem?_eq_some_iff.mp h).2;simp [this]
 rw[e];simp;exact List.Perm.append_left _ List.perm_middle.symm
theorem X8 {a b out:Array Keyed}{i j k:Nat}:(eV a b (out++a.extract i (i+k)) (i+k) j).Perm (eV a b out i j):=by
 unfold eV;have e:a.toList.drop i=(a.extract i (i+k)).toList++a.toList.drop (i+k):=by
  rw[toList_extract];rw[show i+k=i+k from rfl];simp [List.extract,<- drop_drop]
 rw[e];simp
theorem X7 {a b out:Array Keyed}{i j k:Nat}:(eV a b (out++b.extract j (j+k)) i (j+k)).Perm (eV a b out i j):=by
 unfold eV;have e:b.toList.drop j=(b.extract j (j+k)).toList++b.toList.drop (j+k):=by
  rw[toList_extract];simp [List.extract,<- drop_drop]
 rw[e];simp only[toList_append,append_assoc];refine(List.Perm.append_left _ ?_);rw[<- append_assoc];rw[<- append_assoc];exact(List.Perm.append_right _ perm_append_comm)
end
end SRT
namespace SRT
open PySem PyProof.Rows
section
variable {prog:Program}{w:World}{s:Shared}{A:Around}{E:Value->Shared->Prop}
def jn (a b out:Array Keyed)(i j:Nat):List Keyed:=(a.toList.take i++b.toList.take j)++out.toList
theorem Yy {a b out:Array Keyed}{i j:Nat}:(a.extract 0 i++b.extract 0 j++out.reverse).toList.Perm (jn a b out i j):=by
 unfold jn;simp;exact List.Perm.append_left _ (List.Perm.append_left _ (reverse_perm _))
theorem Uo {a b out:Array Keyed}{i j:Nat}:(b.extract 0 j++a.extract 0 i++out.reverse).toList.Perm (jn a b out i j):=by
 unfold jn;simp;rw[<- append_assoc];rw[<- append_assoc];exact List.Perm.append perm_append_comm (reverse_perm _)
theorem Fo {xs:List Keyed}{x i:Nat}(h:x<=i):xs.take i=xs.take x++(xs.drop x).take (i-x):=by
 conv=>lhs;rw[show i=x+(i-x) by omega,List.take_add]
theorem Yx {a b out:Array Keyed}{i j x:Nat}(h:x<=i):(jn a b (out++(a.extract x i).reverse) x j).Perm (jn a b out i j):=by
 unfold jn;rw[Fo (xs:=a.toList) h];simp [List.extract];refine(List.Perm.append_left _ ?_);rw[<- append_assoc];refine(perm_append_comm (l₁:=List.take j b.toList++out.toList)).trans ?_;exact List.Perm.append_right _ (reverse_perm _)
theorem Yw {a b out:Array Keyed}{i j x:Nat}(h:x<=j):(jn a b (out++(b.extract x j).reverse) i x).Perm (jn a b out i j):=by
 unfold jn;rw[Fo (xs:=b.toList) h];simp [List.extract];refine List.Perm.append_left _ (List.Perm.append_left _ ?_);exact perm_append_comm.trans (List.Perm.append_right _ (reverse_perm _))
theorem Lg {a:Array Keyed}{i:Nat}{p:Keyed}(h:a[i]?=some p):(a.extract i (i+1)).reverse=#[p]:=by
 have:=(Array.getElem?_eq_some_iff.mp h);obtain⟨h1,h2⟩:=this;apply Array.ext';simp [List.extract];rw[drop_eq_getElem_cons (by simpa using h1)];simp [h2]
end
end SRT
namespace SRT
open PySem PyProof.Rows
def Chain:List (Nat×Nat×Nat)->Nat->Nat->Prop
 | [],a,b=>a=b
 | (p,n,_)::t,a,b=>p=a/\1<=n/\Chain t (a+n) b
theorem Chain.le:∀{l:List (Nat×Nat×Nat)}{a b:Nat},Chain l a b->a<=b
 | [],_,_,h=>Nat.le_of_eq h
 | (_,n,_)::_,a,_,⟨_,_,h⟩=>Nat.le_trans (Nat.le_add_right a n) h.le
theorem Chain.two:∀{pre post:List (Nat×Nat×Nat)}{sa na w sb nb v a b:Nat},Chain (pre++(sa,na,w)::(sb,nb,v)::post) a b ->
  sb=sa+na/\1<=na/\1<=nb/\sb+nb<=b/\Chain (pre++(sa,na+nb,w)::post) a b
 | [],post,sa,na,w,sb,nb,v,a,b,⟨h1,h2,h3,h4,h5⟩=>by
  have:=h5.le;refine⟨ω,h2,h4,ω,h1,ω,?_⟩;rw[<- Nat.add_assoc];exact h5
 | (_,_,_)::pre,post,sa,na,w,sb,nb,v,a,b,⟨h1,h2,h3⟩=>by
  obtain⟨k1,k2,k3,k4,k5⟩:=Chain.two h3;exact⟨k1,k2,k3,k4,h1,h2,k5⟩
theorem Chain.snoc:∀{l:List (Nat×Nat×Nat)}{a b n w:Nat},Chain l a b->1<=n->Chain (l++[(b,n,w)]) a (b+n)
 | [],a,b,n,w,h,h1=>by cases h;exact⟨rfl,h1,rfl⟩
 | (_,_,_)::t,a,b,n,w,⟨k1,k2,k3⟩,h1=>⟨k1,k2,k3.snoc h1⟩
theorem Chain.Gb:∀{l:List (Nat×Nat×Nat)}{a b p n w v:Nat},Chain (l++[(p,n,w)]) a b->Chain (l++[(p,n,v)]) a b
 | [],a,b,p,n,w,v,h=>h
 | (_,_,_)::t,a,b,p,n,w,v,⟨k1,k2,k3⟩=>⟨k1,k2,k3.Gb⟩
theorem Ds:∀(m:List Keyed)(k:Nat)(l1 l2 l3:List Keyed)(sa:Nat),l1.length=sa+k->l2.length=m.length->∀a:Array Keyed,a.toList=l1++(l2++l3) ->
  ((m.zipIdx k).foldl (fun a (x:Keyed×Nat)=>a.setIfInBounds (sa+x.2) x.1) a).toList=l1++(m++l3)
 | [],k,l1,l2,l3,sa,h1,h2,a,ha=>by
  have:l2=[]:=List.eq_nil_of_length_eq_zero h2;subst this;exact ha
 | x::m,k,l1,[],l3,sa,h1,h2,a,ha=>by cases h2
 | x::m,k,l1,y::l2,l3,sa,h1,h2,a,ha=>by
  rw[zipIdx_cons,List.foldl_cons];have h2':l2.length=m.length:=by simpa using h2
  have:=Ds m (k+1) (l1++[x]) l2 l3 sa (by simp;omega) h2' (a.setIfInBounds (sa+k) x) (by
   rw[Array.toList_setIfInBounds,ha,List.set_append_right _ _ ω,h1,Nat.sub_self];simp)
  rw[this];simp
theorem RG {a m:Array Keyed}{sa sb e:Nat}(h1:sa<=sb)(h2:sb<=e)(h3:e<=a.size)(hm:m.toList.Perm ((a.extract sa sb).toList++(a.extract sb e).toList)) :
  (m.toList.zipIdx.foldl (fun a (x:Keyed×Nat)=>a.setIfInBounds (sa+x.2) x.1) a).toList.Perm a.toList:=by
 have ea:a.toList=a.toList.take sa++(((a.extract sa sb).toList++(a.extract sb e).toList)++a.toList.drop e):=by
  apply List.ext_getElem?;intro i;simp only[toList_extract,List.extract_eq_take_drop,List.getElem?_append,List.getElem?_take,List.getElem?_drop,length_take,length_append,length_drop,length_toList];split
  ·rw[if_pos ω]
  ·split
   ·split
    ·rw[if_pos ω];congr 1;omega
    ·rw[if_pos ω];congr 1;omega
   ·congr 1;omega
 have:=Ds m.toList 0 (a.toList.take sa) _ (a.toList.drop e) sa (by simp;omega) hm.length_eq.symm a ea;rw[this]
 conv=>rhs;rw[ea]
 exact List.Perm.append_left _ (List.Perm.append_right _ hm)
section
variable {prog:Program}{w:World}{s:Shared}{A:Around}{E:Value->Shared->Prop}{a₀:Array Keyed}
structure MB (a₀:Array Keyed)(st:SortSt):Prop where
 kind:kindOf st=oneType'
 perm:(arrOf st).toList.Perm a₀.toList
 fail:failedOf st=none
theorem MB.size {st:SortSt}(h:MB a₀ st):(arrOf st).size=a₀.size:=by simpa using h.perm.length_eq
theorem V1 {σ:Type}{x st:σ}{Q:PUnit->σ->Prop}(h:Q ⟨⟩ x):wpS (model prog w) A E s (set x:StateT σ Sem PUnit) Q st:=by
 unfold wpS;rw[StateT.run_set];exact wpAny_pure ⟨rfl,h⟩
theorem Bl {σ:Type}{st:σ}{b:Bool}{Q:Bool->σ->Prop}(hb:b=true)(h:Q true st):wpS (model prog w) A E s (pure b:StateT σ Sem Bool) Q st:=by
 subst hb;exact wpS_pure h
end
end SRT
namespace SRT
open PySem PyProof.Rows
end SRT
namespace SRT
open PySem PyProof.Rows
section
variable {prog:Program}{w:World}{s:Shared}{A:Around}{E:Value->Shared->Prop}{a₀:Array Keyed}{pd:Array (Nat×Nat×Nat)}
def MC (a₀:Array Keyed)(hi:Nat)(st:SortSt):Prop:=MB a₀ st/\Chain (pendingOf st).toList 0 hi
theorem abE:∀(l:List (Nat×Nat×Nat)) (i:Nat),i+1<l.length->∃pre x y post,l=pre++x::y::post/\pre.length=i
 | [],i,h=>by simp at h
 | [x],i,h=>by simp at h
 | x::y::t,0,h=>⟨[],x,y,t,rfl,rfl⟩
 | x::y::t,i+1,h=>by
  obtain⟨pre,u,v,post,e,hl⟩:=abE (y::t) i (by simpa using h);exact⟨x::pre,u,v,post,by rw[e];rfl,by simp [hl]⟩
theorem Wg:∀(l:List (Nat×Nat×Nat)),l≠[]->∃t p n v,l=t++[(p,n,v)]
 | l,h=>⟨l.dropLast,(l.getLast h).1,(l.getLast h).2.1,(l.getLast h).2.2,(List.dropLast_concat_getLast h).symm⟩
theorem wM {α:Type}(f:α->α)(x:α):∀t:List α,(t++[x]).modify t.length f=t++[f x]
 | []=>rfl
 | y::t=>congrArg (y :: ·) (wM f x t)
theorem MC.push {st:SortSt}{lo n:Nat}(h:MC a₀ lo st)(h1:1<=n):MC a₀ (lo+n) (setPending st ((pendingOf st).push (lo,n,0))):=by
 refine⟨⟨h.1.kind,h.1.perm,h.1.fail⟩,?_⟩;show Chain ((pendingOf st).push (lo,n,0)).toList 0 (lo+n);rw[toList_push];exact h.2.snoc h1
theorem abo {c:Prop}[Decidable c]{n:Nat}(h:¬n<=1):(if c then n-2-1 else n-2)+1<n:=by split <;> omega
theorem LC (a:Array (Nat×Nat×Nat))(i:Nat)(h:i<a.size):∃x y z,a[i]?=some (x,y,z):=⟨a[i].1,a[i].2.1,a[i].2.2,by rw[getElem?_pos a i h]⟩
theorem CK {σ α:Type}{c:Prop}[Decidable c]{m n:StateT σ Sem α}{st:σ}{Q:α->σ->Prop}(h1:c->wpS (model prog w) A E s m Q st)(h2:¬c->wpS (model prog w) A E s n Q st):wpS (model prog w) A E s (if c then m else n) Q st:=by
 by_cases h:c
 ·rw[if_pos h];exact h1 h
 ·rw[if_neg h];exact h2 h
end
end SRT
namespace SRT
open PySem PyProof.Rows
section
variable {prog:Program}{w:World}{s:Shared}{A:Around}{E:Value->Shared->Prop}
theorem qQ (vs:List Value):((pairsOf vs).map (·.2)).toList=vs:=by
 unfold pairsOf;simp [List.map_snd_zip]
end
end SRT
namespace SRT
open PySem PyProof.Rows
theorem Cd {vs xs:List Value}(hp:xs.Perm vs):∀{ns:List Int},IntsAre vs ns->∃ns',IntsAre xs ns'/\ns'.Perm ns:=by
 induction hp with
 | nil=>intro ns h;exact⟨ns,h,List.Perm.refl _⟩
 | cons x _ ih=>
  intro ns h;cases h with
  | cons n t h=>
   obtain⟨ns',h1,h2⟩:=ih h;exact⟨n::ns',.cons n t h1,h2.cons n⟩
 | swap x y l=>
  intro ns h;cases h with
  | cons n t h=>
   cases h with
   | cons m u h=>exact⟨m::n::_,.cons m u (.cons n t h),List.Perm.swap _ _ _⟩
 | trans _ _ ih1 ih2=>
  intro ns h;obtain⟨n1,a1,b1⟩:=ih2 h;obtain⟨n2,a2,b2⟩:=ih1 a1;exact⟨n2,a2,b2.trans b1⟩
theorem rH {α:Type}[DecidableEq α]:∀{l ks:List α},l.Nodup->(∀x∈l,x∈ks)->ks.length=l.length->ks.Perm l
 | [],ks,_,_,h=>by rw[length_eq_zero_iff.mp h]
 | x::l,ks,hn,hs,hl=>by
  obtain⟨h1,h2⟩:=nodup_cons.mp hn;have hx:x∈ks:=hs x (mem_cons_self ..);refine(List.perm_cons_erase hx).trans (List.Perm.cons _ (rH h2 (fun y hy=>?_) ?_))
  ·have:y≠x:=fun e=>h1 (e ▸ hy);exact(List.mem_erase_of_ne this).mpr (hs y (mem_cons_of_mem _ hy))
  ·rw[List.length_erase_of_mem hx,hl];rfl
theorem qG (val:Nat->Int):∀i,(firstMet val i).Nodup
 | 0=>List.nodup_nil
 | i+1=>by
  rw[firstMet_succ];unfold step_dedup;have ih:=qG val i;split
  ·exact ih
  ·rename_i h;rw[List.nodup_append];refine⟨ih,by simp,fun a ha b hb e=>?_⟩;simp only[mem_singleton] at hb;exact h (any_eq_true.mpr ⟨a,ha,by simp [e,hb]⟩)
def ded (ns:List Int):List Int:=firstMet (fun i=>ns.getD i 0) ns.length
theorem Ol (ns:List Int):(ded ns).Nodup:=qG _ _
theorem Lk (ns:List Int):(ded ns).length<=ns.length:=firstMet_length_le _ _
theorem YQ {ns:List Int}{k:Int}:k∈ded ns↔k∈ns:=by
 have e:=firstMet_any (fun i=>ns.getD i 0) ns.length k;have hr:(List.range ns.length).map (fun i=>ns.getD i 0)=ns:=by
  refine ext_getElem (by simp) fun i h1 h2=>?_;simp at h1 h2;simp [h2]
 rw[hr] at e;have a1:∀l:List Int,l.any (· == k)=true↔k∈l:=fun l=>by simp
 rw[<- a1,<- a1];unfold ded;rw[e]
section
variable {prog:Program}{w:World}{A:Around}{E:Value->Shared->Prop}{s:Shared}{S:Addr}{es:Array (Int×Value)}{ep:Nat}{t:SetTable}
theorem zT:∀{l:List (Int×Value)},ElemsOf (intKind prog w) l->∃ks:List Int,IntsAre (l.map (·.2)) ks/\∀k,k∈ks ↔ ∃e∈l,(intKind prog w).is k e.2=true
 | [],_=>⟨[],.nil,fun k=>by simp⟩
 | (h,v)::l,he=>by
  obtain⟨⟨k,hk,_⟩,_⟩:=he.head;obtain⟨tk,e⟩:=Value.isInt_shape hk;dsimp only at e hk;subst e;obtain⟨ks,h1,h2⟩:=zT he.tail;refine⟨k::ks,.cons k tk h1,fun j=>?_⟩;rw[mem_cons,h2];constructor
  ·rintro(rfl|⟨e,a,b⟩)
   ·exact⟨_,mem_cons_self ..,hk⟩
   ·exact⟨e,mem_cons_of_mem _ a,b⟩
  ·rintro⟨e,a,b⟩;rcases mem_cons.mp a with rfl|a
   ·exact .inl ((intKind prog w).inj _ _ _ b hk)
   ·exact .inr ⟨e,a,b⟩
theorem Ud {vs:List Value}{acc:Array Value}(h:ItemsOf (fun i v=>vs[i]?=some v) acc vs.length):acc.toList=vs:=by
 refine ext_getElem (by simpa using h.1) fun i h1 h2=>?_;have:vs[i]?=some acc[i]:=h.2 i acc[i] (by simp);rw[getElem?_eq_getElem h2] at this;simpa using this.symm
theorem G6 {Q:List Value->Shared->Prop}(hh:A.handled=none)(hS:jb s.heap S es ep t)(hf:t.fits es.size=true)(ht:TOk (!bt w) t)(hz:es.size<=sizeLine)
  (hQ:∀(s':Shared)(vs:List Value),vs.Perm (es.toList.map (·.2))->(∀c o,s.heap.get? c=some o->s'.heap.get? c=some o)->s'.gens=s.gens->s'.os=s.os->s.heap.objs.size<=s'.heap.objs.size->Q vs s') :
  wpAny (model prog w) A (collect (.ref S)) Q E s:=by
 obtain⟨o,ho,hx,hd⟩:=id hS;have hty:s.TypeIs (.ref S) "set" := ⟨o,ho,hx.1⟩;have lt:S<s.heap.objs.size:=lt_size ho;unfold collect;refine wpAny_bind (wpAny_runValue (codeAny_builtin F.entry_proto_collect ?_));rw[Around.under_plainId F.plain_proto_collect _];show wpAny _ A.in1 (newList [] >>= fun l=>again (.builtin "list.__iadd__" ⟨[l,.ref S],[]⟩)) _ _ s;refine wpAny_bind (wpAny_newObj_type ?_);refine wpAny_pure ⟨plainId_quiet F.plain_list_iadd _,codeAny_builtin F.entry_list_iadd ?_⟩;rw[Around.under_plainId F.plain_list_iadd _];have hS1:jb (s.heap.push { cls:=.type "list",data:=.seq ([]:List Value).toArray }) S es ep t:=hS.get fun o e=>get?_push_of_some _ e;have hL1:(s.heap.push { cls:=.type "list",data:=.seq ([]:List Value).toArray }).get? s.heap.objs.size=some { cls:=.type "list",data:=.seq ([]:List Value).toArray }:=get?_push_size _ rfl;have hk1:∀c o,s.heap.get? c=some o->(s.heap.push { cls:=.type "list",data:=.seq ([]:List Value).toArray }).get? c=some o:=fun c o e=>get?_push_of_some _ e;have hty1:Shared.TypeIs { s with heap:=s.heap.push { cls:=.type "list",data:=.seq ([]:List Value).toArray } } (.ref S) "set" := ⟨o,hk1 _ _ ho,hx.1⟩;generalize s.heap.push { cls:=.type "list",data:=.seq ([]:List Value).toArray }=h1 at hS1 hL1 hk1 hty1 |-;have ne1:s.heap.objs.size≠S:=Nat.ne_of_gt lt;show wpAny _ A.in1 (Builtin.List.listExtendWith (.ref s.heap.objs.size) (.ref S) (.ref s.heap.objs.size)) _ _ _;unfold Builtin.List.listExtendWith;refine wpAny_bind (wpAny_typeOf hty1 ?_);have q1:Builtin.List.listSameRef (.ref s.heap.objs.size) (.ref S)=false:=by simp [Builtin.List.listSameRef,ne1]
 rw[if_neg (by rw[q1];decide)];refine wpAny_bind (Qz (s:={ s with heap:=h1 }) hh hS1 hf ht hz fun s2 I fp vs St hk2 hg2 ho2 ht2 hp hI hle hlt W st0 hfp=>?_);have hty2:s2.TypeIs (.ref S) "set" := ⟨o,hk2 _ _ (hk1 _ _ ho),hx.1⟩;refine wpAny_bind (wpAny_holding ?_);unfold Builtin.List.listLengthHint;refine wpAny_bind (wpAny_specialOf hty2 F.slot_set_len.lookup ?_)
 (generalize hid:("set.__len__" : String)=id0;(fail_if_success (clear hid id0));wp_delta;rw[show splitId id0=some ("set","__len__") from by subst hid;decide +kernel];subst hid)
 refine wpAny_bind (wpAny_isInstance (b:=true) hty2 sub_set_self ?_);refine wpAny_ite_false rfl (wpAny_ite_true ψ (wpAny_bind (wpAny_typeOf hty2 (wpAny_pure ?_))));rw[if_pos δ];have hSf:s.heap.objs.size∉fp:=fun z=>by
  have l1:s.heap.objs.size<h1.objs.size:=lt_size hL1;rcases(hfp _ z).2 with e|e
  ·exact ne1 e
  ·exact Nat.lt_irrefl _ (Nat.lt_of_lt_of_le l1 e)
 have hL2:=hk2 _ _ hL1;refine wpAny_bind (wpAny_rule (wpAny_bind ?_));show wpAny _ A.in1 (updateSeq s.heap.objs.size (·.push .none) >>= fun _=>updateSeq s.heap.objs.size (·.pop)) _ _ _;refine wpAny_bind (wpAny_updateSeq hL2 rfl ?_);have hL3:=get?_update_self (Obj.mapSeq (·.push Value.none)) hL2 rfl;refine wpAny_updateSeq hL3 rfl ?_;have hL4:=get?_update_self (Obj.mapSeq (·.pop)) hL3 rfl;have oth:∀b o,b≠s.heap.objs.size->s2.heap.get? b=some o->((s2.heap.update s.heap.objs.size (Obj.mapSeq (·.push Value.none))).update s.heap.objs.size (Obj.mapSeq (·.pop))).get? b=some o:=
  fun b o hb e=>(get?_update_other _ _ (Ne.symm hb)).trans ((get?_update_other _ _ (Ne.symm hb)).trans e)
 have W1:=W A.in1 (by simpa using hh);refine wpAny_pure ⟨plainId_quiet F.plain_extend_loop _,codeAny_extend_loopS W1 (by rw[hp.length_eq,length_map,length_toList];exact hz) _ hSf _ vs.length 0 _ _ _ rfl (Nat.zero_le _)
  (W1.frame 0 s2 _ s2.toks st0 (Nat.le_refl _) fun b hb o e=>oth b o (fun z=>hSf (z ▸ hb)) e) hL4 (ItemsOf.nil _) fun s' acc' c' hm hS' hacc=>?_⟩
 show wpAny _ A (load s.heap.objs.size >>= _) _ _ s';refine wpAny_bind (wpAny_load hS' (wpAny_pure ?_));rw[Ud hacc];have l2:s.heap.objs.size<s'.heap.objs.size:=lt_size hS';refine hQ s' vs hp (fun c o e=>?_) (hm.gens.trans hg2) (hm.os.trans ho2) (Nat.le_of_lt l2);have lc:c<s.heap.objs.size:=lt_size e;have nI:c≠I:=fun z=>by
  have l3:s.heap.objs.size<h1.objs.size:=lt_size hL1;have l4:h1.objs.size<=I:=hle;rw[z] at lc;exact Nat.lt_irrefl _ (Nat.lt_of_lt_of_le (Nat.lt_trans lc l3) l4)
 exact hm.heap c o (by simp only[mem_cons,not_mem_nil,or_false,not_or];exact⟨Nat.ne_of_lt lc,nI⟩) (oth c o (Nat.ne_of_lt lc) (hk2 _ _ (hk1 _ _ e)))
end
end SRT
set_option maxHeartbeats 4000000
namespace L2
open PySem PySem.Spec PyProof.Rows
theorem xQ:∀{xs:List Int}{us:List Value},Vals (xs.map V.int) us->IntsAre us xs
 | [],_,h=>by cases h;exact .nil
 | x::xs,_,h=>by
  cases h with
  | cons r h=>
   obtain⟨t,rfl⟩:=r;exact .cons x t (xQ h)
theorem Ca:∀{us:List Value}{xs:List Int},IntsAre us xs->Vals (xs.map V.int) us
 | _,_,.nil=>.nil
 | _,_,.cons n t h=>.cons ⟨t,rfl⟩ (Ca h)
section
variable {X:Cx}{pins:List (Addr×Obj)}{s:Shared}{σ:St}{H:Hp}
theorem Inv.drawn (I:Inv X pins σ H s)(d:Drawn):Inv X pins σ H { s with drawn:=d }:=
 I.step (g':=s.gens) (d':=d) (t':=s.toks) (h':=s.heap) (ch:=[]) (fun _ z=>nomatch z) (fun b o _ _ _ e _=>e) (fun b o _ _ _ e _=>⟨o.slots,e⟩) (fun _ _ _ _ n=>n) (fun b o _ e=>⟨o,e⟩) (fun _ _ e=>e) (fun _ _ _ e=>e) (fun b ps e=>⟨#[],by rw[e];simp⟩) (fun _ h=>h) I.hok I.bare
end
theorem mO {ok:Addr->Prop}{H:Hp}{x:V}{it:It1}(t:bC ok H x (itD it)):∃p,x=.ref p/\ok p/\qK H p it:=by
 cases it with
 | one a=>
  cases t with
  | tup o e z ts=>cases ts with|cons t1 ts=>cases t1;cases ts with|cons t2 ts=>cases t2;cases ts;exact⟨_,rfl,o,⟨e⟩⟩
 | rng a b=>
  cases t with
  | tup o e z ts=>cases ts with|cons t1 ts=>cases t1;cases ts with|cons t2 ts=>cases t2;cases ts with|cons t3 ts=>cases t3;cases ts;exact⟨_,rfl,o,⟨e⟩⟩
 | bits m v=>
  cases t with
  | tup o e z ts=>cases ts with|cons t1 ts=>cases t1;cases ts with|cons t2 ts=>cases t2;cases ts with|cons t3 ts=>cases t3;cases ts;exact⟨_,rfl,o,⟨e⟩⟩
theorem mQ {ok:Addr->Prop}{H:Hp}{x:V}{its:List It1}(t:bC ok H x (ni its)):∃q us,x=.ref q/\ok q/\H q=some (.lst us)/\us.length<=1000000/\aQ ok H us (its.map itD):=by
 cases t with
 | lst o e z ts=>exact⟨_,_,rfl,o,e,z,ts⟩
theorem gY {ok:Addr->Prop}{H:Hp}{x:V}{w s:Int}{css:List (List It1)}(t:bC ok H x (jy w s css)) :
  ∃p c vs,x=.ref p/\ok p/\H p=some (.tup [.int w,.int s,.ref c])/\ok c/\H c=some (.lst vs)/\vs.length<=1000000/\aQ ok H vs (css.map ni):=by
 cases t with
 | tup o e z ts=>cases ts with|cons t1 ts=>cases t1;cases ts with|cons t2 ts=>cases t2;cases ts with|cons t3 ts=>cases ts;cases t3 with|lst o2 e2 z2 ts2=>exact⟨_,_,_,rfl,o,e,o2,e2,z2,ts2⟩
theorem Ke:("from" : Str) ≠ "bits" := by decide +kernel
theorem Yp:∀{a b:It1},itD a=itD b->a=b:=by
 intro a b h;cases a <;> cases b <;> simp only[itD,PyData.tuple.injEq,List.cons.injEq,PyData.str.injEq,PyData.int.injEq,and_true,true_and,reduceCtorEq,and_false] at h
 ·rw[h]
 ·rw[h.1,h.2]
 ·exact absurd h.1 Ke
 ·exact absurd h.1.symm Ke
 ·obtain⟨h1,h2⟩:=h;rw[Int.ofNat_inj.mp h1,Int.ofNat_inj.mp h2]
open Classical in
noncomputable def pickD (w n:Int)(d:PyData):Bool:=decide (∃it,d=itD it/\aN w n it=true)
theorem yj (w n:Int)(it:It1):pickD w n (itD it)=aN w n it:=by
 unfold pickD;cases h:aN w n it with
 | true=>exact @decide_eq_true _ (_) ⟨it,rfl,h⟩
 | false=>exact @decide_eq_false _ (_) fun⟨it2,e,q⟩=>by rw[<- Yp e,h] at q;cases q
theorem HB (w n:Int)(its:List It1):((its.map itD).map (pickD w n)).any id=its.any (aN w n):=by
 rw[map_map,any_map];congr 1;funext it;exact yj w n it
def gj (w n:Int):List (List It1)->Nat
 | []=>0
 | its::r=>if its.any (aN w n)=true then 0 else gj w n r+1
theorem zj {w n:Int}{its:List It1}:∀{css:List (List It1)}{i:Nat},css[i]?=some its->(∀(j:Nat)(cs:List It1),j<i->css[j]?=some cs->cs.any (aN w n)=false)->its.any (aN w n)=true->gj w n css=i
 | c::css,0,h,_,e=>by
  simp only[getElem?_cons_zero,Option.some.injEq] at h;subst h;unfold gj;rw[if_pos e]
 | c::css,i+1,h,hb,e=>by
  unfold gj;rw[if_neg (by rw[hb 0 c ω rfl];decide),zj (i:=i) (by simpa using h) (fun j cs hj hc=>hb (j+1) cs ω (by simpa using hc)) e]
theorem vR {w n:Int}:∀{css:List (List It1)},(∀(j:Nat)(cs:List It1),css[j]?=some cs->cs.any (aN w n)=false)->gj w n css=css.length
 | [],_=>rfl
 | c::css,hb=>by
  unfold gj;rw[if_neg (by rw[hb 0 c rfl];decide),vR fun j cs hc=>hb (j+1) cs (by simpa using hc)];rfl
def Ks:Sp:=fun vs H Q _=>∃(w n:Int)(x:V)(ok:Addr->Prop)(its:List It1),vs=[.int w,x,.int n]/\1<=w/\w<=40/\bC ok H x (ni its)/\∀H',Same H H'->Q (.bl (its.any (aN w n))) H'
def Fx:Sp:=fun vs H Q _=>∃(x:V)(n w s:Int)(ok:Addr->Prop)(css:List (List It1)),vs=[x,.int n]/\1<=w/\w<=40/\bC ok H x (jy w s css)/\∀H',Same H H'->Q (.int (gj w n css:Nat)) H'
section
variable {prog:Program}{w:World}{A:Around}{R:Result->Shared->Prop}{s:Shared}
abbrev qI (elt tg iter tg2 iter2:Expr)(scope:Scope)(pos:Pos):Expr:=.ListComp elt [⟨tg,iter,[],0⟩,⟨tg2,iter2,[],0⟩] scope pos
theorem Ph (elt tg iter tg2 iter2:Expr)(scope:Scope)(pos:Pos)(it acc:Value)(env:Env) :
  compTurn (qI elt tg iter tg2 iter2 scope pos) 0 it acc env=(standAt iter.pos >>= fun _=>pyNext it >>= fun r=>match r with
   | none=>pure (.done .next)
   | some v=>letOwnedTupleGo tg it v >>= fun _=>assign tg env v >>= fun _=>
    eval iter2 env >>= fun x=>standAt iter2.pos >>= fun _=>foldedSetIterable iter2 env x >>= fun x=>holding [x] (pyIter x) >>= fun it2=>runOwn (.compStart (qI elt tg iter tg2 iter2 scope pos) 1 it2 acc env) env >>= fun _=>
     again (.compLoop (qI elt tg iter tg2 iter2 scope pos) 0 it acc env)):=by rfl
theorem V8 (elt tg iter tg2 iter2:Expr)(scope:Scope)(pos:Pos)(it acc:Value)(env:Env) :
  compTurn (qI elt tg iter tg2 iter2 scope pos) 1 it acc env=(standAt iter2.pos >>= fun _=>pyNext it >>= fun r=>match r with
   | none=>pure (.done .next)
   | some v=>letOwnedTupleGo tg2 it v >>= fun _=>assign tg2 env v >>= fun _=>
    (eval elt env >>= fun x=>call (.builtin "list.append") [acc,x] >>= fun _=>pure ()) >>= fun _=>
     again (.compLoop (qI elt tg iter tg2 iter2 scope pos) 1 it acc env)):=by rfl
theorem Qk {elt tg iter tg2 iter2:Expr}{scope:Scope}{pos:Pos}{it acc:Value}{env:Env}
  (h0:codeAny (model prog w) A (.compLoop (qI elt tg iter tg2 iter2 scope pos) 1 it acc env) R s)
  (h:wpAny (model prog w) A (pyIter it) (fun it' s'=>codeAny (model prog w) A (.compLoop (qI elt tg iter tg2 iter2 scope pos) 1 it' acc env) R s') (notedBy (model prog w) A env fun x s'=>R (.error x) s') s) :
  codeAny (model prog w) A (.compStart (qI elt tg iter tg2 iter2 scope pos) 1 it acc env) R s:=by
 refine codeAny_of_tree (show wpAny _ _ ((compStart (qI elt tg iter tg2 iter2 scope pos) 1 it acc env).onRaise (fun x=>do noteFrame x env;standAt theWindowsPlace)) _ _ s from wpAny_notedAt ?_);unfold compStart;show wpAny _ _ (ask >>= _) _ _ s;refine wpAny_bind (wpAny_askSetting (wpAny_ite ?_));split
 ·exact wpAny_pure (And.intro rfl h0)
 ·refine wpAny_bind (wpAny_rule ?_);show wpAny _ _ (standAt iter2.pos >>= _) _ _ s;exact wpAny_bind (wpAny_standAt (wpAny_bind (wpAny_mono h (fun it' s' h'=>wpAny_pure (And.intro rfl h')) fun _ _ x=>x)))
theorem TY {elt tg iter tg2 iter2:Expr}{scope:Scope}{pos:Pos}{it acc:Value}{env:Env}(hs2:∀x,foldedSetIterable iter2 env x=pure x)(J:Nat->Shared->Prop)
  (turn:∀n s,J n s->wpAny (model prog w) A (pyNext it) (fun r s1=>match r with
   | none=>R (.ok .next) s1
   | some v=>wpAny (model prog w) A (letOwnedTupleGo tg it v) (fun _ s1'=>wpAny (model prog w) A (assign tg env v) (fun _ s2=>
     wpAny (model prog w) A (eval iter2 env) (fun x s3=>wpAny (model prog w) A (pyIter x) (fun it2 s4=>
      codeAny (model prog w) A (.compStart (qI elt tg iter tg2 iter2 scope pos) 1 it2 acc env) (fun r s5=>match r with | .ok _=>∃m,m<n/\J m s5 | .error _=>False) s4)
      (fun _ _=>False) s3) (fun _ _=>False) s2) (fun _ _=>False) s1') (fun _ _=>False) s1) (fun _ _=>False) s)
  (n:Nat) (h:J n s):codeAny (model prog w) A (.compLoop (qI elt tg iter tg2 iter2 scope pos) 0 it acc env) R s:=by
 refine codeAny_loop rfl J (fun n z hJ=>?_) n h;show wpAny _ A ((compTurn (qI elt tg iter tg2 iter2 scope pos) 0 it acc env).onRaise (fun y=>do noteFrame y env;theTreesLotGoes y)) _ _ z;refine wpAny_noted ?_;rw[Ph];refine wpAny_bind (wpAny_standAt (wpAny_bind (wpAny_mono (turn n z hJ) (fun r s1 h1=>?_) fun _ _ q=>q.elim)));cases r with
 | none=>exact wpAny_pure h1
 | some v=>
  refine wpAny_bind (wpAny_mono h1 (fun _ s1' h1'=>?_) fun _ _ q=>q.elim);refine wpAny_bind (wpAny_mono h1' (fun _ s2 h2=>wpAny_bind (wpAny_mono h2 (fun x s3 h3=>?_) fun _ _ q=>q.elim)) fun _ _ q=>q.elim);refine wpAny_bind (wpAny_standAt (wpAny_bind (wpAny_of_eq (hs2 x) (wpAny_bind (wpAny_holding (wpAny_mono h3 (fun it2 s4 h4=>?_) fun _ _ q=>q.elim))))));refine wpAny_bind (wpAny_runOwn (codeAny_mono h4 fun r s5 h5=>?_));cases r with
  | ok f=>exact wpAny_pure ⟨rfl,h5⟩
  | error e=>exact h5.elim
theorem X6 {elt tg iter tg2 iter2:Expr}{scope:Scope}{pos:Pos}{it acc:Value}{env:Env}(J:Nat->Shared->Prop)
  (turn:∀n s,J n s->wpAny (model prog w) A (pyNext it) (fun r s1=>match r with
   | none=>R (.ok .next) s1
   | some v=>wpAny (model prog w) A (letOwnedTupleGo tg2 it v) (fun _ s1'=>wpAny (model prog w) A (assign tg2 env v) (fun _ s2=>
     wpAny (model prog w) A (eval elt env) (fun x s4=>wpAny (model prog w) A (call (.builtin "list.append") [acc,x]) (fun _ s5=>∃m,m<n/\J m s5) (fun _ _=>False) s4) (fun _ _=>False) s2) (fun _ _=>False) s1') (fun _ _=>False) s1) (fun _ _=>False) s)
  (n:Nat) (h:J n s):codeAny (model prog w) A (.compLoop (qI elt tg iter tg2 iter2 scope pos) 1 it acc env) R s:=by
 refine codeAny_loop rfl J (fun n z hJ=>?_) n h;show wpAny _ A ((compTurn (qI elt tg iter tg2 iter2 scope pos) 1 it acc env).onRaise (fun y=>do noteFrame y env;theTreesLotGoes y)) _ _ z;refine wpAny_noted ?_;rw[V8];refine wpAny_bind (wpAny_standAt (wpAny_bind (wpAny_mono (turn n z hJ) (fun r s1 h1=>?_) fun _ _ q=>q.elim)));cases r with
 | none=>exact wpAny_pure h1
 | some v=>
  refine wpAny_bind (wpAny_mono h1 (fun _ s1' h1'=>?_) fun _ _ q=>q.elim);refine wpAny_bind (wpAny_mono h1' (fun _ s2 h2=>wpAny_bind (wpAny_bind (wpAny_mono h2 (fun x s3 h3=>?_) fun _ _ q=>q.elim))) fun _ _ q=>q.elim);exact wpAny_bind (wpAny_mono h3 (fun _ s5 h5=>wpAny_pure (wpAny_pure ⟨rfl,h5⟩)) fun _ _ q=>q.elim)
end
end L2
set_option maxHeartbeats 8000000
namespace L2
open PySem PySem.Spec PyProof.Rows
def Ik (mp:List (Option Nat))(wi:TI)(g:TG)(wi2:TI)(g2:TG)(te:TE):TE:=fun σ H Q=>wi σ H fun J H1=>
 ∃W:Nat->Nat->List V->St->Hp->Prop,(∃m,W 0 m [] (jh mp σ) H1)/\∀i m acc τ H2,W i m acc τ H2 ->
  (J.stop i H2/\∀d,H2 d=none->Q (.ref d) (upd H2 d (.lst acc))) \/
  (J.go i H2/\∃N:List V->St->Hp->Prop,(∀acc' τ' H',N acc' τ' H'->∃m',m'<m/\W (i+1) m' acc' τ' H')/\∀x H3,J.yld i H2 x H3->g x τ H3 fun τ1 H4=>wi2 τ1 H4 fun J2 H5=>
   ∃W2:Nat->Nat->List V->St->Hp->Prop,(∃m2,W2 0 m2 acc τ1 H5)/\∀j m2 acc2 τ2 H6,W2 j m2 acc2 τ2 H6 ->
    (J2.stop j H6/\N acc2 τ2 H6) \/
    (J2.go j H6/\acc2.length<sizeLine/\∃N2:List V->St->Hp->Prop,(∀acc' τ' H',N2 acc' τ' H'->∃m',m'<m2/\W2 (j+1) m' acc' τ' H')/\∀x2 H7,J2.yld j H6 x2 H7->g2 x2 τ2 H7 fun τ3 H8=>te τ3 H8 fun v H9=>N2 (acc2++[v]) τ3 H9))
section
variable {X:Cx}{NX N:List Str}{kX:List (Str×NameKind)}{mp:List (Option Nat)}{scope:Scope}
theorem R7 {tg iter tg2 iter2 elt:Expr}{pos:Pos}{wi wi2:TI}{g g2:TG}{te:TE}(N:List Str)(mp:List (Option Nat))(hNX:X.N=NX)(hkX:X.env.scope.names=kX)(S:wU NX kX N mp scope)(hc:X.calm=true)
  (hi:PI X tg iter wi) (hg:∀cl C s H fp,PG (bG X N scope cl C s H fp) tg g) (hi2:∀cl C s H fp,PI (bG X N scope cl C s H fp) tg2 iter2 wi2) (hg2:∀cl C s H fp,PG (bG X N scope cl C s H fp) tg2 g2) (he:∀cl C s H fp,PE (bG X N scope cl C s H fp) elt te)
  (hs:∀x,foldedSetIterable iter X.env x=pure x:=by intro _;rfl) (hs2:∀env x,foldedSetIterable iter2 env x=pure x:=by intro _ _;rfl):PE X (qI elt tg iter tg2 iter2 scope pos) (Ik mp wi g wi2 g2 te):=by
 intro pins s σ H Q I h;obtain⟨cl,hcl,hsub,hhas⟩:=Eo (env:=X.env) (scope:=scope) fun y hy hf=>I.ok.has y.1 (by
  rcases S.fre y hy hf with q|q
  ·exact .inl (show X.env.scope.names.lookup y.1=_ by rw[hkX];exact q)
  ·exact .inr (show X.env.scope.names.lookup y.1=_ by rw[hkX];exact q))
 rw[eval_ListComp];refine wpAny_comprehension_free (use:=none) rfl hs hcl S.kind S.locs ?_;refine thn (hi pins s σ H _ I h) fun v s1 h1=>thn h1 fun itv s2 h2=>?_;obtain⟨it,fp,tn,J,H2,e,I2,T,st2,f2,W,⟨m0,w0⟩,turn⟩:=h2;subst e;refine wpAny_newObj_type (wpAny_newFunctionEnv S.nocell (by intro y hy;simp at hy) (fun h3 hns hsb=>?_) S.kind);dsimp only at hns hsb |-;have hold:∀b∈fp,b<s2.heap.objs.size:=fun b hb=>by
  obtain⟨o,q,_⟩:=T.obj _ _ st2 b hb;exact lt_size q
 generalize hD:s2.heap.objs.size=D at hns hsb;generalize hH2:s2.heap.push { cls:=.type "list",dict:=none,data:=.seq ([]:List Value).toArray }=P2 at hns hsb |-;have hC:P2.objs.size=D+1:=by rw[<- hH2,size_push,hD]
 generalize hC':P2.objs.size=C at hns hsb |-;rw[hC'] at hC;have old:∀b o,s2.heap.get? b=some o->h3.get? b=some o:=fun b o q=>by
  have hb:=lt_size q;exact hsb.extBut b o (na1 hb hD hC) (get?_push_of_some _ (hH2 ▸ get?_push_of_some _ q))
 have accD:h3.get? D=some { cls:=.type "list",data:=.seq ([]:List Value).toArray }:=
  hsb.extBut _ _ (na2 hC) (get?_push_of_some _ (by rw[<- hH2,<- hD];exact get?_push_size _ rfl))
 have hfr:D∉frs X.stack:=fun z=>by
  rcases mem_cons.mp (I2.vA D z) with q|q
  ·exact na0 I2.lt hD q.symm
  ·exact I2.XJ (na4 hD) q
 have I0:Inv (bG X N scope cl C s2 H2 fp) [(D,{ cls:=.type "list",data:=.seq ([]:List Value).toArray })] (jh mp σ) H2 { s2 with heap:=h3,toks:=s2.toks+([]:List (Str×Value)).length }:=
  En (s':={ s2 with heap:=h3,toks:=s2.toks+([]:List (Str×Value)).length }) hNX hkX S I2 f2 hold (na3 hD hC) hsub hhas rfl rfl ⟨_,hns⟩ old fun p hp=>by
   have ep:=mem_singleton.mp hp;subst ep;exact⟨accD,I2.hok.fresh (na4 hD),na2 hC,hfr,fun v z=>by cases z⟩
 have T0:tn 0 h3:=T.keep _ _ _ st2 fun b _ o q=>old b o q;have no:∀{α:Type}{t:Sem α}{Q1 Q2:α->Shared->Prop}{E:Value->Shared->Prop}{z:Shared},wpAny (model X.prog X.w) X.A t Q1 (fun _ _=>False) z->(∀a z,Q1 a z->Q2 a z)->wpAny (model X.prog X.w) X.A t Q2 E z:=
  fun q f=>wpAny_mono q f fun _ _ z=>z.elim
 have loop:∀z:Shared,z={ s2 with heap:=h3,toks:=s2.toks+([]:List (Str×Value)).length } ->
   codeAny (model X.prog X.w) X.A (.compLoop (qI elt tg iter tg2 iter2 scope pos) 0 (.ref it) (.ref D) (compEnvC scope cl C X.env))
    (compPost (model X.prog X.w) X.A X.xe none (EP X pins σ Q) (.ref D) C) z:=by
  rintro z rfl;have stat:∀{H':Hp}{pl:List (Addr×Obj)},(∀b∈fp,H' b=none)->(∀p∈pl,p.1=D)->∀b∈fp,tM (bG X N scope cl C s2 H2 fp) pl H' b:=fun hn hp b hb=>by
   have hb2:=hold b hb;refine⟨hn b hb,na1 hb2 hD hC,(Em hkX S I2 f2 hold (na3 hD hC) hsub hhas).exfs b hb,.inl hb,fun x c q=>(f2 b hb).2.2.2.2.1 x c (hsub x c q),fun p hpp=>?_⟩;have hpD:=hp p (by simpa [bG] using hpp);rw[hpD];exact(na0 hb2 hD).symm
  refine TY (env:=compEnvC scope cl C X.env) (hs2 _) (fun n z=>∃i acc τ H' its k,Inv (bG X N scope cl C s2 H2 fp) [(D,{ cls:=.type "list",data:=.seq (List.toArray its) k })] τ H' z/\tn i z.heap/\(∀b∈fp,H' b=none)/\Vals acc its/\acc.length<=sizeLine/\W i n acc τ H')
   ?_ m0 ⟨0,[],_,H2,[],0,I0,T0,fun b hb=>(f2 b hb).1,.nil,Nat.zero_le _,w0⟩
  rintro n s5 ⟨i,acc,τ,H5,its,k,I5,st5,fr5,va,hz,w5⟩;rcases turn i n acc τ H5 w5 with⟨stop,qn⟩|⟨go,N9,hN9,step⟩
  ·refine no (T.done (bG X N scope cl C s2 H2 fp) rfl rfl rfl hc i _ s5 τ H5 _ I5 (stat fr5 (by simp)) st5 stop) fun r s6 ⟨hr,I6⟩=>?_;subst hr;obtain⟨m6,hn6,_⟩:=I6.loc;refine⟨m6,hn6,fun h' sb=>?_⟩;obtain⟨dD,nD,_,_,_⟩:=I6.pin (D,_) (mem_append_right _ (mem_singleton.mpr rfl));have U:=I6.base;have nC:H5 C=none:=I6.free;have ne:∀b o,s2.heap.get? b=some o->b≠C/\b≠D:=fun b o q=>by
    exact⟨na1 (lt_size q) hD hC,na0 (lt_size q) hD⟩
   have keepC:∀b o,b≠C->s6.heap.get? b=some o->h'.get? b=some o:=fun b o hb q=>(sb.2 b hb).trans q;have U':Un (frs X.stack) fp H2 (upd H5 D (.lst acc)) s2.heap h':=by
    refine⟨fun b o q n1 hb hx=>keepC b o (ne b o q).1 (U.keep b o q n1 hb hx),fun b o q n1 hb hx=>?_,fun b o q n1 hx=>?_,fun b o q hx=>?_,fun b xs q=>?_,fun b o xs q=>?_,fun b ps q=>?_⟩
    ·obtain⟨sl,z⟩:=U.slot b o q n1 hb hx;exact⟨sl,keepC b _ (ne b o q).1 z⟩
    ·rw[aH (ne b o q).2];exact U.free b o q n1 hx
    ·obtain⟨o',z⟩:=U.there b o q hx;exact⟨o',keepC b _ (ne b o q).1 z⟩
    ·have z:=U.tups b xs q;rw[aH (aF z nD)];exact z
    ·have z:=U.frzs b o xs q;rw[aH (aF z nD)];exact z
    ·obtain⟨more,z⟩:=U.tbls b ps q;exact⟨more,by rw[aH (aF z nD)];exact z⟩
   have hok:HOk X.prog X.w (upd H5 D (.lst acc)) h':=fun b u q=>by
    by_cases hb:b=D
    ·subst hb;rw[aB] at q;cases q;exact⟨hz,its,k,va,keepC _ _ (na2 hC) dD⟩
    ·rw[aH hb] at q;refine(I6.hok b u q).stay (fun c v hcc z=>keepC c v ?_ z) (fun c z=>by rw[aH (aF z nD)];exact z) fun c xs z=>by rw[aH (aF z nD)];exact z
     rcases hcc with z1|z1
     ·subst z1;exact aF q nC
     ·exact aF z1 nC
   have I7:Inv X pins σ (upd H5 D (.lst acc)) { s6 with heap:=h' }:=I2.call' (s':={ s6 with heap:=h' }) (ch:=fp) I6.os U' hok I6.bare fun b hb=>by
    obtain⟨_,a2,_,a4,a5,a6⟩:=f2 b hb;exact⟨a4,a2,a5,a6⟩
   exact⟨.ref D,_,I7,rfl,qn D nD⟩
  ·refine no (T.item (bG X N scope cl C s2 H2 fp) rfl rfl rfl hc i _ s5 τ H5 _ I5 (stat fr5 (by simp)) st5 go) fun r s6 ⟨u,hr,h6⟩=>?_;subst hr;refine no h6 fun _ s7 ⟨x,H7,I7,r7,y7,st7,fr7⟩=>?_;have I7':=I7.pinned (stat fr7 (by simp)) (T.obj _ _ st7);have again:∀{H':Hp}{z:Shared}{its':List Value}{k':Nat}{τ1:St},Inv (bG X N scope cl C s2 H2 fp) ([(D,{ cls:=.type "list",data:=.seq (List.toArray its') k' })]++gR fp s7.heap) τ1 H' z ->
     tn (i+1) z.heap/\(∀b∈fp,H' b=none)/\Inv (bG X N scope cl C s2 H2 fp) [(D,{ cls:=.type "list",data:=.seq (List.toArray its') k' })] τ1 H' z:=fun {H' z its' k' τ1} Iz=>by
    have get:∀b∈fp,∀o,s7.heap.get? b=some o->z.heap.get? b=some o/\H' b=none:=fun b hb o q=>by
     obtain⟨a1,a2,_⟩:=Iz.pin (b,o) (mem_append_right _ (mem_append_right _ (jq hb q)));exact⟨a1,a2⟩
    refine⟨T.keep _ _ _ st7 fun b hb o q=>(get b hb o q).1,fun b hb=>?_,Iz.j6⟩;obtain⟨o,q,_⟩:=T.obj _ _ st7 b hb;exact(get b hb o q).2
   refine no (hg cl C s2 H2 fp _ s7 τ H7 x u _ I7' r7 (step x H7 y7)) fun _ s8 ⟨τ1,H8,I8,q8⟩=>?_
   -- the second walk
   refine no (hi2 cl C s2 H2 fp _ s8 τ1 H8 _ I8 q8) fun v9 s9 h9=>no h9 fun itv2 s10 h10=>?_;obtain⟨it2,fp2,tn2,J2,H10,e2,I10,T2,st10,f10,W2,⟨m2,w10⟩,turn2⟩:=h10;subst e2;have stat2:∀{H':Hp}{its':List Value}{k':Nat},(∀b∈fp2,H' b=none)->∀b∈fp2,tM (bG X N scope cl C s2 H2 fp) ([(D,{ cls:=.type "list",data:=.seq (List.toArray its') k' })]++gR fp s7.heap) H' b:=fun {H' its' k'} hn b hb=>by
    obtain⟨_,a2,a3,a4,a5,a6⟩:=f10 b hb;refine⟨hn b hb,a2,a3,a4,a5,fun p hp=>?_⟩;rcases mem_append.mp hp with z|z
    ·exact a6 p (mem_append_left _ z)
    ·rcases mem_append.mp z with z|z
     ·have ep:=mem_singleton.mp z;subst ep;exact a6 (D,{ cls:=.type "list",data:=.seq (List.toArray its) k }) (mem_append_right _ (mem_append_left _ (mem_singleton.mpr rfl)))
     ·exact a6 p (mem_append_right _ (mem_append_right _ z))
   have nD2:∀b∈fp2,b≠D:=fun b hb=>by
    obtain⟨_,_,_,_,_,a6⟩:=f10 b hb;exact(a6 (D,{ cls:=.type "list",data:=.seq (List.toArray its) k }) (mem_append_right _ (mem_append_left _ (mem_singleton.mpr rfl)))).symm
   have inner:codeAny (model X.prog X.w) X.A (.compLoop (qI elt tg iter tg2 iter2 scope pos) 1 (.ref it2) (.ref D) (compEnvC scope cl C X.env))
     (fun r s5=>match r with | .ok _=>∃m,m<n/\∃i acc τ H' its k,Inv (bG X N scope cl C s2 H2 fp) [(D,{ cls:=.type "list",data:=.seq (List.toArray its) k })] τ H' s5/\tn i s5.heap/\(∀b∈fp,H' b=none)/\Vals acc its/\acc.length<=sizeLine/\W i m acc τ H' | .error _=>False) s10:=by
    refine X6 (env:=compEnvC scope cl C X.env) (fun n z=>∃j acc τ H' its k,Inv (bG X N scope cl C s2 H2 fp) ([(D,{ cls:=.type "list",data:=.seq (List.toArray its) k })]++gR fp s7.heap) τ H' z/\tn2 j z.heap/\(∀b∈fp2,H' b=none)/\Vals acc its/\acc.length<=sizeLine/\W2 j n acc τ H')
     ?_ m2 ⟨0,acc,τ1,H10,its,k,I10,st10,fun b hb=>(f10 b hb).1,va,hz,w10⟩
    rintro n2 s11 ⟨j,acc2,τ2,H11,its2,k2,I11,st11,fr11,va2,hz2,w11⟩;rcases turn2 j n2 acc2 τ2 H11 w11 with⟨stop,qn⟩|⟨go2,hlt,N2,hN2,step2⟩
    ·refine no (T2.done (bG X N scope cl C s2 H2 fp) rfl rfl rfl hc j _ s11 τ2 H11 _ I11 (stat2 fr11) st11 stop) fun r s12 ⟨hr,I12⟩=>?_;subst hr;obtain⟨m',hm,w12⟩:=hN9 _ _ _ qn;obtain⟨a1,a2,a3⟩:=again I12;exact⟨m',hm,i+1,acc2,τ2,H11,its2,k2,a3,a1,a2,va2,hz2,w12⟩
    ·refine no (T2.item (bG X N scope cl C s2 H2 fp) rfl rfl rfl hc j _ s11 τ2 H11 _ I11 (stat2 fr11) st11 go2) fun r s12 ⟨u2,hr,h12⟩=>?_;subst hr;refine no h12 fun _ s13 ⟨x2,H13,I13,r13,y13,st13,fr13⟩=>?_;have I13':=I13.pinned (stat2 fr13) (T2.obj _ _ st13);refine no (hg2 cl C s2 H2 fp _ s13 τ2 H13 x2 u2 _ I13' r13 (step2 x2 H13 y13)) fun _ s14 ⟨τ3,H14,I14,q14⟩=>?_;refine no (he cl C s2 H2 fp _ s14 τ3 H14 _ I14 q14) fun y s15 ⟨v,H15,I15,rv,q15⟩=>?_;obtain⟨m',hm,w15⟩:=hN2 _ _ _ q15;have get2:∀b∈fp2,∀o,s13.heap.get? b=some o->s15.heap.get? b=some o/\H15 b=none:=fun b hb o q=>by
      obtain⟨a1,a2,_⟩:=I15.pin (b,o) (mem_append_right _ (mem_append_right _ (jq hb q)));exact⟨a1,a2⟩
     have t15:tn2 (j+1) s15.heap:=T2.keep _ _ _ st13 fun b hb o q=>(get2 b hb o q).1;have f15:∀b∈fp2,H15 b=none:=fun b hb=>by
      obtain⟨o,q,_⟩:=T2.obj _ _ st13 b hb;exact(get2 b hb o q).2
     have I16:=I15.j6;obtain⟨dD,nD,_,_,_⟩:=I16.pin (D,_) (mem_append_right _ (mem_append_left _ (mem_singleton.mpr rfl)));have hlen:=va2.length;refine call_meets F.slot_list_append ⟨_,dD,rfl⟩ F.entry_list_append (F.args_list_append_2 _ _) (PySem.list_append D its2.toArray k2 y (by rw[size_toArray];omega)) ⟨dD,?_⟩;obtain⟨k',q⟩:∃k',(s15.heap.update D (Obj.mapSeq fun a=>a.push y)).get? D=some { cls:=.type "list",data:=.seq (its2++[y]).toArray k' }:=by
      have q:=PySem.IsL.update dD (fun a=>a.push y);rw[show its2.toArray.push y=(its2++[y]).toArray by simp] at q;exact⟨_,q⟩
     have a4:Inv (bG X N scope cl C s2 H2 fp) (gR fp s7.heap) τ3 H15 s15:=I16.lV fun p hp=>I16.pin p (mem_append_right _ (mem_append_right _ hp));have a5:Inv (bG X N scope cl C s2 H2 fp) (gR fp s7.heap) τ3 H15 { s15 with heap:=s15.heap.update D (Obj.mapSeq fun a=>a.push y),toks:=s15.toks }:=
      a4.turned (it:=D) (fun b o hb z=>(get?_update_other _ _ (Ne.symm hb)).trans z) nD (na2 hC) (.inr (na4 hD))
       (fun x c z=>by
        obtain⟨_,o,h1,_⟩:=I2.cell x c (hsub x c z);exact na0 (lt_size h1) hD) fun p hp=>by
        have hb:=(qR (by simpa [bG] using hp)).1;exact na0 (hold _ hb) hD
     refine⟨m',hm,j+1,acc2++[v],τ3,H15,its2++[y],k',a5.lV fun p hp=>?_,T2.keep _ _ _ t15 fun b hb o z=>(get?_update_other _ _ (nD2 b hb).symm).trans z,f15,va2.append (.cons rv .nil),by rw[length_append,length_singleton];omega,w15⟩;rcases mem_append.mp hp with z|z
     ·have ep:=mem_singleton.mp z;subst ep;exact⟨q,nD,na2 hC,hfr,fun v z=>by cases z⟩
     ·exact a5.pin p (mem_append_right _ z)
   exact Qk inner (T2.self _ 0 _ _ _ st10 inner)
 exact codeAny_compStart_list (loop _ rfl) (T.self _ 0 _ _ _ T0 (loop _ rfl))
end
end L2
set_option maxHeartbeats 4000000
namespace L2
open PySem PySem.Spec PyProof.Rows
def InW (g2:TG)(te:TE)(N:List V->St->Hp->Prop)(acc:List V)(τ1:St)(J2:It)(H5:Hp):Prop:=
 ∃W2:Nat->Nat->List V->St->Hp->Prop,(∃m2,W2 0 m2 acc τ1 H5)/\∀j m2 acc2 τ2 H6,W2 j m2 acc2 τ2 H6 ->
  (J2.stop j H6/\N acc2 τ2 H6) \/
  (J2.go j H6/\acc2.length<sizeLine/\∃N2:List V->St->Hp->Prop,(∀acc' τ' H',N2 acc' τ' H'->∃m',m'<m2/\W2 (j+1) m' acc' τ' H')/\∀x2 H7,J2.yld j H6 x2 H7->g2 x2 τ2 H7 fun τ3 H8=>te τ3 H8 fun v H9=>N2 (acc2++[v]) τ3 H9)
def ZP (mp:List (Option Nat))(g:TG)(wi2:TI)(g2:TG)(te:TE)(σ:St)(Q:VK)(J:It)(H1:Hp):Prop:=
 ∃W:Nat->Nat->List V->St->Hp->Prop,(∃m,W 0 m [] (jh mp σ) H1)/\∀i m acc τ H2,W i m acc τ H2 ->
  (J.stop i H2/\∀d,H2 d=none->Q (.ref d) (upd H2 d (.lst acc))) \/
  (J.go i H2/\∃N:List V->St->Hp->Prop,(∀acc' τ' H',N acc' τ' H'->∃m',m'<m/\W (i+1) m' acc' τ' H')/\∀x H3,J.yld i H2 x H3->g x τ H3 fun τ1 H4=>wi2 τ1 H4 (InW g2 te N acc τ1))
section
variable {mp:List (Option Nat)}{wi wi2:TI}{g g2:TG}{te:TE}{σ τ1:St}{H:Hp}{Q:VK}{R:It->Hp->Prop}{K:PySem.W.Frag}{a:Addr}{xs:List V}
theorem YZ (h:∀R:It->Hp->Prop,R=ZP mp g wi2 g2 te σ Q->wi σ H R):Ik mp wi g wi2 g2 te σ H Q:=h _ rfl
theorem YX (hR:R=ZP mp g wi2 g2 te σ Q)(Pv:Nat->List V->St->Hp->Prop)(h0:Pv 0 [] (jh mp σ) H)
  (hq:∀i acc τ H,Pv i acc τ H->SqL K H a xs)
  (hs:∀i x acc τ H,xs[i]?=some x->Pv i acc τ H->g x τ H fun τ1 H4=>∀R2:It->Hp->Prop,R2=InW g2 te (Pv (i+1)) acc τ1->wi2 τ1 H4 R2)
  (hg:∀x τ H k k',(∀τ' H',k τ' H'->k' τ' H')->g x τ H k->g x τ H k')
  (hd:∀acc τ H d,Pv xs.length acc τ H->H d=none->Q (.ref d) (upd H d (.lst acc))):R (Itl K a) H:=by
 subst hR;refine⟨fun i m acc τ H2=>m=xs.length-i/\i<=xs.length/\Pv i acc τ H2,⟨_,rfl,Nat.zero_le _,h0⟩,?_⟩;rintro i m acc τ H2 ⟨rfl,hi,p⟩;by_cases hlt:i<xs.length
 ·refine .inr ⟨⟨xs,xs[i],hq i acc τ H2 p,getElem?_eq_getElem hlt⟩,Pv (i+1),fun acc' τ' H' q=>⟨_,ω,rfl,hlt,q⟩,fun x H3 y=>?_⟩;obtain⟨rfl,hx⟩:=y;exact hg _ _ _ _ _ (fun τ' H' z=>z _ rfl) (hs i x acc τ _ (hx xs (hq i acc τ _ p)) p)
 ·have e:i=xs.length:=ω;subst e;exact .inl ⟨⟨xs,hq _ acc τ H2 p,Nat.le_refl _⟩,fun d hd'=>hd acc τ H2 d p hd'⟩
theorem acR {N:List V->St->Hp->Prop}{acc0:List V}(hR:R=InW g2 te N acc0 τ1)(Pw:Nat->List V->St->Hp->Prop)(h0:Pw 0 acc0 τ1 H)
  (hl:∀j acc τ H,j<xs.length->Pw j acc τ H->acc.length<sizeLine) (hq:∀i acc τ H,Pw i acc τ H->SqL K H a xs)
  (hs:∀i x acc τ H,xs[i]?=some x->Pw i acc τ H->g2 x τ H fun τ3 H8=>te τ3 H8 fun v H9=>Pw (i+1) (acc++[v]) τ3 H9)
  (hd:∀acc τ H,Pw xs.length acc τ H->N acc τ H):R (Itl K a) H:=by
 subst hR;refine⟨fun i m acc τ H2=>m=xs.length-i/\i<=xs.length/\Pw i acc τ H2,⟨_,rfl,Nat.zero_le _,h0⟩,?_⟩;rintro i m acc τ H2 ⟨rfl,hi,p⟩;by_cases hlt:i<xs.length
 ·refine .inr ⟨⟨xs,xs[i],hq i acc τ H2 p,getElem?_eq_getElem hlt⟩,hl i acc τ H2 hlt p,Pw (i+1),fun acc' τ' H' q=>⟨_,ω,rfl,hlt,q⟩,fun x H3 y=>?_⟩;obtain⟨rfl,hx⟩:=y;exact hs i x acc τ _ (hx xs (hq i acc τ _ p)) p
 ·have e:i=xs.length:=ω;subst e;exact .inl ⟨⟨xs,hq _ acc τ H2 p,Nat.le_refl _⟩,hd acc τ H2 p⟩
end
section
variable {X:Cx}
theorem RD {NX:List Str}{kX:List (Str×NameKind)}{scope:Scope}{tg iter tg2 iter2 elt:Expr}{pos:Pos}{wi wi2:TI}{g g2:TG}{te:TE}(N:List Str)(mp:List (Option Nat))(hNX:X.N=NX)(hkX:X.env.scope.names=kX)(S:wU NX kX N mp scope)(hc:X.calm=true)
  (hi:QI X tg iter wi) (hg:∀cl C s H fp,QG (bG X N scope cl C s H fp) tg g) (hi2:∀cl C s H fp,QI (bG X N scope cl C s H fp) tg2 iter2 wi2) (hg2:∀cl C s H fp,QG (bG X N scope cl C s H fp) tg2 g2) (he:∀cl C s H fp,QE (bG X N scope cl C s H fp) elt te)
  (hs:∀x,foldedSetIterable iter X.env x=pure x:=by intro _;rfl) (hs2:∀env x,foldedSetIterable iter2 env x=pure x:=by intro _ _;rfl):QE X (.ListComp elt [⟨tg,iter,[],0⟩,⟨tg2,iter2,[],0⟩] scope pos) (Ik mp wi g wi2 g2 te):=
 ⟨R7 N mp hNX hkX S hc hi.h (fun cl C s H fp=>(hg cl C s H fp).h) (fun cl C s H fp=>(hi2 cl C s H fp).h) (fun cl C s H fp=>(hg2 cl C s H fp).h) (fun cl C s H fp=>(he cl C s H fp).h) hs hs2⟩
end
section
variable {X:Cx}{o e:Expr}{p pos:Pos}{to ti:TE}
theorem Vy (o:Expr)(u)(e:Expr)(p pos:Pos)(env:Env)(v:Value):assign (.Subscript o (.UnaryOp u e p) pos) env v=(do
   let ov <- holding [v] (eval o env)
   let iv <- holding [v,ov] (eval (.UnaryOp u e p) env)
   standAt pos
   holding [v,ov,iv] (setItem ov iv v)
   release [v,ov,iv] []):=rfl
theorem KH {u}{t:VG}(ho:QE X o to)(hi:QE X (.UnaryOp u e p) ti)(hs:VJ X t):QG X (.Subscript o (.UnaryOp u e p) pos) (YD to ti t):=⟨RT ho.h hi.h hs (fun v=>Vy o u e p pos X.env v)⟩
end
end L2
namespace SRT
open PySem PySem.Builtin PySem.Builtin.List PyProof.Rows
def jU:SortKind:=(sortPriv% PySem.Builtin.KeyKind.tuples) true
section
variable {prog:Program}{w:World}{s:Shared}{A:Around}{E:Value->Shared->Prop}
theorem Jg {a b:Int}{t u:Tok}{Q:Bool->Shared->Prop}(h:Q (decide (a<b)) s):wpAny (model prog w) A (oneLt' false (.int a t) (.int b u)) Q E s:=by
 rw[oneLt'_eq];refine wpAny_bind (wpAny_richCompare_same (op:=.Lt) (T := "int") (typeIs_int s a t) (typeIs_int s b u) slot_int_lt (call_int_lt ⟨(by intro h;cases h),?_⟩));exact wpAny_truthy_bool h
end
end SRT
namespace SRT
open PySem PyProof.Rows
def Rk (f:Keyed->Int)(xs:Array Keyed)(i:Nat):Int:=match xs[i]? with
 | some p=>f p
 | none=>0
theorem Rk.at {f:Keyed->Int}{xs ys:Array Keyed}{i j:Nat}(h:xs[i]?=ys[j]?):Rk f xs i=Rk f ys j:=by
 unfold Rk;rw[h]
def Asc (f:Keyed->Int)(xs:Array Keyed)(n:Nat):Prop:=∀i j,i<j->j<n->Rk f xs i<Rk f xs j
def Dsc (f:Keyed->Int)(xs:Array Keyed)(n:Nat):Prop:=∀i j,i<j->j<n->Rk f xs j<Rk f xs i
structure RB (a₀:Array Keyed)(st:SortSt):Prop where
 kind:kindOf st=jU
 perm:(arrOf st).toList.Perm a₀.toList
 fail:failedOf st=none
 pend:pendingOf st=#[]
theorem RB.size {a₀:Array Keyed}{st:SortSt}(h:RB a₀ st):(arrOf st).size=a₀.size:=by
 have:=h.perm.length_eq;simpa using this
end SRT
namespace SRT
open PySem PyProof.Rows
end SRT
namespace SRT
open PySem PyProof.Rows
section
variable {prog:Program}{w:World}{s:Shared}{A:Around}{E:Value->Shared->Prop}
theorem Fl {v:Value}{vs:List Value}{ns:List Int}(hI:IntsAre (v::vs) ns):oneTypeOnly' (v::vs).toArray=pure (some (.type "int")):=by
 simp only[oneTypeOnly'_eq,mapM_toArray,mapM_typeOf_ints hI,map_pure,pure_bind,map_cons,getElem?_toArray,getElem?_cons_zero];rw[if_pos ?_];rw[List.all_toArray,all_cons];have e:(Value.type "int" == Value.type "int")=true:=rfl;rw[e,Bool.true_and,all_map];exact all_eq_true.mpr fun _ _=>rfl
theorem iC {vs:List Value}{p:Keyed}(h:p∈(pairsOf vs).toList):p.1∈vs/\p.2=p.1:=by
 unfold pairsOf at h;rw[Array.toList_zip] at h;obtain⟨i,hi,rfl⟩:=List.getElem_of_mem h;simp
end
end SRT
namespace SRT
open PySem PyProof.Rows
end SRT
namespace L2
open PySem PySem.Spec PyProof.Rows
theorem vy:∀{ps:List Addr}{us:List Value},Vals (ps.map V.ref) us->us=ps.map Value.ref
 | [],_,h=>by cases h;rfl
 | p::ps,_,h=>by
  cases h with
  | cons r h=>
   cases r;rw[vy h];rfl
theorem vH:∀(ps:List Addr),Vals (ps.map V.ref) (ps.map Value.ref)
 | []=>.nil
 | p::ps=>.cons rfl (vH ps)
theorem Bv:∀{xs:List Value}{ps:List Addr},xs.Perm (ps.map Value.ref)->∃qs:List Addr,xs=qs.map Value.ref/\qs.Perm ps:=fun {xs ps} h=>by
 have hx:∀v∈xs,∃p,v=Value.ref p:=fun v hv=>by
  obtain⟨p,_,e⟩:=mem_map.mp (h.mem_iff.mp hv);exact⟨p,e.symm⟩
 obtain⟨qs,rfl⟩:∃qs:List Addr,xs=qs.map Value.ref:=by
  clear h
  induction xs with
  | nil=>exact⟨[],rfl⟩
  | cons v xs ih=>
   obtain⟨p,rfl⟩:=hx v (mem_cons_self ..);obtain⟨qs,rfl⟩:=ih fun x m=>hx x (mem_cons_of_mem _ m);exact⟨p::qs,rfl⟩
 refine⟨qs,rfl,?_⟩;have:=h.filterMap fun v=>match v with | .ref p=>some p|_=>none
 simpa [filterMap_map,Function.comp_def] using this
end L2
namespace SRT
open PySem PyProof.Rows
def TP (s:Shared) (x:Value) (a:Int):Prop:=∃q o n t z,x=.ref q/\s.heap.get? q=some o/\o.cls=.type "tuple" /\ o.data=.seq #[.int a t,z] n
section
variable {prog:Program}{w:World}{s:Shared}{A:Around}{E:Value->Shared->Prop}
theorem abx {v:Value}{a:Int}{Q:Option Value->Shared->Prop}(h:TP s v a)(q:∀t,Q (some (.int a t)) s):wpAny (model prog w) A (firstOfTuple' v) Q E s:=by
 obtain⟨p,o,n,t,z,rfl,ho,hc,hs⟩:=h;show wpAny _ _ (typeOf (.ref p) >>= fun ty=>_) _ _ s;refine wpAny_bind (wpAny_typeOf (T := "tuple") (show s.TypeIs (.ref p) "tuple" from⟨o,ho,hc⟩) ?_);rw[if_neg δ];exact wpAny_bind (listItems_at ho hs (wpAny_pure (q t)))
theorem firstsP:∀{vs:List Value}{Q:List (Option Value)->Shared->Prop},(∀v∈vs,∃a,TP s v a)->(∀(ws:List Value)(ns:List Int),IntsAre ws ns->ws.length=vs.length->Q (ws.map some) s)->wpAny (model prog w) A (vs.mapM firstOfTuple') Q E s
 | [],Q,_,q=>by
  rw[mapM_nil];exact wpAny_pure (q [] [] .nil rfl)
 | v::vs,Q,h,q=>by
  rw[List.mapM_cons];obtain⟨a,hv⟩:=h v (mem_cons_self ..);refine wpAny_bind (abx hv fun t=>?_);refine wpAny_bind (firstsP (vs:=vs) (fun x hx=>h x (mem_cons_of_mem _ hx)) fun ws ns hI hl=>?_);exact wpAny_pure (q (.int a t::ws) (a::ns) (.cons a t hI) (by rw[length_cons,length_cons,hl]))
theorem acp {vs:List Value}{Q:SortKind->Shared->Prop}(h:∀v∈vs,∃a,TP s v a)(hn:1<=vs.length)(q:Q jU s):wpAny (model prog w) A (keyKind' vs.toArray) Q E s:=by
 rw[keyKind'_eq];rw[mapM_toArray];rw[map_eq_pure_bind];refine wpAny_bind (wpAny_bind (firstsP h fun ws ns hI hl=>wpAny_pure ?_));have ha:(ws.map some).toArray.all (·.isSome)=true:=by simp
 rw[if_pos ha];have hfm:(ws.map some).toArray.filterMap id=ws.toArray:=by simp [filterMap_map]
 rw[hfm];cases ws with
 | nil=>rw[<- hl] at hn;cases hn
 | cons v ws=>
  rw[Fl hI];refine wpAny_bind (wpAny_rule ?_);exact wpAny_bind (wpAny_pure (wpAny_pure q))
end
end SRT
namespace L2
open PySem PySem.Spec PyProof.Rows
def rkP (key:Addr->Int):Value->Int
 | .ref p=>key p
 | _=>0
end L2
namespace SRT
open PySem PyProof.Rows
def Inn (a₀ xs:Array Keyed):Prop:=∀(i:Nat) p,xs[i]?=some p->p∈a₀.toList
theorem bU {f:Keyed->Int}{xs:Array Keyed}{i:Nat}{p:Keyed}(h:xs[i]?=some p):Rk f xs i=f p:=by unfold Rk;rw[h]
end SRT
namespace SRT
open PySem PyProof.Rows
section
variable {κ:SortKind}{prog:Program}{w:World}{s:Shared}{A:Around}{E:Value->Shared->Prop}{a₀:Array Keyed}{f:Keyed->Int}
abbrev Upl (f:Keyed->Int)(xs:List Keyed):Prop:=xs.Pairwise fun x y=>f x<f y
structure SI (f:Keyed->Int)(a b out:Array Keyed)(i j:Nat):Prop where
 pm:(eV a b out i j).Perm (a.toList++b.toList)
 up:Upl f out.toList
 ga:∀o,o∈out.toList->∀t,i<=t->t<a.size->f o<Rk f a t
 gb:∀o,o∈out.toList->∀t,j<=t->t<b.size->f o<Rk f b t
def RetQ (f:Keyed->Int)(a b:Array Keyed)(c:Option (Array Keyed)):Prop:=∃r,c=some r/\r.toList.Perm (a.toList++b.toList)/\Upl f r.toList
end
end SRT
namespace SRT
open PySem PyProof.Rows
section
variable {κ:SortKind}{prog:Program}{w:World}{s:Shared}{A:Around}{E:Value->Shared->Prop}{a₀:Array Keyed}{f:Keyed->Int}
structure SH (f:Keyed->Int)(a b out:Array Keyed)(i j:Nat):Prop where
 pm:(jn a b out i j).Perm (a.toList++b.toList)
 up:out.toList.Pairwise fun x y=>f y<f x
 ga:∀o,o∈out.toList->∀t,t<i->t<a.size->Rk f a t<f o
 gb:∀o,o∈out.toList->∀t,t<j->t<b.size->Rk f b t<f o
end
end SRT
namespace SRT
open PySem PyProof.Rows
section
variable {κ:SortKind}{prog:Program}{w:World}{s:Shared}{A:Around}{E:Value->Shared->Prop}{a₀:Array Keyed}{f:Keyed->Int}{pd:Array (Nat×Nat×Nat)}
def acD (f:Keyed->Int)(xs:Array Keyed)(lo hi:Nat):Prop:=∀i j,lo<=i->i<j->j<hi->Rk f xs i<Rk f xs j
structure QB (κ:SortKind)(a₀:Array Keyed)(pd:Array (Nat×Nat×Nat))(st:SortSt):Prop where
 kind:kindOf st=κ
 perm:(arrOf st).toList.Perm a₀.toList
 fail:failedOf st=none
 pend:pendingOf st=pd
theorem QB.size {st:SortSt}(h:QB κ a₀ pd st):(arrOf st).size=a₀.size:=by simpa using h.perm.length_eq
theorem QB.set {st:SortSt}{xs:Array Keyed}(h:QB κ a₀ pd st)(hp:xs.Perm (arrOf st)):QB κ a₀ pd (setArr st xs):=⟨h.kind,(Array.perm_iff_toList_perm.mp hp).trans h.perm,h.fail,h.pend⟩
theorem QB.inn {st:SortSt}(h:QB κ a₀ pd st):Inn a₀ (arrOf st):=fun i p e=>h.perm.mem_iff.mp (by simpa using Array.mem_of_getElem? e)
end
end SRT
namespace SRT
open PySem PyProof.Rows
theorem WY {a m:Array Keyed}{c e:Nat}(h:c+m.size=e)(he:e<=a.size)(t:Nat):(m.toList.zipIdx.foldl (fun a (x:Keyed×Nat)=>a.setIfInBounds (c+x.2) x.1) a)[t]?=if t<c then a[t]? else if t<e then m[t-c]? else a[t]?:=by
 have ea:a.toList=a.toList.take c++((a.toList.drop c).take m.size++a.toList.drop e):=by
  rw[<- h,<- drop_drop,take_append_drop,take_append_drop]
 have:=Ds m.toList 0 (a.toList.take c) ((a.toList.drop c).take m.size) (a.toList.drop e) c (by simp;omega) (by simp;omega) a ea;rw[<- getElem?_toList,this];by_cases c1:t<c
 ·rw[if_pos c1,getElem?_append_left (by simp;omega),List.getElem?_take,if_pos c1,getElem?_toList]
 ·rw[if_neg c1,getElem?_append_right (by simp;omega)];have l1:(a.toList.take c).length=c:=by simp;omega
  rw[l1];by_cases c2:t<e
  ·rw[if_pos c2,getElem?_append_left (by simp;omega),getElem?_toList]
  ·rw[if_neg c2,getElem?_append_right (by simp;omega),List.getElem?_drop,getElem?_toList];congr 1;simp;omega
theorem Chain.len:∀{l:List (Nat×Nat×Nat)}{a b:Nat},Chain l a b->a+l.length<=b
 | [],_,_,h=>Nat.le_of_eq h
 | (_,n,_)::t,a,_,⟨_,h1,h⟩=>by have:=h.len;rw[length_cons];omega
theorem Chain.mem:∀{l:List (Nat×Nat×Nat)}{a b:Nat},Chain l a b->∀r,r∈l->a<=r.1/\r.1+r.2.1<=b
 | [],_,_,_,r,m=>by cases m
 | (p,n,v)::t,a,b,⟨e,h1,h⟩,r,m=>by
  rcases mem_cons.mp m with rfl|m
  ·have:=h.le;exact⟨by show a<=p;omega,by show p+n<=b;omega⟩
  ·have:=h.mem r m;omega
theorem Chain.parts:∀{pre post:List (Nat×Nat×Nat)}{sa na w sb nb v a b:Nat},Chain (pre++(sa,na,w)::(sb,nb,v)::post) a b->(∀r,r∈pre->r.1+r.2.1<=sa)/\∀r,r∈post->sb+nb<=r.1
 | [],post,sa,na,w,sb,nb,v,a,b,⟨h1,h2,h3,h4,h5⟩=>⟨fun r m=>(by cases m),fun r m=>by have:=(h5.mem r m).1;omega⟩
 | (p,n,u)::pre,post,sa,na,w,sb,nb,v,a,b,⟨h1,h2,h3⟩=>by
  obtain⟨k1,k2⟩:=Chain.parts h3;refine⟨fun r m=>?_,k2⟩;rcases mem_cons.mp m with rfl|m
  ·have:=(h3.mem (sa,na,w) (by simp)).1;show p+n<=sa;omega
  ·exact k1 r m
section
variable {κ:SortKind}{prog:Program}{w:World}{s:Shared}{A:Around}{E:Value->Shared->Prop}{a₀:Array Keyed}{f:Keyed->Int}{pd:Array (Nat×Nat×Nat)}
structure QC (κ:SortKind)(a₀:Array Keyed)(f:Keyed->Int)(hi:Nat)(st:SortSt):Prop where
 b:QB κ a₀ (pendingOf st) st
 c:Chain (pendingOf st).toList 0 hi
 u:∀r,r∈(pendingOf st).toList->acD f (arrOf st) r.1 (r.1+r.2.1)
theorem QC.push {st:SortSt}{lo n:Nat}(h:QC κ a₀ f lo st)(h1:1<=n)(hu:acD f (arrOf st) lo (lo+n)):QC κ a₀ f (lo+n) (setPending st ((pendingOf st).push (lo,n,0))):=by
 refine⟨⟨h.b.kind,h.b.perm,h.b.fail,rfl⟩,?_,fun r m=>?_⟩
 ·show Chain ((pendingOf st).push (lo,n,0)).toList 0 (lo+n);rw[toList_push];exact h.c.snoc h1
 ·replace m:r∈((pendingOf st).push (lo,n,0)).toList:=m;rw[toList_push] at m;rcases mem_append.mp m with m|m
  ·exact h.u r m
  ·rw[mem_singleton.mp m];exact hu
end
end SRT
namespace SRT
open PySem PyProof.Rows
end SRT
namespace L2
open PySem PySem.Spec PyProof.Rows
end L2
namespace SRT
open PySem PyProof.Rows
def vq (κ:SortKind)(prog:Program)(w:World)(A:Around)(E:Value->Shared->Prop)(s:Shared)(a₀:Array Keyed)(f:Keyed->Int):Prop:=
 ∀(st:SortSt)(x y:Keyed)(Q:Option Bool->SortSt->Prop),kindOf st=κ->x∈a₀.toList->y∈a₀.toList->Q (some (decide (f x<f y))) st->wpS (model prog w) A E s (lt' x y) Q st
def Bey (left:Bool)(k r:Int):Bool:=if left then decide (r<k) else !decide (k<r)
theorem Vs {left:Bool}{k r:Int}(h:Bey left k r=true):r<=k:=by
 unfold Bey at h;cases left <;> simp at h <;> omega
theorem K4 {left:Bool}{k r:Int}(h:Bey left k r=false):k<=r:=by
 unfold Bey at h;cases left <;> simp at h <;> omega
theorem Hv {left:Bool}{k r q:Int}(hr:r<=q)(h:Bey left k q=true):Bey left k r=true:=by
 unfold Bey at h |-;cases left <;> simp at h |- <;> omega
section
variable {κ:SortKind}{prog:Program}{w:World}{s:Shared}{A:Around}{E:Value->Shared->Prop}{a₀:Array Keyed}{f:Keyed->Int}
theorem lY {st:SortSt}{left:Bool}{key:Keyed}{arr:Array Keyed}{base n hint:Nat}{Q:Option Nat->SortSt->Prop}(O:vq κ prog w A E s a₀ f)(hk:kindOf st=κ)(hkey:key∈a₀.toList)(ha:Inn a₀ arr)(hb:base+n<=arr.size)(hh:hint<n)
  (up:∀i j,i<j->j<n->Rk f arr (base+i)<=Rk f arr (base+j))
  (h:∀k,k<=n->(∀i,i<k->Rk f arr (base+i)<=f key)->(∀i,k<=i->i<n->f key<=Rk f arr (base+i))->Q (some k) st) :
  wpS (model prog w) A E s (YC left key arr base n hint) Q st:=by
 have beyok:∀(i:Nat)(Q':Option Bool->SortSt->Prop),i<n->Q' (some (Bey left (f key) (Rk f arr (base+i)))) st->wpS (model prog w) A E s (do
   let p <- elem' arr (base+i)
   if left=true then lt' p key else do
    let r <- lt' key p
    pure (r.map fun z=>!z)) Q' st:=by
  intro i Q' hi hq;refine wpS_bind (bJ ω fun p hp=>?_);rw[bU hp] at hq;cases left with
  | true=>exact O st p key Q' hk (ha _ p hp) hkey hq
  | false=>exact wpS_bind (O st key p _ hk hkey (ha _ p hp) (wpS_pure hq))
 have upw:∀{i j:Nat},i<=j->j<n->Rk f arr (base+i)<=Rk f arr (base+j):=fun {i j} hij hj=>by
  by_cases c:i=j
  ·rw[c];exact Int.le_refl _
  ·exact up i j ω hj
 have below:∀{i j:Nat},i<=j->j<n->Bey left (f key) (Rk f arr (base+j))=true->Bey left (f key) (Rk f arr (base+i))=true:=fun {i j} hij hj hl=>Hv (upw hij hj) hl;have above:∀{i j:Nat},j<=i->i<n->Bey left (f key) (Rk f arr (base+j))=false->Bey left (f key) (Rk f arr (base+i))=false:=fun {i j} hij hi hl=>
  Bool.eq_false_iff.mpr fun z=>Bool.eq_false_iff.mp hl (Hv (upw hij hi) z)
 refine wpS_bind (beyok hint _ hh ?_);by_cases cr:Bey left (f key) (Rk f arr (base+hint))=true
 ·rw[cr];refine wpS_bind (wpS_mono (wpS_forRange (I:=fun x c st'=>st'=st/\∃a b,c=(none,a,b)/\a<b/\x+1<=b/\hint+a<n/\Bey left (f key) (Rk f arr (base+(hint+a)))=true) (Q:=fun c st'=>st'=st/\∃a b,c=(none,a,b)/\a<b/\hint+a<n/\Bey left (f key) (Rk f arr (base+(hint+a)))=true/\(b<n-hint->Bey left (f key) (Rk f arr (base+(hint+b)))=false)) ?_ ?_ ⟨rfl,0,1,rfl,δ,δ,hh,cr⟩) ?_)
  ·rintro x c st' _ _ ⟨rfl,a,b,rfl,q1,q2,q3,q4⟩;dsimp only;split
   ·exact wpS_pure ⟨rfl,a,b,rfl,q1,q3,q4,fun z=>ω⟩
   ·rename_i hab;refine wpS_bind (beyok _ _ ω ?_);by_cases c:Bey left (f key) (Rk f arr (base+(hint+b)))=true
    ·rw[c];exact wpS_pure ⟨rfl,b,2*b+1,rfl,ω,ω,ω,c⟩
    ·rw[Bool.eq_false_iff.mpr c];exact wpS_pure ⟨rfl,a,b,rfl,q1,q3,q4,fun _=>Bool.eq_false_iff.mpr c⟩
  ·rintro c st' ⟨rfl,a,b,rfl,q1,q2,q3,q4⟩;exact⟨rfl,a,b,rfl,q1,q3,q4,fun z=>ω⟩
  ·rintro c st' ⟨rfl,a,b,rfl,q1,q3,q4,q5⟩;refine wpS_bind (wpS_mono (wpS_forRange (I:=fun x c z=>z=st'/\∃l r,c=(none,l,r)/\l<=r/\r<=n/\r-l<=n-x/\(∀i,i<l->Bey left (f key) (Rk f arr (base+i))=true)/\(∀i,r<=i->i<n->Bey left (f key) (Rk f arr (base+i))=false)) (Q:=fun c z=>z=st'/\∃r,c=(none,r,r)/\r<=n/\(∀i,i<r->Bey left (f key) (Rk f arr (base+i))=true)/\(∀i,r<=i->i<n->Bey left (f key) (Rk f arr (base+i))=false)) ?_ ?_ ⟨rfl,hint+a+1,hint+min b (n-hint),rfl,ω,ω,ω,fun i hi=>below (j:=hint+a) ω q3 q4,fun i h1 h2=>above (j:=hint+b) ω h2 (q5 ω)⟩) ?_)
   ·rintro x c z _ hx ⟨rfl,l,r,rfl,p1,p2,p3,p4,p5⟩;dsimp only;split
    ·have:l=r:=by omega
     subst this;exact wpS_pure ⟨rfl,l,rfl,p2,p4,p5⟩
    ·rename_i hab;refine wpS_bind (beyok _ _ ω ?_);by_cases c:Bey left (f key) (Rk f arr (base+(l+(r-l)/2)))=true
     ·rw[c];exact wpS_pure ⟨rfl,_,_,rfl,ω,p2,ω,fun i hi=>below (j:=l+(r-l)/2) ω ω c,p5⟩
     ·rw[Bool.eq_false_iff.mpr c];exact wpS_pure ⟨rfl,_,_,rfl,ω,ω,ω,p4,fun i h1 h2=>above (j:=l+(r-l)/2) h1 h2 (Bool.eq_false_iff.mpr c)⟩
   ·rintro c z ⟨rfl,l,r,rfl,p1,p2,p3,p4,p5⟩;have:l=r:=by omega
    subst this;exact⟨rfl,l,rfl,p2,p4,p5⟩
   ·rintro c z ⟨rfl,r,rfl,p2,p4,p5⟩;exact wpS_pure (h r p2 (fun i hi=>Vs (p4 i hi)) (fun i h1 h2=>K4 (p5 i h1 h2)))
 ·rw[Bool.eq_false_iff.mpr cr];have cr2:Bey left (f key) (Rk f arr (base+hint))=false:=Bool.eq_false_iff.mpr cr;refine wpS_bind (wpS_mono (wpS_forRange (I:=fun x c st'=>st'=st/\∃a b,c=(none,a,b)/\a<b/\x+1<=b/\a<=hint/\Bey left (f key) (Rk f arr (base+(hint-a)))=false) (Q:=fun c st'=>st'=st/\∃a b,c=(none,a,b)/\a<b/\a<=hint/\Bey left (f key) (Rk f arr (base+(hint-a)))=false/\(b<hint+1->Bey left (f key) (Rk f arr (base+(hint-b)))=true)) ?_ ?_ ⟨rfl,0,1,rfl,δ,δ,Nat.zero_le _,cr2⟩) ?_)
  ·rintro x c st' _ _ ⟨rfl,a,b,rfl,q1,q2,q3,q4⟩;dsimp only;split
   ·exact wpS_pure ⟨rfl,a,b,rfl,q1,q3,q4,fun z=>ω⟩
   ·rename_i hab;refine wpS_bind (beyok _ _ ω ?_);by_cases c:Bey left (f key) (Rk f arr (base+(hint-b)))=true
    ·rw[c];exact wpS_pure ⟨rfl,a,b,rfl,q1,q3,q4,fun _=>c⟩
    ·rw[Bool.eq_false_iff.mpr c];exact wpS_pure ⟨rfl,b,2*b+1,rfl,ω,ω,ω,Bool.eq_false_iff.mpr c⟩
  ·rintro c st' ⟨rfl,a,b,rfl,q1,q2,q3,q4⟩;exact⟨rfl,a,b,rfl,q1,q3,q4,fun z=>ω⟩
  ·rintro c st' ⟨rfl,a,b,rfl,q1,q3,q4,q5⟩;refine wpS_bind (wpS_mono (wpS_forRange (I:=fun x c z=>z=st'/\∃l r,c=(none,l,r)/\l<=r/\r<=n/\r-l<=n-x/\(∀i,i<l->Bey left (f key) (Rk f arr (base+i))=true)/\(∀i,r<=i->i<n->Bey left (f key) (Rk f arr (base+i))=false)) (Q:=fun c z=>z=st'/\∃r,c=(none,r,r)/\r<=n/\(∀i,i<r->Bey left (f key) (Rk f arr (base+i))=true)/\(∀i,r<=i->i<n->Bey left (f key) (Rk f arr (base+i))=false)) ?_ ?_ ⟨rfl,hint+1-min b (hint+1),hint-a,rfl,ω,ω,ω,fun i hi=>below (j:=hint-b) ω ω (q5 ω),fun i h1 h2=>above (j:=hint-a) h1 h2 q4⟩) ?_)
   ·rintro x c z _ hx ⟨rfl,l,r,rfl,p1,p2,p3,p4,p5⟩;dsimp only;split
    ·have:l=r:=by omega
     subst this;exact wpS_pure ⟨rfl,l,rfl,p2,p4,p5⟩
    ·rename_i hab;refine wpS_bind (beyok _ _ ω ?_);by_cases c:Bey left (f key) (Rk f arr (base+(l+(r-l)/2)))=true
     ·rw[c];exact wpS_pure ⟨rfl,_,_,rfl,ω,p2,ω,fun i hi=>below (j:=l+(r-l)/2) ω ω c,p5⟩
     ·rw[Bool.eq_false_iff.mpr c];exact wpS_pure ⟨rfl,_,_,rfl,ω,ω,ω,p4,fun i h1 h2=>above (j:=l+(r-l)/2) h1 h2 (Bool.eq_false_iff.mpr c)⟩
   ·rintro c z ⟨rfl,l,r,rfl,p1,p2,p3,p4,p5⟩;have:l=r:=by omega
    subst this;exact⟨rfl,l,rfl,p2,p4,p5⟩
   ·rintro c z ⟨rfl,r,rfl,p2,p4,p5⟩;exact wpS_pure (h r p2 (fun i hi=>Vs (p4 i hi)) (fun i h1 h2=>K4 (p5 i h1 h2)))
end
end SRT
namespace SRT
open PySem PyProof.Rows
def jf (f:Keyed->Int)(xs:Array Keyed)(n:Nat):Prop:=∀i j,i<j->j<n->Rk f xs i<=Rk f xs j
section
variable {κ:SortKind}{prog:Program}{w:World}{s:Shared}{A:Around}{E:Value->Shared->Prop}{a₀:Array Keyed}{f:Keyed->Int}
abbrev HJ (f:Keyed->Int)(xs:List Keyed):Prop:=xs.Pairwise fun x y=>f x<=f y
theorem Zf {a:Array Keyed}(h:jf f a a.size):HJ f a.toList:=by
 refine pairwise_iff_getElem.mpr fun i j hi hj hij=>?_;have hi':i<a.size:=by simpa using hi
 have hj':j<a.size:=by simpa using hj
 have:=h i j hij hj';rw[bU (getElem?_pos a i hi'),bU (getElem?_pos a j hj')] at this;simpa using this
theorem V5 {a:Array Keyed}(h:HJ f a.toList):jf f a a.size:=fun i j hij hj=>by
 have hi:i<a.size:=ω;have:=(pairwise_iff_getElem.mp h) i j (by simpa using hi) (by simpa using hj) hij;rw[bU (getElem?_pos a i hi),bU (getElem?_pos a j hj)];simpa using this
theorem gH {a:Array Keyed}(h:jf f a a.size)(x y:Nat):HJ f (a.extract x y).toList:=by
 rw[toList_extract];exact(Zf h).sublist ((take_sublist _ _).trans (drop_sublist _ _))
theorem bH {a:Array Keyed}{x y:Nat}{p:Keyed}(h:p∈(a.extract x y).toList):∃t,x<=t/\t<y/\t<a.size/\a[t]?=some p:=by
 obtain⟨i,hi,e⟩:=mem_iff_getElem.mp h;have hi':i<min y a.size-x:=by
  have:=hi;simp at this;omega
 have e2:(a.extract x y).toList[i]?=some p:=by rw[getElem?_eq_getElem hi,e]
 rw[getElem?_toList,getElem?_extract,if_pos ω] at e2;exact⟨x+i,ω,ω,ω,e2⟩
structure SIw (f:Keyed->Int)(a b out:Array Keyed)(i j:Nat):Prop where
 pm:(eV a b out i j).Perm (a.toList++b.toList)
 up:HJ f out.toList
 ga:∀o,o∈out.toList->∀t,i<=t->t<a.size->f o<=Rk f a t
 gb:∀o,o∈out.toList->∀t,j<=t->t<b.size->f o<=Rk f b t
theorem SIw.wG {a b out:Array Keyed}{i j:Nat}{p:Keyed}(h:SIw f a b out i j)(ub:jf f b b.size)(hp:b[j]?=some p)(hlt:∀t,i<=t->t<a.size->Rk f b j<=Rk f a t):SIw f a b (out.push p) i (j+1):=by
 have hj:j<b.size:=(Array.getElem?_eq_some_iff.mp hp).1;have e:=bU (f:=f) hp;refine⟨(T3 hp).trans h.pm,?_,fun o m t h1 h2=>?_,fun o m t h1 h2=>?_⟩
 ·rw[toList_push];refine pairwise_append.mpr ⟨h.up,pairwise_singleton _ _,fun x mx y my=>?_⟩;rw[mem_singleton.mp my,<- e];exact h.gb x mx j (Nat.le_refl _) hj
 ·rw[toList_push] at m;rcases mem_append.mp m with m|m
  ·exact h.ga o m t h1 h2
  ·rw[mem_singleton.mp m,<- e];exact hlt t h1 h2
 ·rw[toList_push] at m;rcases mem_append.mp m with m|m
  ·exact h.gb o m t ω h2
  ·rw[mem_singleton.mp m,<- e];exact ub j t ω h2
theorem SIw.oH {a b out:Array Keyed}{i j:Nat}{p:Keyed}(h:SIw f a b out i j)(ua:jf f a a.size)(hp:a[i]?=some p)(hlt:∀t,j<=t->t<b.size->Rk f a i<=Rk f b t):SIw f a b (out.push p) (i+1) j:=by
 have hi:i<a.size:=(Array.getElem?_eq_some_iff.mp hp).1;have e:=bU (f:=f) hp;refine⟨(T4 hp).trans h.pm,?_,fun o m t h1 h2=>?_,fun o m t h1 h2=>?_⟩
 ·rw[toList_push];refine pairwise_append.mpr ⟨h.up,pairwise_singleton _ _,fun x mx y my=>?_⟩;rw[mem_singleton.mp my,<- e];exact h.ga x mx i (Nat.le_refl _) hi
 ·rw[toList_push] at m;rcases mem_append.mp m with m|m
  ·exact h.ga o m t ω h2
  ·rw[mem_singleton.mp m,<- e];exact ua i t ω h2
 ·rw[toList_push] at m;rcases mem_append.mp m with m|m
  ·exact h.gb o m t h1 h2
  ·rw[mem_singleton.mp m,<- e];exact hlt t h1 h2
theorem SIw.Wq {a b out:Array Keyed}{i j k:Nat}(h:SIw f a b out i j)(ua:jf f a a.size)(hlt:∀t,i<=t->t<i+k->t<a.size->∀u,j<=u->u<b.size->Rk f a t<=Rk f b u):SIw f a b (out++a.extract i (i+k)) (i+k) j:=by
 refine⟨X8.trans h.pm,?_,fun o m t h1 h2=>?_,fun o m t h1 h2=>?_⟩
 ·rw[toList_append];refine pairwise_append.mpr ⟨h.up,gH ua _ _,fun x mx y my=>?_⟩;obtain⟨t,t1,t2,t3,e⟩:=bH my;rw[<- bU (f:=f) e];exact h.ga x mx t t1 t3
 ·rw[toList_append] at m;rcases mem_append.mp m with m|m
  ·exact h.ga o m t ω h2
  ·obtain⟨u,t1,t2,t3,e⟩:=bH m;rw[<- bU (f:=f) e];exact ua u t ω h2
 ·rw[toList_append] at m;rcases mem_append.mp m with m|m
  ·exact h.gb o m t h1 h2
  ·obtain⟨u,t1,t2,t3,e⟩:=bH m;rw[<- bU (f:=f) e];exact hlt u t1 t2 t3 t h1 h2
theorem SIw.MK {a b out:Array Keyed}{i j k:Nat}(h:SIw f a b out i j)(ub:jf f b b.size)(hlt:∀t,j<=t->t<j+k->t<b.size->∀u,i<=u->u<a.size->Rk f b t<=Rk f a u):SIw f a b (out++b.extract j (j+k)) i (j+k):=by
 refine⟨X7.trans h.pm,?_,fun o m t h1 h2=>?_,fun o m t h1 h2=>?_⟩
 ·rw[toList_append];refine pairwise_append.mpr ⟨h.up,gH ub _ _,fun x mx y my=>?_⟩;obtain⟨t,t1,t2,t3,e⟩:=bH my;rw[<- bU (f:=f) e];exact h.gb x mx t t1 t3
 ·rw[toList_append] at m;rcases mem_append.mp m with m|m
  ·exact h.ga o m t h1 h2
  ·obtain⟨u,t1,t2,t3,e⟩:=bH m;rw[<- bU (f:=f) e];exact hlt u t1 t2 t3 t h1 h2
 ·rw[toList_append] at m;rcases mem_append.mp m with m|m
  ·exact h.gb o m t ω h2
  ·obtain⟨u,t1,t2,t3,e⟩:=bH m;rw[<- bU (f:=f) e];exact ub u t ω h2
def rM (f:Keyed->Int)(a b:Array Keyed)(c:Option (Array Keyed)):Prop:=∃r,c=some r/\r.toList.Perm (a.toList++b.toList)/\HJ f r.toList
theorem SIw.dn {a b out:Array Keyed}{i j:Nat}(h:SIw f a b out i j)(ua:jf f a a.size)(ub:jf f b b.size)(he:b.size<=j\/a.size<=i):rM f a b (some (out++a.extract i a.size++b.extract j b.size)):=by
 refine⟨_,rfl,by rw[Yc];exact h.pm,?_⟩;rw[toList_append,toList_append];refine pairwise_append.mpr ⟨pairwise_append.mpr ⟨h.up,gH ua _ _,fun x mx y my=>?_⟩,gH ub _ _,fun x mx y my=>?_⟩
 ·obtain⟨t,t1,t2,t3,e⟩:=bH my;rw[<- bU (f:=f) e];exact h.ga x mx t t1 t3
 ·obtain⟨t,t1,t2,t3,e⟩:=bH my;rcases mem_append.mp mx with mx|mx
  ·rw[<- bU (f:=f) e];exact h.gb x mx t t1 t3
  ·obtain⟨u,u1,u2,u3,e2⟩:=bH mx;omega
theorem SIw.ls {a b out:Array Keyed}{i j:Nat}(h:SIw f a b out i j)(ua:jf f a a.size)(ub:jf f b b.size)(hi:i+1=a.size)(hL:∀t,t<b.size->Rk f b t<=Rk f a (a.size-1)):rM f a b (some (out++b.extract j b.size++a.extract i a.size)):=by
 refine⟨_,rfl,Yb.trans h.pm,?_⟩;rw[toList_append,toList_append];refine pairwise_append.mpr ⟨pairwise_append.mpr ⟨h.up,gH ub _ _,fun x mx y my=>?_⟩,gH ua _ _,fun x mx y my=>?_⟩
 ·obtain⟨t,t1,t2,t3,e⟩:=bH my;rw[<- bU (f:=f) e];exact h.gb x mx t t1 t3
 ·obtain⟨t,t1,t2,t3,e⟩:=bH my;rw[<- bU (f:=f) e];rcases mem_append.mp mx with mx|mx
  ·exact h.ga x mx t t1 t3
  ·obtain⟨u,u1,u2,u3,e2⟩:=bH mx;rw[<- bU (f:=f) e2,show t=a.size-1 by omega];exact hL u u3
def VN (f:Keyed->Int)(a b out:Array Keyed)(i j:Nat):Prop:=SIw f a b out i j/\i+1<a.size/\j<b.size
theorem Tj {st:SortSt}{a b:Array Keyed}{Q:Array Keyed->SortSt->Prop}(O:vq κ prog w A E s a₀ f)(hk:kindOf st=κ)(ha:Inn a₀ a)(hb:Inn a₀ b)(ua:jf f a a.size)(ub:jf f b b.size)(h1:1<=a.size)(h2:1<=b.size)(h0:Rk f b 0<=Rk f a 0)(hL:Rk f b (b.size-1)<=Rk f a (a.size-1))
  (h:∀out g,out.toList.Perm (a.toList++b.toList)->HJ f out.toList->Q out (lQ st g)):wpS (model prog w) A E s (Tp a b) Q st:=by
 have hLa:∀t,t<b.size->Rk f b t<=Rk f a (a.size-1):=fun t ht=>by
  by_cases c:t=b.size-1
  ·rw[c];exact hL
  ·have:=ub t (b.size-1) ω ω;omega
 have ale:∀{i t:Nat},i<=t->t<a.size->Rk f a i<=Rk f a t:=fun {i t} h1 h2=>by
  by_cases c:i=t
  ·rw[c];omega
  ·have:=ua i t ω h2;omega
 have ble:∀{i t:Nat},i<=t->t<b.size->Rk f b i<=Rk f b t:=fun {i t} h1 h2=>by
  by_cases c:i=t
  ·rw[c];omega
  ·have:=ub i t ω h2;omega
 refine wpS_bind (wpS_lift (wpAny_rule (And.intro rfl ?_)));refine wpS_bind (bJ ω fun p hp=>?_);dsimp only;have p0:SIw f a b #[p] 0 1:=by
  have z:SIw f a b #[] 0 0:=⟨by unfold eV;simp,.nil,fun o m=>(by cases m),fun o m=>(by cases m)⟩;have:=z.wG ub hp fun t _ ht=>by have:=ale (Nat.zero_le t) ht;omega
  exact this
 by_cases hb1:(1 == b.size)=true
 ·rw[if_pos hb1];obtain⟨r,e,q1,q2⟩:=p0.dn ua ub (.inl (by have:1=b.size:=(by simpa using hb1);omega));cases e;exact wpS_pure (h _ (gallopOf st) q1 q2)
 ·rw[if_neg hb1];by_cases ha1:(0+1 == a.size)=true
  ·rw[if_pos ha1];obtain⟨r,e,q1,q2⟩:=p0.ls ua ub (by simpa using ha1) hLa;cases e;exact wpS_pure (h _ (gallopOf st) q1 q2)
  ·rw[if_neg ha1];have hb1':1<b.size:=by have:¬(1=b.size):=(by simpa using hb1);omega
   have ha1':0+1<a.size:=by have:¬(0+1=a.size):=(by simpa using ha1);omega
   refine wpS_bind (wpS_get ?_);refine wpS_bind (wpS_mono (wpS_forRange (I:=fun x c z=>∃g,z=lQ st g/\∃out i j m,c=(none,out,i,j,m)/\VN f a b out i j/\x<=i+j) (Q:=fun c z=>∃g,z=lQ st g/\rM f a b c.1) ?step ?fin ⟨gallopOf st,rfl,_,_,_,_,rfl,⟨p0,ha1',hb1'⟩,Nat.zero_le _⟩) ?post)
   case post=>
    rintro c z ⟨g,rfl,r,hr,hp,hu⟩;rw[hr];exact wpS_pure (h r g hp hu)
   case fin=>
    rintro c z ⟨g,rfl,out,i,j,m,rfl,⟨_,l1,l2⟩,hx⟩;exfalso;omega
   case step=>
    rintro x c z _ hx ⟨g,rfl,out,i,j,m,rfl,hI,hxi⟩;dsimp only;refine wpS_bind (wpS_mono (wpS_forRange (I:=fun y c z=>z=lQ st g/\∃out i j ac bc,c=(none,out,i,j,ac,bc)/\VN f a b out i j/\x+y<=i+j) (Q:=fun c z=>z=lQ st g/\(rM f a b c.1\/∃out i j ac bc,c=(none,out,i,j,ac,bc)/\VN f a b out i j/\x+1<=i+j)) ?step1 ?fin1 ⟨rfl,_,_,_,_,_,rfl,hI,hxi⟩) ?post1)
    case fin1=>
     rintro c z ⟨rfl,out,i,j,ac,bc,rfl,⟨_,l1,l2⟩,hy⟩;exfalso;omega
    case step1=>
     rintro y c z _ hy ⟨rfl,out,i,j,ac,bc,rfl,⟨si,l1,l2⟩,hyi⟩;dsimp only;refine wpS_bind (bJ l2 fun q hq=>?_);refine wpS_bind (bJ (show i<a.size by omega) fun r hr=>?_);refine wpS_bind (O _ _ _ _ hk (hb _ _ hq) (ha _ _ hr) ?_);rw[<- bU (f:=f) hq,<- bU (f:=f) hr];by_cases o:Rk f b j<Rk f a i
     ·rw[decide_eq_true o];refine wpS_bind (bJ l2 fun q hq=>?_);have s2:=si.wG ub hq fun t t1 t2=>by have:=ale t1 t2;omega
      split
      ·rename_i hj;exact wpS_pure ⟨rfl,.inl (s2.dn ua ub (.inl (by have:j+1=b.size:=(by simpa using hj);omega)))⟩
      ·rename_i hj;have l2':j+1<b.size:=by have:¬(j+1=b.size):=(by simpa using hj);omega
       split
       ·exact wpS_pure ⟨rfl,.inr ⟨_,_,_,_,_,rfl,⟨s2,l1,l2'⟩,ω⟩⟩
       ·exact wpS_pure ⟨rfl,_,_,_,_,_,rfl,⟨s2,l1,l2'⟩,ω⟩
     ·rw[decide_eq_false o];refine wpS_bind (bJ (show i<a.size by omega) fun r hr=>?_);have s2:=si.oH ua hr fun t t1 t2=>by have:=ble t1 t2;omega
      split
      ·rename_i hj;exact wpS_pure ⟨rfl,.inl (s2.ls ua ub (by simpa using hj) hLa)⟩
      ·rename_i hj;have l1':i+1+1<a.size:=by have:¬(i+1+1=a.size):=(by simpa using hj);omega
       split
       ·exact wpS_pure ⟨rfl,.inr ⟨_,_,_,_,_,rfl,⟨s2,l1',l2⟩,ω⟩⟩
       ·exact wpS_pure ⟨rfl,_,_,_,_,_,rfl,⟨s2,l1',l2⟩,ω⟩
    case post1=>
     rintro c z ⟨rfl,hc⟩;rcases hc with⟨r,hr,hp,hu⟩|⟨out,i,j,ac,bc,rfl,hI1,hxi1⟩
     ·rw[hr];exact wpS_pure ⟨g,rfl,r,rfl,hp,hu⟩
     ·dsimp only;refine wpS_bind (wpS_lift (wpAny_rule (And.intro rfl ?_)));refine wpS_bind (wpS_mono (wpS_forRange (I:=fun y c z=>∃g,z=lQ st g/\∃out i j m ac bc,c=(none,out,i,j,m,ac,bc)/\VN f a b out i j/\x+1<=i+j) (Q:=fun c z=>∃g,z=lQ st g/\(rM f a b c.1\/∃out i j m ac bc,c=(none,out,i,j,m,ac,bc)/\VN f a b out i j/\x+1<=i+j)) ?step2 (fun c z ⟨g,hz,hc⟩=>⟨g,hz,.inr hc⟩) ⟨g,rfl,_,_,_,_,_,_,rfl,hI1,hxi1⟩) ?post2)
      case post2=>
       rintro c z ⟨g,rfl,hc⟩;rcases hc with⟨r,hr,hp,hu⟩|⟨out,i,j,m,ac,bc,rfl,hI1,hxi1⟩
       ·rw[hr];exact wpS_pure ⟨g,rfl,r,rfl,hp,hu⟩
       ·refine wpS_bind (wpS_modify ?_);exact wpS_pure ⟨m+1,rfl,_,_,_,_,rfl,hI1,hxi1⟩
      case step2=>
       rintro y c z _ hy ⟨g,rfl,out,i,j,m,ac,bc,rfl,⟨si,l1,l2⟩,hyi⟩;dsimp only;by_cases hm:m>1
       all_goals first|rw[if_pos hm]|rw[if_neg hm]
       all_goals
        refine wpS_bind (wpS_modify ?_);refine wpS_bind (bJ l2 fun q hq=>?_);refine wpS_bind (lY O hk (hb _ _ hq) ha ω ω (fun x y h1 h2=>ua _ _ ω ω) fun k hkn g1 g2=>?_);rw[<- bU (f:=f) hq] at g1 g2;have s1:=si.Wq (k:=k) ua fun t t1 t2 t3 u u1 u2=>by
         have:=g1 (t-i) ω;rw[show i+(t-i)=t by omega] at this;have:=ble u1 u2;omega
        have gB:∀t,i+k<=t->t<a.size->Rk f b j<=Rk f a t:=fun t t1 t2=>by
         have:=g2 (t-i) ω ω;rwa [show i+(t-i)=t by omega] at this
        dsimp only;by_cases hk0:k>0
        ·rw[if_pos hk0];by_cases e1:(i+k+1 == a.size)=true
         ·rw[if_pos e1];exact wpS_pure ⟨_,rfl,.inl (s1.ls ua ub (by simpa using e1) hLa)⟩
         ·rw[if_neg e1];by_cases e2:(i+k == a.size)=true
          ·rw[if_pos e2];exact wpS_pure ⟨_,rfl,.inl (s1.dn ua ub (.inr (by have:i+k=a.size:=(by simpa using e2);omega)))⟩
          ·rw[if_neg e2];have l1':i+k+1<a.size:=by
            have:¬(i+k+1=a.size):=(by simpa using e1);have:¬(i+k=a.size):=(by simpa using e2);omega
           refine wpS_bind (bJ l2 fun q2 hq2=>?_);have s2:=s1.wG ub hq2 gB;by_cases e3:(j+1 == b.size)=true
           ·rw[if_pos e3];exact wpS_pure ⟨_,rfl,.inl (s2.dn ua ub (.inl (by have:j+1=b.size:=(by simpa using e3);omega)))⟩
           ·rw[if_neg e3];have l2':j+1<b.size:=by
             have:¬(j+1=b.size):=(by simpa using e3);omega
            refine wpS_bind (bJ (show i+k<a.size by omega) fun r2 hr2=>?_);refine wpS_bind (lY O hk (ha _ _ hr2) hb ω ω (fun x y h1 h2=>ub _ _ ω ω) fun k2 hk2 g3 g4=>?_);rw[<- bU (f:=f) hr2] at g3 g4;have s3:=s2.MK (k:=k2) ub fun t t1 t2 t3 u u1 u2=>by
             have:=g3 (t-(j+1)) ω;rw[show j+1+(t-(j+1))=t by omega] at this;have:=ale u1 u2;omega
            have gA:∀t,j+1+k2<=t->t<b.size->Rk f a (i+k)<=Rk f b t:=fun t t1 t2=>by
             have:=g4 (t-(j+1)) ω ω;rwa [show j+1+(t-(j+1))=t by omega] at this
            dsimp only;by_cases k20:k2>0
            ·rw[if_pos k20];by_cases e4:(j+1+k2 == b.size)=true
             ·rw[if_pos e4];exact wpS_pure ⟨_,rfl,.inl (s3.dn ua ub (.inl (by have:j+1+k2=b.size:=(by simpa using e4);omega)))⟩
             ·rw[if_neg e4];have l2'':j+1+k2<b.size:=by
               have:¬(j+1+k2=b.size):=(by simpa using e4);omega
              refine wpS_bind (bJ (show i+k<a.size by omega) fun r3 hr3=>?_);have s4:=s3.oH ua hr3 gA;by_cases e5:(i+k+1+1 == a.size)=true
              ·rw[if_pos e5];exact wpS_pure ⟨_,rfl,.inl (s4.ls ua ub (by simpa using e5) hLa)⟩
              ·rw[if_neg e5];have l9:i+k+1+1<a.size:=by
                have:¬(i+k+1+1=a.size):=(by simpa using e5);omega
               split
               ·exact wpS_pure ⟨_,rfl,.inr ⟨_,_,_,_,_,_,rfl,⟨s4,l9,l2''⟩,ω⟩⟩
               ·exact wpS_pure ⟨_,rfl,_,_,_,_,_,_,rfl,⟨s4,l9,l2''⟩,ω⟩
            ·rw[if_neg k20];have e20:k2=0:=ω;subst e20;refine wpS_bind (bJ (show i+k<a.size by omega) fun r3 hr3=>?_);have s4:=s2.oH ua hr3 gA;by_cases e5:(i+k+1+1 == a.size)=true
             ·rw[if_pos e5];exact wpS_pure ⟨_,rfl,.inl (s4.ls ua ub (by simpa using e5) hLa)⟩
             ·rw[if_neg e5];have l9:i+k+1+1<a.size:=by
               have:¬(i+k+1+1=a.size):=(by simpa using e5);omega
              split
              ·exact wpS_pure ⟨_,rfl,.inr ⟨_,_,_,_,_,_,rfl,⟨s4,l9,l2'⟩,ω⟩⟩
              ·exact wpS_pure ⟨_,rfl,_,_,_,_,_,_,rfl,⟨s4,l9,l2'⟩,ω⟩
        ·rw[if_neg hk0];have e00:k=0:=ω;subst e00;refine wpS_bind (bJ l2 fun q2 hq2=>?_);have s2:=si.wG ub hq2 gB;by_cases e3:(j+1 == b.size)=true
         ·rw[if_pos e3];exact wpS_pure ⟨_,rfl,.inl (s2.dn ua ub (.inl (by have:j+1=b.size:=(by simpa using e3);omega)))⟩
         ·rw[if_neg e3];have l2':j+1<b.size:=by
           have:¬(j+1=b.size):=(by simpa using e3);omega
          refine wpS_bind (bJ (show i<a.size by omega) fun r2 hr2=>?_);refine wpS_bind (lY O hk (ha _ _ hr2) hb ω ω (fun x y h1 h2=>ub _ _ ω ω) fun k2 hk2 g3 g4=>?_);rw[<- bU (f:=f) hr2] at g3 g4;have s3:=s2.MK (k:=k2) ub fun t t1 t2 t3 u u1 u2=>by
           have:=g3 (t-(j+1)) ω;rw[show j+1+(t-(j+1))=t by omega] at this;have:=ale u1 u2;omega
          have gA:∀t,j+1+k2<=t->t<b.size->Rk f a i<=Rk f b t:=fun t t1 t2=>by
           have:=g4 (t-(j+1)) ω ω;rwa [show j+1+(t-(j+1))=t by omega] at this
          dsimp only;by_cases k20:k2>0
          ·rw[if_pos k20];by_cases e4:(j+1+k2 == b.size)=true
           ·rw[if_pos e4];exact wpS_pure ⟨_,rfl,.inl (s3.dn ua ub (.inl (by have:j+1+k2=b.size:=(by simpa using e4);omega)))⟩
           ·rw[if_neg e4];have l2'':j+1+k2<b.size:=by
             have:¬(j+1+k2=b.size):=(by simpa using e4);omega
            refine wpS_bind (bJ (show i<a.size by omega) fun r3 hr3=>?_);have s4:=s3.oH ua hr3 gA;by_cases e5:(i+1+1 == a.size)=true
            ·rw[if_pos e5];exact wpS_pure ⟨_,rfl,.inl (s4.ls ua ub (by simpa using e5) hLa)⟩
            ·rw[if_neg e5];have l9:i+1+1<a.size:=by
              have:¬(i+1+1=a.size):=(by simpa using e5);omega
             split
             ·exact wpS_pure ⟨_,rfl,.inr ⟨_,_,_,_,_,_,rfl,⟨s4,l9,l2''⟩,ω⟩⟩
             ·exact wpS_pure ⟨_,rfl,_,_,_,_,_,_,rfl,⟨s4,l9,l2''⟩,ω⟩
          ·rw[if_neg k20];have e20:k2=0:=ω;subst e20;refine wpS_bind (bJ (show i<a.size by omega) fun r3 hr3=>?_);have s4:=s2.oH ua hr3 gA;by_cases e5:(i+1+1 == a.size)=true
           ·rw[if_pos e5];exact wpS_pure ⟨_,rfl,.inl (s4.ls ua ub (by simpa using e5) hLa)⟩
           ·rw[if_neg e5];have l9:i+1+1<a.size:=by
             have:¬(i+1+1=a.size):=(by simpa using e5);omega
            split
            ·exact wpS_pure ⟨_,rfl,.inr ⟨_,_,_,_,_,_,rfl,⟨s4,l9,l2'⟩,ω⟩⟩
            ·exact wpS_pure ⟨_,rfl,_,_,_,_,_,_,rfl,⟨s4,l9,l2'⟩,ω⟩
end
end SRT
namespace SRT
open PySem PyProof.Rows
section
variable {κ:SortKind}{prog:Program}{w:World}{s:Shared}{A:Around}{E:Value->Shared->Prop}{a₀:Array Keyed}{f:Keyed->Int}
structure SHw (f:Keyed->Int)(a b out:Array Keyed)(i j:Nat):Prop where
 pm:(jn a b out i j).Perm (a.toList++b.toList)
 up:out.toList.Pairwise fun x y=>f y<=f x
 ga:∀o,o∈out.toList->∀t,t<i->t<a.size->Rk f a t<=f o
 gb:∀o,o∈out.toList->∀t,t<j->t<b.size->Rk f b t<=f o
theorem SHw.Wq {a b out:Array Keyed}{i j x:Nat}(h:SHw f a b out i j)(ua:jf f a a.size)(hx:x<=i)(hlt:∀t,x<=t->t<i->t<a.size->∀u,u<j->u<b.size->Rk f b u<=Rk f a t):SHw f a b (out++(a.extract x i).reverse) x j:=by
 refine⟨(Yx hx).trans h.pm,?_,fun o m t h1 h2=>?_,fun o m t h1 h2=>?_⟩
 ·rw[toList_append,toList_reverse];refine pairwise_append.mpr ⟨h.up,pairwise_reverse.mpr (gH ua _ _),fun p mp q mq=>?_⟩;obtain⟨t,t1,t2,t3,e⟩:=bH (mem_reverse.mp mq);rw[<- bU (f:=f) e];exact h.ga p mp t t2 t3
 ·rw[toList_append,toList_reverse] at m;rcases mem_append.mp m with m|m
  ·exact h.ga o m t ω h2
  ·obtain⟨u,t1,t2,t3,e⟩:=bH (mem_reverse.mp m);rw[<- bU (f:=f) e];exact ua t u ω t3
 ·rw[toList_append,toList_reverse] at m;rcases mem_append.mp m with m|m
  ·exact h.gb o m t h1 h2
  ·obtain⟨u,t1,t2,t3,e⟩:=bH (mem_reverse.mp m);rw[<- bU (f:=f) e];exact hlt u t1 t2 t3 t h1 h2
theorem SHw.MK {a b out:Array Keyed}{i j x:Nat}(h:SHw f a b out i j)(ub:jf f b b.size)(hx:x<=j)(hlt:∀t,x<=t->t<j->t<b.size->∀u,u<i->u<a.size->Rk f a u<=Rk f b t):SHw f a b (out++(b.extract x j).reverse) i x:=by
 refine⟨(Yw hx).trans h.pm,?_,fun o m t h1 h2=>?_,fun o m t h1 h2=>?_⟩
 ·rw[toList_append,toList_reverse];refine pairwise_append.mpr ⟨h.up,pairwise_reverse.mpr (gH ub _ _),fun p mp q mq=>?_⟩;obtain⟨t,t1,t2,t3,e⟩:=bH (mem_reverse.mp mq);rw[<- bU (f:=f) e];exact h.gb p mp t t2 t3
 ·rw[toList_append,toList_reverse] at m;rcases mem_append.mp m with m|m
  ·exact h.ga o m t h1 h2
  ·obtain⟨u,t1,t2,t3,e⟩:=bH (mem_reverse.mp m);rw[<- bU (f:=f) e];exact hlt u t1 t2 t3 t h1 h2
 ·rw[toList_append,toList_reverse] at m;rcases mem_append.mp m with m|m
  ·exact h.gb o m t ω h2
  ·obtain⟨u,t1,t2,t3,e⟩:=bH (mem_reverse.mp m);rw[<- bU (f:=f) e];exact ub t u ω t3
theorem SHw.oH {a b out:Array Keyed}{i j:Nat}{p:Keyed}(h:SHw f a b out i j)(ua:jf f a a.size)(h1:1<=i)(hp:a[i-1]?=some p)(hlt:∀u,u<j->u<b.size->Rk f b u<=Rk f a (i-1)):SHw f a b (out.push p) (i-1) j:=by
 have:=h.Wq (x:=i-1) ua ω fun t t1 t2 t3 u u1 u2=>by rw[show t=i-1 by omega];exact hlt u u1 u2
 rw[show a.extract (i-1) i=a.extract (i-1) (i-1+1) by rw[show i-1+1=i by omega],Lg hp] at this;exact this
theorem SHw.wG {a b out:Array Keyed}{i j:Nat}{p:Keyed}(h:SHw f a b out i j)(ub:jf f b b.size)(h1:1<=j)(hp:b[j-1]?=some p)(hlt:∀u,u<i->u<a.size->Rk f a u<=Rk f b (j-1)):SHw f a b (out.push p) i (j-1):=by
 have:=h.MK (x:=j-1) ub ω fun t t1 t2 t3 u u1 u2=>by rw[show t=j-1 by omega];exact hlt u u1 u2
 rw[show b.extract (j-1) j=b.extract (j-1) (j-1+1) by rw[show j-1+1=j by omega],Lg hp] at this;exact this
theorem SHw.dn {a b out:Array Keyed}{i j:Nat}(h:SHw f a b out i j)(ua:jf f a a.size)(ub:jf f b b.size)(he:i=0\/j=0):rM f a b (some (a.extract 0 i++b.extract 0 j++out.reverse)):=by
 refine⟨_,rfl,Yy.trans h.pm,?_⟩;rw[toList_append,toList_append,toList_reverse];refine pairwise_append.mpr ⟨pairwise_append.mpr ⟨gH ua _ _,gH ub _ _,fun x mx y my=>?_⟩,pairwise_reverse.mpr h.up,fun x mx y my=>?_⟩
 ·obtain⟨t,t1,t2,t3,e⟩:=bH mx;obtain⟨u,u1,u2,u3,e2⟩:=bH my;omega
 ·rcases mem_append.mp mx with mx|mx
  ·obtain⟨t,t1,t2,t3,e⟩:=bH mx;rw[<- bU (f:=f) e];exact h.ga y (mem_reverse.mp my) t t2 t3
  ·obtain⟨t,t1,t2,t3,e⟩:=bH mx;rw[<- bU (f:=f) e];exact h.gb y (mem_reverse.mp my) t t2 t3
theorem SHw.fs {a b out:Array Keyed}{i j:Nat}(h:SHw f a b out i j)(ua:jf f a a.size)(ub:jf f b b.size)(hj:j=1)(h0:∀t,t<a.size->Rk f b 0<=Rk f a t):rM f a b (some (b.extract 0 j++a.extract 0 i++out.reverse)):=by
 refine⟨_,rfl,Uo.trans h.pm,?_⟩;rw[toList_append,toList_append,toList_reverse];refine pairwise_append.mpr ⟨pairwise_append.mpr ⟨gH ub _ _,gH ua _ _,fun x mx y my=>?_⟩,pairwise_reverse.mpr h.up,fun x mx y my=>?_⟩
 ·obtain⟨t,t1,t2,t3,e⟩:=bH mx;obtain⟨u,u1,u2,u3,e2⟩:=bH my;rw[<- bU (f:=f) e,<- bU (f:=f) e2,show t=0 by omega];exact h0 u u3
 ·rcases mem_append.mp mx with mx|mx
  ·obtain⟨t,t1,t2,t3,e⟩:=bH mx;rw[<- bU (f:=f) e];exact h.gb y (mem_reverse.mp my) t t2 t3
  ·obtain⟨t,t1,t2,t3,e⟩:=bH mx;rw[<- bU (f:=f) e];exact h.ga y (mem_reverse.mp my) t t2 t3
def VR (f:Keyed->Int)(a b out:Array Keyed)(i j:Nat):Prop:=SHw f a b out i j/\0<i/\1<j/\i<=a.size/\j<=b.size
theorem Tq {st:SortSt}{a b:Array Keyed}{Q:Array Keyed->SortSt->Prop}(O:vq κ prog w A E s a₀ f)(hk:kindOf st=κ)(ha:Inn a₀ a)(hb:Inn a₀ b)(ua:jf f a a.size)(ub:jf f b b.size)(h1:1<=a.size)(h2:1<=b.size)(h0:Rk f b 0<=Rk f a 0)(hL:Rk f b (b.size-1)<=Rk f a (a.size-1))
  (h:∀out g,out.toList.Perm (a.toList++b.toList)->HJ f out.toList->Q out (lQ st g)):wpS (model prog w) A E s (Tt a b) Q st:=by
 have ale:∀{i t:Nat},i<=t->t<a.size->Rk f a i<=Rk f a t:=fun {i t} h1 h2=>by
  by_cases c:i=t
  ·rw[c];omega
  ·have:=ua i t ω h2;omega
 have ble:∀{i t:Nat},i<=t->t<b.size->Rk f b i<=Rk f b t:=fun {i t} h1 h2=>by
  by_cases c:i=t
  ·rw[c];omega
  ·have:=ub i t ω h2;omega
 have hF:∀t,t<a.size->Rk f b 0<=Rk f a t:=fun t ht=>by have:=ale (Nat.zero_le t) ht;omega
 refine wpS_bind (wpS_lift (wpAny_rule (And.intro rfl ?_)));refine wpS_bind (bJ (show a.size-1<a.size by omega) fun p hp=>?_);dsimp only;have p0:SHw f a b #[p] (a.size-1) b.size:=by
  have z:SHw f a b #[] a.size b.size:=⟨by unfold jn;simp [take_of_length_le],.nil,fun o m=>(by cases m),fun o m=>(by cases m)⟩;exact z.oH ua h1 hp fun u u1 u2=>by have:=ble (i:=u) (t:=b.size-1) ω ω;omega
 by_cases ha1:(a.size-1 == 0)=true
 ·rw[if_pos ha1];obtain⟨r,e,q1,q2⟩:=p0.dn ua ub (.inl (by simpa using ha1));cases e;exact wpS_pure (h _ (gallopOf st) q1 q2)
 ·rw[if_neg ha1];by_cases hb1:(b.size == 1)=true
  ·rw[if_pos hb1];obtain⟨r,e,q1,q2⟩:=p0.fs ua ub (by simpa using hb1) hF;cases e;exact wpS_pure (h _ (gallopOf st) q1 q2)
  ·rw[if_neg hb1];have hb1':1<b.size:=by
    have:¬(b.size=1):=(by simpa using hb1);omega
   have ha1':0<a.size-1:=by
    have:¬(a.size-1=0):=(by simpa using ha1);omega
   refine wpS_bind (wpS_get ?_);refine wpS_bind (wpS_mono (wpS_forRange (I:=fun x c z=>∃g,z=lQ st g/\∃i j out m,c=(none,i,j,out,m)/\VR f a b out i j/\i+j+x<=a.size+b.size) (Q:=fun c z=>∃g,z=lQ st g/\rM f a b c.1) ?step ?fin ⟨gallopOf st,rfl,_,_,_,_,rfl,⟨p0,ha1',hb1',ω,Nat.le_refl _⟩,ω⟩) ?post)
   case post=>
    rintro c z ⟨g,rfl,r,hr,hp,hu⟩;rw[hr];exact wpS_pure (h r g hp hu)
   case fin=>
    rintro c z ⟨g,rfl,i,j,out,m,rfl,⟨_,l1,l2,_,_⟩,hx⟩;exfalso;omega
   case step=>
    rintro x c z _ hx ⟨g,rfl,i,j,out,m,rfl,hI,hxi⟩;dsimp only;refine wpS_bind (wpS_mono (wpS_forRange (I:=fun y c z=>z=lQ st g/\∃i j out ac bc,c=(none,i,j,out,ac,bc)/\VR f a b out i j/\i+j+(x+y)<=a.size+b.size) (Q:=fun c z=>z=lQ st g/\(rM f a b c.1\/∃i j out ac bc,c=(none,i,j,out,ac,bc)/\VR f a b out i j/\i+j+(x+1)<=a.size+b.size)) ?step1 ?fin1 ⟨rfl,_,_,_,_,_,rfl,hI,hxi⟩) ?post1)
    case fin1=>
     rintro c z ⟨rfl,i,j,out,ac,bc,rfl,⟨_,l1,l2,_,_⟩,hy⟩;exfalso;omega
    case step1=>
     rintro y c z _ hy ⟨rfl,i,j,out,ac,bc,rfl,⟨si,l1,l2,u1,u2⟩,hyi⟩;dsimp only;refine wpS_bind (bJ (show j-1<b.size by omega) fun q hq=>?_);refine wpS_bind (bJ (show i-1<a.size by omega) fun r hr=>?_);refine wpS_bind (O _ _ _ _ hk (hb _ _ hq) (ha _ _ hr) ?_);rw[<- bU (f:=f) hq,<- bU (f:=f) hr];by_cases o:Rk f b (j-1)<Rk f a (i-1)
     ·rw[decide_eq_true o];refine wpS_bind (bJ (show i-1<a.size by omega) fun r hr=>?_);have s2:=si.oH ua ω hr fun u v1 v2=>by have:=ble (i:=u) (t:=j-1) ω ω;omega
      split
      ·rename_i hj;exact wpS_pure ⟨rfl,.inl (s2.dn ua ub (.inl (by simpa using hj)))⟩
      ·rename_i hj;have l1':0<i-1:=by
        have:¬(i-1=0):=(by simpa using hj);omega
       split
       ·exact wpS_pure ⟨rfl,.inr ⟨_,_,_,_,_,rfl,⟨s2,l1',l2,ω,u2⟩,ω⟩⟩
       ·exact wpS_pure ⟨rfl,_,_,_,_,_,rfl,⟨s2,l1',l2,ω,u2⟩,ω⟩
     ·rw[decide_eq_false o];refine wpS_bind (bJ (show j-1<b.size by omega) fun q hq=>?_);have s2:=si.wG ub ω hq fun u v1 v2=>by have:=ale (i:=u) (t:=i-1) ω ω;omega
      split
      ·rename_i hj;exact wpS_pure ⟨rfl,.inl (s2.fs ua ub (by simpa using hj) hF)⟩
      ·rename_i hj;have l2':1<j-1:=by
        have:¬(j-1=1):=(by simpa using hj);omega
       split
       ·exact wpS_pure ⟨rfl,.inr ⟨_,_,_,_,_,rfl,⟨s2,l1,l2',u1,ω⟩,ω⟩⟩
       ·exact wpS_pure ⟨rfl,_,_,_,_,_,rfl,⟨s2,l1,l2',u1,ω⟩,ω⟩
    case post1=>
     rintro c z ⟨rfl,hc⟩;rcases hc with⟨r,hr,hp,hu⟩|⟨i,j,out,ac,bc,rfl,hI1,hxi1⟩
     ·rw[hr];exact wpS_pure ⟨g,rfl,r,rfl,hp,hu⟩
     ·dsimp only;refine wpS_bind (wpS_lift (wpAny_rule (And.intro rfl ?_)));refine wpS_bind (wpS_mono (wpS_forRange (I:=fun y c z=>∃g,z=lQ st g/\∃i j out m ac bc,c=(none,i,j,out,m,ac,bc)/\VR f a b out i j/\i+j+(x+1)<=a.size+b.size) (Q:=fun c z=>∃g,z=lQ st g/\(rM f a b c.1\/∃i j out m ac bc,c=(none,i,j,out,m,ac,bc)/\VR f a b out i j/\i+j+(x+1)<=a.size+b.size)) ?step2 (fun c z ⟨g,hz,hc⟩=>⟨g,hz,.inr hc⟩) ⟨g,rfl,_,_,_,_,_,_,rfl,hI1,hxi1⟩) ?post2)
      case post2=>
       rintro c z ⟨g,rfl,hc⟩;rcases hc with⟨r,hr,hp,hu⟩|⟨i,j,out,m,ac,bc,rfl,hI1,hxi1⟩
       ·rw[hr];exact wpS_pure ⟨g,rfl,r,rfl,hp,hu⟩
       ·refine wpS_bind (wpS_modify ?_);exact wpS_pure ⟨m+1,rfl,_,_,_,_,rfl,hI1,hxi1⟩
      case step2=>
       rintro y c z _ hy ⟨g,rfl,i,j,out,m,ac,bc,rfl,⟨si,l1,l2,u1,u2⟩,hyi⟩;dsimp only;by_cases hm:m>1
       all_goals first|rw[if_pos hm]|rw[if_neg hm]
       all_goals
        refine wpS_bind (wpS_modify ?_);refine wpS_bind (bJ (show j-1<b.size by omega) fun q hq=>?_);refine wpS_bind (lY O hk (hb _ _ hq) ha ω ω (fun x y h1 h2=>ua _ _ ω ω) fun x1 hx1 g1 g2=>?_);rw[<- bU (f:=f) hq] at g1 g2;simp only[Nat.zero_add] at g1 g2;have s1:=si.Wq (x:=x1) ua hx1 fun t t1 t2 t3 u v1 v2=>by
         have:=g2 t t1 t2;have:=ble (i:=u) (t:=j-1) ω ω;omega
        have gB:∀u,u<x1->u<a.size->Rk f a u<=Rk f b (j-1):=fun u v1 v2=>g1 u v1;dsimp only;by_cases hk0:i-x1>0
        ·rw[if_pos hk0];by_cases e1:(x1 == 0)=true
         ·rw[if_pos e1];exact wpS_pure ⟨_,rfl,.inl (s1.dn ua ub (.inl (by simpa using e1)))⟩
         ·rw[if_neg e1];have l1':0<x1:=by
           have:¬(x1=0):=(by simpa using e1);omega
          refine wpS_bind (bJ (show j-1<b.size by omega) fun q2 hq2=>?_);have s2:=s1.wG ub ω hq2 gB;by_cases e3:(j-1 == 1)=true
          ·rw[if_pos e3];exact wpS_pure ⟨_,rfl,.inl (s2.fs ua ub (by simpa using e3) hF)⟩
          ·rw[if_neg e3];have l2':1<j-1:=by
            have:¬(j-1=1):=(by simpa using e3);omega
           refine wpS_bind (bJ (show x1-1<a.size by omega) fun r2 hr2=>?_);refine wpS_bind (lY O hk (ha _ _ hr2) hb ω ω (fun x y h1 h2=>ub _ _ ω ω) fun x2 hx2 g3 g4=>?_);rw[<- bU (f:=f) hr2] at g3 g4;simp only[Nat.zero_add] at g3 g4;have s3:=s2.MK (x:=x2) ub hx2 fun t t1 t2 t3 u v1 v2=>by
            have:=g4 t t1 t2;have:=ale (i:=u) (t:=x1-1) ω ω;omega
           have gA:∀u,u<x2->u<b.size->Rk f b u<=Rk f a (x1-1):=fun u v1 v2=>g3 u v1;dsimp only;by_cases k20:j-1-x2>0
           ·rw[if_pos k20];by_cases e4:(x2 == 1)=true
            ·rw[if_pos e4];exact wpS_pure ⟨_,rfl,.inl (s3.fs ua ub (by simpa using e4) hF)⟩
            ·rw[if_neg e4];by_cases e6:(x2 == 0)=true
             ·rw[if_pos e6];exact wpS_pure ⟨_,rfl,.inl (s3.dn ua ub (.inr (by simpa using e6)))⟩
             ·rw[if_neg e6];have l2'':1<x2:=by
               have:¬(x2=1):=(by simpa using e4);have:¬(x2=0):=(by simpa using e6);omega
              refine wpS_bind (bJ (show x1-1<a.size by omega) fun r3 hr3=>?_);have s4:=s3.oH ua ω hr3 gA;by_cases e5:(x1-1 == 0)=true
              ·rw[if_pos e5];exact wpS_pure ⟨_,rfl,.inl (s4.dn ua ub (.inl (by simpa using e5)))⟩
              ·rw[if_neg e5];have l9:0<x1-1:=by
                have:¬(x1-1=0):=(by simpa using e5);omega
               split
               ·exact wpS_pure ⟨_,rfl,.inr ⟨_,_,_,_,_,_,rfl,⟨s4,l9,l2'',ω,ω⟩,ω⟩⟩
               ·exact wpS_pure ⟨_,rfl,_,_,_,_,_,_,rfl,⟨s4,l9,l2'',ω,ω⟩,ω⟩
           ·rw[if_neg k20];have e20:x2=j-1:=ω;subst e20;refine wpS_bind (bJ (show x1-1<a.size by omega) fun r3 hr3=>?_);have s4:=s2.oH ua ω hr3 gA;by_cases e5:(x1-1 == 0)=true
            ·rw[if_pos e5];exact wpS_pure ⟨_,rfl,.inl (s4.dn ua ub (.inl (by simpa using e5)))⟩
            ·rw[if_neg e5];have l9:0<x1-1:=by
              have:¬(x1-1=0):=(by simpa using e5);omega
             split
             ·exact wpS_pure ⟨_,rfl,.inr ⟨_,_,_,_,_,_,rfl,⟨s4,l9,l2',ω,ω⟩,ω⟩⟩
             ·exact wpS_pure ⟨_,rfl,_,_,_,_,_,_,rfl,⟨s4,l9,l2',ω,ω⟩,ω⟩
        ·rw[if_neg hk0];have e00:x1=i:=ω;subst e00;refine wpS_bind (bJ (show j-1<b.size by omega) fun q2 hq2=>?_);have s2:=si.wG ub ω hq2 gB;by_cases e3:(j-1 == 1)=true
         ·rw[if_pos e3];exact wpS_pure ⟨_,rfl,.inl (s2.fs ua ub (by simpa using e3) hF)⟩
         ·rw[if_neg e3];have l2':1<j-1:=by
           have:¬(j-1=1):=(by simpa using e3);omega
          refine wpS_bind (bJ (show x1-1<a.size by omega) fun r2 hr2=>?_);refine wpS_bind (lY O hk (ha _ _ hr2) hb ω ω (fun x y h1 h2=>ub _ _ ω ω) fun x2 hx2 g3 g4=>?_);rw[<- bU (f:=f) hr2] at g3 g4;simp only[Nat.zero_add] at g3 g4;have s3:=s2.MK (x:=x2) ub hx2 fun t t1 t2 t3 u v1 v2=>by
           have:=g4 t t1 t2;have:=ale (i:=u) (t:=x1-1) ω ω;omega
          have gA:∀u,u<x2->u<b.size->Rk f b u<=Rk f a (x1-1):=fun u v1 v2=>g3 u v1;dsimp only;by_cases k20:j-1-x2>0
          ·rw[if_pos k20];by_cases e4:(x2 == 1)=true
           ·rw[if_pos e4];exact wpS_pure ⟨_,rfl,.inl (s3.fs ua ub (by simpa using e4) hF)⟩
           ·rw[if_neg e4];by_cases e6:(x2 == 0)=true
            ·rw[if_pos e6];exact wpS_pure ⟨_,rfl,.inl (s3.dn ua ub (.inr (by simpa using e6)))⟩
            ·rw[if_neg e6];have l2'':1<x2:=by
              have:¬(x2=1):=(by simpa using e4);have:¬(x2=0):=(by simpa using e6);omega
             refine wpS_bind (bJ (show x1-1<a.size by omega) fun r3 hr3=>?_);have s4:=s3.oH ua ω hr3 gA;by_cases e5:(x1-1 == 0)=true
             ·rw[if_pos e5];exact wpS_pure ⟨_,rfl,.inl (s4.dn ua ub (.inl (by simpa using e5)))⟩
             ·rw[if_neg e5];have l9:0<x1-1:=by
               have:¬(x1-1=0):=(by simpa using e5);omega
              split
              ·exact wpS_pure ⟨_,rfl,.inr ⟨_,_,_,_,_,_,rfl,⟨s4,l9,l2'',ω,ω⟩,ω⟩⟩
              ·exact wpS_pure ⟨_,rfl,_,_,_,_,_,_,rfl,⟨s4,l9,l2'',ω,ω⟩,ω⟩
          ·rw[if_neg k20];have e20:x2=j-1:=ω;subst e20;refine wpS_bind (bJ (show x1-1<a.size by omega) fun r3 hr3=>?_);have s4:=s2.oH ua ω hr3 gA;by_cases e5:(x1-1 == 0)=true
           ·rw[if_pos e5];exact wpS_pure ⟨_,rfl,.inl (s4.dn ua ub (.inl (by simpa using e5)))⟩
           ·rw[if_neg e5];have l9:0<x1-1:=by
             have:¬(x1-1=0):=(by simpa using e5);omega
            split
            ·exact wpS_pure ⟨_,rfl,.inr ⟨_,_,_,_,_,_,rfl,⟨s4,l9,l2',ω,ω⟩,ω⟩⟩
            ·exact wpS_pure ⟨_,rfl,_,_,_,_,_,_,rfl,⟨s4,l9,l2',ω,ω⟩,ω⟩
end
end SRT
namespace SRT
open PySem PyProof.Rows
section
variable {κ:SortKind}{prog:Program}{w:World}{s:Shared}{A:Around}{E:Value->Shared->Prop}{a₀:Array Keyed}{f:Keyed->Int}{pd:Array (Nat×Nat×Nat)}
def cV (f:Keyed->Int)(xs:Array Keyed)(lo hi:Nat):Prop:=∀i j,lo<=i->i<j->j<hi->Rk f xs i<=Rk f xs j
theorem cV.snoc {xs:Array Keyed}{lo n:Nat}(h:cV f xs lo n)(h1:lo<n)(hl:Rk f xs (n-1)<=Rk f xs n):cV f xs lo (n+1):=fun i j hi hij hj=>by
 by_cases e:j=n
 ·subst e;by_cases e2:i=j-1
  ·subst e2;exact hl
  ·have:=h i (j-1) hi ω ω;omega
 ·exact h i j hi hij ω
theorem cV.at {xs ys:Array Keyed}{lo hi:Nat}(h:cV f xs lo hi)(e:∀i,lo<=i->i<hi->ys[i]?=xs[i]?):cV f ys lo hi:=fun i j h1 h2 h3=>by
 rw[Rk.at (e i h1 ω),Rk.at (e j ω h3)];exact h i j h1 h2 h3
theorem QB.mirror {st:SortSt}(h:QB κ a₀ pd st)(i j d:Nat):QB κ a₀ pd (setArr st (mirror (arrOf st) i j d)):=h.set (mirror_perm _ _ _ _)
theorem NQ {st:SortSt}{i j:Nat}{Q:Option Bool->SortSt->Prop}(O:vq κ prog w A E s a₀ f)(hB:QB κ a₀ pd st)(hi:i<a₀.size)(hj:j<a₀.size)
  (h:Q (some (decide (Rk f (arrOf st) i<Rk f (arrOf st) j))) st):wpS (model prog w) A E s (ltAt' i j) Q st:=by
 have hz:=hB.size;rw[ltAt'_eq];refine wpS_bind (wpS_get ?_);refine wpS_bind (bJ ω fun p hp=>?_);refine wpS_bind (bJ ω fun q hq=>?_);rw[bU hp,bU hq] at h;exact O _ _ _ _ hB.kind (hB.inn _ _ hp) (hB.inn _ _ hq) h
structure wR (κ:SortKind)(a₀:Array Keyed)(pd:Array (Nat×Nat×Nat))(f:Keyed->Int)(lo:Nat)(z0 z:SortSt):Prop where
 b:QB κ a₀ pd z
 o:∀i,i<lo->(arrOf z)[i]?=(arrOf z0)[i]?
 r:∀i,Rk f (arrOf z) i=Rk f (arrOf z0) i
theorem wR.rev {z0 z:SortSt}{lo i j:Nat}(h:wR κ a₀ pd f lo z0 z)(hi:lo<=i)(hj:j<=a₀.size)(flat:∀k,i<=k->k<j->Rk f (arrOf z0) k=Rk f (arrOf z0) (j-1)):wR κ a₀ pd f lo z0 (setArr z (mirror (arrOf z) i j ((j-i)/2))):=by
 have hz:=h.b.size;have mi:=fun k=>getElem?_mirror_all (xs:=arrOf z) (i:=i) (j:=j) ω k;refine⟨h.b.mirror _ _ _,fun k hk=>?_,fun k=>?_⟩
 ·have e:=mi k;rw[if_neg ω] at e;exact e.trans (h.o k hk)
 ·have e:=mi k;show Rk f (mirror (arrOf z) i j ((j-i)/2)) k=_;by_cases c:i<=k/\k<j
  ·rw[if_pos c] at e;rw[Rk.at e,h.r,flat _ ω ω,flat k c.1 c.2]
  ·rw[if_neg c] at e;rw[Rk.at e,h.r]
theorem YS {st:SortSt}{lo nrem:Nat}{Q:Option Nat->SortSt->Prop}(O:vq κ prog w A E s a₀ f)(hB:QB κ a₀ pd st)(h1:1<=nrem)(hn:lo+nrem<=a₀.size)
  (h:∀n st',1<=n->n<=nrem->QB κ a₀ pd st'->(∀i,i<lo->(arrOf st')[i]?=(arrOf st)[i]?)->cV f (arrOf st') lo (lo+n)->Q (some n) st'):wpS (model prog w) A E s (countRun' lo nrem) Q st:=by
 refine wpS_bind (wpS_mono (wpS_forRange (I:=fun x c z=>z=st/\c=(none,x)/\cV f (arrOf st) lo (lo+x)) (Q:=fun c z=>z=st/\∃n,c=(none,n)/\1<=n/\n<=nrem/\cV f (arrOf st) lo (lo+n)/\(n<nrem->Rk f (arrOf st) (lo+n)<Rk f (arrOf st) (lo+n-1))) ?_ ?_ ⟨rfl,rfl,fun i j a b c=>ω⟩) ?_)
 ·rintro x c z h1x hx ⟨rfl,rfl,ha⟩;dsimp only;refine wpS_bind (NQ O hB ω ω ?_);by_cases e:Rk f (arrOf z) (lo+x)<Rk f (arrOf z) (lo+x-1)
  ·rw[decide_eq_true e];exact wpS_pure ⟨rfl,x,rfl,h1x,ω,ha,fun _=>e⟩
  ·rw[decide_eq_false e];exact wpS_pure ⟨rfl,rfl,ha.snoc ω ω⟩
 ·rintro c z ⟨rfl,rfl,ha⟩;rw[Nat.max_eq_right h1] at ha |-;exact⟨rfl,_,rfl,ω,ω,ha,fun q=>ω⟩
 ·rintro c z0 ⟨rfl,n,rfl,k1,k2,ha,hx⟩;dsimp only;by_cases he:(n == nrem)=true
  ·rw[if_pos he];exact wpS_pure (h n z0 k1 k2 hB (fun _ _=>rfl) ha)
  ·rw[if_neg he];have k3:n<nrem:=by have:¬(n=nrem):=(by simpa using he);omega
   have z00:wR κ a₀ pd f lo z0 z0:=⟨hB,fun _ _=>rfl,fun _=>rfl⟩;refine' (fun(tail:∀z,wR κ a₀ pd f lo z0 z->(∀i j,lo<=i->i<j->j<lo+(n+1)->Rk f (arrOf z0) j<=Rk f (arrOf z0) i)->wpS (model prog w) A E s _ Q z)=>?main) ?tail
   case main=>
    by_cases hg:n>1
    ·rw[if_pos hg];refine wpS_bind (NQ O hB ω ω ?_);by_cases e:Rk f (arrOf z0) lo<Rk f (arrOf z0) (lo+n-1)
     ·rw[decide_eq_true e];exact wpS_pure (h n z0 k1 k2 hB (fun _ _=>rfl) ha)
     ·rw[decide_eq_false e];have fl:∀k,lo<=k->k<lo+n->Rk f (arrOf z0) k=Rk f (arrOf z0) (lo+n-1):=fun k a b=>by
       have q1:Rk f (arrOf z0) lo<=Rk f (arrOf z0) k:=by
        by_cases c:lo=k
        ·rw[c];exact Int.le_refl _
        ·exact ha lo k (Nat.le_refl _) ω b
       have q2:Rk f (arrOf z0) k<=Rk f (arrOf z0) (lo+n-1):=by
        by_cases c:k=lo+n-1
        ·rw[c];exact Int.le_refl _
        ·exact ha k (lo+n-1) a ω ω
       omega
      apply wpS_bind;apply wpS_reverse;refine tail _ (z00.rev (Nat.le_refl _) ω fl) fun i j a b c=>?_;have q1:=fl i a ω;by_cases c2:j=lo+n
      ·have:=hx k3;rw[c2];omega
      ·have q2:=fl j ω ω;omega
    ·rw[if_neg hg];refine tail z0 z00 fun i j a b c=>?_;have e1:n=1:=ω;subst e1;have:i=lo:=by omega
     have:j=lo+1:=by omega
     subst i;subst j;have:=hx k3;rw[show lo+1-1=lo by omega] at this;omega
   case tail=>
    intro z hz hd;refine wpS_bind (wpS_lift (wpAny_rule (And.intro rfl ?_)));refine wpS_bind (wpS_mono (wpS_forRange (I:=fun x c z'=>∃q,wR κ a₀ pd f lo z0 z'/\c=(none,x,q)/\(∀i j,lo<=i->i<j->j<lo+x->Rk f (arrOf z0) j<=Rk f (arrOf z0) i)/\q+1<=x/\∀k,lo+x-(q+1)<=k->k<lo+x->Rk f (arrOf z0) k=Rk f (arrOf z0) (lo+x-1))
     (Q:=fun c z'=>∃x q,wR κ a₀ pd f lo z0 z'/\c=(none,x,q)/\2<=x/\x<=nrem/\(∀i j,lo<=i->i<j->j<lo+x->Rk f (arrOf z0) j<=Rk f (arrOf z0) i)/\q+1<=x/\∀k,lo+x-(q+1)<=k->k<lo+x->Rk f (arrOf z0) k=Rk f (arrOf z0) (lo+x-1)) ?_ ?_ ⟨0,hz,rfl,hd,ω,fun k a b=>by rw[show k=lo+(n+1)-1 by omega]⟩) ?_)
    ·rintro x c z' h2x hx2 ⟨q,hZ,rfl,hD,hq1,hq2⟩;dsimp only;refine wpS_bind (NQ O hZ.b ω ω ?_);rw[hZ.r,hZ.r];have hD1:Rk f (arrOf z0) (lo+x)<=Rk f (arrOf z0) (lo+x-1)->∀i j,lo<=i->i<j->j<lo+(x+1)->Rk f (arrOf z0) j<=Rk f (arrOf z0) i:=fun e i j a b c=>by
      by_cases ej:j=lo+x
      ·subst ej;by_cases ei:i=lo+x-1
       ·rw[ei];exact e
       ·have:=hD i (lo+x-1) a ω ω;omega
      ·exact hD i j a b ω
     by_cases e:Rk f (arrOf z0) (lo+x)<Rk f (arrOf z0) (lo+x-1)
     ·rw[decide_eq_true e];dsimp only;rw[if_pos rfl];have one:∀k,lo+(x+1)-(0+1)<=k->k<lo+(x+1)->Rk f (arrOf z0) k=Rk f (arrOf z0) (lo+(x+1)-1):=fun k a b=>by rw[show k=lo+(x+1)-1 by omega]
      by_cases hq:q>0
      ·rw[if_pos hq];apply wpS_bind;apply wpS_reverse;exact wpS_pure ⟨0,hZ.rev ω ω hq2,rfl,hD1 ω,ω,one⟩
      ·rw[if_neg hq];exact wpS_pure ⟨0,hZ,rfl,hD1 ω,ω,one⟩
     ·rw[decide_eq_false e];dsimp only;rw[if_neg (Bool.false_ne_true)];refine wpS_bind (NQ O hZ.b ω ω ?_);rw[hZ.r,hZ.r];by_cases e2:Rk f (arrOf z0) (lo+x-1)<Rk f (arrOf z0) (lo+x)
      ·rw[decide_eq_true e2];exact wpS_pure ⟨x,q,hZ,rfl,ω,ω,hD,hq1,hq2⟩
      ·rw[decide_eq_false e2];refine wpS_pure ⟨q+1,hZ,rfl,hD1 ω,ω,fun k a b=>?_⟩;rw[show lo+(x+1)-1=lo+x by omega];by_cases c:k=lo+x
       ·rw[c]
       ·have:=hq2 k ω ω;omega
    ·rintro c z' ⟨q,hZ,rfl,hD,hq1,hq2⟩;rw[Nat.max_eq_right ω] at hD hq1 hq2 |-;exact⟨_,q,hZ,rfl,ω,Nat.le_refl _,hD,hq1,hq2⟩
    ·rintro c z' ⟨n,q,hZ,rfl,q1,q2,hD,hq1,hq2⟩;dsimp only;refine' (fun(tail2:∀z',wR κ a₀ pd f lo z0 z'->wpS (model prog w) A E s _ Q z')=>?main2) ?tail2
     case main2=>
      by_cases hq:q>0
      ·rw[if_pos hq];apply wpS_bind;apply wpS_reverse;exact tail2 _ (hZ.rev ω ω hq2)
      ·rw[if_neg hq];exact tail2 _ hZ
     case tail2=>
      intro z' hZ;have hz:=hZ.b.size;apply wpS_bind;apply wpS_reverse;have hB':QB κ a₀ pd (setArr z' (mirror (arrOf z') lo (lo+n) ((lo+n-lo)/2))):=hZ.b.mirror _ _ _;have mi:=fun k=>getElem?_mirror_all (xs:=arrOf z') (i:=lo) (j:=lo+n) ω k;have ha':cV f (arrOf (setArr z' (mirror (arrOf z') lo (lo+n) ((lo+n-lo)/2)))) lo (lo+n):=fun i j a b c=>by
       have e1:=mi i;have e2:=mi j;rw[if_pos ⟨a,ω⟩] at e1;rw[if_pos ⟨ω,c⟩] at e2;show Rk f (mirror (arrOf z') lo (lo+n) ((lo+n-lo)/2)) i<=Rk f (mirror (arrOf z') lo (lo+n) ((lo+n-lo)/2)) j;rw[Rk.at e1,Rk.at e2,hZ.r,hZ.r];exact hD _ _ ω ω ω
      have hsame:∀i,i<lo->(arrOf (setArr z' (mirror (arrOf z') lo (lo+n) ((lo+n-lo)/2))))[i]?=(arrOf z0)[i]?:=fun i hi=>by
       have e1:=mi i;rw[if_neg ω] at e1;exact e1.trans (hZ.o i hi)
      generalize setArr z' (mirror (arrOf z') lo (lo+n) ((lo+n-lo)/2))=st2 at hB' ha' hsame |-;refine wpS_bind (wpS_mono (wpS_forRange (I:=fun x c z=>z=st2/\c=(none,x)/\cV f (arrOf st2) lo (lo+x)) (Q:=fun c z=>z=st2/\∃n,c=(none,n)/\1<=n/\n<=nrem/\cV f (arrOf st2) lo (lo+n)) ?_ ?_ ⟨rfl,rfl,ha'⟩) ?_)
      ·rintro x c z h1x hx ⟨rfl,rfl,ha⟩;dsimp only;refine wpS_bind (NQ O hB' ω ω ?_);by_cases e:Rk f (arrOf z) (lo+x)<Rk f (arrOf z) (lo+x-1)
       ·rw[decide_eq_true e];exact wpS_pure ⟨rfl,x,rfl,ω,ω,ha⟩
       ·rw[decide_eq_false e];exact wpS_pure ⟨rfl,rfl,ha.snoc ω ω⟩
      ·rintro c z ⟨rfl,rfl,ha⟩;rw[Nat.max_eq_right ω] at ha |-;exact⟨rfl,_,rfl,ω,Nat.le_refl _,ha⟩
      ·rintro c z ⟨rfl,n,rfl,k1,k2,ha⟩;exact wpS_pure (h n z k1 k2 hB' hsame ha)
theorem Es {xs:Array Keyed}{K L lo:Nat}(h:cV f xs lo K)(hK:K<xs.size)(hL:lo<=L)(hL2:L<=K)(h1:∀i,lo<=i->i<L->Rk f xs i<=Rk f xs K)(h2:∀i,L<=i->i<K->Rk f xs K<=Rk f xs i):cV f (bubble xs K (K-L)) lo (K+1):=by
 have g:∀i,Rk f (bubble xs K (K-L)) i=if i=L then Rk f xs K else if L<i/\i<=K then Rk f xs (i-1) else Rk f xs i:=fun i=>by
  have e:=getElem?_bubble hK (K-L) ω i;rw[show K-(K-L)=L by omega] at e;split
  ·rename_i c;rw[if_pos c] at e;exact Rk.at e
  ·rename_i c;rw[if_neg c] at e;split
   ·rename_i c2;rw[if_pos c2] at e;exact Rk.at e
   ·rename_i c2;rw[if_neg c2] at e;exact Rk.at e
 intro i j hlo hij hj;rw[g i,g j];by_cases a1:i=L
 ·rw[if_pos a1,if_neg ω,if_pos ω];exact h2 _ ω ω
 ·rw[if_neg a1];by_cases a2:L<i/\i<=K
  ·rw[if_pos a2,if_neg ω,if_pos ω];exact h _ _ ω ω ω
  ·rw[if_neg a2];by_cases b1:j=L
   ·rw[if_pos b1];exact h1 _ hlo ω
   ·rw[if_neg b1];by_cases b2:L<j/\j<=K
    ·rw[if_pos b2];by_cases c:i=j-1
     ·omega
     ·exact h _ _ hlo ω ω
    ·rw[if_neg b2];exact h _ _ hlo ω ω
theorem acw {st:SortSt}{lo n ok:Nat}{Q:Bool->SortSt->Prop}(O:vq κ prog w A E s a₀ f)(hB:QB κ a₀ pd st)(hn:lo+n<=a₀.size)(hok:1<=ok)(hon:ok<=n)(ha:cV f (arrOf st) lo (lo+ok))
  (h:∀st',QB κ a₀ pd st'->(∀i,i<lo->(arrOf st')[i]?=(arrOf st)[i]?)->cV f (arrOf st') lo (lo+n)->Q true st'):wpS (model prog w) A E s (binarySort' lo n ok) Q st:=by
 have hm:max ok 1=ok:=ω;refine wpS_bind (wpS_mono (wpS_forRange (I:=fun x c z=>QB κ a₀ pd z/\c=(none,())/\(∀i,i<lo->(arrOf z)[i]?=(arrOf st)[i]?)/\cV f (arrOf z) lo (lo+x)) (Q:=fun c z=>QB κ a₀ pd z/\c=(none,())/\(∀i,i<lo->(arrOf z)[i]?=(arrOf st)[i]?)/\cV f (arrOf z) lo (lo+n)) ?_ (fun c z hh=>by rw[hm,Nat.max_eq_right hon] at hh;exact hh) ⟨hB,rfl,fun _ _=>rfl,by rw[hm];exact ha⟩) ?_)
 ·rintro k c z hk1 hk ⟨hz,rfl,hsm,hk2⟩;dsimp only;have hsz:=hz.size;refine wpS_bind (wpS_mono (wpS_forRange (I:=fun x c z'=>z'=z/\∃l r,c=(none,l,r)/\l<=r/\r<=k/\r-l<=k-x/\(∀i,lo<=i->i<lo+l->Rk f (arrOf z) i<=Rk f (arrOf z) (lo+k))/\(∀i,lo+r<=i->i<lo+k->Rk f (arrOf z) (lo+k)<=Rk f (arrOf z) i)) (Q:=fun c z'=>z'=z/\∃l,c=(none,l,l)/\l<=k/\(∀i,lo<=i->i<lo+l->Rk f (arrOf z) i<=Rk f (arrOf z) (lo+k))/\(∀i,lo+l<=i->i<lo+k->Rk f (arrOf z) (lo+k)<=Rk f (arrOf z) i)) ?_ ?_ ⟨rfl,0,k,rfl,Nat.zero_le _,Nat.le_refl _,ω,fun i a b=>ω,fun i a b=>ω⟩) ?_)
  ·rintro x c z' _ hx ⟨rfl,l,r,rfl,q1,q2,q3,q4,q5⟩;dsimp only;by_cases hl:l≥r
   ·rw[if_pos hl];have:l=r:=by omega
    subst this;exact wpS_pure ⟨rfl,l,rfl,q2,q4,q5⟩
   ·rw[if_neg hl];refine wpS_bind (NQ O hz ω ω ?_);by_cases e:Rk f (arrOf z') (lo+k)<Rk f (arrOf z') (lo+(l+r)/2)
    ·rw[decide_eq_true e];refine wpS_pure ⟨rfl,l,(l+r)/2,rfl,ω,ω,ω,q4,fun i h1 h2=>?_⟩;by_cases c:i=lo+(l+r)/2
     ·rw[c];exact Int.le_of_lt e
     ·have:=hk2 (lo+(l+r)/2) i ω ω h2;omega
    ·rw[decide_eq_false e];refine wpS_pure ⟨rfl,(l+r)/2+1,r,rfl,ω,q2,ω,fun i h0 h1=>?_,q5⟩;by_cases c:i=lo+(l+r)/2
     ·rw[c];omega
     ·have:=hk2 i (lo+(l+r)/2) h0 ω ω;omega
  ·rintro c z' ⟨rfl,l,r,rfl,q1,q2,q3,q4,q5⟩;have:l=r:=by omega
   subst this;exact⟨rfl,l,rfl,q2,q4,q5⟩
  ·rintro c z' ⟨rfl,l,rfl,q2,q4,q5⟩;dsimp only;refine wpS_bind (wpS_modify (wpS_pure ⟨hz.set (bubble_perm _ _ _),rfl,fun i hi=>?_,?_⟩))
   ·have e:=getElem?_bubble (xs:=arrOf z') (src:=lo+k) ω (lo+k-(lo+l)) ω i;rw[if_neg ω,if_neg ω] at e;exact e.trans (hsm i hi)
   ·exact Es (xs:=arrOf z') (K:=lo+k) (L:=lo+l) hk2 (show lo+k<(arrOf z').size by omega) ω ω q4 q5
 ·rintro c z ⟨hz,rfl,hsm,hk⟩;exact wpS_pure (h z hz hsm hk)
end
end SRT
namespace SRT
open PySem PyProof.Rows
section
variable {κ:SortKind}{prog:Program}{w:World}{s:Shared}{A:Around}{E:Value->Shared->Prop}{a₀:Array Keyed}{f:Keyed->Int}{pd:Array (Nat×Nat×Nat)}
theorem BP {st:SortSt}{Q:Bool->SortSt->Prop}{pre post:List (Nat×Nat×Nat)}{sa na pw sb nb pv:Nat}(O:vq κ prog w A E s a₀ f)(hB:QB κ a₀ pd st)
  (hp:(pendingOf st).toList=pre++(sa,na,pw)::(sb,nb,pv)::post) (hs:sb=sa+na) (ha:1<=na) (hb:1<=nb) (he:sb+nb<=a₀.size) (ua:cV f (arrOf st) sa sb) (ub:cV f (arrOf st) sb (sb+nb))
  (h:∀st',QB κ a₀ (pendingOf st') st'->(pendingOf st').toList=pre++(sa,na+nb,pw)::post->(∀i,i<sa\/sb+nb<=i->(arrOf st')[i]?=(arrOf st)[i]?)->cV f (arrOf st') sa (sb+nb)->Q true st'):wpS (model prog w) A E s (mergeAt' pre.length) Q st:=by
 have hz:=hB.size;have hI:=hB.inn;refine wpS_bind (wpS_get ?_);have e1:(pendingOf st)[pre.length]?=some (sa,na,pw):=by rw[<- getElem?_toList,hp];simp
 have e2:(pendingOf st)[pre.length+1]?=some (sb,nb,pv):=by rw[<- getElem?_toList,hp];simp
 have e3:(((pendingOf st).setIfInBounds pre.length (sa,na+nb,pw)).eraseIdxIfInBounds (pre.length+1)).toList=pre++(sa,na+nb,pw)::post:=by
  simp [hp,List.set_append_right,List.eraseIdx_append_of_length_le]
 dsimp only [pendingOf] at e1 e2;dsimp only;rw[e1,e2];dsimp only;refine wpS_bind (V1 ?_);refine wpS_bind (bJ (show sb<(arrOf st).size by omega) fun q hq=>?_);refine wpS_bind (lY O hB.kind (hI _ _ hq) hI (show sa+na<=(arrOf st).size by omega) (show 0<na by omega) (fun i j h1 h2=>ua _ _ ω ω ω) fun k hk g1 g2=>?_);rw[<- bU (f:=f) hq] at g1 g2;have g1':∀i,sa<=i->i<sa+k->Rk f (arrOf st) i<=Rk f (arrOf st) sb:=fun i h1 h2=>by
  have:=g1 (i-sa) ω;rwa [show sa+(i-sa)=i by omega] at this
 have ble:∀{i t:Nat},sb<=i->i<=t->t<sb+nb->Rk f (arrOf st) i<=Rk f (arrOf st) t:=fun {i t} h0 h1 h2=>by
  by_cases c:i=t
  ·rw[c];omega
  ·have:=ub i t h0 ω h2;omega
 have ale:∀{i t:Nat},sa<=i->i<=t->t<sb->Rk f (arrOf st) i<=Rk f (arrOf st) t:=fun {i t} h0 h1 h2=>by
  by_cases c:i=t
  ·rw[c];omega
  ·have:=ua i t h0 ω h2;omega
 dsimp only;by_cases hk0:(na-k == 0)=true
 ·rw[if_pos hk0];have hk1:k=na:=by have:na-k=0:=(by simpa using hk0);omega
  refine wpS_pure (h _ ⟨hB.kind,hB.perm,hB.fail,rfl⟩ e3 (fun _ _=>rfl) fun i j h1 h2 h3=>?_);show Rk f (arrOf st) i<=Rk f (arrOf st) j;by_cases c1:j<sb
  ·exact ua i j h1 h2 c1
  ·by_cases c2:sb<=i
   ·exact ub i j c2 h2 h3
   ·have:=g1' i h1 ω;have:=ble (i:=sb) (t:=j) (Nat.le_refl _) ω h3;omega
 ·rw[if_neg hk0];have hk1:k<na:=by have:¬(na-k=0):=(by simpa using hk0);omega
  refine wpS_bind (bJ (show sa+k+(na-k)-1<(arrOf st).size by omega) fun q2 hq2=>?_);have hl1:sa+k+(na-k)-1=sb-1:=ω;refine wpS_bind (lY O hB.kind (hI _ _ hq2) hI (show sb+nb<=(arrOf st).size by omega) (show nb-1<nb by omega) (fun i j h1 h2=>ub _ _ ω ω ω) fun m hm g3 g4=>?_);rw[<- bU (f:=f) hq2,hl1] at g3 g4;have g4':∀i,sb+m<=i->i<sb+nb->Rk f (arrOf st) (sb-1)<=Rk f (arrOf st) i:=fun i h1 h2=>by
   have:=g4 (i-sb) ω ω;rwa [show sb+(i-sb)=i by omega] at this
  dsimp only;by_cases hm0:(m == 0)=true
  ·rw[if_pos hm0];have hm1:m=0:=by simpa using hm0
   refine wpS_pure (h _ ⟨hB.kind,hB.perm,hB.fail,rfl⟩ e3 (fun _ _=>rfl) fun i j h1 h2 h3=>?_);show Rk f (arrOf st) i<=Rk f (arrOf st) j;by_cases c1:j<sb
   ·exact ua i j h1 h2 c1
   ·by_cases c2:sb<=i
    ·exact ub i j c2 h2 h3
    ·have:=g4' j ω h3;have:=ale (i:=i) (t:=sb-1) h1 ω ω;omega
  ·rw[if_neg hm0];have hm1:0<m:=by have:¬(m=0):=(by simpa using hm0);omega
   have zx:((arrOf st).extract (sa+k) sb).size=sb-(sa+k):=by rw[Array.size_extract];omega
   have zy:((arrOf st).extract sb (sb+m)).size=m:=by rw[Array.size_extract];omega
   have rx:∀i,i<sb-(sa+k)->Rk f ((arrOf st).extract (sa+k) sb) i=Rk f (arrOf st) (sa+k+i):=fun i hi=>Rk.at (by rw[getElem?_extract,if_pos ω]);have ry:∀i,i<m->Rk f ((arrOf st).extract sb (sb+m)) i=Rk f (arrOf st) (sb+i):=fun i hi=>Rk.at (by rw[getElem?_extract,if_pos ω]);have ix:∀x y,Inn a₀ ((arrOf st).extract x y):=fun x y i p e=>by
    rw[getElem?_extract] at e;split at e
    ·exact hI _ p e
    ·cases e
   have fin:∀(out:Array Keyed)(z:SortSt),out.toList.Perm (((arrOf st).extract (sa+k) sb).toList++((arrOf st).extract sb (sb+m)).toList)->HJ f out.toList->kindOf z=κ->failedOf z=none->(pendingOf z).toList=pre++(sa,na+nb,pw)::post->arrOf z=out.toList.zipIdx.foldl (fun a (x:Keyed×Nat)=>a.setIfInBounds (sa+k+x.2) x.1) (arrOf st)->Q true z:=by
    intro out z ho hu kz fz pz az;have zo:out.size=sb-(sa+k)+m:=by
     have:=ho.length_eq;rw[length_append] at this;simp only[length_toList] at this;omega
    have get:∀t,(arrOf z)[t]?=if t<sa+k then (arrOf st)[t]? else if t<sb+m then out[t-(sa+k)]? else (arrOf st)[t]?:=fun t=>by
     rw[az];exact WY ω ω t
    have uo:=V5 hu;have bnd:∀t,t<out.size->(∃u,sa+k<=u/\u<sb+m/\Rk f out t=Rk f (arrOf st) u):=fun t ht=>by
     have e:=getElem?_pos out t ht;have mem:out[t]∈out.toList:=by simp
     rw[bU e];rcases mem_append.mp (ho.mem_iff.mp mem) with mm|mm
     ·obtain⟨u,u1,u2,u3,eu⟩:=bH mm;exact⟨u,u1,ω,(bU eu).symm⟩
     ·obtain⟨u,u1,u2,u3,eu⟩:=bH mm;exact⟨u,ω,u2,(bU eu).symm⟩
    have lows:∀i u,sa<=i->i<sa+k->sa+k<=u->u<sb+nb->Rk f (arrOf st) i<=Rk f (arrOf st) u:=fun i u h1 h2 h3 h4=>by
     by_cases c:u<sb
     ·exact ua i u h1 ω c
     ·have:=g1' i h1 h2;have:=ble (i:=sb) (t:=u) (Nat.le_refl _) ω h4;omega
    have highs:∀u j,sa<=u->u<sb+m->sb+m<=j->j<sb+nb->Rk f (arrOf st) u<=Rk f (arrOf st) j:=fun u j h1 h2 h3 h4=>by
     by_cases c:u<sb
     ·have:=g4' j h3 h4;have:=ale (i:=u) (t:=sb-1) h1 ω ω;omega
     ·exact ub u j ω ω h4
    refine h z ⟨kz,?_,fz,rfl⟩ pz (fun i hi=>?_) fun i j h1 h2 h3=>?_
    ·rw[az];exact(RG (a:=arrOf st) ω (Nat.le_add_right _ _) (show sb+m<=(arrOf st).size by omega) ho).trans hB.perm
    ·rw[get];split
     ·rfl
     ·rw[if_neg ω]
    ·by_cases ci:i<sa+k
     ·have ei:=get i;rw[if_pos ci] at ei;rw[Rk.at ei];by_cases cj:j<sa+k
      ·have ej:=get j;rw[if_pos cj] at ej;rw[Rk.at ej];exact ua i j h1 h2 ω
      ·by_cases cj2:j<sb+m
       ·have ej:=get j;rw[if_neg cj,if_pos cj2] at ej;rw[Rk.at ej];obtain⟨u,u1,u2,eu⟩:=bnd (j-(sa+k)) ω;rw[eu];exact lows i u h1 ci u1 ω
       ·have ej:=get j;rw[if_neg cj,if_neg cj2] at ej;rw[Rk.at ej];exact lows i j h1 ci ω h3
     ·by_cases ci2:i<sb+m
      ·have ei:=get i;rw[if_neg ci,if_pos ci2] at ei;rw[Rk.at ei];by_cases cj2:j<sb+m
       ·have ej:=get j;rw[if_neg ω,if_pos cj2] at ej;rw[Rk.at ej];exact uo _ _ ω ω
       ·have ej:=get j;rw[if_neg ω,if_neg cj2] at ej;rw[Rk.at ej];obtain⟨u,u1,u2,eu⟩:=bnd (i-(sa+k)) ω;rw[eu];exact highs u j ω u2 ω h3
      ·have ei:=get i;rw[if_neg ci,if_neg ci2] at ei;have ej:=get j;rw[if_neg ω,if_neg ω] at ej;rw[Rk.at ei,Rk.at ej];exact ub i j ω h2 h3
   have cux:jf f ((arrOf st).extract (sa+k) sb) ((arrOf st).extract (sa+k) sb).size:=fun i j h1 h2=>by
    rw[zx] at h2;rw[rx i ω,rx j h2];exact ua _ _ ω ω ω
   have cuy:jf f ((arrOf st).extract sb (sb+m)) ((arrOf st).extract sb (sb+m)).size:=fun i j h1 h2=>by
    rw[zy] at h2;rw[ry i ω,ry j h2];exact ub _ _ ω ω ω
   have c0:Rk f ((arrOf st).extract sb (sb+m)) 0<=Rk f ((arrOf st).extract (sa+k) sb) 0:=by
    rw[ry 0 hm1,rx 0 ω];exact g2 k (Nat.le_refl _) hk1
   have cL:Rk f ((arrOf st).extract sb (sb+m)) (((arrOf st).extract sb (sb+m)).size-1)<=Rk f ((arrOf st).extract (sa+k) sb) (((arrOf st).extract (sa+k) sb).size-1):=by
    rw[zx,zy,ry (m-1) ω,rx _ ω,show sa+k+(sb-(sa+k)-1)=sb-1 by omega];exact g3 (m-1) ω
   have l1:1<=((arrOf st).extract (sa+k) sb).size:=ω;have l2:1<=((arrOf st).extract sb (sb+m)).size:=ω;by_cases hle:na-k<=m
   ·rw[if_pos hle];refine wpS_bind (Tj O hB.kind (ix _ _) (ix _ _) cux cuy l1 l2 c0 cL fun out g ho hu=>?_);exact wpS_bind (wpS_modify (wpS_bind (wpS_get (Bl (by show(failedOf st).isNone=true;rw[hB.fail];rfl) (fin out _ ho hu hB.kind hB.fail e3 rfl)))))
   ·rw[if_neg hle];refine wpS_bind (Tq O hB.kind (ix _ _) (ix _ _) cux cuy l1 l2 c0 cL fun out g ho hu=>?_);exact wpS_bind (wpS_modify (wpS_bind (wpS_get (Bl (by show(failedOf st).isNone=true;rw[hB.fail];rfl) (fin out _ ho hu hB.kind hB.fail e3 rfl)))))
structure QCw (κ:SortKind)(a₀:Array Keyed)(f:Keyed->Int)(hi:Nat)(st:SortSt):Prop where
 b:QB κ a₀ (pendingOf st) st
 c:Chain (pendingOf st).toList 0 hi
 u:∀r,r∈(pendingOf st).toList->cV f (arrOf st) r.1 (r.1+r.2.1)
theorem Tv {st:SortSt}{i hi:Nat}{Q:Bool->SortSt->Prop}(O:vq κ prog w A E s a₀ f)(hB:QCw κ a₀ f hi st)(hh:hi<=a₀.size)(h2:i+1<(pendingOf st).size)
  (h:∀st',QCw κ a₀ f hi st'->(pendingOf st').size+1=(pendingOf st).size->Q true st'):wpS (model prog w) A E s (mergeAt' i) Q st:=by
 obtain⟨pre,⟨sa,na,pw⟩,⟨sb,nb,pv⟩,post,e,hl⟩:=abE (pendingOf st).toList i (by simpa using h2);have hc:=hB.c;have hu:=hB.u;rw[e] at hc hu;obtain⟨k1,k2,k3,k4,k5⟩:=hc.two;obtain⟨o1,o2⟩:=hc.parts;subst hl;have ua:=hu (sa,na,pw) (by simp);have ub:=hu (sb,nb,pv) (by simp);replace ua:cV f (arrOf st) sa (sa+na):=ua;refine BP O hB.b e k1 k2 k3 ω (by rw[k1];exact ua) ub fun st' hB' hp hsm hup=>h st' ⟨hB',by rw[hp];exact k5,fun r m=>?_⟩ ?_
 ·rw[hp] at m;rcases mem_append.mp m with m|m
  ·refine(hu r (mem_append_left _ m)).at fun x _ hx=>hsm x (.inl ?_);have:=o1 r m;omega
  ·rcases mem_cons.mp m with rfl|m
   ·show cV f (arrOf st') sa (sa+(na+nb));rw[show sa+(na+nb)=sb+nb by omega];exact hup
   ·refine(hu r (mem_append_right _ (mem_cons_of_mem _ (mem_cons_of_mem _ m)))).at fun x hx _=>hsm x (.inr ?_);have:=o2 r m;omega
 ·rw[<- length_toList,<- length_toList,hp,e];simp;omega
theorem QCw.Gb {st:SortSt}{hi pw:Nat}(h:QCw κ a₀ f hi st):QCw κ a₀ f hi (setPending st ((pendingOf st).modify ((pendingOf st).size-1) fun(x,len,_)=>(x,len,pw))):=by
 have key:∃l,((pendingOf st).modify ((pendingOf st).size-1) fun(x,len,_)=>(x,len,pw)).toList=l/\Chain l 0 hi/\∀r,r∈l->cV f (arrOf st) r.1 (r.1+r.2.1):=by
  have hc:=h.c;have hu:=h.u;by_cases he:(pendingOf st).toList=[]
  ·have:pendingOf st=#[]:=by simpa using he
   rw[this] at hc hu |-;exact⟨[],by simp,by simpa using hc,fun r m=>(by cases m)⟩
  ·obtain⟨t,p,n,v,e⟩:=Wg _ he;have e2:pendingOf st=(t++[(p,n,v)]).toArray:=by rw[<- e]
   rw[e] at hc hu;rw[e2];refine⟨t++[(p,n,pw)],by simp [wM],hc.Gb,fun r m=>?_⟩;rcases mem_append.mp m with m|m
   ·exact hu r (mem_append_left _ m)
   ·rw[mem_singleton.mp m];exact hu (p,n,v) (by simp)
 obtain⟨l,e,c,u⟩:=key;exact⟨⟨h.b.kind,h.b.perm,h.b.fail,rfl⟩,by show Chain ((pendingOf st).modify ((pendingOf st).size-1) fun(x,len,_)=>(x,len,pw)).toList 0 hi;rw[e];exact c,fun r m=>u r (by rw[<- e];exact m)⟩
theorem QCw.push {st:SortSt}{lo n:Nat}(h:QCw κ a₀ f lo st)(h1:1<=n)(hu:cV f (arrOf st) lo (lo+n)):QCw κ a₀ f (lo+n) (setPending st ((pendingOf st).push (lo,n,0))):=by
 refine⟨⟨h.b.kind,h.b.perm,h.b.fail,rfl⟩,?_,fun r m=>?_⟩
 ·show Chain ((pendingOf st).push (lo,n,0)).toList 0 (lo+n);rw[toList_push];exact h.c.snoc h1
 ·replace m:r∈((pendingOf st).push (lo,n,0)).toList:=m;rw[toList_push] at m;rcases mem_append.mp m with m|m
  ·exact h.u r m
  ·rw[mem_singleton.mp m];exact hu
theorem QCw.of {st st':SortSt}{lo:Nat}(h:QCw κ a₀ f lo st)(h':QB κ a₀ (pendingOf st) st')(hs:∀i,i<lo->(arrOf st')[i]?=(arrOf st)[i]?):QCw κ a₀ f lo st':=by
 refine⟨⟨h'.kind,h'.perm,h'.fail,rfl⟩,by rw[h'.pend];exact h.c,fun r m=>?_⟩;rw[h'.pend] at m;exact(h.u r m).at fun x _ hx=>hs x (by have:=(h.c.mem r m).2;omega)
theorem GC {st:SortSt}{i lo n:Nat}{Q:Bool->SortSt->Prop}(O:vq κ prog w A E s a₀ f)(hB:QCw κ a₀ f lo st)(hh:lo<=a₀.size)(h2:i+1<(pendingOf st).size)(hu:cV f (arrOf st) lo (lo+n))
  (h:∀st',QCw κ a₀ f lo st'->cV f (arrOf st') lo (lo+n)->Q true st'):wpS (model prog w) A E s (mergeAt' i) Q st:=by
 obtain⟨pre,⟨sa,na,pw⟩,⟨sb,nb,pv⟩,post,e,hl⟩:=abE (pendingOf st).toList i (by simpa using h2);have hc:=hB.c;have hu':=hB.u;rw[e] at hc hu';obtain⟨k1,k2,k3,k4,k5⟩:=hc.two;obtain⟨o1,o2⟩:=hc.parts;subst hl;have ua:=hu' (sa,na,pw) (by simp);have ub:=hu' (sb,nb,pv) (by simp);replace ua:cV f (arrOf st) sa (sa+na):=ua;refine BP O hB.b e k1 k2 k3 ω (by rw[k1];exact ua) ub fun st' hB' hp hsm hup=>h st' ⟨hB',by rw[hp];exact k5,fun r m=>?_⟩ (hu.at fun x hx _=>hsm x (.inr ω));rw[hp] at m;rcases mem_append.mp m with m|m
 ·refine(hu' r (mem_append_left _ m)).at fun x _ hx=>hsm x (.inl ?_);have:=o1 r m;omega
 ·rcases mem_cons.mp m with rfl|m
  ·show cV f (arrOf st') sa (sa+(na+nb));rw[show sa+(na+nb)=sb+nb by omega];exact hup
  ·refine(hu' r (mem_append_right _ (mem_cons_of_mem _ (mem_cons_of_mem _ m)))).at fun x hx _=>hsm x (.inr ?_);have:=o2 r m;omega
theorem Q0 {st:SortSt}{Q:Unit->SortSt->Prop}(O:vq κ prog w A E s a₀ f)(hB:QB κ a₀ #[] st)(h:∀st',(arrOf st').toList.Perm a₀.toList->failedOf st'=none->jf f (arrOf st') a₀.size->Q () st'):wpS (model prog w) A E s sortRuns' Q st:=by
 refine wpS_bind (wpS_get ?_);dsimp only;have hs:=hB.size;dsimp only [arrOf] at hs;simp only[hs];generalize (sortPriv% PySem.Builtin.minRun) a₀.size a₀.size 0=mr;have h00:QCw κ a₀ f 0 st:=⟨⟨hB.kind,hB.perm,hB.fail,rfl⟩,by rw[hB.pend];rfl,fun r m=>by rw[hB.pend] at m;cases m⟩;refine wpS_bind (wpS_mono (wpS_forRange (I:=fun x c z=>∃lo,c=(none,lo)/\QCw κ a₀ f lo z/\x<=lo/\lo<=a₀.size) (Q:=fun c z=>∃lo,c=(none,lo)/\QCw κ a₀ f a₀.size z) ?step ?fin ⟨0,rfl,h00,Nat.le_refl _,Nat.zero_le _⟩) ?post)
 case fin=>
  rintro c z ⟨lo,rfl,hz,k1,k2⟩;have:lo=a₀.size:=by omega
  subst this;exact⟨_,rfl,hz⟩
 case step=>
  rintro x c z _ hx ⟨lo,rfl,hz,k1,k2⟩;dsimp only;by_cases hlo:lo≥a₀.size
  ·rw[if_pos hlo];have:lo=a₀.size:=by omega
   subst this;exact wpS_pure ⟨_,rfl,hz⟩
  ·rw[if_neg hlo];refine wpS_bind (YS O hz.b (show 1<=a₀.size-lo by omega) ω fun n z' n1 n2 hz' hsm hup=>?_);replace hz:=hz.of hz' hsm;dsimp only;clear hz' hsm;revert hz hup;generalize z'=z;intro hup hz;by_cases hmr:n<mr
   ·rw[if_pos hmr];refine wpS_bind (wpS_lift (wpAny_rule (And.intro rfl ?_)));refine wpS_bind (acw O hz.b (show lo+min (a₀.size-lo) mr<=a₀.size by omega) n1 ω hup fun z' hz' hsm hup=>?_);replace hz:=hz.of hz' hsm;clear hz' hsm;revert hz hup;generalize z'=z;intro hup hz;rw[if_neg (show ¬((!true)=true) by decide)];refine wpS_bind (wpS_get ?_);cases hbk:(pendingOf z).back? with
    | none=>
     exact wpS_bind (wpS_modify (wpS_pure ⟨_,rfl,hz.push ω hup,ω,ω⟩))
    | some bk=>
     obtain⟨s1,n1',v1⟩:=bk;dsimp only;refine wpS_bind (wpS_mono (wpS_forRange (I:=fun _ c z=>c=(none,())/\QCw κ a₀ f lo z/\cV f (arrOf z) lo (lo+min (a₀.size-lo) mr)) (Q:=fun c z=>c=(none,())/\QCw κ a₀ f lo z/\cV f (arrOf z) lo (lo+min (a₀.size-lo) mr)) ?_ (fun _ _ hh=>hh) ⟨rfl,hz,hup⟩) ?_)
     ·rintro x c z _ _ ⟨rfl,hz,hup⟩;refine wpS_bind (wpS_get ?_);by_cases hg:(pendingOf z).size>1
      ·obtain⟨p1,p2,p3,e⟩:=LC (pendingOf z) ((pendingOf z).size-2) ω;have hg2:=hg;dsimp only [pendingOf] at e hg;rw[if_pos hg,e];dsimp only;refine CK (fun _=>wpS_pure ⟨rfl,hz,hup⟩) fun _=>?_;exact wpS_bind (GC O hz k2 (show(pendingOf z).size-2+1<(pendingOf z).size by omega) hup fun z hz hup=>wpS_pure ⟨rfl,hz,hup⟩)
      ·dsimp only [pendingOf] at hg;rw[if_neg hg];exact wpS_pure ⟨rfl,hz,hup⟩
     ·rintro c z ⟨rfl,hz,hup⟩;dsimp only;exact wpS_bind (wpS_modify (wpS_bind (wpS_modify (wpS_pure ⟨_,rfl,hz.Gb.push ω hup,ω,ω⟩))))
   ·rw[if_neg hmr];refine wpS_bind (wpS_get ?_);cases hbk:(pendingOf z).back? with
    | none=>
     exact wpS_bind (wpS_modify (wpS_pure ⟨_,rfl,hz.push n1 hup,ω,ω⟩))
    | some bk=>
     obtain⟨s1,n1',v1⟩:=bk;dsimp only;refine wpS_bind (wpS_mono (wpS_forRange (I:=fun _ c z=>c=(none,())/\QCw κ a₀ f lo z/\cV f (arrOf z) lo (lo+n)) (Q:=fun c z=>c=(none,())/\QCw κ a₀ f lo z/\cV f (arrOf z) lo (lo+n)) ?_ (fun _ _ hh=>hh) ⟨rfl,hz,hup⟩) ?_)
     ·rintro x c z _ _ ⟨rfl,hz,hup⟩;refine wpS_bind (wpS_get ?_);by_cases hg:(pendingOf z).size>1
      ·obtain⟨p1,p2,p3,e⟩:=LC (pendingOf z) ((pendingOf z).size-2) ω;have hg2:=hg;dsimp only [pendingOf] at e hg;rw[if_pos hg,e];dsimp only;refine CK (fun _=>wpS_pure ⟨rfl,hz,hup⟩) fun _=>?_;exact wpS_bind (GC O hz k2 (show(pendingOf z).size-2+1<(pendingOf z).size by omega) hup fun z hz hup=>wpS_pure ⟨rfl,hz,hup⟩)
      ·dsimp only [pendingOf] at hg;rw[if_neg hg];exact wpS_pure ⟨rfl,hz,hup⟩
     ·rintro c z ⟨rfl,hz,hup⟩;dsimp only;exact wpS_bind (wpS_modify (wpS_bind (wpS_modify (wpS_pure ⟨_,rfl,hz.Gb.push ω hup,ω,ω⟩))))
 case post=>
  rintro c z ⟨lo,rfl,hz⟩;dsimp only;have hl0:=hz.c.len;rw[length_toList] at hl0;refine wpS_bind (wpS_mono (wpS_forRange (I:=fun x c z=>c=(none,())/\QCw κ a₀ f a₀.size z/\((pendingOf z).size<=1\/(pendingOf z).size+x<=a₀.size)) (Q:=fun c z=>c=(none,())/\QCw κ a₀ f a₀.size z/\(pendingOf z).size<=1) ?_ ?_ ⟨rfl,hz,.inr ω⟩) ?_)
  ·rintro x c z _ _ ⟨rfl,hz,hl⟩;refine wpS_bind (wpS_get ?_);refine CK (fun hg=>wpS_pure ⟨rfl,hz,hg⟩) fun hg=>?_;have hg2:¬(pendingOf z).size<=1:=hg;refine wpS_bind (Tv O hz (Nat.le_refl _) ?_ fun z' hz' hl'=>wpS_pure ⟨rfl,hz',?_⟩)
   ·exact abo hg2
   ·right;rcases hl with hl|hl <;> omega
  ·rintro c z ⟨rfl,hz,hl⟩;exact⟨rfl,hz,by rcases hl with hl|hl <;> omega⟩
  ·rintro c z ⟨rfl,hz,hl⟩;refine wpS_pure (h z hz.b.perm hz.b.fail ?_);have hc:=hz.c;have hu:=hz.u;rw[<- length_toList] at hl;generalize (pendingOf z).toList=l at hc hu hl
   match l,hc,hu,hl with
   | [],hc,_,_=>exact fun i j _ hj=>by have:(0:Nat)=a₀.size:=hc;omega
   | [(p,n,v)],hc,hu,_=>
    obtain⟨e1,e2,e3⟩:=hc;have e3:0+n=a₀.size:=e3;have:=hu (p,n,v) (by simp);exact fun i j hij hj=>this i j (by show p<=i;omega) hij (by show j<p+n;omega)
   | _::_::_,_,_,hl=>exact absurd hl (by simp)
end
end SRT
namespace SRT
open PySem PyProof.Rows
def TL (s:Shared) (x:Value) (a b:Int):Prop:=∃q o n t u,x=.ref q/\s.heap.get? q=some o/\o.cls=.type "tuple" /\ o.data=.seq #[.int a t,.int b u] n
theorem TL.tp {s:Shared}{x:Value}{a b:Int}(h:TL s x a b):TP s x a:=by
 obtain⟨q,o,n,t,u,e,ho,hc,hd⟩:=h;exact⟨q,o,n,t,_,e,ho,hc,hd⟩
structure Ag (s:Shared)(p1 p2 g:Value->Int)(vs:List Value):Prop where
 tk:∀v∈vs,TL s v (p1 v) (p2 v)
 lx:∀x∈vs,∀y∈vs,g x<g y↔p1 x<p1 y\/p1 x=p1 y/\p2 x<p2 y
theorem Ag.keep {p1 p2 g:Value->Int}{vs:List Value}{s s':Shared}(h:Ag s p1 p2 g vs) (k:∀q o,s.heap.get? q=some o->o.cls=.type "tuple" -> s'.heap.get? q=some o):Ag s' p1 p2 g vs:=
 ⟨fun v hv=>by
  obtain⟨q,o,n,t,u,e,ho,hc,hs⟩:=h.tk v hv;exact⟨q,o,n,t,u,e,k q o ho hc,hc,hs⟩,h.lx⟩
theorem Ae {g:Value->Int}{vs:List Value}{xs:Array Keyed}(hp:xs.toList.Perm (pairsOf vs).toList)(h:jf (fun p=>g p.1) xs (pairsOf vs).size):((xs.map (·.2)).toList.map g).Pairwise (·<=·):=by
 have hz:xs.size=(pairsOf vs).size:=by
  have:=hp.length_eq;simpa using this
 refine pairwise_iff_getElem.mpr fun i j hi hj hij=>?_;have hix:i<xs.size:=by simpa using hi
 have hjx:j<xs.size:=by simpa using hj
 have e:∀(k:Nat)(hk:k<xs.size),g xs[k].2=Rk (fun p=>g p.1) xs k:=fun k hk=>by
  have m:xs[k]∈(pairsOf vs).toList:=hp.mem_iff.mp (by simp);unfold Rk;rw[getElem?_pos xs k hk];show g _=g _;rw[(iC m).2]
 have a1:=h i j hij ω;rw[<- e i hix,<- e j hjx] at a1;simpa using a1
section
variable {prog:Program}{w:World}{s:Shared}{A:Around}{E:Value->Shared->Prop}
theorem acA {p1 p2 g:Value->Int}{vs:List Value}(h:Ag s p1 p2 g vs):vq jU prog w A E s (pairsOf vs) fun p=>g p.1:=by
 intro st x y Q hk hx hy q;have h1:=h.tk x.1 (iC hx).1;have h4:=h.tk y.1 (iC hy).1;have hl:=h.lx x.1 (iC hx).1 y.1 (iC hy).1;replace q:Q (some (decide (g x.1<g y.1))) st:=q;have q2:Q (some (decide (p1 x.1<p1 y.1\/p1 x.1=p1 y.1/\p2 x.1<p2 y.1))) st:=(congrArg (fun b=>Q (some b) st) (decide_eq_decide.mpr hl)).mp q;clear q;clear hl;have q:=q2;clear q2;rw[lt'_eq];refine wpS_bind (wpS_get ?_);rw[hk];refine wpS_bind (wpS_lift (wpAny_attempt ?_));obtain⟨p,o,n,t,u,e,ho,hc,hs⟩:=h1;obtain⟨p',o',n',t',u',e',ho',hc',hs'⟩:=h4;generalize p1 x.1=a at *;generalize p1 y.1=b at *;generalize p2 x.1=k at *;generalize p2 y.1=l at *;rw[e,e'];show wpAny _ _ (Builtin.List.listItems (.ref p) >>= fun xs=>Builtin.List.listItems (.ref p') >>= _) _ _ s;refine wpAny_bind (listItems_at ho hs ?_);refine wpAny_bind (listItems_at ho' hs' ?_);show wpAny _ _ (forIn [((Value.int a t,Value.int b t'),0),((Value.int k u,Value.int l u'),1)] _ _ >>= _) _ _ s;rw[forIn_cons];refine wpAny_bind (wpAny_bind (wpAny_bind (wpAny_eqBool_int ?_)));by_cases c:a=b
 ·subst c;rw[beq_self_eq_true];refine wpAny_pure ?_;simp only[forIn_cons];refine wpAny_bind (wpAny_bind (wpAny_eqBool_int ?_));by_cases c2:k=l
  ·subst c2;rw[beq_self_eq_true];rw[decide_eq_false ω] at q;refine wpAny_pure ?_;simp only[forIn_nil];exact wpAny_pure (wpAny_pure ⟨rfl,wpS_pure q⟩)
  ·rw[beq_false_of_ne c2];rw[show decide (a<a\/a=a/\k<l)=decide (k<l) from decide_eq_decide.mpr ω] at q;exact wpAny_bind (Jg (wpAny_pure (wpAny_pure (wpAny_pure ⟨rfl,wpS_pure q⟩))))
 ·rw[beq_false_of_ne c];rw[show decide (a<b\/a=b/\k<l)=decide (a<b) from decide_eq_decide.mpr ω] at q;exact wpAny_bind (oneLt_int (wpAny_pure (wpAny_pure (wpAny_pure ⟨rfl,wpS_pure q⟩))))
def KG (prog:Program) (w:World) (s:Shared) (g:Value->Int) (vs:List Value):Prop:=∀(A:Around)(E:Value->Shared->Prop)(s':Shared),(∀q o,s.heap.get? q=some o->o.cls=.type "tuple" -> s'.heap.get? q=some o) ->
 vq jU prog w A E s' (pairsOf vs) (fun p=>g p.1)/\∀Q:SortKind->Shared->Prop,1<=vs.length->Q jU s'->wpAny (model prog w) A (keyKind' vs.toArray) Q E s'
theorem abe {a:Addr}{vs:List Value}{n:Nat}{P:Fin->Shared->Prop}{g:Value->Int}(ho:s.heap.get? a=some (seqObj "list" vs.toArray n)) (hR:KG prog w s g vs)
  (hlen:vs.length<=1000000) (h:∀xs:Array Value,xs.toList.Perm vs->(xs.toList.map g).Pairwise (·<=·)->P (.done (.ret .none)) { s with heap:=sortedHeap s.heap a vs xs }):wpAny (model prog w) A (Builtin.«list.sort» ⟨[.ref a],[]⟩) P E s:=by
 rw[list_sort_plain];have la:a<s.heap.objs.size:=lt_size ho;refine wpAny_bind (listItems_at ho rfl (wpAny_bind (listUpdate_at ho rfl ?_)));obtain⟨e,he⟩:∃e,(s.heap.update a (Obj.mapSeq fun _=>#[])).get? a=some (seqObj "list" #[] e):=⟨_,get?_update_seq ho fun _=>#[]⟩;refine wpAny_bind (seqEpoch_at he rfl (wpAny_bind (wpAny_newTuple (wpAny_bind (wpAny_newList (wpAny_holding ?_))))));have h6:(((s.heap.update a (Obj.mapSeq fun _=>#[])).push (seqObj "tuple" vs.toArray 0)).push (seqObj "list" #[] 0)).get? a=some (seqObj "list" #[] e):=by
  rw[get?_push_ne _ _ _ (by rw[size_push',size_update];exact Nat.ne_of_lt (Nat.le_succ_of_le la)),get?_push_ne _ _ _ (by rw[size_update];exact Nat.ne_of_lt la),he]
 have hR6:=hR A E { s with heap:=((s.heap.update a (Obj.mapSeq fun _=>#[])).push (seqObj "tuple" vs.toArray 0)).push (seqObj "list" #[] 0) } fun q o hq hc=>by
  have hne:q≠a:=fun z=>by
   rw[z,ho] at hq;cases hq;exact absurd (show Value.type "list" = Value.type "tuple" from hc) δ
  exact get?_push_of_some _ (get?_push_of_some _ ((get?_update_other _ _ (Ne.symm hne)).trans hq))
 show wpAny _ A _ P E { s with heap:=((s.heap.update a (Obj.mapSeq fun _=>#[])).push (seqObj "tuple" vs.toArray 0)).push (seqObj "list" #[] 0) };dsimp only;by_cases h2:(vs.toArray.size<2)
 ·rw[if_pos h2,if_pos h2];refine(wpAny_bind (wpAny_pure ?_));rw[StateT.run_pure];refine wpAny_bind (wpAny_pure (wpAny_bind (seqEpoch_at h6 rfl (wpAny_bind (listUpdate_at h6 rfl ?_ (hsz2:=?z))))))
  case z=>rw[size_map];show(pairsOf vs).size<=_;rw[pairsOf_size,sizeLine_eq];omega
  simp only[Bool.false_eq_true,bne_self_eq_false,if_false];have e0:((vs.toArray.zip vs.toArray).map (·.2)).toList=vs:=by rw[show(vs.toArray.zip vs.toArray).map (·.2)=(pairsOf vs).map (·.2) from rfl,qQ]
  refine wpAny_pure (h _ (by rw[e0]) ?_);rw[e0]
  match vs,h2 with
  | [],_=>exact .nil
  | [v],_=>exact pairwise_singleton _ _
  | _::_::t,h2=>exact absurd h2 (by simp)
 ·rw[if_neg h2,if_neg h2];refine wpAny_bind (hR6.2 _ (by simp at h2;omega) ?_);refine wpAny_bind (wpAny_mono (Q0 (κ:=jU) (a₀:=pairsOf vs) (f:=fun p=>g p.1) (st:=SortSt.mk' jU (vs.toArray.zip vs.toArray) #[] 7 none) (Q:=fun _ z=>(arrOf z).toList.Perm (pairsOf vs).toList/\failedOf z=none/\jf (fun p=>g p.1) (arrOf z) (pairsOf vs).size) hR6.1 ⟨rfl,List.Perm.refl _,rfl,rfl⟩ fun z d1 d2 d3=>⟨d1,d2,d3⟩) ?_ fun _ _ e=>e);rintro⟨⟨⟩,z⟩ s' ⟨rfl,d1,d2,d3⟩;have hm:((arrOf z).map (·.2)).toList.Perm vs:=by
   have:=d1.map (·.2);rw[<- toList_map,<- toList_map,qQ] at this;exact this
  refine wpAny_bind (seqEpoch_at h6 rfl (wpAny_bind (listUpdate_at h6 rfl ?_ (hsz2:=?z))))
  case z=>
   have:=hm.length_eq;rw[length_toList] at this;show((arrOf z).map (·.2)).size<=_;rw[this,sizeLine_eq];omega
  dsimp only;rw[d2];simp only[Bool.false_eq_true,bne_self_eq_false,if_false];exact wpAny_pure (h _ hm (Ae d1 d3))
theorem Ku {l:Addr}{vs:List Value}{Q:Value->Shared->Prop}{g:Value->Int}(hl:s.heap.IsList l vs.toArray)(hR:KG prog w s g vs)(hlen:vs.length<=1000000)
  (h:∀xs:Array Value,xs.toList.Perm vs->(xs.toList.map g).Pairwise (·<=·)->Q (.ref (s.heap.objs.size+1)) { s with heap:=sortedAll s.heap vs xs }):wpAny (model prog w) A (call (.builtin "sorted") [.ref l]) Q E s:=by
 refine Calls.call_function_entry kind_sorted plain_sorted entry_sorted (args_sorted1 (.ref l)) ?_;unfold Builtin.«sorted»;refine wpAny_bind (m:=checkCount "sorted" 1 1 _) (wpAny_pure (wpAny_bind (collect_list hl (wpAny_bind (wpAny_newList ?_)))));have hz:((s.heap.push (seqObj "list" #[] 0)).update s.heap.objs.size (Obj.mapSeq (· ++ vs.toArray))).objs.size=s.heap.objs.size+1:=size_update .. |>.trans (size_push' _ _);have hL:(((s.heap.push (seqObj "list" #[] 0)).update s.heap.objs.size (Obj.mapSeq (· ++ vs.toArray))).push (seqObj "list" vs.toArray 0)).get? (s.heap.objs.size+1)=some (seqObj "list" vs.toArray 0):=hz ▸ get?_push_size _ rfl;show wpAny (model prog w) A.in1 _ _ E { s with heap:=((s.heap.push (seqObj "list" #[] 0)).update s.heap.objs.size (Obj.mapSeq (· ++ vs.toArray))).push (seqObj "list" vs.toArray 0) };rw[hz];refine wpAny_bind (wpAny_holding (wpAny_call_entry slot_list_sort ⟨_,hL,rfl⟩ entry_list_sort (abe hL (fun A' E' s'' kp=>hR A' E' s'' fun q o hq hc=>kp q o ?_ hc) hlen fun xs hp ho=>⟨_,rfl,wpAny_pure ⟨_,rfl,h xs hp ho⟩⟩) (args_list_sort _)));have hne:s.heap.objs.size≠q:=fun z=>by
  exact Nat.ne_of_lt (lt_size hq) z.symm
 exact get?_push_of_some _ ((get?_update_other _ _ hne).trans (get?_push_of_some _ hq))
end
end SRT
set_option maxHeartbeats 4100000
namespace SRT
open PySem PyProof.Rows
def gI:Value->Int
 | .int n _=>n
 | _=>0
theorem Ea:∀{vs:List Value}{ns:List Int},IntsAre vs ns->vs.map gI=ns
 | _,_,.nil=>rfl
 | _,_,.cons n t h=>congrArg (n :: ·) (Ea h)
section
variable {prog:Program}{w:World}{A:Around}{E:Value->Shared->Prop}{s:Shared}
theorem acB {vs:List Value}{ns:List Int}(hI:IntsAre vs ns):vq oneType' prog w A E s (pairsOf vs) fun p=>gI p.1:=by
 intro st x y Q hk hx hy h;obtain⟨a,t,ea⟩:=hI.intKeys x hx;obtain⟨b,u,eb⟩:=hI.intKeys y hy;have e:decide (gI x.1<gI y.1)=decide (a<b):=by rw[ea,eb];rfl
 dsimp only at h;rw[e] at h;rw[lt'_eq];refine wpS_bind (wpS_get ?_);rw[hk,keyLt'_oneType,ea,eb];exact wpS_bind (wpS_lift (wpAny_attempt (oneLt_int ⟨rfl,wpS_pure h⟩)))
theorem abd {a:Addr}{vs:List Value}{n:Nat}{P:Fin->Shared->Prop}(ho:s.heap.get? a=some (seqObj "list" vs.toArray n)) {ns:List Int}(hI:IntsAre vs ns)
  (hnd:ns.Nodup) (hlen:vs.length<=1000000) (h:∀xs:Array Value,xs.toList.Perm vs->(xs.toList.map gI).Pairwise (· < ·)->P (.done (.ret .none)) { s with heap:=sortedHeap s.heap a vs xs }):wpAny (model prog w) A (Builtin.«list.sort» ⟨[.ref a],[]⟩) P E s:=by
 rw[list_sort_plain];have la:a<s.heap.objs.size:=lt_size ho;refine wpAny_bind (listItems_at ho rfl (wpAny_bind (listUpdate_at ho rfl ?_)));obtain⟨e,he⟩:∃e,(s.heap.update a (Obj.mapSeq fun _=>#[])).get? a=some (seqObj "list" #[] e):=⟨_,get?_update_seq ho fun _=>#[]⟩;refine wpAny_bind (seqEpoch_at he rfl (wpAny_bind (wpAny_newTuple (wpAny_bind (wpAny_newList (wpAny_holding ?_))))));have h6:(((s.heap.update a (Obj.mapSeq fun _=>#[])).push (seqObj "tuple" vs.toArray 0)).push (seqObj "list" #[] 0)).get? a=some (seqObj "list" #[] e):=by
  rw[get?_push_ne _ _ _ (by rw[size_push',size_update];exact Nat.ne_of_lt (Nat.le_succ_of_le la)),get?_push_ne _ _ _ (by rw[size_update];exact Nat.ne_of_lt la),he]
 show wpAny _ A _ P E { s with heap:=((s.heap.update a (Obj.mapSeq fun _=>#[])).push (seqObj "tuple" vs.toArray 0)).push (seqObj "list" #[] 0) };dsimp only;by_cases h2:(vs.toArray.size<2)
 ·rw[if_pos h2,if_pos h2];refine(wpAny_bind (wpAny_pure ?_));rw[StateT.run_pure];refine wpAny_bind (wpAny_pure (wpAny_bind (seqEpoch_at h6 rfl (wpAny_bind (listUpdate_at h6 rfl ?_ (hsz2:=?z))))))
  case z=>rw[size_map];show(pairsOf vs).size<=_;rw[pairsOf_size,sizeLine_eq];omega
  simp only[Bool.false_eq_true,bne_self_eq_false,if_false];have e0:((vs.toArray.zip vs.toArray).map (·.2)).toList=vs:=by rw[show(vs.toArray.zip vs.toArray).map (·.2)=(pairsOf vs).map (·.2) from rfl,qQ]
  refine wpAny_pure (h _ (by rw[e0]) ?_);rw[e0]
  match vs,h2 with
  | [],_=>exact .nil
  | [v],_=>exact pairwise_singleton _ _
  | _::_::t,h2=>exact absurd h2 (by simp)
 ·rw[if_neg h2,if_neg h2];obtain⟨x,y,t,e2⟩:∃x y t,vs=x::y::t:=by
   cases vs with
   | nil=>simp at h2
   | cons x t=>cases t with
    | nil=>simp at h2
    | cons y t=>exact⟨x,y,t,rfl⟩
  rw[show keyKind' vs.toArray=pure oneType' by subst e2;exact keyKind_ints hI];refine(wpAny_bind (wpAny_pure ?_));refine wpAny_bind (wpAny_mono (Q0 (κ:=oneType') (a₀:=pairsOf vs) (f:=fun p=>gI p.1) (st:=SortSt.mk' oneType' (vs.toArray.zip vs.toArray) #[] 7 none) (Q:=fun _ z=>(arrOf z).toList.Perm (pairsOf vs).toList/\failedOf z=none/\jf (fun p=>gI p.1) (arrOf z) (pairsOf vs).size) (acB hI) ⟨rfl,List.Perm.refl _,rfl,rfl⟩ fun z d1 d2 d3=>⟨d1,d2,d3⟩) ?_ fun _ _ e=>e);rintro⟨⟨⟩,z⟩ s' ⟨rfl,d1,d2,d3⟩;have hm:((arrOf z).map (·.2)).toList.Perm vs:=by
   have:=d1.map (·.2);rw[<- toList_map,<- toList_map,qQ] at this;exact this
  refine wpAny_bind (seqEpoch_at h6 rfl (wpAny_bind (listUpdate_at h6 rfl ?_ (hsz2:=?z))))
  case z=>
   have:=hm.length_eq;rw[length_toList] at this;show((arrOf z).map (·.2)).size<=_;rw[this,sizeLine_eq];omega
  dsimp only;rw[d2];simp only[Bool.false_eq_true,bne_self_eq_false,if_false];have hw:=Ae d1 d3;have hne:(((arrOf z).map (·.2)).toList.map gI).Pairwise (·≠·):=by
   refine(hm.map gI).nodup_iff.mpr ?_;rw[Ea hI];exact hnd
  exact wpAny_pure (h _ hm ((hw.and hne).imp fun z=>Int.lt_iff_le_and_ne.mpr z))
theorem NT {a:Addr}{vs:List Value}{ns:List Int}{n:Nat}{P:Fin->Shared->Prop}(ho:s.heap.get? a=some (seqObj "list" vs.toArray n)) (hI:IntsAre vs ns) (hnd:ns.Nodup) (hlen:vs.length<=1000000)
  (h:∀(xs:Array Value)(ns':List Int),IntsAre xs.toList ns'->ns'.Perm ns->ns'.Pairwise (· < ·)->P (.done (.ret .none)) { s with heap:=sortedHeap s.heap a vs xs }) :
  wpAny (model prog w) A (Builtin.«list.sort» ⟨[.ref a],[]⟩) P E s:=by
 refine abd ho hI hnd hlen fun xs hp ho=>?_;obtain⟨ns',a1,a2⟩:=Cd hp hI;exact h xs ns' a1 a2 (by rw[<- Ea a1];exact ho)
end
section
variable {prog:Program}{w:World}{A:Around}{E:Value->Shared->Prop}{s:Shared}{S:Addr}{es:Array (Int×Value)}{ep:Nat}{t:SetTable}
theorem Mv {l:List Int}{Q:Value->Shared->Prop}(hh:A.handled=none)(hS:SetT (intKind prog w) (!bt w) s.heap S (fun k'=>l.any (· == k')) l.length)(hnd:l.Nodup)
  (h:∀(s':Shared)(L:Addr)(xs:List Value)(ns':List Int)(k:Nat),s'.heap.get? L=some (seqObj "list" xs.toArray k)->IntsAre xs ns'->ns'.Perm l->ns'.Pairwise (· < ·) ->
   (∀c o,s.heap.get? c=some o->s'.heap.get? c=some o)->s'.gens=s.gens->s'.os=s.os->s.heap.objs.size<=L->Q (.ref L) s'):wpAny (model prog w) A (call (.builtin "sorted") [.ref S]) Q E s:=by
 obtain⟨o,es,ep,t,ho,hex,hd,⟨hel,hmem,hb⟩,hf,hn,ht⟩:=hS;have hz:es.size<=sizeLine:=fits_of_scanBound hb;obtain⟨ks,hks,hkm⟩:=zT hel;have hkp:ks.Perm l:=rH hnd (fun x hx=>(hkm x).mpr ((hmem x).mp (by simpa using hx))) (by rw[<- hn,<- length_toList,<- IntsAre.length hks,length_map]);refine Calls.call_function_entry kind_sorted plain_sorted entry_sorted (args_sorted1 (.ref S)) ?_;unfold Builtin.«sorted»;refine wpAny_bind (m:=checkCount "sorted" 1 1 _) (wpAny_pure (wpAny_bind (G6 (by simpa using hh) ⟨o,ho,hex,hd⟩ hf ht hz fun s1 vs hp hk1 hg1 ho1 hl1=>wpAny_bind (wpAny_newList ?_ ?_))))
 ·obtain⟨ms,hms,hmp⟩:=Cd hp hks;have hvl:vs.length=l.length:=by rw[IntsAre.length hms,hmp.length_eq,hkp.length_eq]
  have hL:(s1.heap.push (seqObj "list" vs.toArray 0)).get? s1.heap.objs.size=some (seqObj "list" vs.toArray 0):=get?_push_size _ rfl;show wpAny (model prog w) A.in1 _ _ E { s1 with heap:=s1.heap.push (seqObj "list" vs.toArray 0) };refine wpAny_bind (wpAny_holding (wpAny_call_entry slot_list_sort ⟨_,hL,rfl⟩ entry_list_sort (NT hL hms ((hmp.trans hkp).nodup_iff.mpr hnd) ?_ fun xs ns' a1 a2 a3=>⟨_,rfl,wpAny_pure ⟨_,rfl,?_⟩⟩) (args_list_sort _)))
  ·rw[hvl,<- hn];exact Nat.le_trans (Nat.le_of_lt hb) δ
  ·obtain⟨e,he⟩:=sortedHeap_at (out:=xs) hL;refine h _ _ xs.toList ns' e (by simpa using he) a1 (a2.trans (hmp.trans hkp)) a3 (fun c o x=>?_) hg1 ho1 hl1;have lc:c<s1.heap.objs.size:=lt_size (hk1 c o x);show(sortedHeap _ _ _ _).get? c=some o;rw[sortedHeap_old (Nat.ne_of_lt lc) (by rw[size_push'];exact Nat.lt_succ_of_lt lc)];exact get?_push_of_some _ (hk1 c o x)
 ·rw[hp.length_eq,length_map,length_toList];exact hz
end
end SRT
set_option maxHeartbeats 4000000
namespace L2
open PySem PySem.Spec PyProof.Rows
def Z6 (K:PySem.W.Frag)(ta:TA):TE:=fun σ H Q=>ta σ H fun vs H1=>∃(l:Addr)(xs:List Int),vs=[.ref l]/\SqL K H1 l (xs.map V.int)/\xs.length<4000 /\
 ∀(p:Addr)(ys:List Int),H1 p=none->ys.Perm (SRT.ded xs)->ys.Pairwise (· < ·)->Q (.ref p) (upd H1 p (.lst (ys.map V.int)))
section
variable {X:Cx}{pins:List (Addr×Obj)}{s:Shared}{σ:St}{H:Hp}
theorem RW {a:Expr}{ta:TA}{p p2 pos pos2:Pos}(hc:X.calm=true) (hgl:Gl X "sorted") (hml:X.mg "sorted" = none) (hg:Gl X "set") (hm:X.mg "set" = none) (ha:PA X [a] ta)
  (hs:starEach [a] X.env=[(false,eval a X.env)]:=by rfl)
  (he:starEach [.Call (.Name "set" p2) [a] [] pos2] X.env=[(false,eval (.Call (.Name "set" p2) [a] [] pos2) X.env)]:=by rfl) :
  PE X (.Call (.Name "sorted" p) [.Call (.Name "set" p2) [a] [] pos2] [] pos) (Z6 X.K ta):=by
 intro pins s σ H Q I h;refine wpAny_Call_Name_kw (lE I hgl hml PyProof.Rows.boot_sorted ?_ δ δ);refine PyProof.Rows.callWith_builtin1 ?_ he rfl;rw[he];show wpAny _ _ (spliced ((false,eval (.Call (.Name "set" p2) [a] [] pos2) X.env)::[])) _ _ s;refine Calls.spliced_cons ?_;refine Call_ (lE I hg hm PyProof.Rows.boot_set (PyProof.Rows.callWith_type1 (thA (ha pos2 pins s σ H _ I h) fun us s1 vs H1 I1 r1 q1=>?_) hs rfl));obtain⟨l,xs,rfl,sq,hn,q⟩:=q1;cases r1 with
 | cons r rr=>
  cases rr;cases r;obtain⟨its,rv,pl,hz⟩:=I1.list sq;have hI:=xQ rv;have hlen:its.length=xs.length:=IntsAre.length hI;refine SRT.Oq (I1.ok.hd hc) pl.isList (by simpa using hI) (by simp [hlen,scanBound];omega) fun h2 t2 hS hk=>Calls.spliced_nil ?_;have eq:firstMet (fun i=>xs.getD i 0) its.toArray.size=SRT.ded xs:=by unfold SRT.ded;rw[size_toArray,hlen]
  rw[eq] at hS;have hk2:∀c o,s1.heap.get? c=some o->h2.get? c=some o:=fun c o e=>hk c o (lt_size e) e;refine SRT.Mv (s:={ s1 with heap:=h2,toks:=t2 }) (I1.ok.hd hc) hS (SRT.Ol xs) fun s3 L ys ns k gL iL pL oL k3 g3 o3 l3=>?_;have le:s1.heap.objs.size<=L:=by
   obtain⟨o,_,_,_,e,_⟩:=hS;exact Nat.le_trans (Nat.le_of_lt (lt_size e)) l3
  have hf:H1 L=none:=I1.hok.fresh le;obtain⟨h3,g3',d3,t3,o3'⟩:=s3;cases g3;cases o3;have hl:ns.length<=sizeLine:=by
   rw[pL.length_eq];exact Nat.le_trans (SRT.Lk xs) (Nat.le_trans (Nat.le_of_lt hn) δ)
  refine⟨.ref L,_,((I1.drawn d3).laid (t':=t3) (h':=h3) (fun c o e=>k3 c o (hk2 c o e)) le (show cO X.prog X.w _ h3 _ (.lst (ns.map V.int)) from⟨by simpa using hl,ys,k,Ca iL,gL⟩)),rfl,q L ns hf pL oL⟩
theorem Rw {a:Expr}{ta:TA}{p p2 pos pos2:Pos}(hc:X.calm=true) (hgl:Gl X "sorted") (hml:X.mg "sorted" = none) (hg:Gl X "set") (hm:X.mg "set" = none) (ha:QA X [a] ta)
  (hs:starEach [a] X.env=[(false,eval a X.env)]:=by rfl)
  (he:starEach [.Call (.Name "set" p2) [a] [] pos2] X.env=[(false,eval (.Call (.Name "set" p2) [a] [] pos2) X.env)]:=by rfl) :
  QE X (.Call (.Name "sorted" p) [.Call (.Name "set" p2) [a] [] pos2] [] pos) (Z6 X.K ta):=⟨RW hc hgl hml hg hm ha.h hs he⟩
end
def blK (x:V)(H:Hp)(Q:VK):Prop:=match x with
 | .int i=>Q (.int (Builtin.Int.intBits i:Nat)) H
 | _=>False
def Qd (to:TE):TE:=fun σ H Q=>to σ H fun x H1=>blK x H1 Q
theorem Qc (to:TE)(σ:St)(H:Hp)(Q:VK):Qd to σ H Q=to σ H fun x H1=>blK x H1 Q:=rfl
theorem Y9 (i:Int)(H:Hp)(Q:VK):blK (.int i) H Q=Q (.int (Builtin.Int.intBits i:Nat)) H:=rfl
section
variable {X:Cx}{o:Expr}{to:TE}
theorem Xp {apos cpos:Pos}(ho:PE X o to) (hbase:attributeBase o "bit_length" X.env (eval o X.env)=eval o X.env:=by rfl) (hline:(apos.endLine == cpos.line)=true:=by rfl) :
  PE X (.Call (.Attribute o "bit_length" apos) [] [] cpos) (Qd to):=by
 intro pins s σ H Q I h;refine wpAny_Call_method0_late hbase hline (thE (ho pins s σ H _ I h) fun v s1 x H1 I1 r1 q=>?_);cases x with
 | int i=>
  replace q:Q (.int (Builtin.Int.intBits i:Nat)) H1:=q;obtain⟨t,rfl⟩:=r1;have c:wpAny (model X.prog X.w) X.A (call (.builtin "int.bit_length") [.int i t]) (EP X pins σ Q) X.xe s1:=
   call_givesAt (P:=fun _=>True) F.slot_int_bit_length (typeIs_int s1 i t) F.entry_int_bit_length (F.args_int_bit_length_1 _) (PySem.AutoIntG2.int_bit_length_int_0 i t).at trivial
    (show EP X pins σ Q _ _ from⟨.int _,H1,I1.tok _,⟨_,rfl⟩,q⟩)
  exact⟨"int","int.bit_length",F.plainAttrs_int,F.slot_int_bit_length,F.type_int_bit_length,typeIs_int s1 i t,(fun a (e:Value.int i t=.ref a)=>nomatch e),Calls.callWith_builtin rfl (PySem.evalArgs_none c)⟩
 | _=>exact q.elim
theorem WW {apos cpos:Pos}(ho:QE X o to) (hbase:attributeBase o "bit_length" X.env (eval o X.env)=eval o X.env:=by rfl) (hline:(apos.endLine == cpos.line)=true:=by rfl) :
  QE X (.Call (.Attribute o "bit_length" apos) [] [] cpos) (Qd to):=⟨Xp ho.h hbase hline⟩
end
def VP (k1 k2:Addr->Int)(p q:Addr):Prop:=k1 p<k1 q\/(k1 p=k1 q/\k2 p<=k2 q)
def abU:List V->Hp->VK->Prop:=fun vs H Q=>∃(l:Addr)(ps:List Addr)(k1 k2:Addr->Int),vs=[.ref l]/\H l=some (.lst (ps.map V.ref))/\ps.length<=1000000 /\
 (∀p∈ps,H p=some (.tup [.int (k1 p),.int (k2 p)])/\-1267650600228229401496703205376<k2 p/\k2 p<1267650600228229401496703205376) /\
 ∀(d:Addr)(qs:List Addr),H d=none->qs.Perm ps->qs.Pairwise (VP k1 k2)->Q (.ref d) (upd H d (.lst (qs.map V.ref)))
section
variable {X:Cx}
theorem zV:dR X (.builtin "sorted") abU:=by
 intro pins s σ H xs us Q I rv h;obtain⟨l,ps,k1,k2,rfl,el,hl,hp,q⟩:=h;cases rv with
 | cons r rr=>
  cases rr;cases r;obtain⟨its,rl,pl,hz⟩:=I.list (SqL.of el);have e:=vy rl;subst e;have hR:SRT.Ag s (rkP k1) (rkP k2) (rkP fun p=>k1 p*2535301200456458802993406410752+k2 p) (ps.map Value.ref):=by
   refine⟨fun v hv=>?_,fun x hx y hy=>?_⟩
   ·obtain⟨p,hm,rfl⟩:=mem_map.mp hv;obtain⟨ep,_⟩:=hp p hm;obtain⟨ts,rt,pt,_⟩:=I.tuple (SqT.of ep);obtain⟨ob,g1,g2,n,g3⟩:=pt;cases rt with
    | cons r1 rt=>
     cases rt with
     | cons r2 rt=>
      cases rt;obtain⟨t,rfl⟩:=r1;obtain⟨u,rfl⟩:=r2;exact⟨p,ob,n,t,u,rfl,g1,g2,g3⟩
   ·obtain⟨p,hm,rfl⟩:=mem_map.mp hx;obtain⟨p',hm',rfl⟩:=mem_map.mp hy;have b1:=(hp p hm).2;have b2:=(hp p' hm').2;show k1 p*2535301200456458802993406410752+k2 p<k1 p'*2535301200456458802993406410752+k2 p'↔k1 p<k1 p'\/k1 p=k1 p'/\k2 p<k2 p';omega
  refine SRT.Ku (g:=rkP fun p=>k1 p*2535301200456458802993406410752+k2 p) pl.isList (fun A E s' kp=>⟨SRT.acA (hR.keep kp),fun Q hn q=>SRT.acp (fun v hv=>⟨_,((hR.keep kp).tk v hv).tp⟩) hn q⟩) (by rw[length_map];exact hl) fun ys hy ho=>?_
  ·obtain⟨qs,e,hq⟩:=Bv hy;rw[e,map_map] at ho;have ho2:qs.Pairwise (VP k1 k2):=by
    refine(pairwise_map.mp ho).imp_of_mem fun {p p'} hm hm' z=>?_;have b1:=(hp p (hq.mem_iff.mp hm)).2;have b2:=(hp p' (hq.mem_iff.mp hm')).2;replace z:k1 p*2535301200456458802993406410752+k2 p<=k1 p'*2535301200456458802993406410752+k2 p':=z;unfold VP;omega
   obtain⟨n,he⟩:=sortedAll_at s.heap (ps.map Value.ref) ys;have le:s.heap.objs.size<=s.heap.objs.size+1:=Nat.le_succ _;have hf:H (s.heap.objs.size+1)=none:=I.hok.fresh le;refine⟨.ref (s.heap.objs.size+1),_,I.laid (t':=s.toks) (fun c o z=>sortedAll_old z) le (show cO X.prog X.w _ _ _ (.lst (qs.map V.ref)) from⟨aP (by rw[length_map,hq.length_eq];omega),qs.map Value.ref,n,vH qs,?_⟩),rfl,q _ qs hf hq ho2⟩;rw[he];have:ys=(qs.map Value.ref).toArray:=by rw[<- e]
   rw[this]
end
theorem Sd {prog:Program}{w:World}{A:Around}{E:Value->Shared->Prop}{s:Shared}{d p:Addr}{kvs:List (Key×Value)}{k:Key}{u v:Value}{hd:Value->Sem (List Value)}{el:List Value->Sem Unit}{Q:Unit->Shared->Prop}(hp:IsTup s.heap p #[u,v])(hk:(cG prog w).is k u=true)(hd':s.heap.DictOf (cG prog w) d kvs)(hz:kvs.length<=sizeLine)
  (hQ:∀h',h'.DictOf (cG prog w) d (stored kvs k v)->Heap.SameBut d s.heap h'->Q () { s with heap:=h',toks:=s.toks+1 }) :
  wpAny (model prog w) A (holding [Value.ref p] (do
   let pair <- (Builtin.Dict.pairItems (Value.ref p)).tryCatch hd
   match pair with
    | [k,v]=>holding [k,v] (dictSet d k v)
    | l=>el l)) Q E s:=by
 obtain⟨o,ho,hc,n,hs⟩:=hp;refine wpAny_holding (wpAny_bind (wpAny_tryCatch ?_));unfold Builtin.Dict.pairItems;refine wpAny_bind (wpAny_typeOf (T := "tuple") ⟨_,ho,hc⟩ (wpAny_ite_true rfl ?_));refine wpAny_bind (wpAny_seqItems ho hs (wpAny_pure ?_));show wpAny _ _ (holding [u,v] (dictSet d u v)) _ _ _;exact wpAny_holding (wpAny_dictSet_pairs hk hd' hQ hz)
def HN (prog:Program)(w:World)(h:Heap)(rs:List (Key×Value))(ps:Array Value)(bad:List Addr):Prop:=
 ps.size=rs.length/\∀(j:Nat) kv,rs[j]?=some kv->∃p u,ps[j]?=some (.ref p)/\IsTup h p #[u,kv.2]/\(cG prog w).is kv.1 u=true/\p∉bad
theorem HN.keep {prog:Program}{w:World}{h h':Heap}{rs:List (Key×Value)}{ps:Array Value}{bad:List Addr}(P:HN prog w h rs ps bad)(k:∀c o,c∉bad->h.get? c=some o->h'.get? c=some o):HN prog w h' rs ps bad:=
 ⟨P.1,fun j kv e=>by
  obtain⟨p,u,e1,e2,e3,e4⟩:=P.2 j kv e;obtain⟨o,e5,e6⟩:=e2;exact⟨p,u,e1,⟨o,k p o e4 e5,e6⟩,e3,e4⟩⟩
theorem wV {prog:Program}{w:World}{A:Around}{R:Result->Shared->Prop}{it l d:Addr}{rs:List (Key×Value)}{ps:Array Value}(hh:A.handled=none)(dit:d≠it)(dl:d≠l)(lit:l≠it) :
  ∀(m i:Nat)(s:Shared)(kvs:List (Key×Value)),rs.length-i=m->i<=rs.length->s.heap.IsListIter it l i->s.heap.IsList l ps->HN prog w s.heap rs ps [it,d]->s.heap.DictOf (cG prog w) d kvs->kvs.length+m<=sizeLine ->
   (∀(h':Heap)(t':Nat),h'.DictOf (cG prog w) d (merged kvs (rs.drop i))->(∀c o,c≠it->c≠d->s.heap.get? c=some o->h'.get? c=some o)->R (.ok (.ret .none)) { s with heap:=h',toks:=t' }) ->
   codeAny (model prog w) A (Code.builtin "dict.update.loop" { pos:=[Value.ref d,Value.ref it,rawInt i,Value.none] }) R s
 | 0,i,s,kvs,hm,hi,hit,hls,P,hd,hl,hR=>by
  have hi':i=rs.length:=ω;subst hi';refine codeAny_builtin qH ?_;show wpAny _ _ (pyNext (Value.ref it) >>= _) _ _ _;refine wpAny_bind (wpAny_pyNext_list_end (A:=A.under _) hh hit hls (by rw[Array.getElem?_eq_none_iff];exact Nat.le_of_eq P.1) fun h' hk=>?_);show wpAny _ _ (Builtin.Dict.addKeywords d [] >>= _) _ _ _;refine wpAny_bind ?_;show wpAny _ _ (pure ()) _ _ _;refine wpAny_pure (wpAny_pure ?_);refine hR h' s.toks ?_ fun c o c1 _ e=>hk c o c1 e;rw[drop_length];obtain⟨o,es,ep,e,r⟩:=hd;exact⟨o,es,ep,hk d o dit e,r⟩
 | m+1,i,s,kvs,hm,hi,hit,hls,P,hd,hl,hR=>by
  have hlt:i<rs.length:=ω;have hrs:rs[i]?=some rs[i]:=getElem?_eq_getElem hlt;obtain⟨p,u,hx,hpr,hk,hbad⟩:=P.2 i _ hrs;refine codeAny_builtin qH ?_;show wpAny _ _ (pyNext (Value.ref it) >>= _) _ _ _;refine wpAny_bind (wpAny_pyNext_list_item hit hls hx fun h' hit' sb=>?_);have old:∀c o,c≠it->s.heap.get? c=some o->h'.get? c=some o:=fun c o c1 e=>(sb.2 c c1).trans e;have hd':h'.DictOf (cG prog w) d kvs:=by
   obtain⟨o,es,ep,e,r⟩:=hd;exact⟨o,es,ep,old d o dit e,r⟩
  have pit:p≠it:=fun z=>hbad (by rw[z];exact mem_cons_self);have hpr':IsTup h' p #[u,rs[i].2]:=by
   obtain⟨o,e5,e6⟩:=hpr;exact⟨o,old p o pit e5,e6⟩
  refine wpAny_bind (Sd (s:={ s with heap:=h' }) hpr' hk hd' ω fun h'' hd'' sb2=>?_);refine wpAny_pure ⟨Code.quiet_builtin _ ψ,?_⟩;show codeAny _ _ (Code.builtin "dict.update.loop" { pos:=[Value.ref d,Value.ref it,rawInt ((i:Int)+1),Value.none] }) _ _;rw[show((i:Int)+1)=((i+1:Nat):Int) by omega];have old2:∀c o,c≠it->c≠d->s.heap.get? c=some o->h''.get? c=some o:=fun c o c1 c2 e=>(sb2.2 c c2).trans (old c o c1 e);refine wV hh dit dl lit m (i+1) _ (stored kvs rs[i].1 rs[i].2) ω ω (hit'.at fun o e=>(sb2.2 it (Ne.symm dit)).trans e) ?_ (P.keep fun c o cb e=>old2 c o (fun z=>cb (by rw[z];exact mem_cons_self)) (fun z=>cb (by rw[z];exact mem_cons_of_mem _ mem_cons_self)) e) hd'' (by have:=Mt kvs rs[i].1 rs[i].2;omega) fun h3 t3 hd3 old3=>?_
  ·obtain⟨o,e,r⟩:=hls;exact⟨o,old2 l o lit (Ne.symm dl) e,r⟩
  ·refine hR h3 t3 ?_ fun c o c1 c2 e=>old3 c o c1 c2 (old2 c o c1 c2 e);rw[drop_eq_getElem_cons hlt];exact hd3
theorem GD:typeLookup (Value.type "list") (Str.ofString "keys")=pure none:=am_miss_of_fast (by rfl)
theorem yZ:typeLookup (Value.type "list") (Str.ofString "__getattr__")=pure none:=am_miss_of_fast (by rfl)
theorem vU (a:Addr) (vs:Array Value) (k:Nat) (u:Tok):Meets (Builtin.«object.__getattribute__» { pos:=[Value.ref a,Value.str (Str.ofString "keys") u] }) fun A R s=>
  s.heap.get? a=some { cls:=Value.type "list",data:=Data.seq vs k }/\raisesAttr (Value.ref a) (Str.ofString "keys") A R s:=by
 refine Meets.of_wp fun prog w A R s hs=>?_;obtain⟨hp,g,d,tk,os⟩:=s;obtain⟨hx,hr⟩:=hs;have hT:(⟨hp,g,d,tk,os⟩:Shared).TypeIs (Value.ref a) "list" := ⟨_,hx,rfl⟩;unfold Builtin.«object.__getattribute__» slotArgs;refine wpAny_bind (wpAny_ite_false rfl (wpAny_ite_false rfl (wpAny_pure ?_)));refine wpAny_bind ?_;show wpAny _ _ (pure (Str.ofString "keys")) _ _ _;refine wpAny_pure ?_;refine wpAny_bind (wpAny_typeOf hT ?_);refine wpAny_bind ?_;unfold Builtin.ObjectAttr.find;refine wpAny_bind (wpAny_of_eq GD ?_);refine wpAny_bind ?_;show wpAny _ _ (pure none) _ _ _;refine wpAny_pure (wpAny_bind ?_);show wpAny _ _ (pure none) _ _ _;refine wpAny_pure ?_;show wpAny _ _ (Builtin.ObjectAttr.ownThenClass (Value.ref a) (Str.ofString "keys") none none) _ _ _;unfold Builtin.ObjectAttr.ownThenClass;refine wpAny_bind ?_;unfold Builtin.ObjectAttr.inOwnDict;refine wpAny_bind ?_;unfold Builtin.ObjectAttr.ownDict;refine wpAny_bind (wpAny_loadPart' hx ?_);show wpAny _ _ (instanceDict a false) _ _ _;unfold instanceDict;refine wpAny_bind (wpAny_loadPart' hx (wpAny_ite_true rfl (wpAny_pure ?_)));show wpAny _ _ (pure none) _ _ _;refine wpAny_pure ?_;show wpAny _ _ (Builtin.ObjectAttr.copiedAttributeGuard (Str.ofString "keys") (Value.ref a) >>= _) _ _ _;refine wpAny_bind ?_;unfold Builtin.ObjectAttr.copiedAttributeGuard;refine wpAny_ite_false δ (wpAny_pure ?_);show wpAny _ _ (rule _ >>= _) _ _ _;refine wpAny_bind (wpAny_rule (wpAny_pure ?_));refine wpAny_ite_false rfl ?_;refine wpAny_ite_false rfl ?_;show wpAny _ _ (typeNameOfCut 100 (Value.ref a) >>= _) _ _ _;refine wpAny_bind ?_;show wpAny _ _ (shownTypeOf (Value.ref a) >>= _) _ _ _;refine wpAny_bind ?_;show wpAny _ _ (typeOf (Value.ref a) >>= _) _ _ _;refine wpAny_bind (wpAny_typeOf hT ?_);refine wpAny_ite_false rfl (wpAny_pure ?_);show wpAny _ _ (pure _) _ _ _;refine wpAny_pure ?_;exact wpAny_raiseAttrError hr.1 hr.2 (attrMsg_fits δ δ)
theorem Ax {prog:Program}{w:World}{A:Around}{E:Value->Shared->Prop}{s:Shared}{a:Addr}{vs:Array Value}{k:Nat}{Q:Option Value->Shared->Prop}(hh:A.handled=none) (hx:s.heap.get? a=some { cls:=Value.type "list",data:=Data.seq vs k })
  (h:∀(h':Heap)(tk:Nat),(∀c o,s.heap.get? c=some o->h'.get? c=some o)->Q none { s with heap:=h',toks:=tk }):wpAny (model prog w) A (getAttr? (Value.ref a) (Str.ofString "keys")) Q E s:=by
 obtain⟨hp,g,d,tk,os⟩:=s;have hT:∀tk,(⟨hp,g,d,tk,os⟩:Shared).TypeIs (Value.ref a) "list" := fun _=>⟨_,hx,rfl⟩;unfold getAttr? mkText;refine wpAny_bind (wpAny_bind (wpAny_fresh' (wpAny_pure ?_)));unfold getAttrBy?;refine wpAny_bind (wpAny_attempt ?_);unfold getAttrBy;refine wpAny_holding (wpAny_bind (wpAny_typeOf (hT _) ?_));refine wpAny_bind (wpAny_of_eq F.slot_list_getattribute.lookup ?_);show wpAny _ _ (ite _ _ _) _ _ _;refine wpAny_ite_false rfl ?_;unfold getAttrByItsOwn hookBefore;refine wpAny_bind (wpAny_ite_false rfl (wpAny_pure ?_));refine wpAny_bind (wpAny_attempt (wpAny_holding ?_));unfold callGetattribute;refine wpAny_ite_false rfl ?_;unfold boundAndCalled;refine wpAny_bind (wpAny_of_eq (F.slot_list_getattribute.bind (Value.ref a)) ?_);refine call_meets F.slot_list_getattribute (hT _) F.entry_list_ga (F.args_list_getattribute_2 _ _) (vU a vs k _) ⟨hx,hh,fun h' tk' e ne=>?_⟩;obtain⟨t,u,he⟩:=ne.there;have hTe:(⟨h',g,d,tk',os⟩:Shared).TypeIs (Value.ref e) "AttributeError" := ⟨_,he,rfl⟩;unfold getattributeRaised;refine wpAny_bind (wpAny_isInstance hTe sub_AttributeError (wpAny_ite_true rfl ?_));unfold hookBehind;refine wpAny_bind (wpAny_ite_false rfl (wpAny_of_eq yZ ?_));show wpAny _ _ (throw (Value.ref e) >>= _) _ _ _;refine wpAny_bind (wpAny_throw ?_);show wpAny _ _ (isInstance (Value.ref e) (Value.type "AttributeError") >>= _) _ _ _;refine wpAny_bind (wpAny_isInstance hTe sub_AttributeError (wpAny_ite_true rfl (wpAny_pure ?_)));exact h h' tk' fun c o e=>ne.keeps c o e
theorem Js {prog:Program}{w:World}(d l:Addr)(dl:d≠l) :
  MeetsIn prog w (Builtin.«dict.update» ⟨[.ref d,.ref l],[]⟩) (fun A R s=>A.handled=none/\∃kvs rs ps k,s.heap.DictOf (cG prog w) d kvs/\s.heap.get? l=some { cls:=.type "list",data:=.seq ps k }/\HN prog w s.heap rs ps [d]/\kvs.length+rs.length<=sizeLine /\
   ∀h' t',h'.DictOf (cG prog w) d (merged kvs rs)->(∀c o,c≠d->s.heap.get? c=some o->h'.get? c=some o)->R (.ok (.ret .none)) { s with heap:=h',toks:=t' }):=by
 rintro A R s ⟨hh,kvs,rs,ps,k,hd,hl,P,hz,h⟩;unfold Builtin.«dict.update» Builtin.Dict.selfAndRest;refine wpAny_bind (wpAny_bind (wpAny_notOrdered_dict hd.typeIs ?_));show wpAny _ _ (pure (d,[Value.ref l])) _ _ s;refine wpAny_pure ?_;show wpAny _ _ (Builtin.Dict.updateFrom "dict.update" d (.ref l) [] .none) _ _ s;unfold Builtin.Dict.updateFrom;refine wpAny_bind (wpAny_typeOf (T := "list") ⟨_,hl,rfl⟩ (wpAny_ite_true rfl ?_));refine wpAny_bind (Ax (A:=A.in1) hh hl fun h1 t1 kp=>?_);refine wpAny_ite_true rfl ?_;refine wpAny_bind (wpAny_rule ?_);have il:h1.IsList l ps:=⟨_,kp l _ hl,rfl,k,rfl⟩;refine wpAny_bind (wpAny_pyIter_list (s:={ s with heap:=h1,toks:=t1 }) il (wpAny_pure ⟨Code.quiet_builtin _ ψ,?_⟩));have up:∀c o,s.heap.get? c=some o->(h1.push { cls:=.type "list_iterator",data:=.fields #[.ref l,.int 0 0] }).get? c=some o:=fun c o e=>get?_push_of_some _ (kp c o e);have lt:∀{c:Addr}{o:Obj},s.heap.get? c=some o->c≠h1.objs.size:=fun {c o} e q=>by
  have:=lt_size (kp c o e);rw[q] at this;exact Nat.lt_irrefl _ this
 have gd:∃o,s.heap.get? d=some o:=by obtain⟨o,_,_,e,_⟩:=hd;exact⟨o,e⟩
 obtain⟨od,ed⟩:=gd;refine wV (A:=A) (it:=h1.objs.size) (l:=l) (d:=d) (rs:=rs) (ps:=ps) hh (lt ed) dl (lt hl) rs.length 0 _ kvs rfl (Nat.zero_le _) ⟨_,get?_push_size _ rfl,rfl,rfl⟩ ⟨_,up l _ hl,rfl,k,rfl⟩ ?_ ?_ hz fun h3 t3 d3 old3=>?_
 ·refine⟨P.1,fun j kv e=>?_⟩;obtain⟨p,u,e1,e2,e3,e4⟩:=P.2 j kv e;obtain⟨o5,e5,e6⟩:=e2;refine⟨p,u,e1,⟨o5,up p o5 e5,e6⟩,e3,fun q=>?_⟩;rcases mem_cons.mp q with q|q
  ·exact lt e5 q
  ·exact e4 q
 ·obtain⟨o,es,ep,e,r⟩:=hd;exact⟨o,es,ep,up d o e,r⟩
 ·rw[List.drop_zero] at d3;exact h h3 t3 d3 fun c o c1 e=>old3 c o (lt e) c1 (up c o e)
def putAll (kvs prs:List (Key×V)):List (Key×V):=prs.foldl (fun acc kv=>putK acc kv.1 kv.2) kvs
theorem KV.putAll:∀{prs:List (Key×V)}{rs:List (Key×Value)}{kvs:List (Key×V)}{vs:List (Key×Value)},KV kvs vs->KV prs rs->KV (putAll kvs prs) (merged vs rs)
 | [],_,_,_,r,h=>by cases h;exact r
 | kv::prs,_,kvs,vs,r,h=>by
  cases h with
  | cons e t=>
   rename_i kv' rs;obtain⟨k,v⟩:=kv;obtain⟨k',v'⟩:=kv';obtain⟨e1,e2⟩:=e;cases e1;exact KV.putAll (prs:=prs) (kvs:=putK kvs k v) (vs:=stored vs k v') (r.put k e2) t
theorem Bu:∀(prs kvs:List (Key×V)),(putAll kvs prs).length<=kvs.length+prs.length
 | [],kvs=>Nat.le_refl _
 | kv::prs,kvs=>by
  have h1:=Bu prs (putK kvs kv.1 kv.2);have h2:=GJ kvs kv.1 kv.2;show(putAll (putK kvs kv.1 kv.2) prs).length<=_;rw[length_cons];omega
theorem RN {prog:Program}{w:World}{H:Hp}{h:Heap}(hok:HOk prog w H h):∀(ads:List Addr)(prs:List (Key×V)),ads.length=prs.length->(∀(j:Nat) p kv,ads[j]?=some p->prs[j]?=some kv->H p=some (.tup [kV kv.1,kv.2])) ->
  ∃rs,KV prs rs/\rs.length=prs.length/\∀(j:Nat) kv,rs[j]?=some kv->∃p u xs,ads[j]?=some p/\IsTup h p #[u,kv.2]/\(cG prog w).is kv.1 u=true/\H p=some (.tup xs)
 | [],[],_,_=>⟨[],.nil,rfl,fun j kv e=>by simp at e⟩
 | p::ads,kv::prs,hl,hp=>by
  obtain⟨rs,k1,k2,k3⟩:=RN hok ads prs (by simpa using hl) fun j p kv e1 e2=>hp (j+1) p kv (by simpa using e1) (by simpa using e2);have e0:=hp 0 p kv rfl rfl;obtain⟨_,its,r,tp⟩:=hok p _ e0;cases r with
  | cons r1 t1=>
   cases t1 with
   | cons r2 t2=>
    cases t2;rename_i u v;refine⟨(kv.1,v)::rs,.cons ⟨rfl,r2⟩ k1,by simp [k2],fun j q e=>?_⟩;cases j with
    | zero=>
     simp only[getElem?_cons_zero,Option.some.injEq] at e;subst e;exact⟨p,u,_,rfl,tp,T9 r1,e0⟩
    | succ j=>
     rw[getElem?_cons_succ] at e;obtain⟨p',u',xs,e1,e2,e3,e4⟩:=k3 j q e;exact⟨p',u',xs,by simpa using e1,e2,e3,e4⟩
def Py (td ty:TE):TE:=fun σ H Q=>td σ H fun x H1=>∃a,x=.ref a/\IsD H1 a/\ty σ H1 fun y H2=>∃(l:Addr)(kvs prs:List (Key×V)) (ads:List Addr),y=.ref l/\H2 a=some (.dK kvs)/\H2 l=some (.lst (ads.map V.ref))/\ads.length=prs.length /\
 (∀(j:Nat) p kv,ads[j]?=some p->prs[j]?=some kv->H2 p=some (.tup [kV kv.1,kv.2]))/\kvs.length+prs.length<=sizeLine/\Q .non (upd H2 a (.dK (putAll kvs prs)))
theorem xP:∀{ads:List Addr}{its:List Value},Vals (ads.map V.ref) its->its=ads.map Value.ref
 | [],_,h=>by cases h;rfl
 | a::ads,_,h=>by
  cases h with
  | cons r t=>
   rw[xP t];cases (show _=Value.ref a from r);rfl
section
variable {X:Cx}{o e:Expr}{apos cpos:Pos}{td ty:TE}
theorem Xi (hc:X.calm=true) (ho:PE X o td) (he:PE X e ty) (m:M1 X o "update" apos e cpos):PE X (.Call (.Attribute o "update" apos) [e] [] cpos) (Py td ty):=by
 intro pins s σ H Q I h;refine wpAny_Call_method m.base m.few m.line PySem.F.plainAttrs_dict PySem.F.slot_dict_update PySem.F.type_dict_update (thn (ho pins s σ H _ I h) fun u s1 ⟨x,H1,I1,rx,a,ex,d,q1⟩=>?_);subst ex;obtain rfl:u=Value.ref a:=rx;obtain⟨t1,t2,_⟩:=Uh I1 d;refine⟨t1,t2,?_⟩;rw[m.trees];refine Calls.callWith_builtin rfl (Calls.evalArgs_plain (Calls.spliced_cons (thn (he pins s1 σ H1 _ I1 q1) fun iv s2 ⟨y,H2,I2,ry,l,kvs,prs,ads,ey,ea,el,hlen,hprs,hz,q2⟩=>Calls.spliced_nil ?_)));subst ey;obtain rfl:iv=Value.ref l:=ry;obtain⟨zz,hd,vs,rel,dd⟩:=acv I2.hok ea;obtain⟨zl,its,n,rv,gl⟩:=I2.hok l _ el;have eits:=xP rv;obtain⟨rs,k1,k2,k3⟩:=RN I2.hok ads prs hlen hprs;have al:a≠l:=fun z=>by rw[z,el] at ea;cases ea
 have hvl:vs.length=kvs.length:=rel.length.symm;refine call_meetsIn PySem.F.slot_dict_update dd.typeIs PySem.F.entry_dict_update (PySem.F.args_dict_update_2 _ _) (Js a l al) ⟨I2.ok.hd hc,vs,rs,its.toArray,n,dd,gl,⟨?_,fun j kv ej=>?_⟩,by rw[hvl,k2];exact hz,fun h' t' dd' old=>?_⟩
 ·rw[size_toArray,eits,length_map,hlen,k2]
 ·obtain⟨p,u,xs,e1,e2,e3,e4⟩:=k3 j kv ej;refine⟨p,u,?_,e2,e3,fun z=>?_⟩
  ·rw[getElem?_toArray,eits,getElem?_map,e1];rfl
  ·rw[mem_singleton.mp z,ea] at e4;cases e4
 ·have he':∃q,h'.get? a=some q:=let ⟨q,_,_,hq,_⟩:=dd';⟨q,hq⟩;exact⟨.non,_,I2.write (x:=a) (e:=a) (by rw[ea];exact True.intro) (.inl rfl) (fun b q hb z=>old b q hb z) he' (abA (Nat.le_trans (Bu prs kvs) hz) hd (KV.putAll rel k1) dd'),rfl,q2⟩
theorem WQ (hc:X.calm=true) (ho:QE X o td) (he:QE X e ty) (m:M1 X o "update" apos e cpos):QE X (.Call (.Attribute o "update" apos) [e] [] cpos) (Py td ty):=⟨Xi hc ho.h he.h m⟩
end
theorem abN {r j:Nat}(h:r.testBit j=false):r+2^j=r ||| 2^j:=by
 have hb:(r ||| 2^j).testBit j=true:=by rw[Nat.testBit_or,Nat.testBit_two_pow_self,Bool.or_true]
 have e:(r ||| 2^j)-2^j=r:=Nat.eq_of_testBit_eq fun k=>by
  rw[tQ hb,Nat.testBit_or,Nat.testBit_two_pow];by_cases c:j=k
  ·subst c;simp [h]
  ·simp [c,Ne.symm c]
 have:=Nat.ge_two_pow_of_testBit hb;omega
theorem Ew {r j:Nat}(h:r.testBit j=false)(k:Nat):(r+2^j).testBit k=(r.testBit k||decide (j=k)):=by
 rw[abN h,Nat.testBit_or,Nat.testBit_two_pow]
def bh (mask value t:Nat):Nat->List Nat
 | 0=>[value]
 | n+1=>if mask.testBit (t+1+n) then bh mask value t n else bh mask value t n++(bh mask value t n).map (· + 2^(t+1+n))
theorem eZ {mask value t:Nat}(hv:∀i,value.testBit i=true->mask.testBit i=true):∀{n s:Nat},s∈bh mask value t n ↔ ∀i,(i<=t\/t+1+n<=i\/mask.testBit i=true)->s.testBit i=value.testBit i
 | 0,s=>by
  unfold bh;rw[mem_singleton];constructor
  ·rintro rfl i _;rfl
  ·intro h;exact Nat.eq_of_testBit_eq fun i=>h i ω
 | n+1,s=>by
  unfold bh;split
  ·rename_i hm;rw[eZ hv];constructor
   ·intro h i hi;exact h i (hi.imp_right (Or.imp_left fun z=>ω))
   ·intro h i hi;by_cases c:i=t+1+n
    ·exact h i (.inr (.inr (by rw[c];exact hm)))
    ·exact h i (hi.imp_right (Or.imp_left fun z=>ω))
  ·rename_i hm;have v0:value.testBit (t+1+n)=false:=Bool.eq_false_iff.mpr fun z=>hm (hv _ z);rw[mem_append,mem_map];constructor
   ·rintro(h|⟨r,hr,rfl⟩) i hi
    ·exact(eZ hv).mp h i (hi.imp_right (Or.imp_left fun z=>ω))
    ·have hr':=(eZ hv).mp hr;have r0:r.testBit (t+1+n)=false:=by rw[hr' _ ω,v0]
     have ne:t+1+n≠i:=by
      rintro rfl;rcases hi with h|h|h
      ·omega
      ·omega
      ·exact hm h
     rw[Ew r0,decide_eq_false ne,Bool.or_false];exact hr' i (hi.imp_right (Or.imp_left fun z=>ω))
   ·intro h;cases hb:s.testBit (t+1+n) with
    | false=>
     refine .inl ((eZ hv).mpr fun i hi=>?_);by_cases c:i=t+1+n
     ·rw[c,hb,v0]
     ·exact h i (hi.imp_right (Or.imp_left fun z=>ω))
    | true=>
     have hge:=Nat.ge_two_pow_of_testBit hb;refine .inr ⟨s-2^(t+1+n),(eZ hv).mpr fun i hi=>?_,ω⟩;rw[tQ hb];by_cases c:i=t+1+n
     ·rw[c,v0];simp
     ·rw[decide_eq_false c];simpa using h i (hi.imp_right (Or.imp_left fun z=>ω))
theorem UW {W mask value t p:Nat}(hv:value &&& mask=value)(hm:mask<2^W)(ht:mask.testBit t=true)(hl:∀i,i<t->mask.testBit i=false)(hp:p<2^W) :
  p &&& mask=value ↔ ∃s∈bh mask value t (W-(t+1)),s<=p/\p<s+2^t:=by
 have vb:∀i,value.testBit i=true->mask.testBit i=true:=fun i h=>by
  rw[<- hv,Nat.testBit_and] at h;simp at h;exact h.2
 have tW:t<W:=by
  rcases Nat.lt_or_ge t W with c|c
  ·exact c
  ·rw[Nat.testBit_lt_two_pow (Nat.lt_of_lt_of_le hm (Nat.pow_le_pow_right δ c))] at ht;cases ht
 have vW:value<2^W:=by
  have:value<=mask:=by rw[<- hv];exact Nat.and_le_right
  omega
 have hi0:∀{y i:Nat},y<2^W->W<=i->y.testBit i=false:=fun hy h=>Nat.testBit_lt_two_pow (Nat.lt_of_lt_of_le hy (Nat.pow_le_pow_right δ h));constructor
 ·intro h;have hb:∀i,value.testBit i=(p.testBit i&&mask.testBit i):=fun i=>by rw[<- h,Nat.testBit_and]
  refine⟨2^t*(p/2^t),(eZ vb).mpr fun i hi=>?_,?_,?_⟩
  ·rw[Nat.testBit_two_pow_mul];by_cases c:i<t
   ·rw[decide_eq_false ω,Bool.false_and,hb,hl i c,Bool.and_false]
   ·rw[decide_eq_true ω,Bool.true_and,Nat.testBit_div_two_pow,Nat.sub_add_cancel ω,hb];by_cases c2:W<=i
    ·rw[hi0 hp c2];rfl
    ·have:mask.testBit i=true:=by
      rcases hi with a|a|a
      ·rw[show i=t by omega];exact ht
      ·omega
      ·exact a
     rw[this,Bool.and_true]
  ·exact Nat.mul_div_le p (2^t)
  ·have:=Nat.lt_mul_div_succ p (show 0<2^t from Nat.two_pow_pos t);rw[Nat.mul_add,Nat.mul_one] at this;exact this
 ·rintro⟨s,hs,h1,h2⟩;have hsb:=(eZ vb).mp hs;have slow:∀i,i<t->s.testBit i=false:=fun i hi=>by
   rw[hsb i ω];exact Bool.eq_false_iff.mpr fun z=>by
    have:=vb i z;rw[hl i hi] at this;cases this
  have sd:2^t*(s/2^t)=s:=Nat.eq_of_testBit_eq fun i=>by
   rw[Nat.testBit_two_pow_mul];by_cases c:i<t
   ·rw[decide_eq_false ω,Bool.false_and,slow i c]
   ·rw[decide_eq_true ω,Bool.true_and,Nat.testBit_div_two_pow,Nat.sub_add_cancel ω]
  have pd:p/2^t=s/2^t:=by
   refine Nat.div_eq_of_lt_le ?_ ?_
   ·rw[Nat.mul_comm,sd];exact h1
   ·rw[Nat.mul_comm,Nat.mul_add,sd,Nat.mul_one];exact h2
  refine Nat.eq_of_testBit_eq fun i=>?_;rw[Nat.testBit_and];cases hmi:mask.testBit i with
  | false=>
   rw[Bool.and_false];exact(Bool.eq_false_iff.mpr fun z=>by rw[vb i z] at hmi;cases hmi).symm
  | true=>
   rw[Bool.and_true,<- hsb i (.inr (.inr hmi))];have ti:t<=i:=by
    rcases Nat.lt_or_ge i t with c|c
    ·rw[hl i c] at hmi;cases hmi
    ·exact c
   have e:∀y:Nat,y.testBit i=(y/2^t).testBit (i-t):=fun y=>by rw[Nat.testBit_div_two_pow,Nat.sub_add_cancel ti]
   rw[e p,e s,pd]
def cov (xs:List (Int×Int))(n:Int):Prop:=∃s,s∈xs/\s.1<=n/\n<=s.2
theorem Lr {n:Int}:¬cov [] n:=fun⟨s,m,_⟩=>by cases m
theorem qW {xs ys:List (Int×Int)}{n:Int}:cov (xs++ys) n↔cov xs n\/cov ys n:=by
 constructor
 ·rintro⟨s,m,h⟩;rcases mem_append.mp m with m|m
  ·exact .inl ⟨s,m,h⟩
  ·exact .inr ⟨s,m,h⟩
 ·rintro(⟨s,m,h⟩|⟨s,m,h⟩)
  ·exact⟨s,mem_append_left _ m,h⟩
  ·exact⟨s,mem_append_right _ m,h⟩
theorem qU {s:Int×Int}{n:Int}:cov [s] n↔s.1<=n/\n<=s.2:=by
 constructor
 ·rintro⟨t,m,h⟩;rw[mem_singleton.mp m] at h;exact h
 ·exact fun h=>⟨s,mem_singleton.mpr rfl,h⟩
theorem Vc {xs ys:List (Int×Int)}(h:xs.Perm ys){n:Int}:cov xs n↔cov ys n:=
 ⟨fun⟨s,m,q⟩=>⟨s,h.mem_iff.mp m,q⟩,fun⟨s,m,q⟩=>⟨s,h.mem_iff.mpr m,q⟩⟩
structure Gap (xs:List (Int×Int)):Prop where
 ne:∀s,s∈xs->s.1<=s.2
 up:xs.Pairwise fun a b=>a.2+1<b.1
theorem Gap.nil:Gap []:=⟨fun s m=>(by cases m),.nil⟩
theorem CN {α:Type}{zs:List α}{i:Nat}{z:α}(h:zs[i]?=some z):zs.take (i+1)=zs.take i++[z]:=by
 rw[take_add_one,h];rfl
theorem oh {α:Type}{zs:List α}{i:Nat}{z:α}(h:zs[i]?=some z):zs.drop i=z::zs.drop (i+1):=by
 obtain⟨hi,e⟩:=List.getElem?_eq_some_iff.mp h;rw[drop_eq_getElem_cons hi,e]
def nOf (W:Nat)(sg:Int)(p:Nat):Int:=if sg≠0/\2^(W-1)<=p then (p:Int)-2^W else p
def mH (W:Nat)(sg:Int):Int:=if sg=0 then 0 else -2^(W-1)
theorem Hs {t W s:Nat}(ht:t<W)(hd:2^t*(s/2^t)=s):(s<2^(W-1)->s+2^t<=2^(W-1))/\(s<2^W->s+2^t<=2^W):=by
 have key:∀u,t<=u->s<2^u->s+2^t<=2^u:=fun u hu h=>by
  have e:2^u=2^t*2^(u-t):=by rw[<- Nat.pow_add];congr 1;omega
  rw[e,<- hd] at h;have hc:s/2^t<2^(u-t):=Nat.lt_of_mul_lt_mul_left h;have:=Nat.mul_le_mul_left (2^t) hc;rw[Nat.mul_succ,hd] at this;rw[e];exact this
 exact⟨key _ ω,key _ ω⟩
theorem aa4 {W:Nat}{sg n:Int}(hW:1<=W)(h1:mH W sg<=n)(h2:n<mH W sg+2^W):(0<=n/\n%2^W=n)\/(n<0/\n%2^W=n+2^W/\sg≠0/\2^(W-1)<=n+2^W):=by
 have e:(2:Int)^W=2*2^(W-1):=by
  obtain⟨V,rfl⟩:∃V,W=V+1:=⟨W-1,ω⟩;rw[Nat.add_sub_cancel,Int.pow_succ,Int.mul_comm]
 have hp:(0:Int)<2^(W-1):=Int.pow_pos δ;unfold mH at h1 h2;by_cases c:0<=n
 ·left;refine⟨c,Int.emod_eq_of_lt c ?_⟩;split at h2 <;> omega
 ·right;have hs:sg≠0:=by
   rintro rfl;rw[if_pos rfl] at h1;omega
  rw[if_neg hs] at h1 h2;refine⟨ω,?_,hs,ω⟩;rw[<- Int.add_emod_right n ((2:Int)^W)];exact Int.emod_eq_of_lt ω ω
theorem Hr {W t s:Nat}{sg n:Int}(hW:1<=W)(ht:t<W)(hs:s<2^W)(hd:2^t*(s/2^t)=s)(h1:mH W sg<=n)(h2:n<mH W sg+2^W) :
  (nOf W sg s<=n/\n<=nOf W sg s+2^t-1)↔(s<=(n%2^W).toNat/\(n%2^W).toNat<s+2^t):=by
 obtain⟨k1,k2⟩:=Hs ht hd;replace k2:=k2 hs;have eN:2^W=2*2^(W-1):=by
  obtain⟨V,rfl⟩:∃V,W=V+1:=⟨W-1,ω⟩;rw[Nat.add_sub_cancel,Nat.pow_succ,Nat.mul_comm]
 have c1:((2^W:Nat):Int)=2^W:=by rw[Int.natCast_pow];rfl
 have c2:((2^(W-1):Nat):Int)=2^(W-1):=by rw[Int.natCast_pow];rfl
 have c3:((2^t:Nat):Int)=2^t:=by rw[Int.natCast_pow];rfl
 have hm:=aa4 hW h1 h2;have hl:mH W sg=if sg=0 then 0 else -((2^(W-1):Nat):Int):=by rw[c2];rfl
 rw[hl,<- c1] at h2;rw[hl] at h1;unfold nOf;rw[<- c1,<- c2] at hm;rw[<- c1,<- c3];clear hl;generalize (n%((2^W:Nat):Int))=p at *;generalize 2^(W-1)=H at *;clear c1 c2 c3 hd;generalize (2:Nat)^W=D at *;generalize 2^t=T at *;by_cases g:sg=0
 ·subst g;rw[if_pos rfl] at h1 h2;rw[if_neg (by simp)];omega
 ·rw[if_neg g] at h1 h2;by_cases c:H<=s
  ·rw[if_pos ⟨g,c⟩];omega
  ·rw[if_neg (fun z=>c z.2)];have:=k1 ω;omega
def Ly (W:Nat)(sg:Int)(m v t:Nat):List (Int×Int):=(bh m v t (W-(t+1))).map fun s=>(nOf W sg s,nOf W sg s+2^t-1)
theorem nj {W m v t:Nat}{sg n:Int}(hW:1<=W)(hv:v &&& m=v)(hm:m<2^W)(ht:m.testBit t=true)(hl:∀i,i<t->m.testBit i=false)(h1:mH W sg<=n)(h2:n<mH W sg+2^W) :
  cov (Ly W sg m v t) n↔(n%2^W).toNat &&& m=v:=by
 have tW:t<W:=by
  rcases Nat.lt_or_ge t W with c|c
  ·exact c
  ·rw[Nat.testBit_lt_two_pow (Nat.lt_of_lt_of_le hm (Nat.pow_le_pow_right δ c))] at ht;cases ht
 have hp:(n%2^W).toNat<2^W:=by
  have a:=Int.emod_lt_of_pos n (show(0:Int)<2^W from Int.pow_pos δ);have b:=Int.emod_nonneg n (show(2:Int)^W≠0 from Int.ne_of_gt (Int.pow_pos δ));have c1:((2^W:Nat):Int)=2^W:=by rw[Int.natCast_pow];rfl
  omega
 have vb:∀i,v.testBit i=true->m.testBit i=true:=fun i h=>by
  rw[<- hv,Nat.testBit_and] at h;simp at h;exact h.2
 have vW:v<2^W:=by
  have:v<=m:=by rw[<- hv];exact Nat.and_le_right
  omega
 have fact:∀s∈bh m v t (W-(t+1)),s<2^W/\2^t*(s/2^t)=s:=fun s hs=>by
  have hsb:=(eZ vb).mp hs;have slow:∀i,i<t->s.testBit i=false:=fun i hi=>by
   rw[hsb i ω];exact Bool.eq_false_iff.mpr fun z=>by
    have:=vb i z;rw[hl i hi] at this;cases this
  refine⟨Nat.lt_pow_two_of_testBit s fun i hi=>?_,Nat.eq_of_testBit_eq fun i=>?_⟩
  ·rw[hsb i ω];exact Nat.testBit_lt_two_pow (Nat.lt_of_lt_of_le vW (Nat.pow_le_pow_right δ hi))
  ·rw[Nat.testBit_two_pow_mul];by_cases c:i<t
   ·rw[decide_eq_false ω,Bool.false_and,slow i c]
   ·rw[decide_eq_true ω,Bool.true_and,Nat.testBit_div_two_pow,Nat.sub_add_cancel ω]
 rw[UW hv hm ht hl hp];constructor
 ·rintro⟨x,mx,a,b⟩;obtain⟨s,ms,rfl⟩:=mem_map.mp mx;exact⟨s,ms,(Hr hW tW (fact s ms).1 (fact s ms).2 h1 h2).mp ⟨a,b⟩⟩
 ·rintro⟨s,ms,h⟩;obtain⟨a,b⟩:=(Hr hW tW (fact s ms).1 (fact s ms).2 h1 h2).mpr h;exact⟨_,mem_map.mpr ⟨s,ms,rfl⟩,a,b⟩
structure JW (zs told:List (Int×Int))(i:Nat):Prop where
 gap:Gap told
 cv:∀n,cov told n↔cov (zs.take i) n
 be:∀t,t∈told->∀z,z∈zs.drop i->t.1<=z.1
 fs:∀t,t∈told->∃z,z∈zs/\z.1=t.1
 ln:told.length<=i
theorem JW.start (zs:List (Int×Int)):JW zs [] 0:=⟨.nil,fun n=>Iff.rfl,fun t m=>(by cases m),fun t m=>(by cases m),Nat.le_refl _⟩
theorem JW.fresh {zs told:List (Int×Int)}{i:Nat}{z:Int×Int}(h:JW zs told i)(hz:zs[i]?=some z)(hn:∀s,s∈zs->s.1<=s.2)(hu:zs.Pairwise fun a b=>a.1<=b.1)
  (hl:∀t,told.getLast?=some t->¬z.1<=t.2+1):JW zs (told++[z]) (i+1):=by
 have mz:z∈zs:=mem_of_getElem? hz;have e:=oh hz;have hu2:(zs.drop i).Pairwise fun a b=>a.1<=b.1:=hu.sublist (drop_sublist _ _);rw[e] at hu2;have hu3:=pairwise_cons.mp hu2;refine⟨⟨fun s m=>?_,pairwise_append.mpr ⟨h.gap.up,pairwise_singleton _ _,fun a ma b mb=>?_⟩⟩,fun n=>?_,fun t m z' mz'=>?_,fun t m=>?_,by rw[length_append,length_singleton];have:=h.ln;omega⟩
 ·rcases mem_append.mp m with m|m
  ·exact h.gap.ne s m
  ·rw[mem_singleton.mp m];exact hn z mz
 ·rw[mem_singleton.mp mb];rcases eq_nil_or_concat told with e0|⟨pre,t,e0⟩
  ·rw[e0] at ma;cases ma
  ·subst e0;have h1:=hl t (by simp);have ma:a∈pre++[t]:=by simpa using ma
   have hup:(pre++[t]).Pairwise fun a b=>a.2+1<b.1:=by simpa using h.gap.up
   rcases mem_append.mp ma with m|m
   ·have:=(pairwise_append.mp hup).2.2 a m t (by simp);have:=h.gap.ne t (by simp);omega
   ·rw[mem_singleton.mp m];omega
 ·rw[qW,CN hz,qW,h.cv]
 ·rcases mem_append.mp m with m|m
  ·exact h.be t m z' (by rw[e];exact mem_cons_of_mem _ mz')
  ·rw[mem_singleton.mp m];exact hu3.1 z' mz'
 ·rcases mem_append.mp m with m|m
  ·exact h.fs t m
  ·exact⟨z,mz,by rw[mem_singleton.mp m]⟩
theorem JW.grown {zs pre:List (Int×Int)}{t:Int×Int}{i:Nat}{z:Int×Int}(h:JW zs (pre++[t]) i)(hz:zs[i]?=some z)(hn:∀s,s∈zs->s.1<=s.2)(hu:zs.Pairwise fun a b=>a.1<=b.1)
  (hl:z.1<=t.2+1):JW zs (pre++[(t.1,max z.2 t.2)]) (i+1):=by
 have mz:z∈zs:=mem_of_getElem? hz;have e:=oh hz;have hu2:(zs.drop i).Pairwise fun a b=>a.1<=b.1:=hu.sublist (drop_sublist _ _);rw[e] at hu2;have hu3:=pairwise_cons.mp hu2;have hg:=pairwise_append.mp h.gap.up;have nt:=h.gap.ne t (by simp);have nz:=hn z mz;have tz:=h.be t (by simp) z (by rw[e];exact mem_cons_self ..);refine⟨⟨fun s m=>?_,pairwise_append.mpr ⟨hg.1,pairwise_singleton _ _,fun a ma b mb=>?_⟩⟩,fun n=>?_,fun s m z' mz'=>?_,fun s m=>?_,by have:=h.ln;simp only[length_append,length_singleton] at this |-;omega⟩
 ·rcases mem_append.mp m with m|m
  ·exact h.gap.ne s (mem_append_left _ m)
  ·rw[mem_singleton.mp m];show t.1<=max z.2 t.2;omega
 ·rw[mem_singleton.mp mb];exact hg.2.2 a ma t (by simp)
 ·rw[CN hz,qW,qW,<- h.cv,qW,qU,qU,qU];show(cov pre n\/t.1<=n/\n<=max z.2 t.2)↔_;constructor
  ·rintro(q|⟨q1,q2⟩)
   ·exact .inl (.inl q)
   ·by_cases c:n<=t.2
    ·exact .inl (.inr ⟨q1,c⟩)
    ·exact .inr ⟨ω,ω⟩
  ·rintro((q|⟨q1,q2⟩)|⟨q1,q2⟩)
   ·exact .inl q
   ·exact .inr ⟨q1,ω⟩
   ·exact .inr ⟨ω,ω⟩
 ·rcases mem_append.mp m with m|m
  ·exact h.be s (mem_append_left _ m) z' (by rw[e];exact mem_cons_of_mem _ mz')
  ·rw[mem_singleton.mp m];have:=hu3.1 z' mz';have:=h.be t (by simp) z' (by rw[e];exact mem_cons_of_mem _ mz');show t.1<=z'.1;omega
 ·rcases mem_append.mp m with m|m
  ·exact h.fs s (mem_append_left _ m)
  ·rw[mem_singleton.mp m];exact h.fs t (by simp)
def cM:Option Int->List (Int×Int)->Option Int
 | _,[]=>none
 | ah,z::zs=>if (∃a,ah=some a/\z.1<=a) then some z.1 else cM (some z.2) zs
def xU (zs:List (Int×Int))(n:Int):Prop:=∃(i j:Nat)(a b:Int×Int),i<j/\zs[i]?=some a/\zs[j]?=some b/\a.1<=n/\n<=a.2/\b.1<=n/\n<=b.2
theorem uP:∀{zs:List (Int×Int)}{ah:Option Int},(∀s,s∈zs->s.1<=s.2)->cM ah zs=none->(∀a,ah=some a->∀z,z∈zs->a<z.1)/\zs.Pairwise fun a b=>a.2<b.1
 | [],ah,_,_=>⟨fun a _ z m=>(by cases m),.nil⟩
 | z::zs,ah,hn,h=>by
  unfold cM at h;split at h
  ·cases h
  ·rename_i c;obtain⟨h1,h2⟩:=uP (fun s m=>hn s (mem_cons_of_mem _ m)) h;have h3:=h1 z.2 rfl;refine⟨fun a e y m=>?_,pairwise_cons.mpr ⟨h3,h2⟩⟩;have hz:a<z.1:=by
    rcases Int.lt_or_le a z.1 with q|q
    ·exact q
    ·exact absurd ⟨a,e,q⟩ c
   rcases mem_cons.mp m with rfl|m
   ·exact hz
   ·have:=h3 y m;have:=hn z (mem_cons_self ..);omega
theorem rK:∀{zs:List (Int×Int)}{y:Int×Int}{m:Int},(∀s,s∈y::zs->s.1<=s.2)->(y::zs).Pairwise (fun a b=>a.1<=b.1)->cM (some y.2) zs=some m->xU (y::zs) m/\∀n,xU (y::zs) n->m<=n
 | [],y,m,_,_,h=>by
  unfold cM at h;cases h
 | z::zs,y,m,hn,hu,h=>by
  have hu1:=pairwise_cons.mp hu;have hu2:=pairwise_cons.mp hu1.2;have yz:=hu1.1 z (mem_cons_self ..);have nz:=hn z (by simp);have first:∀{j:Nat}{b:Int×Int},(z::zs)[j]?=some b->z.1<=b.1:=fun {j b} hj=>by
   rcases mem_cons.mp (mem_of_getElem? hj) with e|e
   ·rw[e];exact Int.le_refl _
   ·exact hu2.1 b e
  unfold cM at h;split at h
  ·rename_i c;cases h;obtain⟨a,ea,ha⟩:=c;cases ea;refine⟨⟨0,1,y,z,ω,rfl,rfl,yz,ha,Int.le_refl _,nz⟩,?_⟩;rintro n ⟨i,j,a,b,hij,hi,hj,_,_,b1,_⟩;obtain⟨j,rfl⟩:∃k,j=k+1:=⟨j-1,ω⟩;rw[getElem?_cons_succ] at hj;have:=first hj
   omega
  ·rename_i c;have hlt:y.2<z.1:=by
    rcases Int.lt_or_le y.2 z.1 with q|q
    ·exact q
    ·exact absurd ⟨y.2,rfl,q⟩ c
   obtain⟨⟨i,j,a,b,hij,hi,hj,q⟩,h2⟩:=rK (fun s ms=>hn s (mem_cons_of_mem _ ms)) hu1.2 h;refine⟨⟨i+1,j+1,a,b,ω,by rw[getElem?_cons_succ];exact hi,by rw[getElem?_cons_succ];exact hj,q⟩,?_⟩;rintro n ⟨i,j,a,b,hij,hi,hj,a1,a2,b1,b2⟩;obtain⟨j,rfl⟩:∃k,j=k+1:=⟨j-1,ω⟩;rw[getElem?_cons_succ] at hj;cases i with
   | zero=>
    rw[getElem?_cons_zero] at hi;cases hi;have:=first hj
    omega
   | succ i=>
    rw[getElem?_cons_succ] at hi;exact h2 n ⟨i,j,a,b,ω,hi,hj,a1,a2,b1,b2⟩
theorem DY {zs:List (Int×Int)}{m:Int}(hn:∀s,s∈zs->s.1<=s.2)(hu:zs.Pairwise fun a b=>a.1<=b.1)(h:cM none zs=some m):xU zs m/\∀n,xU zs n->m<=n:=by
 cases zs with
 | nil=>unfold cM at h;cases h
 | cons y zs=>
  unfold cM at h;rw[if_neg (by rintro⟨a,e,_⟩;cases e)] at h;exact rK hn hu h
theorem Jz {zs:List (Int×Int)}(hn:∀s,s∈zs->s.1<=s.2)(h:cM none zs=none)(n:Int):¬xU zs n:=by
 rintro⟨i,j,a,b,hij,hi,hj,a1,a2,b1,b2⟩;obtain⟨li,ei⟩:=List.getElem?_eq_some_iff.mp hi;obtain⟨lj,ej⟩:=List.getElem?_eq_some_iff.mp hj;have:=pairwise_iff_getElem.mp (uP hn h).2 i j li lj hij;rw[ei,ej] at this;omega
def Az (n:Int)(s:Int×Int):Bool:=decide (s.1<=n)&&decide (n<=s.2)
theorem jB {n:Int}{s:Int×Int}:Az n s=true↔s.1<=n/\n<=s.2:=by
 unfold Az;simp
theorem aaS {α:Type}{p:α->Bool}:∀{l:List α},1<=(l.filter p).length ↔ ∃(j:Nat)(b:α),l[j]?=some b/\p b=true:=by
 intro l;constructor
 ·intro h;obtain⟨b,hb⟩:=List.exists_mem_of_length_pos (show 0<(l.filter p).length by omega);obtain⟨m,pb⟩:=mem_filter.mp hb;obtain⟨j,hj⟩:=List.getElem?_of_mem m;exact⟨j,b,hj,pb⟩
 ·rintro⟨j,b,hj,pb⟩;exact List.length_pos_of_mem (mem_filter.mpr ⟨mem_of_getElem? hj,pb⟩)
theorem Ia {α:Type}{p:α->Bool}:∀{l:List α},2<=(l.filter p).length ↔ ∃(i j:Nat)(a b:α),i<j/\l[i]?=some a/\l[j]?=some b/\p a=true/\p b=true
 | []=>by
  constructor
  ·intro h;simp at h
  ·rintro⟨i,j,a,b,_,h,_⟩;simp at h
 | x::l=>by
  have ih:=Ia (p:=p) (l:=l);have ih1:=aaS (p:=p) (l:=l);rw[filter_cons];constructor
  ·intro h;split at h
   ·rename_i px;rw[length_cons] at h;obtain⟨j,b,hj,pb⟩:=ih1.mp ω;exact⟨0,j+1,x,b,ω,rfl,by rw[getElem?_cons_succ];exact hj,px,pb⟩
   ·obtain⟨i,j,a,b,hij,hi,hj,q⟩:=ih.mp h;exact⟨i+1,j+1,a,b,ω,by rw[getElem?_cons_succ];exact hi,by rw[getElem?_cons_succ];exact hj,q⟩
  ·rintro⟨i,j,a,b,hij,hi,hj,pa,pb⟩;obtain⟨j,rfl⟩:∃k,j=k+1:=⟨j-1,ω⟩;rw[getElem?_cons_succ] at hj;cases i with
   | zero=>
    rw[getElem?_cons_zero] at hi;cases hi;rw[if_pos pa,length_cons];have:=ih1.mpr ⟨j,b,hj,pb⟩;omega
   | succ i=>
    rw[getElem?_cons_succ] at hi;have:=ih.mpr ⟨i,j,a,b,ω,hi,hj,pa,pb⟩;split
    ·rw[length_cons];omega
    ·exact this
theorem Ma {zs:List (Int×Int)}{n:Int}:xU zs n↔2<=(zs.filter (Az n)).length:=by
 rw[Ia];constructor
 ·rintro⟨i,j,a,b,hij,hi,hj,a1,a2,b1,b2⟩;exact⟨i,j,a,b,hij,hi,hj,jB.mpr ⟨a1,a2⟩,jB.mpr ⟨b1,b2⟩⟩
 ·rintro⟨i,j,a,b,hij,hi,hj,pa,pb⟩;obtain⟨a1,a2⟩:=jB.mp pa;obtain⟨b1,b2⟩:=jB.mp pb;exact⟨i,j,a,b,hij,hi,hj,a1,a2,b1,b2⟩
def G5 (n:Int)(c:List (Int×Int)):Bool:=c.any (Az n)
theorem Vd {n:Int}{c:List (Int×Int)}:G5 n c=true↔cov c n:=by
 unfold G5;rw[any_eq_true];constructor
 ·rintro⟨s,m,h⟩;exact⟨s,m,jB.mp h⟩
 ·rintro⟨s,m,h⟩;exact⟨s,m,jB.mpr h⟩
theorem Gap.count {c:List (Int×Int)}(h:Gap c)(n:Int):(c.filter (Az n)).length=if G5 n c then 1 else 0:=by
 have le1:(c.filter (Az n)).length<=1:=by
  rcases Nat.lt_or_ge 1 (c.filter (Az n)).length with q|q
  ·exfalso;obtain⟨i,j,a,b,hij,hi,hj,pa,pb⟩:=Ia.mp (show 2<=(c.filter (Az n)).length by omega);obtain⟨li,ei⟩:=List.getElem?_eq_some_iff.mp hi;obtain⟨lj,ej⟩:=List.getElem?_eq_some_iff.mp hj;have:=pairwise_iff_getElem.mp h.up i j li lj hij;rw[ei,ej] at this;have:=jB.mp pa;have:=jB.mp pb;omega
  ·exact q
 split
 ·rename_i hc;unfold G5 at hc;obtain⟨s,m,hs⟩:=any_eq_true.mp hc;have:=List.length_pos_of_mem (mem_filter.mpr ⟨m,hs⟩);omega
 ·rename_i hc;have:c.filter (Az n)=[]:=filter_eq_nil_iff.mpr fun s m hs=>hc (any_eq_true.mpr ⟨s,m,hs⟩);rw[this];rfl
theorem zR {n:Int}:∀{cs:List (List (Int×Int))},(∀c,c∈cs->Gap c)->(cs.flatten.filter (Az n)).length=(cs.filter (G5 n)).length
 | [],_=>rfl
 | c::cs,h=>by
  rw[flatten_cons,filter_append,length_append,zR fun d m=>h d (mem_cons_of_mem _ m),(h c (mem_cons_self ..)).count,filter_cons];split
  ·rw[length_cons];omega
  ·omega
theorem qd {cs:List (List (Int×Int))}{zs:List (Int×Int)}(hg:∀c,c∈cs->Gap c)(hp:zs.Perm cs.flatten)(n:Int):xU zs n↔2<=(cs.filter (G5 n)).length:=by
 rw[Ma,(hp.filter _).length_eq,zR hg]
theorem Jy {p:Nat->Bool}:∀n,p n=true->∃t,p t=true/\∀i,i<t->p i=false:=by
 intro n
 induction n using Nat.strongRecOn with
 | ind n ih=>
  intro h;by_cases c:∃i,i<n/\p i=true
  ·obtain⟨i,hi,pi⟩:=c;exact ih i hi pi
  ·exact⟨n,h,fun i hi=>Bool.eq_false_iff.mpr fun z=>c ⟨i,hi,z⟩⟩
theorem DW {m:Nat}(h:m≠0):∃t,m.testBit t=true/\∀i,i<t->m.testBit i=false:=by
 obtain⟨n,hn⟩:∃n,m.testBit n=true:=by
  by_cases c:∃n,m.testBit n=true
  ·exact c
  ·exfalso;refine h (Nat.eq_of_testBit_eq fun i=>?_);rw[Nat.zero_testBit];exact Bool.eq_false_iff.mpr fun z=>c ⟨i,z⟩
 exact Jy n hn
def abJ (W:Nat)(sg:Int)(n:Int):It1->Prop
 | .one a=>n=a
 | .rng a _=>n=a
 | .bits m v=>v &&& m=v/\∃t s,m.testBit t=true/\(∀i,i<t->m.testBit i=false)/\s∈bh m v t (W-(t+1))/\n=nOf W sg s
def ZF (W:Nat):It1->Prop
 | .bits m _=>m<2^W
 | _=>True
theorem begins {W:Nat}{sg n:Int}{it:It1}(hW:1<=W)(hm:ZF W it)(h1:mH W sg<n)(h2:n<mH W sg+2^W)(h:aN W n it=true)(h':aN W (n-1) it=false):abJ W sg n it:=by
 cases it with
 | one a=>
  show n=a;simpa [aN] using h
 | rng a b=>
  simp [aN] at h h';show n=a;omega
 | bits m v=>
  have e:aN W n (.bits m v)=decide ((n%2^W).toNat &&& m=v):=by simp [aN]
  have e':aN W (n-1) (.bits m v)=decide (((n-1)%2^W).toNat &&& m=v):=by simp [aN]
  rw[e,decide_eq_true_iff] at h;rw[e',decide_eq_false_iff_not] at h';have hv:v &&& m=v:=by rw[<- h,Nat.and_assoc,Nat.and_self]
  have m0:m≠0:=by
   rintro rfl;rw[Nat.and_zero] at h h';exact h' h
  obtain⟨t,ht,hl⟩:=DW m0;obtain⟨x,mx,x1,x2⟩:=(nj hW hv hm ht hl ω h2).mpr h;obtain⟨s,ms,rfl⟩:=mem_map.mp mx;refine⟨hv,t,s,ht,hl,ms,?_⟩;replace x1:nOf W sg s<=n:=x1;replace x2:n<=nOf W sg s+2^t-1:=x2;rcases Int.lt_or_le (nOf W sg s) n with c|c
  ·exfalso;refine h' ((nj hW hv hm ht hl ω ω).mp ⟨_,mx,?_,?_⟩)
   ·show nOf W sg s<=n-1;omega
   ·show n-1<=nOf W sg s+2^t-1;omega
  ·omega
def jD (W:Int)(css:List (List It1))(n:Int):Nat:=(css.filter fun its=>its.any (aN W n)).length
theorem filter_mono {α:Type}{p q:α->Bool}:∀{l:List α},(∀x,x∈l->p x=true->q x=true)->(l.filter p).length<=(l.filter q).length
 | [],_=>Nat.le_refl _
 | x::l,h=>by
  have ih:=filter_mono (l:=l) fun y m=>h y (mem_cons_of_mem _ m);rw[filter_cons,filter_cons];by_cases c:p x=true
  ·rw[if_pos c,if_pos (h x (mem_cons_self ..) c),length_cons,length_cons];omega
  ·rw[if_neg c];split
   ·rw[length_cons];omega
   ·exact ih
theorem DX {W:Nat}{sg n:Int}{css:List (List It1)}{B:Int->Prop}(hW:1<=W)(hm:∀its,its∈css->∀it,it∈its->ZF W it)(hlo:B (mH W sg))(hB:∀its,its∈css->∀it,it∈its->∀n,abJ W sg n it->B n)
  (h1:mH W sg<=n) (h2:n<mH W sg+2^W) (h:2<=jD W css n) (hleast:∀k,mH W sg<=k->k<n->¬2<=jD W css k):B n:=by
 rcases Int.lt_or_le (mH W sg) n with c|c
 ·have hk:=hleast (n-1) ω ω;by_cases q:∃its,its∈css/\its.any (aN W n)=true/\its.any (aN W (n-1))=false
  ·obtain⟨its,m,a1,a2⟩:=q;obtain⟨it,mi,pi⟩:=any_eq_true.mp a1;have p2:aN W (n-1) it=false:=Bool.eq_false_iff.mpr fun z=>by
    rw[any_eq_true.mpr ⟨it,mi,z⟩] at a2;cases a2
   exact hB its m it mi n (begins hW (hm its m it mi) c h2 pi p2)
  ·exfalso;refine hk (Nat.le_trans h (filter_mono fun its m a=>?_));cases z:its.any (aN W (n-1)) with
   | true=>rfl
   | false=>exact absurd ⟨its,m,a,z⟩ q
 ·rw[show n=mH W sg by omega];exact hlo
def j7 (fs:List Nat)(j:Nat):Nat:=((fs.zipIdx.filter fun x=>j.testBit x.2).map fun x=>2^x.1).sum
theorem qM (fs:List Nat)(p j:Nat):j7 (fs++[p]) j=j7 fs j+if j.testBit fs.length then 2^p else 0:=by
 unfold j7;rw[List.zipIdx_append,filter_append,map_append,sum_append];congr 1;simp only[zipIdx_cons,List.zipIdx_nil,filter_cons,filter_nil,Nat.zero_add];split <;> simp
theorem Fv {fs:List Nat}{j k:Nat}(h:∀i,i<fs.length->j.testBit i=k.testBit i):j7 fs j=j7 fs k:=by
 unfold j7;congr 2;refine filter_congr fun x hx=>?_;obtain⟨_,h2,_⟩:=List.mem_zipIdx hx;exact h x.2 ω
def dH (m t n:Nat):List Nat:=(List.range' (t+1) n).filter fun k=>!m.testBit k
theorem qF (m t n:Nat):dH m t (n+1)=if m.testBit (t+1+n) then dH m t n else dH m t n++[t+1+n]:=by
 unfold dH;rw[List.range'_concat,filter_append,Nat.one_mul];cases h:m.testBit (t+1+n) <;> simp [filter_cons,h]
theorem gK {m v t:Nat}:∀{n s:Nat},s∈bh m v t n ↔ ∃j,j<2^(dH m t n).length/\s=v+j7 (dH m t n) j
 | 0,s=>by
  have e:dH m t 0=[]:=rfl;unfold bh;rw[e,mem_singleton];constructor
  ·rintro rfl;exact⟨0,by simp,by simp [j7]⟩
  ·rintro⟨j,_,h⟩;rw[h];simp [j7]
 | n+1,s=>by
  unfold bh;rw[qF];split
  ·exact gK
  ·rw[mem_append,mem_map,length_append,length_singleton,Nat.pow_succ];constructor
   ·rintro(h|⟨r,hr,rfl⟩)
    ·obtain⟨j,hj,rfl⟩:=gK.mp h;refine⟨j,ω,?_⟩;rw[qM,Nat.testBit_lt_two_pow hj];simp
    ·obtain⟨j,hj,rfl⟩:=gK.mp hr;have j0:=Nat.testBit_lt_two_pow hj;refine⟨j+2^(dH m t n).length,ω,?_⟩;rw[qM,Ew j0,Fv (j:=j+2^(dH m t n).length) (k:=j) fun i hi=>by rw[Ew j0,decide_eq_false ω,Bool.or_false]];simp;omega
   ·rintro⟨j,hj,rfl⟩;rw[qM];cases hb:j.testBit (dH m t n).length with
    | false=>
     refine .inl (gK.mpr ⟨j,?_,by simp⟩);refine Nat.lt_pow_two_of_testBit j fun i hi=>?_;by_cases c:i=(dH m t n).length
     ·rw[c,hb]
     ·exact Nat.testBit_lt_two_pow (Nat.lt_of_lt_of_le (show j<2^((dH m t n).length+1) by rw[Nat.pow_succ];exact hj) (Nat.pow_le_pow_right δ ω))
    | true=>
     have hge:=Nat.ge_two_pow_of_testBit hb;refine .inr ⟨v+j7 (dH m t n) (j-2^(dH m t n).length),gK.mpr ⟨_,ω,rfl⟩,?_⟩;rw[Fv (j:=j-2^(dH m t n).length) (k:=j) fun i hi=>by rw[tQ hb,decide_eq_false ω];simp];simp;omega
theorem zO {W m t:Nat}(ht:m.testBit t=true)(hl:∀i,i<t->m.testBit i=false)(tW:t<W):frees W m=dH m t (W-(t+1)):=by
 unfold frees dH;have e:List.range W=List.range (t+1)++List.range' (t+1) (W-(t+1)):=by
  have:=List.range'_append_1 (s:=0) (m:=t+1) (n:=W-(t+1));rw[Nat.zero_add,show t+1+(W-(t+1))=W by omega] at this;rw[List.range_eq_range',List.range_eq_range',this]
 rw[e,filter_append];have z:(List.range (t+1)).filter (isFree m)=[]:=filter_eq_nil_iff.mpr fun k hk h=>by
  have hk':=mem_range.mp hk;unfold isFree at h;simp only[Bool.and_eq_true,Bool.not_eq_true',any_eq_true] at h;obtain⟨_,j,hj,mj⟩:=h;have:=mem_range.mp hj;rw[hl j ω] at mj;cases mj
 rw[z,nil_append];refine filter_congr fun k hk=>?_;have hk':=mem_range'_1.mp hk;unfold isFree;rw[any_eq_true.mpr ⟨t,mem_range.mpr ω,ht⟩,Bool.and_true]
def Kl:Sp:=fun vs H Q _=>∃(w s:Int)(p:Nat),vs=[.int p,.int w,.int s]/\1<=w/\w<=40/\(s=0\/s=1)/\p<2^w.toNat/\Q (.int (nOf w.toNat s p)) H
theorem aa0 {w s:Int}{p:Nat}(h1:1<=w)(hs:s=0\/s=1)(hp:p<2^w.toNat):nOf w.toNat s p=if wl w s+2^w.toNat-1<(p:Int) then (p:Int)-2^w.toNat else p:=by
 have e:=mZ h1;have e2:w.toNat-1=(w-1).toNat:=ω;have c1:((2^w.toNat:Nat):Int)=2^w.toNat:=by rw[Int.natCast_pow];rfl
 have c2:((2^(w-1).toNat:Nat):Int)=2^(w-1).toNat:=by rw[Int.natCast_pow];rfl
 unfold nOf wl;rw[e2];rcases hs with rfl|rfl
 ·rw[if_neg (by simp),if_neg ω]
 ·by_cases c:2^(w-1).toNat<=p
  ·rw[if_pos ⟨δ,c⟩,if_pos ω]
  ·rw[if_neg fun z=>c z.2,if_neg ω]
theorem VD {m t:Nat}(ht:m.testBit t=true)(hl:∀i,i<t->m.testBit i=false):m &&& (m-1)=m-2^t:=by
 have hr:m%2^(t+1)=2^t:=Nat.eq_of_testBit_eq fun k=>by
  rw[Nat.testBit_mod_two_pow,Nat.testBit_two_pow];by_cases c:t=k
  ·subst c;simp [ht]
  ·by_cases c2:k<t
   ·simp [hl k c2,c]
   ·have:¬k<t+1:=by omega
    simp [this,c]
 have hm:=Nat.div_add_mod m (2^(t+1));have hp:=Nat.two_pow_pos t;have e:m-1=2^(t+1)*(m/2^(t+1))+(2^t-1):=ω;have lt:2^t-1<2^(t+1):=by rw[Nat.pow_succ];omega
 refine Nat.eq_of_testBit_eq fun k=>?_;rw[Nat.testBit_and,tQ ht,e,Nat.testBit_two_pow_mul_add _ lt];by_cases c:k<t+1
 ·rw[if_pos c,Nat.testBit_two_pow_sub_one];by_cases c2:k=t
  ·subst c2;simp
  ·rw[hl k ω];simp
 ·rw[if_neg c,Nat.testBit_div_two_pow,Nat.sub_add_cancel ω,decide_eq_false (by omega:¬k=t)];simp
theorem Zi {m t:Nat}(ht:m.testBit t=true)(hl:∀i,i<t->m.testBit i=false):Builtin.bitAnd (m:Int) (-(m:Int))=2^t:=by
 have hge:=Nat.ge_two_pow_of_testBit ht;have hp:=Nat.two_pow_pos t;have c1:((2^t:Nat):Int)=2^t:=by rw[Int.natCast_pow];rfl
 have hneg:¬(0<=-(m:Int)):=ω;have e:=VD ht hl;unfold Builtin.bitAnd;simp only[hneg,decide_false,Int.natCast_nonneg,decide_true,Int.toNat_natCast];have eb:(Builtin.bitNot (-(m:Int))).toNat=m-1:=by
  unfold Builtin.bitNot;omega
 rw[eb,e];omega
inductive bM {α:Type}(en:α->List V)(H:Hp):List V->List α->Prop
 | nil:bM en H [] []
 | cons {p:Addr} {x:α} {us:List V} {xs:List α}:H p=some (.tup (en x))->bM en H us xs->bM en H (.ref p::us) (x::xs)
section
variable {α:Type}{en:α->List V}{H H':Hp}
theorem bM.length:∀{us:List V}{xs:List α},bM en H us xs->us.length=xs.length
 | _,_,.nil=>rfl
 | _,_,.cons _ t=>by rw[length_cons,length_cons,t.length]
theorem bM.keep:∀{us:List V}{xs:List α},bM en H us xs->(∀p ys,H p=some (.tup ys)->H' p=some (.tup ys))->bM en H' us xs
 | _,_,.nil,_=>.nil
 | _,_,.cons e t,k=>.cons (k _ _ e) (t.keep k)
theorem bM.same {us:List V}{xs:List α}(h:bM en H us xs)(s:Same H H'):bM en H' us xs:=h.keep fun p ys e=>s _ _ e
theorem bM.wV {us:List V}{xs:List α}(h:bM en H us xs){l:Addr}{ys:List V}{o:HO}(e:H l=some (.lst ys)):bM en (upd H l o) us xs:=h.keep fun p zs ep=>by
 rw[aH (fun z=>by rw[z,e] at ep;cases ep)];exact ep
theorem bM.abQ {us:List V}{xs:List α}(h:bM en H us xs){l:Addr}{o:HO}(e:H l=none):bM en (upd H l o) us xs:=h.same (aA e)
theorem bM.got:∀{us:List V}{xs:List α},bM en H us xs->∀{i:Nat}{u:V},us[i]?=some u->∃p x,u=.ref p/\xs[i]?=some x/\H p=some (.tup (en x))
 | _,_,.nil,_,_,h=>by cases h
 | _,_,.cons (p:=p) e t,0,_,h=>by cases h;exact⟨p,_,rfl,rfl,e⟩
 | _,_,.cons e t,i+1,_,h=>t.got (i:=i) h
theorem bM.app:∀{us vs:List V}{xs ys:List α},bM en H us xs->bM en H vs ys->bM en H (us++vs) (xs++ys)
 | _,_,_,_,.nil,k=>k
 | _,_,_,_,.cons e t,k=>.cons e (t.app k)
theorem bM.snoc {us:List V}{xs:List α}(h:bM en H us xs){p:Addr}{x:α}(e:H p=some (.tup (en x))):bM en H (us++[.ref p]) (xs++[x]):=h.app (.cons e .nil)
theorem bM.split:∀{xs:List α}{us:List V}{x:α},bM en H us (xs++[x])->∃vs p,us=vs++[.ref p]/\bM en H vs xs/\H p=some (.tup (en x))
 | [],us,x,h=>by
  cases h with
  | cons e t=>cases t;exact⟨[],_,rfl,.nil,e⟩
 | y::xs,us,x,h=>by
  cases h with
  | cons e t=>
   obtain⟨vs,p,rfl,k,ep⟩:=bM.split t;exact⟨_::vs,p,rfl,.cons e k,ep⟩
theorem bM.refs:∀{us:List V}{xs:List α},bM en H us xs->∃ps:List Addr,us=ps.map V.ref
 | _,_,.nil=>⟨[],rfl⟩
 | _,_,.cons (p:=p) e t=>by
  obtain⟨ps,rfl⟩:=t.refs;exact⟨p::ps,rfl⟩
theorem bM.read {dec:Addr->α}:∀{ps:List Addr}{xs:List α},bM en H (ps.map V.ref) xs->(∀p x,H p=some (.tup (en x))->dec p=x)->xs=ps.map dec/\∀p,p∈ps->H p=some (.tup (en (dec p)))
 | [],xs,h,_=>by cases h;exact⟨rfl,fun p m=>by cases m⟩
 | p::ps,xs,h,hd=>by
  cases h with
  | cons e t=>
   obtain⟨e1,e2⟩:=bM.read t hd;have ep:=hd _ _ e;refine⟨by rw[map_cons,ep,<- e1],fun q m=>?_⟩;rcases mem_cons.mp m with rfl|m
   ·rw[ep];exact e
   ·exact e2 q m
theorem bM.of_map {dec:Addr->α}:∀{ps:List Addr},(∀p,p∈ps->H p=some (.tup (en (dec p))))->bM en H (ps.map V.ref) (ps.map dec)
 | [],_=>.nil
 | p::ps,h=>.cons (h p (mem_cons_self ..)) (bM.of_map fun q m=>h q (mem_cons_of_mem _ m))
end
def prE (s:Int×Int):List V:=[.int s.1,.int s.2]
def trE (w:Int×Int×Int):List V:=[.int w.1,.int w.2.1,.int w.2.2]
def pG (H:Hp)(p:Addr):Int×Int:=match H p with
 | some (.tup [.int a,.int b])=>(a,b)
 | _=>(0,0)
theorem KN {H:Hp}(p:Addr)(x:Int×Int)(h:H p=some (.tup (prE x))):pG H p=x:=by
 unfold pG;rw[h];rfl
theorem LK {α:Type}(xs:List α)(x:α):atI (xs++[x]) (-1)=some x:=by
 unfold atI ixN;rw[if_neg δ,if_pos (by rw[length_append,length_singleton];omega)];show(xs++[x])[(-1+((xs++[x]).length:Int)).toNat]?=_;rw[show(-1+((xs++[x]).length:Int)).toNat=xs.length by rw[length_append,length_singleton];omega];rw[getElem?_append_right (Nat.le_refl _),Nat.sub_self];rfl
theorem K9 {α:Type}(xs:List α)(x:α):ixN (xs++[x]).length (-1)=some xs.length:=by
 unfold ixN;rw[if_neg δ,if_pos (by rw[length_append,length_singleton];omega)];rw[length_append,length_singleton];congr 1;omega
theorem Fy {α:Type}(xs:List α)(x y:α):(xs++[x]).set xs.length y=xs++[y]:=by
 rw[List.set_append_right _ _ (Nat.le_refl _),Nat.sub_self];rfl
section
variable {α:Type}{en:α->List V}{H:Hp}
theorem bM.push {us:List V}{xs:List α}{r q:Addr}(t:bM en H us xs)(x:α)(er:H r=some (.lst us))(hq:H q=none):bM en (upd (upd H q (.tup (en x))) r (.lst (us++[.ref q]))) (us++[.ref q]) (xs++[x]):=by
 have nq:r≠q:=aF er hq;have er1:upd H q (.tup (en x)) r=some (.lst us):=by rw[aH nq];exact er
 exact((t.abQ hq).wV er1).snoc (by rw[aH nq.symm];exact aB)
theorem bM.swap {us:List V}{xs:List α}{r q p:Addr}(t:bM en H us xs)(x:α)(er:H r=some (.lst (us++[.ref p])))(hq:H q=none):bM en (upd (upd H q (.tup (en x))) r (.lst (us++[.ref q]))) (us++[.ref q]) (xs++[x]):=by
 have nq:r≠q:=aF er hq;have er1:upd H q (.tup (en x)) r=some (.lst (us++[.ref p])):=by rw[aH nq];exact er
 exact((t.abQ hq).wV er1).snoc (by rw[aH nq.symm];exact aB)
end
theorem K3 {α:Type}(us:List α)(x:α):(us++[x]).isEmpty=false:=by cases us <;> rfl
theorem oZ {H H':Hp}{r q:Addr}{o u:HO}(s:Same H H')(hr:H r=none)(hq:H' q=none):Same H (upd (upd H' q o) r u):=MJ (s.trans (aA hq)) hr
theorem rN {H:Hp}{r q d:Addr}{o u v:HO}(e:H d=some v)(n:d≠r)(hq:H q=none):upd (upd H q o) r u d=some v:=by
 rw[aH n,aH (aF e hq)];exact e
theorem zc {w s:Int}(h1:1<=w)(hs:s=0\/s=1):mH w.toNat s=wl w s:=by
 unfold mH wl;rw[show w.toNat-1=(w-1).toNat by omega];rcases hs with rfl|rfl
 ·rw[if_pos rfl];omega
 ·rw[if_neg δ];omega
def O5 (w s:Int)(ys:List (Int×Int)):Prop:=∀y,y∈ys->wl w s<=y.1/\y.1<=y.2/\y.2<wl w s+2^w.toNat
theorem O5.kind {w s n:Int}{ys:List (Int×Int)}(h:O5 w s ys)(c:cov ys n):bZ w s n:=by
 obtain⟨y,m,a,b⟩:=c;have:=h y m;exact⟨ω,ω⟩
structure ISp (w s:Int)(it:It1)(ys:List (Int×Int)):Prop where
 ins:O5 w s ys
 cv:∀n,bZ w s n->(cov ys n↔aN w n it=true)
 ln:ys.length<=128
theorem Yr {w s a:Int}(h:bZ w s a):ISp w s (.one a) [(a,a)]:=by
 refine⟨fun y m=>?_,fun n _=>?_,by simp⟩
 ·rw[mem_singleton.mp m];exact⟨h.1,Int.le_refl _,h.2⟩
 ·rw[qU];unfold aN;rw[decide_eq_true_iff];show a<=n/\n<=a↔_;omega
theorem Yq {w s a b:Int}(h:bZ w s a/\bZ w s b/\a<=b):ISp w s (.rng a b) [(a,b)]:=by
 refine⟨fun y m=>?_,fun n _=>?_,by simp⟩
 ·rw[mem_singleton.mp m];exact⟨h.1.1,h.2.2,h.2.1.2⟩
 ·rw[qU];unfold aN;rw[Bool.and_eq_true,decide_eq_true_iff,decide_eq_true_iff]
theorem abp {w s:Int}{m v:Nat}(h:v &&& m≠v):ISp w s (.bits m v) []:=by
 refine⟨fun y m=>(by cases m),fun n _=>⟨fun c=>absurd c Lr,fun c=>?_⟩,δ⟩;unfold aN at c;rw[decide_eq_true_iff] at c;exact absurd (by rw[<- c,Nat.and_assoc,Nat.and_self]) h
theorem Ys {w s:Int}{v:Nat}(h:v &&& 0=v):ISp w s (.bits 0 v) [(wl w s,wl w s+2^w.toNat-1)]:=by
 have p:=two_pow_pos w.toNat;refine⟨fun y m=>?_,fun n hn=>?_,by simp⟩
 ·rw[mem_singleton.mp m];show wl w s<=wl w s/\wl w s<=wl w s+2^w.toNat-1/\wl w s+2^w.toNat-1<wl w s+2^w.toNat;omega
 ·rw[qU];rw[show aN w n (.bits 0 v)=decide ((n%2^w.toNat).toNat &&& 0=v) from rfl,Nat.and_zero];rw[Nat.and_zero] at h;rw[decide_eq_true h];obtain⟨a,b⟩:=hn;exact⟨fun _=>rfl,fun _=>⟨a,by show n<=wl w s+2^w.toNat-1;omega⟩⟩
theorem wF {m v t:Nat}:∀n,(bh m v t n).length=2^(dH m t n).length
 | 0=>by simp [bh,dH]
 | n+1=>by
  have ih:=wF (m:=m) (v:=v) (t:=t) n;unfold bh;rw[qF];split
  ·exact ih
  ·rw[length_append,length_map,ih,length_append,length_singleton,Nat.pow_succ];omega
theorem wN {m t:Nat}:∀{i n:Nat},i<=n->(dH m t i).length<=(dH m t n).length
 | i,0,h=>by rw[Nat.le_zero.mp h];exact Nat.le_refl _
 | i,n+1,h=>by
  rcases Nat.lt_or_ge i (n+1) with c|c
  ·refine Nat.le_trans (wN (show i<=n by omega)) ?_;rw[qF];split
   ·exact Nat.le_refl _
   ·rw[length_append];omega
  ·rw[show i=n+1 by omega];exact Nat.le_refl _
theorem vB {w:Int}{m v t i:Nat}(hf:9<=w->(frees w.toNat m).length<=4)(ht:m.testBit t=true)(hl:∀i,i<t->m.testBit i=false)(tW:t<w.toNat)(hi:i<=w.toNat-(t+1)):(bh m v t i).length<=128:=by
 rw[wF];have le7:(dH m t i).length<=7:=by
  refine Nat.le_trans (wN hi) ?_;rcases Int.lt_or_le w 9 with c|c
  ·have:(dH m t (w.toNat-(t+1))).length<=_:=length_filter_le _ _;rw[List.length_range'] at this;omega
  ·have:=hf c;rw[zO ht hl tW] at this;omega
 exact Nat.pow_le_pow_right δ le7
theorem HD (m k:Nat):Builtin.bitAnd (m:Int) (2^k)=if m.testBit k then 2^k else 0:=by
 have c:((2^k:Nat):Int)=2^k:=by rw[Int.natCast_pow];rfl
 rw[<- c,gW];have e:m &&& 2^k=if m.testBit k then 2^k else 0:=Nat.eq_of_testBit_eq fun j=>by
  rw[Nat.testBit_and,Nat.testBit_two_pow];by_cases z:k=j
  ·subst z;cases hb:m.testBit k <;> simp
  ·cases hb:m.testBit k <;> simp [z]
 rw[e];split <;> rfl
theorem none_of {H H':Hp}{p:Addr}(s:Same H H')(h:H' p=none):H p=none:=by
 cases e:H p with
 | none=>rfl
 | some o=>rw[s _ _ e] at h;cases h
theorem Fw {m v t i:Nat}(hb:m.testBit (t+1+i)=true):bh m v t (i+1)=bh m v t i:=by
 conv=>lhs;unfold bh
 rw[if_pos hb]
theorem Mu {m v t i:Nat}(hb:m.testBit (t+1+i)=false):dh (bh m v t i)++dh ((bh m v t i).map (· + 2^(t+1+i)))=dh (bh m v t (i+1)):=by
 unfold dh;rw[<- map_append];congr 1
 conv=>rhs;unfold bh
 rw[if_neg (by rw[hb];decide)]
theorem nA {W m v t:Nat}(hv:v &&& m=v)(hm:m<2^W)(ht:m.testBit t=true)(hl:∀i,i<t->m.testBit i=false){x:Nat}(hx:x∈bh m v t (W-(t+1))):x<2^W/\2^t*(x/2^t)=x/\t<W:=by
 have tW:t<W:=by
  rcases Nat.lt_or_ge t W with c|c
  ·exact c
  ·rw[Nat.testBit_lt_two_pow (Nat.lt_of_lt_of_le hm (Nat.pow_le_pow_right δ c))] at ht;cases ht
 have vb:∀i,v.testBit i=true->m.testBit i=true:=fun i h=>by
  rw[<- hv,Nat.testBit_and] at h;simp at h;exact h.2
 have vW:v<2^W:=by
  have:v<=m:=by rw[<- hv];exact Nat.and_le_right
  omega
 have hsb:=(eZ vb).mp hx;have slow:∀i,i<t->x.testBit i=false:=fun i hi=>by
  rw[hsb i ω];exact Bool.eq_false_iff.mpr fun z=>by
   have:=vb i z;rw[hl i hi] at this;cases this
 refine⟨Nat.lt_pow_two_of_testBit x fun i hi=>?_,Nat.eq_of_testBit_eq fun i=>?_,tW⟩
 ·rw[hsb i ω];exact Nat.testBit_lt_two_pow (Nat.lt_of_lt_of_le vW (Nat.pow_le_pow_right δ hi))
 ·rw[Nat.testBit_two_pow_mul];by_cases c:i<t
  ·rw[decide_eq_false ω,Bool.false_and,slow i c]
  ·rw[decide_eq_true ω,Bool.true_and,Nat.testBit_div_two_pow,Nat.sub_add_cancel ω]
theorem Te {W t x:Nat}{sg:Int}(hW:1<=W)(hx:x<2^W)(hd:2^t*(x/2^t)=x)(ht:t<W):mH W sg<=nOf W sg x/\nOf W sg x+2^t<=mH W sg+2^W:=by
 obtain⟨k1,k2⟩:=Hs ht hd;replace k2:=k2 hx;have eN:2^W=2*2^(W-1):=by
  obtain⟨V,rfl⟩:∃V,W=V+1:=⟨W-1,ω⟩;rw[Nat.add_sub_cancel,Nat.pow_succ,Nat.mul_comm]
 have c1:((2^W:Nat):Int)=2^W:=by rw[Int.natCast_pow];rfl
 have c2:((2^(W-1):Nat):Int)=2^(W-1):=by rw[Int.natCast_pow];rfl
 have c3:((2^t:Nat):Int)=2^t:=by rw[Int.natCast_pow];rfl
 unfold nOf mH;rw[<- c1,<- c2,<- c3];clear c1 c2 c3 hd;generalize 2^(W-1)=H at *;generalize (2:Nat)^W=D at *;generalize 2^t=T at *;by_cases g:sg=0
 ·subst g;rw[if_pos rfl,if_neg (by simp)];omega
 ·rw[if_neg g];by_cases c:H<=x
  ·rw[if_pos ⟨g,c⟩];omega
  ·rw[if_neg (fun z=>c z.2)];have:=k1 ω;omega
theorem Ug {w s:Int}{m v t:Nat}(h1:1<=w)(hs:s=0\/s=1)(hok:It1.Ok w s (.bits m v))(hv:v &&& m=v)(ht:m.testBit t=true)(hl:∀i,i<t->m.testBit i=false):ISp w s (.bits m v) (Ly w.toNat s m v t):=by
 obtain⟨hm,hv2,hf⟩:=hok;refine⟨fun y my=>?_,fun n hn=>?_,?_⟩
 ·obtain⟨x,mx,rfl⟩:=mem_map.mp my;obtain⟨f1,f2,f3⟩:=nA hv hm ht hl mx;have:=Te (sg:=s) ω f1 f2 f3;rw[zc h1 hs] at this;have p:=two_pow_pos t;show wl w s<=nOf w.toNat s x/\nOf w.toNat s x<=nOf w.toNat s x+2^t-1/\nOf w.toNat s x+2^t-1<_;omega
 ·rw[nj ω hv hm ht hl (by rw[zc h1 hs];exact hn.1) (by rw[zc h1 hs];exact hn.2)];unfold aN;rw[decide_eq_true_iff]
 ·unfold Ly;rw[length_map];have tW:t<w.toNat:=by
   rcases Nat.lt_or_ge t w.toNat with c|c
   ·exact c
   ·rw[Nat.testBit_lt_two_pow (Nat.lt_of_lt_of_le hm (Nat.pow_le_pow_right δ c))] at ht;cases ht
  exact vB hf ht hl tW (Nat.le_refl _)
structure CSp (w s:Int)(its:List It1)(ys:List (Int×Int)):Prop where
 gap:Gap ys
 ins:O5 w s ys
 cv:∀n,bZ w s n->(cov ys n↔its.any (aN w n)=true)
 ln:ys.length<=128*its.length
structure GSp (w s:Int)(its:List It1)(ys:List (Int×Int)):Prop where
 ins:O5 w s ys
 cv:∀n,bZ w s n->(cov ys n↔its.any (aN w n)=true)
 ln:ys.length<=128*its.length
theorem GSp.nil {w s:Int}:GSp w s [] []:=⟨fun y m=>(by cases m),fun n _=>⟨fun c=>absurd c Lr,fun c=>by cases c⟩,Nat.le_refl _⟩
theorem GSp.snoc {w s:Int}{its:List It1}{it:It1}{ys zs:List (Int×Int)}(h:GSp w s its ys)(k:ISp w s it zs):GSp w s (its++[it]) (ys++zs):=by
 refine⟨fun y m=>?_,fun n hn=>?_,?_⟩
 ·rcases mem_append.mp m with m|m
  ·exact h.ins y m
  ·exact k.ins y m
 ·rw[qW,h.cv n hn,k.cv n hn,List.any_append];simp
 ·rw[length_append,length_append,length_singleton];have:=h.ln;have:=k.ln;omega
theorem GSp.case {w s:Int}{its:List It1}{ys zs:List (Int×Int)}(h:GSp w s its ys)(g:Gap zs)(c:∀n,cov zs n↔cov ys n)(l:zs.length<=ys.length):CSp w s its zs:=by
 refine⟨g,fun y m=>?_,fun n hn=>by rw[c,h.cv n hn],Nat.le_trans l h.ln⟩;have ne:=g.ne y m;have k1:=h.ins.kind ((c _).mp ⟨y,m,Int.le_refl _,ne⟩);have k2:=h.ins.kind ((c _).mp ⟨y,m,ne,Int.le_refl _⟩);exact⟨k1.1,ne,k2.2⟩
def Ko:Sp:=fun vs H Q _=>∃(l:Addr)(us:List V)(ss:List (Int×Int)),vs=[.ref l]/\H l=some (.lst us)/\bM prE H us ss/\(∀s,s∈ss->s.1<=s.2/\-1267650600228229401496703205376<s.2/\s.2<1267650600228229401496703205376)/\ss.length<=100000 /\
 ∀(r:Addr)(H':Hp)(us':List V)(ys:List (Int×Int)),Same H H'->H r=none->H' r=some (.lst us')->bM prE H' us' ys->Gap ys->(∀n,cov ys n↔cov ss n)->ys.length<=ss.length->Q (.ref r) H'
def Zy:Sp:=fun vs H Q _=>∃(w s:Int)(m v:Nat),vs=[.int w,.int s,.int m,.int v]/\1<=w/\w<=40/\(s=0\/s=1)/\It1.Ok w s (.bits m v) /\
 ∀(r:Addr)(H':Hp)(us:List V)(ys:List (Int×Int)),Same H H'->H r=none->H' r=some (.lst us)->bM prE H' us ys->ISp w s (.bits m v) ys->Q (.ref r) H'
def Zx:Sp:=fun vs H Q _=>∃(w s:Int)(t:Addr)(it:It1),vs=[.int w,.int s,.ref t]/\1<=w/\w<=40/\(s=0\/s=1)/\qK H t it/\It1.Ok w s it /\
 ∀(r:Addr)(H':Hp)(us:List V)(ys:List (Int×Int)),Same H H'->H r=none->H' r=some (.lst us)->bM prE H' us ys->ISp w s it ys->Q (.ref r) H'
def Qx:Sp:=fun vs H Q _=>∃(w s:Int)(x:V)(ok:Addr->Prop)(its:List It1),vs=[.int w,.int s,x]/\1<=w/\w<=40/\(s=0\/s=1)/\bC ok H x (ni its)/\(∀it,it∈its->It1.Ok w s it)/\its.length<=700 /\
 ∀(r:Addr)(H':Hp)(us:List V)(ys:List (Int×Int)),Same H H'->H r=none->H' r=some (.lst us)->bM prE H' us ys->CSp w s its ys->Q (.ref r) H'
theorem Vp (t:Nat):Builtin.Int.intBits ((2:Int)^t)=t+1:=by
 have c3:((2^t:Nat):Int)=2^t:=by rw[Int.natCast_pow];rfl
 have p:=Nat.two_pow_pos t;unfold Builtin.Int.intBits;rw[<- c3,if_neg (by simp;omega),Int.natAbs_natCast,Nat.log2_two_pow]
inductive tL (H:Hp):List V->List (List (Int×Int))->Prop
 | nil:tL H [] []
 | cons {p:Addr} {us vs:List V} {c:List (Int×Int)} {cs:List (List (Int×Int))}:H p=some (.lst vs)->bM prE H vs c->tL H us cs->tL H (.ref p::us) (c::cs)
theorem tL.length {H:Hp}:∀{us:List V}{cs:List (List (Int×Int))},tL H us cs->us.length=cs.length
 | _,_,.nil=>rfl
 | _,_,.cons _ _ t=>by rw[length_cons,length_cons,t.length]
theorem tL.same {H H':Hp}:∀{us:List V}{cs:List (List (Int×Int))},tL H us cs->Same H H'->tL H' us cs
 | _,_,.nil,_=>.nil
 | _,_,.cons e v t,s=>.cons (s _ _ e) (v.same s) (t.same s)
theorem tL.snoc {H:Hp}{p:Addr}{vs:List V}{c:List (Int×Int)}(e:H p=some (.lst vs))(v:bM prE H vs c):∀{us:List V}{cs:List (List (Int×Int))},tL H us cs->tL H (us++[.ref p]) (cs++[c])
 | _,_,.nil=>.cons e v .nil
 | _,_,.cons e1 v1 t=>.cons e1 v1 (t.snoc e v)
theorem tL.got {H:Hp}:∀{us:List V}{cs:List (List (Int×Int))},tL H us cs->∀{i:Nat}{u:V},us[i]?=some u->∃p vs c,u=.ref p/\cs[i]?=some c/\H p=some (.lst vs)/\bM prE H vs c
 | _,_,.nil,_,_,h=>by cases h
 | _,_,.cons (p:=p) e v t,0,_,h=>by cases h;exact⟨p,_,_,rfl,rfl,e,v⟩
 | _,_,.cons e v t,i+1,_,h=>t.got (i:=i) h
inductive lO (w s:Int):List (List It1)->List (List (Int×Int))->Prop
 | nil:lO w s [] []
 | cons {its:List It1} {c:List (Int×Int)} {css:List (List It1)} {cs:List (List (Int×Int))}:CSp w s its c->lO w s css cs->lO w s (its::css) (c::cs)
theorem lO.snoc {w s:Int}{its:List It1}{c:List (Int×Int)}(h:CSp w s its c):∀{css:List (List It1)}{cs:List (List (Int×Int))},lO w s css cs->lO w s (css++[its]) (cs++[c])
 | _,_,.nil=>.cons h .nil
 | _,_,.cons e t=>.cons e (t.snoc h)
theorem lO.mem {w s:Int}:∀{css:List (List It1)}{cs:List (List (Int×Int))},lO w s css cs->∀{c},c∈cs->∃its,its∈css/\CSp w s its c
 | _,_,.nil,_,m=>by cases m
 | _,_,.cons e t,c,m=>by
  rcases mem_cons.mp m with rfl|m
  ·exact⟨_,mem_cons_self ..,e⟩
  ·obtain⟨its,mi,h⟩:=t.mem m;exact⟨its,mem_cons_of_mem _ mi,h⟩
theorem lO.len {w s:Int}:∀{css:List (List It1)}{cs:List (List (Int×Int))},lO w s css cs->cs.flatten.length<=128*(css.map List.length).sum
 | _,_,.nil=>Nat.le_refl _
 | _,_,.cons e t=>by
  have:=t.len;have:=e.ln;simp only[flatten_cons,length_append,map_cons,sum_cons];omega
theorem lO.cnt {w s n:Int}(hn:bZ w s n):∀{css:List (List It1)}{cs:List (List (Int×Int))},lO w s css cs->(cs.filter (G5 n)).length=jD w css n
 | _,_,.nil=>rfl
 | _,_,.cons (its:=its) (c:=c) e t=>by
  have ih:=t.cnt hn;unfold jD at ih |-;have e1:G5 n c=its.any (aN w n):=by
   rw[Bool.eq_iff_iff,Vd,e.cv n hn]
  rw[filter_cons,filter_cons,e1];split
  ·rw[length_cons,length_cons,ih]
  ·exact ih
def eO (w n:Int)(css:List (List It1)):List Nat:=(css.zipIdx.filter fun x=>x.1.any (aN w n)).map (·.2)
theorem qe {w n:Int}{css:List (List It1)}:(eO w n css).length=jD w css n:=by
 unfold eO jD;rw[length_map];have:∀(css:List (List It1)) k,((css.zipIdx k).filter fun x=>x.1.any (aN w n)).length=(css.filter fun its=>its.any (aN w n)).length:=by
  intro css
  induction css with
  | nil=>intro k;rfl
  | cons c css ih=>
   intro k;rw[zipIdx_cons,filter_cons,filter_cons];dsimp only;split
   ·rw[length_cons,length_cons,ih]
   ·exact ih _
 exact this css 0
theorem N6 {w n:Int}{css:List (List It1)}{i:Nat}{its:List It1}(h:css[i]?=some its):eO w n (css.take (i+1))=eO w n (css.take i)++if its.any (aN w n) then [i] else []:=by
 unfold eO;have l:i<css.length:=(List.getElem?_eq_some_iff.mp h).1;rw[take_add_one,h];rw[List.zipIdx_append,filter_append,map_append];congr 1;have e:(css.take i).length=i:=by rw[length_take];omega
 rw[e];simp only[Option.toList,zipIdx_cons,List.zipIdx_nil,filter_cons,filter_nil,Nat.zero_add];split <;> rfl
theorem uQ {w n:Int}{css:List (List It1)}{k:Nat}:k∈eO w n css ↔ ∃its,css[k]?=some its/\its.any (aN w n)=true:=by
 unfold eO;rw[mem_map];constructor
 ·rintro⟨⟨its,j⟩,h,rfl⟩;obtain⟨h1,h2⟩:=mem_filter.mp h;exact⟨its,by simpa using List.mem_zipIdx_iff_getElem?.mp h1,h2⟩
 ·rintro⟨its,h1,h2⟩;exact⟨(its,k),mem_filter.mpr ⟨List.mem_zipIdx_iff_getElem?.mpr (by simpa using h1),h2⟩,rfl⟩
theorem Yh {w n:Int}{css:List (List It1)}:(eO w n css).Nodup:=by
 unfold eO;have h:(css.zipIdx.map (·.2)).Nodup:=by
  rw[List.zipIdx_map_snd];exact List.nodup_range'
 exact h.sublist (List.filter_sublist.map _)
def fG (w s:Int)(css:List (List It1)):Option (Nat×Nat×Int)->Prop
 | none=>∀n,bZ w s n->jD w css n<2
 | some c=>bZ w s c.2.2/\(∃r,eO w c.2.2 css=c.1::c.2.1::r)/\∀k,bZ w s k->k<c.2.2->jD w css k<2
theorem fG.two {w s:Int}{css:List (List It1)}{c:Nat×Nat×Int}(h:fG w s css (some c)):2<=jD w css c.2.2:=by
 obtain⟨_,⟨r,e⟩,_⟩:=h;rw[<- qe,e];simp
theorem fG.one {w s:Int}{css:List (List It1)}{a b:Option (Nat×Nat×Int)}(ha:fG w s css a)(hb:fG w s css b):a=b:=by
 cases a with
 | none=>
  cases b with
  | none=>rfl
  | some c=>
   have:=hb.two;have:=ha _ hb.1;omega
 | some c=>
  cases b with
  | none=>
   have:=ha.two;have:=hb _ ha.1;omega
  | some d=>
   have h1:=ha.two;have h2:=hb.two;obtain⟨a1,⟨r,a2⟩,a3⟩:=ha;obtain⟨b1,⟨r',b2⟩,b3⟩:=hb;have e:c.2.2=d.2.2:=by
    rcases Int.lt_trichotomy c.2.2 d.2.2 with q|q|q
    ·have:=b3 _ a1 q;omega
    ·exact q
    ·have:=a3 _ b1 q;omega
   rw[e,b2] at a2;injection a2 with e1 a2;injection a2 with e2 a2;obtain⟨i,j,n⟩:=c;obtain⟨i',j',n'⟩:=d;dsimp only at e e1 e2;rw[e,e1,e2]
def clD:Option (Nat×Nat×Int)->PyData
 | none=>.none
 | some c=>.tuple [.int (c.1:Int),.int (c.2.1:Int),.int c.2.2]
theorem JV {w s:Int}{css:List (List It1)}{cs:List (List (Int×Int))}{zs:List (Int×Int)}(h:lO w s css cs)(hp:zs.Perm cs.flatten)(e:cM none zs=none):fG w s css none:=by
 intro n hn;have hg:∀c,c∈cs->Gap c:=fun c m=>by
  obtain⟨_,_,k⟩:=h.mem m;exact k.gap
 have k:∀y,y∈zs->y.1<=y.2:=fun y m=>by
  obtain⟨c,mc,my⟩:=mem_flatten.mp (hp.mem_iff.mp m);exact(hg c mc).ne y my
 have:=Jz k e n;rw[qd hg hp,h.cnt hn] at this;omega
theorem JT {w s m:Int}{css:List (List It1)}{cs:List (List (Int×Int))}{zs:List (Int×Int)}(h:lO w s css cs)(hp:zs.Perm cs.flatten)(hu:zs.Pairwise fun a b=>a.1<=b.1)(e:cM none zs=some m) :
  ∃i j,fG w s css (some (i,j,m))/\∃r,eO w m css=i::j::r:=by
 have hg:∀c,c∈cs->Gap c:=fun c m=>by
  obtain⟨_,_,k⟩:=h.mem m;exact k.gap
 have k:∀y,y∈zs->y.1<=y.2:=fun y m=>by
  obtain⟨c,mc,my⟩:=mem_flatten.mp (hp.mem_iff.mp m);exact(hg c mc).ne y my
 obtain⟨t,ht⟩:=DY k hu e;have hm:bZ w s m:=by
  obtain⟨i,j,a,b,_,hi,_,a1,a2,_⟩:=t;obtain⟨c,mc,my⟩:=mem_flatten.mp (hp.mem_iff.mp (mem_of_getElem? hi));obtain⟨_,_,k⟩:=h.mem mc;exact k.ins.kind ⟨a,my,a1,a2⟩
 have h2:=(qd hg hp m).mp t;rw[h.cnt hm,<- qe] at h2;obtain⟨i,j,r,el⟩:∃i j r,eO w m css=i::j::r:=by
  cases hx:eO w m css with
  | nil=>rw[hx] at h2;simp at h2
  | cons i y=>
   cases y with
   | nil=>rw[hx] at h2;simp at h2
   | cons j r=>exact⟨i,j,r,rfl⟩
 refine⟨i,j,⟨hm,⟨r,el⟩,fun k hk hlt=>?_⟩,r,el⟩;rcases Nat.lt_or_ge (jD w css k) 2 with q|q
 ·exact q
 ·have:=ht k ((qd hg hp k).mpr (by rw[h.cnt hk];exact q));exact absurd hlt (by show ¬k<m;omega)
def bdr (w s:Int)(b:Int):It1->Prop
 | .one a=>b=a\/b=a+1
 | .rng a c=>b=a\/b=c+1
 | .bits m v=>v &&& m=v/\∃t x,m.testBit t=true/\(∀i,i<t->m.testBit i=false)/\x∈bh m v t (w.toNat-(t+1))/\(b=nOf w.toNat s x\/b=nOf w.toNat s x+2^t)
def jw (w s:Int)(css:List (List It1))(b:Int):Prop:=bZ w s b/\(w<9\/b=wl w s\/∃its,its∈css/\∃it,it∈its/\bdr w s b it)
theorem Za {w s b:Int}{it:It1}(h1:1<=w)(hs:s=0\/s=1)(hok:It1.Ok w s it)(h:bdr w s b it):wl w s<=b:=by
 cases it with
 | one a=>
  obtain⟨k,_⟩:=hok;rcases h with rfl|rfl <;> omega
 | rng a c=>
  obtain⟨⟨k,_⟩,⟨k2,_⟩,_⟩:=hok;rcases h with rfl|rfl <;> omega
 | bits m v=>
  obtain⟨hv,t,x,ht,hl,hx,h⟩:=h;obtain⟨f1,f2,f3⟩:=nA hv hok.1 ht hl hx;have:=Te (sg:=s) ω f1 f2 f3;rw[zc h1 hs] at this;have p:=two_pow_pos t;rcases h with rfl|rfl <;> omega
theorem Hx {w s n:Int}{it:It1}(h:abJ w.toNat s n it):bdr w s n it:=by
 cases it with
 | one a=>exact .inl h
 | rng a c=>exact .inl h
 | bits m v=>
  obtain⟨hv,t,x,ht,hl,hx,h⟩:=h;exact⟨hv,t,x,ht,hl,hx,.inl h⟩
theorem N5 {p:Int->Prop}{lo n:Int}(h0:lo<=n)(h:p n):∃m,lo<=m/\m<=n/\p m/\∀k,lo<=k->k<m->¬p k:=by
 obtain⟨d,hd⟩:∃d:Nat,n=lo+d:=⟨(n-lo).toNat,ω⟩
 induction d using Nat.strongRecOn generalizing n with
 | ind d ih=>
  by_cases c:∃k,lo<=k/\k<n/\p k
  ·obtain⟨k,k1,k2,k3⟩:=c;obtain⟨m,m1,m2,m3,m4⟩:=ih (k-lo).toNat ω k1 k3 ω;exact⟨m,m1,ω,m3,m4⟩
  ·exact⟨n,h0,Int.le_refl _,h,fun k k1 k2 k3=>c ⟨k,k1,k2,k3⟩⟩
theorem Ib {w s n:Int}{css:List (List It1)}(h1:1<=w)(hs:s=0\/s=1)(hok:∀its,its∈css->∀it,it∈its->It1.Ok w s it)(hn:bZ w s n)(h:2<=jD w css n):∃b,jw w s css b/\b<=n/\2<=jD w css b:=by
 obtain⟨m,m1,m2,m3,m4⟩:=N5 (p:=fun k=>2<=jD w css k) hn.1 h;have hk:bZ w s m:=⟨m1,by have:=hn.2;omega⟩;refine⟨m,⟨hk,?_⟩,m2,m3⟩;have e:=zc h1 hs;have ew:((w.toNat:Nat):Int)=w:=ω;refine .inr (DX (W:=w.toNat) (sg:=s) (css:=css) (B:=fun b=>b=wl w s\/∃its,its∈css/\∃it,it∈its/\bdr w s b it) ω (fun its mi it mt=>?_) (.inl e) (fun its mi it mt n hb=>.inr ⟨its,mi,it,mt,Hx hb⟩) (by rw[e];exact m1) (by rw[e];exact hk.2) (by rw[ew];exact m3) fun k k1 k2=>?_)
 ·have:=hok its mi it mt;cases it with
  | bits a b=>exact this.1
  | _=>trivial
 ·rw[e] at k1;rw[ew];exact m4 k k1 k2
theorem jw.sub {w s b:Int}{css css':List (List It1)}(h:jw w s css b)(hs:∀its,its∈css->∀it,it∈its->∃its',its'∈css'/\it∈its'):jw w s css' b:=by
 obtain⟨k,c⟩:=h;refine⟨k,c.imp_right (Or.imp_right ?_)⟩;rintro⟨its,mi,it,mt,hb⟩;obtain⟨its',m',mt'⟩:=hs its mi it mt;exact⟨its',m',it,mt',hb⟩
theorem TX {ah:Option Int}{z:Int×Int}{zs:List (Int×Int)}(h:¬ ∃a,ah=some a/\z.1<=a):cM ah (z::zs)=cM (some z.2) zs:=by
 conv=>lhs;unfold cM
 rw[if_neg h]
theorem X4 {a:Int}{z:Int×Int}{zs:List (Int×Int)}(h:z.1<=a):cM (some a) (z::zs)=some z.1:=by
 unfold cM;rw[if_pos ⟨a,rfl,h⟩]
theorem X5 (ah:Option Int):cM ah []=none:=by
 unfold cM;rfl
def oV:Option Int->V
 | none=>.non
 | some n=>.int n
def Zw:Sp:=fun vs H Q _=>∃(l:Addr)(us:List V)(cs:List (List (Int×Int))),vs=[.ref l]/\H l=some (.lst us)/\tL H us cs/\(∀y,y∈cs.flatten->y.1<=y.2/\-1267650600228229401496703205376<y.2/\y.2<1267650600228229401496703205376)/\cs.flatten.length<=100000 /\
 ∀(H':Hp)(zs:List (Int×Int)),Same H H'->zs.Perm cs.flatten->zs.Pairwise (fun a b=>a.1<=b.1)->Q (oV (cM none zs)) H'
def Kr:Sp:=fun vs H Q _=>∃(x:V)(w s:Int)(ok:Addr->Prop)(css:List (List It1)),vs=[x]/\1<=w/\w<=40/\(s=0\/s=1)/\bC ok H x (jy w s css)/\(∀its,its∈css->∀it,it∈its->It1.Ok w s it)/\(css.map List.length).sum<=110 /\
 ∀(y:V)(H':Hp)(c:Option (Nat×Nat×Int)),Same H H'->fG w s css c->bC (fun a=>H a=none) H' y (clD c)->Q y H'
def Zz:Sp:=fun vs H Q _=>∃(w s:Int)(m v:Nat),vs=[.int w,.int s,.int m,.int v]/\9<=w/\w<=40/\(s=0\/s=1)/\m<2^w.toNat/\v<2^w.toNat/\(frees w.toNat m).length<=4 /\
 ∀(p:Addr) H' (ns:List Int),H' p=some (.lst (ns.map V.int))->ns.length<=32->(∀b,b∈ns↔bdr w s b (.bits m v))->Same H H'->Q (.ref p) H'
def CW:Sp:=fun vs H Q _=>∃(x:V)(w s:Int)(ok:Addr->Prop)(css:List (List It1)),vs=[x]/\1<=w/\w<=40/\(s=0\/s=1)/\bC ok H x (jy w s css)/\(∀its,its∈css->∀it,it∈its->It1.Ok w s it)/\(css.map List.length).sum<=110 /\
 ∀(p:Addr) H' (ns:List Int),Same H H'->H' p=some (.lst (ns.map V.int))->ns.length<=4000->ns.Pairwise (· < ·)->(∀b,b∈ns↔jw w s css b)->Q (.ref p) H'
def Calm (w s:Int)(css:List (List It1)):Prop:=∀b,jw w s css b->jD w css b<2
def Qw:Sp:=fun vs H Q _=>∃(p:Addr)(B:Int),vs=[.ref p]/\bO H p B/\0<=B/\B<=900000 /\
 ∀(w s:Int)(t:Addr)(css:List (List It1)) H',1<=w->w<=40->(s=0\/s=1)->dZ p H H'->bO H' p (B+6000)->bC (·≠p) H' (.ref t) (jy w s css) ->
  (∀its,its∈css->its.length<=6/\∀it,it∈its->It1.Ok w s it)->css.length<=12->Calm w s css->Q (.ref t) H'
theorem sO:∀{css:List (List It1)}{its:List It1},its∈css->its.length<=(css.map List.length).sum
 | c::css,its,m=>by
  simp only[map_cons,sum_cons];rcases mem_cons.mp m with rfl|m
  ·omega
  ·have:=sO m;omega
theorem XS {w s:Int}{p:Nat}(h1:1<=w)(hs:s=1)(hp:p<2^w.toNat):(p:Int)-2^w.toNat*(if (p:Int)/2^(w-1).toNat=1 then 1 else 0)=nOf w.toNat s p:=by
 have e:=mZ h1;have p0:=two_pow_pos (w-1).toNat;have e2:w.toNat-1=(w-1).toNat:=ω;have c1:((2^w.toNat:Nat):Int)=2^w.toNat:=by rw[Int.natCast_pow];rfl
 have c2:((2^(w-1).toNat:Nat):Int)=2^(w-1).toNat:=by rw[Int.natCast_pow];rfl
 unfold nOf;rw[e2];have hd:(p:Int)/2^(w-1).toNat=1↔2^(w-1).toNat<=p:=by
  have h:=Int.mul_ediv_add_emod (p:Int) (2^(w-1).toNat);have h3:=Int.emod_nonneg (p:Int) (show(2:Int)^(w-1).toNat≠0 by omega);have h4:=Int.emod_lt_of_pos (p:Int) p0;have hq:(p:Int)/2^(w-1).toNat<2:=Int.ediv_lt_of_lt_mul p0 ω;have hq0:0<=(p:Int)/2^(w-1).toNat:=Int.ediv_nonneg ω ω;constructor
  ·intro z;rw[z] at h;omega
  ·intro z;rcases Int.lt_or_le ((p:Int)/2^(w-1).toNat) 1 with c|c
   ·have:(p:Int)/2^(w-1).toNat=0:=by omega
    rw[this] at h;omega
   ·omega
 by_cases c:2^(w-1).toNat<=p
 ·rw[if_pos (hd.mpr c),if_pos ⟨ω,c⟩,Int.mul_one]
 ·rw[if_neg (fun z=>c (hd.mp z)),if_neg (fun z=>c z.2),Int.mul_zero,Int.sub_zero]
theorem Td {w s:Int}{p:Nat}(hs:s=0):(p:Int)-2^w.toNat*0=nOf w.toNat s p:=by
 unfold nOf;rw[if_neg (by rw[hs];simp),Int.mul_zero,Int.sub_zero]
theorem Ms {fs:List Nat}{i j p:Nat}(h:fs[i]?=some p):j7 (fs.take (i+1)) j=j7 (fs.take i) j+if j.testBit i then 2^p else 0:=by
 have l:i<fs.length:=(List.getElem?_eq_some_iff.mp h).1;rw[take_add_one,h];show j7 (fs.take i++[p]) j=_;rw[qM,show(fs.take i).length=i by rw[length_take];omega]
theorem GF {m t t':Nat}(ht:m.testBit t=true)(hl:∀i,i<t->m.testBit i=false)(ht':m.testBit t'=true)(hl':∀i,i<t'->m.testBit i=false):t=t':=by
 rcases Nat.lt_trichotomy t t' with c|c|c
 ·rw[hl' t c] at ht;cases ht
 ·exact c
 ·rw[hl t' c] at ht';cases ht'
theorem Hy {W m v t j:Nat}(hm:m<2^W)(hv:v &&& m=v)(ht:m.testBit t=true)(hl:∀i,i<t->m.testBit i=false)(hj:j<2^(frees W m).length):v+j7 (frees W m) j∈bh m v t (W-(t+1)):=by
 have tW:t<W:=by
  rcases Nat.lt_or_ge t W with c|c
  ·exact c
  ·rw[Nat.testBit_lt_two_pow (Nat.lt_of_lt_of_le hm (Nat.pow_le_pow_right δ c))] at ht;cases ht
 rw[zO ht hl tW] at hj |-;exact gK.mpr ⟨j,hj,rfl⟩
theorem abL {w s:Int}{m v t:Nat}{ns:List Int}(hm:m<2^w.toNat)(hv:v &&& m=v)(ht:m.testBit t=true)(hl:∀i,i<t->m.testBit i=false)
  (h:∀b,b∈ns ↔ ∃j,j<2^(frees w.toNat m).length/\(b=nOf w.toNat s (v+j7 (frees w.toNat m) j)\/b=nOf w.toNat s (v+j7 (frees w.toNat m) j)+2^t)) (b:Int):b∈ns↔bdr w s b (.bits m v):=by
 have tW:t<w.toNat:=by
  rcases Nat.lt_or_ge t w.toNat with c|c
  ·exact c
  ·rw[Nat.testBit_lt_two_pow (Nat.lt_of_lt_of_le hm (Nat.pow_le_pow_right δ c))] at ht;cases ht
 rw[h];constructor
 ·rintro⟨j,hj,hb⟩;exact⟨hv,t,_,ht,hl,Hy hm hv ht hl hj,hb⟩
 ·rintro⟨_,t',x,ht',hl',hx,hb⟩;have e:=GF ht hl ht' hl';subst e;obtain⟨j,hj,rfl⟩:=gK.mp hx;rw[<- zO ht hl tW] at hj hb;exact⟨j,hj,hb⟩
theorem Ze {w s b:Int}{m v:Nat}(h:m=0\/v &&& m≠v):b∈([]:List Int)↔bdr w s b (.bits m v):=by
 constructor
 ·intro z;cases z
 ·rintro⟨hv,t,x,ht,_⟩;rcases h with rfl|h
  ·rw[Nat.zero_testBit] at ht;cases ht
  ·exact absurd hv h
theorem Zd {ns:List Int}{i:Nat}{a b:Int}{A B:Nat->Int}(h:∀n,n∈ns ↔ ∃j,j<i/\(n=A j\/n=B j))(ha:a=A i)(hb:b=B i)(n:Int):n∈ns++[a,b] ↔ ∃j,j<i+1/\(n=A j\/n=B j):=by
 rw[mem_append,h];simp only[mem_cons,not_mem_nil,or_false];constructor
 ·rintro(⟨j,hj,q⟩|q)
  ·exact⟨j,ω,q⟩
  ·exact⟨i,ω,by rw[<- ha,<- hb];exact q⟩
 ·rintro⟨j,hj,q⟩;rcases Nat.lt_or_ge j i with c|c
  ·exact .inl ⟨j,c,q⟩
  ·have:j=i:=by omega
   subst this;rw[<- ha,<- hb] at q;exact .inr q
def BIn (w s:Int)(css:List (List It1))(b:Int):Prop:=b=wl w s\/∃its,its∈css/\∃it,it∈its/\bdr w s b it
theorem O4 {w s:Int}(b:Int):b∈[wl w s]↔BIn w s [] b:=by
 rw[mem_singleton];constructor
 ·exact fun h=>.inl h
 ·rintro(h|⟨its,m,_⟩)
  ·exact h
  ·cases m
theorem Hu {w s:Int}{its:List It1}{it:It1}{j:Nat}{ns nB:List Int}{A:Int->Prop}(h:∀b,b∈ns↔A b\/∃it,it∈its.take j/\bdr w s b it)(hi:its[j]?=some it)(hB:∀b,b∈nB↔bdr w s b it)(b:Int) :
  b∈ns++nB↔A b\/∃it,it∈its.take (j+1)/\bdr w s b it:=by
 rw[mem_append,h,hB,take_add_one,hi];constructor
 ·rintro((q|⟨x,m,q⟩)|q)
  ·exact .inl q
  ·exact .inr ⟨x,mem_append_left _ m,q⟩
  ·exact .inr ⟨it,mem_append_right _ (by simp),q⟩
 ·rintro(q|⟨x,m,q⟩)
  ·exact .inl (.inl q)
  ·rcases mem_append.mp m with m|m
   ·exact .inl (.inr ⟨x,m,q⟩)
   ·simp at m;subst m;exact .inr q
theorem Vr {w s:Int}{css:List (List It1)}{its:List It1}{i n:Nat}{ns:List Int}(h:∀b,b∈ns↔BIn w s (css.take i) b\/∃it,it∈its.take n/\bdr w s b it)(hi:css[i]?=some its)(hn:n=its.length)(b:Int):b∈ns↔BIn w s (css.take (i+1)) b:=by
 subst hn;rw[take_length] at h;rw[h,take_add_one,hi];unfold BIn;constructor
 ·rintro((q|⟨x,m,q⟩)|⟨it,m,q⟩)
  ·exact .inl q
  ·exact .inr ⟨x,mem_append_left _ m,q⟩
  ·exact .inr ⟨its,mem_append_right _ (by simp),it,m,q⟩
 ·rintro(q|⟨x,m,it,m2,q⟩)
  ·exact .inl (.inl q)
  ·rcases mem_append.mp m with m|m
   ·exact .inl (.inr ⟨x,m,it,m2,q⟩)
   ·simp at m;subst m;exact .inr ⟨it,m2,q⟩
theorem Vq {w s:Int}{its:List It1}{ns:List Int}{A:Int->Prop}(h:∀b,b∈ns↔A b)(b:Int):b∈ns↔A b\/∃it,it∈its.take 0/\bdr w s b it:=by
 rw[h];simp
theorem Kc {a c b:Int}:b∈[a,c]↔b=a\/b=c:=by simp
theorem aaf {lo:Int}{n:Nat}:((List.range n).map fun k=>lo+((k:Nat):Int)).Pairwise (· < ·):=by
 refine pairwise_map.mpr (pairwise_lt_range.imp fun {a b} h=>?_);show lo+(a:Int)<lo+(b:Int);omega
theorem Wr {w s:Int}{css:List (List It1)}(h9:w<9)(b:Int):b∈((List.range (wl w s+2^w.toNat-wl w s).toNat).map fun k=>wl w s+((k:Nat):Int))↔jw w s css b:=by
 have p:=two_pow_pos w.toNat;rw[mem_map];constructor
 ·rintro⟨k,m,rfl⟩;have:=mem_range.mp m;exact⟨⟨ω,ω⟩,.inl h9⟩
 ·rintro⟨⟨h1,h2⟩,_⟩;exact⟨(b-wl w s).toNat,mem_range.mpr ω,ω⟩
theorem Vj {w s:Int}{css:List (List It1)}{ns ys:List Int}(h1:1<=w)(h9:¬w<9)(hs:s=0\/s=1)(hok:∀its,its∈css->∀it,it∈its->It1.Ok w s it)(h:∀b,b∈ns↔BIn w s css b)
  (hp:ys.Perm (SRT.ded (ns.filter fun b=>decide (b<wl w s+2^w.toNat)))) (b:Int):b∈ys↔jw w s css b:=by
 rw[hp.mem_iff,SRT.YQ,mem_filter,h];have p:=two_pow_pos w.toNat;unfold jw BIn;rw[decide_eq_true_iff];constructor
 ·rintro⟨q,hb⟩;refine⟨⟨?_,hb⟩,.inr q⟩;rcases q with rfl|⟨its,m,it,mi,q⟩
  ·exact Int.le_refl _
  ·exact Za h1 hs (hok its m it mi) q
 ·rintro⟨⟨_,hb⟩,q⟩;exact⟨q.resolve_left h9,hb⟩
theorem J4 {w s n:Int}{it:It1}(h1:1<=w)(hs:s=0\/s=1)(hok:It1.Ok w s it)(hlo:wl w s<n)(hn:bZ w s n)(h:aN w n it=true)(h':aN w (n-1) it=false):bdr w s n it:=by
 have e:=zc h1 hs;have ew:((w.toNat:Nat):Int)=w:=ω;refine Hx (begins (W:=w.toNat) ω ?_ (by rw[e];exact hlo) (by rw[e];exact hn.2) (by rw[ew];exact h) (by rw[ew];exact h'));cases it with
 | bits a b=>exact hok.1
 | _=>trivial
theorem U7 {w s n:Int}{it:It1}(h1:1<=w)(hs:s=0\/s=1)(hok:It1.Ok w s it)(hlo:wl w s<n)(hn:bZ w s n)(h:aN w n it=false)(h':aN w (n-1) it=true):bdr w s n it:=by
 cases it with
 | one a=>
  have:n-1=a:=by simpa [aN] using h'
  right;omega
 | rng a c=>
  simp [aN] at h h';right;omega
 | bits m v=>
  have e:=zc h1 hs;have e1:aN w n (.bits m v)=decide ((n%2^w.toNat).toNat &&& m=v):=rfl;have e2:aN w (n-1) (.bits m v)=decide (((n-1)%2^w.toNat).toNat &&& m=v):=rfl;rw[e1,decide_eq_false_iff_not] at h;rw[e2,decide_eq_true_iff] at h';have hv:v &&& m=v:=by rw[<- h',Nat.and_assoc,Nat.and_self]
  have m0:m≠0:=by
   rintro rfl;rw[Nat.and_zero] at h h';exact h h'
  obtain⟨t,ht,hl⟩:=DW m0;have k1:=hn.1;have k2:=hn.2;obtain⟨y,my,y1,y2⟩:=(nj (W:=w.toNat) (sg:=s) ω hv hok.1 ht hl (by rw[e];omega) (by rw[e];omega)).mpr h';obtain⟨x,mx,rfl⟩:=mem_map.mp my;replace y1:nOf w.toNat s x<=n-1:=y1;replace y2:n-1<=nOf w.toNat s x+2^t-1:=y2;refine⟨hv,t,x,ht,hl,mx,.inr ?_⟩;rcases Int.lt_or_le n (nOf w.toNat s x+2^t) with c|c
  ·exfalso;refine h ((nj (W:=w.toNat) (sg:=s) ω hv hok.1 ht hl (by rw[e];omega) (by rw[e];omega)).mp ⟨_,my,?_,?_⟩)
   ·show nOf w.toNat s x<=n;omega
   ·show n<=nOf w.toNat s x+2^t-1;omega
  ·omega
theorem zm {w n n':Int}:∀{css:List (List It1)},(∀its,its∈css->∀it,it∈its->aN w n it=aN w n' it)->gj w n css=gj w n' css
 | [],_=>rfl
 | c::css,h=>by
  have e:c.any (aN w n)=c.any (aN w n'):=by
   rw[Bool.eq_iff_iff,any_eq_true,any_eq_true];constructor
   ·rintro⟨it,m,q⟩;exact⟨it,m,by rw[<- h c (mem_cons_self ..) it m];exact q⟩
   ·rintro⟨it,m,q⟩;exact⟨it,m,by rw[h c (mem_cons_self ..) it m];exact q⟩
  unfold gj;rw[e,zm fun its m=>h its (mem_cons_of_mem _ m)]
open Classical in
noncomputable def deadB (w s:Int)(css:List (List It1))(k:Nat):Bool:=decide (∀n,bZ w s n->gj w n css≠k)
inductive Cvr (L:Int->Int)(lo:Int):Int->List (Int×Int×Int)->Prop
 | nil:Cvr L lo lo []
 | snoc {cur:Int} {ss:List (Int×Int×Int)} {x:Int×Int×Int}:Cvr L lo cur ss->x.1=cur->x.1<=x.2.1->(∀n,x.1<=n->n<=x.2.1->L n=x.2.2)->(∀y,ss.getLast?=some y->y.2.2≠x.2.2)->Cvr L lo (x.2.1+1) (ss++[x])
theorem Cvr.le {L:Int->Int}{lo cur:Int}{ss:List (Int×Int×Int)}(h:Cvr L lo cur ss):lo<=cur:=by
 induction h with
 | nil=>exact Int.le_refl _
 | snoc _ e l _ _ ih=>omega
theorem Cvr.last {L:Int->Int}{lo cur:Int}{ss:List (Int×Int×Int)}{y:Int×Int×Int}(h:Cvr L lo cur ss)(hy:ss.getLast?=some y):y.2.1+1=cur/\y.1<=y.2.1/\lo<=y.1/\∀n,y.1<=n->n<=y.2.1->L n=y.2.2:=by
 cases h with
 | nil=>cases hy
 | snoc h e l q _=>
  rw[getLast?_concat] at hy;cases hy;have:=h.le;exact⟨rfl,l,ω,q⟩
theorem Cvr.one {L:Int->Int}{lo:Int}:∀{ss ss':List (Int×Int×Int)}{cur:Int},Cvr L lo cur ss->Cvr L lo cur ss'->ss=ss':=by
 intro ss ss' cur h
 induction h generalizing ss' with
 | nil=>
  intro h';cases h' with
  | nil=>rfl
  | snoc h e l _ _=>
   have:=h.le;omega
 | @snoc cur ss x h e l q d ih=>
  intro h';generalize hc:x.2.1+1=c at h';cases h' with
  | nil=>
   have:=h.le;omega
  | @snoc cur' ss2 x' h' e' l' q' d'=>
   have e2:x.2.1=x'.2.1:=ω;have el:x.2.2=x'.2.2:=by rw[<- q x.2.1 l (Int.le_refl _),e2,q' x'.2.1 l' (Int.le_refl _)]
   have key:∀{a b:Int×Int×Int}{ca:Int}{sb:List (Int×Int×Int)},Cvr L lo ca sb->b.1=ca->a.2.1=b.2.1->a.2.2=b.2.2->lo<=a.1->b.1<=b.2.1->(∀n,a.1<=n->n<=a.2.1->L n=a.2.2)->(∀y,sb.getLast?=some y->y.2.2≠b.2.2)->¬a.1<b.1:=by
    intro a b ca sb hb eb e2 el hlo lb qa db hlt;cases hs:sb.getLast? with
    | none=>
     rw[List.getLast?_eq_none_iff] at hs;subst hs;generalize hcc:([]:List (Int×Int×Int))=em at hb;cases hb with
     | nil=>omega
     | snoc _ _ _ _ _=>simp at hcc
    | some y=>
     obtain⟨y1,y2,y3,y4⟩:=hb.last hs;have:=db y hs;have a1:=y4 y.2.1 y2 (Int.le_refl _);have a2:=qa y.2.1 ω ω;rw[a1,el] at a2;exact this a2
   have e1:x.1=x'.1:=by
    have n1:=key h' e' e2 el (by have:=h.le;omega) l' q d';have n2:=key h e e2.symm el.symm (by have:=h'.le;omega) l q' d;omega
   have ec:cur=cur':=ω;subst ec;rw[ih h'];obtain⟨a,b,c⟩:=x;obtain⟨a',b',c'⟩:=x';dsimp only at e1 e2 el;rw[e1,e2,el]
theorem Cvr.grow {L:Int->Int}{lo cur high:Int}{ss:List (Int×Int×Int)}{x:Int×Int×Int}(h:Cvr L lo cur (ss++[x]))(hh:cur<high)(hq:∀n,cur<=n->n<high->L n=x.2.2):Cvr L lo high (ss++[(x.1,high-1,x.2.2)]):=by
 generalize hs:ss++[x]=zs at h;cases h with
 | nil=>simp at hs
 | @snoc cur' ss' y h e l q d=>
  have e1:=List.append_inj' hs rfl;obtain⟨rfl,e2⟩:=e1;cases e2;have:=Cvr.snoc (x:=(x.1,high-1,x.2.2)) h e (show x.1<=high-1 by omega) (fun n n1 n2=>?_) d
  ·rw[show high-1+1=high by omega] at this;exact this
  ·replace n2:n<=high-1:=n2;replace n1:x.1<=n:=n1;show L n=x.2.2;rcases Int.lt_or_le x.2.1 n with c|c
   ·exact hq n ω ω
   ·exact q n n1 c
theorem Cvr.len {L:Int->Int}{lo cur:Int}{ss:List (Int×Int×Int)}(h:Cvr L lo cur ss):ss=[]\/lo<cur:=by
 cases h with
 | nil=>exact .inl rfl
 | snoc h e l _ _=>
  have:=h.le;exact .inr ω
structure ZM (ss:List (Int×Int×Int)):Prop where
 ne:∀x,x∈ss->x.1<=x.2.1/\0<=x.2.2
 nb:∀(i:Nat) a b,ss[i]?=some a->ss[i+1]?=some b->b.1=a.2.1+1/\b.2.2≠a.2.2
theorem Cvr.ok {L:Int->Int}{lo cur:Int}{ss:List (Int×Int×Int)}(hL:∀n,0<=L n)(h:Cvr L lo cur ss):ZM ss:=by
 induction h with
 | nil=>exact⟨fun x m=>(by cases m),fun i a b h=>(by cases h)⟩
 | @snoc cur ss x h e l q d ih=>
  refine⟨fun y m=>?_,fun i a b ha hb=>?_⟩
  ·rcases mem_append.mp m with m|m
   ·exact ih.ne y m
   ·rw[mem_singleton.mp m];exact⟨l,by rw[<- q x.1 (Int.le_refl _) l];exact hL _⟩
  ·rcases Nat.lt_or_ge (i+1) ss.length with c|c
   ·rw[getElem?_append_left c] at hb;rw[getElem?_append_left ω] at ha;exact ih.nb i a b ha hb
   ·have lb:=(List.getElem?_eq_some_iff.mp hb).1;rw[length_append,length_singleton] at lb;have ei:i+1=ss.length:=ω;rw[getElem?_append_right ω,ei,Nat.sub_self] at hb;cases hb;rw[getElem?_append_left ω] at ha;have hla:ss.getLast?=some a:=by
     rw[List.getLast?_eq_getElem?,show ss.length-1=i by omega];exact ha
    obtain⟨a1,_⟩:=h.last hla;exact⟨ω,fun z=>d a hla z.symm⟩
theorem BW {w s lo:Int}{css:List (List It1)}(h1:1<=w)(hs:s=0\/s=1)(hok:∀its,its∈css->∀it,it∈its->It1.Ok w s it)(hlo:bZ w s lo):∀{d:Nat}{n:Int},n=lo+d->bZ w s n->(∀b,lo<b->b<=n->¬jw w s css b)->gj w n css=gj w lo css
 | 0,n,hd,_,_=>by rw[show n=lo by omega]
 | d+1,n,hd,hn,hb=>by
  have k1:=hn.1;have k2:=hn.2;have k3:=hlo.1;rw[<- BW h1 hs hok hlo (d:=d) (n:=n-1) ω ⟨ω,ω⟩ fun b b1 b2=>hb b b1 ω];refine zm fun its m it mi=>?_;have nb:¬bdr w s n it:=fun z=>hb n ω (Int.le_refl _) ⟨hn,.inr (.inr ⟨its,m,it,mi,z⟩)⟩;cases p1:aN w n it with
  | true=>
   cases p2:aN w (n-1) it with
   | true=>rfl
   | false=>exact absurd (J4 h1 hs (hok its m it mi) ω hn p1 p2) nb
  | false=>
   cases p2:aN w (n-1) it with
   | false=>rfl
   | true=>exact absurd (U7 h1 hs (hok its m it mi) ω hn p1 p2) nb
structure Tkn (w s:Int)(css:List (List It1))(k:Nat)(zs:List (Int×Int×Int)):Prop where
 own:∀z,z∈zs->wl w s<=z.1/\z.1<=z.2.1/\z.2.1<wl w s+2^w.toNat/\∃(j:Nat)(its:List It1),j<k/\css[j]?=some its/\z.2.2=(j:Int)/\∀n,z.1<=n->n<=z.2.1->its.any (aN w n)=true
 all:∀n (j:Nat) its,bZ w s n->j<k->css[j]?=some its->its.any (aN w n)=true->∃z,z∈zs/\z.2.2=(j:Int)/\z.1<=n/\n<=z.2.1
 pw:zs.Pairwise fun a b=>a.2.2=b.2.2->a.2.1+1<b.1\/b.2.1+1<a.1
 ln:zs.length<=128*((css.take k).map List.length).sum
theorem Tkn.nil {w s:Int}{css:List (List It1)}:Tkn w s css 0 []:=⟨fun z m=>(by cases m),fun n j its _ hj=>absurd hj ω,.nil,Nat.zero_le _⟩
theorem Tkn.more {w s:Int}{css:List (List It1)}{k:Nat}{zs:List (Int×Int×Int)}{its:List It1}{c:List (Int×Int)}(h:Tkn w s css k zs)(hk:css[k]?=some its)(hc:CSp w s its c):Tkn w s css (k+1) (zs++c.map fun y=>(y.1,y.2,(k:Int))):=by
 refine⟨fun z m=>?_,fun n j its' hn hj hi hp=>?_,?_,?_⟩
 ·rcases mem_append.mp m with m|m
  ·obtain⟨a,b,d,j,its',hj,r⟩:=h.own z m;exact⟨a,b,d,j,its',ω,r⟩
  ·obtain⟨y,my,rfl⟩:=mem_map.mp m;obtain⟨a,b,d⟩:=hc.ins y my;exact⟨a,b,d,k,its,ω,hk,rfl,fun n n1 n2=>(hc.cv n (hc.ins.kind ⟨y,my,n1,n2⟩)).mp ⟨y,my,n1,n2⟩⟩
 ·rcases Nat.lt_or_ge j k with q|q
  ·obtain⟨z,m,r⟩:=h.all n j its' hn q hi hp;exact⟨z,mem_append_left _ m,r⟩
  ·have e:j=k:=ω;subst e;rw[hk] at hi;cases hi;obtain⟨y,my,y1,y2⟩:=(hc.cv n hn).mpr hp;exact⟨(y.1,y.2,(j:Int)),mem_append_right _ (mem_map.mpr ⟨y,my,rfl⟩),rfl,y1,y2⟩
 ·refine pairwise_append.mpr ⟨h.pw,pairwise_map.mpr (hc.gap.up.imp fun {a b} q _=>.inl q),fun a ma b mb e=>?_⟩;obtain⟨_,_,_,j,its',hj,_,ej,_⟩:=h.own a ma;obtain⟨y,my,rfl⟩:=mem_map.mp mb;exfalso;replace e:a.2.2=(k:Int):=e;omega
 ·have:=h.ln;have:=hc.ln;rw[length_append,length_map,take_add_one,hk,map_append,sum_append];show _<=128*(_+(([its]:List (List It1)).map List.length).sum);simp only[map_cons,map_nil,sum_cons,List.sum_nil];omega
theorem HY {w n:Int}{css:List (List It1)}{i j:Nat}{a b:List It1}(hne:i≠j)(ha:css[i]?=some a)(hb:css[j]?=some b)(pa:a.any (aN w n)=true)(pb:b.any (aN w n)=true):2<=jD w css n:=by
 have mi:i∈eO w n css:=uQ.mpr ⟨a,ha,pa⟩;have mj:j∈eO w n css:=uQ.mpr ⟨b,hb,pb⟩;rw[<- qe];cases e:eO w n css with
 | nil=>rw[e] at mi;cases mi
 | cons x l=>
  cases l with
  | nil=>
   rw[e] at mi mj;rw[mem_singleton.mp mi,mem_singleton.mp mj] at hne;exact absurd rfl hne
  | cons y l=>simp
theorem Tkn.dis {w s:Int}{css:List (List It1)}{k:Nat}{zs:List (Int×Int×Int)}(h:Tkn w s css k zs)(hc:fG w s css none):zs.Pairwise fun a b=>(a.2.1<b.1\/b.2.1<a.1)/\(a.2.2=b.2.2->a.2.1+1<b.1\/b.2.1+1<a.1):=by
 refine h.pw.imp_of_mem fun {a b} ma mb q=>⟨?_,q⟩;obtain⟨a1,a2,a3,i,ia,hi,ha,ea,pa⟩:=h.own a ma;obtain⟨b1,b2,b3,j,ib,hj,hb,eb,pb⟩:=h.own b mb;by_cases e:i=j
 ·have:=q (by rw[ea,eb,e]);omega
 ·rcases Int.lt_or_le a.2.1 b.1 with c|c
  ·exact .inl c
  ·rcases Int.lt_or_le b.2.1 a.1 with c2|c2
   ·exact .inr c2
   ·exfalso;rcases Int.le_total a.1 b.1 with d|d
    ·have:=hc b.1 ⟨b1,ω⟩;have:=HY e ha hb (pa b.1 d c) (pb b.1 (Int.le_refl _) b2);omega
    ·have:=hc a.1 ⟨a1,ω⟩;have:=HY e ha hb (pa a.1 (Int.le_refl _) a2) (pb a.1 d c2);omega
theorem Tkn.lab {w s:Int}{css:List (List It1)}{k:Nat}{zs:List (Int×Int×Int)}(h:Tkn w s css k zs)(hc:fG w s css none){z:Int×Int×Int}(m:z∈zs){n:Int}(n1:z.1<=n)(n2:n<=z.2.1):(gj w n css:Int)=z.2.2:=by
 obtain⟨a1,a2,a3,i,ia,hi,ha,ea,pa⟩:=h.own z m;rw[ea];have e:=zj ha (fun j cs hj hcs=>Bool.eq_false_iff.mpr fun q=>?_) (pa n n1 n2)
 ·rw[e]
 ·have:=hc n ⟨ω,ω⟩;have:=HY (show j≠i by omega) hcs ha q (pa n n1 n2);omega
theorem Tkn.rest {w s:Int}{css:List (List It1)}{zs:List (Int×Int×Int)}(h:Tkn w s css css.length zs){n:Int}(hn:bZ w s n)(hz:∀z,z∈zs->¬(z.1<=n/\n<=z.2.1)):(gj w n css:Int)=(css.length:Int):=by
 rw[vR fun j cs hcs=>Bool.eq_false_iff.mpr fun q=>?_];obtain⟨z,m,_,z1,z2⟩:=h.all n j cs hn (List.getElem?_eq_some_iff.mp hcs).1 hcs q;exact hz z m ⟨z1,z2⟩
structure O6 (L:Int->Int)(lo hi rest:Int)(zs:List (Int×Int×Int)):Prop where
 up:zs.Pairwise fun a b=>a.2.1<b.1/\(a.2.2=b.2.2->a.2.1+1<b.1)
 ne:∀z,z∈zs->lo<=z.1/\z.1<=z.2.1/\z.2.1<=hi/\z.2.2≠rest/\∀n,z.1<=n->n<=z.2.1->L n=z.2.2
 gp:∀n,lo<=n->n<=hi->(∀z,z∈zs->¬(z.1<=n/\n<=z.2.1))->L n=rest
theorem Tkn.fill {w s:Int}{css:List (List It1)}{zs ys:List (Int×Int×Int)}(h:Tkn w s css css.length zs)(hc:fG w s css none)(hp:ys.Perm zs)(hu:(ys.map fun z=>z.1).Pairwise (· < ·)):O6 (fun n=>(gj w n css:Int)) (wl w s) (wl w s+2^w.toNat-1) (css.length:Int) ys:=by
 have hd:ys.Pairwise fun a b=>(a.2.1<b.1\/b.2.1<a.1)/\(a.2.2=b.2.2->a.2.1+1<b.1\/b.2.1+1<a.1):=
  (hp.pairwise_iff (fun {a b} q=>⟨q.1.symm,fun e=>(q.2 e.symm).symm⟩)).mpr (h.dis hc)
 have hne:∀z,z∈ys->wl w s<=z.1/\z.1<=z.2.1/\z.2.1<wl w s+2^w.toNat:=fun z m=>by
  obtain⟨a,b,c,_⟩:=h.own z (hp.mem_iff.mp m);exact⟨a,b,c⟩
 refine⟨?_,fun z m=>?_,fun n n1 n2 hz=>h.rest ⟨n1,ω⟩ fun z m=>hz z (hp.mem_iff.mpr m)⟩
 ·refine((pairwise_map.mp hu).and hd).imp_of_mem fun {a b} ma mb q=>?_;have:=hne a ma;have:=hne b mb;obtain⟨q1,q2,q3⟩:=q;refine⟨ω,fun e=>?_⟩;have:=q3 e;omega
 ·have k:=hne z m;obtain⟨_,_,_,j,its,hj,_,ej,_⟩:=h.own z (hp.mem_iff.mp m);exact⟨k.1,k.2.1,ω,ω,fun n n1 n2=>h.lab hc (hp.mem_iff.mp m) n1 n2⟩
theorem Tkn.firsts {w s:Int}{css:List (List It1)}{k:Nat}{zs:List (Int×Int×Int)}(h:Tkn w s css k zs)(hc:fG w s css none):(zs.map fun z=>z.1).Nodup:=by
 refine pairwise_map.mpr ((h.dis hc).imp_of_mem fun {a b} ma mb q=>?_);obtain⟨_,a2,_⟩:=h.own a ma;obtain⟨_,b2,_⟩:=h.own b mb;have:=q.1;omega
structure FI (L:Int->Int)(lo:Int)(zs told:List (Int×Int×Int))(i:Nat)(free:Int):Prop where
 cv:Cvr L lo free told
 la:∀y,told.getLast?=some y->∃j,i=j+1/\zs[j]?=some y
 bf:∀z,z∈zs.take i->z.2.1<free
 ah:∀z,z∈zs.drop i->free<=z.1
 ln:told.length<=2*i
theorem FI.start {L:Int->Int}{lo hi rest:Int}{zs:List (Int×Int×Int)}(h:O6 L lo hi rest zs):FI L lo zs [] 0 lo:=
 ⟨.nil,fun y e=>(by cases e),fun z m=>(by cases m),fun z m=>(h.ne z m).1,Nat.le_refl _⟩
theorem FI.gap {L:Int->Int}{lo hi rest free:Int}{zs told:List (Int×Int×Int)}{i:Nat}{top:Int}(h:FI L lo zs told i free)(f:O6 L lo hi rest zs)(ht:free<=top)(hh:top<=hi)(ha:∀z,z∈zs.drop i->top<z.1):Cvr L lo (top+1) (told++[(free,top,rest)]):=by
 have lo1:=h.cv.le;refine Cvr.snoc (x:=(free,top,rest)) h.cv rfl ht (fun n n1 n2=>?_) fun y hy=>?_
 ·replace n1:free<=n:=n1;replace n2:n<=top:=n2;refine f.gp n ω ω fun z m q=>?_;rw[<- take_append_drop i zs] at m;rcases mem_append.mp m with m|m
  ·have:=h.bf z m;omega
  ·have:=ha z m;omega
 ·obtain⟨j,_,hj⟩:=h.la y hy;exact(f.ne y (mem_of_getElem? hj)).2.2.2.1
theorem FI.take {L:Int->Int}{lo hi rest free:Int}{zs told told2:List (Int×Int×Int)}{i:Nat}{z:Int×Int×Int}(h:FI L lo zs told i free)(f:O6 L lo hi rest zs)(hz:zs[i]?=some z)(hc:Cvr L lo z.1 told2)(hl:told2.length<=told.length+1)(hy:∀y,told2.getLast?=some y->y.2.2≠z.2.2):FI L lo zs (told2++[z]) (i+1) (z.2.1+1):=by
 have mz:=mem_of_getElem? hz;have k:=f.ne z mz;have ed:=oh hz;have hu:(zs.drop i).Pairwise fun a b=>a.2.1<b.1/\(a.2.2=b.2.2->a.2.1+1<b.1):=f.up.sublist (drop_sublist _ _);rw[ed] at hu;have hu2:=pairwise_cons.mp hu;refine⟨Cvr.snoc (x:=z) hc rfl k.2.1 k.2.2.2.2 hy,fun y e=>?_,fun y m=>?_,fun y m=>?_,?_⟩
 ·rw[getLast?_concat] at e;cases e;exact⟨i,rfl,hz⟩
 ·rw[CN hz] at m;rcases mem_append.mp m with m|m
  ·have:=h.bf y m;have:=h.ah z (by rw[ed];exact mem_cons_self ..);omega
  ·rw[mem_singleton.mp m];omega
 ·have:=(hu2.1 y m).1;omega
 ·rw[length_append,length_singleton];have:=h.ln;omega
theorem FI.next {L:Int->Int}{lo hi rest free:Int}{zs told:List (Int×Int×Int)}{i:Nat}{z y:Int×Int×Int}(h:FI L lo zs told i free)(f:O6 L lo hi rest zs)(hz:zs[i]?=some z)(he:free=z.1)(hy:told.getLast?=some y):y.2.2≠z.2.2:=by
 obtain⟨j,ej,hj⟩:=h.la y hy;obtain⟨lj,e1⟩:=List.getElem?_eq_some_iff.mp hj;obtain⟨li,e2⟩:=List.getElem?_eq_some_iff.mp hz;have:=pairwise_iff_getElem.mp f.up j i lj li ω;rw[e1,e2] at this;intro z;have q:=this.2 z;obtain⟨w1,_⟩:=h.cv.last hy;omega
def Zu:Sp:=fun vs H Q _=>∃(l:Addr)(us:List V)(lo hi rest:Int)(zs:List (Int×Int×Int)) (L:Int->Int),vs=[.ref l,.int lo,.int hi,.int rest]/\H l=some (.lst us)/\bM trE H us zs/\O6 L lo hi rest zs/\lo<=hi/\zs.length<=100000 /\
 ∀(r:Addr)(H':Hp)(us':List V)(ss:List (Int×Int×Int)),Same H H'->H r=none->H' r=some (.lst us')->bM trE H' us' ss->Cvr L lo (hi+1) ss->ss.length<=300000->Q (.ref r) H'
def Kh:Sp:=fun vs H Q _=>∃(x:V)(w s:Int)(ok:Addr->Prop)(css:List (List It1)),vs=[x]/\1<=w/\w<=40/\(s=0\/s=1)/\bC ok H x (jy w s css)/\(∀its,its∈css->∀it,it∈its->It1.Ok w s it)/\(css.map List.length).sum<=110/\fG w s css none /\
 ∀(r:Addr)(H':Hp)(us:List V)(ss:List (Int×Int×Int)),Same H H'->H r=none->H' r=some (.lst us)->bM trE H' us ss->Cvr (fun n=>(gj w n css:Int)) (wl w s) (wl w s+2^w.toNat) ss->ss.length<=300000->Q (.ref r) H'
def Qq:Sp:=fun vs H Q _=>∃(x:V)(w s:Int)(ok:Addr->Prop)(css:List (List It1)),vs=[x]/\1<=w/\w<=40/\(s=0\/s=1)/\bC ok H x (jy w s css)/\(∀its,its∈css->∀it,it∈its->It1.Ok w s it)/\(css.map List.length).sum<=110 /\
 ∀(r:Addr)(H':Hp)(us:List V)(ss:List (Int×Int×Int)),Same H H'->H r=none->H' r=some (.lst us)->bM trE H' us ss->Cvr (fun n=>(gj w n css:Int)) (wl w s) (wl w s+2^w.toNat) ss->ss.length<=300000->Q (.ref r) H'
def Kq:Sp:=fun vs H Q _=>∃(p:Addr)(z:Int×Int×Int),vs=[.ref p]/\H p=some (.tup (trE z))/\z.1<=z.2.1/\0<=z.2.2/\∀H',Same H H'->Q (.bl true) H'
def Kp:Sp:=fun vs H Q _=>∃(r:Addr)(us:List V)(ss:List (Int×Int×Int)),vs=[.ref r]/\H r=some (.lst us)/\bM trE H us ss/\ZM ss/\ss≠[]/\ss.length<=300000/\∀H',Same H H'->Q (.bl true) H'
def trD (z:Int×Int×Int):PyData:=.tuple [.int z.1,.int z.2.1,.int z.2.2]
theorem bM.trees {H:Hp}:∀{us:List V}{ss:List (Int×Int×Int)},bM trE H us ss->aQ (fun _=>True) H us (ss.map trD)
 | _,_,.nil=>.nil
 | _,_,.cons e t=>.cons (.tup trivial e (by show 3<=1000000;decide) (.cons (.int _) (.cons (.int _) (.cons (.int _) .nil)))) t.trees
theorem Mi (ss:List (Int×Int×Int)):(PyData.list (ss.map trD)).depth<4:=by
 have:∀ss:List (Int×Int×Int),PyData.depthAll (ss.map trD)<=2:=fun ss=>by
  induction ss with
  | nil=>simp [PyData.depthAll]
  | cons d ds ih=>simp [PyData.depthAll,PyData.depth,trD] at ih |-;omega
 have:=this ss;simp [PyData.depth];omega
def xV (H:Hp)(p:Addr):Int×Int×Int:=match H p with
 | some (.tup [.int a,.int b,.int c])=>(a,b,c)
 | _=>(0,0,0)
theorem Z4 {H:Hp}(p:Addr)(x:Int×Int×Int)(h:H p=some (.tup (trE x))):xV H p=x:=by
 unfold xV;rw[h];rfl
end L2
namespace SRT
open PySem PyProof.Rows
def TU (s:Shared) (x:Value) (a:Int):Prop:=∃q o n t b u c v,x=.ref q/\s.heap.get? q=some o/\o.cls=.type "tuple" /\ o.data=.seq #[.int a t,.int b u,.int c v] n
theorem S5 {α:Type}{g:α->Int}:∀{vs:List α},(vs.map g).Nodup->∀{x y:α},x∈vs->y∈vs->g x=g y->x=y
 | v::vs,h,x,y,hx,hy,e=>by
  have h2:=pairwise_cons.mp h;rcases mem_cons.mp hx with rfl|mx
  ·rcases mem_cons.mp hy with rfl|my
   ·rfl
   ·exact absurd e (h2.1 _ (mem_map_of_mem my))
  ·rcases mem_cons.mp hy with rfl|my
   ·exact absurd e.symm (h2.1 _ (mem_map_of_mem mx))
   ·exact S5 h2.2 mx my e
section
variable {prog:Program}{w:World}{s:Shared}{A:Around}{E:Value->Shared->Prop}
theorem abw {v:Value}{a:Int}{Q:Option Value->Shared->Prop}(h:TU s v a)(q:∀t,Q (some (.int a t)) s):wpAny (model prog w) A (firstOfTuple' v) Q E s:=by
 obtain⟨p,o,n,t,b,u,c,v,rfl,ho,hc,hs⟩:=h;show wpAny _ _ (typeOf (.ref p) >>= fun ty=>_) _ _ s;refine wpAny_bind (wpAny_typeOf (T := "tuple") (show s.TypeIs (.ref p) "tuple" from⟨o,ho,hc⟩) ?_);rw[if_neg δ];exact wpAny_bind (listItems_at ho hs (wpAny_pure (q t)))
theorem Le:∀{vs:List Value}{Q:List (Option Value)->Shared->Prop},(∀v∈vs,∃a,TU s v a)->(∀(ws:List Value)(ns:List Int),IntsAre ws ns->ws.length=vs.length->Q (ws.map some) s)->wpAny (model prog w) A (vs.mapM firstOfTuple') Q E s
 | [],Q,_,q=>by
  rw[mapM_nil];exact wpAny_pure (q [] [] .nil rfl)
 | v::vs,Q,h,q=>by
  rw[List.mapM_cons];obtain⟨a,hv⟩:=h v (mem_cons_self ..);refine wpAny_bind (abw hv fun t=>?_);refine wpAny_bind (Le (vs:=vs) (fun x hx=>h x (mem_cons_of_mem _ hx)) fun ws ns hI hl=>?_);exact wpAny_pure (q (.int a t::ws) (a::ns) (.cons a t hI) (by rw[length_cons,length_cons,hl]))
theorem aco {vs:List Value}{Q:SortKind->Shared->Prop}(h:∀v∈vs,∃a,TU s v a)(hn:1<=vs.length)(q:Q jU s):wpAny (model prog w) A (keyKind' vs.toArray) Q E s:=by
 rw[keyKind'_eq];rw[mapM_toArray];rw[map_eq_pure_bind];refine wpAny_bind (wpAny_bind (Le h fun ws ns hI hl=>wpAny_pure ?_));have ha:(ws.map some).toArray.all (·.isSome)=true:=by simp
 rw[if_pos ha];have hfm:(ws.map some).toArray.filterMap id=ws.toArray:=by simp [filterMap_map]
 rw[hfm];cases ws with
 | nil=>rw[<- hl] at hn;cases hn
 | cons v ws=>
  rw[Fl hI];refine wpAny_bind (wpAny_rule ?_);exact wpAny_bind (wpAny_pure (wpAny_pure q))
structure Af (s:Shared)(g:Value->Int)(vs:List Value):Prop where
 tk:∀v∈vs,TU s v (g v)
 nd:(vs.map g).Nodup
theorem acz {g:Value->Int}{vs:List Value}(h:Af s g vs):vq jU prog w A E s (pairsOf vs) fun p=>g p.1:=by
 intro st x y Q hk hx hy q;have h1:=h.tk x.1 (iC hx).1;have h4:=h.tk y.1 (iC hy).1;rw[lt'_eq];refine wpS_bind (wpS_get ?_);rw[hk];refine wpS_bind (wpS_lift (wpAny_attempt ?_));have same:g x.1=g y.1->x.1=y.1:=S5 h.nd (iC hx).1 (iC hy).1;obtain⟨p,o,n,t,yy,u,z,v,e,ho,hc,hs⟩:=h1;obtain⟨p',o',n',t',yy',u',z',v',e',ho',hc',hs'⟩:=h4;replace q:Q (some (decide (g x.1<g y.1))) st:=q;have sm:g x.1=g y.1->yy=yy'/\z=z':=fun ez=>by
  have ep:=same ez;rw[e,e'] at ep;cases ep;rw[ho] at ho';cases ho';rw[hs] at hs';injection hs' with hs' _;injection hs' with hs';injection hs' with _ hs';injection hs' with h1 hs';injection hs' with h2 _;injection h1 with h1;injection h2 with h2;exact⟨h1,h2⟩
 generalize g x.1=a at *;generalize g y.1=b at *;rw[e,e'];show wpAny _ _ (Builtin.List.listItems (.ref p) >>= fun xs=>Builtin.List.listItems (.ref p') >>= _) _ _ s;refine wpAny_bind (listItems_at ho hs ?_);refine wpAny_bind (listItems_at ho' hs' ?_);show wpAny _ _ (forIn [((Value.int a t,Value.int b t'),0),((Value.int yy u,Value.int yy' u'),1),((Value.int z v,Value.int z' v'),2)] _ _ >>= _) _ _ s;rw[forIn_cons];refine wpAny_bind (wpAny_bind (wpAny_bind (wpAny_eqBool_int ?_)));by_cases c:a=b
 ·obtain⟨rfl,rfl⟩:=sm c;subst c;rw[decide_eq_false ω] at q;rw[beq_self_eq_true];refine wpAny_pure ?_;simp only[forIn_cons];refine wpAny_bind (wpAny_bind (wpAny_eqBool_int ?_));rw[beq_self_eq_true];refine wpAny_pure ?_;refine wpAny_bind (wpAny_bind (wpAny_eqBool_int ?_));rw[beq_self_eq_true];refine wpAny_pure ?_;simp only[forIn_nil];exact wpAny_pure (wpAny_pure ⟨rfl,wpS_pure q⟩)
 ·rw[beq_false_of_ne c];exact wpAny_bind (oneLt_int (wpAny_pure (wpAny_pure (wpAny_pure ⟨rfl,wpS_pure q⟩))))
theorem Af.keep {g:Value->Int}{vs:List Value}{s':Shared}(h:Af s g vs) (k:∀q o,s.heap.get? q=some o->o.cls=.type "tuple" -> s'.heap.get? q=some o):Af s' g vs:=
 ⟨fun v hv=>by
  obtain⟨q,o,n,t,yy,u,z,v,e,ho,hc,hs⟩:=h.tk v hv;exact⟨q,o,n,t,yy,u,z,v,e,k q o ho hc,hc,hs⟩,h.nd⟩
end
end SRT
namespace L2
open PySem PySem.Spec PyProof.Rows
def abT:List V->Hp->VK->Prop:=fun vs H Q=>∃(l:Addr)(ps:List Addr)(key:Addr->Int),vs=[.ref l]/\H l=some (.lst (ps.map V.ref))/\ps.length<=1000000 /\
 (∀p∈ps,∃v u,H p=some (.tup [.int (key p),.int v,.int u]))/\(ps.map key).Nodup /\
 ∀(d:Addr)(qs:List Addr),H d=none->qs.Perm ps->(qs.map key).Pairwise (· < ·)->Q (.ref d) (upd H d (.lst (qs.map V.ref)))
section
variable {X:Cx}
theorem JX:dR X (.builtin "sorted") abT:=by
 intro pins s σ H xs us Q I rv h;obtain⟨l,ps,key,rfl,el,hl,hp,hnd,q⟩:=h;cases rv with
 | cons r rr=>
  cases rr;cases r;obtain⟨its,rl,pl,hz⟩:=I.list (SqL.of el);have e:=vy rl;subst e;have hR:SRT.Af s (rkP key) (ps.map Value.ref):=by
   refine⟨fun v hv=>?_,?_⟩
   ·obtain⟨p,hm,rfl⟩:=mem_map.mp hv;obtain⟨v,u,ep⟩:=hp p hm;obtain⟨ts,rt,pt,_⟩:=I.tuple (SqT.of ep);obtain⟨ob,g1,g2,n,g3⟩:=pt;cases rt with
    | cons r1 rt=>
     cases rt with
     | cons r2 rt=>
      cases rt with
      | cons r3 rt=>
       cases rt;obtain⟨t,rfl⟩:=r1;obtain⟨t2,rfl⟩:=r2;obtain⟨t3,rfl⟩:=r3;exact⟨p,ob,n,t,_,_,_,_,rfl,g1,g2,g3⟩
   ·rw[map_map];exact hnd
  refine SRT.Ku (g:=rkP key) pl.isList (fun A E s' kp=>⟨SRT.acz (hR.keep kp),fun Q hn q=>SRT.aco (fun v hv=>⟨_,(hR.keep kp).tk v hv⟩) hn q⟩) (by rw[length_map];exact hl) fun ys hy ho=>?_
  ·obtain⟨qs,e,hq⟩:=Bv hy;rw[e,map_map] at ho;have ho2:(qs.map key).Pairwise (· < ·):=by
    have hne:(qs.map key).Pairwise (·≠·):=((hq.map key).nodup_iff).mpr hnd;exact(List.Pairwise.and (show(qs.map key).Pairwise (·<=·) from ho) hne).imp fun z=>Int.lt_iff_le_and_ne.mpr z
   obtain⟨n,he⟩:=sortedAll_at s.heap (ps.map Value.ref) ys;have le:s.heap.objs.size<=s.heap.objs.size+1:=Nat.le_succ _;have hf:H (s.heap.objs.size+1)=none:=I.hok.fresh le;refine⟨.ref (s.heap.objs.size+1),_,I.laid (t':=s.toks) (fun c o z=>sortedAll_old z) le (show cO X.prog X.w _ _ _ (.lst (qs.map V.ref)) from⟨aP (by rw[length_map,hq.length_eq];omega),qs.map Value.ref,n,vH qs,?_⟩),rfl,q _ qs hf hq ho2⟩;rw[he];have:ys=(qs.map Value.ref).toArray:=by rw[<- e]
   rw[this]
end
def okB (kvs:List (Key×V))(k:Nat)(b:Int):Bool:=decide ((jg kvs (Sum.inl b)).getD (.int (k:Int))=.int (k:Int))
structure Own (w:Int)(ns:List Int)(kvs:List (Key×V))(css:List (List It1)):Prop where
 vals:∀b v,jg kvs (Sum.inl b)=some v->∃k:Int,v=.int k
 own:∀(k:Nat) its it b,css[k]?=some its->it∈its->b∈ns->aN w b it=true->jg kvs (Sum.inl b)=some (.int (k:Int))
theorem Own.start {w:Int}{ns:List Int}:Own w ns [] []:=⟨fun b v h=>(by cases h),fun k its it b h=>(by cases h)⟩
theorem Own.fresh {w:Int}{ns:List Int}{kvs:List (Key×V)}{css:List (List It1)}(h:Own w ns kvs css):Own w ns kvs (css++[[]]):=by
 refine⟨h.vals,fun k its it b hk hi=>?_⟩;rcases Nat.lt_or_ge k css.length with c|c
 ·rw[getElem?_append_left c] at hk;exact h.own k its it b hk hi
 ·rw[getElem?_append_right c] at hk;cases e:k-css.length with
  | zero=>
   rw[e] at hk;cases hk;cases hi
  | succ n=>rw[e] at hk;cases hk
theorem rW {k:Int}{j:Key}:∀{bs:List Int}{kvs:List (Key×V)},jg (putAll kvs (bs.map fun b=>((Sum.inl b:Key),V.int k))) j=if (∃b,b∈bs/\j=Sum.inl b) then some (.int k) else jg kvs j
 | [],kvs=>by
  rw[if_neg (by rintro⟨b,m,_⟩;cases m)];rfl
 | b::bs,kvs=>by
  have ih:=rW (k:=k) (j:=j) (bs:=bs) (kvs:=putK kvs (Sum.inl b) (.int k));rw[map_cons];show jg (putAll (putK kvs (Sum.inl b) (.int k)) _) j=_;rw[ih,O9];by_cases c:∃b',b'∈bs/\j=Sum.inl b'
  ·rw[if_pos c,if_pos];obtain⟨b',m,e⟩:=c;exact⟨b',mem_cons_of_mem _ m,e⟩
  ·rw[if_neg c];by_cases e:j=Sum.inl b
   ·rw[if_pos e,if_pos ⟨b,mem_cons_self ..,e⟩]
   ·rw[if_neg e,if_neg];rintro⟨b',m,e'⟩;rcases mem_cons.mp m with rfl|m
    ·exact e e'
    ·exact c ⟨b',m,e'⟩
theorem RJ (kvs:List (Key×V))(k:Key)(v:V):(putK kvs k v).length<=kvs.length+1:=by
 unfold putK;split
 ·rw[length_map];omega
 ·rw[length_append,length_singleton];omega
theorem yg:∀{prs kvs:List (Key×V)},(putAll kvs prs).length<=kvs.length+prs.length
 | [],kvs=>Nat.le_refl _
 | p::prs,kvs=>by
  have ih:=yg (prs:=prs) (kvs:=putK kvs p.1 p.2);have:=RJ kvs p.1 p.2;show(putAll (putK kvs p.1 p.2) prs).length<=_;rw[length_cons];omega
theorem Own.put {w:Int}{ns:List Int}{kvs:List (Key×V)}{css:List (List It1)}{its:List It1}{it:It1}(h:Own w ns kvs (css++[its]))(hb:∀b,b∈ns.filter (fun b=>aN w b it)->okB kvs css.length b=true) :
  Own w ns (putAll kvs ((ns.filter (fun b=>aN w b it)).map fun b=>((Sum.inl b:Key),V.int (css.length:Int)))) (css++[its++[it]]):=by
 refine⟨fun b v e=>?_,fun k its' it' b hk hi hbn hp=>?_⟩
 ·rw[rW] at e;split at e
  ·cases e;exact⟨_,rfl⟩
  ·exact h.vals b v e
 ·rw[rW];have old:(k<css.length\/it'∈its)->jg kvs (Sum.inl b)=some (.int (k:Int)):=fun z=>by
   rcases Nat.lt_or_ge k css.length with c|c
   ·rw[getElem?_append_left c] at hk;exact h.own k its' it' b (by rw[getElem?_append_left c];exact hk) hi hbn hp
   ·have hi':=z.resolve_left ω;rw[getElem?_append_right c] at hk;have e0:k-css.length=0:=by
     cases e:k-css.length with
     | zero=>rfl
     | succ n=>rw[e] at hk;cases hk
    exact h.own k its it' b (by rw[getElem?_append_right c,e0];rfl) hi' hbn hp
  have kle:k<=css.length:=by
   have:=(List.getElem?_eq_some_iff.mp hk).1;rw[length_append,length_singleton] at this;omega
  split
  ·rename_i c;obtain⟨b',m,e⟩:=c;cases e;have ho:=hb b m;unfold okB at ho;rw[decide_eq_true_iff] at ho;rcases Nat.lt_or_ge k css.length with c|c
   ·rw[old (.inl c)] at ho;replace ho:V.int (k:Int)=V.int (css.length:Int):=ho;rw[ho]
   ·rw[show k=css.length by omega]
  ·rename_i c;refine old ?_;rcases Nat.lt_or_ge k css.length with c2|c2
   ·exact .inl c2
   ·right;rw[getElem?_append_right c2] at hk;have e0:k-css.length=0:=ω;rw[e0] at hk;cases hk;rcases mem_append.mp hi with m|m
    ·exact m
    ·rw[mem_singleton.mp m] at hp;exact absurd ⟨b,mem_filter.mpr ⟨hbn,hp⟩,rfl⟩ c
theorem Own.calm {w s:Int}{ns:List Int}{kvs:List (Key×V)}{css:List (List It1)}(h:Own w ns kvs css)(hs:∀b,jw w s css b->b∈ns):Calm w s css:=by
 intro b hb;rcases Nat.lt_or_ge (jD w css b) 2 with c|c
 ·exact c
 ·exfalso;rw[<- qe] at c;have nd:=Yh (w:=w) (n:=b) (css:=css);cases e:eO w b css with
  | nil=>rw[e] at c;simp at c
  | cons x l=>
   cases l with
   | nil=>rw[e] at c;simp at c
   | cons y l=>
    have hx:x∈eO w b css:=by rw[e];simp
    have hy:y∈eO w b css:=by rw[e];simp
    rw[e] at nd;have hne:x≠y:=fun z=>(pairwise_cons.mp nd).1 y (by simp) z;obtain⟨its1,k1,a1⟩:=uQ.mp hx;obtain⟨its2,k2,a2⟩:=uQ.mp hy;obtain⟨i1,m1,p1⟩:=any_eq_true.mp a1;obtain⟨i2,m2,p2⟩:=any_eq_true.mp a2;have v1:=h.own x its1 i1 b k1 m1 (hs b hb) p1;have v2:=h.own y its2 i2 b k2 m2 (hs b hb) p2;rw[v1] at v2;injection v2 with v2;injection v2 with v2;omega
theorem Np {ms:List Int}{i:Nat}{cur high b:Int}(hup:ms.Pairwise (· < ·))(hi:ms[i]?=some cur)(hj:ms[i+1]?=some high)(hb:b∈ms)(hlt:cur<b):high<=b:=by
 obtain⟨k,hk⟩:=List.getElem?_of_mem hb;obtain⟨li,ei⟩:=List.getElem?_eq_some_iff.mp hi;obtain⟨lj,ej⟩:=List.getElem?_eq_some_iff.mp hj;obtain⟨lk,ek⟩:=List.getElem?_eq_some_iff.mp hk;rcases Nat.lt_or_ge k (i+1) with c|c
 ·exfalso;rcases Nat.lt_or_ge k i with c2|c2
  ·have:=pairwise_iff_getElem.mp hup k i lk li c2;rw[ek,ei] at this;omega
  ·have:k=i:=by omega
   subst this;rw[ei] at ek;omega
 ·rcases Nat.lt_or_ge (i+1) k with c2|c2
  ·have:=pairwise_iff_getElem.mp hup (i+1) k lj lk c2;rw[ek,ej] at this;omega
  ·have:k=i+1:=by omega
   subst this;rw[ej] at ek;omega
theorem V4 {ns:List Int}{last:Int}(h:ns.Pairwise (· < ·))(hl:∀b,b∈ns->b<last):(ns++[last]).Pairwise (· < ·):=
 pairwise_append.mpr ⟨h,pairwise_singleton _ _,fun a ma b mb=>by rw[mem_singleton.mp mb];exact hl a ma⟩
theorem Ek {w s:Int}{css:List (List It1)}{ns:List Int}(hup:ns.Pairwise (· < ·))(hns:∀b,b∈ns↔jw w s css b):∃r,ns=wl w s::r:=by
 have hm:wl w s∈ns:=(hns _).mpr ⟨uR,.inr (.inl rfl)⟩;cases ns with
 | nil=>cases hm
 | cons a r=>
  rcases mem_cons.mp hm with e|m
  ·exact⟨r,by rw[e]⟩
  ·have h1:=(pairwise_cons.mp hup).1 _ m;have h2:=((hns a).mp (mem_cons_self ..)).1.1;omega
theorem Yi {w s cur high n:Int}{css:List (List It1)}{ns:List Int}{i:Nat}(h1:1<=w)(hs:s=0\/s=1)(hok:∀its,its∈css->∀it,it∈its->It1.Ok w s it)(hns:∀b,b∈ns↔jw w s css b)(hup:(ns++[wl w s+2^w.toNat]).Pairwise (· < ·))(hi:(ns++[wl w s+2^w.toNat])[i]?=some cur)(hj:(ns++[wl w s+2^w.toNat])[i+1]?=some high)(n1:cur<=n)(n2:n<high):gj w n css=gj w cur css:=by
 have li:i<ns.length:=by
  have:=(List.getElem?_eq_some_iff.mp hj).1;rw[length_append,length_singleton] at this;omega
 rw[getElem?_append_left li] at hi;have kc:=((hns cur).mp (mem_of_getElem? hi)).1;have mh:=mem_of_getElem? hj;have hh:high<=wl w s+2^w.toNat:=by
  rcases mem_append.mp mh with m|m
  ·exact Int.le_of_lt ((hns high).mp m).1.2
  ·rw[mem_singleton.mp m];exact Int.le_refl _
 have c1:=kc.1;refine BW h1 hs hok kc (d:=(n-cur).toNat) ω ⟨ω,ω⟩ fun b b1 b2 hb=>?_;have:=Np hup (by rw[getElem?_append_left li];exact hi) hj (mem_append_left _ ((hns b).mpr hb)) b1;omega
structure DA (K:PySem.W.Frag)(x:Str)(st:Stmt)(f:Addr)(od an:Option Addr)(sl:Array (Option Value))(oc kV dc pm cd ct:Value):Prop where
 a:nsIn K mainGlobals x=some (some (.ref f))
 l:K.lookup f=some ⟨oc,od,.func (fnOf x x (iZ st) (fZ st) (aj st) .none kV dc pm an cd ct),sl⟩
 c:codeIn K cd x=true
 k:keepIn K (.ref f)=true
theorem DA.d {K:PySem.W.Frag}{h:Heap}{mg:Str->Option Value}{x:Str}{st:Stmt}{f:Addr}{od an:Option Addr}{sl:Array (Option Value)}{oc kV dc pm cd ct:Value}(D:DA K x st f od an sl oc kV dc pm cd ct)(ps:List Str)(X:K.In h)(G:h.Ns mainGlobals mg)
  (hb:∀(kV doc pm:Value)(an:Option Addr)(cdv ct:Value)(us:List Value),us.length=ps.length->bindArgs (fnOf x x (iZ st) (fZ st) (aj st) .none kV doc pm an cdv ct) ⟨us,[]⟩=pure (ps.zip us)):Zk K mg x st ps f (fnOf x x (iZ st) (fZ st) (aj st) .none kV dc pm an cd ct):=
 abB X G D.a D.l D.c D.k hb
end L2
local macro_rules | `(tactic| push_cast) => `(tactic| ((try dsimp only [L2.tV, L2.Ii, L2.PX, L2.wD, L2.tOp, L2.tC, L2.Fp, L2.Kd, L2.oU, L2.jT, L2.xW, L2.tCB, L2.tIf, L2.Wb, L2.tB, L2.Wd, L2.tOr, L2.PL, L2.Mq, L2.wW, L2.lH, L2.rI0, getElem?_cons_zero, getElem?_cons_succ, set_cons_zero, set_cons_succ]); try simp only [↓L2.rdy, L2.rdy, ↓reduceIte, reduceCtorEq, Nat.reduceAdd, Nat.reduceSub]))
local macro_rules | `(tactic| push_cast [$ls,*]) => `(tactic| ((try dsimp only [L2.tV, L2.Ii, L2.PX, L2.wD, L2.tOp, L2.tC, L2.Fp, L2.Kd, L2.oU, L2.jT, L2.xW, L2.tCB, L2.tIf, L2.Wb, L2.tB, L2.Wd, L2.tOr, L2.PL, L2.Mq, L2.wW, L2.lH, L2.rI0, getElem?_cons_zero, getElem?_cons_succ, set_cons_zero, set_cons_succ]); try simp only [↓L2.rdy, L2.rdy, ↓reduceIte, reduceCtorEq, Nat.reduceAdd, Nat.reduceSub, $ls,*]))
namespace K08
open PySem L2 PyProof.Rows
def top (i:Nat):Stmt:=PySem.Challenge.pw_caseways_k08_numbers_in_stretches.main.body.getD i (.Pass ⟨0,0,0,0⟩)
abbrev BLs:List Str:=["abs","all","any","bool","enumerate","int","isinstance","len","list","max","min","range","repr","set","sorted","str","sum","tuple","zip"]
theorem TQ:("abs" : Str)∈BLs:=by decide +kernel
theorem DR:("all" : Str)∈BLs:=by decide +kernel
theorem TF:("any" : Str)∈BLs:=by decide +kernel
theorem xH:("bool" : Str)∈BLs:=by decide +kernel
theorem iU:("enumerate" : Str)∈BLs:=by decide +kernel
theorem yX:("int" : Str)∈BLs:=by decide +kernel
theorem bD:("isinstance" : Str)∈BLs:=by decide +kernel
theorem qb:("len" : Str)∈BLs:=by decide +kernel
theorem uN:("list" : Str)∈BLs:=by decide +kernel
theorem Tz:("max" : Str)∈BLs:=by decide +kernel
theorem Jw:("min" : Str)∈BLs:=by decide +kernel
theorem gw:("range" : Str)∈BLs:=by decide +kernel
theorem K5:("repr" : Str)∈BLs:=by decide +kernel
theorem aa9:("set" : Str)∈BLs:=by decide +kernel
theorem qT:("sorted" : Str)∈BLs:=by decide +kernel
theorem Jv:("str" : Str)∈BLs:=by decide +kernel
theorem aa8:("sum" : Str)∈BLs:=by decide +kernel
theorem uM:("tuple" : Str)∈BLs:=by decide +kernel
theorem Ju:("zip" : Str)∈BLs:=by decide +kernel
abbrev Ai:List Str:=["_law_script","_law_k"]
abbrev GI_ (s:Stmt)(x:Str):Prop:=(aj s).names.lookup x=some .globalImplicit
abbrev NM_ (N:List Str)(s:Stmt)(i:Nat)(x:Str):Prop:=Nm N (aj s) i x
abbrev mU:Stmt:=top 25
theorem Mz:aY Ai ["_law_script","_law_k"] (aj mU):=⟨rfl,rfl,rfl,ψ,rfl,ψ,ψ⟩
theorem yK:NM_ Ai mU 0 "_law_script" := .of ψ
theorem yJ:NM_ Ai mU 1 "_law_k" := .of ψ
theorem Ei:GI_ mU "len" := by decide +kernel
theorem O2:Bn "_law_cell_at" := ⟨ψ,ψ⟩
abbrev Ez:List Str:=["_law_script","_law_k","_law_cell"]
abbrev nG:Stmt:=top 26
theorem Kw:aY Ez ["_law_script","_law_k"] (aj nG):=⟨rfl,rfl,rfl,ψ,rfl,ψ,ψ⟩
theorem S6:NM_ Ez nG 0 "_law_script" := .of ψ
theorem yq:NM_ Ez nG 1 "_law_k" := .of ψ
theorem ux:NM_ Ez nG 2 "_law_cell" := .of ψ
theorem zB:GI_ nG "_law_cell_at" := by decide +kernel
theorem zA:GI_ nG "abs" := by decide +kernel
theorem JF:GI_ nG "int" := by decide +kernel
theorem Y0:Bn "_law_tape" := ⟨ψ,ψ⟩
abbrev wC:List Str:=["_law_tape_here","_law_many","_law_found","_law_prime","_law_once"]
abbrev nH:Stmt:=top 27
theorem tY:aY wC ["_law_tape_here","_law_many"] (aj nH):=⟨rfl,rfl,rfl,ψ,rfl,ψ,ψ⟩
theorem dG:NM_ wC nH 0 "_law_tape_here" := .of ψ
theorem pK:NM_ wC nH 1 "_law_many" := .of ψ
theorem pJ:NM_ wC nH 2 "_law_found" := .of ψ
theorem Gn:NM_ wC nH 3 "_law_prime" := .of ψ
theorem yr:NM_ wC nH 4 "_law_once" := .of ψ
theorem Ec:GI_ nH "_law_take" := by decide +kernel
theorem cU:Bn "_law_take" := ⟨ψ,ψ⟩
section
variable {P:Program}{w:World}{K:PySem.W.Frag}{mg:Str->Option Value}{base:Heap}{f:Addr}{fd:FuncData}{bs:List Str}
theorem XF (hB:∀x:Str,x∈BLs->mg x=none) (F:Fun K "_law_cell_at" "_law_cell_at" mU f fd):dm P w K mg base CX0 1 f fd ["_law_script","_law_k"] (Qv K):=by
 refine F.okq Mz (fun vs H Q E h=>?_) (fun cdv A outer s H vs Q E hr h=>?_)
 ·obtain⟨a,ns,k,rfl,_⟩:=h;rfl
 ·obtain⟨a,ns,k,rfl,hS,h0,q⟩:=h;refine⟨_,(aG (aO (ur (aU pH (ao yJ) (cB jZ Ei (hB "len" qb) PySem.boot_len qJ (ak (ao yK) au rfl) rfl rfl) (aM _)) (aX K8 (ao yK) (ao yJ) (fun _ _=>rfl)) aq))),?_⟩;push_cast;refine⟨_,.inl hS,?_⟩;split
  ·rename_i c;rw[length_map] at c;have hk:k.toNat<ns.length:=ω;have ek:k=((k.toNat:Nat):Int):=ω;have z:atI (ns.map V.int) ((k.toNat:Nat):Int)=some (.int ns[k.toNat]):=gJ (by rw[getElem?_map,getElem?_eq_getElem hk];rfl);rw[<- ek] at z;unfold abW;exact⟨a,_,k,_,rfl,rfl,hS,z,q _⟩
  ·exact q _
theorem Xw (hB:∀x:Str,x∈BLs->mg x=none) (CZCellAt:Cal P w K mg base "_law_cell_at" 1 ["_law_script","_law_k"] (Qv K)) (F:Fun K "_law_tape" "_law_tape" nG f fd):dm P w K mg base CX0 2 f fd ["_law_script","_law_k"] (Qm K):=by
 refine F.okq Kw (fun vs H Q E h=>?_) (fun cdv A outer s H vs Q E hr h=>?_)
 ·obtain⟨a,ns,k,rfl,_⟩:=h;rfl
 ·obtain⟨a,ns,k,rfl,hS,h0,h1,q⟩:=h;refine⟨_,(aD (bQ ux Kw.nd (bw CZCellAt (hr.mono δ) zB O2 (ak (ao S6) (ak (ao yq) au rfl) rfl) rfl rfl) rfl (.inl rfl))
   (aG (aO (dg (ak (aJ iD (cB G9 zA (hB "abs" TQ) PyProof.Rows.Boot.«abs» Vm (ak (ao ux) au rfl) rfl rfl) (Rz tu JF (hB "int" yX) boot_int zY (ak (fM ZD (cB G9 zA (hB "abs" TQ) PyProof.Rows.Boot.«abs» Vm (ak (ao ux) au rfl) rfl rfl) (aJ Sg aq aq) (aM _)) au rfl) rfl rfl)) (ak (aJ jG (aJ iD (aJ bA (aJ bA (aJ jG (ao ux) aq) (aJ iD (aJ iD aq (ao yq)) (ao yq))) aq) aq) aq) (ak aq au rfl) rfl) rfl))))),?_⟩
  push_cast;refine⟨a,ns,k,rfl,hS,h0,fun v=>?_⟩;push_cast;refine⟨⟨δ,δ,δ⟩,?_,δ,.inl δ,.inr ω,.inr δ,δ,aP δ,fun p hp=>q p _ hp (aA hp) ⟨_,_,_,aB,?_,?_,?_,Int.le_refl _,Int.le_refl _⟩⟩
  ·right;generalize (if v<0 then -v else v)=u;split <;> decide
  ·refine Int.mul_nonneg ?_ ?_
   ·split <;> omega
   ·generalize (if v<0 then -v else v)=u;split <;> decide
  ·exact Int.emod_nonneg _ δ
  ·exact Int.emod_lt_of_pos _ δ
theorem KZ {n:Nat}(hB:∀x:Str,x∈BLs->mg x=none) (hn:n<=10) (CZTake:Cal P w K mg base "_law_take" n ["_law_tape_here","_law_many"] (gM n)) (F:Fun K "_law_take" "_law_take" nH f fd):dm P w K mg base CX0 (n+1) f fd ["_law_tape_here","_law_many"] (gM (n+1)):=by
 refine F.okq tY (fun vs H Q E h=>?_) (fun cdv A outer s H vs Q E hr h=>?_)
 ·obtain⟨p,m,B,rfl,_⟩:=h;rfl
 ·obtain⟨p,m,B,rfl,⟨a,b,c,hp,ha,hb0,hb1,hc0,hc1⟩,hB0,hm0,hm1,hn1,hn2,q⟩:=h;refine⟨_,(aD (cA (aU KY (aX b7 (ao dG) aq (fun _ _=>rfl)) aq (aM _)) (aD (bQ pJ tY.nd (aJ jG (aX b7 (ao dG) aq (fun _ _=>rfl)) (ao pK)) rfl (.inl rfl))
   (aD (iz (aJ Gj (aX b7 (ao dG) aq (fun _ _=>rfl)) (ao pK)) (Dr (ao dG) aq Fz) rfl rfl rfl)
   (aG (aO (ao pJ))))) bL)
   (aD (iz (aJ bA (aX b7 (ao dG) aq (fun _ _=>rfl)) aq) (Dr (ao dG) aq Fz) rfl rfl rfl)
   (aD (bQ Gn tY.nd (aX b7 (dg (ak aq (ak aq (ak aq (ak aq (ak aq (ak aq (ak aq au rfl) rfl) rfl) rfl) rfl) rfl) rfl)) (aJ jG (aX b7 (ao dG) aq (fun _ _=>rfl)) aq) (fun _ _=>rfl)) rfl (.inl rfl))
   (aD (bQ yr tY.nd (aJ jG (aJ iD (aJ bA (aX b7 (ao dG) aq (fun _ _=>rfl)) (aJ iD aq (aX b7 (ao dG) aq (fun _ _=>rfl)))) (aJ bA aq (aX b7 (ao dG) aq (fun _ _=>rfl)))) (ao Gn)) rfl (.inl rfl))
   (aD (iz (aJ jG (aJ bA (aJ iD (ao yr) (aJ bA (aJ jG (ao yr) aq) aq)) (aX b7 (ao dG) aq (fun _ _=>rfl))) aq) (Dr (ao dG) aq Fz) rfl rfl rfl)
   (aD (bQ pJ tY.nd (aJ Gj (aJ jG (aJ iD (aX b7 (ao dG) aq (fun _ _=>rfl)) (aJ bA (aJ jG (aX b7 (ao dG) aq (fun _ _=>rfl)) aq) aq)) aq) aq) rfl (.inl rfl))
   (aG (aO (ur (aU pH (ao pK) (aJ Sg aq aq) (aM _)) (aJ jG (ao pJ) (ao pK)) (aJ jG (aJ bA (aJ iD (ao pJ) aq) (bw CZTake (hr.mono ω) Ec cU (ak (ao dG) (ak aq au rfl) rfl) rfl rfl)) (ao pK))))))))))),?_⟩
  push_cast [hp];split
  ·refine⟨hm0,⟨hm0,hm1⟩,?_⟩;refine q _ _ (Int.emod_nonneg _ ω) (Int.emod_lt_of_pos _ hm0) dZ.upd ⟨_,_,_,aB,Int.ediv_nonneg ha ω,hb0,hb1,hc0,ω⟩
  ·refine⟨aP δ,fun p1 hp1=>?_⟩;have np:p≠p1:=fun z=>by rw[<- z,aB] at hp1;cases hp1
   obtain⟨v,hv,v0⟩:=aaA (c+1);push_cast [hp,aH np,ne_eq,np,not_false_eq_true,hv];have m1:∀x:Int,0<=x%40009/\x%40009<40009:=fun x=>⟨Int.emod_nonneg _ δ,Int.emod_lt_of_pos _ δ⟩;have m2:∀x:Int,0<=x%1009/\x%1009<1009:=fun x=>⟨Int.emod_nonneg _ δ,Int.emod_lt_of_pos _ δ⟩;have m3:∀x:Int,0<=x%2147483629/\x%2147483629<2147483629:=fun x=>⟨Int.emod_nonneg _ δ,Int.emod_lt_of_pos _ δ⟩;refine⟨δ,.inl δ,.inr ω,v0,δ,.inr ?_,δ,δ,.inr ?_,δ,δ,δ,?_⟩
   ·have:=m1 ((b+39373*(c+1))*(48271+(c+1))%v);omega
   ·have:=m2 (((b+39373*(c+1))*(48271+(c+1))%v*((b+39373*(c+1))*(48271+(c+1))%v%40009+7)+(c+1))%2147483629);omega
   ·have e3:=m3 ((b+39373*(c+1))*(48271+(c+1))%v*((b+39373*(c+1))*(48271+(c+1))%v%40009+7)+(c+1));generalize ((b+39373*(c+1))*(48271+(c+1))%v*((b+39373*(c+1))*(48271+(c+1))%v%40009+7)+(c+1))%2147483629=y at e3 |-;have sx:dZ p H (upd (upd (upd H p (HO.lst [V.int a,V.int b,V.int (c+1)])) p1 (HO.lst [V.int 2147483587,V.int 2147483579,V.int 2147483563,V.int 2147483549,V.int 2147483543,V.int 2147483497,V.int 2147483489])) p (HO.lst [V.int a,V.int y,V.int (c+1)])):=
     (dZ.upd.trans (aA hp1).x).trans dZ.upd
    have tp:bO (upd (upd (upd H p (HO.lst [V.int a,V.int b,V.int (c+1)])) p1 (HO.lst [V.int 2147483587,V.int 2147483579,V.int 2147483563,V.int 2147483549,V.int 2147483543,V.int 2147483497,V.int 2147483489])) p (HO.lst [V.int a,V.int y,V.int (c+1)])) p (B+1):=
     ⟨a,y,c+1,aB,ha,e3.1,e3.2,ω,ω⟩
    generalize upd (upd (upd H p (HO.lst [V.int a,V.int b,V.int (c+1)])) p1 (HO.lst [V.int 2147483587,V.int 2147483579,V.int 2147483563,V.int 2147483549,V.int 2147483543,V.int 2147483497,V.int 2147483489])) p (HO.lst [V.int a,V.int y,V.int (c+1)])=H2 at sx tp |-;split
    ·refine⟨hm0,q _ _ (Int.emod_nonneg _ ω) (Int.emod_lt_of_pos _ hm0) sx ?_⟩;obtain⟨a',b',c',z1,z2,z3,z4,z5,z6⟩:=tp;exact⟨a',b',c',z1,z2,z3,z4,z5,ω⟩
    ·rename_i hm;have hm':1000000<=m:=by
      rw[show(10:Int)^Int.toNat 6=1000000 from by decide] at hm;omega
     have hn3:=hn2 hm';refine⟨.inr δ,p,99991,B+1,rfl,tp,ω,δ,δ,ω,fun z=>absurd z δ,fun r H3 r0 r1 s3 t3=>?_⟩;push_cast;refine⟨hm0,q _ _ (Int.emod_nonneg _ ω) (Int.emod_lt_of_pos _ hm0) (sx.trans s3) ?_⟩;obtain⟨a',b',c',z1,z2,z3,z4,z5,z6⟩:=t3;exact⟨a',b',c',z1,z2,z3,z4,z5,ω⟩
theorem Mp:dm P w K mg base CX0 0 f fd ["_law_tape_here","_law_many"] (gM 0):=by
 have no:∀vs H Q E,¬gM 0 vs H Q E:=fun vs H Q E h=>by
  obtain⟨p,m,B,_,_,_,_,_,h1,_⟩:=h;omega
 exact⟨fun vs H Q E h=>absurd h (no vs H Q E),fun A outer s H args us vs Q E _ _ _ _ h=>absurd h (no vs H Q E)⟩
abbrev EY:List Str:=["_law_found","_law_due"]
abbrev gO:Stmt:=top 41
theorem Wl:aY EY ["_law_found","_law_due"] (aj gO):=⟨rfl,rfl,rfl,ψ,rfl,ψ,ψ⟩
theorem fU:NM_ EY gO 0 "_law_found" := .of ψ
theorem fC:NM_ EY gO 1 "_law_due" := .of ψ
theorem JK:GI_ gO "all" := by decide +kernel
theorem qm:GI_ gO "bool" := by decide +kernel
theorem JH:GI_ gO "int" := by decide +kernel
theorem bx:GI_ gO "isinstance" := by decide +kernel
theorem zE:GI_ gO "len" := by decide +kernel
theorem ql:GI_ gO "list" := by decide +kernel
theorem sV:GI_ gO "str" := by decide +kernel
theorem nU:GI_ gO "tuple" := by decide +kernel
theorem JG:GI_ gO "zip" := by decide +kernel
theorem Lx:Bn "_law_same" := ⟨ψ,ψ⟩
theorem xG {n:Nat}(hB:∀x:Str,x∈BLs->mg x=none) (CZSame:Cal P w K mg base "_law_same" n ["_law_found","_law_due"] (tR n)) (F:Fun K "_law_same" "_law_same" gO f fd):dm P w K mg base CX0 (n+1) f fd ["_law_found","_law_due"] (tR (n+1)):=by
 refine F.okq Wl (fun vs H Q E h=>?_) (fun cdv A outer s H vs Q E hr h=>?_)
 ·obtain⟨x,y,ok,d,rfl,_⟩:=h;rfl
 ·obtain⟨x,y,ok,d,rfl,tx,ty,hd,q⟩:=h;refine⟨_,(aD (cA (gQ (cB Ow bx (hB "isinstance" bD) boot_isinstance bF (ak (ao fC) (ak (cX (ak (jz "list" ql (hB "list" uN) boot_list xJ) (ak (jz "tuple" nU (hB "tuple" uM) boot_tuple vh) au rfl) rfl)) au rfl) rfl) rfl rfl) (fun _=>rfl)) (aD (cA (vJ (rG (aU (kj hr.aZ) (cB cP bx (hB "isinstance" bD) boot_isinstance bF (ak (ao fU) (ak (jz "list" ql (hB "list" uN) boot_list xJ) au rfl) rfl) rfl rfl) (cB cP bx (hB "isinstance" bD) boot_isinstance bF (ak (ao fC) (ak (jz "list" ql (hB "list" uN) boot_list xJ) au rfl) rfl) rfl rfl) (aM _)) (pD (aU (kj hr.aZ) (cB cP bx (hB "isinstance" bD) boot_isinstance bF (ak (ao fU) (ak (jz "tuple" nU (hB "tuple" uM) boot_tuple vh) au rfl) rfl) rfl rfl) (cB cP bx (hB "isinstance" bD) boot_isinstance bF (ak (ao fC) (ak (jz "tuple" nU (hB "tuple" uM) boot_tuple vh) au rfl) rfl) rfl rfl) (aM _))))) (aG (aO pF)) bL)
   (aD (cA (aU (kj hr.aZ) (cB jr zE (hB "len" qb) PySem.boot_len qJ (ak (ao fU) au rfl) rfl rfl) (cB jr zE (hB "len" qb) PySem.boot_len qJ (ak (ao fC) au rfl) rfl rfl) (aM _)) (aG (aO pF)) bL)
   (aG (aO (cB (qY rfl) JK (hB "all" DR) PyProof.Rows.Boot.«all» Ep (ak (eY (NX:=EY) (kX:=(aj gO).names) ["_law_one","_law_other"] [none,none] rfl rfl ⟨rfl,ψ,ψ,ψ,ψ⟩ rfl (Dq JG (hB "zip" Ju) (ak (ao fU) (ak (ao fC) au rfl) rfl) rfl rfl) (fun _ _ _ _ _=>(dX (n:=2) rfl (aK (cI 0 (show List.Nodup (["_law_one","_law_other"]:List Str) from by decide +kernel) rfl (Or.inl rfl)) (aK (cI 1 (show List.Nodup (["_law_one","_law_other"]:List Str) from by decide +kernel) rfl (Or.inl rfl)) cR rfl) rfl) rfl rfl)) (fun _ _ _ _ _=>jF) (fun _ _ _ _ _=>(bw CZSame (hr.mono ω) rfl Lx (ak (bI 0) (ak (bI 1) au rfl) rfl) rfl rfl))) au rfl) rfl rfl))))) bL)
   (aD (cA (vJ (rG (aU Sq (ao fC) rR (aM _)) (pD (gQ (cB cP bx (hB "isinstance" bD) boot_isinstance bF (ak (ao fC) (ak (jz "str" sV (hB "str" Jv) boot_str JZ) au rfl) rfl) rfl rfl) (fun _=>rfl))))) (aG (aO (rT (fM (bT hr.aZ) (ao fU) (ao fC) (aM _)) (vL (fM (bT hr.aZ) (cB cP bx (hB "isinstance" bD) boot_isinstance bF (ak (ao fU) (ak (jz "str" sV (hB "str" Jv) boot_str JZ) au rfl) rfl) rfl rfl) (cB cP bx (hB "isinstance" bD) boot_isinstance bF (ak (ao fC) (ak (jz "str" sV (hB "str" Jv) boot_str JZ) au rfl) rfl) rfl rfl) (aM _)))))) bL)
   (aD (cA (gQ (cB cP bx (hB "isinstance" bD) boot_isinstance bF (ak (ao fC) (ak (jz "bool" qm (hB "bool" xH) boot_bool xK) au rfl) rfl) rfl rfl) (fun _=>rfl)) (aG (aO (rT (cB cP bx (hB "isinstance" bD) boot_isinstance bF (ak (ao fU) (ak (jz "bool" qm (hB "bool" xH) boot_bool xK) au rfl) rfl) rfl rfl) (vL (fM (bT hr.aZ) (ao fU) (ao fC) (aM _)))))) bL)
   (aG (aO (rT (cB cP bx (hB "isinstance" bD) boot_isinstance bF (ak (ao fU) (ak (jz "int" JH (hB "int" yX) boot_int zY) au rfl) rfl) rfl rfl) (rT (Rx (cB cP bx (hB "isinstance" bD) boot_isinstance bF (ak (ao fU) (ak (jz "bool" qm (hB "bool" xH) boot_bool xK) au rfl) rfl) rfl rfl)) (vL (fM (bT hr.aZ) (ao fU) (ao fC) (aM _)))))))))),?_⟩
  cases tx with
  | non=>
   cases ty;refine aL fun k hk=>?_;push_cast;refine⟨aP δ,fun t ht=>?_⟩;subst hk;refine aL fun k hk=>?_;push_cast;exact q _ (aA ht)
  | bl b=>
   cases ty;refine aL fun k hk=>?_;push_cast;refine⟨aP δ,fun t ht=>?_⟩;subst hk;refine aL fun k hk=>?_;push_cast;subst hk;refine aL fun k hk=>?_;push_cast;exact q _ (aA ht)
  | int i=>
   cases ty;refine aL fun k hk=>?_;push_cast;refine⟨aP δ,fun t ht=>?_⟩;subst hk;refine aL fun k hk=>?_;push_cast;subst hk;refine aL fun k hk=>?_;push_cast;subst hk;push_cast;exact q _ (aA ht)
  | str x=>
   cases ty;refine aL fun k hk=>?_;push_cast;refine⟨aP δ,fun t ht=>?_⟩;subst hk;refine aL fun k hk=>?_;push_cast;exact q _ (aA ht)
  | lst o1 e1 z1 ts1=>
   rename_i p1 xs1 ds;cases ty with
   | lst o2 e2 z2 ts2=>
    rename_i p2 xs2;have l1:=ts1.length;have l2:=ts2.length;refine aL fun k hk=>?_;push_cast [e1,e2];refine⟨aP δ,fun t ht=>?_⟩;have s1:=aA (o:=HO.tup [V.ty "list",V.ty "tuple"]) ht;have e1:=s1 _ _ e1;have e2:=s1 _ _ e2;generalize upd H t (HO.tup [V.ty "list",V.ty "tuple"])=H1 at s1 e1 e2 |-;push_cast [e1,e2];rw[decide_eq_true (show(xs1.length:Int)=(xs2.length:Int) by omega),Bool.not_true,if_neg δ];refine fu fun R hR=>?_;push_cast [e1,e2];obtain⟨Pc,hPc⟩:∃Pv:Nat->List V->L2.St->Hp->Prop,Pv=fun(i:Nat) acc τ H'=>∃(o0 o1:Option V),Same H1 H'/\acc=(List.replicate i true).map V.bl/\τ=[o0,o1]:=⟨_,rfl⟩;refine YW hR (xs:=xs1) (ys:=xs2) (aP z1) ω Pc (by rw[hPc];exact⟨_,_,Same.refl _,rfl,rfl⟩) ?_ ?_ ?_ ?_
    ·intro i acc τ H2 pc;rw[hPc] at pc;obtain⟨_,_,_,rfl,_⟩:=pc;simp
    ·intro i acc τ H2 pc;rw[hPc] at pc;obtain⟨_,_,s2,_,_⟩:=pc;exact⟨s2 _ _ e1,s2 _ _ e2⟩
    ·intro i x y acc τ H2 r hx hy pc hr2;rw[hPc] at pc;obtain⟨o0,o1,s2,rfl,rfl⟩:=pc;obtain⟨dx,hdx,tx⟩:=ts1.get hx;obtain⟨dy,hdy,ty⟩:=ts2.get hy;rw[hdx] at hdy;cases hdy;have s3:=aA (o:=HO.tup [x,y]) hr2;have s13:=(s1.trans s2).trans s3;push_cast;refine⟨x,y,ok,dx,rfl,tx.same s13,ty.same s13,by have:=(Cg (mem_of_getElem? hdx)).1;omega,fun H4 s4=>?_⟩;rw[hPc];refine⟨_,_,(s2.trans s3).trans s4,?_,rfl⟩;rw[List.replicate_succ',map_append];rfl
    ·intro acc τ H2 d2 pc hd2;rw[hPc] at pc;obtain⟨o0,o1,s2,rfl,rfl⟩:=pc;have s3:=s1.trans (s2.trans (aA (o:=HO.lst ((List.replicate xs1.length true).map V.bl)) hd2));have e3:upd H2 d2 (HO.lst ((List.replicate xs1.length true).map V.bl)) d2=_:=aB;generalize upd H2 d2 (HO.lst ((List.replicate xs1.length true).map V.bl))=H3 at s3 e3 |-;push_cast [e3];refine⟨_,rfl,?_⟩;rw[show(List.replicate xs1.length true).all id=true by simp];exact q _ s3
  | tup o1 e1 z1 ts1=>
   rename_i p1 xs1 ds;cases ty with
   | tup o2 e2 z2 ts2=>
    rename_i p2 xs2;have l1:=ts1.length;have l2:=ts2.length;refine aL fun k hk=>?_;push_cast [e1,e2];refine⟨aP δ,fun t ht=>?_⟩;have s1:=aA (o:=HO.tup [V.ty "list",V.ty "tuple"]) ht;have e1:=s1 _ _ e1;have e2:=s1 _ _ e2;generalize upd H t (HO.tup [V.ty "list",V.ty "tuple"])=H1 at s1 e1 e2 |-;push_cast [e1,e2];rw[decide_eq_true (show(xs1.length:Int)=(xs2.length:Int) by omega),Bool.not_true,if_neg δ];refine fu fun R hR=>?_;push_cast [e1,e2];obtain⟨Pc,hPc⟩:∃Pv:Nat->List V->L2.St->Hp->Prop,Pv=fun(i:Nat) acc τ H'=>∃(o0 o1:Option V),Same H1 H'/\acc=(List.replicate i true).map V.bl/\τ=[o0,o1]:=⟨_,rfl⟩;refine YT hR (xs:=xs1) (ys:=xs2) (aP z1) ω Pc (by rw[hPc];exact⟨_,_,Same.refl _,rfl,rfl⟩) ?_ ?_ ?_ ?_
    ·intro i acc τ H2 pc;rw[hPc] at pc;obtain⟨_,_,_,rfl,_⟩:=pc;simp
    ·intro i acc τ H2 pc;rw[hPc] at pc;obtain⟨_,_,s2,_,_⟩:=pc;exact⟨s2 _ _ e1,s2 _ _ e2⟩
    ·intro i x y acc τ H2 r hx hy pc hr2;rw[hPc] at pc;obtain⟨o0,o1,s2,rfl,rfl⟩:=pc;obtain⟨dx,hdx,tx⟩:=ts1.get hx;obtain⟨dy,hdy,ty⟩:=ts2.get hy;rw[hdx] at hdy;cases hdy;have s3:=aA (o:=HO.tup [x,y]) hr2;have s13:=(s1.trans s2).trans s3;push_cast;refine⟨x,y,ok,dx,rfl,tx.same s13,ty.same s13,by have:=(Cg (mem_of_getElem? hdx)).2;omega,fun H4 s4=>?_⟩;rw[hPc];refine⟨_,_,(s2.trans s3).trans s4,?_,rfl⟩;rw[List.replicate_succ',map_append];rfl
    ·intro acc τ H2 d2 pc hd2;rw[hPc] at pc;obtain⟨o0,o1,s2,rfl,rfl⟩:=pc;have s3:=s1.trans (s2.trans (aA (o:=HO.lst ((List.replicate xs1.length true).map V.bl)) hd2));have e3:upd H2 d2 (HO.lst ((List.replicate xs1.length true).map V.bl)) d2=_:=aB;generalize upd H2 d2 (HO.lst ((List.replicate xs1.length true).map V.bl))=H3 at s3 e3 |-;push_cast [e3];refine⟨_,rfl,?_⟩;rw[show(List.replicate xs1.length true).all id=true by simp];exact q _ s3
theorem same_none:dm P w K mg base CX0 0 f fd ["_law_found","_law_due"] (tR 0):=by
 have no:∀vs H Q E,¬tR 0 vs H Q E:=fun vs H Q E h=>by
  obtain⟨x,y,ok,d,_,_,_,h1,_⟩:=h;omega
 exact⟨fun vs H Q E h=>absurd h (no vs H Q E),fun A outer s H args us vs Q E _ _ _ _ h=>absurd h (no vs H Q E)⟩
abbrev Aj:List Str:=["width","sign"]
abbrev pC:Stmt:=top 2
theorem MF:aY Aj ["width","sign"] (aj pC):=⟨rfl,rfl,rfl,ψ,rfl,ψ,ψ⟩
theorem Jm:NM_ Aj pC 0 "width" := .of ψ
theorem Jl:NM_ Aj pC 1 "sign" := .of ψ
theorem Cv:Bn "least_of" := ⟨ψ,ψ⟩
abbrev Fg:List Str:=["width","sign"]
abbrev ug:Stmt:=top 3
theorem QV:aY Fg ["width","sign"] (aj ug):=⟨rfl,rfl,rfl,ψ,rfl,ψ,ψ⟩
theorem BL:NM_ Fg ug 0 "width" := .of ψ
theorem Ny:NM_ Fg ug 1 "sign" := .of ψ
theorem Ac:Bn "most_of" := ⟨ψ,ψ⟩
abbrev qZ:List Str:=["pattern","width","sign"]
abbrev jk:Stmt:=top 5
theorem Iu:aY qZ ["pattern","width","sign"] (aj jk):=⟨rfl,rfl,rfl,ψ,rfl,ψ,ψ⟩
theorem pZ:NM_ qZ jk 0 "pattern" := .of ψ
theorem wK:NM_ qZ jk 1 "width" := .of ψ
theorem Gx:NM_ qZ jk 2 "sign" := .of ψ
theorem v7:GI_ jk "most_of" := by decide +kernel
theorem J1:Bn "number_of" := ⟨ψ,ψ⟩
theorem Sx (F:Fun K "most_of" "most_of" ug f fd):dm P w K mg base CX0 1 f fd ["width","sign"] xu:=by
 refine F.okq QV (fun vs H Q E h=>?_) (fun cdv A outer s H vs Q E hr h=>?_)
 ·obtain⟨w,s,rfl,_⟩:=h;rfl
 ·obtain⟨w,s,rfl,h1,h2,hs,q⟩:=h;refine⟨_,(aD (cA (aU (bT hr.aZ) (ao Ny) aq (aM _)) (aG (aO (aJ dY (aJ dJ aq (ao BL)) aq))) bL)
   (aG (aO (aJ dY (aJ dJ aq (aJ dY (ao BL) aq)) aq)))),?_⟩
  have e:=mZ h1;unfold wl at q;push_cast [Int.one_mul];rcases hs with rfl|rfl
  ·rw[if_pos rfl];rw[Int.mul_zero,Int.sub_zero,Int.zero_add] at q;exact⟨⟨ω,ω,δ⟩,q⟩
  ·rw[if_neg δ];refine⟨⟨ω,ω,δ⟩,?_⟩;rw[show(0:Int)-2^(w-1).toNat*1+2^w.toNat-1=2^(w-1).toNat-1 by omega] at q;exact q
theorem Sw (hB:∀x:Str,x∈BLs->mg x=none) (CMostOf:Cal P w K mg base "most_of" 1 ["width","sign"] xu) (F:Fun K "number_of" "number_of" jk f fd):dm P w K mg base CX0 2 f fd ["pattern","width","sign"] Kl:=by
 refine F.okq Iu (fun vs H Q E h=>?_) (fun cdv A outer s H vs Q E hr h=>?_)
 ·obtain⟨w,s,p,rfl,_⟩:=h;rfl
 ·obtain⟨w,s,p,rfl,h1,h2,hs,hp,q⟩:=h;refine⟨_,(aD (cA (aU KY (ao pZ) (bw CMostOf (hr.mono δ) v7 Ac (ak (ao wK) (ak (ao Gx) au rfl) rfl) rfl rfl) (aM _)) (aG (aO (aJ dY (ao pZ) (aJ dJ aq (ao wK))))) bL)
   (aG (aO (ao pZ)))),?_⟩
  rw[aa0 h1 hs hp] at q;push_cast [Int.one_mul];refine⟨w,s,rfl,h1,h2,hs,?_⟩;push_cast [Int.one_mul];by_cases c:wl w s+2^w.toNat-1<(p:Int)
  ·rw[if_pos c] at q;rw[if_pos (by simpa using c)];exact⟨⟨ω,ω,δ⟩,q⟩
  ·rw[if_neg c] at q;rw[if_neg (by simpa using c)];exact q
abbrev vp:List Str:=["spans","told","low","high"]
abbrev jW:Stmt:=top 7
theorem uc:aY vp ["spans"] (aj jW):=⟨rfl,rfl,rfl,ψ,rfl,ψ,ψ⟩
theorem Nz:NM_ vp jW 0 "spans" := .of ψ
theorem iw:NM_ vp jW 1 "told" := .of ψ
theorem vQ:NM_ vp jW 2 "low" := .of ψ
theorem vP:NM_ vp jW 3 "high" := .of ψ
theorem GQ:GI_ jW "max" := by decide +kernel
theorem zH:GI_ jW "sorted" := by decide +kernel
theorem Vo:Bn "joined" := ⟨ψ,ψ⟩
theorem Nj (hB:∀x:Str,x∈BLs->mg x=none) (F:Fun K "joined" "joined" jW f fd):dm P w K mg base CX0 1 f fd ["spans"] Ko:=by
 refine F.okq uc (fun vs H Q E h=>?_) (fun cdv A outer s H vs Q E hr h=>?_)
 ·obtain⟨l,us,ss,rfl,_⟩:=h;rfl
 ·obtain⟨l,us,ss,rfl,el,t,hd,hl,q⟩:=h;refine⟨_,(aD (bQ iw uc.nd (dg au) rfl (.inl rfl))
   (aD (eX PassesOwn.never rfl (cN (cB zV zH (hB "sorted" qT) PyProof.Rows.boot_sorted wB (ak (ao Nz) au rfl) rfl rfl)) (dX (n:=2) rfl (aK (bN vQ uc.nd (.inl rfl)) (aK (bN vP uc.nd (.inl rfl)) cR rfl) rfl) rfl rfl)
   (aG (cA (vJ (vI (Rr (ao iw)) (um (aU uw (ao vQ) (aJ bA (aX b7 (aX b7 (ao iw) (oG jE aq) (fun _ _=>rfl)) aq (fun _ _=>rfl)) aq) (aM _))))) (aG (iz (cX (ak (aX b7 (aX b7 (ao iw) (oG jE aq) (fun _ _=>rfl)) aq (fun _ _=>rfl)) (ak (cB (Ck rfl) GQ (hB "max" Tz) boot_max Vk (ak (ao vP) (ak (aX b7 (aX b7 (ao iw) (oG jE aq) (fun _ _=>rfl)) aq (fun _ _=>rfl)) au rfl) rfl) rfl rfl) au rfl) rfl)) (KH (ao iw) (oG jE aq) Fz) rfl rfl rfl)) (aG (fD (jx (ao iw) (cX (ak (ao vQ) (ak (ao vP) au rfl) rfl)) rfl rfl rfl rfl rfl) rfl)))) (fun _=>rfl))
   (aG (aO (ao iw))))),?_⟩
  refine aL fun k hk=>?_;push_cast;refine⟨aP δ,fun r hr0=>?_⟩;have s0:=aA (o:=HO.lst []) hr0;have e0:upd H r (HO.lst []) r=_:=aB;generalize upd H r (HO.lst [])=H0 at s0 e0 |-;subst hk;refine aL fun k hk=>?_;refine iW fun R hR=>?_;push_cast;obtain⟨ps,rfl⟩:=t.refs;obtain⟨e1,e2⟩:=t.read (dec:=pG H) KN;have hpl:ps.length=ss.length:=by have:=t.length;rwa [length_map] at this
  refine⟨l,ps,fun p=>(pG H p).1,fun p=>(pG H p).2,rfl,s0 _ _ el,ω,fun p m=>⟨s0 _ _ (e2 p m),(hd _ (by rw[e1];exact mem_map_of_mem m)).2⟩,fun d qs hd0 hp ho=>?_⟩;have s1:Same H (upd H0 d (.lst (qs.map V.ref))):=s0.trans (aA hd0);have ed:upd H0 d (.lst (qs.map V.ref)) d=_:=aB;have er:upd H0 d (.lst (qs.map V.ref)) r=some (.lst []):=by rw[aH (aF e0 hd0)];exact e0
  have ndr:d≠r:=(aF e0 hd0).symm;generalize upd H0 d (.lst (qs.map V.ref))=H1 at s1 ed er |-;have tz:bM prE H (qs.map V.ref) (qs.map (pG H)):=.of_map fun p m=>e2 p (hp.mem_iff.mp m);have pz:(qs.map (pG H)).Perm ss:=by rw[e1];exact hp.map _
  have hn:∀s,s∈qs.map (pG H)->s.1<=s.2:=fun s m=>(hd s (pz.mem_iff.mp m)).1;have hu:(qs.map (pG H)).Pairwise fun a b=>a.1<=b.1:=by
   refine pairwise_map.mpr (ho.imp fun {a b} z=>?_);rcases z with z|z
   ·exact Int.le_of_lt z
   ·exact Int.le_of_eq z.1
  generalize hzs:qs.map (pG H)=zs at tz pz hn hu;push_cast [ed];obtain⟨Pv,hPv⟩:∃Pv:Nat->L2.St->Hp->Prop,Pv=fun(i:Nat) σ H'=>∃(told:List (Int×Int)) (us':List V) (o2 o3:Option V),Same H H'/\H' d=some (.lst (qs.map V.ref))/\H' r=some (.lst us')/\bM prE H' us' told/\JW zs told i/\σ=[some (.ref l),some (.ref r),o2,o3]:=⟨_,rfl⟩;have zl:zs.length=(qs.map V.ref).length:=tz.length.symm;have zll:=pz.length_eq;refine zQ hR Pv (by rw[hPv];exact⟨[],[],_,_,s1,ed,er,.nil,.start _,rfl⟩) (fun i σ H' _ pv=>by rw[hPv] at pv;obtain⟨_,_,_,_,_,e,_⟩:=pv;exact SqL.of e) ?_ ?_
  ·intro i x σ H2 hx pv;rw[hPv] at pv;obtain⟨told,us',o2,o3,s2,ed2,er2,t2,ji,rfl⟩:=pv;obtain⟨p,z,rfl,hz,ep⟩:=(tz.same s2).got hx;replace ep:H2 p=some (.tup [.int z.1,.int z.2]):=ep;have li:i<zs.length:=(List.getElem?_eq_some_iff.mp hz).1;have lt:=ji.ln;have le:=t2.length;rcases eq_nil_or_concat told with e0|⟨pre,t0,e0⟩
   ·subst e0;cases t2;push_cast [ep,er2];refine⟨aP δ,fun q hq=>?_⟩;have er3:upd H2 q (.tup [.int z.1,.int z.2]) r=some (.lst []):=by rw[aH (aF er2 hq)];exact er2
    push_cast [er3];refine⟨δ,?_⟩;rw[hPv];exact⟨[z],_,_,_,oZ s2 hr0 hq,rN ed2 ndr hq,aB,bM.push .nil z er2 hq,ji.fresh hz hn hu (fun t q=>by cases q),rfl⟩
   ·rw[List.concat_eq_append] at e0;subst e0;obtain⟨vs,pt,rfl,tv,ept⟩:=t2.split;replace ept:H2 pt=some (.tup [.int t0.1,.int t0.2]):=ept;have la:=LK vs (V.ref pt);push_cast [ep,er2,la,ept,K3];have mx:(if t0.2>z.2 then t0.2 else z.2)=max z.2 t0.2:=by split <;> omega
    rw[mx];by_cases c:z.1<=t0.2+1
    ·rw[if_pos c];refine⟨aP δ,fun q hq=>?_⟩;have er3:upd H2 q (.tup [.int t0.1,.int (max z.2 t0.2)]) r=some (.lst (vs++[.ref pt])):=by rw[aH (aF er2 hq)];exact er2
     push_cast [er3];refine⟨_,K9 vs _,?_⟩;rw[Fy,hPv];exact⟨pre++[(t0.1,max z.2 t0.2)],_,_,_,oZ s2 hr0 hq,rN ed2 ndr hq,aB,bM.swap tv (t0.1,max z.2 t0.2) er2 hq,ji.grown hz hn hu c,rfl⟩
    ·rw[if_neg c];refine⟨aP δ,fun q hq=>?_⟩;have er3:upd H2 q (.tup [.int z.1,.int z.2]) r=some (.lst (vs++[.ref pt])):=by rw[aH (aF er2 hq)];exact er2
     push_cast [er3];refine⟨Nat.lt_of_lt_of_le (show(vs++[V.ref pt]).length<1000000 by omega) (aP (Nat.le_refl 1000000)),?_⟩;rw[hPv];exact⟨(pre++[t0])++[z],_,_,_,oZ s2 hr0 hq,rN ed2 ndr hq,aB,bM.push t2 z er2 hq,ji.fresh hz hn hu (fun t q=>by rw[List.getLast?_append] at q;cases q;exact c),rfl⟩
  ·intro σ H2 pv;rw[hPv] at pv;obtain⟨told,us',o2,o3,s2,ed2,er2,t2,ji,rfl⟩:=pv;subst hk;push_cast;refine q r H2 us' told s2 hr0 er2 t2 ji.gap (fun n=>?_) ?_
   ·rw[ji.cv,<- zl,take_length];exact Vc pz
   ·have:=ji.ln;omega
abbrev cQ:List Str:=["width","sign","mask","value","block","starts","place","bit","lows"]
abbrev bR:Stmt:=top 8
theorem fK:aY cQ ["width","sign","mask","value"] (aj bR):=⟨rfl,rfl,rfl,ψ,rfl,ψ,ψ⟩
theorem nR:NM_ cQ bR 0 "width" := .of ψ
theorem uL:NM_ cQ bR 1 "sign" := .of ψ
theorem iT:NM_ cQ bR 2 "mask" := .of ψ
theorem nQ:NM_ cQ bR 3 "value" := .of ψ
theorem uK:NM_ cQ bR 4 "block" := .of ψ
theorem iR:NM_ cQ bR 5 "starts" := .of ψ
theorem uJ:NM_ cQ bR 6 "place" := .of ψ
theorem uI:NM_ cQ bR 7 "bit" := .of ψ
theorem uH:NM_ cQ bR 8 "lows" := .of ψ
theorem sY:GI_ bR "least_of" := by decide +kernel
theorem vd:GI_ bR "most_of" := by decide +kernel
theorem wz:GI_ bR "range" := by decide +kernel
theorem Ho:Bn "bits_spans" := ⟨ψ,ψ⟩
abbrev oF:List Str:=["width","sign","item"]
abbrev gP:Stmt:=top 9
theorem FN:aY oF ["width","sign","item"] (aj gP):=⟨rfl,rfl,rfl,ψ,rfl,ψ,ψ⟩
theorem DG:NM_ oF gP 0 "width" := .of ψ
theorem Dz:NM_ oF gP 1 "sign" := .of ψ
theorem dN:NM_ oF gP 2 "item" := .of ψ
theorem qy:GI_ gP "bits_spans" := by decide +kernel
theorem Hi:Bn "item_spans" := ⟨ψ,ψ⟩
abbrev ju:List Str:=["width","sign","items","spans","item"]
abbrev dW:Stmt:=top 10
theorem oY:aY ju ["width","sign","items"] (aj dW):=⟨rfl,rfl,rfl,ψ,rfl,ψ,ψ⟩
theorem DP:NM_ ju dW 0 "width" := .of ψ
theorem DN:NM_ ju dW 1 "sign" := .of ψ
theorem DK:NM_ ju dW 2 "items" := .of ψ
theorem nP:NM_ ju dW 3 "spans" := .of ψ
theorem uG:NM_ ju dW 4 "item" := .of ψ
theorem qC:GI_ dW "item_spans" := by decide +kernel
theorem u9:GI_ dW "joined" := by decide +kernel
theorem wQ:Bn "case_spans" := ⟨ψ,ψ⟩
theorem Ni (F:Fun K "least_of" "least_of" pC f fd):dm P w K mg base CX0 1 f fd ["width","sign"] xY:=by
 refine F.okq MF (fun vs H Q E h=>?_) (fun cdv A outer s H vs Q E hr h=>?_)
 ·obtain⟨w,s,rfl,_⟩:=h;rfl
 ·obtain⟨w,s,rfl,h1,h2,hs,q⟩:=h;refine⟨_,(aD (cA (aU (bT hr.aZ) (ao Jl) aq (aM _)) (aG (aO aq)) bL)
   (aG (aO (oG jE (aJ dJ aq (aJ dY (ao Jm) aq)))))),?_⟩
  unfold wl at q;push_cast [Int.one_mul];rcases hs with rfl|rfl
  ·rw[if_pos rfl];rw[Int.mul_zero,Int.sub_zero] at q;exact q
  ·rw[if_neg δ];refine⟨⟨ω,ω,δ⟩,?_⟩;rw[Int.mul_one,Int.zero_sub] at q;exact q
theorem aaZ (hB:∀x:Str,x∈BLs->mg x=none) (CLeastOf:Cal P w K mg base "least_of" 1 ["width","sign"] xY) (CMostOf:Cal P w K mg base "most_of" 1 ["width","sign"] xu) (CNumberOf:Cal P w K mg base "number_of" 2 ["pattern","width","sign"] Kl) (F:Fun K "bits_spans" "bits_spans" bR f fd):dm P w K mg base CX0 3 f fd ["width","sign","mask","value"] Zy:=by
 refine F.okq fK (fun vs H Q E h=>?_) (fun cdv A outer s H vs Q E hr h=>?_)
 ·obtain⟨w,s,m,v,rfl,_⟩:=h;rfl
 ·obtain⟨w,s,m,v,rfl,h1,h2,hs,hok,q⟩:=h;refine⟨_,(aD (cA (aU (kj hr.aZ) (aJ jH (ao nQ) (ao iT)) (ao nQ) (aM _)) (aG (aO (dg au))) bL)
   (aD (cA (aU (bT hr.aZ) (ao iT) aq (aM _)) (aG (aO (dg (ak (cX (ak (bw CLeastOf (hr.mono δ) sY Cv (ak (ao nR) (ak (ao uL) au rfl) rfl) rfl rfl) (ak (bw CMostOf (hr.mono δ) vd Ac (ak (ao nR) (ak (ao uL) au rfl) rfl) rfl rfl) au rfl) rfl)) au rfl)))) bL)
   (aD (bQ uK fK.nd (aJ jH (ao iT) (oG jE (ao iT))) rfl (.inl rfl))
   (aD (bQ iR fK.nd (dg (ak (ao nQ) au rfl)) rfl (.inl rfl))
   (aD (eX PassesOwn.never rfl (M6 wz (hB "range" gw) (ak (WW (ao uK)) (ak (ao nR) au rfl) rfl) rfl rfl) (bN uJ fK.nd (.inl rfl))
   (aD (bQ uI fK.nd (aJ dJ aq (ao uJ)) rfl (.inl rfl))
   (aG (cA (aU (bT hr.aZ) (aJ jH (ao iT) (ao uI)) aq (aM _)) (aG (bQ iR fK.nd (aJ bA (ao iR) (eY (NX:=cQ) (kX:=(aj bR).names) ["start","bit"] [none,some 7] rfl rfl ⟨rfl,ψ,ψ,ψ,ψ⟩ rfl (cN (ao iR)) (fun _ _ _ _ _=>(cI 0 (show List.Nodup (["start","bit"]:List Str) from by decide +kernel) rfl (Or.inl rfl))) (fun _ _ _ _ _=>jF) (fun _ _ _ _ _=>(aJ bA (bI 0) (bI 1))))) rfl (.inl rfl))) bL))) (fun _=>rfl))
   (aD (Dm (NX:=cQ) (kX:=(aj bR).names) ["start","width","sign"] [none,some 0,some 1] uH fK.nd rfl rfl ⟨rfl,ψ,ψ,ψ,ψ⟩ rfl (cN (ao iR)) (fun _ _ _ _ _=>(cI 0 (show List.Nodup (["start","width","sign"]:List Str) from by decide +kernel) rfl (Or.inl rfl))) (fun _ _ _ _ _=>jF) (fun _ _ _ _ _=>(bw CNumberOf (hr.mono δ) rfl J1 (ak (bI 0) (ak (bI 1) (ak (bI 2) au rfl) rfl) rfl) rfl rfl)))
   (aG (aO (eY (NX:=cQ) (kX:=(aj bR).names) ["low","block"] [none,some 4] rfl rfl ⟨rfl,ψ,ψ,ψ,ψ⟩ rfl (cN (ao uH)) (fun _ _ _ _ _=>(cI 0 (show List.Nodup (["low","block"]:List Str) from by decide +kernel) rfl (Or.inl rfl))) (fun _ _ _ _ _=>jF) (fun _ _ _ _ _=>(cX (ak (bI 0) (ak (aJ dY (aJ bA (bI 0) (bI 1)) aq) au rfl) rfl)))))))))))),?_⟩
  obtain⟨hm,hv,hf⟩:=hok;have p40:=g8 (k:=w.toNat) ω;by_cases hvm:v &&& m=v
  case neg=>
   push_cast [gW,Int.ofNat_inj,decide_eq_false hvm,Bool.not_false];exact⟨Nat.zero_le _,fun p hp=>q p _ [] [] (aA hp) hp aB .nil (abp hvm)⟩
  refine aL fun k hk=>?_;push_cast [gW,hvm,Bool.not_true,decide_true];subst hk;refine aL fun k hk=>?_;push_cast;split
  ·rename_i hm0;have hm1:m=0:=ω;subst hm1;refine⟨w,s,rfl,h1,h2,hs,w,s,rfl,h1,h2,hs,aP δ,fun p hp=>⟨aP δ,fun p2 hp2=>?_⟩⟩;exact q p2 _ _ [(wl w s,wl w s+2^w.toNat-1)] ((aA hp).trans (aA hp2)) (none_of (aA hp) hp2) aB (.cons (aA hp2 _ _ aB) .nil) (Ys hvm)
  rename_i hm0;obtain⟨t,ht,hl⟩:=DW (m:=m) ω;have tW:t<w.toNat:=by
   rcases Nat.lt_or_ge t w.toNat with c|c
   ·exact c
   ·rw[Nat.testBit_lt_two_pow (Nat.lt_of_lt_of_le hm (Nat.pow_le_pow_right δ c))] at ht;cases ht
  subst hk;refine aL fun k hk=>?_;push_cast [Zi ht hl];subst hk;refine aL fun k hk=>?_;push_cast;refine⟨aP δ,fun st hst=>?_⟩;have s1:=aA (o:=HO.lst [V.int (v:Int)]) hst;have e1:upd H st (HO.lst [V.int (v:Int)]) st=some (.lst (dh (bh m v t 0))):=aB;generalize upd H st (HO.lst [V.int (v:Int)])=H1 at s1 e1 |-;subst hk;refine aL fun k hk=>?_;refine iW fun R hR=>?_;push_cast [Ul,Qc,Y9,Vp];refine⟨⟨ω,ω,ω,ω⟩,?_⟩;have en:(w-((t+1:Nat):Int)).toNat=w.toNat-(t+1):=ω;rw[en];obtain⟨Pv,hPv⟩:∃Pv:Nat->L2.St->Hp->Prop,Pv=fun(i:Nat) σ H'=>∃(st:Addr)(o6 o7:Option V),Same H1 H'/\H' st=some (.lst (dh (bh m v t i)))/\σ=[some (.int w),some (.int s),some (.int m),some (.int v),some (.int (2^t)),some (.ref st),o6,o7,none]:=⟨_,rfl⟩;refine zP hR Pv (by rw[hPv];exact⟨_,_,_,Same.refl _,e1,rfl⟩) ?_ ?_
  ·intro i σ H2 hi pv;rw[hPv] at pv;obtain⟨st2,o6,o7,s2,e2,rfl⟩:=pv;have hk1:((t+1:Nat):Int)+(i:Int)=((t+1+i:Nat):Int):=ω;rw[hk1];refine aL fun k2 hk2=>?_;push_cast [Int.one_mul,Int.toNat_natCast];refine⟨⟨ω,ω,δ⟩,?_⟩;subst hk2;have hz:=vB (v:=v) hf ht hl tW (Nat.le_of_lt hi);push_cast [HD];cases hb:m.testBit (t+1+i) with
   | true=>
    have hne:((2:Int)^(t+1+i))≠0:=Int.ne_of_gt (two_pow_pos _);push_cast [hne];rw[hPv];exact⟨st2,_,_,s2,by rw[e2,Fw hb],rfl⟩
   | false=>
    push_cast;refine fu fun R2 hR2=>?_;push_cast [e2];obtain⟨Pc,hPc⟩:∃Pv:Nat->List V->L2.St->Hp->Prop,Pv=fun(j:Nat) acc τ H'=>∃(o1:Option V),H'=H2/\acc=dh (((bh m v t i).take j).map (· + 2^(t+1+i)))/\τ=[o1,some (.int (2^(t+1+i)))]:=⟨_,rfl⟩;refine lK hR2 (xs:=dh (bh m v t i)) (aP (by rw[eG];omega)) Pc (by rw[hPc];exact⟨none,rfl,rfl,rfl⟩) ?_ ?_ ?_ ?_
    ·intro j acc τ H3 pc;rw[hPc] at pc;obtain⟨o1,rfl,rfl,rfl⟩:=pc;rw[eG,length_map];exact length_take_le _ _
    ·intro j acc τ H3 pc;rw[hPc] at pc;obtain⟨o1,rfl,rfl,rfl⟩:=pc;exact SqL.of e2
    ·intro j x acc τ H3 hx pc;rw[hPc] at pc;obtain⟨o1,rfl,rfl,rfl⟩:=pc;unfold dh at hx;rw[getElem?_map] at hx;obtain⟨x0,hx0,rfl⟩:=map_eq_some_iff.mp hx;push_cast;rw[hPc];refine⟨_,rfl,?_,rfl⟩;rw[take_add_one,hx0,map_append];simp [dh]
    ·intro acc τ H3 d pc hd;rw[hPc] at pc;obtain⟨o1,rfl,rfl,rfl⟩:=pc;rw[show(dh (bh m v t i)).length=(bh m v t i).length from eG _,take_length];have s3:=aA (o:=HO.lst (dh ((bh m v t i).map (· + 2^(t+1+i))))) hd;have e3:upd H3 d (HO.lst (dh ((bh m v t i).map (· + 2^(t+1+i))))) d=_:=aB;generalize upd H3 d (HO.lst (dh ((bh m v t i).map (· + 2^(t+1+i)))))=H4 at s3 e3 |-;have e4:=s3 _ _ e2;push_cast [e3,e4];rw[Mu hb];refine⟨?_,fun p5 hp5=>?_⟩
     ·rw[eG,eG,length_map];exact aP ω
     rw[hPv];exact⟨p5,_,_,s2.trans (s3.trans (aA hp5)),aB,rfl⟩
  ·intro σ H2 pv;rw[hPv] at pv;obtain⟨st2,o6,o7,s2,e2,rfl⟩:=pv;show k _ _;subst hk;have hz:=vB (v:=v) hf ht hl tW (Nat.le_refl _);have hx1:∀{x:Nat},x∈bh m v t (w.toNat-(t+1))->x<2^w.toNat:=fun mx=>(nA hvm hm ht hl mx).1;have isp:=Ug h1 hs ⟨hm,hv,hf⟩ hvm ht hl;unfold Ly at isp;generalize bh m v t (w.toNat-(t+1))=xs at e2 hz hx1 isp;refine aL fun k hk=>?_;push_cast;refine fu fun R2 hR2=>?_;push_cast [e2];obtain⟨Pc,hPc⟩:∃Pv:Nat->List V->L2.St->Hp->Prop,Pv=fun(j:Nat) acc τ H'=>∃(o1:Option V),H'=H2/\acc=((xs.take j).map (nOf w.toNat s)).map V.int/\τ=[o1,some (.int w),some (.int s)]:=⟨_,rfl⟩;refine lK hR2 (xs:=dh xs) (aP (by rw[eG];omega)) Pc (by rw[hPc];exact⟨none,rfl,rfl,rfl⟩) ?_ ?_ ?_ ?_
   ·intro j acc τ H3 pc;rw[hPc] at pc;obtain⟨o1,rfl,rfl,rfl⟩:=pc;rw[length_map,length_map];exact length_take_le _ _
   ·intro j acc τ H3 pc;rw[hPc] at pc;obtain⟨o1,rfl,rfl,rfl⟩:=pc;exact SqL.of e2
   ·intro j x acc τ H3 hx pc;rw[hPc] at pc;obtain⟨o1,rfl,rfl,rfl⟩:=pc;unfold dh at hx;rw[getElem?_map] at hx;obtain⟨x0,hx0,rfl⟩:=map_eq_some_iff.mp hx;push_cast;refine⟨w,s,x0,rfl,h1,h2,hs,hx1 (mem_of_getElem? hx0),?_⟩;rw[hPc];refine⟨_,rfl,?_,rfl⟩;rw[take_add_one,hx0,map_append,map_append];rfl
   ·intro acc τ H3 d pc hd;rw[hPc] at pc;obtain⟨o1,rfl,rfl,rfl⟩:=pc;rw[eG,take_length];have s3:=s2.trans (aA (o:=HO.lst ((xs.map (nOf w.toNat s)).map V.int)) hd);have e3:upd H3 d (HO.lst ((xs.map (nOf w.toNat s)).map V.int)) d=_:=aB;generalize upd H3 d (HO.lst ((xs.map (nOf w.toNat s)).map V.int))=H4 at s3 e3 |-;subst hk;push_cast;refine fu fun R3 hR3=>?_;push_cast [e3];obtain⟨Pd,hPd⟩:∃Pv:Nat->List V->L2.St->Hp->Prop,Pv=fun(j:Nat) acc τ H'=>∃(o1:Option V),Same H4 H'/\bM prE H' acc ((xs.take j).map fun x=>(nOf w.toNat s x,nOf w.toNat s x+2^t-1))/\τ=[o1,some (.int (2^t))]:=⟨_,rfl⟩;refine lK hR3 (xs:=(xs.map (nOf w.toNat s)).map V.int) (aP (by rw[length_map,length_map];omega)) Pd (by rw[hPd];exact⟨none,Same.refl _,.nil,rfl⟩) ?_ ?_ ?_ ?_
    ·intro j acc τ H5 pc;rw[hPd] at pc;obtain⟨o1,s5,t5,rfl⟩:=pc;rw[t5.length,length_map];exact length_take_le _ _
    ·intro j acc τ H5 pc;rw[hPd] at pc;obtain⟨o1,s5,t5,rfl⟩:=pc;exact SqL.of (s5 _ _ e3)
    ·intro j x acc τ H5 hx pc;rw[hPd] at pc;obtain⟨o1,s5,t5,rfl⟩:=pc;rw[getElem?_map] at hx;obtain⟨y0,hy0,rfl⟩:=map_eq_some_iff.mp hx;rw[getElem?_map] at hy0;obtain⟨x0,hx0,rfl⟩:=map_eq_some_iff.mp hy0;push_cast;refine⟨aP δ,fun p6 hp6=>?_⟩;rw[hPd];refine⟨_,s5.trans (aA hp6),?_,rfl⟩;rw[take_add_one,hx0,map_append];exact(t5.same (aA hp6)).snoc (x:=(nOf w.toNat s x0,nOf w.toNat s x0+2^t-1)) aB
    ·intro acc τ H5 d2 pc hd2;rw[hPd] at pc;obtain⟨o1,s5,t5,rfl⟩:=pc;rw[length_map,length_map,take_length] at t5;have s6:=(s1.trans s3).trans s5;exact q d2 _ acc _ (s6.trans (aA hd2)) (none_of s6 hd2) aB (t5.same (aA hd2)) isp
theorem aaX (hB:∀x:Str,x∈BLs->mg x=none) (CBitsSpans:Cal P w K mg base "bits_spans" 3 ["width","sign","mask","value"] Zy) (F:Fun K "item_spans" "item_spans" gP f fd):dm P w K mg base CX0 4 f fd ["width","sign","item"] Zx:=by
 refine F.okq FN (fun vs H Q E h=>?_) (fun cdv A outer s H vs Q E hr h=>?_)
 ·obtain⟨w,s,t,it,rfl,_⟩:=h;rfl
 ·obtain⟨w,s,t,it,rfl,h1,h2,hs,⟨hi⟩,hok,q⟩:=h;refine⟨_,(aD (cA (aU (bT hr.aZ) (aX b7 (ao dN) aq (fun _ _=>rfl)) iB (aM _)) (aG (aO (dg (ak (cX (ak (aX b7 (ao dN) aq (fun _ _=>rfl)) (ak (aX b7 (ao dN) aq (fun _ _=>rfl)) au rfl) rfl)) au rfl)))) bL)
   (aD (cA (aU (bT hr.aZ) (aX b7 (ao dN) aq (fun _ _=>rfl)) iB (aM _)) (aG (aO (dg (ak (cX (ak (aX b7 (ao dN) aq (fun _ _=>rfl)) (ak (aX b7 (ao dN) aq (fun _ _=>rfl)) au rfl) rfl)) au rfl)))) bL)
   (aG (aO (bw CBitsSpans (hr.mono δ) qy Ho (ak (ao DG) (ak (ao Dz) (ak (aX b7 (ao dN) aq (fun _ _=>rfl)) (ak (aX b7 (ao dN) aq (fun _ _=>rfl)) au rfl) rfl) rfl) rfl) rfl rfl))))),?_⟩
  cases it with
  | one a=>
   push_cast [hi];refine⟨aP δ,fun p hp=>⟨aP δ,fun p2 hp2=>?_⟩⟩;exact q p2 _ _ [(a,a)] ((aA hp).trans (aA hp2)) (none_of (aA hp) hp2) aB (.cons (aA hp2 _ _ aB) .nil) (Yr hok)
  | rng a b=>
   push_cast [hi];refine⟨aP δ,fun p hp=>⟨aP δ,fun p2 hp2=>?_⟩⟩;exact q p2 _ _ [(a,b)] ((aA hp).trans (aA hp2)) (none_of (aA hp) hp2) aB (.cons (aA hp2 _ _ aB) .nil) (Yq hok)
  | bits m v=>
   push_cast [hi];exact⟨w,s,m,v,rfl,h1,h2,hs,hok,q⟩
theorem aaY (hB:∀x:Str,x∈BLs->mg x=none) (CItemSpans:Cal P w K mg base "item_spans" 4 ["width","sign","item"] Zx) (CJoined:Cal P w K mg base "joined" 1 ["spans"] Ko) (F:Fun K "case_spans" "case_spans" dW f fd):dm P w K mg base CX0 5 f fd ["width","sign","items"] Qx:=by
 refine F.okq oY (fun vs H Q E h=>?_) (fun cdv A outer s H vs Q E hr h=>?_)
 ·obtain⟨w,s,x,ok,its,rfl,_⟩:=h;rfl
 ·obtain⟨w,s,x,ok,its,rfl,h1,h2,hs,t,hok,hlen,q⟩:=h;refine⟨_,(aD (bQ nP oY.nd (dg au) rfl (.inl rfl))
   (aD (eX PassesOwn.never rfl (cN (ao DK)) (bN uG oY.nd (.inl rfl))
   (aG (fD (KJ (ao nP) (bw CItemSpans (hr.mono δ) qC Hi (ak (ao DP) (ak (ao DN) (ak (ao uG) au rfl) rfl) rfl) rfl rfl) rfl rfl rfl rfl rfl) rfl)) (fun _=>rfl))
   (aG (aO (bw CJoined (hr.mono δ) u9 Vo (ak (ao nP) au rfl) rfl rfl))))),?_⟩
  obtain⟨q0,us,rfl,o,e,z,ts⟩:=mQ t;have hul:=ts.length;rw[length_map] at hul;have wb:=jj h1 h2 hs;refine aL fun k hk=>?_;push_cast;refine⟨aP δ,fun sp hsp=>?_⟩;have s0:=aA (o:=HO.lst []) hsp;have e0:upd H sp (HO.lst []) sp=some (.lst []):=aB;generalize upd H sp (HO.lst [])=H0 at s0 e0 |-;subst hk;refine aL fun k hk=>?_;refine iW fun R hR=>?_;have e1:=s0 _ _ e;push_cast [e1];obtain⟨Pv,hPv⟩:∃Pv:Nat->L2.St->Hp->Prop,Pv=fun(i:Nat) σ H'=>∃(vs:List V)(ys:List (Int×Int)) (o4:Option V),Same H H'/\H' sp=some (.lst vs)/\bM prE H' vs ys/\GSp w s (its.take i) ys/\σ=[some (.int w),some (.int s),some (.ref q0),some (.ref sp),o4]:=⟨_,rfl⟩;refine zQ hR (xs:=us) Pv (by rw[hPv];exact⟨[],[],_,s0,e0,.nil,.nil,rfl⟩) (fun i σ H' _ pv=>?_) ?_ ?_
  ·rw[hPv] at pv;obtain⟨_,_,_,s',_⟩:=pv;exact SqL.of (s' _ _ e)
  ·intro i x σ H2 hx pv;rw[hPv] at pv;obtain⟨vs,ys,o4,s2,e2,t2,g2,rfl⟩:=pv;obtain⟨d,hd,td⟩:=(ts.same s2).get hx;rw[getElem?_map] at hd;obtain⟨it,hit,rfl⟩:=map_eq_some_iff.mp hd;obtain⟨q5,rfl,o6,hi⟩:=mO td;have li:i<its.length:=(List.getElem?_eq_some_iff.mp hit).1;push_cast [Fq,Lh,e2,lX];refine⟨w,s,q5,it,rfl,h1,h2,hs,hi,hok it (mem_of_getElem? hit),fun r H3 us3 zs s3 hr3 e3 t3 i3=>?_⟩;have e23:=s3 _ _ e2;dsimp only;rw[GX,e23,e3,U0];have l2:=t2.length;have l3:=t3.length;have l4:=i3.ln;have l5:=g2.ln;rw[length_take] at l5;refine⟨aP ω,?_⟩;rw[hPv];refine⟨vs++us3,ys++zs,_,fun a o ha=>?_,aB,((t2.same s3).wV e23).app (t3.wV e23),?_,rfl⟩
   ·rw[aH (fun z=>by rw[z,hsp] at ha;cases ha)];exact s3 _ _ (s2 _ _ ha)
   ·rw[take_add_one,hit];exact g2.snoc i3
  ·intro σ H2 pv;rw[hPv] at pv;obtain⟨vs,ys,o4,s2,e2,t2,g2,rfl⟩:=pv;show k _ _;subst hk;rw[hul,take_length] at g2;push_cast;have hln:=g2.ln;refine⟨sp,vs,ys,rfl,e2,t2,fun y my=>?_,ω,fun r H3 us' zs s3 hr3 e3 t3 g3 c3 l3=>?_⟩
   ·have:=g2.ins y my;exact⟨this.2.1,ω,ω⟩
   ·exact q r H3 us' zs (s2.trans s3) (none_of s2 hr3) e3 t3 (g2.case g3 c3 l3)
abbrev tH:List Str:=["number","width"]
abbrev kh:Stmt:=top 4
theorem FJ:aY tH ["number","width"] (aj kh):=⟨rfl,rfl,rfl,ψ,rfl,ψ,ψ⟩
theorem Dy:NM_ tH kh 0 "number" := .of ψ
theorem Dw:NM_ tH kh 1 "width" := .of ψ
theorem Hg:Bn "pattern_of" := ⟨ψ,ψ⟩
abbrev Fe:List Str:=["width","item","number"]
abbrev rQ:Stmt:=top 13
theorem Wm:aY Fe ["width","item","number"] (aj rQ):=⟨rfl,rfl,rfl,ψ,rfl,ψ,ψ⟩
theorem Tc:NM_ Fe rQ 0 "width" := .of ψ
theorem lg:NM_ Fe rQ 1 "item" := .of ψ
theorem yR:NM_ Fe rQ 2 "number" := .of ψ
theorem v5:GI_ rQ "pattern_of" := by decide +kernel
theorem Y8:Bn "picks" := ⟨ψ,ψ⟩
theorem Jh (F:Fun K "pattern_of" "pattern_of" kh f fd):dm P w K mg base CX0 1 f fd ["number","width"] Br:=by
 refine F.okq FJ (fun vs H Q E h=>?_) (fun cdv A outer s H vs Q E hr h=>?_)
 ·obtain⟨w,s,rfl,_⟩:=h;rfl
 ·obtain⟨n,w,rfl,h1,h2,q⟩:=h;refine⟨_,(aG (aO (aJ jH (ao Dy) (aJ dY (aJ dJ aq (ao Dw)) aq)))),?_⟩;push_cast;refine⟨⟨ω,ω,δ⟩,?_⟩;rw[Int.one_mul,PySem.W.kbt_mask];exact q
theorem Sv (hB:∀x:Str,x∈BLs->mg x=none) (CPatternOf:Cal P w K mg base "pattern_of" 1 ["number","width"] Br) (F:Fun K "picks" "picks" rQ f fd):dm P w K mg base CX0 2 f fd ["width","item","number"] tU:=by
 refine F.okq Wm (fun vs H Q E h=>?_) (fun cdv A outer s H vs Q E hr h=>?_)
 ·obtain⟨w,n,t,it,rfl,_⟩:=h;rfl
 ·obtain⟨w,n,t,it,rfl,h1,h2,⟨hi⟩,q⟩:=h;refine⟨_,(aD (cA (aU (bT hr.aZ) (aX b7 (ao lg) aq (fun _ _=>rfl)) iB (aM _)) (aG (aO (fM (bT hr.aZ) (ao yR) (aX b7 (ao lg) aq (fun _ _=>rfl)) (aM _)))) bL)
   (aD (cA (aU (bT hr.aZ) (aX b7 (ao lg) aq (fun _ _=>rfl)) iB (aM _)) (aG (aO (Gh uw uw (aX b7 (ao lg) aq (fun _ _=>rfl)) (ao yR) (aX b7 (ao lg) aq (fun _ _=>rfl))))) bL)
   (aG (aO (fM (bT hr.aZ) (aJ jH (bw CPatternOf (hr.mono δ) v5 Hg (ak (ao yR) (ak (ao Tc) au rfl) rfl) rfl rfl) (aX b7 (ao lg) aq (fun _ _=>rfl))) (aX b7 (ao lg) aq (fun _ _=>rfl)) (aM _)))))),?_⟩
  cases it with
  | one a=>
   push_cast [hi];exact q
  | rng a b=>
   push_cast [hi];rw[show aN w n (.rng a b)=(decide (a<=n)&&decide (n<=b)) from rfl] at q;split
   ·rename_i c;rw[decide_eq_true c,Bool.true_and] at q;exact q
   ·rename_i c;rw[decide_eq_false c,Bool.false_and] at q;exact q
  | bits m v=>
   push_cast [hi];refine⟨n,w,rfl,h1,h2,?_⟩;push_cast [hi];rw[yh];exact q
abbrev tK:List Str:=["width","items","number"]
abbrev jm:Stmt:=top 14
theorem FP:aY tK ["width","items","number"] (aj jm):=⟨rfl,rfl,rfl,ψ,rfl,ψ,ψ⟩
theorem DQ:NM_ tK jm 1 "items" := .of ψ
theorem zM:GI_ jm "any" := by decide +kernel
theorem Hl:Bn "case_picks" := ⟨ψ,ψ⟩
abbrev xM:List Str:=["_law_width","_law_item_here","_law_number_here"]
abbrev qP:Stmt:=top 30
theorem QL:aY xM ["_law_width","_law_item_here","_law_number_here"] (aj qP):=⟨rfl,rfl,rfl,ψ,rfl,ψ,ψ⟩
theorem Nq:NM_ xM qP 0 "_law_width" := .of ψ
theorem jo:NM_ xM qP 1 "_law_item_here" := .of ψ
theorem vN:NM_ xM qP 2 "_law_number_here" := .of ψ
theorem Hf:Bn "_law_picks" := ⟨ψ,ψ⟩
abbrev gh:List Str:=["rows","ahead","low","high"]
abbrev cZ:Stmt:=top 11
theorem gn:aY gh ["rows"] (aj cZ):=⟨rfl,rfl,rfl,ψ,rfl,ψ,ψ⟩
theorem yS:NM_ gh cZ 0 "rows" := .of ψ
theorem iQ:NM_ gh cZ 1 "ahead" := .of ψ
theorem lu:NM_ gh cZ 2 "low" := .of ψ
theorem p8:NM_ gh cZ 3 "high" := .of ψ
theorem rE:GI_ cZ "sorted" := by decide +kernel
theorem Bh:Bn "least_shared" := ⟨ψ,ψ⟩
abbrev je:List Str:=["choice","width","sign","cases","number","labels"]
abbrev eF:Stmt:=top 15
theorem j4:aY je ["choice"] (aj eF):=⟨rfl,rfl,rfl,ψ,rfl,ψ,ψ⟩
theorem Jq:NM_ je eF 0 "choice" := .of ψ
theorem Jp:NM_ je eF 1 "width" := .of ψ
theorem Jo:NM_ je eF 2 "sign" := .of ψ
theorem sJ:NM_ je eF 3 "cases" := .of ψ
theorem sI:NM_ je eF 4 "number" := .of ψ
theorem sH:NM_ je eF 5 "labels" := .of ψ
theorem sX:GI_ eF "enumerate" := by decide +kernel
theorem qz:GI_ eF "least_shared" := by decide +kernel
theorem O3:Bn "clash_of" := ⟨ψ,ψ⟩
theorem SX (hB:∀x:Str,x∈BLs->mg x=none) (CPicks:Cal P w K mg base "picks" 2 ["width","item","number"] tU) (F:Fun K "case_picks" "case_picks" jm f fd):dm P w K mg base CX0 3 f fd ["width","items","number"] Ks:=by
 refine F.okq FP (fun vs H Q E h=>?_) (fun cdv A outer s H vs Q E hr h=>?_)
 ·obtain⟨w,n,x,ok,its,rfl,_⟩:=h;rfl
 ·obtain⟨w,n,x,ok,its,rfl,h1,h2,t,q⟩:=h;refine⟨_,(aG (aO (cB (Cq rfl) zM (hB "any" TF) PyProof.Rows.Boot.«any» Vl (ak (eY (NX:=tK) (kX:=(aj jm).names) ["item","width","number"] [none,some 0,some 2] rfl rfl ⟨rfl,ψ,ψ,ψ,ψ⟩ rfl (cN (ao DQ)) (fun _ _ _ _ _=>(cI 0 (show List.Nodup (["item","width","number"]:List Str) from by decide +kernel) rfl (Or.inl rfl))) (fun _ _ _ _ _=>jF) (fun _ _ _ _ _=>(bw CPicks (hr.mono δ) rfl Y8 (ak (bI 1) (ak (bI 0) (ak (bI 2) au rfl) rfl) rfl) rfl rfl))) au rfl) rfl rfl))),?_⟩;obtain⟨q0,us,rfl,o,e,z,ts⟩:=mQ t;push_cast;refine fu fun R hR=>?_;push_cast [e];refine vg (pickD w n) (fun τ=>∃o1,τ=[o1,some (.int w),some (.int n)]) hR ts e z ⟨none,rfl⟩ ?_ ?_
  ·rintro x1 d1 τ H3 Qn hd s3 t3 ⟨o1,rfl⟩ qn;push_cast;obtain⟨it,_,rfl⟩:=mem_map.mp hd;obtain⟨p,rfl,_,hp⟩:=mO t3;exact⟨w,n,p,it,rfl,h1,h2,hp,by rw[<- yj];exact qn _ _ ⟨_,rfl⟩ (Same.refl _)⟩
  ·intro H3 l s3 hl;have s5:=s3.trans (aA (o:=HO.lst (((its.map itD).map (pickD w n)).map V.bl)) hl);have e5:upd H3 l (HO.lst (((its.map itD).map (pickD w n)).map V.bl)) l=_:=aB;generalize upd H3 l (HO.lst (((its.map itD).map (pickD w n)).map V.bl))=H5 at s5 e5 |-;push_cast [e5];refine⟨_,rfl,?_⟩;rw[HB];exact q _ s5
theorem Nh (hB:∀x:Str,x∈BLs->mg x=none) (F:Fun K "_law_picks" "_law_picks" qP f fd):dm P w K mg base CX0 1 f fd ["_law_width","_law_item_here","_law_number_here"] tU:=by
 refine F.okq QL (fun vs H Q E h=>?_) (fun cdv A outer s H vs Q E hr h=>?_)
 ·obtain⟨w,n,t,it,rfl,_⟩:=h;rfl
 ·obtain⟨w,n,t,it,rfl,h1,h2,⟨hi⟩,q⟩:=h;refine⟨_,(aD (cA (aU (bT hr.aZ) (aX b7 (ao jo) aq (fun _ _=>rfl)) iB (aM _)) (aG (aO (fM (bT hr.aZ) (ao vN) (aX b7 (ao jo) aq (fun _ _=>rfl)) (aM _)))) bL)
   (aD (cA (aU (bT hr.aZ) (aX b7 (ao jo) aq (fun _ _=>rfl)) iB (aM _)) (aG (aO (Gh uw uw (aX b7 (ao jo) aq (fun _ _=>rfl)) (ao vN) (aX b7 (ao jo) aq (fun _ _=>rfl))))) bL)
   (aG (aO (fM (bT hr.aZ) (aJ jH (aJ jG (ao vN) (aJ dJ aq (ao Nq))) (aX b7 (ao jo) aq (fun _ _=>rfl))) (aX b7 (ao jo) aq (fun _ _=>rfl)) (aM _)))))),?_⟩
  cases it with
  | one a=>
   push_cast [hi];exact q
  | rng a b=>
   push_cast [hi];rw[show aN w n (.rng a b)=(decide (a<=n)&&decide (n<=b)) from rfl] at q;split
   ·rename_i c;rw[decide_eq_true c,Bool.true_and] at q;exact q
   ·rename_i c;rw[decide_eq_false c,Bool.false_and] at q;exact q
  | bits m v=>
   push_cast [hi,Int.one_mul];refine⟨⟨ω,ω,δ⟩,two_pow_pos _,?_⟩;rw[yh];exact q
theorem aaV (hB:∀x:Str,x∈BLs->mg x=none) (F:Fun K "least_shared" "least_shared" cZ f fd):dm P w K mg base CX0 2 f fd ["rows"] Zw:=by
 refine F.okq gn (fun vs H Q E h=>?_) (fun cdv A outer s H vs Q E hr h=>?_)
 ·obtain⟨l,us,cs,rfl,_⟩:=h;rfl
 ·obtain⟨l,us,cs,rfl,el,tl,hb,hlen,q⟩:=h;refine⟨_,(aD (bQ iQ gn.nd rR rfl (.inl rfl))
   (aD (eX PassesOwn.never rfl (cN (cB zV rE (hB "sorted" qT) PyProof.Rows.boot_sorted wB (ak (RD (NX:=gh) (kX:=(aj cZ).names) ["spans","span"] [none,none] rfl rfl ⟨rfl,ψ,ψ,ψ,ψ⟩ rfl (cN (ao yS)) (fun _ _ _ _ _=>(cI 0 (show List.Nodup (["spans","span"]:List Str) from by decide +kernel) rfl (Or.inl rfl))) (fun _ _ _ _ _=>(WN K (bI 0))) (fun _ _ _ _ _=>(cI 1 (show List.Nodup (["spans","span"]:List Str) from by decide +kernel) rfl (Or.inl rfl))) (fun _ _ _ _ _=>(bI 1))) au rfl) rfl rfl)) (dX (n:=2) rfl (aK (bN lu gn.nd (.inl rfl)) (aK (bN p8 gn.nd (.inl rfl)) cR rfl) rfl) rfl rfl)
   (aD (cA (vJ (vI (aU KR (ao iQ) rR (aM _)) (um (aU uw (ao lu) (ao iQ) (aM _))))) (aG (aO (ao lu))) bL)
   (aG (bQ iQ gn.nd (ao p8) rfl (.inl rfl)))) (fun _=>rfl))
   (aG (aO rR)))),?_⟩
  refine aL fun k hk=>?_;push_cast;subst hk;refine aL fun k hk=>?_;refine iW fun R hR=>?_;push_cast;refine YZ fun R2 hR2=>?_;push_cast [el];obtain⟨Pc,hPc⟩:∃Pv:Nat->List V->L2.St->Hp->Prop,Pv=fun(i:Nat) acc τ H'=>∃(o1 o2:Option V),H'=H/\bM prE H acc (cs.take i).flatten/\τ=[o1,o2]:=⟨_,rfl⟩;have hfl:∀i,(cs.take i).flatten.length<=cs.flatten.length:=fun i=>by
   conv=>rhs;rw[<- take_append_drop i cs,List.flatten_append,length_append]
   omega
  refine YX hR2 (xs:=us) Pc (by rw[hPc];exact⟨none,none,rfl,.nil,rfl⟩) ?_ ?_ (fun x τ H k k' m h=>m _ _ h) ?_
  ·intro i acc τ H1 pc;rw[hPc] at pc;obtain⟨o1,o2,rfl,t1,rfl⟩:=pc;exact SqL.of el
  ·intro i x acc τ H1 hx pc;rw[hPc] at pc;obtain⟨o1,o2,rfl,t1,rfl⟩:=pc;obtain⟨p,vs,c,rfl,hc,ep,tv⟩:=tl.got hx;have hf1:=hfl (i+1);rw[take_add_one,hc,List.flatten_append] at hf1;replace hf1:((cs.take i).flatten++(c++[])).length<=_:=hf1;rw[append_nil,length_append] at hf1;have hvl:=tv.length;show ∀R3:It->Hp->Prop,_->_;intro R3 hR3;push_cast [ep];obtain⟨Pe,hPe⟩:∃Pv:Nat->List V->L2.St->Hp->Prop,Pv=fun(j:Nat) acc3 τ H'=>∃(o2:Option V),H'=H1/\bM prE H1 acc3 ((cs.take i).flatten++c.take j)/\τ=[some (.ref p),o2]:=⟨_,rfl⟩;refine acR hR3 (xs:=vs) Pe (by rw[hPe];exact⟨o2,rfl,by rw[List.take_zero,append_nil];exact t1,rfl⟩) ?_ ?_ ?_ ?_
   ·intro j acc3 τ H5 hj pe;rw[hPe] at pe;obtain⟨_,rfl,t5,_⟩:=pe;have:=t5.length;rw[length_append,length_take] at this;exact aP (show acc3.length+1<=1000000 by omega)
   ·intro j acc3 τ H5 pe;rw[hPe] at pe;obtain⟨_,rfl,t5,_⟩:=pe;exact SqL.of ep
   ·intro j y acc3 τ H5 hy pe;rw[hPe] at pe;obtain⟨o2',rfl,t5,rfl⟩:=pe;obtain⟨p6,z,rfl,hz,ez⟩:=tv.got hy;push_cast;rw[hPe];refine⟨_,rfl,?_,rfl⟩;rw[take_add_one,hz,<- append_assoc];exact t5.snoc ez
   ·intro acc3 τ H5 pe;rw[hPe] at pe;obtain⟨o2',rfl,t5,rfl⟩:=pe;rw[hPc];refine⟨_,_,rfl,?_,rfl⟩;rw[hvl,take_length] at t5;rw[take_add_one,hc,List.flatten_append];show bM prE _ acc3 ((cs.take i).flatten++(c++[]));rw[append_nil];exact t5
  ·intro acc τ H1 d pc hd;rw[hPc] at pc;obtain⟨o1,o2,rfl,t1,rfl⟩:=pc;rw[tl.length,take_length] at t1;have s1:=aA (o:=HO.lst acc) hd;have e1:upd H1 d (HO.lst acc) d=_:=aB;generalize upd H1 d (HO.lst acc)=H2 at s1 e1 |-;obtain⟨ps,rfl⟩:=t1.refs;obtain⟨r1,r2⟩:=t1.read (dec:=pG H1) KN;have hpl:ps.length=cs.flatten.length:=by have:=t1.length;rwa [length_map] at this
   refine⟨d,ps,fun p=>(pG H1 p).1,fun p=>(pG H1 p).2,rfl,e1,ω,fun p m=>⟨s1 _ _ (r2 p m),(hb _ (by rw[r1];exact mem_map_of_mem m)).2⟩,fun d3 qs hd3 hp ho=>?_⟩;have s3:Same H1 (upd H2 d3 (.lst (qs.map V.ref))):=s1.trans (aA hd3);have ed:upd H2 d3 (.lst (qs.map V.ref)) d3=_:=aB;generalize upd H2 d3 (.lst (qs.map V.ref))=H3 at s3 ed |-;have tz:bM prE H1 (qs.map V.ref) (qs.map (pG H1)):=.of_map fun p m=>r2 p (hp.mem_iff.mp m);have pz:(qs.map (pG H1)).Perm cs.flatten:=by rw[r1];exact hp.map _
   have hu:(qs.map (pG H1)).Pairwise fun a b=>a.1<=b.1:=by
    refine pairwise_map.mpr (ho.imp fun {a b} z=>?_);rcases z with z|z
    ·exact Int.le_of_lt z
    ·exact Int.le_of_eq z.1
   generalize hzs:qs.map (pG H1)=zs at tz pz hu;have q0:=q H3 zs s3 pz hu;have zl:=tz.length;push_cast [ed];obtain⟨Pv,hPv⟩:∃Pv:Nat->L2.St->Hp->Prop,Pv=fun(i:Nat) σ H'=>∃(ah:Option Int)(o2 o3:Option V),H'=H3/\cM ah (zs.drop i)=cM none zs/\σ=[some (.ref l),some (oV ah),o2,o3]:=⟨_,rfl⟩;refine zQ hR Pv (by rw[hPv];exact⟨none,_,_,rfl,rfl,rfl⟩) (fun i σ H' _ pv=>by rw[hPv] at pv;obtain⟨_,_,_,rfl,_⟩:=pv;exact SqL.of ed) ?_ ?_
   ·intro i x σ H4 hx pv;rw[hPv] at pv;obtain⟨ah,o2,o3,rfl,hah,rfl⟩:=pv;obtain⟨p,z,rfl,hz,ep⟩:=(tz.same s3).got hx;replace ep:H4 p=some (.tup [.int z.1,.int z.2]):=ep;have edz:zs.drop i=z::zs.drop (i+1):=oh hz;rw[edz] at hah;cases ah with
    | none=>
     rw[TX (by rintro⟨a,e,_⟩;cases e)] at hah;push_cast [ep,oV];rw[hPv];exact⟨some z.2,_,_,rfl,hah,rfl⟩
    | some a=>
     push_cast [ep,oV];by_cases c:z.1<=a
     ·rw[X4 c] at hah;rw[if_pos c];rw[<- hah] at q0;exact q0
     ·rw[TX (by rintro⟨b,e,h⟩;cases e;exact c h)] at hah;rw[if_neg c];rw[hPv];exact⟨some z.2,_,_,rfl,hah,rfl⟩
   ·intro σ H4 pv;rw[hPv] at pv;obtain⟨ah,o2,o3,rfl,hah,rfl⟩:=pv;rw[zl,drop_length,X5] at hah;rw[<- hah] at q0;show k _ _;subst hk;push_cast;exact q0
theorem SQ (hB:∀x:Str,x∈BLs->mg x=none) (CLeastShared:Cal P w K mg base "least_shared" 2 ["rows"] Zw) (CCaseSpans:Cal P w K mg base "case_spans" 5 ["width","sign","items"] Qx) (CCasePicks:Cal P w K mg base "case_picks" 3 ["width","items","number"] Ks) (F:Fun K "clash_of" "clash_of" eF f fd):dm P w K mg base CX0 6 f fd ["choice"] Kr:=by
 refine F.okq j4 (fun vs H Q E h=>?_) (fun cdv A outer s H vs Q E hr h=>?_)
 ·obtain⟨x,w,s,ok,css,rfl,_⟩:=h;rfl
 ·obtain⟨x,w,s,ok,css,rfl,h1,h2,hs,t,hok,hsum,q⟩:=h;refine⟨_,(aD (iz (ao Jq) (dX (n:=3) rfl (aK (bN Jp j4.nd (.inl rfl)) (aK (bN Jo j4.nd (.inl rfl)) (aK (bN sJ j4.nd (.inl rfl)) cR rfl) rfl) rfl) rfl rfl) rfl rfl rfl)
   (aD (bQ sI j4.nd (bw CLeastShared (hr.mono δ) qz Bh (ak (eY (NX:=je) (kX:=(aj eF).names) ["items","width","sign"] [none,some 1,some 2] rfl rfl ⟨rfl,ψ,ψ,ψ,ψ⟩ rfl (cN (ao sJ)) (fun _ _ _ _ _=>(cI 0 (show List.Nodup (["items","width","sign"]:List Str) from by decide +kernel) rfl (Or.inl rfl))) (fun _ _ _ _ _=>jF) (fun _ _ _ _ _=>(bw CCaseSpans (hr.mono δ) rfl wQ (ak (bI 1) (ak (bI 2) (ak (bI 0) au rfl) rfl) rfl) rfl rfl))) au rfl) rfl rfl) rfl (.inl rfl))
   (aD (cA (aU Sq (ao sI) rR (aM _)) (aG (aO rR)) bL)
   (aD (Dm (NX:=je) (kX:=(aj eF).names) ["label","items","width","number"] [none,none,some 1,some 4] sH j4.nd rfl rfl ⟨rfl,ψ,ψ,ψ,ψ⟩ rfl (uq sX (hB "enumerate" iU) (ak (ao sJ) au rfl) rfl) (fun _ _ _ _ _=>(dX (n:=2) rfl (aK (cI 0 (show List.Nodup (["label","items","width","number"]:List Str) from by decide +kernel) rfl (Or.inl rfl)) (aK (cI 1 (show List.Nodup (["label","items","width","number"]:List Str) from by decide +kernel) rfl (Or.inl rfl)) cR rfl) rfl) rfl rfl)) (fun _ _ _ _ _=>(vM (gQ (bw CCasePicks (hr.mono δ) rfl Hl (ak (bI 2) (ak (bI 1) (ak (bI 3) au rfl) rfl) rfl) rfl rfl) (fun _=>rfl)))) (fun _ _ _ _ _=>(bI 0)))
   (aG (aO (cX (ak (aX b7 (ao sH) aq (fun _ _=>rfl)) (ak (aX b7 (ao sH) aq (fun _ _=>rfl)) (ak (ao sI) au rfl) rfl) rfl)))))))),?_⟩
  obtain⟨p,c,xs,rfl,op,ep,oc,ec,z,ts⟩:=gY t;have hlen:=ts.length;rw[length_map] at hlen;have wb:=jj h1 h2 hs;refine aL fun k hk=>?_;push_cast [ep];subst hk;refine aL fun k hk=>?_;push_cast;refine fu fun R hR=>?_;push_cast [ec];obtain⟨Pc,hPc⟩:∃Pv:Nat->List V->L2.St->Hp->Prop,Pv=fun(i:Nat) acc τ H'=>∃(cs:List (List (Int×Int))) (o1:Option V),Same H H'/\tL H' acc cs/\lO w s (css.take i) cs/\cs.length=i/\τ=[o1,some (.int w),some (.int s)]:=⟨_,rfl⟩;refine lK hR (xs:=xs) (aP ω) Pc (by rw[hPc];exact⟨[],none,Same.refl _,.nil,.nil,rfl,rfl⟩) ?_ ?_ ?_ ?_
  ·intro i acc τ H1 pc;rw[hPc] at pc;obtain⟨cs,o1,s1,l1,a1,hl1,rfl⟩:=pc;rw[l1.length,hl1];exact Nat.le_refl _
  ·intro i acc τ H1 pc;rw[hPc] at pc;obtain⟨cs,o1,s1,l1,a1,hl1,rfl⟩:=pc;exact SqL.of (s1 _ _ ec)
  ·intro i x acc τ H1 hx pc;rw[hPc] at pc;obtain⟨cs,o1,s1,l1,a1,hl1,rfl⟩:=pc;obtain⟨d,hd,td⟩:=(ts.same s1).get hx;rw[getElem?_map] at hd;obtain⟨its,hits,rfl⟩:=map_eq_some_iff.mp hd;have hmem:=mem_of_getElem? hits;have hle:its.length<=110:=Nat.le_trans (sO hmem) hsum;push_cast;refine⟨w,s,x,ok,its,rfl,h1,h2,hs,td,hok its hmem,ω,fun r H2 us ys s2 hr2 e2 t2 c2=>?_⟩;rw[hPc];refine⟨cs++[ys],_,s1.trans s2,(l1.same s2).snoc e2 t2,?_,by rw[length_append,length_singleton,hl1],rfl⟩;rw[take_add_one,hits];exact a1.snoc c2
  ·intro acc τ H1 d pc hd;rw[hPc] at pc;obtain⟨cs,o1,s1,l1,a1,hl1,rfl⟩:=pc;rw[hlen,take_length] at a1;have s2:=s1.trans (aA (o:=HO.lst acc) hd);have l2:=l1.same (aA (o:=HO.lst acc) hd);have e2:upd H1 d (HO.lst acc) d=_:=aB;generalize upd H1 d (HO.lst acc)=H2 at s2 l2 e2 |-;have hfl:=a1.len;refine⟨d,acc,cs,rfl,e2,l2,fun y my=>?_,ω,fun H3 zs s3 pz hu=>?_⟩
   ·obtain⟨c,mc,my⟩:=mem_flatten.mp my;obtain⟨_,_,k⟩:=a1.mem mc;have:=k.ins y my;exact⟨this.2.1,ω,ω⟩
   have s23:=s2.trans s3;cases hm:cM none zs with
   | none=>
    push_cast [oV];subst hk;push_cast;exact q _ _ none s23 (JV a1 pz hm) .non
   | some n=>
    obtain⟨i,j,hc,r,hlab⟩:=JT a1 pz hu hm;push_cast [oV];subst hk;have ec3:=s23 _ _ ec;refine aL fun k hk=>?_;push_cast;subst hk;refine aL fun k hk=>?_;push_cast;refine fu fun R2 hR2=>?_;push_cast [zu,ec3];refine⟨⟨_,SqL.of ec3⟩,?_⟩;obtain⟨Pd,hPd⟩:∃Pv:Nat->List V->L2.St->Hp->Prop,Pv=fun(i:Nat) acc τ H'=>∃(o1 o2:Option V),Same H3 H'/\acc=dh (eO w n (css.take i))/\τ=[o1,o2,some (.int w),some (.int n)]:=⟨_,rfl⟩;refine Vf hR2 (xs:=xs) (aP ω) Pd (by rw[hPd];exact⟨none,none,Same.refl _,rfl,rfl⟩) ?_ ?_ ?_ ?_
    ·intro i acc τ H4 pc;rw[hPd] at pc;obtain⟨o1,o2,s4,rfl,rfl⟩:=pc;rw[eG,qe];refine Nat.le_trans (length_filter_le _ _) ?_;exact length_take_le _ _
    ·intro i acc τ H4 pc;rw[hPd] at pc;obtain⟨o1,o2,s4,rfl,rfl⟩:=pc;exact SqL.of (s4 _ _ ec3)
    ·intro i x acc τ H4 p4 hx pc hp4;rw[hPd] at pc;obtain⟨o1,o2,s4,rfl,rfl⟩:=pc;obtain⟨d,hd,td⟩:=(ts.same (s23.trans s4)).get hx;rw[getElem?_map] at hd;obtain⟨its,hits,rfl⟩:=map_eq_some_iff.mp hd;have s5:=aA (o:=HO.tup [V.int (i:Nat),x]) hp4;have e5:upd H4 p4 (HO.tup [V.int (i:Nat),x]) p4=_:=aB;have td5:=td.same s5;have s45:=s4.trans s5;generalize upd H4 p4 (HO.tup [V.int (i:Nat),x])=H5 at e5 td5 s45 |-;push_cast [e5];refine⟨w,n,x,ok,its,rfl,h1,h2,td5,fun H6 s6=>?_⟩;have hst:=N6 (w:=w) (n:=n) hits;cases hany:its.any (aN w n) with
     | true=>
      rw[hany,if_pos rfl] at hst;push_cast;rw[hPd];exact⟨_,_,s45.trans s6,by rw[hst];simp [dh],rfl⟩
     | false=>
      rw[hany,if_neg δ,append_nil] at hst;push_cast;rw[hPd];exact⟨_,_,s45.trans s6,by rw[hst],rfl⟩
    ·intro acc τ H4 d4 pc hd4;rw[hPd] at pc;obtain⟨o1,o2,s4,rfl,rfl⟩:=pc;rw[hlen,take_length,hlab];subst hk;have s5:=(s23.trans s4).trans (aA (o:=HO.lst (dh (i::j::r))) hd4);have e5:upd H4 d4 (HO.lst (dh (i::j::r))) d4=some (.lst (V.int (i:Nat)::V.int (j:Nat)::dh r)):=aB;generalize upd H4 d4 (HO.lst (dh (i::j::r)))=H5 at s5 e5 |-;have a0:atI (V.int (i:Nat)::V.int (j:Nat)::dh r) 0=some (V.int (i:Nat)):=Vx _ _;have a1:atI (V.int (i:Nat)::V.int (j:Nat)::dh r) 1=some (V.int (j:Nat)):=ZL _ _ _;push_cast [e5,a0,a1];refine⟨aP δ,fun p6 hp6=>?_⟩;exact q _ _ (some (i,j,n)) (s5.trans (aA hp6)) hc (.tup (none_of s5 hp6) aB (by show 3<=1000000;decide) (.cons (.int _) (.cons (.int _) (.cons (.int _) .nil))))
abbrev Fd:List Str:=["_law_tape_here","_law_great","_law_width"]
abbrev rP:Stmt:=top 28
theorem Df:aY Fd ["_law_tape_here"] (aj rP):=⟨rfl,rfl,rfl,ψ,rfl,ψ,ψ⟩
theorem uy:NM_ Fd rP 0 "_law_tape_here" := .of ψ
theorem Gs:NM_ Fd rP 1 "_law_great" := .of ψ
theorem Gr:NM_ Fd rP 2 "_law_width" := .of ψ
theorem jY:GI_ rP "_law_take" := by decide +kernel
theorem Y5:Bn "_law_kind" := ⟨ψ,ψ⟩
abbrev Fb:List Str:=["_law_width","_law_sign"]
abbrev uf:Stmt:=top 29
theorem QM:aY Fb ["_law_width","_law_sign"] (aj uf):=⟨rfl,rfl,rfl,ψ,rfl,ψ,ψ⟩
theorem Nt:NM_ Fb uf 0 "_law_width" := .of ψ
theorem Nr:NM_ Fb uf 1 "_law_sign" := .of ψ
theorem vm:Bn "_law_least" := ⟨ψ,ψ⟩
abbrev jc:List Str:=["_law_tape_here","_law_width","_law_sign","_law_other","_law_least_here","_law_many","_law_way","_law_far"]
abbrev dM:Stmt:=top 32
theorem vD:aY jc ["_law_tape_here","_law_width","_law_sign","_law_other"] (aj dM):=⟨rfl,rfl,rfl,ψ,rfl,ψ,ψ⟩
theorem su:NM_ jc dM 0 "_law_tape_here" := .of ψ
theorem yu:NM_ jc dM 1 "_law_width" := .of ψ
theorem Jj:NM_ jc dM 2 "_law_sign" := .of ψ
theorem yt:NM_ jc dM 3 "_law_other" := .of ψ
theorem kJ:NM_ jc dM 4 "_law_least_here" := .of ψ
theorem nM:NM_ jc dM 5 "_law_many" := .of ψ
theorem rZ:NM_ jc dM 6 "_law_way" := .of ψ
theorem nJ:NM_ jc dM 7 "_law_far" := .of ψ
theorem xg:GI_ dM "_law_least" := by decide +kernel
theorem lG:GI_ dM "_law_take" := by decide +kernel
theorem Ed:GI_ dM "min" := by decide +kernel
theorem Cu:Bn "_law_number" := ⟨ψ,ψ⟩
theorem Xy (hB:∀x:Str,x∈BLs->mg x=none) (CZTake:Cal P w K mg base "_law_take" 2 ["_law_tape_here","_law_many"] (gM 2)) (F:Fun K "_law_kind" "_law_kind" rP f fd):dm P w K mg base CX0 3 f fd ["_law_tape_here"] Qs:=by
 refine F.okq Df (fun vs H Q E h=>?_) (fun cdv A outer s H vs Q E hr h=>?_)
 ·obtain⟨p,B,rfl,_⟩:=h;rfl
 ·obtain⟨p,B,rfl,tp,hB0,hB1,q⟩:=h;refine⟨_,(aD (bQ Gs Df.nd (fM (bT hr.aZ) (bw CZTake (hr.mono δ) jY cU (ak (ao uy) (ak aq au rfl) rfl) rfl rfl) aq (aM _)) rfl (.inl rfl))
   (aD (bQ Gr Df.nd (ur (gQ (ao Gs) (fun _=>rfl)) (aJ bA aq (bw CZTake (hr.mono δ) jY cU (ak (ao uy) (ak aq au rfl) rfl) rfl rfl)) (aJ bA aq (bw CZTake (hr.mono δ) jY cU (ak (ao uy) (ak aq au rfl) rfl) rfl rfl))) rfl (.inl rfl))
   (aG (aO (cX (ak (ao Gr) (ak (bw CZTake (hr.mono δ) jY cU (ak (ao uy) (ak aq au rfl) rfl) rfl rfl) au rfl) rfl)))))),?_⟩
  have fin:∀(gr:Bool)(w:Int)(H1:Hp),1<=w->w<=40->dZ p H H1->bO H1 p (B+4) ->
    Fp (Mq (jT (tV 2) (jT (oU (gM 2) [] E0 (jT (tV 0) (jT (tC (V.int 2)) xW))) xW))) { nx:=fun x H'=>Q V.non H',rt:=Q } [some (.ref p),some (.bl gr),some (.int w)] H1:=by
   intro gr w H1 h1 h2 s1 t1;push_cast;refine⟨p,2,B+4,rfl,t1,by show B+4+2<=1000100;omega,δ,δ,δ,fun z=>absurd z δ,fun r H2 r0 r1 s2 t2=>?_⟩;push_cast;refine⟨aP δ,fun t ht=>q w r t _ h1 h2 ω ((s1.trans s2).trans (aA ht).x) ((t2.same (aA ht)).le (by show B+4+2<=B+10;omega)) aB⟩
  refine aL fun k hk=>?_;push_cast;refine⟨p,8,B,rfl,tp,by show B+2<=1000100;omega,δ,δ,δ,fun z=>absurd z δ,fun r1 H1 r10 r11 s1 t1=>?_⟩;push_cast;subst hk;refine aL fun k hk=>?_;push_cast;have u1:bO H1 p (B+2):=t1;split
  ·refine⟨p,33,B+2,rfl,u1,by show B+2+2<=1000100;omega,δ,δ,δ,fun z=>absurd z δ,fun r2 H2 r20 r21 s2 t2=>?_⟩;push_cast;subst hk;exact fin _ _ _ ω ω (s1.trans s2) (t2.le (by show B+2+2<=B+4;omega))
  ·refine⟨p,7,B+2,rfl,u1,by show B+2+2<=1000100;omega,δ,δ,δ,fun z=>absurd z δ,fun r2 H2 r20 r21 s2 t2=>?_⟩;push_cast;subst hk;exact fin _ _ _ ω ω (s1.trans s2) (t2.le (by show B+2+2<=B+4;omega))
theorem Sy (F:Fun K "_law_least" "_law_least" uf f fd):dm P w K mg base CX0 1 f fd ["_law_width","_law_sign"] oX:=by
 refine F.okq QM (fun vs H Q E h=>?_) (fun cdv A outer s H vs Q E hr h=>?_)
 ·obtain⟨w,s,rfl,_⟩:=h;rfl
 ·obtain⟨w,s,rfl,h1,h2,hs,q⟩:=h;refine⟨_,(aG (aO (aJ dY aq (aJ iD (aJ dJ aq (aJ dY (ao Nt) aq)) (ao Nr))))),?_⟩;unfold wl at q;push_cast;refine⟨⟨ω,ω,δ⟩,.inr ω,?_⟩;rw[Int.one_mul];exact q
theorem aaU (hB:∀x:Str,x∈BLs->mg x=none) (CZTake:Cal P w K mg base "_law_take" 2 ["_law_tape_here","_law_many"] (gM 2)) (CZLeast:Cal P w K mg base "_law_least" 1 ["_law_width","_law_sign"] oX) (F:Fun K "_law_number" "_law_number" dM f fd):dm P w K mg base CX0 3 f fd ["_law_tape_here","_law_width","_law_sign","_law_other"] Zv:=by
 refine F.okq vD (fun vs H Q E h=>?_) (fun cdv A outer s H vs Q E hr h=>?_)
 ·obtain⟨p,w,s,o,B,rfl,_⟩:=h;rfl
 ·obtain⟨p,w,s,o,B,rfl,tp,hB0,hB1,hw1,hw2,hs,q⟩:=h;refine⟨_,(aD (Dp (i:=4) (j:=5) rfl vD.nd rfl rfl δ rfl rfl (ak (bw CZLeast (hr.mono δ) xg vm (ak (ao yu) (ak (ao Jj) au rfl) rfl) rfl rfl) (ak (aJ dJ aq (ao yu)) au rfl) rfl) (by rfl))
   (aD (Dp (i:=6) (j:=7) rfl vD.nd rfl rfl δ rfl rfl (ak (bw CZTake (hr.mono δ) lG cU (ak (ao su) (ak aq au rfl) rfl) rfl rfl) (ak (bw CZTake (hr.mono δ) lG cU (ak (ao su) (ak (cB (wA rfl) Ed (hB "min" Jw) boot_min J0 (ak (ao nM) (ak aq au rfl) rfl) rfl rfl) au rfl) rfl) rfl rfl) au rfl) rfl) (by rfl))
   (aD (cA (aU (bT hr.aZ) (ao rZ) aq (aM _)) (aG (aO (aJ bA (ao kJ) (ao nJ)))) bL)
   (aD (cA (aU (bT hr.aZ) (ao rZ) aq (aM _)) (aG (aO (aJ dY (aJ dY (aJ bA (ao kJ) (ao nM)) aq) (ao nJ)))) bL)
   (aD (cA (vJ (vI (aU (bT hr.aZ) (ao rZ) aq (aM _)) (um (Rt uw pH (ao kJ) (aJ bA (ao yt) (ao nJ)) (aJ bA (ao kJ) (ao nM)))))) (aG (aO (aJ bA (ao yt) (ao nJ)))) bL)
   (aG (aO (aJ bA (ao kJ) (bw CZTake (hr.mono δ) lG cU (ak (ao su) (ak (ao nM) au rfl) rfl) rfl rfl))))))))),?_⟩
  have p1:=two_pow_pos w.toNat;have p2:=g8 (k:=w.toNat) ω;have p3:(2:Int)<=2^w.toNat:=by
   have e:=mZ hw1;have:=two_pow_pos (w-1).toNat;omega
  have b1:=jj hw1 hw2 hs;refine aL fun k hk=>?_;push_cast;refine⟨w,s,rfl,hw1,hw2,hs,?_⟩;push_cast;refine⟨⟨ω,ω,δ⟩,?_⟩;subst hk;rw[Int.one_mul];refine aL fun k hk=>?_;push_cast;refine⟨p,5,B,rfl,tp,by show B+2<=1000100;omega,δ,δ,δ,fun z=>absurd z δ,fun r1 H1 r10 r11 s1 t1=>?_⟩;push_cast;have m6:(0:Int)<(if (6:Int)<(2:Int)^w.toNat then (6:Int) else (2:Int)^w.toNat)/\(if (6:Int)<(2:Int)^w.toNat then (6:Int) else (2:Int)^w.toNat)<=(2:Int)^w.toNat:=by
   split <;> omega
  refine⟨p,(if (6:Int)<(2:Int)^w.toNat then (6:Int) else (2:Int)^w.toNat),B+2,rfl,t1,by show B+2+2<=1000100;omega,m6.1,ω,δ,fun _=>by decide,fun r2 H2 r20 r21 s2 t2=>?_⟩;push_cast;subst hk;have s12:=s1.trans s2;have t12:bO H2 p (B+10):=t2.le (by show B+2+2<=B+10;omega);have fin:Fp (tOp Gf (tV 4) (oU (gM 2) [] E0 (jT (tV 0) (jT (tV 5) xW)))) { nx:=fun x H'=>Q V.non H',rt:=Q } [some (.ref p),some (.int w),some (.int s),some (.int o),some (.int (wl w s)),some (.int (2^w.toNat)),some (.int r1),some (.int r2)] H2:=by
   push_cast;refine⟨p,2^w.toNat,B+2+2,rfl,t2,by show B+2+2+2<=1000100;omega,p1,ω,δ,fun _=>by decide,fun r3 H3 r30 r31 s3 t3=>?_⟩;push_cast;exact q _ _ ω ω (s12.trans s3) (t3.le (by show B+2+2+2<=B+10;omega))
  refine aL fun k hk=>?_;push_cast;split
  ·exact q _ _ ω ω s12 t12
  subst hk;refine aL fun k hk=>?_;push_cast;split
  ·exact q _ _ ω ω s12 t12
  subst hk;refine aL fun k hk=>?_;push_cast;split
  ·split
   ·split
    ·exact q _ _ ω ω s12 t12
    ·subst hk;exact fin
   ·subst hk;exact fin
  ·subst hk;exact fin
abbrev tG:List Str:=["_law_tape_here","_law_width","_law_way","_law_top","_law_mask_here","_law_turn"]
abbrev j9:Stmt:=top 33
theorem tZ:aY tG ["_law_tape_here","_law_width"] (aj j9):=⟨rfl,rfl,rfl,ψ,rfl,ψ,ψ⟩
theorem mX:NM_ tG j9 0 "_law_tape_here" := .of ψ
theorem mW:NM_ tG j9 1 "_law_width" := .of ψ
theorem Gq:NM_ tG j9 2 "_law_way" := .of ψ
theorem Gp:NM_ tG j9 3 "_law_top" := .of ψ
theorem pN:NM_ tG j9 4 "_law_mask_here" := .of ψ
theorem S7:NM_ tG j9 5 "_law_turn" := .of ψ
theorem fY:GI_ j9 "_law_take" := by decide +kernel
theorem Ef:GI_ j9 "range" := by decide +kernel
theorem Y4:Bn "_law_mask" := ⟨ψ,ψ⟩
abbrev mL:List Str:=["_law_tape_here","_law_width","_law_sign","_law_other","_law_way","_law_one","_law_two","_law_mask_here","_law_value"]
abbrev fL:Stmt:=top 34
theorem qN:aY mL ["_law_tape_here","_law_width","_law_sign","_law_other"] (aj fL):=⟨rfl,rfl,rfl,ψ,rfl,ψ,ψ⟩
theorem mY:NM_ mL fL 0 "_law_tape_here" := .of ψ
theorem uz:NM_ mL fL 1 "_law_width" := .of ψ
theorem Gu:NM_ mL fL 2 "_law_sign" := .of ψ
theorem S8:NM_ mL fL 3 "_law_other" := .of ψ
theorem yD:NM_ mL fL 4 "_law_way" := .of ψ
theorem pO:NM_ mL fL 5 "_law_one" := .of ψ
theorem yC:NM_ mL fL 6 "_law_two" := .of ψ
theorem yx:NM_ mL fL 7 "_law_mask_here" := .of ψ
theorem yw:NM_ mL fL 8 "_law_value" := .of ψ
theorem Eg:GI_ fL "_law_mask" := by decide +kernel
theorem qt:GI_ fL "_law_number" := by decide +kernel
theorem nW:GI_ fL "_law_take" := by decide +kernel
theorem JM:GI_ fL "max" := by decide +kernel
theorem JL:GI_ fL "min" := by decide +kernel
theorem Y6:Bn "_law_item" := ⟨ψ,ψ⟩
theorem K1 (hB:∀x:Str,x∈BLs->mg x=none) (CZTake:Cal P w K mg base "_law_take" 2 ["_law_tape_here","_law_many"] (gM 2)) (F:Fun K "_law_mask" "_law_mask" j9 f fd):dm P w K mg base CX0 3 f fd ["_law_tape_here","_law_width"] Qp:=by
 refine F.okq tZ (fun vs H Q E h=>?_) (fun cdv A outer s H vs Q E hr h=>?_)
 ·obtain⟨p,w,B,rfl,_⟩:=h;rfl
 ·obtain⟨p,w,B,rfl,tp,hB0,hB1,hw1,hw2,q⟩:=h;refine⟨_,(aD (cA (aU pH (ao mW) aq (aM _)) (aG (aO (bw CZTake (hr.mono δ) fY cU (ak (ao mX) (ak (aJ dJ aq (ao mW)) au rfl) rfl) rfl rfl))) bL)
   (aD (Dp (i:=2) (j:=3) rfl tZ.nd rfl rfl δ rfl rfl (ak (bw CZTake (hr.mono δ) fY cU (ak (ao mX) (ak aq au rfl) rfl) rfl rfl) (ak (aJ bA aq (bw CZTake (hr.mono δ) fY cU (ak (ao mX) (ak aq au rfl) rfl) rfl rfl)) au rfl) rfl) (by rfl))
   (aD (cA (aU (bT hr.aZ) (ao Gq) aq (aM _)) (aG (aO (aJ dJ (bw CZTake (hr.mono δ) fY cU (ak (ao mX) (ak aq au rfl) rfl) rfl rfl) (aJ dY (ao mW) aq)))) bL)
   (aD (bQ pN tZ.nd (ur (aU (bT hr.aZ) (ao Gq) aq (aM _)) (aJ dJ (aJ dY (aJ dJ aq (ao Gp)) aq) (aJ dY (ao mW) (ao Gp))) (aJ dY (aJ dJ aq (ao mW)) aq)) rfl (.inl rfl))
   (aD (eX PassesOwn.never rfl (gZ Ef (hB "range" gw) (ak (bw CZTake (hr.mono δ) fY cU (ak (ao mX) (ak aq au rfl) rfl) rfl rfl) au rfl) rfl) (bN S7 tZ.nd (.inl rfl))
   (aG (bQ pN tZ.nd (aJ dY (ao pN) (aJ jH (ao pN) (aJ dJ aq (bw CZTake (hr.mono δ) fY cU (ak (ao mX) (ak (ao mW) au rfl) rfl) rfl rfl)))) rfl (.inl rfl))) (fun _=>rfl))
   (aG (aO (ao pN)))))))),?_⟩
  have p1:=two_pow_pos w.toNat;have p2:=g8 (k:=w.toNat) ω;refine aL fun k hk=>?_;push_cast [Int.one_mul];split
  ·rename_i c;refine⟨⟨ω,ω,δ⟩,p,2^w.toNat,B,rfl,tp,by show B+2<=1000100;omega,p1,ω,δ,fun _=>by decide,fun r H1 r0 r1 s1 t1=>?_⟩;obtain⟨n,rfl⟩:=Int.eq_ofNat_of_zero_le r0;exact q n H1 (TV r1) (fun z=>ω) s1 (t1.le (by show B+2<=B+20;omega))
  rename_i c;subst hk;refine aL fun k hk=>?_;push_cast;refine⟨p,3,B,rfl,tp,by show B+2<=1000100;omega,δ,δ,δ,fun z=>absurd z δ,fun r1 H1 r10 r11 s1 t1=>?_⟩;push_cast;refine⟨p,4,B+2,rfl,t1,by show B+2+2<=1000100;omega,δ,δ,δ,fun z=>absurd z δ,fun r2 H2 r20 r21 s2 t2=>?_⟩;push_cast;subst hk;have s12:=s1.trans s2;refine aL fun k hk=>?_;push_cast;split
  ·refine⟨p,16,B+2+2,rfl,t2,by show B+2+2+2<=1000100;omega,δ,δ,δ,fun z=>absurd z δ,fun r3 H3 r30 r31 s3 t3=>?_⟩;obtain⟨n,rfl⟩:=Int.eq_ofNat_of_zero_le r30;push_cast;refine⟨⟨ω,ω,ω⟩,?_⟩;obtain⟨m,e,hm⟩:=X3 (W:=w.toNat) (r:=n) ω ω;rw[show(w-4).toNat=w.toNat-4 by omega,e];exact q m H3 hm.1 (fun _=>hm.frees) (s12.trans s3) (t3.le (by show B+2+2+2<=B+20;omega))
  subst hk;have go:∀(b m:Nat),xr w.toNat b m 0->Ii
     (Wc (qg (jT (oU (gM 2) [] E0 (jT (tV 0) (jT (tC (V.int 4)) xW))) xW)) (lH 5)
      (wW (tOp (rI0 fun i j=>V.int (i-j)) (tV 4)
        (tOp (rI0 fun i j=>V.int (Builtin.bitAnd i j)) (tV 4)
         (tOp (rI Zm fun i j=>V.int (i*2^j.toNat)) (tC (V.int 1))
          (oU (gM 2) [] E0 (jT (tV 0) (jT (tV 1) xW)))))) (lH 4)))
     (Fp (tV 4)) { nx:=fun x H'=>Q V.non H',rt:=Q } [some (V.ref p),some (V.int w),some (V.int r1),some (V.int (5+r2)),some (V.int m),none] H2:=by
   intro b m hm;refine aL fun k hk=>?_;refine iW fun R hR=>?_;push_cast [qg];refine⟨p,4,B+2+2,rfl,t2,by show B+2+2+2<=1000100;omega,δ,δ,δ,fun z=>absurd z δ,fun r3 H3 r30 r31 s3 t3=>?_⟩;push_cast;have u3:bO H3 p (B+6):=t3.le (by show B+2+2+2<=B+6;omega);obtain⟨Pv,hPv⟩:∃Pv:Nat->L2.St->Hp->Prop,Pv=fun(i:Nat) σ H'=>∃(m:Nat)(o5:Option V),dZ p H H'/\bO H' p (B+6+2*(i:Int))/\xr w.toNat b m i/\σ=[some (V.ref p),some (V.int w),some (V.int r1),some (V.int (5+r2)),some (V.int m),o5]:=⟨_,rfl⟩;refine⟨ω,ω,zP hR Pv (by rw[hPv];exact⟨m,none,s12.trans s3,by simpa using u3,hm,rfl⟩) ?_ ?_⟩
   ·intro i σ H4 hi pv;rw[hPv] at pv;obtain⟨m4,o5,s4,t4,hm4,rfl⟩:=pv;push_cast;refine⟨p,w,B+6+2*(i:Int),rfl,t4,by show B+6+2*(i:Int)+2<=1000100;omega,ω,ω,δ,fun _=>by decide,fun r5 H5 r50 r51 s5 t5=>?_⟩;push_cast [Int.one_mul];obtain⟨m5,e5,hm5⟩:=aa6 hm4 r5.toNat;refine⟨⟨ω,ω,δ⟩,?_⟩;rw[e5,hPv];exact⟨m5,_,s4.trans s5,t5.le (by show B+6+2*(i:Int)+2<=B+6+2*((i+1:Nat):Int);omega),hm5,rfl⟩
   ·intro σ H4 pv;rw[hPv] at pv;obtain⟨m4,o5,s4,t4,hm4,rfl⟩:=pv;show k _ _;subst hk;push_cast;have hm9:=hm4.le (j:=4) ω;exact q m4 H4 hm9.1 (fun _=>hm9.frees) s4 (t4.le ω)
  refine aL fun k hk=>?_;push_cast [Int.one_mul];split
  ·refine⟨⟨ω,ω,δ⟩,⟨ω,ω,?_⟩,?_⟩
   ·have a1:=g8 (k:=(5+r2).toNat) ω;have a2:=two_pow_pos (5+r2).toNat;omega
   obtain⟨m,e,hm⟩:=aa5 (W:=w.toNat) (T:=(5+r2).toNat) ω;rw[show(w-(5+r2)).toNat=w.toNat-(5+r2).toNat by omega,e];subst hk;exact go _ m hm
  ·refine⟨⟨ω,ω,δ⟩,?_⟩;obtain⟨m,e,hm⟩:=aa7 w.toNat;rw[e];subst hk;exact go _ m hm
theorem Xz (hB:∀x:Str,x∈BLs->mg x=none) (CZTake:Cal P w K mg base "_law_take" 2 ["_law_tape_here","_law_many"] (gM 2)) (CZNumber:Cal P w K mg base "_law_number" 3 ["_law_tape_here","_law_width","_law_sign","_law_other"] Zv) (CZMask:Cal P w K mg base "_law_mask" 3 ["_law_tape_here","_law_width"] Qp) (F:Fun K "_law_item" "_law_item" fL f fd):dm P w K mg base CX0 4 f fd ["_law_tape_here","_law_width","_law_sign","_law_other"] Qt:=by
 refine F.okq qN (fun vs H Q E h=>?_) (fun cdv A outer s H vs Q E hr h=>?_)
 ·obtain⟨p,w,s,o,B,rfl,_⟩:=h;rfl
 ·obtain⟨p,w,s,o,B,rfl,tp,hB0,hB1,hw1,hw2,hs,q⟩:=h;refine⟨_,(aD (bQ yD qN.nd (bw CZTake (hr.mono δ) nW cU (ak (ao mY) (ak aq au rfl) rfl) rfl rfl) rfl (.inl rfl))
   (aD (bQ pO qN.nd (bw CZNumber (hr.mono δ) qt Cu (ak (ao mY) (ak (ao uz) (ak (ao Gu) (ak (ao S8) au rfl) rfl) rfl) rfl) rfl rfl) rfl (.inl rfl))
   (aD (cA (aU pH (ao yD) aq (aM _)) (aG (aO (cX (ak iB (ak (ao pO) au rfl) rfl)))) bL)
   (aD (bQ yC qN.nd (bw CZNumber (hr.mono δ) qt Cu (ak (ao mY) (ak (ao uz) (ak (ao Gu) (ak (ao pO) au rfl) rfl) rfl) rfl) rfl rfl) rfl (.inl rfl))
   (aD (cA (aU pH (ao yD) aq (aM _)) (aG (aO (cX (ak iB (ak (cB (wA rfl) JL (hB "min" Jw) boot_min J0 (ak (ao pO) (ak (ao yC) au rfl) rfl) rfl rfl) (ak (cB (Ck rfl) JM (hB "max" Tz) boot_max Vk (ak (ao pO) (ak (ao yC) au rfl) rfl) rfl rfl) au rfl) rfl) rfl)))) bL)
   (aD (bQ yx qN.nd (bw CZMask (hr.mono δ) Eg Y4 (ak (ao mY) (ak (ao uz) au rfl) rfl) rfl rfl) rfl (.inl rfl))
   (aD (bQ yw qN.nd (bw CZTake (hr.mono δ) nW cU (ak (ao mY) (ak (aJ dJ aq (ao uz)) au rfl) rfl) rfl rfl) rfl (.inl rfl))
   (aG (aO (cX (ak iB (ak (ao yx) (ak (ur (aU KY (bw CZTake (hr.mono δ) nW cU (ak (ao mY) (ak aq au rfl) rfl) rfl rfl) aq (aM _)) (aJ jH (ao yw) (ao yx)) (ao yw)) au rfl) rfl) rfl))))))))))),?_⟩
  have p1:=two_pow_pos w.toNat;have p2:=g8 (k:=w.toNat) ω;refine aL fun k hk=>?_;push_cast;refine⟨p,5,B,rfl,tp,by show B+2<=1000100;omega,δ,δ,δ,fun z=>absurd z δ,fun r1 H1 r10 r11 s1 t1=>?_⟩;push_cast;subst hk;refine aL fun k hk=>?_;push_cast;have u1:bO H1 p (B+2):=t1;refine⟨p,w,s,o,B+2,rfl,u1,ω,ω,hw1,hw2,hs,fun a H2 a0 a1 s2 t2=>?_⟩;push_cast;subst hk;have s12:=s1.trans s2;refine aL fun k hk=>?_;push_cast;split
  ·refine⟨aP δ,fun t ht=>q (.one a) t _ ⟨a0,a1⟩ (s12.trans (aA ht).x) ((t2.same (aA ht)).le ω) ⟨aB⟩⟩
  subst hk;refine aL fun k hk=>?_;push_cast;refine⟨p,w,s,a,B+2+10,rfl,t2,ω,ω,hw1,hw2,hs,fun b H3 b0 b1 s3 t3=>?_⟩;push_cast;subst hk;have s123:=s12.trans s3;refine aL fun k hk=>?_;push_cast;split
  ·refine⟨aP δ,fun t ht=>q (.rng (if b<a then b else a) (if b>a then b else a)) t _ ⟨?_,?_,?_⟩ (s123.trans (aA ht).x) ((t3.same (aA ht)).le ω) ⟨aB⟩⟩
   ·unfold bZ;split <;> omega
   ·unfold bZ;split <;> omega
   ·split <;> split <;> omega
  subst hk;refine aL fun k hk=>?_;push_cast;refine⟨p,w,B+2+10+10,rfl,t3,ω,ω,hw1,hw2,fun m H4 hm hf s4 t4=>?_⟩;push_cast;subst hk;refine aL fun k hk=>?_;push_cast [Int.one_mul];refine⟨⟨ω,ω,δ⟩,p,2^w.toNat,B+2+10+10+20,rfl,t4,by show B+2+10+10+20+2<=1000100;omega,p1,ω,δ,fun _=>by decide,fun r5 H5 r50 r51 s5 t5=>?_⟩;obtain⟨v,rfl⟩:=Int.eq_ofNat_of_zero_le r50;have hv:=TV r51;subst hk;push_cast;refine⟨p,5,B+2+10+10+20+2,rfl,t5,by show B+2+10+10+20+2+2<=1000100;omega,δ,δ,δ,fun z=>absurd z δ,fun r6 H6 r60 r61 s6 t6=>?_⟩;push_cast;have s456:=((s123.trans s4).trans s5).trans s6;split
  ·refine⟨aP δ,fun t ht=>?_⟩;refine q (.bits m (v &&& m)) t _ ⟨hm,Nat.lt_of_le_of_lt Nat.and_le_right hm,hf⟩ (s456.trans (aA ht).x) ((t6.same (aA ht)).le (by show B+2+10+10+20+2+2<=B+60;omega)) ⟨?_⟩;rw[aB,gW];rfl
  ·refine⟨aP δ,fun t ht=>?_⟩;exact q (.bits m v) t _ ⟨hm,hv,hf⟩ (s456.trans (aA ht).x) ((t6.same (aA ht)).le (by show B+2+10+10+20+2+2<=B+60;omega)) ⟨aB⟩
abbrev cH:List Str:=["_law_tape_here","_law_width","_law_sign","_law_great","_law_cases","_law_other","_law_many","_law_k","_law_items","_law_turn","_law_item_here"]
abbrev aW:Stmt:=top 35
theorem b8:aY cH ["_law_tape_here"] (aj aW):=⟨rfl,rfl,rfl,ψ,rfl,ψ,ψ⟩
theorem fQ:NM_ cH aW 0 "_law_tape_here" := .of ψ
theorem fP:NM_ cH aW 1 "_law_width" := .of ψ
theorem iI:NM_ cH aW 2 "_law_sign" := .of ψ
theorem kI:NM_ cH aW 3 "_law_great" := .of ψ
theorem pI:NM_ cH aW 4 "_law_cases" := .of ψ
theorem iH:NM_ cH aW 5 "_law_other" := .of ψ
theorem kE:NM_ cH aW 6 "_law_many" := .of ψ
theorem yp:NM_ cH aW 7 "_law_k" := .of ψ
theorem fO:NM_ cH aW 8 "_law_items" := .of ψ
theorem yo:NM_ cH aW 9 "_law_turn" := .of ψ
theorem gC:NM_ cH aW 10 "_law_item_here" := .of ψ
theorem sU:GI_ aW "_law_item" := by decide +kernel
theorem sS:GI_ aW "_law_kind" := by decide +kernel
theorem rm:GI_ aW "_law_least" := by decide +kernel
theorem gU:GI_ aW "_law_take" := by decide +kernel
theorem vV:GI_ aW "int" := by decide +kernel
theorem lF:GI_ aW "range" := by decide +kernel
theorem Bc:Bn "_law_wild_choice" := ⟨ψ,ψ⟩
theorem Xv (hB:∀x:Str,x∈BLs->mg x=none) (CZTake:Cal P w K mg base "_law_take" 2 ["_law_tape_here","_law_many"] (gM 2)) (CZKind:Cal P w K mg base "_law_kind" 3 ["_law_tape_here"] Qs) (CZLeast:Cal P w K mg base "_law_least" 1 ["_law_width","_law_sign"] oX) (CZItem:Cal P w K mg base "_law_item" 4 ["_law_tape_here","_law_width","_law_sign","_law_other"] Qt)
  (F:Fun K "_law_wild_choice" "_law_wild_choice" aW f fd):dm P w K mg base CX0 5 f fd ["_law_tape_here"] Ql:=by
 refine F.okq b8 (fun vs H Q E h=>?_) (fun cdv A outer s H vs Q E hr h=>?_)
 ·obtain⟨p,B,rfl,_⟩:=h;rfl
 ·obtain⟨p,B,rfl,tp,hB0,hB1,q⟩:=h;refine⟨_,(aD (iz (bw CZKind (hr.mono δ) sS Y5 (ak (ao fQ) au rfl) rfl rfl) (dX (n:=2) rfl (aK (bN fP b8.nd (.inl rfl)) (aK (bN iI b8.nd (.inl rfl)) cR rfl) rfl) rfl rfl) rfl rfl rfl)
   (aD (bQ kI b8.nd (fM (bT hr.aZ) (bw CZTake (hr.mono δ) gU cU (ak (ao fQ) (ak aq au rfl) rfl) rfl rfl) aq (aM _)) rfl (.inl rfl))
   (aD (Kz (i:=4) (j:=5) (k:=6) rfl b8.nd rfl rfl rfl δ δ δ rfl rfl rfl (ak (dg au) (ak (bw CZLeast (hr.mono δ) rm vm (ak (ao fP) (ak (ao iI) au rfl) rfl) rfl rfl) (ak aq au rfl) rfl) rfl) (by rfl))
   (aD (eX PassesOwn.never rfl (gZ lF (hB "range" gw) (ak (bw CZTake (hr.mono δ) gU cU (ak (ao fQ) (ak (ur (gQ (ao kI) (fun _=>rfl)) aq aq) au rfl) rfl) rfl rfl) au rfl) rfl) (bN yp b8.nd (.inl rfl))
   (aD (bQ fO b8.nd (dg au) rfl (.inl rfl))
   (aD (eX PassesOwn.never rfl (gZ lF (hB "range" gw) (ak (bw CZTake (hr.mono δ) gU cU (ak (ao fQ) (ak (ur (gQ (ao kI) (fun _=>rfl)) aq aq) au rfl) rfl) rfl rfl) au rfl) rfl) (bN yo b8.nd (.inl rfl))
   (aD (bQ gC b8.nd (bw CZItem (hr.mono δ) sU Y6 (ak (ao fQ) (ak (ao fP) (ak (ao iI) (ak (ao iH) au rfl) rfl) rfl) rfl) rfl rfl) rfl (.inl rfl))
   (aD (bQ kE b8.nd (aJ bA (ao kE) (Rz tu vV (hB "int" yX) boot_int zY (ak (fM (bT hr.aZ) (aX b7 (ao gC) aq (fun _ _=>rfl)) iB (aM _)) au rfl) rfl rfl)) rfl (.inl rfl))
   (aD (fD (jx (ao fO) (ur (vJ (rG (aU pH (ao fP) aq (aM _)) (rG (aU pH (ao kE) aq (aM _)) (pD (aU (kj hr.aZ) (aX b7 (ao gC) aq (fun _ _=>rfl)) iB (aM _)))))) (ao gC) (cX (ak iB (ak (ao iH) au rfl) rfl))) rfl rfl rfl rfl rfl) rfl)
   (aG (bQ iH b8.nd (ur (aU (kj hr.aZ) (aX b7 (aX b7 (ao fO) (oG jE aq) (fun _ _=>rfl)) aq (fun _ _=>rfl)) iB (aM _)) (aX b7 (aX b7 (ao fO) (oG jE aq) (fun _ _=>rfl)) aq (fun _ _=>rfl)) (ao iH)) rfl (.inl rfl)))))) (fun _=>rfl))
   (aG (fD (jx (ao pI) (ao fO) rfl rfl rfl rfl rfl) rfl)))) (fun _=>rfl))
   (aG (aO (cX (ak (ao fP) (ak (ao iI) (ak (ao pI) au rfl) rfl) rfl)))))))),?_⟩
  refine aL fun k hk=>?_;push_cast;refine⟨p,B,rfl,tp,ω,ω,fun w s t H1 hw1 hw2 hs s1 tp1 ht=>?_⟩;push_cast [ht];subst hk;refine aL fun k hk=>?_;push_cast;refine⟨p,8,B+10,rfl,tp1,by show B+10+2<=1000100;omega,δ,δ,δ,fun z=>absurd z δ,fun r1 H2 r10 r11 s2 tp2=>?_⟩;push_cast;subst hk;generalize decide (r1=0)=great;refine aL fun k hk=>?_;push_cast;refine⟨aP δ,fun c hc=>?_⟩;refine⟨w,s,rfl,hw1,hw2,hs,?_⟩;push_cast;subst hk;obtain⟨cp,Hc⟩:=zN (s1.trans s2) tp2 hc;have s3:=qO (o:=HO.lst []) (s1.trans s2) Hc;have tp3:bO _ p (B+12):=(tp2.same (aA (o:=HO.lst []) hc)).le (by show B+10+2<=B+12;omega);have hc3:upd H2 c (HO.lst []) c=some (HO.lst []):=aB;generalize upd H2 c (HO.lst [])=H3 at s3 tp3 hc3 |-;refine aL fun k hk=>?_;refine iW fun R hR=>?_;push_cast [qg];have g13:∀(x y:Int),(0<x/\x<=13)->(0<y/\y<=13)->(if great=true then x else y)<=13/\0<(if great=true then x else y):=fun x y hx hy=>by cases great <;> simp <;> omega
  obtain⟨OC,hOC⟩:∃OC:Addr->Prop,OC=fun a=>a≠p/\a≠c:=⟨_,rfl⟩;have body:∀m:Int,0<m->m<=13->gM 2 [V.ref p,V.int m] H3 (fun x H1=>∃j,x=V.int j/\-(2^62)<=j/\j<2^62/\R (Itr 0 j.toNat) H1) E0:=by
   intro m hm0 hm1;refine⟨p,m,B+12,rfl,tp3,by show B+12+2<=1000100;omega,hm0,ω,δ,fun z=>absurd z ω,fun r2 H4 r20 r21 s4 tp4=>?_⟩;refine⟨r2,rfl,ω,ω,?_⟩;obtain⟨Pv,hPv⟩:∃Pv:Nat->L2.St->Hp->Prop,Pv=fun(i:Nat) σ H'=>∃(css:List (List It1)) (vs:List V) (ot mn:Int) (o7 o8 o9 o10:Option V),dZ p H H'/\bO H' p (B+20+400*(i:Int))/\H' c=some (HO.lst vs)/\aQ OC H' vs (css.map ni) /\
    css.length=i/\(∀its∈css,its.length<=6/\∀it∈its,it.Ok w s)/\bZ w s ot /\
    σ=[some (V.ref p),some (V.int w),some (V.int s),some (V.bl great),some (V.ref c),some (V.int ot),some (V.int mn),o7,o8,o9,o10]:=⟨_,rfl⟩
   have hc4:=s4 _ _ cp hc3;refine zP hR Pv (by rw[hPv];exact⟨[],[],_,_,_,_,_,_,s3.trans s4,tp4.le (by show B+12+2<=B+20+400*((0:Nat):Int);omega),hc4,.nil,rfl,by simp,uR,rfl⟩) ?_ ?_
   ·intro i σ H5 hi pv;rw[hPv] at pv;obtain⟨css,vs,ot,mn,o7,o8,o9,o10,s5,tp5,hc5,ts5,hcl,hok,hot,rfl⟩:=pv;refine aL fun k2 hk2=>?_;push_cast;refine⟨aP δ,fun q0 hq0=>?_⟩;obtain⟨qp,Hq⟩:=zN s5 tp5 hq0;have qc:q0≠c:=(aF hc5 hq0).symm;obtain⟨OQ,hOQ⟩:∃OQ:Addr->Prop,OQ=fun a=>(a≠p/\a≠c)/\a≠q0:=⟨_,rfl⟩;have ts6:aQ OQ (upd H5 q0 (HO.lst [])) vs (css.map ni):=ts5.keep fun a o h e=>by
     rw[hOC] at h;rw[hOQ];exact⟨⟨h,aF e hq0⟩,aA hq0 _ _ e⟩
    have s6:=qO (o:=HO.lst []) s5 Hq;have tp6:=tp5.same (aA (o:=HO.lst []) hq0);have hc6:=aA (o:=HO.lst []) hq0 _ _ hc5;have hq6:upd H5 q0 (HO.lst []) q0=some (HO.lst []):=aB;generalize upd H5 q0 (HO.lst [])=H6 at s6 tp6 hc6 hq6 ts6 |-;subst hk2;refine aL fun k2 hk2=>?_;refine iW fun R2 hR2=>?_;push_cast [qg];have body2:∀m:Int,0<m->m<=7->gM 2 [V.ref p,V.int m] H6 (fun x H1=>∃j,x=V.int j/\-(2^62)<=j/\j<2^62/\R2 (Itr 0 j.toNat) H1) E0:=by
     intro m hm0 hm1;refine⟨p,m,B+20+400*(i:Int),rfl,tp6,by show B+20+400*(i:Int)+2<=1000100;omega,hm0,ω,δ,fun z=>absurd z ω,fun r3 H7 r30 r31 s7 tp7=>?_⟩;refine⟨r3,rfl,ω,ω,?_⟩;obtain⟨Pv2,hPv2⟩:∃Pv:Nat->L2.St->Hp->Prop,Pv=fun(j:Nat) σ H'=>∃(its:List It1)(us:List V)(ot mn:Int)(o9 o10:Option V),dZ p H H'/\bO H' p (B+20+400*(i:Int)+2+60*(j:Int))/\H' c=some (HO.lst vs)/\H' q0=some (HO.lst us)/\aQ OQ H' vs (css.map ni) /\
      aQ OQ H' us (its.map itD)/\its.length=j/\(∀it∈its,it.Ok w s)/\bZ w s ot /\
      σ=[some (V.ref p),some (V.int w),some (V.int s),some (V.bl great),some (V.ref c),some (V.int ot),some (V.int mn),some (V.int (0+(i:Int))),some (V.ref q0),o9,o10]:=⟨_,rfl⟩
     have kq:∀{H H':Hp},dZ p H H'->∀a o,OQ a->H a=some o->OQ a/\H' a=some o:=fun {H H'} sx a o h e=>by
      refine⟨h,sx a o ?_ e⟩;rw[hOQ] at h;exact h.1.1
     refine zP hR2 Pv2 (by rw[hPv2];exact⟨[],[],ot,mn,_,_,s6.trans s7,tp7.le (by show B+20+400*(i:Int)+2<=B+20+400*(i:Int)+2+60*((0:Nat):Int);omega),s7 _ _ cp hc6,s7 _ _ qp hq6,ts6.keep (kq s7),.nil,rfl,by simp,hot,rfl⟩) ?_ ?_
     ·intro j σ H8 hj pv;rw[hPv2] at pv;obtain⟨its,us,ot8,mn8,o9',o10',s8,tp8,hc8,hq8,tv8,tu8,hil,hio,hot8,rfl⟩:=pv;have hul:=tu8.length;rw[length_map] at hul;refine aL fun k3 hk3=>?_;push_cast;refine⟨p,w,s,ot8,B+20+400*(i:Int)+2+60*(j:Int),rfl,tp8,ω,ω,hw1,hw2,hs,fun it t9 H9 ok9 s9 tp9 at9=>?_⟩;push_cast;subst hk3;have hc9:=s9 _ _ cp hc8;have hq9:=s9 _ _ qp hq8;have tv9:=tv8.keep (kq s9);have tu9:=tu8.keep (kq s9);have s89:=s8.trans s9
      -- the item that goes in
      have put:∀(it2:It1)(t2:Addr)(H10:Hp)(mn2:Int)(k4:L2.St->Hp->Prop),k4=wW (tIf (wD (tOp Jb (tOp Jc (tOp Jc (tV 8) (tUn (rU fun i=>V.int (-i)) (tC (V.int 1)))) (tC (V.int 0))) (tC (V.str "bits"))))
        (tOp Jc (tOp Jc (tV 8) (tUn (rU fun i=>V.int (-i)) (tC (V.int 1)))) (tC (V.int 1))) (tV 5)) (lH 5) { nx:=Pv2 (j+1),ct:=Pv2 (j+1),bk:=k2,rt:=Q } ->
        it2.Ok w s->Same H9 H10->qK H10 t2 it2 ->
        apq (H10 q0) q0 (V.ref t2) H10 (fun _ H1=>k4 [some (V.ref p),some (V.int w),some (V.int s),some (V.bl great),some (V.ref c),some (V.int ot8),some (V.int mn2),some (V.int (0+(i:Int))),some (V.ref q0),some (V.int (0+(j:Int))),some (V.ref t9)] H1):=by
       intro it2 t2 H10 mn2 k4 hk4 ok2 s10 at2;rw[s10 _ _ hq9,oA];have hlt:us.length<sizeLine:=Nat.lt_of_lt_of_le ω (aP (Nat.le_refl 1000000));refine⟨hlt,?_⟩;have tq:t2≠q0:=fun z=>by have:=at2.h;rw[z,s10 _ _ hq9] at this;cases this
       have tc:t2≠c:=fun z=>by have:=at2.h;rw[z,s10 _ _ hc9] at this;cases this
       have tpn:t2≠p:=(tp9.same s10).net at2.h;have kk:∀a o,OQ a->H10 a=some o->OQ a/\upd H10 q0 (HO.lst (us++[V.ref t2])) a=some o:=fun a o h e=>by
        refine⟨h,?_⟩;rw[hOQ] at h;rw[aH h.2];exact e
       have at3:qK (upd H10 q0 (HO.lst (us++[V.ref t2]))) t2 it2:=⟨by rw[aH tq];exact at2.h⟩;have s11:=qO (o:=HO.lst (us++[V.ref t2])) (s89.trans s10.x) Hq;have tp11:=(tp9.same s10).upd (o:=HO.lst (us++[V.ref t2])) qp;have hc11:upd H10 q0 (HO.lst (us++[V.ref t2])) c=some (HO.lst vs):=by rw[aH (Ne.symm qc)];exact s10 _ _ hc9
       have hq11:upd H10 q0 (HO.lst (us++[V.ref t2])) q0=some (HO.lst (us++[V.ref t2])):=aB;have tv11:=(tv9.same s10).keep kk;have tu11:aQ OQ (upd H10 q0 (HO.lst (us++[V.ref t2]))) (us++[V.ref t2]) ((its++[it2]).map itD):=by
        rw[map_append];exact((tu9.same s10).keep kk).append (.cons (at3.tree (by rw[hOQ];exact⟨⟨tpn,tc⟩,tq⟩)) .nil)
       generalize upd H10 q0 (HO.lst (us++[V.ref t2]))=H11 at at3 s11 tp11 hc11 hq11 tv11 tu11;have fin:∀ot2,bZ w s ot2->Pv2 (j+1) [some (V.ref p),some (V.int w),some (V.int s),some (V.bl great),some (V.ref c),some (V.int ot2),some (V.int mn2),some (V.int (0+(i:Int))),some (V.ref q0),some (V.int (0+(j:Int))),some (V.ref t9)] H11:=fun ot2 ho2=>by
        rw[hPv2];refine⟨its++[it2],us++[V.ref t2],ot2,mn2,_,_,s11,tp11.le ω,hc11,hq11,tv11,tu11,by rw[length_append,length_singleton];omega,?_,ho2,rfl⟩;intro x hx;rcases mem_append.mp hx with z|z
        ·exact hio x z
        ·rw[mem_singleton.mp z];exact ok2
       subst hk4;cases it2 with
       | one x=>
        push_cast [hq11,Ad,at3.h];exact fin _ ok2
       | rng x y=>
        push_cast [hq11,Ad,at3.h];exact fin _ ok2.1
       | bits x y=>
        push_cast [hq11,Ad,at3.h];exact fin _ hot8
      refine aL fun k3 hk3=>?_;have put2:∀mn2:Int,k3 [some (V.ref p),some (V.int w),some (V.int s),some (V.bl great),some (V.ref c),some (V.int ot8),some (V.int mn2),some (V.int (0+(i:Int))),some (V.ref q0),some (V.int (0+(j:Int))),some (V.ref t9)] H9:=by
       intro mn2;subst hk3;refine aL fun k4 hk4=>?_;have direct:=put it t9 H9 mn2 k4 hk4 ok9 (Same.refl _) at9;rw[hq9,oA] at direct;cases it with
       | one x=>
        push_cast [hq9,at9.h];split
        ·exact direct
        ·split
         ·exact direct
         ·exact direct
       | rng x y=>
        push_cast [hq9,at9.h];split
        ·exact direct
        ·split
         ·exact direct
         ·exact direct
       | bits x y=>
        push_cast [hq9,at9.h];split
        ·exact direct
        ·split
         ·exact direct
         ·exact⟨aP δ,fun t2 ht2=>put (.one ot8) t2 _ mn2 k4 hk4 hot8 (aA ht2) ⟨aB⟩⟩
      cases it with
      | one x=>push_cast [at9.h];exact put2 _
      | rng x y=>push_cast [at9.h];exact put2 _
      | bits x y=>push_cast [at9.h];exact put2 _
     ·intro σ H8 pv;rw[hPv2] at pv;obtain⟨its,us,ot8,mn8,o9',o10',s8,tp8,hc8,hq8,tv8,tu8,hil,hio,hot8,rfl⟩:=pv;have hvl:=tv8.length;rw[length_map] at hvl;have hul:=tu8.length;rw[length_map] at hul;show k2 _ _;subst hk2;push_cast [hc8];refine⟨Nat.lt_of_lt_of_le ω (aP (Nat.le_refl 1000000)),?_⟩;rw[hPv];have kk:∀a o,OQ a->H8 a=some o->OC a/\upd H8 c (HO.lst (vs++[V.ref q0])) a=some o:=fun a o h e=>by
       rw[hOQ] at h;rw[hOC];exact⟨h.1,by rw[aH h.1.2];exact e⟩
      refine⟨css++[its],vs++[V.ref q0],ot8,mn8,_,_,_,_,qO s8 Hc,(tp8.upd cp).le ω,aB,?_,by rw[length_append,length_singleton];omega,?_,hot8,rfl⟩
      ·rw[map_append];refine(tv8.keep kk).append (.cons (.lst ?_ (by rw[aH qc];exact hq8) ω (tu8.keep kk)) .nil);rw[hOC];exact⟨qp,qc⟩
      ·intro x hx;rcases mem_append.mp hx with z|z
       ·exact hok x z
       ·rw[mem_singleton.mp z];exact⟨ω,hio⟩
    cases great with
    | true=>exact body2 7 δ δ
    | false=>exact body2 5 δ δ
   ·intro σ H5 pv;rw[hPv] at pv;obtain⟨css,vs,ot,mn,o7,o8,o9,o10,s5,tp5,hc5,ts5,hcl,hok,hot,rfl⟩:=pv;have hvl:=ts5.length;rw[length_map] at hvl;show k _ _;subst hk;push_cast;refine⟨aP δ,fun t ht=>?_⟩;obtain⟨tpn,Ht⟩:=zN s5 tp5 ht;have sx:=aA (o:=HO.tup [V.int w,V.int s,V.ref c]) ht;refine q w s t css _ hw1 hw2 hs (s5.trans sx.x) ((tp5.same sx).le ω) ?_ hok ω;exact .tup tpn aB (by show 3<=1000000;decide) (.cons (.int w) (.cons (.int s) (.cons (.lst cp (sx _ _ hc5) ω (ts5.keep fun a o h e=>by
     rw[hOC] at h;exact⟨h.1,sx _ _ e⟩)) .nil)))
  cases great with
  | true=>exact body 13 δ δ
  | false=>exact body 6 δ δ
abbrev Ah:List Str:=["_law_width","_law_mask_here","_law_places"]
abbrev pA:Stmt:=top 36
theorem Ky:aY Ah ["_law_width","_law_mask_here"] (aj pA):=⟨rfl,rfl,rfl,ψ,rfl,ψ,ψ⟩
theorem Gv:NM_ Ah pA 0 "_law_width" := .of ψ
theorem S9:NM_ Ah pA 2 "_law_places" := .of ψ
theorem uW:GI_ pA "range" := by decide +kernel
theorem Y7:Bn "_law_free" := ⟨ψ,ψ⟩
abbrev bV:List Str:=["_law_width","_law_sign","_law_mask_here","_law_value","_law_low","_law_free_here","_law_found","_law_number_here","_law_pattern","_law_begin"]
abbrev aV:Stmt:=top 37
theorem dF:aY bV ["_law_width","_law_sign","_law_mask_here","_law_value"] (aj aV):=⟨rfl,rfl,rfl,ψ,rfl,ψ,ψ⟩
theorem jQ:NM_ bV aV 0 "_law_width" := .of ψ
theorem wZ:NM_ bV aV 1 "_law_sign" := .of ψ
theorem gG:NM_ bV aV 2 "_law_mask_here" := .of ψ
theorem jP:NM_ bV aV 3 "_law_value" := .of ψ
theorem gF:NM_ bV aV 4 "_law_low" := .of ψ
theorem oK:NM_ bV aV 5 "_law_free_here" := .of ψ
theorem jO:NM_ bV aV 6 "_law_found" := .of ψ
theorem wY:NM_ bV aV 7 "_law_number_here" := .of ψ
theorem jN:NM_ bV aV 8 "_law_pattern" := .of ψ
theorem jM:NM_ bV aV 9 "_law_begin" := .of ψ
theorem rB:GI_ aV "_law_free" := by decide +kernel
theorem m7:GI_ aV "enumerate" := by decide +kernel
theorem u0:GI_ aV "int" := by decide +kernel
theorem uZ:GI_ aV "len" := by decide +kernel
theorem rA:GI_ aV "range" := by decide +kernel
theorem uY:GI_ aV "sum" := by decide +kernel
theorem Ab:Bn "_law_bits_borders" := ⟨ψ,ψ⟩
theorem XD (hB:∀x:Str,x∈BLs->mg x=none) (F:Fun K "_law_free" "_law_free" pA f fd):dm P w K mg base CX0 1 f fd ["_law_width","_law_mask_here"] Qu:=by
 refine F.okq Ky (fun vs H Q E h=>?_) (fun cdv A outer s H vs Q E hr h=>?_)
 ·obtain⟨w,m,rfl,_⟩:=h;rfl
 ·obtain⟨w,m,rfl,hw1,hw2,hm,q⟩:=h;refine⟨_,(aD (bQ S9 Ky.nd (eY (NX:=Ah) (kX:=(aj pA).names) ["_law_k","_law_mask_here"] [none,some 1] rfl rfl ⟨rfl,ψ,ψ,ψ,ψ⟩ rfl (gZ uW (hB "range" gw) (ak (ao Gv) au rfl) rfl) (fun _ _ _ _ _=>(cI 0 (show List.Nodup (["_law_k","_law_mask_here"]:List Str) from by decide +kernel) rfl (Or.inl rfl))) (fun _ _ _ _ _=>(vM (aU (bT hr.aZ) (aJ jH (aJ Du (bI 1) (bI 0)) aq) aq (aM _)))) (fun _ _ _ _ _=>(bI 0))) rfl (.inl rfl))
   (aG (aO (eY (NX:=Ah) (kX:=(aj pA).names) ["_law_k","_law_places"] [none,some 2] rfl rfl ⟨rfl,ψ,ψ,ψ,ψ⟩ rfl (gZ uW (hB "range" gw) (ak (ao Gv) au rfl) rfl) (fun _ _ _ _ _=>(cI 0 (show List.Nodup (["_law_k","_law_places"]:List Str) from by decide +kernel) rfl (Or.inl rfl))) (fun _ _ _ _ _=>(vM (vJ (vI (aU (kj hr.aZ) (bI 1) (dg au) (aM _)) (vI (aU KY (bI 0) (aX b7 (bI 1) aq (fun _ _=>rfl)) (aM _)) (um (aU Ng (bI 0) (bI 1) (by with_unfolding_all rfl)))))))) (fun _ _ _ _ _=>(bI 0)))))),?_⟩
  refine aL fun k hk=>?_;push_cast;refine fu fun R hR=>?_;push_cast [qg];refine⟨ω,ω,?_⟩;obtain⟨Pv,hPv⟩:∃Pv:Nat->List V->L2.St->Hp->Prop,Pv=fun(i:Nat) acc τ H'=>∃(o1:Option V),H'=H/\acc=dh (places i m)/\τ=[o1,some (V.int m)]:=⟨_,rfl⟩;refine Ve hR (aP ω) Pv (by rw[hPv];exact⟨none,rfl,rfl,rfl⟩) ?_ ?_ ?_
  ·intro i acc τ H1 pv;rw[hPv] at pv;obtain⟨o1,rfl,rfl,rfl⟩:=pv;rw[eG];exact m9 _ _
  ·intro i acc τ H1 hi pv;rw[hPv] at pv;obtain⟨o1,rfl,rfl,rfl⟩:=pv;push_cast [Int.zero_add];refine⟨ω,?_⟩;rw[Int.toNat_natCast,Dd];have e:places (i+1) m=places i m++if m.testBit i then [i] else []:=lZ _ _;cases hb:m.testBit i with
   | true=>
    rw[hb,if_pos rfl] at e;simp only[if_true];rw[hPv];exact⟨_,rfl,by rw[e,Bw],rfl⟩
   | false=>
    rw[hb,if_neg δ,append_nil] at e;simp only[Bool.false_eq_true,if_false];rw[hPv];exact⟨_,rfl,by rw[e],rfl⟩
  ·intro acc τ H1 d pv hd;rw[hPv] at pv;obtain⟨o1,rfl,rfl,rfl⟩:=pv;subst hk;push_cast;refine fu fun R2 hR2=>?_;push_cast [qg];refine⟨ω,ω,?_⟩;have h0:upd H1 d (HO.lst (dh (places w.toNat m))) d=_:=aB;have s0:Same H1 _:=aA (o:=HO.lst (dh (places w.toNat m))) hd;generalize upd H1 d (HO.lst (dh (places w.toNat m)))=H2 at h0 s0;obtain⟨Pv2,hPv2⟩:∃Pv:Nat->List V->L2.St->Hp->Prop,Pv=fun(i:Nat) acc τ H'=>∃(o1:Option V),Same H2 H'/\acc=dh (frees i m)/\τ=[o1,some (V.ref d)]:=⟨_,rfl⟩;refine Ve hR2 (aP ω) Pv2 (by rw[hPv2];exact⟨none,Same.refl _,rfl,rfl⟩) ?_ ?_ ?_
   ·intro i acc τ H3 pv;rw[hPv2] at pv;obtain⟨o1,_,rfl,rfl⟩:=pv;rw[eG];exact m9 _ _
   ·intro i acc τ H3 hi pv;rw[hPv2] at pv;obtain⟨o1,s3,rfl,rfl⟩:=pv;have h3:=s3 _ _ h0;have e:frees (i+1) m=frees i m++if isFree m i then [i] else []:=lZ _ _;push_cast [Int.zero_add];refine⟨aP δ,fun t ht=>?_⟩;have n1:d≠t:=aF h3 ht;have s4:Same H2 (upd H3 t (HO.lst [])):=s3.trans (aA ht);cases hp:places w.toNat m with
    | nil=>
     have hf:=Oh hp hi;rw[hf,if_neg δ,append_nil] at e;rw[hp] at h3;push_cast [aH n1,h3];refine⟨rfl,rfl,?_⟩;show Pv2 _ _ _ _;rw[hPv2];exact⟨_,s4,by rw[e],rfl⟩
    | cons a r=>
     have hf:=Og hp hi;have h4:H3 d=some (HO.lst (V.int a::dh r)):=by rw[h3,hp];rfl
     push_cast [aH n1,h4];refine⟨Bx (a::r),rfl,?_⟩;rw[abz];push_cast [aH n1,h4,Vx];by_cases hak:a<i
     ·rw[decide_eq_true hak,Bool.true_and] at hf;rw[if_pos (show(a:Int)<(i:Int) by omega)];refine⟨rfl,Bx (a::r),?_⟩;rw[show inV (V.int (i:Nat)) (V.int a::dh r)=(a::r).contains i from Yv i (a::r)];cases hc:(a::r).contains i with
      | true=>
       rw[hc] at hf;rw[hf] at e;simp only[Bool.not_true,Bool.false_eq_true,if_false,if_true,append_nil] at e |-;rw[hPv2];exact⟨_,s4,by rw[e],rfl⟩
      | false=>
       rw[hc] at hf;rw[hf] at e;simp only[Bool.not_false,if_true] at e |-;rw[hPv2];exact⟨_,s4,by rw[e,Bw],rfl⟩
     ·rw[decide_eq_false hak,Bool.false_and] at hf;rw[if_neg (show ¬(a:Int)<(i:Int) by omega)];rw[hf,if_neg δ,append_nil] at e;rw[hPv2];exact⟨_,s4,by rw[e],rfl⟩
   ·intro acc τ H3 d2 pv hd2;rw[hPv2] at pv;obtain⟨o1,s3,rfl,rfl⟩:=pv;exact q d2 _ aB (s0.trans (s3.trans (aA hd2)))
theorem acg (hB:∀x:Str,x∈BLs->mg x=none) (CZFree:Cal P w K mg base "_law_free" 1 ["_law_width","_law_mask_here"] Qu) (F:Fun K "_law_bits_borders" "_law_bits_borders" aV f fd):dm P w K mg base CX0 2 f fd ["_law_width","_law_sign","_law_mask_here","_law_value"] Zz:=by
 refine F.okq dF (fun vs H Q E h=>?_) (fun cdv A outer s H vs Q E hr h=>?_)
 ·obtain⟨w,s,m,v,rfl,_⟩:=h;rfl
 ·obtain⟨w,s,m,v,rfl,hw1,hw2,hs,hm,hv,hf,q⟩:=h;refine⟨_,(aD (cA (vJ (rG (aU (bT hr.aZ) (ao gG) aq (aM _)) (pD (aU (kj hr.aZ) (aJ jH (ao jP) (ao gG)) (ao jP) (aM _))))) (aG (aO (dg au))) bL)
   (aD (Kz (i:=4) (j:=5) (k:=6) rfl dF.nd rfl rfl rfl δ δ δ rfl rfl rfl (ak aq (ak (bw CZFree (hr.mono δ) rB Y7 (ak (ao jQ) (ak (ao gG) au rfl) rfl) rfl rfl) (ak (dg au) au rfl) rfl) rfl) (by rfl))
   (aD (Ru PassesOwn.never (aU (bT hr.aZ) (aJ jH (aJ Du (ao gG) (ao gF)) aq) aq (aM _)) (aG (bQ gF dF.nd (aJ bA (ao gF) aq) rfl (.inl rfl))))
   (aD (eX PassesOwn.never rfl (gZ rA (hB "range" gw) (ak (aJ dJ aq (cB jr uZ (hB "len" qb) PySem.boot_len qJ (ak (ao oK) au rfl) rfl rfl)) au rfl) rfl) (bN wY dF.nd (.inl rfl))
   (aD (bQ jN dF.nd (aJ bA (ao jP) (cB (Oo rfl) uY (hB "sum" aa8) boot_sum abG (ak (eY (NX:=bV) (kX:=(aj aV).names) ["_law_k","_law_place","_law_number_here"] [none,none,some 7] rfl rfl ⟨rfl,ψ,ψ,ψ,ψ⟩ rfl (uq m7 (hB "enumerate" iU) (ak (ao oK) au rfl) rfl) (fun _ _ _ _ _=>(dX (n:=2) rfl (aK (cI 0 (show List.Nodup (["_law_k","_law_place","_law_number_here"]:List Str) from by decide +kernel) rfl (Or.inl rfl)) (aK (cI 1 (show List.Nodup (["_law_k","_law_place","_law_number_here"]:List Str) from by decide +kernel) rfl (Or.inl rfl)) cR rfl) rfl) rfl rfl)) (fun _ _ _ _ _=>(vM (aU (bT hr.aZ) (aJ jH (aJ Du (bI 2) (bI 0)) aq) aq (aM _)))) (fun _ _ _ _ _=>(aJ dJ aq (bI 1)))) au rfl) rfl rfl)) rfl (.inl rfl))
   (aD (bQ jM dF.nd (aJ dY (ao jN) (aJ iD (aJ dJ aq (ao jQ)) (Rz tu u0 (hB "int" yX) boot_int zY (ak (rT (fM (bT hr.aZ) (ao wZ) aq (aM _)) (vL (fM (bT hr.aZ) (aJ Du (ao jN) (aJ dY (ao jQ) aq)) aq (aM _)))) au rfl) rfl rfl))) rfl (.inl rfl))
   (aG (bQ jO dF.nd (aJ bA (ao jO) (dg (ak (ao jM) (ak (aJ bA (ao jM) (aJ dJ aq (ao gF))) au rfl) rfl))) rfl (.inl rfl))))) (fun _=>rfl))
   (aG (aO (ao jO))))))),?_⟩
  have p1:=two_pow_pos w.toNat;have p2:=g8 (k:=w.toNat) ω;have ret:(m=0\/v &&& m≠v)->0<=sizeLine/\∀(p:Addr),H p=none->Q (V.ref p) (upd H p (HO.lst [])):=fun z=>⟨Nat.zero_le _,fun p hp=>q p _ [] aB (Nat.zero_le _) (fun b=>Ze z) (aA hp)⟩;refine aL fun k hk=>?_;push_cast [gW];split
  ·rename_i hm0;exact ret (.inl ω)
  rename_i hm0;by_cases hvm:v &&& m=v
  case neg=>
   push_cast [Int.ofNat_inj,decide_eq_false hvm,Bool.not_false];exact ret (.inr hvm)
  push_cast [hvm,Bool.not_true,decide_true];subst hk;refine aL fun k hk=>?_;push_cast;refine⟨w,m,rfl,ω,ω,hm,fun fr H1 hfr s1=>?_⟩;push_cast;refine⟨aP δ,fun fo hfo=>?_⟩;have s2:Same H (upd H1 fo (HO.lst [])):=s1.trans (aA hfo);have hfr2:upd H1 fo (HO.lst []) fr=some (HO.lst (dh (frees w.toNat m))):=aA hfo _ _ hfr;have hfo2:upd H1 fo (HO.lst []) fo=some (HO.lst []):=aB;generalize upd H1 fo (HO.lst [])=H2 at s2 hfr2 hfo2;subst hk
  -- the lowest place
  refine aL fun k hk=>?_;obtain⟨L,hL⟩:∃L,m.testBit L=true:=Nat.exists_testBit_of_ne_zero ω;have hLw:L<w.toNat:=by
   rcases Nat.lt_or_ge L w.toNat with z|z
   ·exact z
   ·rw[Nat.testBit_lt_two_pow (Nat.lt_of_lt_of_le hm (Nat.pow_le_pow_right δ z))] at hL;cases hL
  obtain⟨Wv,hWv⟩:∃Wv:Nat->L2.St->Hp->Prop,Wv=fun(i:Nat) σ H'=>∃(lo:Nat),H'=H2/\lo+i=L/\(∀i',i'<lo->m.testBit i'=false)/\σ=[some (V.int w),some (V.int s),some (V.int m),some (V.int v),some (V.int (lo:Nat)),some (V.ref fr),some (V.ref fo),none,none,none]:=⟨_,rfl⟩;refine V2 Wv L (by rw[hWv];exact⟨0,rfl,ω,fun i hi=>absurd hi ω,rfl⟩) ?_;intro i σ H3 wv;rw[hWv] at wv;obtain⟨lo,rfl,hlo,hlow,rfl⟩:=wv;push_cast;refine⟨ω,?_⟩;rw[Int.toNat_natCast,Dd];by_cases hb:m.testBit lo=true
  ·rw[if_pos hb,if_neg δ];subst hk;clear hWv
   -- the numbers of free places
   refine aL fun k hk=>?_;refine iW fun R hR=>?_;push_cast [qg,hfr2,Int.one_mul];have hl4:(dh (frees w.toNat m)).length<=4:=by rw[eG];exact hf
   refine⟨⟨ω,ω,δ⟩,?_⟩;have l16:(2:Int)^(((dh (frees w.toNat m)).length:Nat):Int).toNat<=16:=by
    rw[Int.toNat_natCast,lM];have:2^(dh (frees w.toNat m)).length<=2^4:=Nat.pow_le_pow_right δ hl4;omega
   have l0:=two_pow_pos (((dh (frees w.toNat m)).length:Nat):Int).toNat;have lN:((2:Int)^(((dh (frees w.toNat m)).length:Nat):Int).toNat)=((2^(frees w.toNat m).length:Nat):Int):=by rw[Int.toNat_natCast,eG,lM]
   generalize (2:Int)^(((dh (frees w.toNat m)).length:Nat):Int).toNat=N at l16 l0 lN |-;refine⟨ω,ω,?_⟩;obtain⟨Pv,hPv⟩:∃Pv:Nat->L2.St->Hp->Prop,Pv=fun(i:Nat) σ H'=>∃(ns:List Int)(fo:Addr)(o7 o8 o9:Option V),Same H3 H'/\H' fo=some (HO.lst (ns.map V.int))/\ns.length=2*i/\(∀b,b∈ns ↔ ∃j,j<i/\(b=nOf w.toNat s (v+j7 (frees w.toNat m) j)\/b=nOf w.toNat s (v+j7 (frees w.toNat m) j)+2^lo)) /\
    σ=[some (V.int w),some (V.int s),some (V.int m),some (V.int v),some (V.int (lo:Nat)),some (V.ref fr),some (V.ref fo),o7,o8,o9]:=⟨_,rfl⟩
   refine zP hR Pv (by rw[hPv];exact⟨[],fo,none,none,none,Same.refl _,hfo2,rfl,fun b=>⟨fun z=>(by cases z),fun⟨j,hj,_⟩=>absurd hj ω⟩,rfl⟩) ?_ ?_
   ·intro j σ H4 hj pv;rw[hPv] at pv;obtain⟨ns,fo4,o7,o8,o9,s4,hfo4,hns,hmm,rfl⟩:=pv;have hfr4:=s4 _ _ hfr2;push_cast;refine fu fun R2 hR2=>?_;push_cast [zu,hfr4];refine⟨⟨_,SqL.of hfr4⟩,?_⟩;obtain⟨Pc,hPc⟩:∃Pv:Nat->List V->L2.St->Hp->Prop,Pv=fun(i:Nat) acc τ H'=>∃(ns:List Int)(o1 o2:Option V),Same H4 H'/\acc=ns.map V.int/\(ns.length<=i/\ns.sum=((j7 ((frees w.toNat m).take i) j:Nat):Int))/\τ=[o1,o2,some (V.int (0+(j:Int)))]:=⟨_,rfl⟩;refine Vf hR2 (xs:=dh (frees w.toNat m)) (aP ω) Pc (by rw[hPc];exact⟨[],none,none,Same.refl _,rfl,⟨Nat.le_refl _,rfl⟩,rfl⟩) ?_ ?_ ?_ ?_
    ·intro i acc τ H5 pc;rw[hPc] at pc;obtain⟨ns5,o1,o2,s5,rfl,⟨h5,h6⟩,rfl⟩:=pc;rw[length_map];exact h5
    ·intro i acc τ H5 pc;rw[hPc] at pc;obtain⟨ns5,o1,o2,s5,rfl,⟨h5,h6⟩,rfl⟩:=pc;exact SqL.of (s5 _ _ hfr4)
    ·intro i x acc τ H5 t hx pc ht;rw[hPc] at pc;obtain⟨ns5,o1,o2,s5,rfl,⟨h5,h6⟩,rfl⟩:=pc;obtain⟨pl,hpl,hpi,rfl⟩:∃pl:Nat,pl<w.toNat/\(frees w.toNat m)[i]?=some pl/\x=V.int (pl:Nat):=by
      unfold dh at hx;rw[getElem?_map] at hx;obtain⟨pl,hp,rfl⟩:=map_eq_some_iff.mp hx;exact⟨pl,Uw (mem_of_getElem? hp),hp,rfl⟩
     have hst:=Ms (j:=j) hpi;push_cast [Int.zero_add];refine⟨ω,?_⟩;have s6:=s5.trans (aA (o:=HO.tup [V.int (i:Nat),V.int (pl:Nat)]) ht);rw[Int.toNat_natCast,Dd];cases hbi:j.testBit i with
     | true=>
      rw[hbi,if_pos rfl] at hst;rw[if_pos rfl,if_pos rfl];refine⟨⟨ω,ω,δ⟩,?_⟩;rw[hPc];exact⟨ns5++[1*2^(pl:Int).toNat],_,_,s6,by simp,⟨by simp;omega,by
       rw[sum_append,List.sum_singleton,h6,hst,Int.toNat_natCast,Int.one_mul,Int.natCast_add,Int.natCast_pow];rfl⟩,by rw[Int.zero_add]⟩
     | false=>
      rw[hbi,if_neg δ] at hst;rw[if_neg δ];rw[hPc];exact⟨ns5,_,_,s6,rfl,⟨ω,by rw[h6,hst];rfl⟩,by rw[Int.zero_add]⟩
    ·intro acc τ H5 d pc hd;rw[hPc] at pc;obtain⟨ns5,o1,o2,s5,rfl,⟨h5,h6⟩,rfl⟩:=pc;push_cast;refine⟨ns5,rfl,?_⟩;push_cast [Int.one_mul];have s6:=s5.trans (aA (o:=HO.lst (ns5.map V.int)) hd);generalize upd H5 d (HO.lst (ns5.map V.int))=H6 at s6;have hfo6:=s6 _ _ hfo4;rw[eG,take_length] at h6;have hj':j<2^(frees w.toNat m).length:=ω;have hin:=Hy hm hvm hb hlow hj';have hlt:=(nA hvm hm hb hlow hin).1;have epat:(v:Int)+ns5.sum=((v+j7 (frees w.toNat m) j:Nat):Int):=by rw[h6,Int.natCast_add]
     rw[epat];generalize hpat:v+j7 (frees w.toNat m) j=pat at hlt |-;have fin:∀a b:Int,a=nOf w.toNat s pat->b=nOf w.toNat s pat+2^lo->2<=sizeLine/\∀(p:Addr),H6 p=none->adq (upd H6 p (HO.lst [V.int a,V.int b]) fo4) (some (HO.lst [V.int a,V.int b])) (upd H6 p (HO.lst [V.int a,V.int b])) fun x H1=>
       Pv (j+1) [some (V.int w),some (V.int s),some (V.int m),some (V.int v),some (V.int (lo:Nat)),some (V.ref fr),some x,some (V.int (0+(j:Int))),some (V.int pat),some (V.int a)] H1:=by
      intro a b ha hb2;refine⟨aP δ,fun p hp=>?_⟩;rw[aH (aF hfo6 hp),hfo6,Eu];refine⟨aP (by simp only[length_map,length_cons,length_nil];omega),fun p2 hp2=>?_⟩;rw[hPv];exact⟨ns++[a,b],p2,_,_,_,s4.trans (s6.trans ((aA hp).trans (aA hp2))),by rw[aB];simp,by simp only[length_append,length_cons,length_nil];omega,Zd (A:=fun j=>nOf w.toNat s (v+j7 (frees w.toNat m) j)) (B:=fun j=>nOf w.toNat s (v+j7 (frees w.toNat m) j)+2^lo) hmm (by rw[ha,<- hpat]) (by rw[hb2,<- hpat]),rfl⟩
     refine⟨⟨ω,ω,δ⟩,?_⟩;split
     ·rename_i hs1;have l1:=XS (w:=w) ω hs1 hlt;exact⟨ω,.inl ⟨ω,ω⟩,⟨ω,ω,δ⟩,fin _ _ l1 (by rw[l1,Int.toNat_natCast])⟩
     ·rename_i hs1;have l1:=Td (w:=w) (p:=pat) (show s=0 by omega);exact⟨.inl ⟨ω,ω⟩,⟨ω,ω,δ⟩,fin _ _ l1 (by rw[l1,Int.toNat_natCast])⟩
   ·intro σ H4 pv;rw[hPv] at pv;obtain⟨ns,fo4,o7,o8,o9,s4,hfo4,hns,hmm,rfl⟩:=pv;show k _ _;subst hk;push_cast;exact q _ _ ns hfo4 ω (abL hm hvm hb hlow (by rw[show N.toNat=2^(frees w.toNat m).length by omega] at hmm;exact hmm)) (s2.trans s4)
  ·rw[if_neg hb,if_pos rfl];have hne:lo≠L:=fun z=>hb (by rw[z];exact hL);refine⟨Wv (i-1),fun σ' H' z=>⟨i-1,ω,z⟩,?_⟩;rw[hWv];exact⟨lo+1,rfl,ω,fun i hi=>by
    rcases Nat.lt_or_ge i lo with c|c
    ·exact hlow i c
    ·rw[show i=lo by omega];exact Bool.eq_false_iff.mpr hb,by rw[Int.natCast_add];rfl⟩
end
abbrev eU:List Str:=["_law_choice_here","_law_width","_law_sign","_law_cases","_law_least_here","_law_many","_law_found","_law_items","_law_item_here"]
abbrev bW:Stmt:=top 38
theorem dB:aY eU ["_law_choice_here"] (aj bW):=⟨rfl,rfl,rfl,ψ,rfl,ψ,ψ⟩
theorem Gw:NM_ eU bW 0 "_law_choice_here" := .of ψ
theorem jA:NM_ eU bW 1 "_law_width" := .of ψ
theorem pQ:NM_ eU bW 2 "_law_sign" := .of ψ
theorem wJ:NM_ eU bW 3 "_law_cases" := .of ψ
theorem lW:NM_ eU bW 4 "_law_least_here" := .of ψ
theorem wI:NM_ eU bW 5 "_law_many" := .of ψ
theorem iu:NM_ eU bW 6 "_law_found" := .of ψ
theorem wH:NM_ eU bW 7 "_law_items" := .of ψ
theorem ig:NM_ eU bW 8 "_law_item_here" := .of ψ
theorem nY:GI_ bW "_law_bits_borders" := by decide +kernel
theorem vY:GI_ bW "_law_least" := by decide +kernel
theorem zF:GI_ bW "list" := by decide +kernel
theorem xj:GI_ bW "range" := by decide +kernel
theorem Ba:GI_ bW "set" := by decide +kernel
theorem vX:GI_ bW "sorted" := by decide +kernel
theorem Aa:Bn "_law_borders" := ⟨ψ,ψ⟩
theorem Qh {css:List (List It1)}{i:Nat}{its:List It1}(h:css[i]?=some its):((css.take (i+1)).map List.length).sum=((css.take i).map List.length).sum+its.length:=by
 rw[take_add_one,h];simp
theorem tO:∀(css:List (List It1)) (i:Nat),((css.take i).map List.length).sum<=(css.map List.length).sum
 | [],i=>by simp
 | c::css,0=>by simp
 | c::css,i+1=>by
  have:=tO css i;simp only[List.take_succ_cons,map_cons,sum_cons];omega
theorem Gi {w:Nat}(h:w<=8):(2:Int)^w<=256:=by
 have:2^w<=2^8:=Nat.pow_le_pow_right δ h;have e:(2:Int)^w=((2^w:Nat):Int):=by rw[Int.natCast_pow];rfl
 omega
section
variable {P:Program}{w:World}{K:PySem.W.Frag}{mg:Str->Option Value}{base:Heap}{f:Addr}{fd:FuncData}{bs:List Str}
theorem Ji (hB:∀x:Str,x∈BLs->mg x=none) (CZLeast:Cal P w K mg base "_law_least" 1 ["_law_width","_law_sign"] oX) (CZBitsBorders:Cal P w K mg base "_law_bits_borders" 2 ["_law_width","_law_sign","_law_mask_here","_law_value"] Zz) (F:Fun K "_law_borders" "_law_borders" bW f fd):dm P w K mg base CX0 3 f fd ["_law_choice_here"] CW:=by
 refine F.okq dB (fun vs H Q E h=>?_) (fun cdv A outer s H vs Q E hr h=>?_)
 ·obtain⟨x,w,s,ok,css,rfl,_⟩:=h;rfl
 ·obtain⟨x,w,s,ok,css,rfl,h1,h2,hs,t,hok,hsum,q⟩:=h;refine⟨_,(aD (iz (ao Gw) (dX (n:=3) rfl (aK (bN jA dB.nd (.inl rfl)) (aK (bN pQ dB.nd (.inl rfl)) (aK (bN wJ dB.nd (.inl rfl)) cR rfl) rfl) rfl) rfl rfl) rfl rfl rfl)
   (aD (iz (cX (ak (bw CZLeast (hr.mono δ) vY vm (ak (ao jA) (ak (ao pQ) au rfl) rfl) rfl rfl) (ak (aJ dJ aq (ao jA)) au rfl) rfl)) (dX (n:=2) rfl (aK (bN lW dB.nd (.inl rfl)) (aK (bN wI dB.nd (.inl rfl)) cR rfl) rfl) rfl rfl) rfl rfl rfl)
   (aD (cA (aU pH (ao jA) aq (aM _)) (aG (aO (WT rfl zF (hB "list" uN) xj (hB "range" gw) (ak (ao lW) (ak (aJ bA (ao lW) (ao wI)) au rfl) rfl)))) bL)
   (aD (bQ iu dB.nd (dg (ak (ao lW) au rfl)) rfl (.inl rfl))
   (aD (eX PassesOwn.never rfl (cN (ao wJ)) (bN wH dB.nd (.inl rfl))
   (aG (eX PassesOwn.never rfl (cN (ao wH)) (bN ig dB.nd (.inl rfl))
   (aG (cA (aU (bT hr.aZ) (aX b7 (ao ig) aq (fun _ _=>rfl)) iB (aM _)) (aG (bQ iu dB.nd (aJ bA (ao iu) (bw CZBitsBorders (hr.mono δ) nY Ab (ak (ao jA) (ak (ao pQ) (ak (aX b7 (ao ig) aq (fun _ _=>rfl)) (ak (aX b7 (ao ig) aq (fun _ _=>rfl)) au rfl) rfl) rfl) rfl) rfl rfl)) rfl (.inl rfl))) (aG (bQ iu dB.nd (aJ bA (ao iu) (dg (ak (aX b7 (ao ig) aq (fun _ _=>rfl)) (ak (aJ bA (aX b7 (ao ig) (oG jE aq) (fun _ _=>rfl)) aq) au rfl) rfl))) rfl (.inl rfl))))) (fun _=>rfl))) (fun _=>rfl))
   (aG (aO (Rw rfl vX (hB "sorted" qT) Ba (hB "set" aa9) (ak (eY (NX:=eU) (kX:=(aj bW).names) ["_law_border","_law_least_here","_law_many"] [none,some 4,some 5] rfl rfl ⟨rfl,ψ,ψ,ψ,ψ⟩ rfl (cN (ao iu)) (fun _ _ _ _ _=>(cI 0 (show List.Nodup (["_law_border","_law_least_here","_law_many"]:List Str) from by decide +kernel) rfl (Or.inl rfl))) (fun _ _ _ _ _=>(vM (aU pH (bI 0) (aJ bA (bI 1) (bI 2)) (aM _)))) (fun _ _ _ _ _=>(bI 0))) au rfl))))))))),?_⟩
  obtain⟨p,c,xs,rfl,op,ep,oc,ec,z,ts⟩:=gY t;have hlen:=ts.length;rw[length_map] at hlen;have b1:=jj h1 h2 hs;have p1:=two_pow_pos w.toNat;have p2:=g8 (k:=w.toNat) ω;refine aL fun k hk=>?_;push_cast [ep];subst hk;refine aL fun k hk=>?_;push_cast;refine⟨w,s,rfl,h1,h2,hs,?_⟩;push_cast;refine⟨⟨ω,ω,δ⟩,?_⟩;rw[Int.one_mul];refine⟨aP δ,fun t2 ht2=>?_⟩;have s2:=aA (o:=HO.tup [V.int (wl w s),V.int (2^w.toNat)]) ht2;have e2:upd H t2 (HO.tup [V.int (wl w s),V.int (2^w.toNat)]) t2=_:=aB;generalize upd H t2 (HO.tup [V.int (wl w s),V.int (2^w.toNat)])=H2 at s2 e2 |-;subst hk;refine aL fun k hk=>?_;push_cast;split
  ·rename_i h9;refine⟨⟨ω,ω,ω,ω⟩,?_,fun p3 hp3=>?_⟩
   ·exact aP (by have:=Gi (w:=w.toNat) ω;omega)
   ·refine q p3 _ ((List.range (wl w s+2^w.toNat-wl w s).toNat).map fun k=>wl w s+((k:Nat):Int)) (s2.trans (aA hp3)) (by rw[aB,map_map];rfl) ?_ aaf (Wr h9);rw[length_map,length_range];have:=Gi (w:=w.toNat) ω;omega
  rename_i h9;subst hk;refine aL fun k hk=>?_;push_cast;refine⟨aP δ,fun fo hfo=>?_⟩;have s3:=s2.trans (aA (o:=HO.lst [V.int (wl w s)]) hfo);have e3:upd H2 fo (HO.lst [V.int (wl w s)]) fo=some (.lst ([wl w s].map V.int)):=aB;generalize upd H2 fo (HO.lst [V.int (wl w s)])=H3 at s3 e3 |-;subst hk;refine aL fun k hk=>?_;refine iW fun R hR=>?_;have ec3:=s3 _ _ ec;push_cast [ec3];obtain⟨Pv,hPv⟩:∃Pv:Nat->L2.St->Hp->Prop,Pv=fun(i:Nat) σ H'=>∃(ns:List Int)(fo:Addr)(o7 o8:Option V),Same H H'/\H' fo=some (.lst (ns.map V.int))/\ns.length<=1+32*((css.take i).map List.length).sum/\(∀b,b∈ns↔BIn w s (css.take i) b)/\σ=[some (.ref p),some (.int w),some (.int s),some (.ref c),some (.int (wl w s)),some (.int (2^w.toNat)),some (.ref fo),o7,o8]:=⟨_,rfl⟩;refine zQ hR (xs:=xs) Pv (by rw[hPv];exact⟨_,_,_,_,s3,e3,by simp,O4,rfl⟩) (fun i σ H' _ pv=>?_) ?_ ?_
  ·rw[hPv] at pv;obtain⟨_,_,_,_,s',_⟩:=pv;exact SqL.of (s' _ _ ec)
  ·intro i x σ H4 hx pv;rw[hPv] at pv;obtain⟨ns,fo4,o7,o8,s4,e4,hn4,hb4,rfl⟩:=pv;obtain⟨d,hd,td⟩:=(ts.same s4).get hx;rw[getElem?_map] at hd;obtain⟨its,hits,rfl⟩:=map_eq_some_iff.mp hd;obtain⟨q0,us,rfl,o5,eq4,z4,ts4⟩:=mQ td;have hul:=ts4.length;rw[length_map] at hul;have hstep:=Qh hits;have hmem:=mem_of_getElem? hits;have hall:((css.take (i+1)).map List.length).sum<=110:=Nat.le_trans (tO css (i+1)) hsum;push_cast;refine iW fun R2 hR2=>?_;push_cast [eq4];obtain⟨Pw,hPw⟩:∃Pv:Nat->L2.St->Hp->Prop,Pv=fun(j:Nat) σ H'=>∃(ns:List Int)(fo:Addr)(o8:Option V),Same H4 H'/\H' fo=some (.lst (ns.map V.int))/\ns.length<=1+32*((css.take i).map List.length).sum+32*j/\(∀b,b∈ns↔BIn w s (css.take i) b\/∃it,it∈its.take j/\bdr w s b it)/\σ=[some (.ref p),some (.int w),some (.int s),some (.ref c),some (.int (wl w s)),some (.int (2^w.toNat)),some (.ref fo),some (.ref q0),o8]:=⟨_,rfl⟩;refine zQ hR2 (xs:=us) Pw (by rw[hPw];exact⟨_,_,_,Same.refl _,e4,ω,Vq hb4,rfl⟩) (fun i σ H' _ pv=>?_) ?_ ?_
   ·rw[hPw] at pv;obtain⟨_,_,_,s',_⟩:=pv;exact SqL.of (s' _ _ eq4)
   ·intro j x σ H5 hx5 pv;rw[hPw] at pv;obtain⟨ns5,fo5,o8,s5,e5,hn5,hb5,rfl⟩:=pv;obtain⟨d5,hd5,td5⟩:=(ts4.same s5).get hx5;rw[getElem?_map] at hd5;obtain⟨it,hit,rfl⟩:=map_eq_some_iff.mp hd5;obtain⟨q5,rfl,o6,⟨hi⟩⟩:=mO td5;have hj:j<us.length:=(List.getElem?_eq_some_iff.mp hx5).1;have hoki:=hok its hmem it (mem_of_getElem? hit);have fin:∀(a b:Int),(∀n,n∈[a,b]↔bdr w s n it)->2<=sizeLine/\∀(pp:Addr),H5 pp=none->adq (upd H5 pp (HO.lst [V.int a,V.int b]) fo5) (some (HO.lst [V.int a,V.int b])) (upd H5 pp (HO.lst [V.int a,V.int b])) fun x H1=>
      Pw (j+1) [some (.ref p),some (.int w),some (.int s),some (.ref c),some (.int (wl w s)),some (.int (2^w.toNat)),some x,some (.ref q0),some (.ref q5)] H1:=by
     intro a b hab;refine⟨aP δ,fun p6 hp6=>?_⟩;rw[aH (aF e5 hp6),e5,Eu];refine⟨aP (by simp only[length_map,length_cons,length_nil];omega),fun p7 hp7=>?_⟩;rw[hPw];exact⟨ns5++[a,b],p7,_,s5.trans ((aA hp6).trans (aA hp7)),by rw[aB];simp,by simp only[length_append,length_cons,length_nil];omega,Hu hb5 hit hab,rfl⟩
    cases it with
    | one a=>
     push_cast [hi];exact fin _ _ fun n=>Kc
    | rng a b=>
     push_cast [hi];exact fin _ _ fun n=>Kc
    | bits m v=>
     obtain⟨k1,k2,k3⟩:=hoki;push_cast [hi];refine⟨w,s,m,v,rfl,ω,h2,hs,k1,k2,k3 ω,fun pB H6 nB eB lB bB sB=>?_⟩;have e6:=sB _ _ e5;push_cast [e6,eB];refine⟨aP (by simp only[length_map];omega),fun p7 hp7=>?_⟩;rw[hPw];exact⟨ns5++nB,p7,_,s5.trans (sB.trans (aA hp7)),by rw[aB,map_append],by rw[length_append];omega,Hu hb5 hit bB,rfl⟩
   ·intro σ H5 pv;rw[hPw] at pv;obtain⟨ns5,fo5,o8,s5,e5,hn5,hb5,rfl⟩:=pv;show Pv _ _ _;rw[hPv];exact⟨_,_,_,_,s4.trans s5,e5,ω,Vr hb5 hits hul,rfl⟩
  ·intro σ H4 pv;rw[hPv] at pv;obtain⟨ns,fo4,o7,o8,s4,e4,hn4,hb4,rfl⟩:=pv;show k _ _;subst hk;have hss:((css.take xs.length).map List.length).sum<=110:=Nat.le_trans (tO css _) hsum;push_cast [Z6];refine fu fun R2 hR2=>?_;push_cast [e4];obtain⟨Pc,hPc⟩:∃Pv:Nat->List V->L2.St->Hp->Prop,Pv=fun(i:Nat) acc τ H'=>∃(us:List Int)(o1:Option V),Same H4 H'/\acc=us.map V.int/\us=(ns.take i).filter (fun b=>decide (b<wl w s+2^w.toNat))/\τ=[o1,some (.int (wl w s)),some (.int (2^w.toNat))]:=⟨_,rfl⟩;refine lK hR2 (xs:=ns.map V.int) (aP (by rw[length_map];omega)) Pc (by rw[hPc];exact⟨[],none,Same.refl _,rfl,rfl,rfl⟩) ?_ ?_ ?_ ?_
   ·intro i9 acc τ H10 pc;rw[hPc] at pc;obtain⟨us,o1,_,rfl,hus,rfl⟩:=pc;rw[length_map,hus];exact Nat.le_trans (length_filter_le _ _) (length_take_le _ _)
   ·intro i9 acc τ H10 pc;rw[hPc] at pc;obtain⟨us,o1,s10,rfl,hus,rfl⟩:=pc;exact SqL.of (s10 _ _ e4)
   ·intro i9 x acc τ H10 hx pc;rw[hPc] at pc;obtain⟨us,o1,s10,rfl,hus,rfl⟩:=pc;rw[getElem?_map] at hx;obtain⟨n,hn,rfl⟩:=map_eq_some_iff.mp hx;have hst:(ns.take (i9+1)).filter (fun b=>decide (b<wl w s+2^w.toNat))=us++if n<wl w s+2^w.toNat then [n] else []:=by
     rw[take_add_one,hn,filter_append,<- hus];congr 1;by_cases c:n<wl w s+2^w.toNat <;> simp [c]
    push_cast;split
    ·rename_i c;rw[if_pos c] at hst;rw[hPc];exact⟨us++[n],_,s10,by simp,hst.symm,rfl⟩
    ·rename_i c;rw[if_neg c,append_nil] at hst;rw[hPc];exact⟨us,_,s10,rfl,hst.symm,rfl⟩
   ·intro acc τ H10 d pc hd;rw[hPc] at pc;obtain⟨us,o1,s10,rfl,hus,rfl⟩:=pc;rw[length_map,take_length] at hus;have hul:us.length<=ns.length:=by rw[hus];exact length_filter_le _ _
    rw[hlen,take_length] at hb4;push_cast;refine⟨us,SqL.of aB,ω,fun pR ys hpR hperm hup=>?_⟩;refine q pR _ ys (s4.trans (s10.trans ((aA hd).trans (aA hpR)))) aB ?_ hup (Vj h1 h9 hs hok hb4 (by rw[<- hus];exact hperm));have:=hperm.length_eq;have:=SRT.Lk us;omega
abbrev mD:List Str:=["_law_choice_here","_law_number_here","_law_width","_law_sign","_law_cases","_law_k","_law_items"]
abbrev fX:Stmt:=top 31
theorem mR:aY mD ["_law_choice_here","_law_number_here"] (aj fX):=⟨rfl,rfl,rfl,ψ,rfl,ψ,ψ⟩
theorem Nx:NM_ mD fX 0 "_law_choice_here" := .of ψ
theorem Nv:NM_ mD fX 2 "_law_width" := .of ψ
theorem Nu:NM_ mD fX 3 "_law_sign" := .of ψ
theorem vO:NM_ mD fX 4 "_law_cases" := .of ψ
theorem BK:NM_ mD fX 5 "_law_k" := .of ψ
theorem BJ:NM_ mD fX 6 "_law_items" := .of ψ
theorem GP:GI_ fX "any" := by decide +kernel
theorem uV:GI_ fX "enumerate" := by decide +kernel
theorem GK:GI_ fX "len" := by decide +kernel
theorem Vn:Bn "_law_label" := ⟨ψ,ψ⟩
abbrev cT:List Str:=["taken","least","most","rest","told","free","low","high","label"]
abbrev cF:Stmt:=top 20
theorem dU:aY cT ["taken","least","most","rest"] (aj cF):=⟨rfl,rfl,rfl,ψ,rfl,ψ,ψ⟩
theorem yM:NM_ cT cF 0 "taken" := .of ψ
theorem yL:NM_ cT cF 1 "least" := .of ψ
theorem pX:NM_ cT cF 2 "most" := .of ψ
theorem pW:NM_ cT cF 3 "rest" := .of ψ
theorem fV:NM_ cT cF 4 "told" := .of ψ
theorem eH:NM_ cT cF 5 "free" := .of ψ
theorem iJ:NM_ cT cF 6 "low" := .of ψ
theorem kO:NM_ cT cF 7 "high" := .of ψ
theorem pU:NM_ cT cF 8 "label" := .of ψ
theorem Bf:Bn "with_the_rest" := ⟨ψ,ψ⟩
abbrev bY:List Str:=["choice","clash","one","other","number","width","sign","cases","taken","label","items"]
abbrev aR:Stmt:=top 21
theorem cg:aY bY ["choice"] (aj aR):=⟨rfl,rfl,rfl,ψ,rfl,ψ,ψ⟩
theorem pY:NM_ bY aR 0 "choice" := .of ψ
theorem kZ:NM_ bY aR 1 "clash" := .of ψ
theorem yQ:NM_ bY aR 2 "one" := .of ψ
theorem yP:NM_ bY aR 3 "other" := .of ψ
theorem yO:NM_ bY aR 4 "number" := .of ψ
theorem iM:NM_ bY aR 5 "width" := .of ψ
theorem iK:NM_ bY aR 6 "sign" := .of ψ
theorem kY:NM_ bY aR 7 "cases" := .of ψ
theorem kW:NM_ bY aR 8 "taken" := .of ψ
theorem yN:NM_ bY aR 9 "label" := .of ψ
theorem oM:NM_ bY aR 10 "items" := .of ψ
theorem n6:GI_ aR "case_spans" := by decide +kernel
theorem qx:GI_ aR "clash_of" := by decide +kernel
theorem nZ:GI_ aR "enumerate" := by decide +kernel
theorem qw:GI_ aR "least_of" := by decide +kernel
theorem vZ:GI_ aR "len" := by decide +kernel
theorem rD:GI_ aR "most_of" := by decide +kernel
theorem rC:GI_ aR "sorted" := by decide +kernel
theorem mJ:GI_ aR "with_the_rest" := by decide +kernel
theorem Bg:Bn "stretches_of" := ⟨ψ,ψ⟩
theorem SJ (hB:∀x:Str,x∈BLs->mg x=none) (CZPicks:Cal P w K mg base "_law_picks" 1 ["_law_width","_law_item_here","_law_number_here"] tU) (F:Fun K "_law_label" "_law_label" fX f fd):dm P w K mg base CX0 3 f fd ["_law_choice_here","_law_number_here"] Fx:=by
 refine F.okq mR (fun vs H Q E h=>?_) (fun cdv A outer s H vs Q E hr h=>?_)
 ·obtain⟨x,n,w,s,ok,css,rfl,_⟩:=h;rfl
 ·obtain⟨x,n,w,s,ok,css,rfl,h1,h2,t,q⟩:=h;refine⟨_,(aD (iz (ao Nx) (dX (n:=3) rfl (aK (bN Nv mR.nd (.inl rfl)) (aK (bN Nu mR.nd (.inl rfl)) (aK (bN vO mR.nd (.inl rfl)) cR rfl) rfl) rfl) rfl rfl) rfl rfl rfl)
   (aD (eX PassesOwn.never rfl (uq uV (hB "enumerate" iU) (ak (ao vO) au rfl) rfl) (dX (n:=2) rfl (aK (bN BK mR.nd (.inl rfl)) (aK (bN BJ mR.nd (.inl rfl)) cR rfl) rfl) rfl rfl)
   (aG (cA (gQ (cB (Cq rfl) GP (hB "any" TF) PyProof.Rows.Boot.«any» Vl (ak (eY (NX:=mD) (kX:=(aj fX).names) ["_law_item_here","_law_width","_law_number_here"] [none,some 2,some 1] rfl rfl ⟨rfl,ψ,ψ,ψ,ψ⟩ rfl (cN (ao BJ)) (fun _ _ _ _ _=>(cI 0 (show List.Nodup (["_law_item_here","_law_width","_law_number_here"]:List Str) from by decide +kernel) rfl (Or.inl rfl))) (fun _ _ _ _ _=>jF) (fun _ _ _ _ _=>(bw CZPicks (hr.mono δ) rfl Hf (ak (bI 1) (ak (bI 0) (ak (bI 2) au rfl) rfl) rfl) rfl rfl))) au rfl) rfl rfl) (fun _=>rfl)) (aG (aO (ao BK))) bL)) (fun _=>rfl))
   (aG (aO (cB jr GK (hB "len" qb) PySem.boot_len qJ (ak (ao vO) au rfl) rfl rfl))))),?_⟩
  obtain⟨p,c,xs,rfl,op,ep,oc,ec,z,ts⟩:=gY t;have hlen:=ts.length;rw[length_map] at hlen;refine aL fun k hk=>?_;push_cast [ep];subst hk;refine aL fun k hk=>?_;refine iW fun R hR=>?_;push_cast [zu,ec];refine⟨⟨_,SqL.of ec⟩,?_⟩;obtain⟨Pv,hPv⟩:∃Pv:Nat->L2.St->Hp->Prop,Pv=fun(i:Nat) σ H'=>∃(o5 o6:Option V),Same H H'/\(∀(j:Nat)(cs:List It1),j<i->css[j]?=some cs->cs.any (aN w n)=false)/\σ=[some (.ref p),some (.int n),some (.int w),some (.int s),some (.ref c),o5,o6]:=⟨_,rfl⟩;refine UG hR (xs:=xs) Pv (by rw[hPv];exact⟨_,_,Same.refl _,fun j cs hj=>absurd hj ω,rfl⟩) (fun i σ H' pv=>?_) ?_ ?_
  ·rw[hPv] at pv;obtain⟨_,_,s',_⟩:=pv;exact s' _ _ ec
  ·intro i x σ H2 p2 hx pv hp;rw[hPv] at pv;obtain⟨o5,o6,s2,hb,rfl⟩:=pv;obtain⟨d,hd,td⟩:=(ts.same s2).get hx;rw[getElem?_map] at hd;obtain⟨its,hits,rfl⟩:=map_eq_some_iff.mp hd;have s3:=aA (o:=HO.tup [V.int (i:Int),x]) hp;have e3:upd H2 p2 (HO.tup [V.int (i:Int),x]) p2=_:=aB;have s23:=s2.trans s3;have td3:=td.same s3;generalize upd H2 p2 (HO.tup [V.int (i:Int),x])=H3 at s3 e3 s23 td3 |-;obtain⟨q0,us,rfl,o3,eq,z3,ts3⟩:=mQ td3;push_cast [e3];refine fu fun R2 hR2=>?_;push_cast [eq];refine vg (pickD w n) (fun τ=>∃o1,τ=[o1,some (.int w),some (.int n)]) hR2 ts3 eq z3 ⟨none,rfl⟩ ?_ ?_
   ·rintro x1 d1 τ H4 Qn hd s4 t4 ⟨o1,rfl⟩ qn;push_cast;obtain⟨it,_,rfl⟩:=mem_map.mp hd;obtain⟨p,rfl,_,hp⟩:=mO t4;exact⟨w,n,p,it,rfl,h1,h2,hp,by rw[<- yj];exact qn _ _ ⟨_,rfl⟩ (Same.refl _)⟩
   ·intro H4 l s4 hl;have s5:=s23.trans (s4.trans (aA (o:=HO.lst (((its.map itD).map (pickD w n)).map V.bl)) hl));have e5:upd H4 l (HO.lst (((its.map itD).map (pickD w n)).map V.bl)) l=_:=aB;generalize upd H4 l (HO.lst (((its.map itD).map (pickD w n)).map V.bl))=H5 at s5 e5 |-;push_cast [e5];refine⟨_,rfl,?_⟩;rw[HB];cases hany:its.any (aN w n) with
    | true=>
     push_cast;have:=zj hits hb hany;rw[<- this];exact q _ s5
    | false=>
     push_cast;rw[hPv];refine⟨_,_,s5,fun j cs hj hc=>?_,rfl⟩;rcases Nat.lt_or_ge j i with h|h
     ·exact hb j cs h hc
     ·have:j=i:=by omega
      subst this;rw[hits] at hc;cases hc;exact hany
  ·intro σ H2 pv;rw[hPv] at pv;obtain⟨o5,o6,s2,hb,rfl⟩:=pv;have ec2:=s2 _ _ ec;show k _ _;subst hk;push_cast [ec2];have:=vR (w:=w) (n:=n) (css:=css) fun j cs hc=>hb j cs (by have:=(List.getElem?_eq_some_iff.mp hc).1;omega) hc;rw[hlen,<- this];exact q _ s2
theorem aaT (hB:∀x:Str,x∈BLs->mg x=none) (F:Fun K "with_the_rest" "with_the_rest" cF f fd):dm P w K mg base CX0 1 f fd ["taken","least","most","rest"] Zu:=by
 refine F.okq dU (fun vs H Q E h=>?_) (fun cdv A outer s H vs Q E hr h=>?_)
 ·obtain⟨l,us,lo,hi,rest,zs,L,rfl,_⟩:=h;rfl
 ·obtain⟨l,us,lo,hi,rest,zs,L,rfl,el,tz,fl,hlh,hlen,q⟩:=h;refine⟨_,(aD (bQ fV dU.nd (dg au) rfl (.inl rfl))
   (aD (bQ eH dU.nd (ao yL) rfl (.inl rfl))
   (aD (eX PassesOwn.never rfl (cN (ao yM)) (dX (n:=3) rfl (aK (bN iJ dU.nd (.inl rfl)) (aK (bN kO dU.nd (.inl rfl)) (aK (bN pU dU.nd (.inl rfl)) cR rfl) rfl) rfl) rfl rfl)
   (aD (cA (aU pH (ao eH) (ao iJ) (aM _)) (aG (fD (jx (ao fV) (cX (ak (ao eH) (ak (aJ dY (ao iJ) aq) (ak (ao pW) au rfl) rfl) rfl)) rfl rfl rfl rfl rfl) rfl)) bL)
   (aD (fD (jx (ao fV) (cX (ak (ao iJ) (ak (ao kO) (ak (ao pU) au rfl) rfl) rfl)) rfl rfl rfl rfl rfl) rfl)
   (aG (bQ eH dU.nd (aJ bA (ao kO) aq) rfl (.inl rfl))))) (fun _=>rfl))
   (aD (cA (aU uw (ao eH) (ao pX) (aM _)) (aG (fD (jx (ao fV) (cX (ak (ao eH) (ak (ao pX) (ak (ao pW) au rfl) rfl) rfl)) rfl rfl rfl rfl rfl) rfl)) bL)
   (aG (aO (ao fV))))))),?_⟩
  have zl:=tz.length;refine aL fun k hk=>?_;push_cast;refine⟨aP δ,fun r hr0=>?_⟩;have s0:=aA (o:=HO.lst []) hr0;have e0:upd H r (HO.lst []) r=some (.lst []):=aB;generalize upd H r (HO.lst [])=H0 at s0 e0 |-;subst hk;refine aL fun k hk=>?_;push_cast;subst hk;refine aL fun k hk=>?_;refine iW fun R hR=>?_;have el0:=s0 _ _ el;have nlr:l≠r:=aF el hr0;push_cast [el0];obtain⟨Pv,hPv⟩:∃Pv:Nat->L2.St->Hp->Prop,Pv=fun(i:Nat) σ H'=>∃(free:Int)(told:List (Int×Int×Int)) (us':List V) (o6 o7 o8:Option V),Same H H'/\H' r=some (.lst us')/\bM trE H' us' told/\FI L lo zs told i free/\σ=[some (.ref l),some (.int lo),some (.int hi),some (.int rest),some (.ref r),some (.int free),o6,o7,o8]:=⟨_,rfl⟩;have put:∀{H2:Hp}{us':List V}{told:List (Int×Int×Int)}{x:Int×Int×Int},Same H H2->H2 r=some (.lst us')->bM trE H2 us' told->told.length<=400000->∀{k:Hp->Prop},(∀H3 us3,Same H H3->H3 r=some (.lst us3)->bM trE H3 us3 (told++[x])->(∀p ys,H2 p=some (.tup ys)->H3 p=some (.tup ys))->k H3) ->
    ∀q,H2 q=none->apq (upd H2 q (HO.tup (trE x)) r) r (V.ref q) (upd H2 q (HO.tup (trE x))) fun _ H3=>k H3:=by
   intro H2 us' told x s2 er tt hl k hk q hq;have sq:=aA (o:=HO.tup (trE x)) hq;rw[sq _ _ er,oA];have tl:=tt.length;refine⟨Nat.lt_of_lt_of_le ω (aP (Nat.le_refl 1000000)),?_⟩;have er3:=sq _ _ er;refine hk _ (us'++[.ref q]) (fun a o ha=>?_) aB (((tt.same sq).snoc (x:=x) aB).wV er3) (fun p ys ep=>?_)
   ·rw[aH (fun z=>by rw[z,hr0] at ha;cases ha)];exact sq _ _ (s2 _ _ ha)
   ·rw[aH (fun z=>by rw[z,er] at ep;cases ep)];exact sq _ _ ep
  refine zQ hR (xs:=us) Pv (by rw[hPv];exact⟨lo,[],[],_,_,_,s0,e0,.nil,.start fl,rfl⟩) (fun i σ H' _ pv=>by rw[hPv] at pv;obtain⟨_,_,_,_,_,_,s',_⟩:=pv;exact SqL.of (s' _ _ el)) ?_ ?_
  ·intro i x σ H2 hx pv;rw[hPv] at pv;obtain⟨free,told,us',o6,o7,o8,s2,er2,tt2,fi,rfl⟩:=pv;obtain⟨p,z,rfl,hz,ep⟩:=(tz.same s2).got hx;replace ep:H2 p=some (.tup [.int z.1,.int z.2.1,.int z.2.2]):=ep;have li:i<zs.length:=(List.getElem?_eq_some_iff.mp hz).1;have hfl:=fi.ln;have kz:=fl.ne z (mem_of_getElem? hz);have hah:=fi.ah z (by rw[oh hz];exact mem_cons_self ..);have fin:∀{told2:List (Int×Int×Int)}{us2:List V}{H3:Hp},Same H H3->H3 r=some (.lst us2)->bM trE H3 us2 told2->Cvr L lo z.1 told2->told2.length<=told.length+1->(∀y,told2.getLast?=some y->y.2.2≠z.2.2) ->
     isq (H3 r)/\3<=sizeLine/\∀q,H3 q=none->apq (upd H3 q (HO.tup (trE z)) r) r (V.ref q) (upd H3 q (HO.tup (trE z))) fun _ H4=>Pv (i+1) [some (.ref l),some (.int lo),some (.int hi),some (.int rest),some (.ref r),some (.int (z.2.1+1)),some (.int z.1),some (.int z.2.1),some (.int z.2.2)] H4:=by
    intro told2 us2 H3 s3 er3 t3 c3 l3 y3;refine⟨by rw[er3];trivial,aP δ,fun q hq=>put s3 er3 t3 ω (fun H4 us4 s4 er4 t4 _=>?_) q hq⟩;rw[hPv];exact⟨_,_,us4,_,_,_,s4,er4,t4,fi.take fl hz c3 l3 y3,rfl⟩
   push_cast [ep,er2,lX];by_cases c:free<z.1
   ·rw[if_pos c];have hg:=fi.gap fl (top:=z.1-1) ω ω (fun y m=>by
     rw[oh hz] at m;rcases mem_cons.mp m with rfl|m
     ·omega
     ·have hu:(zs.drop i).Pairwise fun a b=>a.2.1<b.1/\(a.2.2=b.2.2->a.2.1+1<b.1):=fl.up.sublist (drop_sublist _ _);rw[oh hz] at hu;have:=((pairwise_cons.mp hu).1 y m).1;omega)
    rw[show z.1-1+1=z.1 by omega] at hg;refine⟨aP δ,fun q hq=>put (x:=(free,z.1-1,rest)) s2 er2 tt2 ω (fun H3 us3 s3 er3 t3 kp=>?_) q hq⟩;refine fin s3 er3 t3 hg (by rw[length_append];exact Nat.le_refl _) fun y hy=>?_;rw[getLast?_concat] at hy;cases hy;exact fun e=>kz.2.2.2.1 e.symm
   ·rw[if_neg c];have ef:free=z.1:=ω;have:=fin s2 er2 tt2 (by rw[<- ef];exact fi.cv) ω (fun y hy=>fi.next fl hz ef hy);exact this.2
  ·intro σ H2 pv;rw[hPv] at pv;obtain⟨free,told,us',o6,o7,o8,s2,er2,tt2,fi,rfl⟩:=pv;show k _ _;subst hk;have hbf:free<=hi+1:=by
    rcases eq_nil_or_concat told with e0|⟨pre,t0,e0⟩
    ·subst e0;have:=fi.cv.len;have hc:=fi.cv;generalize hem:([]:List (Int×Int×Int))=em at hc;cases hc with
     | nil=>omega
     | snoc _ _ _ _ _=>simp at hem
    ·have hl:told.getLast?=some t0:=by rw[e0];simp
     obtain⟨j,_,hj⟩:=fi.la t0 hl;have:=(fl.ne t0 (mem_of_getElem? hj)).2.2.1;have:=(fi.cv.last hl).1;omega
   have hln:=fi.ln;push_cast [er2,lX];by_cases c:free<=hi
   ·rw[if_pos c];have hg:=fi.gap fl (top:=hi) c (Int.le_refl _) (fun y m=>by
     rw[zl,drop_length] at m;cases m)
    refine⟨aP δ,fun q' hq'=>put (x:=(free,hi,rest)) (k:=fun H3=>Q (V.ref r) H3) s2 er2 tt2 ω (fun H3 us3 s3 er3 t3 kp=>?_) q' hq'⟩;exact q r H3 us3 _ s3 hr0 er3 t3 hg (by rw[length_append,length_singleton];omega)
   ·rw[if_neg c];have ef:free=hi+1:=ω;exact q r H2 us' told s2 hr0 er2 tt2 (by rw[<- ef];exact fi.cv) ω
theorem Ss (hB:∀x:Str,x∈BLs->mg x=none) (CClashOf:Cal P w K mg base "clash_of" 6 ["choice"] Kr) (CCaseSpans:Cal P w K mg base "case_spans" 5 ["width","sign","items"] Qx) (CLeastOf:Cal P w K mg base "least_of" 1 ["width","sign"] xY) (CMostOf:Cal P w K mg base "most_of" 1 ["width","sign"] xu) (CWithTheRest:Cal P w K mg base "with_the_rest" 1 ["taken","least","most","rest"] Zu) (F:Fun K "stretches_of" "stretches_of" aR f fd):dm P w K mg base CX0 7 f fd ["choice"] Kh:=by
 refine F.okq cg (fun vs H Q E h=>?_) (fun cdv A outer s H vs Q E hr h=>?_)
 ·obtain⟨x,w,s,ok,css,rfl,_⟩:=h;rfl
 ·obtain⟨x,w,s,ok,css,rfl,h1,h2,hs,t,hok,hsum,hcl,q⟩:=h;refine⟨_,(aD (bQ kZ cg.nd (bw CClashOf (hr.mono δ) qx O3 (ak (ao pY) au rfl) rfl rfl) rfl (.inl rfl))
   (aD (cA (aU KR (ao kZ) rR (aM _)) (aD (iz (ao kZ) (dX (n:=3) rfl (aK (bN yQ cg.nd (.inl rfl)) (aK (bN yP cg.nd (.inl rfl)) (aK (bN yO cg.nd (.inl rfl)) cR rfl) rfl) rfl) rfl rfl) rfl rfl rfl)
   (aG Rv)) bL)
   (aD (iz (ao pY) (dX (n:=3) rfl (aK (bN iM cg.nd (.inl rfl)) (aK (bN iK cg.nd (.inl rfl)) (aK (bN kY cg.nd (.inl rfl)) cR rfl) rfl) rfl) rfl rfl) rfl rfl rfl)
   (aD (bQ kW cg.nd (dg au) rfl (.inl rfl))
   (aD (eX PassesOwn.never rfl (uq nZ (hB "enumerate" iU) (ak (ao kY) au rfl) rfl) (dX (n:=2) rfl (aK (bN yN cg.nd (.inl rfl)) (aK (bN oM cg.nd (.inl rfl)) cR rfl) rfl) rfl rfl)
   (aG (fD (KJ (ao kW) (eY (NX:=bY) (kX:=(aj aR).names) ["low","high","label"] [none,none,some 9] rfl rfl ⟨rfl,ψ,ψ,ψ,ψ⟩ rfl (cN (bw CCaseSpans (hr.mono δ) n6 wQ (ak (ao iM) (ak (ao iK) (ak (ao oM) au rfl) rfl) rfl) rfl rfl)) (fun _ _ _ _ _=>(dX (n:=2) rfl (aK (cI 0 (show List.Nodup (["low","high","label"]:List Str) from by decide +kernel) rfl (Or.inl rfl)) (aK (cI 1 (show List.Nodup (["low","high","label"]:List Str) from by decide +kernel) rfl (Or.inl rfl)) cR rfl) rfl) rfl rfl)) (fun _ _ _ _ _=>jF) (fun _ _ _ _ _=>(cX (ak (bI 0) (ak (bI 1) (ak (bI 2) au rfl) rfl) rfl)))) rfl rfl rfl rfl rfl) rfl)) (fun _=>rfl))
   (aG (aO (bw CWithTheRest (hr.mono δ) mJ Bf (ak (cB JX rC (hB "sorted" qT) PyProof.Rows.boot_sorted wB (ak (ao kW) au rfl) rfl rfl) (ak (bw CLeastOf (hr.mono δ) qw Cv (ak (ao iM) (ak (ao iK) au rfl) rfl) rfl rfl) (ak (bw CMostOf (hr.mono δ) rD Ac (ak (ao iM) (ak (ao iK) au rfl) rfl) rfl rfl) (ak (cB jr vZ (hB "len" qb) PySem.boot_len qJ (ak (ao kY) au rfl) rfl rfl) au rfl) rfl) rfl) rfl) rfl rfl)))))))),?_⟩
  have wb:=jj h1 h2 hs;refine aL fun k hk=>?_;push_cast;refine⟨x,w,s,ok,css,rfl,h1,h2,hs,t,hok,hsum,fun y H0 cl s0 hc ty=>?_⟩;have e:=hc.one hcl;subst e;cases ty;push_cast;subst hk;refine aL fun k hk=>?_;push_cast;subst hk;have t0:=t.same s0;obtain⟨p,c,xs,rfl,op,ep,oc,ec,z,ts⟩:=gY t0;have hlen:=ts.length;rw[length_map] at hlen;refine aL fun k hk=>?_;push_cast [ep];subst hk;refine aL fun k hk=>?_;push_cast;refine⟨aP δ,fun tk htk=>?_⟩;have s1:=aA (o:=HO.lst []) htk;have e1:upd H0 tk (HO.lst []) tk=some (.lst []):=aB;generalize upd H0 tk (HO.lst [])=H1 at s1 e1 |-;subst hk;refine aL fun k hk=>?_;refine iW fun R hR=>?_;have ec1:=s1 _ _ ec;push_cast [zu,ec1];refine⟨⟨_,SqL.of ec1⟩,?_⟩;obtain⟨Pv,hPv⟩:∃Pv:Nat->L2.St->Hp->Prop,Pv=fun(i:Nat) σ H'=>∃(us:List V)(zs:List (Int×Int×Int)) (o9 o10:Option V),Same H0 H'/\H' tk=some (.lst us)/\bM trE H' us zs/\Tkn w s css i zs/\σ=[some (.ref p),some .non,none,none,none,some (.int w),some (.int s),some (.ref c),some (.ref tk),o9,o10]:=⟨_,rfl⟩;refine UG hR (xs:=xs) Pv (by rw[hPv];exact⟨[],[],_,_,s1,e1,.nil,.nil,rfl⟩) (fun i σ H' pv=>?_) ?_ ?_
  ·rw[hPv] at pv;obtain⟨_,_,_,_,s',_⟩:=pv;exact s' _ _ ec
  ·intro i x σ H2 p2 hx pv hp2;rw[hPv] at pv;obtain⟨us,zs,o9,o10,s2,et2,tz2,tkn,rfl⟩:=pv;obtain⟨d,hd,td⟩:=(ts.same s2).get hx;rw[getElem?_map] at hd;obtain⟨its,hits,rfl⟩:=map_eq_some_iff.mp hd;have hmem:=mem_of_getElem? hits;have hle:its.length<=110:=Nat.le_trans (sO hmem) hsum;have hix:i<xs.length:=(List.getElem?_eq_some_iff.mp hx).1;have s3:=aA (o:=HO.tup [V.int (i:Int),x]) hp2;have e3:upd H2 p2 (HO.tup [V.int (i:Int),x]) p2=_:=aB;have td3:=td.same s3;have s23:=s2.trans s3;have et3:=s3 _ _ et2;have tz3:=tz2.same s3;generalize upd H2 p2 (HO.tup [V.int (i:Int),x])=H3 at e3 td3 s23 et3 tz3 |-;push_cast [e3,Fq,Lh,et3,lX];refine fu fun R2 hR2=>?_;push_cast;refine⟨w,s,x,ok,its,rfl,h1,h2,hs,td3,hok its hmem,ω,fun r H4 us4 ys s4 hr4 e4 t4 c4=>?_⟩;push_cast [e4];have l4:=t4.length;have l6:=c4.ln;obtain⟨Pc,hPc⟩:∃Pv:Nat->List V->L2.St->Hp->Prop,Pv=fun(l:Nat) acc τ H'=>∃(o1 o2:Option V),Same H4 H'/\bM trE H' acc ((ys.take l).map fun y=>(y.1,y.2,(i:Int)))/\τ=[o1,o2,some (.int (i:Int))]:=⟨_,rfl⟩;refine lK hR2 (xs:=us4) (aP ω) Pc (by rw[hPc];exact⟨none,none,Same.refl _,.nil,rfl⟩) ?_ ?_ ?_ ?_
   ·intro l acc τ H5 pc;rw[hPc] at pc;obtain⟨o1,o2,s5,t5,rfl⟩:=pc;rw[t5.length,length_map];exact length_take_le _ _
   ·intro l acc τ H5 pc;rw[hPc] at pc;obtain⟨o1,o2,s5,t5,rfl⟩:=pc;exact SqL.of (s5 _ _ e4)
   ·intro l x' acc τ H5 hx' pc;rw[hPc] at pc;obtain⟨o1,o2,s5,t5,rfl⟩:=pc;obtain⟨p6,y,rfl,hy,ey⟩:=(t4.same s5).got hx';replace ey:H5 p6=some (.tup [.int y.1,.int y.2]):=ey;push_cast [ey];refine⟨aP δ,fun p7 hp7=>?_⟩;rw[hPc];refine⟨_,_,s5.trans (aA hp7),?_,rfl⟩;rw[take_add_one,hy,map_append];exact(t5.same (aA hp7)).snoc (x:=(y.1,y.2,(i:Int))) aB
   ·intro acc τ H5 d5 pc hd5;rw[hPc] at pc;obtain⟨o1,o2,s5,t5,rfl⟩:=pc;rw[l4,take_length] at t5;have s6:=s4.trans (s5.trans (aA (o:=HO.lst acc) hd5));have e6:upd H5 d5 (HO.lst acc) d5=_:=aB;have t6:=t5.same (aA (o:=HO.lst acc) hd5);generalize upd H5 d5 (HO.lst acc)=H6 at s6 e6 t6 |-;have et6:=s6 _ _ et3;have tz6:=tz3.same s6;rw[GX,et6,e6,U0];have lz:=tz2.length;have la:=t6.length;rw[length_map] at la;have ltk:=tkn.ln;have l7:((css.take i).map List.length).sum<=110:=Nat.le_trans (tO css i) hsum;refine⟨aP ω,?_⟩;rw[hPv];refine⟨us++acc,zs++ys.map (fun y=>(y.1,y.2,(i:Int))),_,_,fun a o ha=>?_,aB,(tz6.wV et6).app (t6.wV et6),tkn.more hits c4,rfl⟩;rw[aH (fun z=>by rw[z,htk] at ha;cases ha)];exact(s23.trans s6) _ _ ha
  ·intro σ H2 pv;rw[hPv] at pv;obtain⟨us,zs,o9,o10,s2,et2,tz2,tkn,rfl⟩:=pv;rw[hlen] at tkn;show k _ _;subst hk;have ec2:=s2 _ _ ec;have ltk:=tkn.ln;rw[take_length] at ltk;have lz:=tz2.length;obtain⟨ps,rfl⟩:=tz2.refs;obtain⟨r1,r2⟩:=tz2.read (dec:=xV H2) Z4;have hpl:ps.length=zs.length:=by rwa [length_map] at lz
   push_cast;refine⟨tk,ps,fun p=>(xV H2 p).1,rfl,et2,ω,fun p m=>⟨_,_,r2 p m⟩,?_,fun d qs hd hp ho=>?_⟩
   ·have:=tkn.firsts hcl;rw[r1,map_map] at this;exact this
   have s3:=aA (o:=HO.lst (qs.map V.ref)) hd;have e3:upd H2 d (HO.lst (qs.map V.ref)) d=_:=aB;have tq:bM trE (upd H2 d (HO.lst (qs.map V.ref))) (qs.map V.ref) (qs.map (xV H2)):=.of_map fun p m=>s3 _ _ (r2 p (hp.mem_iff.mp m));have pq:(qs.map (xV H2)).Perm zs:=by rw[r1];exact hp.map _
   generalize upd H2 d (HO.lst (qs.map V.ref))=H3 at s3 e3 tq |-;have ec3:=s3 _ _ ec2;refine⟨w,s,rfl,h1,h2,hs,w,s,rfl,h1,h2,hs,?_⟩;push_cast [ec3];have lq:=pq.length_eq;refine⟨d,qs.map V.ref,wl w s,wl w s+2^w.toNat-1,_,qs.map (xV H2),fun n=>(gj w n css:Int),rfl,e3,tq,?_,ω,ω,fun r H4 us4 ss s4 hr4 e4 t4 c4 l4=>?_⟩
   ·rw[hlen];exact tkn.fill hcl pq (by rw[map_map];exact ho)
   ·have s34:=s3.trans s4;refine q r H4 us4 ss (s0.trans (s2.trans s34)) (none_of s0 (none_of s2 (none_of s3 hr4))) e4 t4 ?_ l4;rw[show wl w s+2^w.toNat=wl w s+2^w.toNat-1+1 by omega];exact c4
end
abbrev dI:List Str:=["_law_tape_here","_law_width","_law_sign","_law_wild","_law_borders_here","_law_owner","_law_cases","_law_k","_law_items","_law_item_here","_law_some"]
abbrev cu:Stmt:=top 39
theorem eE:aY dI ["_law_tape_here"] (aj cu):=⟨rfl,rfl,rfl,ψ,rfl,ψ,ψ⟩
theorem Jk:NM_ dI cu 0 "_law_tape_here" := .of ψ
theorem sG:NM_ dI cu 1 "_law_width" := .of ψ
theorem sE:NM_ dI cu 2 "_law_sign" := .of ψ
theorem sy:NM_ dI cu 3 "_law_wild" := .of ψ
theorem yI:NM_ dI cu 4 "_law_borders_here" := .of ψ
theorem yH:NM_ dI cu 5 "_law_owner" := .of ψ
theorem nO:NM_ dI cu 6 "_law_cases" := .of ψ
theorem yG:NM_ dI cu 7 "_law_k" := .of ψ
theorem yF:NM_ dI cu 8 "_law_items" := .of ψ
theorem yE:NM_ dI cu 9 "_law_item_here" := .of ψ
theorem pP:NM_ dI cu 10 "_law_some" := .of ψ
theorem uX:GI_ cu "_law_borders" := by decide +kernel
theorem qu:GI_ cu "_law_wild_choice" := by decide +kernel
theorem Eh:GI_ cu "all" := by decide +kernel
theorem sW:GI_ cu "enumerate" := by decide +kernel
theorem O1:Bn "_law_choice" := ⟨ψ,ψ⟩
theorem Qi {css:List (List It1)}{m:Nat}(h:∀its∈css,its.length<=m):(css.map List.length).sum<=css.length*m:=by
 induction css with
 | nil=>simp
 | cons c css ih=>
  have h1:=h c (mem_cons_self ..);have h2:=ih fun its hi=>h its (mem_cons_of_mem _ hi);simp only[map_cons,sum_cons,length_cons];rw[Nat.succ_mul];omega
section
variable {P:Program}{w:World}{K:PySem.W.Frag}{mg:Str->Option Value}{base:Heap}{f:Addr}{fd:FuncData}{bs:List Str}
theorem Nk (hB:∀x:Str,x∈BLs->mg x=none) (CZPicks:Cal P w K mg base "_law_picks" 1 ["_law_width","_law_item_here","_law_number_here"] tU) (CZBorders:Cal P w K mg base "_law_borders" 3 ["_law_choice_here"] CW) (CZWildChoice:Cal P w K mg base "_law_wild_choice" 5 ["_law_tape_here"] Ql) (F:Fun K "_law_choice" "_law_choice" cu f fd):dm P w K mg base CX0 6 f fd ["_law_tape_here"] Qw:=by
 refine F.okq eE (fun vs H Q E h=>?_) (fun cdv A outer s H vs Q E hr h=>?_)
 ·obtain⟨p,B,rfl,_⟩:=h;rfl
 ·obtain⟨p,B,rfl,tp,hB0,hB1,q⟩:=h;refine⟨_,(aD (iz (bw CZWildChoice (hr.mono δ) qu Bc (ak (ao Jk) au rfl) rfl rfl) (dX (n:=3) rfl (aK (bN sG eE.nd (.inl rfl)) (aK (bN sE eE.nd (.inl rfl)) (aK (bN sy eE.nd (.inl rfl)) cR rfl) rfl) rfl) rfl rfl) rfl rfl rfl)
   (aD (bQ yI eE.nd (bw CZBorders (hr.mono δ) uX Aa (ak (cX (ak (ao sG) (ak (ao sE) (ak (ao sy) au rfl) rfl) rfl)) au rfl) rfl rfl) rfl (.inl rfl))
   (aD (bQ yH eE.nd aao rfl (.inl rfl))
   (aD (bQ nO eE.nd (dg au) rfl (.inl rfl))
   (aD (eX PassesOwn.never rfl (uq sW (hB "enumerate" iU) (ak (ao sy) au rfl) rfl) (dX (n:=2) rfl (aK (bN yG eE.nd (.inl rfl)) (aK (bN yF eE.nd (.inl rfl)) cR rfl) rfl) rfl rfl)
   (aD (fD (jx (ao nO) (dg au) rfl rfl rfl rfl rfl) rfl)
   (aG (eX PassesOwn.never rfl (cN (ao yF)) (bN yE eE.nd (.inl rfl))
   (aD (Dm (NX:=dI) (kX:=(aj cu).names) ["_law_border","_law_width","_law_item_here"] [none,some 1,some 9] pP eE.nd rfl rfl ⟨rfl,ψ,ψ,ψ,ψ⟩ rfl (cN (ao yI)) (fun _ _ _ _ _=>(cI 0 (show List.Nodup (["_law_border","_law_width","_law_item_here"]:List Str) from by decide +kernel) rfl (Or.inl rfl))) (fun _ _ _ _ _=>(vM (gQ (bw CZPicks (hr.mono δ) rfl Hf (ak (bI 1) (ak (bI 2) (ak (bI 0) au rfl) rfl) rfl) rfl rfl) (fun _=>rfl)))) (fun _ _ _ _ _=>(bI 0)))
   (aG (cA (gQ (cB (qY rfl) Eh (hB "all" DR) PyProof.Rows.Boot.«all» Ep (ak (eY (NX:=dI) (kX:=(aj cu).names) ["_law_border","_law_k","_law_owner"] [none,some 7,some 5] rfl rfl ⟨rfl,ψ,ψ,ψ,ψ⟩ rfl (cN (ao pP)) (fun _ _ _ _ _=>(cI 0 (show List.Nodup (["_law_border","_law_k","_law_owner"]:List Str) from by decide +kernel) rfl (Or.inl rfl))) (fun _ _ _ _ _=>jF) (fun _ _ _ _ _=>(fM (bT hr.aZ) (Ry hr.ZW (bI 2) (bI 0) (bI 1) ⟨rfl,rfl,rfl,rfl⟩) (bI 1) (aM _)))) au rfl) rfl rfl) (fun _=>rfl)) (aD (fD (WQ rfl (ao yH) (eY (NX:=dI) (kX:=(aj cu).names) ["_law_border","_law_k"] [none,some 7] rfl rfl ⟨rfl,ψ,ψ,ψ,ψ⟩ rfl (cN (ao pP)) (fun _ _ _ _ _=>(cI 0 (show List.Nodup (["_law_border","_law_k"]:List Str) from by decide +kernel) rfl (Or.inl rfl))) (fun _ _ _ _ _=>jF) (fun _ _ _ _ _=>(cX (ak (bI 0) (ak (bI 1) au rfl) rfl)))) ⟨rfl,rfl,rfl,rfl⟩) rfl)
   (aG (fD (jx (aX b7 (ao nO) (ao yG) (fun _ _=>rfl)) (ao yE) rfl rfl rfl rfl rfl) rfl))) bL))) (fun _=>rfl)))) (fun _=>rfl))
   (aG (aO (cX (ak (ao sG) (ak (ao sE) (ak (ao nO) au rfl) rfl) rfl))))))))),?_⟩
  refine aL fun k hk=>?_;push_cast;refine⟨p,B,rfl,tp,hB0,hB1,fun w s t css H1 h1 h2 hs s1 tp1 tr1 hok hl=>?_⟩;obtain⟨t',c,xs,e,op,ep,oc,ec,z,ts⟩:=gY tr1;cases e;have hlen:=ts.length;rw[length_map] at hlen;have hsum:=Qi fun its hi=>(hok its hi).1;push_cast [ep];subst hk;refine aL fun k hk=>?_;push_cast;refine⟨aP δ,fun p2 hp2=>?_⟩;have s2:=aA (o:=HO.tup [V.int w,V.int s,V.ref c]) hp2;have e2:upd H1 p2 (HO.tup [V.int w,V.int s,V.ref c]) p2=_:=aB;have n2:=tp1.ne hp2;generalize upd H1 p2 (HO.tup [V.int w,V.int s,V.ref c])=H2 at s2 e2 |-;refine⟨_,w,s,(·≠p),css,rfl,h1,h2,hs,.tup n2 e2 (by show 3<=1000000;decide) (.cons (.int _) (.cons (.int _) (.cons (.lst oc (s2 _ _ ec) z (ts.same s2)) .nil))),fun its hi=>(hok its hi).2,ω,fun pB H3 ns s3 eB lB hup hns=>?_⟩;push_cast;subst hk;have s13:=s2.trans s3;have tp3:=tp1.same s13;have ec3:=s13 _ _ ec;have ts3:=ts.same s13;refine aL fun k hk=>?_;push_cast [Ij];intro pd hpd;have s4:=aA (o:=HO.dK []) hpd;have e4:upd H3 pd (HO.dK []) pd=_:=aB;have npd:=tp3.ne hpd;generalize upd H3 pd (HO.dK [])=H4 at s4 e4 |-;subst hk;refine aL fun k hk=>?_;push_cast;refine⟨aP δ,fun pc hpc=>?_⟩;have tp4:=tp3.same s4;have s5:=s4.trans (aA (o:=HO.lst []) hpc);have e5:upd H4 pc (HO.lst []) pc=some (.lst []):=aB;have ed5:upd H4 pc (HO.lst []) pd=some (.dK []):=aA hpc _ _ e4;have npc:=tp4.ne hpc;have ncd:pc≠pd:=(aF e4 hpc).symm;have hpc3:=none_of s4 hpc;generalize upd H4 pc (HO.lst [])=H5 at s5 e5 ed5 |-;subst hk;refine aL fun k hk=>?_;refine iW fun R hR=>?_;have ec5:=s5 _ _ ec3;push_cast [zu,ec5];refine⟨⟨_,SqL.of ec5⟩,?_⟩;obtain⟨OC,hOC⟩:∃OC:Addr->Prop,OC=fun a=>a≠p/\a≠pc/\a≠pd:=⟨_,rfl⟩;obtain⟨Pv,hPv⟩:∃Pv:Nat->L2.St->Hp->Prop,Pv=fun(i:Nat) σ H'=>∃(css':List (List It1)) (us:List V) (kvs:List (Key×V)) (o7 o8 o9 o10:Option V),Same H3 H'/\H' pd=some (.dK kvs)/\H' pc=some (.lst us)/\aQ OC H' us (css'.map ni)/\css'.length=i /\
   (∀its,its∈css'->its.length<=6/\∀it,it∈its->∃its',its'∈css/\it∈its')/\Own w ns kvs css'/\kvs.length<=24000*i /\
   σ=[some (.ref p),some (.int w),some (.int s),some (.ref c),some (.ref pB),some (.ref pd),some (.ref pc),o7,o8,o9,o10]:=⟨_,rfl⟩
  refine UG hR (xs:=xs) Pv (by rw[hPv];exact⟨[],[],[],_,_,_,_,s5,ed5,e5,.nil,rfl,(fun its h=>by cases h),.start,Nat.zero_le _,rfl⟩) (fun i σ H' pv=>?_) ?_ ?_
  ·rw[hPv] at pv;obtain⟨_,_,_,_,_,_,_,s',_⟩:=pv;exact s' _ _ ec3
  ·intro i x σ H6 p6 hx pv hp6;rw[hPv] at pv;obtain⟨css',us,kvs,o7,o8,o9,o10,s6,ed6,ec6,ts6,hl6,hsub,own,hkl,rfl⟩:=pv;obtain⟨d,hd,td⟩:=ts3.get hx;rw[getElem?_map] at hd;obtain⟨its,hits,rfl⟩:=map_eq_some_iff.mp hd;obtain⟨q0,vs0,rfl,oq,eq,zq,tsq⟩:=mQ td;have hvl:=tsq.length;rw[length_map] at hvl;have hmem:=mem_of_getElem? hits;have hi6:=(hok its hmem).1;have hix:i<xs.length:=(List.getElem?_eq_some_iff.mp hx).1;have hul:=ts6.length;rw[length_map] at hul;have s7:=aA (o:=HO.tup [V.int (i:Int),V.ref q0]) hp6;have e7:upd H6 p6 (HO.tup [V.int (i:Int),V.ref q0]) p6=_:=aB;have ts7:=ts6.same s7;have ed7:=s7 _ _ ed6;have ec7:=s7 _ _ ec6;have s67:=s6.trans s7;generalize upd H6 p6 (HO.tup [V.int (i:Int),V.ref q0])=H7 at s7 e7 ts7 ed7 ec7 s67 |-;push_cast [e7,ec7,lX];refine⟨Nat.zero_le _,fun q8 hq8=>?_⟩;rw[aH (aF ec7 hq8),ec7,oA];refine⟨Nat.lt_of_lt_of_le ω (aP (Nat.le_refl 1000000)),?_⟩;have hq3:=none_of s67 hq8;have nqp:=(tp3.same s67).ne hq8;have nqc:q8≠pc:=(aF ec7 hq8).symm;have nqd:q8≠pd:=(aF ed7 hq8).symm;obtain⟨OQ,hOQ⟩:∃OQ:Addr->Prop,OQ=fun a=>(a≠p/\a≠pc/\a≠pd)/\a≠q8:=⟨_,rfl⟩;have s9:Same H3 (upd (upd H7 q8 (HO.lst [])) pc (HO.lst (us++[V.ref q8]))):=fun a o ha=>by
    rw[aH (fun z=>by rw[z,hpc3] at ha;cases ha)];exact aA hq8 _ _ (s67 _ _ ha)
   have ed9:upd (upd H7 q8 (HO.lst [])) pc (HO.lst (us++[V.ref q8])) pd=some (.dK kvs):=by rw[aH (Ne.symm ncd)];exact aA hq8 _ _ ed7
   have ec9:upd (upd H7 q8 (HO.lst [])) pc (HO.lst (us++[V.ref q8])) pc=some (.lst (us++[V.ref q8])):=aB;have eq9:upd (upd H7 q8 (HO.lst [])) pc (HO.lst (us++[V.ref q8])) q8=some (.lst []):=by rw[aH nqc];exact aB
   have ts9:aQ OQ (upd (upd H7 q8 (HO.lst [])) pc (HO.lst (us++[V.ref q8]))) us (css'.map ni):=ts7.keep fun a o h e=>by
    rw[hOC] at h;rw[hOQ];exact⟨⟨h,aF e hq8⟩,by rw[aH h.2.1];exact aA hq8 _ _ e⟩
   generalize upd (upd H7 q8 (HO.lst [])) pc (HO.lst (us++[V.ref q8]))=H9 at s9 ed9 ec9 eq9 ts9 |-;refine iW fun R2 hR2=>?_;have eq3:=s9 _ _ eq;push_cast [eq3];obtain⟨Pw,hPw⟩:∃Pv:Nat->L2.St->Hp->Prop,Pv=fun(j:Nat) σ H'=>∃(its':List It1)(vs:List V)(kvs:List (Key×V)) (o9 o10:Option V),Same H3 H'/\H' pd=some (.dK kvs)/\H' pc=some (.lst (us++[V.ref q8]))/\H' q8=some (.lst vs)/\aQ OQ H' us (css'.map ni)/\aQ OQ H' vs (its'.map itD)/\its'.length<=j /\
    (∀it,it∈its'->it∈its)/\Own w ns kvs (css'++[its'])/\kvs.length<=24000*i+4000*j /\
    σ=[some (.ref p),some (.int w),some (.int s),some (.ref c),some (.ref pB),some (.ref pd),some (.ref pc),some (.int (i:Int)),some (.ref q0),o9,o10]:=⟨_,rfl⟩
   refine zQ hR2 (xs:=vs0) Pw (by rw[hPw];exact⟨[],[],kvs,_,_,s9,ed9,ec9,eq9,ts9,.nil,Nat.le_refl _,(fun it h=>by cases h),own.fresh,ω,rfl⟩) (fun j σ H' _ pv=>?_) ?_ ?_
   ·rw[hPw] at pv;obtain⟨_,_,_,_,_,s',_⟩:=pv;exact SqL.of (s' _ _ eq)
   ·intro j x σ H10 hx10 pv;rw[hPw] at pv;obtain⟨its',vs,kvs,o9,o10,s10,ed10,ec10,eq10,tu10,tv10,hl10,hsb,own,hkl,rfl⟩:=pv;obtain⟨d,hd,td10⟩:=(tsq.same s10).get hx10;obtain⟨d',hd',td3⟩:=tsq.get hx10;rw[getElem?_map] at hd;obtain⟨it,hit,rfl⟩:=map_eq_some_iff.mp hd;obtain⟨q5,rfl,oq5,hi⟩:=mO td10;have hjx:j<vs0.length:=(List.getElem?_eq_some_iff.mp hx10).1;have eB10:=s10 _ _ eB;have hvl10:=tv10.length;rw[length_map] at hvl10;refine aL fun k3 hk3=>?_;push_cast;refine fu fun R3 hR3=>?_;push_cast [eB10];obtain⟨Pc,hPc⟩:∃Pv:Nat->List V->L2.St->Hp->Prop,Pv=fun(i:Nat) acc τ H'=>∃(o1:Option V),H'=H10/\acc=((ns.take i).filter (fun b=>aN w b it)).map V.int/\τ=[o1,some (.int w),some (.ref q5)]:=⟨_,rfl⟩;refine lK hR3 (xs:=ns.map V.int) (aP (by rw[length_map];omega)) Pc (by rw[hPc];exact⟨none,rfl,rfl,rfl⟩) ?_ ?_ ?_ ?_
    ·intro i9 acc τ H11 pc;rw[hPc] at pc;obtain⟨o1,rfl,rfl,rfl⟩:=pc;rw[length_map];exact Nat.le_trans (length_filter_le _ _) (length_take_le _ _)
    ·intro i9 acc τ H11 pc;rw[hPc] at pc;obtain⟨o1,rfl,rfl,rfl⟩:=pc;exact SqL.of eB10
    ·intro i9 x acc τ H11 hx pc;rw[hPc] at pc;obtain⟨o1,rfl,rfl,rfl⟩:=pc;rw[getElem?_map] at hx;obtain⟨n,hn,rfl⟩:=map_eq_some_iff.mp hx;push_cast;refine⟨w,n,q5,it,rfl,h1,h2,hi,?_⟩;cases hp:aN w n it with
     | true=>
      push_cast;rw[hPc];refine⟨_,rfl,?_,rfl⟩;rw[take_add_one,hn,filter_append,map_append];simp [hp]
     | false=>
      push_cast;rw[hPc];refine⟨_,rfl,?_,rfl⟩;rw[take_add_one,hn,filter_append,map_append];simp [hp]
    ·intro acc τ H11 d11 pc hd11;rw[hPc] at pc;obtain⟨o1,rfl,rfl,rfl⟩:=pc;rw[length_map,take_length];have own2:=own.put (it:=it);have hfl:(ns.filter (fun b=>aN w b it)).length<=4000:=Nat.le_trans (length_filter_le _ _) lB;generalize hbs:ns.filter (fun b=>aN w b it)=bs at own2 hfl |-;have s12:=aA (o:=HO.lst (bs.map V.int)) hd11;have e12:upd H11 d11 (HO.lst (bs.map V.int)) d11=_:=aB;generalize upd H11 d11 (HO.lst (bs.map V.int))=H12 at s12 e12 |-;have ed12:=s12 _ _ ed10;subst hk3;refine acs fun kt ke hkt hke=>?_;push_cast;refine fu fun R4 hR4=>?_;push_cast [e12];obtain⟨Pd,hPd⟩:∃Pv:Nat->List V->L2.St->Hp->Prop,Pv=fun(l:Nat) acc τ H'=>∃(o1:Option V),H'=H12/\acc=((bs.take l).map (okB kvs i)).map V.bl/\τ=[o1,some (.int (i:Int)),some (.ref pd)]:=⟨_,rfl⟩;refine lK hR4 (xs:=bs.map V.int) (aP (by rw[length_map];omega)) Pd (by rw[hPd];exact⟨none,rfl,rfl,rfl⟩) ?_ ?_ ?_ ?_
     ·intro l acc τ H13 pc;rw[hPd] at pc;obtain⟨o1,rfl,rfl,rfl⟩:=pc;rw[length_map,length_map];exact length_take_le _ _
     ·intro l acc τ H13 pc;rw[hPd] at pc;obtain⟨o1,rfl,rfl,rfl⟩:=pc;exact SqL.of e12
     ·intro l x acc τ H13 hx pc;rw[hPd] at pc;obtain⟨o1,rfl,rfl,rfl⟩:=pc;rw[getElem?_map] at hx;obtain⟨n,hn,rfl⟩:=map_eq_some_iff.mp hx;push_cast [CQ];refine⟨.inl ⟨_,.inl ed12⟩,_,V0.k (k:=(Sum.inl n:Key)) ed12,?_⟩;cases hv:jg kvs (Sum.inl n:Key) with
      | none=>
       push_cast [getD_none];rw[hPd];refine⟨_,rfl,?_,rfl⟩;rw[take_add_one,hn];simp [okB,hv]
      | some v=>
       obtain⟨k',rfl⟩:=own.vals n v hv;push_cast [Option.getD_some];rw[hPd];refine⟨_,rfl,?_,rfl⟩;rw[take_add_one,hn];simp [okB,hv]
     ·intro acc τ H13 d13 pc hd13;rw[hPd] at pc;obtain⟨o1,rfl,rfl,rfl⟩:=pc;rw[length_map,take_length];have s14:=aA (o:=HO.lst ((bs.map (okB kvs i)).map V.bl)) hd13;have e14:upd H13 d13 (HO.lst ((bs.map (okB kvs i)).map V.bl)) d13=_:=aB;generalize upd H13 d13 (HO.lst ((bs.map (okB kvs i)).map V.bl))=H14 at s14 e14 |-;have s114:=s12.trans s14;push_cast [e14];refine⟨_,rfl,?_⟩;cases hall:(bs.map (okB kvs i)).all id with
      | false=>
       push_cast;subst hke;push_cast;rw[hPw];exact⟨its',vs,kvs,_,_,s10.trans s114,s114 _ _ ed10,s114 _ _ ec10,s114 _ _ eq10,tu10.same s114,tv10.same s114,ω,hsb,own,ω,rfl⟩
      | true=>
       push_cast;subst hkt;refine aL fun k4 hk4=>?_;have ed14:=s114 _ _ ed10;have e12':=s14 _ _ e12;push_cast [Py];refine⟨.inl ⟨_,.inl ed14⟩,?_⟩;refine fu fun R5 hR5=>?_;push_cast [e12'];obtain⟨Pe,hPe⟩:∃Pv:Nat->List V->L2.St->Hp->Prop,Pv=fun(l:Nat) acc τ H'=>∃(ads:List Addr)(o1:Option V),Same H14 H'/\acc=ads.map V.ref/\ads.length=l/\(∀(j:Nat) a b,ads[j]?=some a->bs[j]?=some b->H' a=some (.tup [.int b,.int (i:Int)]))/\τ=[o1,some (.int (i:Int))]:=⟨_,rfl⟩;refine lK hR5 (xs:=bs.map V.int) (aP (by rw[length_map];omega)) Pe (by rw[hPe];exact⟨[],none,Same.refl _,rfl,rfl,(fun j a b h=>by cases h),rfl⟩) ?_ ?_ ?_ ?_
       ·intro l acc τ H15 pc;rw[hPe] at pc;obtain⟨ads,o1,s15,rfl,hla,hads,rfl⟩:=pc;rw[length_map,hla];exact Nat.le_refl _
       ·intro l acc τ H15 pc;rw[hPe] at pc;obtain⟨ads,o1,s15,rfl,hla,hads,rfl⟩:=pc;exact SqL.of (s15 _ _ e12')
       ·intro l x acc τ H15 hx pc;rw[hPe] at pc;obtain⟨ads,o1,s15,rfl,hla,hads,rfl⟩:=pc;rw[getElem?_map] at hx;obtain⟨n,hn,rfl⟩:=map_eq_some_iff.mp hx;push_cast;refine⟨aP δ,fun a6 ha6=>?_⟩;rw[hPe];refine⟨ads++[a6],_,s15.trans (aA ha6),by simp,by rw[length_append,length_singleton,hla],fun j a b hj hb=>?_,rfl⟩;rcases Nat.lt_or_ge j ads.length with c|c
        ·rw[getElem?_append_left c] at hj;exact aA ha6 _ _ (hads j a b hj hb)
        ·have hj':=(List.getElem?_eq_some_iff.mp hj).1;rw[length_append,length_singleton] at hj';have ej:j=ads.length:=ω;subst ej;rw[getElem?_append_right (Nat.le_refl _),Nat.sub_self] at hj;cases hj;rw[hla,hn] at hb;cases hb;exact aB
       ·intro acc τ H15 d15 pc hd15;rw[hPe] at pc;obtain⟨ads,o1,s15,rfl,hla,hads,rfl⟩:=pc;rw[length_map] at hla;have s16:=s114.trans (s15.trans (aA (o:=HO.lst (ads.map V.ref)) hd15));have e16:upd H15 d15 (HO.lst (ads.map V.ref)) d15=_:=aB;have hads16:∀(j:Nat) a b,ads[j]?=some a->bs[j]?=some b->upd H15 d15 (HO.lst (ads.map V.ref)) a=some (.tup [.int b,.int (i:Int)]):=fun j a b h1 h2=>aA hd15 _ _ (hads j a b h1 h2);generalize upd H15 d15 (HO.lst (ads.map V.ref))=H16 at s16 e16 hads16 |-;have ed16:=s16 _ _ ed10;refine⟨d15,rfl,kvs,ed16,bs.map fun b=>((Sum.inl b:Key),V.int (i:Int)),ads,e16,by rw[length_map,hla],fun j a kv hj hkv=>?_,by rw[length_map];exact aP ω,?_⟩
        ·rw[getElem?_map] at hkv;obtain⟨b,hb,rfl⟩:=map_eq_some_iff.mp hkv;exact hads16 j a b hj hb
        have hlc:css'.length=i:=hl6;rw[hlc] at own2;have own3:=own2 fun b mb=>(by
         have:=all_eq_true.mp hall (okB kvs i b) (mem_map_of_mem mb);exact this)
        have hlen3:=yg (prs:=bs.map fun b=>((Sum.inl b:Key),V.int (i:Int))) (kvs:=kvs);rw[length_map] at hlen3;generalize L2.putAll kvs (bs.map fun b=>((Sum.inl b:Key),V.int (i:Int)))=kvs2 at own3 hlen3 |-;have ec16:=s16 _ _ ec10;have eq16:=s16 _ _ eq10;have tu16:=tu10.same s16;have tv16:=tv10.same s16;have hid:∀a o,OQ a->H16 a=some o->OQ a/\upd H16 pd (HO.dK kvs2) a=some o:=fun a o h e=>by
         refine⟨h,?_⟩;rw[hOQ] at h;rw[aH h.1.2.2];exact e
        have ec17:upd H16 pd (HO.dK kvs2) pc=some (.lst (us++[V.ref q8])):=by rw[aH ncd];exact ec16
        have eq17:upd H16 pd (HO.dK kvs2) q8=some (.lst vs):=by rw[aH nqd];exact eq16
        have ed17:upd H16 pd (HO.dK kvs2) pd=some (.dK kvs2):=aB;have s17:Same H3 (upd H16 pd (HO.dK kvs2)):=fun a o ha=>by
         rw[aH (fun z=>by rw[z,hpd] at ha;cases ha)];exact s16 _ _ (s10 _ _ ha)
        have tu17:=tu16.keep hid;have tv17:=tv16.keep hid;generalize upd H16 pd (HO.dK kvs2)=H17 at ec17 eq17 ed17 s17 tu17 tv17 |-;subst hk4;have hix2:atI (us++[V.ref q8]) (i:Int)=some (V.ref q8):=gJ (j:=i) (by rw[getElem?_append_right ω,show i-us.length=0 by omega];rfl);push_cast [ec17,hix2,eq17,lX];refine⟨Nat.lt_of_lt_of_le ω (aP (Nat.le_refl 1000000)),?_⟩;have kk:∀a o,OQ a->H17 a=some o->OQ a/\upd H17 q8 (HO.lst (vs++[V.ref q5])) a=some o:=fun a o h e=>by
         refine⟨h,?_⟩;rw[hOQ] at h;rw[aH h.2];exact e
        have k3:∀a o,a≠p->H3 a=some o->OQ a/\upd H17 q8 (HO.lst (vs++[V.ref q5])) a=some o:=fun a o h e=>by
         have n8:a≠q8:=fun z=>by rw[z,hq3] at e;cases e
         rw[hOQ];refine⟨⟨⟨h,(fun z=>by rw[z,hpc3] at e;cases e),(fun z=>by rw[z,hpd] at e;cases e)⟩,n8⟩,?_⟩;rw[aH n8];exact s17 _ _ e
        rw[getElem?_map,hit] at hd';cases hd';rw[hPw];refine⟨its'++[it],vs++[V.ref q5],kvs2,_,_,fun a o ha=>?_,by rw[aH (Ne.symm nqd)];exact ed17,by rw[aH (Ne.symm nqc)];exact ec17,aB,tu17.keep kk,?_,by rw[length_append,length_singleton];omega,fun x hx=>?_,own3,ω,rfl⟩
        ·rw[aH (fun z=>by rw[z,hq3] at ha;cases ha)];exact s17 _ _ ha
        ·rw[map_append];exact(tv17.keep kk).append (.cons (td3.keep k3) .nil)
        ·rcases mem_append.mp hx with z|z
         ·exact hsb x z
         ·rw[mem_singleton.mp z];exact mem_of_getElem? hit
   ·intro σ H10 pv;rw[hPw] at pv;obtain⟨its',vs,kvs,o9,o10,s10,ed10,ec10,eq10,tu10,tv10,hl10,hsb,own,hkl,rfl⟩:=pv;show Pv _ _ _;rw[hPv];have hvl10:=tv10.length;rw[length_map] at hvl10;have kk:∀a o,OQ a->H10 a=some o->OC a/\H10 a=some o:=fun a o h e=>by
     rw[hOQ] at h;rw[hOC];exact⟨h.1,e⟩
    refine⟨css'++[its'],us++[V.ref q8],kvs,_,_,_,_,s10,ed10,ec10,?_,by rw[length_append,length_singleton];omega,?_,own,ω,rfl⟩
    ·rw[map_append];refine(tu10.keep kk).append (.cons (.lst ?_ eq10 ω (tv10.keep kk)) .nil);rw[hOC];exact⟨nqp,nqc,nqd⟩
    ·intro x hx;rcases mem_append.mp hx with z|z
     ·exact hsub x z
     ·rw[mem_singleton.mp z];exact⟨ω,fun it m=>⟨its,hmem,hsb it m⟩⟩
  ·intro σ H6 pv;rw[hPv] at pv;obtain⟨css',us,kvs,o7,o8,o9,o10,s6,ed6,ec6,ts6,hl6,hsub,own,hkl,rfl⟩:=pv;show k _ _;subst hk;push_cast;refine⟨aP δ,fun t6 ht6=>?_⟩;have s16:=s13.trans s6;have sx:=aA (o:=HO.tup [V.int w,V.int s,V.ref pc]) ht6;have hul:=ts6.length;rw[length_map] at hul;have nt6:=(tp1.same s16).ne ht6;refine q w s t6 css' _ h1 h2 hs (s1.trans (s16.trans sx).x) (tp1.same (s16.trans sx)) (.tup nt6 aB (by show 3<=1000000;decide) (.cons (.int _) (.cons (.int _) (.cons (.lst npc (sx _ _ ec6) ω (ts6.keep fun a o h e=>by
     rw[hOC] at h;exact⟨h.1,sx _ _ e⟩)) .nil)))) (fun its hi=>⟨(hsub its hi).1,fun it mi=>?_⟩) ω (own.calm fun b hb=>(hns b).mpr (hb.sub fun its hi=>(hsub its hi).2))
   obtain⟨its',m',mi'⟩:=(hsub its hi).2 it mi;exact(hok its' m').2 it mi'
end
abbrev CJ:List Str:=["thing"]
abbrev jl:Stmt:=top 1
theorem Iv:aY CJ ["thing"] (aj jl):=⟨rfl,rfl,rfl,ψ,rfl,ψ,ψ⟩
theorem wL:NM_ CJ jl 0 "thing" := .of ψ
theorem zL:GI_ jl "bool" := by decide +kernel
theorem Bb:GI_ jl "int" := by decide +kernel
theorem jC:GI_ jl "isinstance" := by decide +kernel
theorem J3:Bn "is_number" := ⟨ψ,ψ⟩
abbrev jt:List Str:=["thing","low","high","label"]
abbrev cW:Stmt:=top 22
theorem lU:aY jt ["thing"] (aj cW):=⟨rfl,rfl,rfl,ψ,rfl,ψ,ψ⟩
theorem jX:NM_ jt cW 0 "thing" := .of ψ
theorem uF:NM_ jt cW 1 "low" := .of ψ
theorem uE:NM_ jt cW 2 "high" := .of ψ
theorem uD:NM_ jt cW 3 "label" := .of ψ
theorem zK:GI_ cW "all" := by decide +kernel
theorem oO:GI_ cW "isinstance" := by decide +kernel
theorem zJ:GI_ cW "len" := by decide +kernel
theorem wu:GI_ cW "tuple" := by decide +kernel
theorem Hj:Bn "is_stretch" := ⟨ψ,ψ⟩
abbrev jd:List Str:=["thing","ahead","behind"]
abbrev cJ:Stmt:=top 23
theorem mG:aY jd ["thing"] (aj cJ):=⟨rfl,rfl,rfl,ψ,rfl,ψ,ψ⟩
theorem fW:NM_ jd cJ 0 "thing" := .of ψ
theorem lD:NM_ jd cJ 1 "ahead" := .of ψ
theorem lA:NM_ jd cJ 2 "behind" := .of ψ
theorem wk:GI_ cJ "all" := by decide +kernel
theorem m8:GI_ cJ "isinstance" := by decide +kernel
theorem u6:GI_ cJ "list" := by decide +kernel
theorem wj:GI_ cJ "zip" := by decide +kernel
theorem Bj:Bn "is_stretches" := ⟨ψ,ψ⟩
abbrev dj:List Str:=["_law_choice_here","_law_borders_here","_law_last","_law_found","_law_low","_law_high","_law_label_here"]
abbrev bK:Stmt:=top 40
theorem dz:aY dj ["_law_choice_here"] (aj bK):=⟨rfl,rfl,rfl,ψ,rfl,ψ,ψ⟩
theorem fB:NM_ dj bK 0 "_law_choice_here" := .of ψ
theorem jL:NM_ dj bK 1 "_law_borders_here" := .of ψ
theorem oJ:NM_ dj bK 2 "_law_last" := .of ψ
theorem cY:NM_ dj bK 3 "_law_found" := .of ψ
theorem jK:NM_ dj bK 4 "_law_low" := .of ψ
theorem jJ:NM_ dj bK 5 "_law_high" := .of ψ
theorem gD:NM_ dj bK 6 "_law_label_here" := .of ψ
theorem nT:GI_ bK "_law_borders" := by decide +kernel
theorem qj:GI_ bK "_law_label" := by decide +kernel
theorem qi:GI_ bK "_law_least" := by decide +kernel
theorem uU:GI_ bK "zip" := by decide +kernel
theorem zZ:Bn "_law_stretches_of" := ⟨ψ,ψ⟩
def Qo:Sp:=fun vs H Q _=>∃i,vs=[.int i]/\Q (.bl true) H
section
variable {P:Program}{w:World}{K:PySem.W.Frag}{mg:Str->Option Value}{base:Heap}{f:Addr}{fd:FuncData}{bs:List Str}
theorem SN (hB:∀x:Str,x∈BLs->mg x=none) (F:Fun K "is_number" "is_number" jl f fd):dm P w K mg base CX0 1 f fd ["thing"] Qo:=by
 refine F.okq Iv (fun vs H Q E h=>?_) (fun cdv A outer s H vs Q E hr h=>?_)
 ·obtain⟨i,rfl,_⟩:=h;rfl
 ·obtain⟨i,rfl,q⟩:=h;refine⟨_,(aG (aO (rT (cB cP jC (hB "isinstance" bD) boot_isinstance bF (ak (ao wL) (ak (jz "int" Bb (hB "int" yX) boot_int zY) au rfl) rfl) rfl rfl) (vL (Rx (cB cP jC (hB "isinstance" bD) boot_isinstance bF (ak (ao wL) (ak (jz "bool" zL (hB "bool" xH) boot_bool xK) au rfl) rfl) rfl rfl)))))),?_⟩;push_cast;exact q
theorem XC (hB:∀x:Str,x∈BLs->mg x=none) (CIsNumber:Cal P w K mg base "is_number" 1 ["thing"] Qo) (F:Fun K "is_stretch" "is_stretch" cW f fd):dm P w K mg base CX0 2 f fd ["thing"] Kq:=by
 refine F.okq lU (fun vs H Q E h=>?_) (fun cdv A outer s H vs Q E hr h=>?_)
 ·obtain⟨p,z,rfl,_⟩:=h;rfl
 ·obtain⟨p,z,rfl,e,h1,h2,q⟩:=h;refine⟨_,(aD (cA (vJ (rG (vK (gQ (cB cP oO (hB "isinstance" bD) boot_isinstance bF (ak (ao jX) (ak (jz "tuple" wu (hB "tuple" uM) boot_tuple vh) au rfl) rfl) rfl rfl) (fun _=>rfl))) (pD (aU (kj hr.aZ) (cB jr zJ (hB "len" qb) PySem.boot_len qJ (ak (ao jX) au rfl) rfl rfl) aq (aM _))))) (aG (aO pF)) bL)
   (aD (cA (vK (gQ (cB (qY rfl) zK (hB "all" DR) PyProof.Rows.Boot.«all» Ep (ak (eY (NX:=jt) (kX:=(aj cW).names) ["part"] [none] rfl rfl ⟨rfl,ψ,ψ,ψ,ψ⟩ rfl (cN (ao jX)) (fun _ _ _ _ _=>(cI 0 (show List.Nodup (["part"]:List Str) from by decide +kernel) rfl (Or.inl rfl))) (fun _ _ _ _ _=>jF) (fun _ _ _ _ _=>(bw CIsNumber (hr.mono δ) rfl J3 (ak (bI 0) au rfl) rfl rfl))) au rfl) rfl rfl) (fun _=>rfl))) (aG (aO pF)) bL)
   (aD (iz (ao jX) (dX (n:=3) rfl (aK (bN uF lU.nd (.inl rfl)) (aK (bN uE lU.nd (.inl rfl)) (aK (bN uD lU.nd (.inl rfl)) cR rfl) rfl) rfl) rfl rfl) rfl rfl rfl)
   (aG (aO (rT (fM uw (ao uF) (ao uE) (aM _)) (vL (fM ZD (ao uD) aq (aM _))))))))),?_⟩
  replace e:H p=some (.tup [.int z.1,.int z.2.1,.int z.2.2]):=e;refine aL fun k hk=>?_;push_cast [e];rw[if_neg δ];subst hk;refine aL fun k hk=>?_;push_cast;refine fu fun R hR=>?_;push_cast [e];refine El (ok:=fun _=>True) (fun _=>true) (fun τ=>∃o1,τ=[o1]) hR (aQ.cons (.int z.1) (.cons (.int z.2.1) (.cons (.int z.2.2) .nil))) e (by show 3<=1000000;decide) ⟨none,rfl⟩ ?_ ?_
  ·rintro x1 d1 τ H3 Qn hd s3 t3 ⟨o1,rfl⟩ qn;have hx:∃i,x1=V.int i:=by
    simp only[mem_cons,not_mem_nil,or_false] at hd;rcases hd with rfl|rfl|rfl <;> (cases t3;exact⟨_,rfl⟩)
   obtain⟨i,rfl⟩:=hx;push_cast;exact⟨i,rfl,qn _ _ ⟨_,rfl⟩ (Same.refl _)⟩
  ·intro H3 l s3 hl;have s5:=s3.trans (aA (o:=HO.lst (([PyData.int z.1,.int z.2.1,.int z.2.2].map fun _=>true).map V.bl)) hl);have e5:upd H3 l (HO.lst (([PyData.int z.1,.int z.2.1,.int z.2.2].map fun _=>true).map V.bl)) l=_:=aB;generalize upd H3 l (HO.lst (([PyData.int z.1,.int z.2.1,.int z.2.2].map fun _=>true).map V.bl))=H5 at s5 e5 |-;have e6:=s5 _ _ e;push_cast [e5];refine⟨[true,true,true],rfl,?_⟩;rw[show([true,true,true].all id)=true from rfl,if_neg δ];subst hk;push_cast [e6];rw[if_pos h1];have h3:decide (z.2.2≥0)=true:=decide_eq_true h2;rw[h3];exact q _ s5
theorem SM (hB:∀x:Str,x∈BLs->mg x=none) (CIsStretch:Cal P w K mg base "is_stretch" 2 ["thing"] Kq) (F:Fun K "is_stretches" "is_stretches" cJ f fd):dm P w K mg base CX0 3 f fd ["thing"] Kp:=by
 refine F.okq mG (fun vs H Q E h=>?_) (fun cdv A outer s H vs Q E hr h=>?_)
 ·obtain⟨p,us,ss,rfl,_⟩:=h;rfl
 ·obtain⟨p,us,ss,rfl,e,ts,hok,hne,hln,q⟩:=h;refine⟨_,(aD (cA (vJ (rG (vK (gQ (cB cP m8 (hB "isinstance" bD) boot_isinstance bF (ak (ao fW) (ak (jz "list" u6 (hB "list" uN) boot_list xJ) au rfl) rfl) rfl rfl) (fun _=>rfl))) (pD (vK (Rr (ao fW)))))) (aG (aO pF)) bL)
   (aD (cA (vK (gQ (cB (qY rfl) wk (hB "all" DR) PyProof.Rows.Boot.«all» Ep (ak (eY (NX:=jd) (kX:=(aj cJ).names) ["part"] [none] rfl rfl ⟨rfl,ψ,ψ,ψ,ψ⟩ rfl (cN (ao fW)) (fun _ _ _ _ _=>(cI 0 (show List.Nodup (["part"]:List Str) from by decide +kernel) rfl (Or.inl rfl))) (fun _ _ _ _ _=>jF) (fun _ _ _ _ _=>(bw CIsStretch (hr.mono δ) rfl Hj (ak (bI 0) au rfl) rfl rfl))) au rfl) rfl rfl) (fun _=>rfl))) (aG (aO pF)) bL)
   (aD (eX PassesOwn.never rfl (Dq wj (hB "zip" Ju) (ak (ao fW) (ak (Gg abS (ao fW) (KC aq) KD) au rfl) rfl) rfl rfl) (dX (n:=2) rfl (aK (bN lD mG.nd (.inl rfl)) (aK (bN lA mG.nd (.inl rfl)) cR rfl) rfl) rfl rfl)
   (aG (cA (vJ (rG (aU (kj hr.aZ) (aX b7 (ao lA) aq (fun _ _=>rfl)) (aJ bA (aX b7 (ao lD) aq (fun _ _=>rfl)) aq) (aM _)) (pD (aU (bT hr.aZ) (aX b7 (ao lA) aq (fun _ _=>rfl)) (aX b7 (ao lD) aq (fun _ _=>rfl)) (aM _))))) (aG (aO pF)) bL)) (fun _=>rfl))
   (aG (aO pF))))),?_⟩
  have hlen:=ts.length;refine aL fun k hk=>?_;push_cast [e];have hx:us.isEmpty=false:=by
   cases us with
   | nil=>cases ts;exact absurd rfl hne
   | cons=>rfl
  push_cast [hx];subst hk;refine aL fun k hk=>?_;push_cast;refine fu fun R hR=>?_;push_cast [e];obtain⟨Pc,hPc⟩:∃Pv:Nat->List V->L2.St->Hp->Prop,Pv=fun(i:Nat) acc τ H'=>∃(o1:Option V),Same H H'/\acc=(List.replicate i true).map V.bl/\τ=[o1]:=⟨_,rfl⟩;refine lK hR (xs:=us) (aP ω) Pc (by rw[hPc];exact⟨none,Same.refl _,rfl,rfl⟩) ?_ ?_ ?_ ?_
  ·intro i acc τ H1 pc;rw[hPc] at pc;obtain⟨o1,s1,rfl,rfl⟩:=pc;rw[length_map,List.length_replicate];exact Nat.le_refl _
  ·intro i acc τ H1 pc;rw[hPc] at pc;obtain⟨o1,s1,rfl,rfl⟩:=pc;exact SqL.of (s1 _ _ e)
  ·intro i x acc τ H1 hx1 pc;rw[hPc] at pc;obtain⟨o1,s1,rfl,rfl⟩:=pc;obtain⟨p1,z,rfl,hz,ez⟩:=(ts.same s1).got hx1;have hz1:=hok.ne z (mem_of_getElem? hz);push_cast;refine⟨p1,z,rfl,ez,hz1.1,hz1.2,fun H2 s2=>?_⟩;rw[hPc];refine⟨_,s1.trans s2,?_,rfl⟩;rw[List.replicate_succ',map_append];rfl
  ·intro acc τ H1 l pc hl;rw[hPc] at pc;obtain⟨o1,s1,rfl,rfl⟩:=pc;have s5:=s1.trans (aA (o:=HO.lst ((List.replicate us.length true).map V.bl)) hl);have e5:upd H1 l (HO.lst ((List.replicate us.length true).map V.bl)) l=_:=aB;generalize upd H1 l (HO.lst ((List.replicate us.length true).map V.bl))=H5 at s5 e5 |-;push_cast [e5];refine⟨_,rfl,?_⟩;have hal:(List.replicate us.length true).all id=true:=all_eq_true.mpr fun b m=>by rw[List.eq_of_mem_replicate m];rfl
   rw[hal,if_neg δ];have e6:=s5 _ _ e;subst hk;clear hR;refine aL fun k hk=>?_;refine iW fun R hR=>?_;push_cast [e6];intro l2 hl2;have s7:=s5.trans (aA (o:=HO.lst (sZ us (some 1) none)) hl2);have e7:=aA (o:=HO.lst (sZ us (some 1) none)) hl2 _ _ e6;have e8:upd H5 l2 (HO.lst (sZ us (some 1) none)) l2=_:=aB;rw[Ci] at s7 e7 e8 |-;generalize upd H5 l2 (HO.lst us.tail)=H7 at s7 e7 e8 |-;push_cast [e7,e8];obtain⟨Pv,hPv⟩:∃Pv:Nat->L2.St->Hp->Prop,Pv=fun(i:Nat) σ H'=>∃o1 o2,Same H7 H'/\σ=[some (V.ref p),o1,o2]:=⟨_,rfl⟩;refine ZJ hR (xs:=us) (ys:=us.tail) (by rw[length_tail];omega) Pv (by rw[hPv];exact⟨_,_,Same.refl _,rfl⟩) (fun i σ H' pv=>?_) ?_ ?_
   ·rw[hPv] at pv;obtain⟨o1,o2,s9,_⟩:=pv;exact⟨s9 _ _ e7,s9 _ _ e8⟩
   ·intro i x y σ H9 r hx9 hy9 pv hr9;rw[hPv] at pv;obtain⟨o1,o2,s9,rfl⟩:=pv;rw[Pq] at hy9;obtain⟨ax,za,rfl,ha,ea⟩:=(ts.same (s7.trans s9)).got hx9;obtain⟨ay,zb,rfl,hb,eb⟩:=(ts.same (s7.trans s9)).got hy9;have nb:=hok.nb i za zb ha hb;have s10:=aA (o:=HO.tup [V.ref ax,V.ref ay]) hr9;have e10:upd H9 r (HO.tup [V.ref ax,V.ref ay]) r=_:=aB;have ea10:=s10 _ _ ea;have eb10:=s10 _ _ eb;replace ea10:upd H9 r (HO.tup [V.ref ax,V.ref ay]) ax=some (.tup [.int za.1,.int za.2.1,.int za.2.2]):=ea10;replace eb10:upd H9 r (HO.tup [V.ref ax,V.ref ay]) ay=some (.tup [.int zb.1,.int zb.2.1,.int zb.2.2]):=eb10;generalize upd H9 r (HO.tup [V.ref ax,V.ref ay])=H10 at s10 e10 ea10 eb10 |-;push_cast [e10,ea10,eb10];rw[decide_eq_true nb.1,Bool.not_true,if_neg δ];have h5:¬zb.2.2=za.2.2:=nb.2;rw[if_neg h5];rw[hPv];exact⟨_,_,s9.trans s10,rfl⟩
   ·intro σ H9 pv;rw[hPv] at pv;obtain⟨o1,o2,s9,rfl⟩:=pv;show k _ _;subst hk;push_cast;exact q _ (s7.trans s9)
theorem Xx (hB:∀x:Str,x∈BLs->mg x=none) (CZLeast:Cal P w K mg base "_law_least" 1 ["_law_width","_law_sign"] oX) (CZBorders:Cal P w K mg base "_law_borders" 3 ["_law_choice_here"] CW) (CZLabel:Cal P w K mg base "_law_label" 3 ["_law_choice_here","_law_number_here"] Fx) (F:Fun K "_law_stretches_of" "_law_stretches_of" bK f fd):dm P w K mg base CX0 4 f fd ["_law_choice_here"] Qq:=by
 refine F.okq dz (fun vs H Q E h=>?_) (fun cdv A outer s H vs Q E hr h=>?_)
 ·obtain⟨x,w,s,ok,css,rfl,_⟩:=h;rfl
 ·obtain⟨x,w,s,ok,css,rfl,h1,h2,hs,t,hok,hsum,q⟩:=h;refine⟨_,(aD (bQ jL dz.nd (bw CZBorders (hr.mono δ) nT Aa (ak (ao fB) au rfl) rfl rfl) rfl (.inl rfl))
   (aD (bQ oJ dz.nd (aJ bA (bw CZLeast (hr.mono δ) qi vm (ak (aX b7 (ao fB) aq (fun _ _=>rfl)) (ak (aX b7 (ao fB) aq (fun _ _=>rfl)) au rfl) rfl) rfl rfl) (aJ dJ aq (aX b7 (ao fB) aq (fun _ _=>rfl)))) rfl (.inl rfl))
   (aD (bQ cY dz.nd (dg au) rfl (.inl rfl))
   (aD (eX PassesOwn.never rfl (Dq uU (hB "zip" Ju) (ak (ao jL) (ak (aJ bA (Gg abS (ao jL) (KC aq) KD) (dg (ak (ao oJ) au rfl))) au rfl) rfl) rfl rfl) (dX (n:=2) rfl (aK (bN jK dz.nd (.inl rfl)) (aK (bN jJ dz.nd (.inl rfl)) cR rfl) rfl) rfl rfl)
   (aD (bQ gD dz.nd (bw CZLabel (hr.mono δ) qj Vn (ak (ao fB) (ak (ao jK) au rfl) rfl) rfl rfl) rfl (.inl rfl))
   (aG (cA (vJ (vI (aU (aaN hr.aZ) (ao cY) (dg au) (aM _)) (um (aU (bT hr.aZ) (aX b7 (aX b7 (ao cY) (oG jE aq) (fun _ _=>rfl)) aq (fun _ _=>rfl)) (ao gD) (aM _))))) (aG (iz (cX (ak (aX b7 (aX b7 (ao cY) (oG jE aq) (fun _ _=>rfl)) aq (fun _ _=>rfl)) (ak (aJ dY (ao jJ) aq) (ak (ao gD) au rfl) rfl) rfl)) (KH (ao cY) (oG jE aq) Fz) rfl rfl rfl)) (aG (fD (jx (ao cY) (cX (ak (ao jK) (ak (aJ dY (ao jJ) aq) (ak (ao gD) au rfl) rfl) rfl)) rfl rfl rfl rfl rfl) rfl))))) (fun _=>rfl))
   (aG (aO (ao cY))))))),?_⟩
  have wb:=jj h1 h2 hs;refine aL fun k hk=>?_;push_cast;refine⟨x,w,s,ok,css,rfl,h1,h2,hs,t,hok,hsum,fun pB H1 ns s1 eB lB hup hns=>?_⟩;push_cast;subst hk;have t1:=t.same s1;obtain⟨p,c,xs,rfl,op,ep,oc,ec,z,ts⟩:=gY t1;refine aL fun k hk=>?_;push_cast [ep];refine⟨w,s,rfl,h1,h2,hs,?_⟩;push_cast [ep,Int.one_mul];refine⟨⟨ω,ω,δ⟩,?_⟩;subst hk;refine aL fun k hk=>?_;push_cast;refine⟨aP δ,fun r hr0=>?_⟩;have s2:=aA (o:=HO.lst []) hr0;have e2:upd H1 r (HO.lst []) r=some (.lst []):=aB;generalize upd H1 r (HO.lst [])=H2 at s2 e2 |-;subst hk;refine aL fun k hk=>?_;refine iW fun R hR=>?_;have eB2:=s2 _ _ eB;have np0:∀{a},H1 a=none->H a=none:=fun h=>none_of s1 h;push_cast [eB2];intro c3 hc3;rw[Ci];have s3:=aA (o:=HO.lst (ns.map V.int).tail) hc3;have e3:upd H2 c3 (HO.lst (ns.map V.int).tail) c3=_:=aB;generalize upd H2 c3 (HO.lst (ns.map V.int).tail)=H3 at s3 e3 |-;refine⟨aP δ,fun c4 hc4=>?_⟩;have s4:=s3.trans (aA (o:=HO.lst [V.int (wl w s+2^w.toNat)]) hc4);rw[aA hc4 _ _ e3,Eu];generalize upd H3 c4 (HO.lst [V.int (wl w s+2^w.toNat)])=H4 at s4 |-;have hnl:((ns.map V.int).tail++[V.int (wl w s+2^w.toNat)]).length<=ns.length+1:=by
   rw[length_append,length_tail,length_map,length_singleton];omega
  refine⟨aP (by rw[length_append] at hnl;omega),fun c5 hc5=>?_⟩;have n5r:c5≠r:=(aF (s4 _ _ e2) hc5).symm;have s5:=s4.trans (aA (o:=HO.lst ((ns.map V.int).tail++[V.int (wl w s+2^w.toNat)])) hc5);have e5:upd H4 c5 (HO.lst ((ns.map V.int).tail++[V.int (wl w s+2^w.toNat)])) c5=_:=aB;generalize upd H4 c5 (HO.lst ((ns.map V.int).tail++[V.int (wl w s+2^w.toNat)]))=H5 at s5 e5 |-;have eB5:=s5 _ _ eB2;have er5:=s5 _ _ e2;have s15:=s2.trans s5;push_cast [eB5,e5];obtain⟨rr,hns0⟩:=Ek hup hns;have hul:=V4 hup fun b m=>((hns b).mp m).1.2;have hms:∀i,((ns.map V.int).tail++[V.int (wl w s+2^w.toNat)])[i]?=((ns++[wl w s+2^w.toNat])[i+1]?).map V.int:=fun i=>by
   rw[hns0,map_cons,List.tail_cons,cons_append,getElem?_cons_succ,<- getElem?_map,map_append];rfl
  have hln:ns.length=rr.length+1:=by rw[hns0];rfl
  obtain⟨Pv,hPv⟩:∃Pv:Nat->L2.St->Hp->Prop,Pv=fun(i:Nat) σ H'=>∃(cur:Int)(told:List (Int×Int×Int)) (us':List V) (o4 o5 o6:Option V),Same H1 H'/\H' pB=some (.lst (ns.map V.int))/\H' c5=some (.lst ((ns.map V.int).tail++[V.int (wl w s+2^w.toNat)]))/\H' r=some (.lst us')/\bM trE H' us' told/\(ns++[wl w s+2^w.toNat])[i]?=some cur/\Cvr (fun n=>(gj w n css:Int)) (wl w s) cur told/\told.length<=i /\
   σ=[some (.ref p),some (.ref pB),some (.int (wl w s+2^w.toNat)),some (.ref r),o4,o5,o6]:=⟨_,rfl⟩
  have nBr:pB≠r:=fun z=>by rw[z,hr0] at eB;cases eB
  refine ZJ hR (xs:=ns.map V.int) (ys:=(ns.map V.int).tail++[V.int (wl w s+2^w.toNat)]) (by rw[length_append,length_tail,length_map,length_singleton];omega) Pv (by rw[hPv];exact⟨wl w s,[],[],_,_,_,s15,eB5,e5,er5,.nil,by rw[hns0];rfl,.nil,Nat.le_refl _,rfl⟩) (fun i σ H' pv=>?_) ?_ ?_
  ·rw[hPv] at pv;obtain⟨_,_,_,_,_,_,_,a1,a2,_⟩:=pv;exact⟨a1,a2⟩
  ·intro i x y σ H6 p6 hx hy pv hp6;rw[hPv] at pv;obtain⟨cur,told,us',o4,o5,o6,s6,eB6,e56,er6,t6,hcur,cv,hl6,rfl⟩:=pv;rw[hms] at hy;obtain⟨high,hhigh,rfl⟩:=map_eq_some_iff.mp hy;rw[getElem?_map] at hx;obtain⟨low,hlow,rfl⟩:=map_eq_some_iff.mp hx;have li:=(List.getElem?_eq_some_iff.mp hlow).1;have elow:low=cur:=by
    rw[getElem?_append_left li,hlow] at hcur;cases hcur;rfl
   subst elow;have hlt:low<high:=by
    obtain⟨a1,a2⟩:=List.getElem?_eq_some_iff.mp hcur;obtain⟨b1,b2⟩:=List.getElem?_eq_some_iff.mp hhigh;have:=pairwise_iff_getElem.mp hul i (i+1) a1 b1 ω;rw[a2,b2] at this;exact this
   have seg:=fun n n1 n2=>Yi (n:=n) h1 hs hok hns hul hcur hhigh n1 n2;have s7:=aA (o:=HO.tup [V.int low,V.int high]) hp6;have e7:upd H6 p6 (HO.tup [V.int low,V.int high]) p6=_:=aB;have s67:=s6.trans s7;have eB7:=s7 _ _ eB6;have e57:=s7 _ _ e56;have er7:=s7 _ _ er6;have t7:=t6.same s7;generalize upd H6 p6 (HO.tup [V.int low,V.int high])=H7 at e7 s67 eB7 e57 er7 t7 |-;push_cast [e7];refine⟨_,low,w,s,ok,css,rfl,h1,h2,t1.same s67,fun H8 s8=>?_⟩;have eB8:=s8 _ _ eB7;have e58:=s8 _ _ e57;have er8:=s8 _ _ er7;have t8:=t7.same s8;have s68:=s67.trans s8;push_cast;refine⟨Nat.zero_le _,fun p9 hp9=>?_⟩;have s9:=aA (o:=HO.lst []) hp9;have eB9:=s9 _ _ eB8;have e59:=s9 _ _ e58;have er9:=s9 _ _ er8;have t9:=t8.same s9;have s69:=s68.trans s9;refine⟨r,p9,us',rfl,rfl,er9,aB,?_⟩;generalize upd H8 p9 (HO.lst [])=H9 at s9 eB9 e59 er9 t9 s69 |-;have l9:=t9.length;have app:(∀y,told.getLast?=some y->y.2.2≠(gj w low css:Int))->isq (H9 r)/\3<=sizeLine/\∀q2,H9 q2=none->apq (upd H9 q2 (HO.tup [V.int low,V.int (high-1),V.int (gj w low css:Nat)]) r) r (V.ref q2) (upd H9 q2 (HO.tup [V.int low,V.int (high-1),V.int (gj w low css:Nat)])) fun _ H1=>
     Pv (i+1) [some (V.ref p),some (V.ref pB),some (V.int (wl w s+2^w.toNat)),some (V.ref r),some (V.int low),some (V.int high),some (V.int (gj w low css:Nat))] H1:=by
    intro hd;refine⟨by rw[er9];trivial,aP δ,fun q2 hq2=>?_⟩;rw[aA hq2 _ _ er9,oA];refine⟨Nat.lt_of_lt_of_le ω (aP (Nat.le_refl 1000000)),?_⟩;rw[hPv];refine⟨high,told++[(low,high-1,(gj w low css:Int))],_,_,_,_,oZ s69 hr0 hq2,rN eB9 nBr hq2,rN e59 n5r hq2,aB,bM.push t9 (low,high-1,(gj w low css:Int)) er9 hq2,hhigh,?_,by rw[length_append,length_singleton];omega,rfl⟩;have:=Cvr.snoc (x:=(low,high-1,(gj w low css:Int))) cv rfl (show low<=high-1 by omega) (fun n n1 n2=>by
     replace n2:n<=high-1:=n2;show((gj w n css:Nat):Int)=_;rw[seg n n1 ω]) hd
    replace this:Cvr _ _ (high-1+1) _:=this;rw[show high-1+1=high by omega] at this;exact this
   rcases eq_nil_or_concat told with e0|⟨pre,t0,e0⟩
   ·subst e0;cases t9;push_cast [List.isEmpty_nil];exact app (fun y hy=>by cases hy)
   ·rw[List.concat_eq_append] at e0;subst e0;obtain⟨vs,pt,rfl,tv,ept⟩:=t9.split;replace ept:H9 pt=some (.tup [.int t0.1,.int t0.2.1,.int t0.2.2]):=ept;have la:=LK vs (V.ref pt);rw[K3];push_cast [er9,la,ept];by_cases c:t0.2.2=(gj w low css:Int)
    ·rw[if_pos c];push_cast [er9,la,ept];refine⟨aP δ,fun q2 hq2=>?_⟩;rw[aA hq2 _ _ er9];refine⟨_,K9 vs _,?_⟩;rw[Fy,hPv];refine⟨high,pre++[(t0.1,high-1,t0.2.2)],_,_,_,_,oZ s69 hr0 hq2,rN eB9 nBr hq2,rN e59 n5r hq2,aB,?_,hhigh,cv.grow hlt fun n n1 n2=>by rw[c];show((gj w n css:Nat):Int)=_;rw[seg n n1 n2],by simp only[length_append,length_singleton] at hl6 |-;omega,rfl⟩;rw[c];exact bM.swap tv (t0.1,high-1,(gj w low css:Int)) er9 hq2
    ·rw[if_neg c];have ap:=app (fun y hy=>by rw[getLast?_concat] at hy;cases hy;exact c);exact ap.2
  ·intro σ H6 pv;rw[hPv] at pv;obtain⟨cur,told,us',o4,o5,o6,s6,eB6,e56,er6,t6,hcur,cv,hl6,rfl⟩:=pv;show k _ _;subst hk;have hlast:((ns.map V.int).tail++[V.int (wl w s+2^w.toNat)]).length=ns.length:=by
    rw[length_append,length_tail,length_map,length_singleton];omega
   rw[hlast,getElem?_append_right (Nat.le_refl _),Nat.sub_self] at hcur;cases hcur;rw[hlast] at hl6;push_cast;exact q r H6 us' told (s1.trans s6) (np0 hr0) er6 t6 cv ω
abbrev Fi:List Str:=["_law_script","_law_k","_law_tape_here","_law_choice_here","_law_kept","_law_due","_law_turn","_law_found"]
abbrev jV:Stmt:=top 42
theorem yd:aY Fi ["_law_script"] (aj jV):=⟨rfl,rfl,rfl,ψ,rfl,ψ,ψ⟩
theorem Ti:NM_ Fi jV 0 "_law_script" := .of ψ
theorem Tg:NM_ Fi jV 1 "_law_k" := .of ψ
theorem Tf:NM_ Fi jV 2 "_law_tape_here" := .of ψ
theorem yV:NM_ Fi jV 3 "_law_choice_here" := .of ψ
theorem aa3:NM_ Fi jV 4 "_law_kept" := .of ψ
theorem aa2:NM_ Fi jV 5 "_law_due" := .of ψ
theorem aa1:NM_ Fi jV 6 "_law_turn" := .of ψ
theorem yU:NM_ Fi jV 7 "_law_found" := .of ψ
theorem Ej:GI_ jV "_law_choice" := by decide +kernel
theorem JQ:GI_ jV "_law_same" := by decide +kernel
theorem u5:GI_ jV "_law_stretches_of" := by decide +kernel
theorem JN:GI_ jV "_law_tape" := by decide +kernel
theorem wg:GI_ jV "is_stretches" := by decide +kernel
theorem Ut:GI_ jV "len" := by decide +kernel
theorem Us:GI_ jV "min" := by decide +kernel
theorem zG:GI_ jV "range" := by decide +kernel
theorem Ce:GI_ jV "repr" := by decide +kernel
theorem v8:GI_ jV "stretches_of" := by decide +kernel
def Km (K:PySem.W.Frag):Sp:=fun vs H Q _=>∃(a:Addr)(ns:List Int),vs=[.ref a]/\SqL K H a (ns.map V.int)/\ns.length<=63/\∀H',Q (.bl true) H'
theorem Ip {w s:Int}{css:List (List It1)}(h1:1<=w)(h2:w<=40)(hs:s=0\/s=1)(hok:∀its∈css,its.length<=31/\∀it∈its,it.Ok w s)(hl:css.length<=13):Shw (jy w s css):=by
 have b:Bd (1+13*(1+31*4)) 3 (.list (css.map ni)):=Lz (fun d hd=>by
  obtain⟨its,hi,rfl⟩:=mem_map.mp hd;exact Zc h1 h2 hs (hok its hi).2 (hok its hi).1) (by rw[length_map];exact hl)
 exact((Vt h1 h2 hs b δ).tell δ δ).shw
theorem aaW (hB:∀x:Str,x∈BLs->mg x=none) (CStretchesOf:Cal P w K mg base "stretches_of" 7 ["choice"] Kh) (CIsStretches:Cal P w K mg base "is_stretches" 3 ["thing"] Kp) (CZTape:Cal P w K mg base "_law_tape" 2 ["_law_script","_law_k"] (Qm K))
  (CZChoice:Cal P w K mg base "_law_choice" 6 ["_law_tape_here"] Qw) (CZStretchesOf:Cal P w K mg base "_law_stretches_of" 4 ["_law_choice_here"] Qq) (CZSame:Cal P w K mg base "_law_same" 4 ["_law_found","_law_due"] (tR 4))
  (F:Fun K "law" "law" jV f fd):dm P w K mg base CX0 63 f fd ["_law_script"] (Km K):=by
 refine F.okq yd (fun vs H Q E h=>?_) (fun cdv A outer s H vs Q E hr h=>?_)
 ·obtain⟨a,ns,rfl,_⟩:=h;rfl
 ·obtain⟨a,ns,rfl,hS,h63,q⟩:=h;refine⟨_,(aD (eX PassesOwn.never rfl (gZ zG (hB "range" gw) (ak (aJ bA aq (cB (wA rfl) Us (hB "min" Jw) boot_min J0 (ak aq (ak (cB jZ Ut (hB "len" qb) PySem.boot_len qJ (ak (ao Ti) au rfl) rfl rfl) au rfl) rfl) rfl rfl)) au rfl) rfl) (bN Tg yd.nd (.inl rfl))
   (aD (bQ Tf yd.nd (bw CZTape (hr.mono δ) JN Y0 (ak (ao Ti) (ak (ao Tg) au rfl) rfl) rfl rfl) rfl (.inl rfl))
   (aD (bQ yV yd.nd (bw CZChoice (hr.mono δ) Ej O1 (ak (ao Tf) au rfl) rfl rfl) rfl (.inl rfl))
   (aD (Dp (i:=4) (j:=5) rfl yd.nd rfl rfl δ rfl rfl (ak (cB (zW hr.gd hr.Zn) Ce (hB "repr" K5) boot_repr Lw (ak (ao yV) au rfl) rfl rfl) (ak (bw CZStretchesOf (hr.mono δ) u5 zZ (ak (ao yV) au rfl) rfl rfl) au rfl) rfl) (by rfl))
   (aG (eX PassesOwn.never rfl (gZ zG (hB "range" gw) (ak aq au rfl) rfl) (bN aa1 yd.nd (.inl rfl))
   (aD (bQ yU yd.nd (bw CStretchesOf (hr.mono δ) v8 Bg (ak (ao yV) au rfl) rfl rfl) rfl (.inl rfl))
   (aD (cA (vJ (rG (vK (gQ (bw CZSame (hr.mono δ) JQ Lx (ak (ao yU) (ak (ao aa2) au rfl) rfl) rfl rfl) (fun _=>rfl))) (rG (aU (kj hr.aZ) (cB (zW hr.gd hr.Zn) Ce (hB "repr" K5) boot_repr Lw (ak (ao yV) au rfl) rfl rfl) (ao aa3) (aM _)) (pD (aU Sh (bw CIsStretches (hr.mono δ) wg Bj (ak (ao yU) au rfl) rfl rfl) pF (aM _)))))) (aG (aO pF)) bL)
   (aD (fD (WR (ao yU)) rfl)
   (aG (fD (jx (ao yU) (cX (ak aq (ak aq (ak aq au rfl) rfl) rfl)) rfl rfl rfl rfl rfl) rfl))))) (fun _=>rfl)))))) (fun _=>rfl))
   (aG (aO pF))),?_⟩
  refine aL fun k hk=>?_;refine iW fun R hR=>?_;push_cast [qg];refine⟨_,.inl hS,?_⟩;rw[length_map];have m6:(0:Int)<=1+(if (ns.length:Int)<2 then (ns.length:Int) else 2)/\1+(if (ns.length:Int)<2 then (ns.length:Int) else 2)<=7:=by
   split <;> omega
  refine⟨ω,ω,?_⟩;obtain⟨Pv,hPv⟩:∃Pv:Nat->L2.St->Hp->Prop,Pv=fun(i:Nat) σ H'=>Same H H'/\∃o1 o2 o3 o4 o5 o6 o7,σ=[some (.ref a),o1,o2,o3,o4,o5,o6,o7]:=⟨_,rfl⟩;refine zP hR Pv (by rw[hPv];exact⟨Same.refl _,none,none,none,none,none,none,none,rfl⟩) ?_ ?_
  ·intro i σ H1 hi pv;rw[hPv] at pv;obtain⟨s1,o1,o2,o3,o4,o5,o6,o7,rfl⟩:=pv;refine aL fun k2 hk2=>?_;push_cast;refine⟨a,ns,(0:Int)+(i:Int),rfl,s1.seq hS,ω,ω,fun p H2 hp s2 tp=>?_⟩;push_cast;subst hk2;have hp0:H p=none:=none_of s1 hp;refine aL fun k2 hk2=>?_;push_cast;refine⟨p,0,rfl,tp,δ,δ,fun w s t css H4 h1 h2 hs s4 tp4 tr4 hok hl calm=>?_⟩;push_cast;subst hk2;have sx4:dZ p H H4:=((s1.trans s2).x (p:=p)).trans s4;have hoks:∀its,its∈css->∀it,it∈its->It1.Ok w s it:=fun its hi=>(hok its hi).2;have shw:=Ip h1 h2 hs (fun its hi=>⟨Nat.le_trans (hok its hi).1 δ,(hok its hi).2⟩) ω;have hsum:(css.map List.length).sum<=110:=by
    have:=Qi fun its hi=>(hok its hi).1;omega
   have hcl:fG w s css none:=fun n hn=>by
    rcases Nat.lt_or_ge (jD w css n) 2 with c|c
    ·exact c
    ·obtain⟨b,hb,_,h2⟩:=Ib h1 hs hoks hn c;have:=calm b hb;omega
   have p2:=two_pow_pos w.toNat;refine aL fun k2 hk2=>?_;push_cast;refine⟨_,_,_,rfl,tr4,shw,?_⟩;refine⟨_,w,s,_,css,rfl,h1,h2,hs,tr4,hoks,hsum,fun r H5 us ss s5 hr5 e5 t5 cv ln5=>?_⟩;push_cast;subst hk2;refine iW fun R3 hR3=>?_;push_cast [qg];refine⟨δ,δ,?_⟩;obtain⟨Px,hPx⟩:∃Pv:Nat->L2.St->Hp->Prop,Pv=fun(j:Nat) σ H'=>∃o6 o7,Same H5 H'/\σ=[some (.ref a),some (.int (0+(i:Int))),some (.ref p),some (.ref t),some (V.str (jy w s css).shown),some (.ref r),o6,o7]:=⟨_,rfl⟩;refine zP hR3 Px (by rw[hPx];exact⟨_,_,Same.refl _,rfl⟩) ?_ ?_
   ·intro l σ H6 hl6 pv;rw[hPx] at pv;obtain⟨o6',o7',s6,rfl⟩:=pv;have tr6:=tr4.same (s5.trans s6);refine aL fun k3 hk3=>?_;push_cast;refine⟨_,w,s,_,css,rfl,h1,h2,hs,tr6,hoks,hsum,hcl,fun r7 H7 us7 ss7 s7 hr7 e7 t7 cv7 ln7=>?_⟩;push_cast;subst hk3;have ess:=cv7.one cv;subst ess;have e57:=s7 _ _ (s6 _ _ e5);have t57:=(t5.same s6).same s7;have l7:=t7.length;have l5:=t57.length;have hne:ss7≠[]:=by
     rcases cv7.len with z|z
     ·exfalso;subst z;generalize hem:([]:List (Int×Int×Int))=em at cv7;generalize hcc:wl w s+2^w.toNat=cc at cv7;cases cv7 with
      | nil=>omega
      | snoc _ _ _ _ _=>simp at hem
     ·intro z';subst z';generalize hem:([]:List (Int×Int×Int))=em at cv7;generalize hcc:wl w s+2^w.toNat=cc at cv7;cases cv7 with
      | nil=>omega
      | snoc _ _ _ _ _=>simp at hem
    refine aL fun k3 hk3=>?_;push_cast;refine⟨_,_,fun _=>True,.list (ss7.map trD),rfl,.lst trivial e7 ω t7.trees,.lst trivial e57 ω t57.trees,Mi ss7,fun H8 s8=>?_⟩;push_cast;refine⟨_,_,_,rfl,tr6.same (s7.trans s8),shw,?_⟩;push_cast;refine⟨r7,us7,ss7,rfl,s8 _ _ e7,t7.same s8,cv7.ok (fun n=>Int.natCast_nonneg _),hne,ln7,fun H9 s9=>?_⟩;push_cast;subst hk3;have e9:=s9 _ _ (s8 _ _ e7);have s69:=s7.trans (s8.trans s9);have hr65:=none_of s6 hr7;refine aL fun k3 hk3=>?_;push_cast [Pz,QZ,e9,QX];have sR:Same H5 (upd H9 r7 (HO.lst us7.reverse)):=fun b u hb=>by
     rw[aH (fun z=>by rw[z,hr65] at hb;cases hb)];exact s69 _ _ (s6 _ _ hb)
    have eR:upd H9 r7 (HO.lst us7.reverse) r7=some (.lst us7.reverse):=aB;generalize upd H9 r7 (HO.lst us7.reverse)=H10 at sR eR |-;subst hk3;push_cast [eR,lX];refine⟨aP δ,fun q2 hq2=>?_⟩;have e11:=aA (o:=HO.tup [V.int 0,V.int 0,V.int 0]) hq2 _ _ eR;rw[e11,oA];refine⟨Nat.lt_of_lt_of_le (show us7.reverse.length<1000000 by rw[List.length_reverse];omega) (aP (Nat.le_refl 1000000)),?_⟩;rw[hPx];refine⟨_,_,fun b u hb=>?_,rfl⟩;rw[aH (fun z=>by rw[z,hr65] at hb;cases hb)];exact aA hq2 _ _ (sR _ _ hb)
   ·intro σ H6 pv;rw[hPx] at pv;obtain⟨o6',o7',s6,rfl⟩:=pv;show Pv _ _ _;rw[hPv];exact⟨Wn (sx4.trans (s5.trans s6).x) hp0,_,_,_,_,_,_,_,rfl⟩
  ·intro σ H1 pv;rw[hPv] at pv;obtain⟨s1,o1,o2,o3,o4,o5,o6,o7,rfl⟩:=pv;show k _ _;subst hk;exact q _
end
theorem all_mk {l:PySem.W.OpenLaw}{w:World}{K:PySem.W.Frag}{h:Heap}{mg:Str->Option Value}{fa:Addr}{f1:Addr}{od1 an1:Option Addr}{sl1:Array (Option Value)}{oc1 kV1 dc1 pm1 cd1 ct1:Value}{f2:Addr}{od2 an2:Option Addr}{sl2:Array (Option Value)}{oc2 kV2 dc2 pm2 cd2 ct2:Value}{f3:Addr}{od3 an3:Option Addr}{sl3:Array (Option Value)}{oc3 kV3 dc3 pm3 cd3 ct3:Value}{f4:Addr}{od4 an4:Option Addr}{sl4:Array (Option Value)}{oc4 kV4 dc4 pm4 cd4 ct4:Value}{f5:Addr}{od5 an5:Option Addr}{sl5:Array (Option Value)}{oc5 kV5 dc5 pm5 cd5 ct5:Value}{f6:Addr}{od6 an6:Option Addr}{sl6:Array (Option Value)}{oc6 kV6 dc6 pm6 cd6 ct6:Value}{f7:Addr}{od7 an7:Option Addr}{sl7:Array (Option Value)}{oc7 kV7 dc7 pm7 cd7 ct7:Value}{f8:Addr}{od8 an8:Option Addr}{sl8:Array (Option Value)}{oc8 kV8 dc8 pm8 cd8 ct8:Value}{f9:Addr}{od9 an9:Option Addr}{sl9:Array (Option Value)}{oc9 kV9 dc9 pm9 cd9 ct9:Value}{f10:Addr}{od10 an10:Option Addr}{sl10:Array (Option Value)}{oc10 kV10 dc10 pm10 cd10 ct10:Value}{f11:Addr}{od11 an11:Option Addr}{sl11:Array (Option Value)}{oc11 kV11 dc11 pm11 cd11 ct11:Value}{f12:Addr}{od12 an12:Option Addr}{sl12:Array (Option Value)}{oc12 kV12 dc12 pm12 cd12 ct12:Value}{f13:Addr}{od13 an13:Option Addr}{sl13:Array (Option Value)}{oc13 kV13 dc13 pm13 cd13 ct13:Value}{f14:Addr}{od14 an14:Option Addr}{sl14:Array (Option Value)}{oc14 kV14 dc14 pm14 cd14 ct14:Value}{f15:Addr}{od15 an15:Option Addr}{sl15:Array (Option Value)}{oc15 kV15 dc15 pm15 cd15 ct15:Value}{f16:Addr}{od16 an16:Option Addr}{sl16:Array (Option Value)}{oc16 kV16 dc16 pm16 cd16 ct16:Value}{f17:Addr}{od17 an17:Option Addr}{sl17:Array (Option Value)}{oc17 kV17 dc17 pm17 cd17 ct17:Value}{f18:Addr}{od18 an18:Option Addr}{sl18:Array (Option Value)}{oc18 kV18 dc18 pm18 cd18 ct18:Value}{f19:Addr}{od19 an19:Option Addr}{sl19:Array (Option Value)}{oc19 kV19 dc19 pm19 cd19 ct19:Value}{f20:Addr}{od20 an20:Option Addr}{sl20:Array (Option Value)}{oc20 kV20 dc20 pm20 cd20 ct20:Value}{f21:Addr}{od21 an21:Option Addr}{sl21:Array (Option Value)}{oc21 kV21 dc21 pm21 cd21 ct21:Value}{f22:Addr}{od22 an22:Option Addr}{sl22:Array (Option Value)}{oc22 kV22 dc22 pm22 cd22 ct22:Value}{f23:Addr}{od23 an23:Option Addr}{sl23:Array (Option Value)}{oc23 kV23 dc23 pm23 cd23 ct23:Value}{f24:Addr}{od24 an24:Option Addr}{sl24:Array (Option Value)}{oc24 kV24 dc24 pm24 cd24 ct24:Value}{f25:Addr}{od25 an25:Option Addr}{sl25:Array (Option Value)}{oc25 kV25 dc25 pm25 cd25 ct25:Value}{f26:Addr}{od26 an26:Option Addr}{sl26:Array (Option Value)}{oc26 kV26 dc26 pm26 cd26 ct26:Value}{f27:Addr}{od27 an27:Option Addr}{sl27:Array (Option Value)}{oc27 kV27 dc27 pm27 cd27 ct27:Value}{f28:Addr}{od28 an28:Option Addr}{sl28:Array (Option Value)}{oc28 kV28 dc28 pm28 cd28 ct28:Value}{f29:Addr}{od29 an29:Option Addr}{sl29:Array (Option Value)}{oc29 kV29 dc29 pm29 cd29 ct29:Value}{f30:Addr}{od30 an30:Option Addr}{sl30:Array (Option Value)}{oc30 kV30 dc30 pm30 cd30 ct30:Value}{f31:Addr}{od31 an31:Option Addr}{sl31:Array (Option Value)}{oc31 kV31 dc31 pm31 cd31 ct31:Value}{f32:Addr}{od32 an32:Option Addr}{sl32:Array (Option Value)}{oc32 kV32 dc32 pm32 cd32 ct32:Value}{f33:Addr}{od33 an33:Option Addr}{sl33:Array (Option Value)}{oc33 kV33 dc33 pm33 cd33 ct33:Value}{f34:Addr}{od34 an34:Option Addr}{sl34:Array (Option Value)}{oc34 kV34 dc34 pm34 cd34 ct34:Value}{f35:Addr}{od35 an35:Option Addr}{sl35:Array (Option Value)}{oc35 kV35 dc35 pm35 cd35 ct35:Value}(X:K.In h) (G:h.Ns mainGlobals mg) (hfa:mg "law" = some (.ref fa))
  (d1:DA K "is_number" jl f1 od1 an1 sl1 oc1 kV1 dc1 pm1 cd1 ct1)
  (d2:DA K "least_of" pC f2 od2 an2 sl2 oc2 kV2 dc2 pm2 cd2 ct2)
  (d3:DA K "most_of" ug f3 od3 an3 sl3 oc3 kV3 dc3 pm3 cd3 ct3)
  (d4:DA K "pattern_of" kh f4 od4 an4 sl4 oc4 kV4 dc4 pm4 cd4 ct4)
  (d5:DA K "number_of" jk f5 od5 an5 sl5 oc5 kV5 dc5 pm5 cd5 ct5)
  (d6:DA K "joined" jW f6 od6 an6 sl6 oc6 kV6 dc6 pm6 cd6 ct6)
  (d7:DA K "bits_spans" bR f7 od7 an7 sl7 oc7 kV7 dc7 pm7 cd7 ct7)
  (d8:DA K "item_spans" gP f8 od8 an8 sl8 oc8 kV8 dc8 pm8 cd8 ct8)
  (d9:DA K "case_spans" dW f9 od9 an9 sl9 oc9 kV9 dc9 pm9 cd9 ct9)
  (d10:DA K "least_shared" cZ f10 od10 an10 sl10 oc10 kV10 dc10 pm10 cd10 ct10)
  (d11:DA K "picks" rQ f11 od11 an11 sl11 oc11 kV11 dc11 pm11 cd11 ct11)
  (d12:DA K "case_picks" jm f12 od12 an12 sl12 oc12 kV12 dc12 pm12 cd12 ct12)
  (d13:DA K "clash_of" eF f13 od13 an13 sl13 oc13 kV13 dc13 pm13 cd13 ct13)
  (d14:DA K "with_the_rest" cF f14 od14 an14 sl14 oc14 kV14 dc14 pm14 cd14 ct14)
  (d15:DA K "stretches_of" aR f15 od15 an15 sl15 oc15 kV15 dc15 pm15 cd15 ct15)
  (d16:DA K "is_stretch" cW f16 od16 an16 sl16 oc16 kV16 dc16 pm16 cd16 ct16)
  (d17:DA K "is_stretches" cJ f17 od17 an17 sl17 oc17 kV17 dc17 pm17 cd17 ct17)
  (d18:DA K "_law_cell_at" mU f18 od18 an18 sl18 oc18 kV18 dc18 pm18 cd18 ct18)
  (d19:DA K "_law_tape" nG f19 od19 an19 sl19 oc19 kV19 dc19 pm19 cd19 ct19)
  (d20:DA K "_law_take" nH f20 od20 an20 sl20 oc20 kV20 dc20 pm20 cd20 ct20)
  (d21:DA K "_law_kind" rP f21 od21 an21 sl21 oc21 kV21 dc21 pm21 cd21 ct21)
  (d22:DA K "_law_least" uf f22 od22 an22 sl22 oc22 kV22 dc22 pm22 cd22 ct22)
  (d23:DA K "_law_picks" qP f23 od23 an23 sl23 oc23 kV23 dc23 pm23 cd23 ct23)
  (d24:DA K "_law_label" fX f24 od24 an24 sl24 oc24 kV24 dc24 pm24 cd24 ct24)
  (d25:DA K "_law_number" dM f25 od25 an25 sl25 oc25 kV25 dc25 pm25 cd25 ct25)
  (d26:DA K "_law_mask" j9 f26 od26 an26 sl26 oc26 kV26 dc26 pm26 cd26 ct26)
  (d27:DA K "_law_item" fL f27 od27 an27 sl27 oc27 kV27 dc27 pm27 cd27 ct27)
  (d28:DA K "_law_wild_choice" aW f28 od28 an28 sl28 oc28 kV28 dc28 pm28 cd28 ct28)
  (d29:DA K "_law_free" pA f29 od29 an29 sl29 oc29 kV29 dc29 pm29 cd29 ct29)
  (d30:DA K "_law_bits_borders" aV f30 od30 an30 sl30 oc30 kV30 dc30 pm30 cd30 ct30)
  (d31:DA K "_law_borders" bW f31 od31 an31 sl31 oc31 kV31 dc31 pm31 cd31 ct31)
  (d32:DA K "_law_choice" cu f32 od32 an32 sl32 oc32 kV32 dc32 pm32 cd32 ct32)
  (d33:DA K "_law_stretches_of" bK f33 od33 an33 sl33 oc33 kV33 dc33 pm33 cd33 ct33)
  (d34:DA K "_law_same" gO f34 od34 an34 sl34 oc34 kV34 dc34 pm34 cd34 ct34)
  (d35:DA K "law" jV f35 od35 an35 sl35 oc35 kV35 dc35 pm35 cd35 ct35)
  (z1:nsIn K mainGlobals "abs" = some none)
  (z2:nsIn K mainGlobals "all" = some none)
  (z3:nsIn K mainGlobals "any" = some none)
  (z4:nsIn K mainGlobals "bool" = some none)
  (z5:nsIn K mainGlobals "enumerate" = some none)
  (z6:nsIn K mainGlobals "int" = some none)
  (z7:nsIn K mainGlobals "isinstance" = some none)
  (z8:nsIn K mainGlobals "len" = some none)
  (z9:nsIn K mainGlobals "list" = some none)
  (z10:nsIn K mainGlobals "max" = some none)
  (z11:nsIn K mainGlobals "min" = some none)
  (z12:nsIn K mainGlobals "range" = some none)
  (z13:nsIn K mainGlobals "repr" = some none)
  (z14:nsIn K mainGlobals "set" = some none)
  (z15:nsIn K mainGlobals "sorted" = some none)
  (z16:nsIn K mainGlobals "str" = some none)
  (z17:nsIn K mainGlobals "sum" = some none)
  (z18:nsIn K mainGlobals "tuple" = some none)
  (z19:nsIn K mainGlobals "zip" = some none) :
  ∃fd:FuncData,(∀(s:Shared)(v:Value),BindsTo s fd ⟨[v],[]⟩ [("_law_script",v)])/\∀base:Heap,K.In base->base.Ns mainGlobals mg->dm l.prog w K mg base CX0 63 fa fd ["_law_script"] (Km K):=by
 have e:=hfa.symm.trans (mg_of X G d35.a);cases e;have DIsNumber:=d1.d ["thing"] X G fun _ _ _ _ _ _ us hl=>by obtain⟨z0,rfl⟩:=ln1 hl;rfl
 have DLeastOf:=d2.d ["width","sign"] X G fun _ _ _ _ _ _ us hl=>by obtain⟨z0,z1,rfl⟩:=ln2 hl;rfl
 have DMostOf:=d3.d ["width","sign"] X G fun _ _ _ _ _ _ us hl=>by obtain⟨z0,z1,rfl⟩:=ln2 hl;rfl
 have DPatternOf:=d4.d ["number","width"] X G fun _ _ _ _ _ _ us hl=>by obtain⟨z0,z1,rfl⟩:=ln2 hl;rfl
 have DNumberOf:=d5.d ["pattern","width","sign"] X G fun _ _ _ _ _ _ us hl=>by obtain⟨z0,z1,z2,rfl⟩:=ln3 hl;rfl
 have DJoined:=d6.d ["spans"] X G fun _ _ _ _ _ _ us hl=>by obtain⟨z0,rfl⟩:=ln1 hl;rfl
 have DBitsSpans:=d7.d ["width","sign","mask","value"] X G fun _ _ _ _ _ _ us hl=>by obtain⟨z0,z1,z2,z3,rfl⟩:=ln4 hl;rfl
 have DItemSpans:=d8.d ["width","sign","item"] X G fun _ _ _ _ _ _ us hl=>by obtain⟨z0,z1,z2,rfl⟩:=ln3 hl;rfl
 have DCaseSpans:=d9.d ["width","sign","items"] X G fun _ _ _ _ _ _ us hl=>by obtain⟨z0,z1,z2,rfl⟩:=ln3 hl;rfl
 have DLeastShared:=d10.d ["rows"] X G fun _ _ _ _ _ _ us hl=>by obtain⟨z0,rfl⟩:=ln1 hl;rfl
 have DPicks:=d11.d ["width","item","number"] X G fun _ _ _ _ _ _ us hl=>by obtain⟨z0,z1,z2,rfl⟩:=ln3 hl;rfl
 have DCasePicks:=d12.d ["width","items","number"] X G fun _ _ _ _ _ _ us hl=>by obtain⟨z0,z1,z2,rfl⟩:=ln3 hl;rfl
 have DClashOf:=d13.d ["choice"] X G fun _ _ _ _ _ _ us hl=>by obtain⟨z0,rfl⟩:=ln1 hl;rfl
 have DWithTheRest:=d14.d ["taken","least","most","rest"] X G fun _ _ _ _ _ _ us hl=>by obtain⟨z0,z1,z2,z3,rfl⟩:=ln4 hl;rfl
 have DStretchesOf:=d15.d ["choice"] X G fun _ _ _ _ _ _ us hl=>by obtain⟨z0,rfl⟩:=ln1 hl;rfl
 have DIsStretch:=d16.d ["thing"] X G fun _ _ _ _ _ _ us hl=>by obtain⟨z0,rfl⟩:=ln1 hl;rfl
 have DIsStretches:=d17.d ["thing"] X G fun _ _ _ _ _ _ us hl=>by obtain⟨z0,rfl⟩:=ln1 hl;rfl
 have DZCellAt:=d18.d ["_law_script","_law_k"] X G fun _ _ _ _ _ _ us hl=>by obtain⟨z0,z1,rfl⟩:=ln2 hl;rfl
 have DZTape:=d19.d ["_law_script","_law_k"] X G fun _ _ _ _ _ _ us hl=>by obtain⟨z0,z1,rfl⟩:=ln2 hl;rfl
 have DZTake:=d20.d ["_law_tape_here","_law_many"] X G fun _ _ _ _ _ _ us hl=>by obtain⟨z0,z1,rfl⟩:=ln2 hl;rfl
 have DZKind:=d21.d ["_law_tape_here"] X G fun _ _ _ _ _ _ us hl=>by obtain⟨z0,rfl⟩:=ln1 hl;rfl
 have DZLeast:=d22.d ["_law_width","_law_sign"] X G fun _ _ _ _ _ _ us hl=>by obtain⟨z0,z1,rfl⟩:=ln2 hl;rfl
 have DZPicks:=d23.d ["_law_width","_law_item_here","_law_number_here"] X G fun _ _ _ _ _ _ us hl=>by obtain⟨z0,z1,z2,rfl⟩:=ln3 hl;rfl
 have DZLabel:=d24.d ["_law_choice_here","_law_number_here"] X G fun _ _ _ _ _ _ us hl=>by obtain⟨z0,z1,rfl⟩:=ln2 hl;rfl
 have DZNumber:=d25.d ["_law_tape_here","_law_width","_law_sign","_law_other"] X G fun _ _ _ _ _ _ us hl=>by obtain⟨z0,z1,z2,z3,rfl⟩:=ln4 hl;rfl
 have DZMask:=d26.d ["_law_tape_here","_law_width"] X G fun _ _ _ _ _ _ us hl=>by obtain⟨z0,z1,rfl⟩:=ln2 hl;rfl
 have DZItem:=d27.d ["_law_tape_here","_law_width","_law_sign","_law_other"] X G fun _ _ _ _ _ _ us hl=>by obtain⟨z0,z1,z2,z3,rfl⟩:=ln4 hl;rfl
 have DZWildChoice:=d28.d ["_law_tape_here"] X G fun _ _ _ _ _ _ us hl=>by obtain⟨z0,rfl⟩:=ln1 hl;rfl
 have DZFree:=d29.d ["_law_width","_law_mask_here"] X G fun _ _ _ _ _ _ us hl=>by obtain⟨z0,z1,rfl⟩:=ln2 hl;rfl
 have DZBitsBorders:=d30.d ["_law_width","_law_sign","_law_mask_here","_law_value"] X G fun _ _ _ _ _ _ us hl=>by obtain⟨z0,z1,z2,z3,rfl⟩:=ln4 hl;rfl
 have DZBorders:=d31.d ["_law_choice_here"] X G fun _ _ _ _ _ _ us hl=>by obtain⟨z0,rfl⟩:=ln1 hl;rfl
 have DZChoice:=d32.d ["_law_tape_here"] X G fun _ _ _ _ _ _ us hl=>by obtain⟨z0,rfl⟩:=ln1 hl;rfl
 have DZStretchesOf:=d33.d ["_law_choice_here"] X G fun _ _ _ _ _ _ us hl=>by obtain⟨z0,rfl⟩:=ln1 hl;rfl
 have DZSame:=d34.d ["_law_found","_law_due"] X G fun _ _ _ _ _ _ us hl=>by obtain⟨z0,z1,rfl⟩:=ln2 hl;rfl
 have DLaw:=d35.d ["_law_script"] X G fun _ _ _ _ _ _ us hl=>by obtain⟨z0,rfl⟩:=ln1 hl;rfl
 have hB:∀x:Str,x∈BLs->mg x=none:=by
  intro x hx;replace hx:x∈(["abs","all","any","bool","enumerate","int","isinstance","len","list","max","min","range","repr","set","sorted","str","sum","tuple","zip"]:List Str):=hx;simp only[mem_cons,not_mem_nil,or_false] at hx;rcases hx with rfl|rfl|rfl|rfl|rfl|rfl|rfl|rfl|rfl|rfl|rfl|rfl|rfl|rfl|rfl|rfl|rfl|rfl|rfl
  ·exact mg_none_of X G z1
  ·exact mg_none_of X G z2
  ·exact mg_none_of X G z3
  ·exact mg_none_of X G z4
  ·exact mg_none_of X G z5
  ·exact mg_none_of X G z6
  ·exact mg_none_of X G z7
  ·exact mg_none_of X G z8
  ·exact mg_none_of X G z9
  ·exact mg_none_of X G z10
  ·exact mg_none_of X G z11
  ·exact mg_none_of X G z12
  ·exact mg_none_of X G z13
  ·exact mg_none_of X G z14
  ·exact mg_none_of X G z15
  ·exact mg_none_of X G z16
  ·exact mg_none_of X G z17
  ·exact mg_none_of X G z18
  ·exact mg_none_of X G z19
 refine⟨fnOf "law" "law" (iZ jV) (fZ jV) (aj jV) .none kV35 dc35 pm35 an35 cd35 ct35,fun s v=>.of_eq rfl,fun base kb nb=>?_⟩;have CCell:=DZCellAt.cal (XF (P:=l.prog) (w:=w) (base:=base) hB DZCellAt.fn);have CTape:=DZTape.cal (Xw hB CCell DZTape.fn);have CTake0:=DZTake.cal (Mp (P:=l.prog) (w:=w) (mg:=mg) (base:=base));have CTake1:=DZTake.cal (KZ (n:=0) hB δ CTake0 DZTake.fn);have CTake2:=DZTake.cal (KZ (n:=1) hB δ CTake1 DZTake.fn);have CSame0:=DZSame.cal (same_none (P:=l.prog) (w:=w) (mg:=mg) (base:=base));have CSame1:=DZSame.cal (xG (n:=0) hB CSame0 DZSame.fn);have CSame2:=DZSame.cal (xG (n:=1) hB CSame1 DZSame.fn);have CSame3:=DZSame.cal (xG (n:=2) hB CSame2 DZSame.fn);have CSame:=DZSame.cal (xG (n:=3) hB CSame3 DZSame.fn);have CKind:=DZKind.cal (Xy hB CTake2 DZKind.fn);have CLeast:=DZLeast.cal (Sy (P:=l.prog) (w:=w) (mg:=mg) (base:=base) DZLeast.fn);have CNum:=DZNumber.cal (aaU hB CTake2 CLeast DZNumber.fn);have CMask:=DZMask.cal (K1 hB CTake2 DZMask.fn);have CItem:=DZItem.cal (Xz hB CTake2 CNum CMask DZItem.fn);have CWild:=DZWildChoice.cal (Xv hB CTake2 CKind CLeast CItem DZWildChoice.fn);have CFree:=DZFree.cal (XD (P:=l.prog) (w:=w) (base:=base) hB DZFree.fn);have CBB:=DZBitsBorders.cal (acg hB CFree DZBitsBorders.fn);have CPat:=DPatternOf.cal (Jh (P:=l.prog) (w:=w) (mg:=mg) (base:=base) DPatternOf.fn);have CPicks:=DPicks.cal (Sv hB CPat DPicks.fn);have CCase:=DCasePicks.cal (SX hB CPicks DCasePicks.fn);have CLP:=DZPicks.cal (Nh (P:=l.prog) (w:=w) (base:=base) hB DZPicks.fn);have CBord:=DZBorders.cal (Ji hB CLeast CBB DZBorders.fn);have CLow:=DLeastOf.cal (Ni (P:=l.prog) (w:=w) (mg:=mg) (base:=base) DLeastOf.fn);have CMost:=DMostOf.cal (Sx (P:=l.prog) (w:=w) (mg:=mg) (base:=base) DMostOf.fn);have CNumOf:=DNumberOf.cal (Sw hB CMost DNumberOf.fn);have CJoin:=DJoined.cal (Nj (P:=l.prog) (w:=w) (base:=base) hB DJoined.fn);have CBSp:=DBitsSpans.cal (aaZ hB CLow CMost CNumOf DBitsSpans.fn);have CISp:=DItemSpans.cal (aaX hB CBSp DItemSpans.fn);have CCSp:=DCaseSpans.cal (aaY hB CISp CJoin DCaseSpans.fn);have CLSh:=DLeastShared.cal (aaV (P:=l.prog) (w:=w) (base:=base) hB DLeastShared.fn);have CClash:=DClashOf.cal (SQ hB CLSh CCSp CCase DClashOf.fn);have CCh:=DZChoice.cal (Nk hB CLP CBord CWild DZChoice.fn);have CLab:=DZLabel.cal (SJ hB CLP DZLabel.fn);have CWTR:=DWithTheRest.cal (aaT (P:=l.prog) (w:=w) (base:=base) hB DWithTheRest.fn);have CStr:=DStretchesOf.cal (Ss hB CClash CCSp CLow CMost CWTR DStretchesOf.fn);have CIsN:=DIsNumber.cal (SN (P:=l.prog) (w:=w) (base:=base) hB DIsNumber.fn);have CIs1:=DIsStretch.cal (XC hB CIsN DIsStretch.fn);have CIsS:=DIsStretches.cal (SM hB CIs1 DIsStretches.fn);have CLStr:=DZStretchesOf.cal (Xx hB CLeast CBord CLab DZStretchesOf.fn);exact aaW hB CStr CIsS CTape CCh CLStr CSame DLaw.fn
theorem walk {l:PySem.W.OpenLaw}{q:Program}{loose:List Str}{XP:(Str->Option Value)->Heap->Prop}{YP:World->Heap->Prop}{d:DefRec}{K:Params->PySem.W.Frag}(hn:l.most=some 63)(hdf:d.params.defaults=[])
  (hY:∀(w:World)(h:Heap),YP w h->(K w.params).In h)
  (F:∀(w:World)(mg:Str->Option Value)(fa:Addr)(h:Heap),(K w.params).In h->h.Ns mainGlobals mg->mg d.name=some (.ref fa) ->
   ∃fd:FuncData,(∀(s:Shared)(u:Value),BindsTo s fd ⟨[u],[]⟩ [("_law_script",u)])/\∀base:Heap,(K w.params).In base->base.Ns mainGlobals mg->dm l.prog w (K w.params) mg base CX0 63 fa fd ["_law_script"] (Km (K w.params))) :
  PySem.W.WalkO q loose XP YP l.row.toRowW d [] (fun f vs=>PySem.call f vs):=
 L2.V3 (n:=63) (k:=63) (x := "_law_script") (CX:=fun _=>CX0) (sp:=fun w=>Km (K w.params)) hn δ hdf ⟨rfl,δ,δ,rfl⟩ hY F (fun _ _ a ns hl _ hS=>⟨a,ns,rfl,hS,hl,fun _=>rfl⟩) fun _ _ _ _ _ z=>z
end K08
namespace PySem.W.Fast
theorem tw10265481281766175274:True:=⟨⟩
theorem tw10300647805093639006:True:=⟨⟩
theorem tw10310058089755383063:True:=⟨⟩
theorem tw10604577876141253579:True:=⟨⟩
theorem tw10968462332658923433:True:=⟨⟩
theorem tw11090994509305031005:True:=⟨⟩
theorem tw11121972005585043595:True:=⟨⟩
theorem tw11672341142230354586:True:=⟨⟩
theorem tw11748221729373582974:True:=⟨⟩
theorem tw12028088072234815136:True:=⟨⟩
theorem tw12155747715831959885:True:=⟨⟩
theorem tw12196257119817798418:True:=⟨⟩
theorem tw12635442383981244887:True:=⟨⟩
theorem tw12902696141212828846:True:=⟨⟩
theorem tw13104683616438656049:True:=⟨⟩
theorem tw13397936827207134629:True:=⟨⟩
theorem tw13758758020920558306:True:=⟨⟩
theorem tw14010798690147716527:True:=⟨⟩
theorem tw1419853512737611151:True:=⟨⟩
theorem tw14372186885696089361:True:=⟨⟩
theorem tw14497142681093986168:True:=⟨⟩
theorem tw14588631434446768726:True:=⟨⟩
theorem tw14678128425083648864:True:=⟨⟩
theorem tw14754924463324868287:True:=⟨⟩
theorem tw15079356933681401527:True:=⟨⟩
theorem tw1510321440320264881:True:=⟨⟩
theorem tw15259876761282624821:True:=⟨⟩
theorem tw15344967869791728483:True:=⟨⟩
theorem tw15649180768205096070:True:=⟨⟩
theorem tw15867596999395938880:True:=⟨⟩
theorem tw16057229334414907895:True:=⟨⟩
theorem tw1667434451387152149:True:=⟨⟩
theorem tw16714606497261409861:True:=⟨⟩
theorem tw1680766934576123725:True:=⟨⟩
theorem tw16984773301143950929:True:=⟨⟩
theorem tw17070691802114409628:True:=⟨⟩
theorem tw17076402125252878332:True:=⟨⟩
theorem tw17575003619118114942:True:=⟨⟩
theorem tw17824709939763131404:True:=⟨⟩
theorem tw18112116583048282418:True:=⟨⟩
theorem tw18257875996519180364:True:=⟨⟩
theorem tw18275745643644051046:True:=⟨⟩
theorem tw1946337909313183844:True:=⟨⟩
theorem tw232334857298834711:True:=⟨⟩
theorem tw2447768488196795302:True:=⟨⟩
theorem tw271581836478799948:True:=⟨⟩
theorem tw2841409029122741214:True:=⟨⟩
theorem tw2876666884030448718:True:=⟨⟩
theorem tw2902519067555291353:True:=⟨⟩
theorem tw3087730334640758894:True:=⟨⟩
theorem tw3141797747018681096:True:=⟨⟩
theorem tw3256571518236243396:True:=⟨⟩
theorem tw3622486132136955255:True:=⟨⟩
theorem tw3646071303652718756:True:=⟨⟩
theorem tw3768369874821765462:True:=⟨⟩
theorem tw4146799449544100908:True:=⟨⟩
theorem tw4592722729162051200:True:=⟨⟩
theorem tw4702476886492379504:True:=⟨⟩
theorem tw4736209426108998657:True:=⟨⟩
theorem tw4953012585945179116:True:=⟨⟩
theorem tw5027801653965575284:True:=⟨⟩
theorem tw5336092617631635148:True:=⟨⟩
theorem tw5344281754507840379:True:=⟨⟩
theorem tw5923724549442232501:True:=⟨⟩
theorem tw6048807840266107091:True:=⟨⟩
theorem tw6071882228946564809:True:=⟨⟩
theorem tw6192446586272680072:True:=⟨⟩
theorem tw6694381050220764174:True:=⟨⟩
theorem tw6735012284849196676:True:=⟨⟩
theorem tw7045579102388321868:True:=⟨⟩
theorem tw7217996744862391927:True:=⟨⟩
theorem tw728548421605194389:True:=⟨⟩
theorem tw7376677185565448860:True:=⟨⟩
theorem tw7590453371652081471:True:=⟨⟩
theorem tw8128611981767727033:True:=⟨⟩
theorem tw8142613648962437395:True:=⟨⟩
theorem tw824471130816735863:True:=⟨⟩
theorem tw8673197228872043950:True:=⟨⟩
theorem tw8803365951653794488:True:=⟨⟩
theorem tw8817948386353828437:True:=⟨⟩
theorem tw8972711078297920711:True:=⟨⟩
theorem tw9196703318505918386:True:=⟨⟩
theorem tw9704915808896938434:True:=⟨⟩
theorem tw9779302007284083832:True:=⟨⟩
theorem tw984225470645226891:True:=⟨⟩
end PySem.W.Fast
open PySem PySem.W PyProof.Rows
set_option maxRecDepth 100000 in
set_option maxHeartbeats 0 in
theorem PySem.Challenge.cw_caseways_k08_numbers_in_stretches_holds : PySem.Challenge.rw_caseways_k08_numbers_in_stretches.Holds := by
 w_on; o_law; k_head; (case hw=>w_witness2)
 k_fill
 refine K08.walk (l:=PySem.Challenge.rw_caseways_k08_numbers_in_stretches) rfl rfl (fun w h Y=>PySem.W.kIn_of Y) ?F
 case F=>
  intro w mg fa h KX G hmg
  refine' K08.all_mk KX G hmg ⟨?a1,?l1,?c1,?k1⟩ ⟨?a2,?l2,?c2,?k2⟩ ⟨?a3,?l3,?c3,?k3⟩ ⟨?a4,?l4,?c4,?k4⟩ ⟨?a5,?l5,?c5,?k5⟩ ⟨?a6,?l6,?c6,?k6⟩ ⟨?a7,?l7,?c7,?k7⟩ ⟨?a8,?l8,?c8,?k8⟩ ⟨?a9,?l9,?c9,?k9⟩ ⟨?a10,?l10,?c10,?k10⟩ ⟨?a11,?l11,?c11,?k11⟩ ⟨?a12,?l12,?c12,?k12⟩ ⟨?a13,?l13,?c13,?k13⟩ ⟨?a14,?l14,?c14,?k14⟩ ⟨?a15,?l15,?c15,?k15⟩ ⟨?a16,?l16,?c16,?k16⟩ ⟨?a17,?l17,?c17,?k17⟩ ⟨?a18,?l18,?c18,?k18⟩ ⟨?a19,?l19,?c19,?k19⟩ ⟨?a20,?l20,?c20,?k20⟩ ⟨?a21,?l21,?c21,?k21⟩ ⟨?a22,?l22,?c22,?k22⟩ ⟨?a23,?l23,?c23,?k23⟩ ⟨?a24,?l24,?c24,?k24⟩ ⟨?a25,?l25,?c25,?k25⟩ ⟨?a26,?l26,?c26,?k26⟩ ⟨?a27,?l27,?c27,?k27⟩ ⟨?a28,?l28,?c28,?k28⟩ ⟨?a29,?l29,?c29,?k29⟩ ⟨?a30,?l30,?c30,?k30⟩ ⟨?a31,?l31,?c31,?k31⟩ ⟨?a32,?l32,?c32,?k32⟩ ⟨?a33,?l33,?c33,?k33⟩ ⟨?a34,?l34,?c34,?k34⟩ ⟨?a35,?l35,?c35,?k35⟩ ?z1 ?z2 ?z3 ?z4 ?z5 ?z6 ?z7 ?z8 ?z9 ?z10 ?z11 ?z12 ?z13 ?z14 ?z15 ?z16 ?z17 ?z18 ?z19
  case a1|l1|c1|k1|a2|l2|c2|k2|a3|l3|c3|k3|a4|l4|c4|k4|a5|l5|c5|k5|a6|l6|c6|k6|a7|l7|c7|k7|a8|l8|c8|k8|a9|l9|c9|k9|a10|l10|c10|k10|a11|l11|c11|k11|a12|l12|c12|k12|a13|l13|c13|k13|a14|l14|c14|k14|a15|l15|c15|k15|a16|l16|c16|k16|a17|l17|c17|k17|a18|l18|c18|k18|a19|l19|c19|k19|a20|l20|c20|k20|a21|l21|c21|k21|a22|l22|c22|k22|a23|l23|c23|k23|a24|l24|c24|k24|a25|l25|c25|k25|a26|l26|c26|k26|a27|l27|c27|k27|a28|l28|c28|k28|a29|l29|c29|k29|a30|l30|c30|k30|a31|l31|c31|k31|a32|l32|c32|k32|a33|l33|c33|k33|a34|l34|c34|k34|a35|l35|c35|k35|z1|z2|z3|z4|z5|z6|z7|z8|z9|z10|z11|z12|z13|z14|z15|z16|z17|z18|z19=>k_is
#print axioms PySem.Challenge.cw_caseways_k08_numbers_in_stretches_holds
