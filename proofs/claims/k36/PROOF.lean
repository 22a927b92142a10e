import PyProof.Rows.All
import Wide.All
import OpenK.AllK
import Wide.FinOn
import Lean
import PyProof.EqAt
import PyProof.EqKinds
import PyProof.TupleCall
import PyProof.NeData
import PySem.Challenge.RW_caseways_k36_least_room_of_all
local macro_rules | `(tactic| omega) => `(tactic| first | with_reducible assumption | lia | omega +splitDisjunctions)
set_option Elab.async false
set_option linter.all false
set_option maxRecDepth 100000
theorem ω {p : Prop}(h : p := by omega) : p := h
theorem δ {p : Prop}(h : p := by decide) : p := h
theorem ψ {p : Prop}(h : p := by decide +kernel) : p := h
open List (all_append all_cons all_map all_nil ext_getElem flatMap_nil flatten_cons foldl_cons forIn_nil mem_range of_mem_zip set_comm sum_cons take_zero)
open Option (getD_none map_some)
open PySem.W (fnOf kitOne mg_of nsIn)
open Array (toList_push)
open Nat (le_of_eq le_succ lt_trans mod_lt mul_le_mul mul_one ne_of_gt succ_mul)
open Int (lt_or_le mul_zero zero_add)
open PySem renaming Value → An, wpAny_bind → Ap, wpAny_pure → Au, Shared → AC, wpAny → AG, starEach → AH, Builtin → AI, mainGlobals → AJ, sizeLine → AL, SetTable → AO, Program → AV, wpAny_ite_false → AY, model → A0, PyData → A3, World → A6, Around → A7, wpAny_holding → BE, wpAny_newObj_type → BG, boot_len → BH, wpAny_callSpecial?_slot → B5, wpAny_ite_true → B7, wpAny_call_entry → Cc, compareOp → Cn, backTo → Ct, FuncData → CA, attributeBase → CD, wpAny_field → CL, wpAny_seqItems → CM, wpAny_setField_rec → CO, wpAny_typeOf → CY, mem_of_lookup → C1, codeAny_builtin → C5, sysModules → C6, wpAny_of_eq → C9, NameKind → Dx, assignEach → DA, bootBuiltins → DC, wpAny_attempt → DE, IsPair → DI, holding → DJ, wpAny_pyIter_list → DL, Keyword → DM, wpAny_mono → DV, call_meets → DZ, binaryOp → D1, wpAny_isInstance → D5, wpAny_rule → D8, wpAny_truthy_bool → Ex, keywordEach → EF, pyNext → ES, wpAny_Call_Name_kw → ET, wpAny_Call_method_late → EV, wpAny_pyIter_tuple → EW, wpAny_passesOwn → E5, swapsWithSole → E8, foldedSetIterable → E9, cLine → Ff, wpAny_newTuple → Fu, codeAny → FC, wpAny_askSetting → FE, rawInt → FH, scanBound → FU, backToKw → F0, intKind → F6, swappedStores → F7, behindInMarks → F8, bindName → Go, sliceBounds → GA, ZipApart → GB, Scope → GM, pickOrder → GU, assign → GV, wpAny_bindName → GW, sub_AttributeError → G2, assignInOrder → HH, wpAny_standAt → HK, stored → HL, swapsWith → HP, codeAny_mono → HV, typeLookup → Ic, wpAny_execs_nil → IC, letOwnedTupleGo → IE, am_miss_of_fast → IG, wpAny_loadPart' → IH, sizeLine_eq → IJ, compEnvC → IP, setField → IQ, newTuple → IT, wpAny_fieldsOf → IZ, getItem → JE, plainId_quiet → Kj
open And renaming intro → AA
open PySem.Heap renaming get?_push_of_some → AB, get?_push_size → AQ, lt_size → A4, SameBut → B4, size_push → B8, get?_update_other → Db, get?_update_self → F3
open List renaming getElem?_eq_getElem → AD, length_map → AF, length_append → AK, mem_singleton → AM, getD_eq_getElem?_getD → AN, size_toArray → AR, getElem?_map → AU, getElem?_eq_some_iff → AW, mem_cons_self → AX, mem_of_getElem? → A5, map_append → A9, mem_cons → Bi, length_filter_le → BA, range → BB, replicate → BC, mem_append_right → BI, length_singleton → BM, Nodup → BQ, mem_cons_of_mem → BS, getElem?_append_right → BU, not_mem_nil → B2, length_cons → B6, mem_append → CF, append_nil → CH, mem_iff_getElem → CU, mem_filter → C7, pairwise_cons → DD, getElem?_append_left → DF, mem_map → DT, length_eq_one_iff → DU, map_cons → D2, take_length → D4, length_pos_iff → Ee, length_take → EA, length_drop → EB, append_assoc → EC, lookup_cons → EE, length_range → EG, contains_iff_mem → EK, mem_map_of_mem → EL, eq_nil_of_length_eq_zero → EO, forIn_cons → EU, filter_cons_of_pos → EX, filter_cons_of_neg → EZ, getElem?_cons_succ → E4, take_of_length_le → Fc, length → Fh, length_nil → Fs, getElem?_eq_none → FD, Perm → FG, getElem?_cons_zero → FR, getElem_mem → FS, replicate_succ → FX, filter_eq_nil_iff → F1, getElem?_toArray → F5, set_cons_zero → F9, set_cons_succ → Gc, mem_append_left → GG, mem_of_mem_drop → GH, toArray → GN, flatMap_cons → GS, any_cons → G0, map_congr_left → G1, length_eq_zero_iff → Ha, map_eq_nil_iff → Hc, drop_eq_getElem_cons → Hd, all_eq_true → He, pairwise_lt_range → Hn, nodup_cons → HZ, find?_cons → Ix, count_eq_length → Jn, map_nil → JI, map_map → JJ, filterMap_cons → JO, filter_eq_self → JU, length_take_le → JY
open PySem.W renaming Frag → AE, keepIn → CB, codeIn → CI, kia_one → C4, mg_none_of → De, findIn → GY, stepOk → Hb
open Bool renaming false_ne_true → AZ, and_eq_true → C3, not_false → FA, false_eq_true → FI, not_true → FL, eq_iff_iff → FM, false_and → FV, and_false → FY, true_and → Kk
open Nat renaming le_refl → A1, lt_of_lt_of_le → A8, le_trans → Be, ne_of_lt → B1, lt_succ_of_lt → CC, lt_succ_self → C0, lt_irrefl → C8, two_pow_pos → D0, pow_le_pow_right → D6, zero_le → EI, lt_or_ge → FK, zero_lt_succ → Iq, testBit_lt_two_pow → Iy, le_of_lt → II, sub_self → IU, add_sub_cancel → IX, lt_of_le_of_lt → IY, add_le_add_right → JA, lt_of_sub_pos → Ki
open Option renaming map_eq_some_iff → Bz
open PySem.Str renaming ofString → BD
open PySem.SeqAt renaming EqAt → BF
open Ne renaming symm → BN
open Option.some renaming inj → BO, injEq → Hm
open PyProof.Rows renaming callWith_type1 → B0, pendingOf → EJ, assignInOrder_cons → ER, firstMet → E6, Keyed → E7, IntsAre → Fa, slot_tuple_getitem → F2, SortSt → GI, boot_isinstance → GL, AllBare → HU, IsTup → IB, envOfC → IL
open Int renaming toNat_natCast → B3, toNat → Cf, emod_lt_of_pos → D9, eq_ofNat_of_zero_le → EM, emod_nonneg → Fk, natCast_pow → Fm, add_zero → FB, one_mul → IA
open Sum renaming inl → B9, inr → Da
open PySem.PassesOwn renaming never → Cb
open PySem.Calls renaming spliced_nil → Ch, spliced_cons → Co, callWith_builtin → Cs, evalArgs_plain → DH
open Array renaming getElem?_toList → CS, length_toList → D3
open Or renaming inl → C2
open PySem.Obj renaming mapSeq → DB
open PySem.F renaming plainAttrs_list → DS, slot_tuple_iterator_next → Fn, called_set → FF, slot_zip_next → FO, slot_list_getattribute → HM, slot_zip_getattribute → HQ, args_list_append_2 → IM, entry_list_append → JP
open False renaming elim → D7
open ForInStep renaming yield → Ev
open PySem.Data renaming seq → ED, fields → EN, dict → F4
open True renaming intro → EH
open PySem.Code renaming quiet_builtin → E3, builtin → GO
open PyProof.Rows.F renaming plain_set_update_loop → HR
open PySem.Meets renaming of_wp → IR
open PySem.Paired renaming length → Kb
namespace L2
open PySem PySem.Spec PyProof.Rows
noncomputable abbrev Key:=Sum Int Str
noncomputable def Ag:Key->An->Bool
 | .inl k,v=>An.isInt k v
 | .inr x,v=>An.isStrOf x v
noncomputable def aa0 (w:A6):Key->Int
 | .inl k=>hashInt k
 | .inr x=>hashStr w x
theorem dB:∀{k:Key}{v:An},Ag k v=true->(∃i t,k=B9 i/\v=An.int i t)\/(∃x t,k=Da x/\v=An.str x t)
 | .inl i,v,h=>by
  obtain⟨t,e⟩:=An.isInt_shape (k:=i) (v:=v) h;exact .inl ⟨i,t,rfl,e⟩
 | .inr x,v,h=>by
  obtain⟨t,e⟩:=An.isStrOf_shape (x:=x) (v:=v) h;exact .inr ⟨x,t,rfl,e⟩
theorem MK (i:Int)(t:Tok):Ag (.inl i) (.int i t)=true:=by simp [Ag,An.isInt]
theorem MJ (x:Str)(t:Tok):Ag (.inr x) (.str x t)=true:=by simp [Ag,An.isStrOf]
theorem Zm (a b:Int):decide ((B9 a:Key)=B9 b)=(a == b):=by
 by_cases e:a=b
 ·subst e;simp
 have h:¬(B9 a:Key)=B9 b:=fun q=>e (B9.inj q);rw[decide_eq_false h];exact(beq_eq_false_iff_ne.mpr e).symm
theorem Zi (a b:Str):decide ((Da a:Key)=Da b)=decide (a=b):=by
 by_cases e:a=b
 ·subst e;simp
 have h:¬(Da a:Key)=Da b:=fun q=>e (Da.inj q);rw[decide_eq_false h,decide_eq_false e]
theorem Zk (a:Int)(b:Str):decide ((B9 a:Key)=Da b)=false:=decide_eq_false (fun q=>nomatch q)
theorem Zj (a:Str)(b:Int):decide ((Da a:Key)=B9 b)=false:=decide_eq_false (fun q=>nomatch q)
noncomputable def aR (prog:AV)(w:A6):PySem.KeyKind prog w Key where
 is:=Ag
 hash:=aa0 w
 inj:=fun v a b ha hb=>by
  rcases dB ha with⟨i,t,rfl,rfl⟩|⟨x,t,rfl,rfl⟩
  ·rcases dB hb with⟨j,u,rfl,e⟩|⟨y,u,rfl,e⟩
   ·injection e with e1 _;rw[e1]
   exact nomatch e
  rcases dB hb with⟨j,u,rfl,e⟩|⟨y,u,rfl,e⟩
  ·exact nomatch e
  injection e with e1 _;rw[e1]
 byValue:=fun k v h=>by
  rcases dB h with⟨i,t,rfl,rfl⟩|⟨x,t,rfl,rfl⟩ <;> rfl
 pyHash:=fun hv h=>by
  rcases dB hv with⟨i,t,rfl,rfl⟩|⟨x,t,rfl,rfl⟩
  ·exact wpAny_pyHash_int h
  exact wpAny_pyHash_str h
 eqBool:=fun hu hv h=>by
  rcases dB hu with⟨i,t,rfl,rfl⟩|⟨x,t,rfl,rfl⟩
  ·rcases dB hv with⟨j,u,rfl,rfl⟩|⟨y,u,rfl,rfl⟩
   ·rw[Zm] at h;exact wpAny_eqBool_int h
   rw[Zk] at h;exact BF.int_str i t y u _ _ _ _ h
  rcases dB hv with⟨j,u,rfl,rfl⟩|⟨y,u,rfl,rfl⟩
  ·rw[Zj] at h;exact BF.str_int x t j u _ _ _ _ h
  rw[Zi] at h;exact wpAny_eqBool_str h
 «strs»:=fun k x t v h=>by
  rcases dB h with⟨i,u,rfl,e⟩|⟨y,u,rfl,e⟩
  ·exact nomatch e
  injection e with e1 _;subst e1;cases v <;> rfl
theorem Fo (prog:AV)(w:A6)(i:Int)(t:Tok):(aR prog w).is (.inl i) (.int i t)=true:=MK i t
theorem Fl (prog:AV)(w:A6)(x:Str)(t:Tok):(aR prog w).is (.inr x) (.str x t)=true:=MJ x t
inductive V where
 | non|bl (b:Bool)|int (i:Int)|str (x:Str)|byt (b:Array UInt8)|flt (b:UInt64)|ref (a:Addr)|ty (n:String)
 deriving DecidableEq
noncomputable def RelV:V->An->Prop
 | .non,u=>u=An.none
 | .bl b,u=>u=An.bool b
 | .int i,u=>∃t,u=An.int i t
 | .str x,u=>∃t,u=An.str x t
 | .byt b,u=>∃t,u=An.bytes b t
 | .flt b,u=>∃t,u=An.float b t
 | .ref a,u=>u=An.ref a
 | .ty n,u=>u=An.type n
noncomputable abbrev Vals:List V->List An->Prop:=Paired RelV
theorem Vals.length {xs:List V}{us:List An}(r:Vals xs us):xs.length=us.length:=Kb r
theorem Vals.get:∀{xs:List V}{us:List An}{i:Nat}{x:V},Vals xs us->xs[i]?=some x->∃u,us[i]?=some u/\RelV x u
 | _,_,_,_,.nil,e=>by simp at e
 | _,_,0,_,.cons r _,e=>by simp at e;subst e;exact⟨_,rfl,r⟩
 | _,_,i+1,x,.cons _ t,e=>by
  obtain⟨u,h1,h2⟩:=Vals.get (i:=i) (x:=x) t (by simpa using e);exact⟨u,by simpa using h1,h2⟩
theorem Vals.set {x:V}{u:An}(r:RelV x u):∀{xs:List V}{us:List An}(i:Nat),Vals xs us->Vals (xs.set i x) (us.set i u)
 | _,_,_,.nil=>.nil
 | _,_,0,.cons _ t=>.cons r t
 | _,_,i+1,.cons q t=>.cons q (Vals.set r i t)
theorem Vals.append:∀{xs ys:List V}{us ws:List An},Vals xs us->Vals ys ws->Vals (xs++ys) (us++ws)
 | _,_,_,_,.nil,s=>s
 | _,_,_,_,.cons r t,s=>.cons r (Vals.append t s)
theorem Vals.take:∀{xs:List V}{us:List An}(n:Nat),Vals xs us->Vals (xs.take n) (us.take n)
 | _,_,0,_=>.nil
 | _,_,_+1,.nil=>.nil
 | _,_,n+1,.cons r t=>.cons r (Vals.take n t)
theorem Vals.drop:∀{xs:List V}{us:List An}(n:Nat),Vals xs us->Vals (xs.drop n) (us.drop n)
 | _,_,0,r=>r
 | _,_,_+1,.nil=>.nil
 | _,_,n+1,.cons _ t=>Vals.drop n t
noncomputable def yG:Option V->Option An->Prop
 | some v,some u=>RelV v u
 | none,none=>True
 | _,_=>False
noncomputable def KV {κ:Type}:List (κ×V)->List (κ×An)->Prop:=Paired fun(p:κ×V)(q:κ×An)=>p.1=q.1/\RelV p.2 q.2
noncomputable def kV:Key->V
 | .inl i=>.int i
 | .inr x=>.str x
inductive HO where
 /-- a list -/
 | lst (xs:List V)
 /-- a tuple (never changes) -/
 | tup (xs:List V)
 /-- a dict whose keys are ints and texts;one whose keys are tuples of ints and texts (the empty one is both) -/
 | dK (kvs:List (Key×V))|dT (kvs:List (List Key×V))
 /-- a set of ints: its members,its size -/
 | set (S:Int->Bool) (n:Nat)
 /-- an instance of the class at C,its dict at dx,its attributes -/
 | ins (C dx:Addr) (fs:List (Str×V))
 /-- the dict of the instance at x -/
 | own (x:Addr)
 /-- the dict of an exception -/
 | xd (fs:List (Str×V))
 /-- a bound method,f of x -/
 | met (f x:Addr)
 /-- a range object lo,lo+1,.. below hi -/
 | rng (lo hi:Int)
 /-- a thing that is known to the object (the script;a dict while a loop walks it): read,never written while it is so -/
 | frz (o:Obj) (u:HO)
 /-- a code object's table -/
 | tbl (ps:Array An)
 /-- any other thing,by what is true of its one object (a def of one's own: SetO a S n:=HO.ext fun h=>..) -/
 | ext (φ:Heap->Prop)
noncomputable abbrev Hp:=Addr->Option HO
noncomputable def upd (H:Hp)(a:Addr)(o:HO):Hp:=fun b=>if b=a then some o else H b
theorem aq {H:Hp}{a:Addr}{o:HO}:upd H a o a=some o:=by unfold upd;rw[if_pos rfl]
theorem aM {H:Hp}{a b:Addr}{o:HO}(h:b≠a):upd H a o b=H b:=by unfold upd;rw[if_neg h]
theorem Jz {H:Hp}{a:Addr}{o u:HO}:upd (upd H a o) a u=upd H a u:=by
 funext b;unfold upd;split <;> rfl
theorem aaC {H:Hp}{a b:Addr}{o u:HO}(h:H a=some o)(h':H b=some u)(d:o≠u):a≠b:=by
 intro e;subst e;rw[h] at h';exact d (BO h')
theorem aF {H:Hp}{a b:Addr}{o:HO}(h:H a=some o)(h':H b=none):a≠b:=by
 intro e;subst e;rw[h] at h';cases h'
section
variable (P:AV)(w:A6)
noncomputable def dR (H:Hp)(h:Heap)(a:Addr):HO->Prop
 | .lst xs=>xs.length<=AL/\∃(its:List An)(n:Nat),Vals xs its/\h.get? a=some { cls:=.type "list",data:=.seq its.toArray n }
 | .tup xs=>xs.length<=AL/\∃its:List An,Vals xs its/\IB h a its.toArray
 | .dK kvs=>kvs.length<=AL/\(a == C6)=false/\∃vs,KV kvs vs/\h.DictOf (aR P w) a vs
 | .dT kvs=>kvs.length<=AL/\(a == C6)=false/\∃xs:List (List Key×Addr×An),
   Paired (fun(p:List Key×V)(q:List Key×Addr×An)=>p.1=q.1/\H q.2.1=some (.tup (p.1.map kV))/\RelV p.2 q.2.2) kvs xs /\
   ∃o es ep,h.get? a=some o/\o.ExactDict/\o.data=.dict es ep/\es.toList=xs.map (entryOfKey (tupleKind (aR P w)))/\(xs.map (·.1)).Nodup
 | .set S n=>h.SetOf (F6 P w) a S n
 | .ins C dx fs=>H dx=some (.own a)/\fs.length<=1000/\dx≠a/\h.get? a=some (PySem.W.instObj C dx) /\
   ∃mA,h.Ns1 dx mA/\(∀f,yG (fs.lookup f) (mA f))/\PySem.Within mA (fs.map (·.1))
 | .own _=>∃o,h.get? a=some o
 | .xd fs=>∃mA,h.Ns1 a mA/\∀f,yG (fs.lookup f) (mA f)
 | .rng lo hi=>∃t u v,h.get? a=some { cls:=.type "range",data:=.fields #[.int lo t,.int hi u,.int 1 v] }
 | .frz o u=>h.get? a=some o/\dR H h a u
 | .tbl ps=>h.get? a=some { cls:=.none,data:=.fields ps }
 | .met f x=>h.get? a=some (PySem.W.methodObj (.ref f) (.ref x))
 | .ext φ=>φ h/\(∃o,h.get? a=some o)/\∀h1 h2:Heap,φ h1->(∀o,h1.get? a=some o->h2.get? a=some o)->φ h2
noncomputable def HOk (H:Hp)(h:Heap):Prop:=∀a o,H a=some o->dR P w H h a o
end
section
variable {P:AV}{w:A6}{H H':Hp}{h h':Heap}{a:Addr}{o:HO}
theorem dR.lt (x:dR P w H h a o):a<h.objs.size:=by
 cases o with
 | lst xs=>obtain⟨_,_,_,_,e⟩:=x;exact A4 e
 | tup xs=>obtain⟨_,_,_,p⟩:=x;exact p.lt
 | dK kvs=>obtain⟨_,_,_,_,o,_,_,e,_⟩:=x;exact A4 e
 | dT kvs=>obtain⟨_,_,_,_,o,_,_,e,_⟩:=x;exact A4 e
 | set S n=>obtain⟨o,_,_,_,e,_⟩:=x;exact A4 e
 | ins C dx fs=>obtain⟨_,_,_,e,_⟩:=x;exact A4 e
 | own y=>obtain⟨_,e⟩:=x;exact A4 e
 | xd fs=>obtain⟨_,⟨_,_,_,e,_⟩,_⟩:=x;exact A4 e
 | rng lo hi=>obtain⟨_,_,_,e⟩:=x;exact A4 e
 | frz ob u=>obtain⟨e,_⟩:=x;exact A4 e
 | tbl ps=>exact A4 (show h.get? a=some _ from x)
 | met f y=>exact A4 (show h.get? a=some _ from x)
 | ext φ=>obtain⟨_,⟨_,e⟩,_⟩:=x;exact A4 e
theorem Paired.Zb {α β:Type}{F G:α->β->Prop}:∀{l₁:List α}{l₂:List β},Paired F l₁ l₂->(∀a b,F a b->G a b)->Paired G l₁ l₂
 | _,_,.nil,_=>.nil
 | _,_,.cons r t,f=>.cons (f _ _ r) (Paired.Zb t f)
theorem dR.stay (x:dR P w H h a o)(k:∀b u,(b=a\/H b=some (.own a))->h.get? b=some u->h'.get? b=some u)
  (ho:∀b,H b=some (.own a)->H' b=some (.own a)) (ht:∀b xs,H b=some (.tup xs)->H' b=some (.tup xs)):dR P w H' h' a o:=by
 induction o with
 | lst xs=>obtain⟨z,its,n,r,e⟩:=x;exact⟨z,its,n,r,k _ _ (.inl rfl) e⟩
 | tup xs=>obtain⟨z,its,r,ob,e,c⟩:=x;exact⟨z,its,r,ob,k _ _ (.inl rfl) e,c⟩
 | dK kvs=>obtain⟨z,y,vs,r,ob,es,ep,e,c⟩:=x;exact⟨z,y,vs,r,ob,es,ep,k _ _ (.inl rfl) e,c⟩
 | dT kvs=>
  obtain⟨z,y,xs,r,ob,es,ep,e,c⟩:=x;exact⟨z,y,xs,Paired.Zb r fun p q z=>⟨z.1,ht _ _ z.2.1,z.2.2⟩,ob,es,ep,k _ _ (.inl rfl) e,c⟩
 | set S n=>obtain⟨ob,es,ep,t,e,c⟩:=x;exact⟨ob,es,ep,t,k _ _ (.inl rfl) e,c⟩
 | ins C dx fs=>
  obtain⟨d,z,ne,e,mA,⟨od,es,ep,e2,c⟩,r⟩:=x;exact⟨ho _ d,z,ne,k _ _ (.inl rfl) e,mA,⟨od,es,ep,k _ _ (.inr d) e2,c⟩,r⟩
 | own y=>obtain⟨ob,e⟩:=x;exact⟨ob,k _ _ (.inl rfl) e⟩
 | xd fs=>obtain⟨mA,⟨od,es,ep,e,c⟩,r⟩:=x;exact⟨mA,⟨od,es,ep,k _ _ (.inl rfl) e,c⟩,r⟩
 | rng lo hi=>obtain⟨t,u,v,e⟩:=x;exact⟨t,u,v,k _ _ (.inl rfl) e⟩
 | frz ob u ih=>obtain⟨e,q⟩:=x;exact⟨k _ _ (.inl rfl) e,ih q⟩
 | tbl ps=>
  have e:h.get? a=some { cls:=.none,data:=.fields ps }:=x;show h'.get? a=some { cls:=.none,data:=.fields ps };exact k a _ (.inl rfl) e
 | met f y=>
  have e:h.get? a=some (PySem.W.methodObj (.ref f) (.ref y)):=x;show h'.get? a=some (PySem.W.methodObj (.ref f) (.ref y));exact k a _ (.inl rfl) e
 | ext φ=>obtain⟨p,⟨o,e⟩,st⟩:=x;exact⟨st _ _ p fun o q=>k _ _ (.inl rfl) q,⟨o,k _ _ (.inl rfl) e⟩,st⟩
theorem HOk.lt (x:HOk P w H h)(e:H a=some o):a<h.objs.size:=(x a o e).lt
theorem HOk.fresh (x:HOk P w H h)(e:h.objs.size<=a):H a=none:=by
 cases q:H a with
 | none=>rfl
 | some u=>exact absurd (A8 (x.lt q) e) (C8 _)
theorem HOk.kept (x:HOk P w H h)(k:∀b u,h.get? b=some u->h'.get? b=some u):HOk P w H h':=fun a o e=>
 (x a o e).stay (fun b u _ q=>k b u q) (fun _ q=>q) fun _ _ q=>q
theorem HOk.laid (x:HOk P w H h)(k:∀b u,h.get? b=some u->h'.get? b=some u)(hp:h.objs.size<=a)(new:dR P w (upd H a o) h' a o):HOk P w (upd H a o) h':=fun b u e=>by
 have hn:=x.fresh hp;by_cases hb:b=a
 ·subst hb;rw[aq] at e;cases e;exact new
 rw[aM hb] at e;exact(x b u e).stay (fun c v _ q=>k c v q) (fun c q=>by rw[aM (aF q hn)];exact q) fun c xs q=>by rw[aM (aF q hn)];exact q
end
noncomputable def Rd (H:Hp)(a:Addr)(u:HO):Prop:=H a=some u\/∃o,H a=some (.frz o u)
theorem Rd.ok {P:AV}{w:A6}{H:Hp}{h:Heap}{a:Addr}{u:HO}(r:Rd H a u)(x:HOk P w H h):dR P w H h a u:=by
 rcases r with r|⟨o,r⟩
 ·exact x a u r
 obtain⟨_,q⟩:=x a _ r;exact q
noncomputable def Mut:Option HO->Prop
 | some (.lst _)=>True
 | some (.dK _)=>True
 | some (.dT _)=>True
 | some (.set _ _)=>True
 | some (.ins _ _ _)=>True
 | some (.ext _)=>True
 | _=>False
section
variable {P:AV}{w:A6}{H:Hp}{h h':Heap}{x e:Addr}{o':HO}
theorem HOk.write (ok:HOk P w H h)(mu:Mut (H x))(he:e=x\/H e=some (.own x))(k:∀b u,b≠e->h.get? b=some u->h'.get? b=some u)(heo:∃u,h'.get? e=some u)
  (new:dR P w (upd H x o') h' x o'):HOk P w (upd H x o') h':=fun b u q=>by
 have nown:∀c y,H c=some (.own y)->c≠x:=fun c y r z=>by subst z;rw[r] at mu;exact mu
 have ntup:∀c xs,H c=some (.tup xs)->c≠x:=fun c xs r z=>by subst z;rw[r] at mu;exact mu
 by_cases hb:b=x
 ·subst hb;rw[aq] at q;cases q;exact new
 rw[aM hb] at q;by_cases hbe:b=e
 ·have q':H b=some (.own x):=by
   rcases he with z|z
   ·exact absurd (hbe.trans z) hb
   rw[hbe];exact z
  rw[q] at q';cases q';obtain⟨v,hv⟩:=heo;exact⟨v,by rw[hbe];exact hv⟩
 refine(ok b u q).stay (fun c v hc r=>k c v ?_ r) (fun c r=>by rw[aM (nown c b r)];exact r) fun c xs r=>by rw[aM (ntup c xs r)];exact r
 rcases hc with rfl|hc
 ·exact hbe
 rintro rfl;rcases he with z|z
 ·exact nown c b hc z
 rw[hc] at z;cases z;exact hb rfl
end
structure Un (fs ex:List Addr)(H H':Hp)(h h':Heap):Prop where
 keep:∀b o,h.get? b=some o->H b=none->b∉fs->b∉ex->h'.get? b=some o
 slot:∀b o,h.get? b=some o->H b=none->b∈fs->b∉ex->∃sl,h'.get? b=some { o with slots:=sl }
 free:∀b o,h.get? b=some o->H b=none->b∉ex->H' b=none
 there:∀b o,h.get? b=some o->b∉ex->∃o',h'.get? b=some o'
 tups:∀b xs,H b=some (.tup xs)->H' b=some (.tup xs)
 frzs:∀b o u,H b=some (.frz o u)->H' b=some (.frz o u)
 tbls:∀b ps,H b=some (.tbl ps)->∃more,H' b=some (.tbl (ps++more))
section
variable {fs fs' ex ex':List Addr}{H H1 H2:Hp}{h h1 h2 h':Heap}{a x e:Addr}{o:HO}
theorem Un.any (u:Un fs ex H H1 h h1){b:Addr}{ob:Obj}(q:h.get? b=some ob)(n:H b=none)(hx:b∉ex):∃sl,h1.get? b=some { ob with slots:=sl }:=by
 by_cases hb:b∈fs
 ·exact u.slot b ob q n hb hx
 exact⟨ob.slots,u.keep b ob q n hb hx⟩
theorem Un.kept (k:∀b u,h.get? b=some u->h'.get? b=some u):Un fs ex H H h h':=
 ⟨fun b ob q _ _ _=>k b ob q,fun b ob q _ _ _=>⟨ob.slots,k b ob q⟩,fun _ _ _ n _=>n,fun b ob q _=>⟨ob,k b ob q⟩,fun _ _ q=>q,fun _ _ _ q=>q,fun _ ps q=>⟨#[],by rw[q];simp⟩⟩
theorem Un.refl:Un fs ex H H h h:=Un.kept fun _ _ q=>q
theorem Un.laid (k:∀b u,h.get? b=some u->h'.get? b=some u)(hp:h.objs.size<=a)(hn:H a=none):Un fs ex H (upd H a o) h h' where
 keep:=fun b u q _ _ _=>k b u q
 slot:=fun b u q _ _ _=>⟨u.slots,k b u q⟩
 free:=fun b u q n _=>by rw[aM (B1 (A8 (A4 q) hp))];exact n
 there:=fun b u q _=>⟨u,k b u q⟩
 tups:=fun b xs q=>by rw[aM (aF q hn)];exact q
 frzs:=fun b u xs q=>by rw[aM (aF q hn)];exact q
 tbls:=fun b ps q=>⟨#[],by rw[aM (aF q hn),q];simp⟩
theorem Un.write (mu:Mut (H x))(he:e=x\/H e=some (.own x))(k:∀b u,b≠e->h.get? b=some u->h'.get? b=some u)(heo:∃u,h'.get? e=some u):Un fs ex H (upd H x o) h h':=by
 have hx:∀b,H b=none->b≠x:=fun b n z=>by subst z;rw[n] at mu;exact mu
 have hb:∀b,H b=none->b≠e:=fun b n z=>by
  subst z;rcases he with r|r
  ·exact hx b n r
  rw[n] at r;cases r
 have hm:∀b u,H b=some u->¬Mut (some u)->b≠x:=fun b u q nm z=>by subst z;rw[q] at mu;exact nm mu
 refine⟨fun b u q n _ _=>k b u (hb b n) q,fun b u q n _ _=>⟨u.slots,k b u (hb b n) q⟩,fun b u q n _=>by rw[aM (hx b n)];exact n,fun b u q _=>?_,
  fun b xs q=>by rw[aM (hm b _ q fun z=>z)];exact q,fun b u xs q=>by rw[aM (hm b _ q fun z=>z)];exact q,fun b ps q=>⟨#[],by rw[aM (hm b _ q fun z=>z),q];simp⟩⟩
 by_cases hbe:b=e
 ·subst hbe;exact heo
 exact⟨u,k b u hbe q⟩
end
noncomputable def trk (h:Heap)(H:Hp):List Addr:=(BB h.objs.size).filter fun a=>(H a).isSome
noncomputable def Cy (h:Heap)(H:Hp):Heap:=PySem.W.hideAll h (trk h H)
theorem M6 (h:Heap)(H:Hp):(Cy h H).objs.size=h.objs.size:=PySem.W.hideAll_size _ _
theorem R8 {h:Heap}{H:Hp}{b:Addr}{o:Obj}(e:h.get? b=some o)(n:H b=none):(Cy h H).get? b=some o:=
 PySem.W.hideAll_get _ e fun hm=>by
  have q:(H b).isSome=true:=(C7.mp hm).2;rw[n] at q;simp at q
theorem Wf {h:Heap}{H:Hp}{b:Addr}{o:Obj}(e:(Cy h H).get? b=some o):h.get? b=some o/\H b=none:=by
 have e':h.get? b=some o:=PySem.W.of_hideAll (trk h H) e;refine⟨e',?_⟩;cases q:H b with
 | none=>rfl
 | some x=>
  have hm:b∈trk h H:=C7.mpr ⟨mem_range.mpr (A4 e'),by simp [q]⟩;have z:(Cy h H).get? b=none:=PySem.W.hideAll_none (trk h H) hm;rw[z] at e;cases e
structure Mod (K:AE)(mg:Str->Option An)(base:Heap):Prop where
 kin:K.In base
 glob:base.Ns AJ mg
 blt:∃mb,base.Ns builtinsNs mb/\∀x:Str,x ≠ "__name__" -> mb x=DC x
 nolimit:base.NoLimit
structure Cx where
 prog:AV
 w:A6
 K:AE
 mg:Str->Option An
 base:Heap
 A:A7
 N:List Str
 s₀:AC
 H₀:Hp
 env:Env
 outer:List Env
 stack:List Env
 ex:List Addr
 fn:Str->Bool
 calm:Bool
 pn:List (Addr×Obj)
 xe:An->AC->Prop
noncomputable def frs (l:List Env):List Addr:=l.filterMap (·.frame)
noncomputable abbrev Cx.fs (X:Cx):List Addr:=frs X.outer
noncomputable def Vis (sc:GM)(x:Str):Prop:=sc.names.lookup x=some .local\/sc.names.lookup x=some .cell\/sc.names.lookup x=some .free
noncomputable def Loc (sc:GM)(x:Str):Prop:=sc.names.lookup x=some .local\/sc.names.lookup x=some .cell
noncomputable def Look (env:Env)(h:Heap)(m:Str->Option An)(x:Str)(u:An):Prop:=
 (env.kindOf x=some .local/\m x=some u)\/((env.kindOf x=some .cell\/env.kindOf x=some .free)/\∃c,env.cells.lookup x=some c/\h.IsCell c (some u))
structure Cx.Ok (X:Cx):Prop where
 mod:Mod X.K X.mg X.base
 kind:X.env.scope.kind=.function
 glob:X.env.globals=AJ
 blt:X.env.builtins=builtinsNs
 above:X.s₀.heap.objs.size<=X.env.locals
 inj:∀x y c,X.env.cells.lookup x=some c->X.env.cells.lookup y=some c->x=y
 has:∀x,(X.env.kindOf x=some .cell\/X.env.kindOf x=some .free)->∃c,X.env.cells.lookup x=some c
 cab:∀x c,X.fn x=true->X.env.cells.lookup x=some c->X.s₀.heap.objs.size<=c
 hd:X.calm=true->X.A.handled=none
 frames:X.A.frames=some X.stack
 stk:X.stack=X.outer\/(X.stack=X.env::X.outer/\X.env.frame=some X.env.locals)
 exf:∀b∈X.ex,b≠X.env.locals/\∀x c,X.env.cells.lookup x=some c->c≠b
 bs:∀b o,X.base.get? b=some o->X.s₀.heap.get? b=some o/\X.H₀ b=none
 bsz:X.base.objs.size<=X.s₀.heap.objs.size
 noex:∀b o,X.base.get? b=some o->b∉X.ex
 exfs:∀b∈X.ex,b∉X.fs
 vo:X.s₀.heap.FunFrames X.base X.outer
 frf:∀b∈X.fs,X.H₀ b=none
structure Inv (X:Cx)(pins:List (Addr×Obj))(σ:List (Option V))(H:Hp)(s:AC):Prop where
 ok:X.Ok
 os:s.os=X.s₀.os
 bare:HU s.gens
 base:Un X.fs X.ex X.H₀ H X.s₀.heap s.heap
 loc:∃m,s.heap.Ns X.env.locals m/\∀(i:Nat)(x:Str)(v:V),X.N[i]?=some x->σ[i]?=some (some v)->Vis X.env.scope x->∃u,RelV v u/\Look X.env s.heap m x u
 cell:∀x c,X.env.cells.lookup x=some c->∃v,s.heap.IsCell c v
 free:H X.env.locals=none
 freeC:∀x c,X.env.cells.lookup x=some c->H c=none
 pin:∀p∈X.pn++pins,s.heap.get? p.1=some p.2/\H p.1=none/\p.1≠X.env.locals/\p.1∉X.fs/\∀v,p.2.data≠.cell v
 hok:HOk X.prog X.w H s.heap
 len:σ.length=X.N.length
section
variable {X:Cx}{pins:List (Addr×Obj)}{σ:List (Option V)}{H H':Hp}{s:AC}{h':Heap}
theorem Cx.Ok.aaZ (ok:X.Ok){b:Addr}{o:Obj}(e:X.base.get? b=some o):b∉X.fs:=fun hb=>by
 have:=(ok.vo.mem hb).1;rw[e] at this;cases this
theorem Inv.bs (I:Inv X pins σ H s):∀b o,X.base.get? b=some o->s.heap.get? b=some o/\H b=none:=fun b o e=>
 ⟨I.base.keep b o (I.ok.bs b o e).1 (I.ok.bs b o e).2 (I.ok.aaZ e) (I.ok.noex b o e),I.base.free b o (I.ok.bs b o e).1 (I.ok.bs b o e).2 (I.ok.noex b o e)⟩
theorem Inv.bk (I:Inv X pins σ H s):∀b o,X.base.get? b=some o->s.heap.get? b=some o:=fun b o e=>(I.bs b o e).1
theorem Inv.mod (I:Inv X pins σ H s):Mod X.K X.mg X.base:=I.ok.mod
theorem Inv.kIn (I:Inv X pins σ H s):X.K.In s.heap:=I.ok.mod.kin.keeps I.bk
theorem Inv.lt (I:Inv X pins σ H s):X.env.locals<s.heap.objs.size:=let ⟨_,hn,_⟩:=I.loc;hn.lt
theorem Inv.sz (I:Inv X pins σ H s):X.s₀.heap.objs.size<=s.heap.objs.size:=Be I.ok.above (II I.lt)
theorem Inv.Y6 (I:Inv X pins σ H s){a:Addr}(h:s.heap.objs.size<=a):a∉X.fs:=fun hb=>by
 obtain⟨_,o,ho,_⟩:=I.ok.vo.mem hb;exact absurd (A8 (A4 ho) (Be I.sz h)) (C8 _)
theorem Inv.cne (I:Inv X pins σ H s):∀x c,X.env.cells.lookup x=some c->c≠X.env.locals:=fun x c e z=>by
 obtain⟨v,o,ho,hd⟩:=I.cell x c e;obtain⟨m,⟨o',es,ep,ho',hd',_⟩,_⟩:=I.loc;rw[z,ho'] at ho;cases ho;rw[hd'] at hd;cases hd
theorem Inv.vo (I:Inv X pins σ H s):s.heap.FunFrames X.base X.outer:=by
 have all:∀(l:List Env),(∀b∈frs l,b∈X.fs)->X.s₀.heap.FunFrames X.base l->s.heap.FunFrames X.base l:=by
  intro l
  induction l with
  | nil=>intro _ _;trivial
  | cons env r ih=>
   intro hs hl;obtain⟨hk,⟨L,o,hf,hn,ho,hd⟩,hr⟩:=hl;have hL:L∈X.fs:=hs L (by unfold frs;rw[JO,hf];exact AX);obtain⟨sl,e⟩:=I.base.slot L o ho (I.ok.frf L hL) hL fun z=>I.ok.exfs L z hL;exact⟨hk,⟨L,_,hf,hn,e,hd⟩,ih (fun b hb=>hs b (by unfold frs;rw[JO,hf];exact BS _ hb)) hr⟩
 exact all X.outer (fun _ hb=>hb) I.ok.vo
theorem Inv.stack (I:Inv X pins σ H s):s.heap.FunFrames X.base X.stack:=by
 rcases I.ok.stk with e|⟨e,hf⟩
 ·rw[e];exact I.vo
 rw[e];obtain⟨m,hn,_⟩:=I.loc;refine .cons (by rw[I.ok.kind];decide) hf hn ?_ I.vo;exact Heap.get?_none_of_le (Be I.ok.bsz I.ok.above)
theorem Inv.v8 (I:Inv X pins σ H s):∀b∈frs X.stack,b∈X.env.locals::X.fs:=fun b hb=>by
 rcases I.ok.stk with e|⟨e,hf⟩
 ·rw[e] at hb;exact BS _ hb
 rw[e] at hb;unfold frs at hb;rw[JO,hf] at hb;exact hb
theorem Inv.JD (I:Inv X pins σ H s):∀b∈frs X.stack,H b=none:=fun b hb=>by
 rcases Bi.mp (I.v8 b hb) with e|hb
 ·rw[e];exact I.free
 obtain⟨_,o,ho,_⟩:=I.ok.vo.mem hb;exact I.base.free b o ho (I.ok.frf b hb) fun z=>I.ok.exfs b z hb
theorem Inv.step {g':Array GenState}{t':Nat}{d':Drawn}{ch:List Addr}(I:Inv X pins σ H s)
  (hch:∀b∈ch,(b∈X.ex\/X.s₀.heap.objs.size<=b)/\b≠X.env.locals/\(∀x c,X.env.cells.lookup x=some c->c≠b)/\∀p∈X.pn++pins,p.1≠b)
  (keep:∀b o,b≠X.env.locals->b∉X.fs->b∉ch->s.heap.get? b=some o->H b=none->h'.get? b=some o)
  (slot:∀b o,b≠X.env.locals->b∈X.fs->b∉ch->s.heap.get? b=some o->H b=none->∃sl,h'.get? b=some { o with slots:=sl }) (free:∀b o,b∉ch->s.heap.get? b=some o->H b=none->H' b=none)
  (there:∀b o,b∉ch->s.heap.get? b=some o->∃o',h'.get? b=some o')
  (tups:∀b xs,H b=some (.tup xs)->H' b=some (.tup xs)) (frzs:∀b o u,H b=some (.frz o u)->H' b=some (.frz o u)) (tbls:∀b ps,H b=some (.tbl ps)->∃more,H' b=some (.tbl (ps++more)))
  (ns:∀m,s.heap.Ns X.env.locals m->h'.Ns X.env.locals m) (hok:HOk X.prog X.w H' h') (hg:HU g') :
  Inv X pins σ H' { s with heap:=h',gens:=g',drawn:=d',toks:=t' }:=by
 have neL:∀b o,X.s₀.heap.get? b=some o->b≠X.env.locals:=fun b o e=>B1 (A8 (A4 e) I.ok.above);have neC:∀b o,X.s₀.heap.get? b=some o->b∉X.ex->b∉ch:=fun b o e hx hb=>by
  rcases(hch b hb).1 with z|z
  ·exact hx z
  exact absurd (A8 (A4 e) z) (C8 _)
 have cellK:∀x c,X.env.cells.lookup x=some c->∀v,s.heap.IsCell c v->h'.IsCell c v:=fun x c e v ⟨o,ho,hd⟩=>by
  have nch:c∉ch:=fun z=>(hch c z).2.2.1 x c e rfl;by_cases hc:c∈X.fs
  ·obtain⟨sl,q⟩:=slot c o (I.cne x c e) hc nch ho (I.freeC x c e);exact⟨_,q,hd⟩
  exact⟨o,keep c o (I.cne x c e) hc nch ho (I.freeC x c e),hd⟩
 refine⟨I.ok,I.os,hg,⟨fun b o e n hb hx=>?_,fun b o e n hb hx=>?_,fun b o e n hx=>?_,fun b o e hx=>?_,fun b xs e=>tups b xs (I.base.tups b xs e),fun b o xs e=>frzs b o xs (I.base.frzs b o xs e),fun b ps e=>?_⟩,?_,fun x c e=>?_,?_,fun x c e=>?_,fun p hp=>?_,hok,I.len⟩
 ·exact keep b o (neL b o e) hb (neC b o e hx) (I.base.keep b o e n hb hx) (I.base.free b o e n hx)
 ·obtain⟨sl,e1⟩:=I.base.slot b o e n hb hx;obtain⟨sl',e2⟩:=slot b _ (neL b o e) hb (neC b o e hx) e1 (I.base.free b o e n hx);exact⟨sl',e2⟩
 ·obtain⟨o',e1⟩:=I.base.there b o e hx;exact free b o' (neC b o e hx) e1 (I.base.free b o e n hx)
 ·obtain⟨o',e1⟩:=I.base.there b o e hx;exact there b o' (neC b o e hx) e1
 ·obtain⟨m1,e1⟩:=I.base.tbls b ps e;obtain⟨m2,e2⟩:=tbls b _ e1;exact⟨m1++m2,by rw[e2,Array.append_assoc]⟩
 ·obtain⟨m,hn,hl⟩:=I.loc;refine⟨m,ns m hn,fun i x v e1 e2 e3=>?_⟩;obtain⟨u,r,l⟩:=hl i x v e1 e2 e3;refine⟨u,r,?_⟩;rcases l with l|⟨k,c,e,z⟩
  ·exact .inl l
  exact .inr ⟨k,c,e,cellK x c e _ z⟩
 ·obtain⟨v,z⟩:=I.cell x c e;exact⟨v,cellK x c e v z⟩
 ·obtain⟨m,⟨o,_,_,ho,_⟩,_⟩:=I.loc;exact free _ o (fun z=>(hch _ z).2.1 rfl) ho I.free
 ·obtain⟨v,o,ho,hd⟩:=I.cell x c e;exact free c o (fun z=>(hch c z).2.2.1 x c e rfl) ho (I.freeC x c e)
 obtain⟨e,n,ne,nf,d⟩:=I.pin p hp;have nch:p.1∉ch:=fun z=>(hch p.1 z).2.2.2 p hp rfl;exact⟨keep p.1 p.2 ne nf nch e n,free p.1 p.2 nch e n,ne,nf,d⟩
theorem Inv.un {t':Nat}(I:Inv X pins σ H s)(u:Un X.fs [] H H' s.heap h')(hok:HOk X.prog X.w H' h'):Inv X pins σ H' { s with heap:=h',toks:=t' }:=by
 obtain⟨m,⟨o,es,ep,ho,r⟩,_⟩:=id I.loc;obtain⟨sl,hL⟩:=u.any ho I.free (by simp);exact I.step (g':=s.gens) (d':=s.drawn) (ch:=[]) (fun _ z=>nomatch z) (fun b o _ hb _ e n=>u.keep b o e n hb (by simp)) (fun b o _ hb _ e n=>u.slot b o e n hb (by simp)) (fun b o _ e n=>u.free b o e n (by simp)) (fun b o _ e=>u.there b o e (by simp)) u.tups u.frzs u.tbls (fun m' hm=>by
  obtain⟨o',es',ep',ho',r'⟩:=hm;rw[ho] at ho';cases ho';exact⟨_,es',ep',hL,r'⟩) hok I.bare
theorem Inv.call {g':Array GenState}{t':Nat}{d':Drawn}{ch:List Addr}(I:Inv X pins σ H s)(u:Un (frs X.stack) ch H H' s.heap h')(hok:HOk X.prog X.w H' h')(hg:HU g')
  (hch:∀b∈ch,(b∈X.ex\/X.s₀.heap.objs.size<=b)/\b≠X.env.locals/\(∀x c,X.env.cells.lookup x=some c->c≠b)/\∀p∈X.pn++pins,p.1≠b) :
  Inv X pins σ H' { s with heap:=h',gens:=g',drawn:=d',toks:=t' }:=by
 obtain⟨m,⟨o,es,ep,ho,r⟩,_⟩:=id I.loc;obtain⟨sl,hL⟩:=u.any ho I.free fun z=>(hch _ z).2.1 rfl;exact I.step (ch:=ch) hch (fun b o hL hb hc e n=>u.keep b o e n (fun z=>(Bi.mp (I.v8 b z)).elim hL hb) hc) (fun b o _ _ hc e n=>u.any e n hc) (fun b o hc e n=>u.free b o e n hc) (fun b o hc e=>u.there b o e hc) u.tups u.frzs u.tbls (fun m' hm=>by
  obtain⟨o',es',ep',ho',r'⟩:=hm;rw[ho] at ho';cases ho';exact⟨_,es',ep',hL,r'⟩) hok hg
theorem Inv.turned {t':Nat}{it:Addr}(I:Inv X pins σ H s)(k:∀b o,b≠it->s.heap.get? b=some o->h'.get? b=some o)(hn:H it=none)(hL:it≠X.env.locals)
  (h1:it∈X.ex\/X.s₀.heap.objs.size<=it) (h2:∀x c,X.env.cells.lookup x=some c->c≠it) (h3:∀p∈X.pn++pins,p.1≠it):Inv X pins σ H { s with heap:=h',toks:=t' }:=by
 have nit:∀b u,H b=some u->b≠it:=fun b u e z=>by rw[z,hn] at e;cases e
 refine I.step (g':=s.gens) (d':=s.drawn) (ch:=[it]) (fun b hb=>?_) (fun b o _ _ hc e _=>k b o (fun z=>hc (by simp [z])) e) (fun b o _ _ hc e _=>⟨o.slots,k b o (fun z=>hc (by simp [z])) e⟩) (fun _ _ _ _ n=>n)
  (fun b o hc e=>⟨o,k b o (fun z=>hc (by simp [z])) e⟩) (fun _ _ e=>e) (fun _ _ _ e=>e) (fun b ps e=>⟨#[],by rw[e];simp⟩) (fun m hm=>?_) (fun b u e=>?_) I.bare
 ·have e:b=it:=by simpa using hb
  subst e;exact⟨h1,hL,h2,h3⟩
 ·obtain⟨o,es,ep,ho,r⟩:=hm;exact⟨o,es,ep,k _ o (BN hL) ho,r⟩
 refine(I.hok b u e).stay (fun c v hc q=>k c v ?_ q) (fun _ q=>q) fun _ _ q=>q;rcases hc with z|z
 ·rw[z];exact nit b u e
 exact nit c _ z
theorem Inv.tok (I:Inv X pins σ H s)(t:Nat):Inv X pins σ H { s with toks:=t }:=I.un (h':=s.heap) (t':=t) Un.refl I.hok
theorem Inv.kept {t':Nat}(I:Inv X pins σ H s)(k:∀b u,s.heap.get? b=some u->h'.get? b=some u):Inv X pins σ H { s with heap:=h',toks:=t' }:=I.un (Un.kept k) (I.hok.kept k)
theorem Inv.laid {a:Addr}{o:HO}{t':Nat}(I:Inv X pins σ H s)(k:∀b u,s.heap.get? b=some u->h'.get? b=some u)(hp:s.heap.objs.size<=a)(new:dR X.prog X.w (upd H a o) h' a o) :
  Inv X pins σ (upd H a o) { s with heap:=h',toks:=t' }:=I.un (Un.laid k hp (I.hok.fresh hp)) (I.hok.laid k hp new)
theorem Inv.write {x e:Addr}{o:HO}{t':Nat}(I:Inv X pins σ H s)(mu:Mut (H x))(he:e=x\/H e=some (.own x))(k:∀b u,b≠e->s.heap.get? b=some u->h'.get? b=some u)(heo:∃u,h'.get? e=some u)
  (new:dR X.prog X.w (upd H x o) h' x o):Inv X pins σ (upd H x o) { s with heap:=h',toks:=t' }:=I.un (Un.write mu he k heo) (I.hok.write mu he k heo new)
theorem Inv.pq {pins':List (Addr×Obj)}(I:Inv X pins σ H s)(h:∀p∈pins',s.heap.get? p.1=some p.2/\H p.1=none/\p.1≠X.env.locals/\p.1∉X.fs/\∀v,p.2.data≠.cell v):Inv X pins' σ H s:=
 ⟨I.ok,I.os,I.bare,I.base,I.loc,I.cell,I.free,I.freeC,fun p hp=>(CF.mp hp).elim (fun z=>I.pin p (GG _ z)) (h p),I.hok,I.len⟩
theorem Ew {N:List Str}(hN:N.Nodup){i j:Nat}{x:Str}(a:N[i]?=some x)(b:N[j]?=some x):i=j:=by
 obtain⟨h1,e1⟩:=AW.mp a;obtain⟨h2,e2⟩:=AW.mp b;exact(List.getElem_inj hN).mp (e1.trans e2.symm)
theorem zP {M:Model}{A:A7}{E:An->AC->Prop}{i:Nat}{x:Str}{v:V}{u:An}{Q:Unit->AC->Prop}(I:Inv X pins σ H s)(hN:X.N.Nodup)(hi:X.N[i]?=some x)(hx:Loc X.env.scope x)(r:RelV v u)
  (h:∀s',Inv X pins (σ.set i (some v)) H s'->(∃a,B4 a s.heap s'.heap/\(a=X.env.locals\/X.env.cells.lookup x=some a))->Q () s') (hf:X.fn x=true\/X.env.scope.names.lookup x=some .local:=by first|exact .inl rfl|exact .inr rfl|assumption):AG M A (storeName X.env x u) Q E s:=by
 obtain⟨m,hn,hl⟩:=id I.loc;have hcls:(X.env.scope.kind == .class||(X.env.scope.kind == .module&&X.env.locals != X.env.globals))=false:=by rw[I.ok.kind];rfl
 have hiσ:i<σ.length:=by rw[I.len];exact(AW.mp hi).1
 have cne:=I.cne;have tracked:∀{a:Addr}{h':Heap},(∃o,s.heap.get? a=some o/\H a=none)->B4 a s.heap h'->HOk X.prog X.w H h':=fun {a h'} ha hs b ob e=>by
  obtain⟨_,_,hfree⟩:=ha;refine(I.hok b ob e).stay (fun c w' hc q=>(hs.2 c ?_).trans q) (fun _ q=>q) fun _ _ q=>q;rintro rfl;rcases hc with rfl|hc
  ·rw[hfree] at e;cases e
  rw[hfree] at hc;cases hc
 rcases hx with hk|hk
 ·refine wpAny_storeName_local hk hn (fun h' hn' hs=>?_) hcls;obtain⟨oL,_,_,hoL,_⟩:=id hn;refine h _ ⟨I.ok,I.os,I.bare,⟨fun b o e n hb hx=>?_,fun b o e n hb hx=>?_,I.base.free,fun b o e hx=>?_,I.base.tups,I.base.frzs,I.base.tbls⟩,⟨_,hn',fun j y v' e1 e2 e3=>?_⟩,fun y c e=>?_,I.free,I.freeC,fun p hp=>?_,tracked ⟨oL,hoL,I.free⟩ hs,by simpa using I.len⟩ ⟨_,hs,.inl rfl⟩
  ·exact(hs.2 b (B1 (A8 (A4 e) I.ok.above))).trans (I.base.keep b o e n hb hx)
  ·obtain⟨sl,e1⟩:=I.base.slot b o e n hb hx;exact⟨sl,(hs.2 b (B1 (A8 (A4 e) I.ok.above))).trans e1⟩
  ·obtain⟨o',e1⟩:=I.base.there b o e hx;exact⟨o',(hs.2 b (B1 (A8 (A4 e) I.ok.above))).trans e1⟩
  ·by_cases hj:j=i
   ·subst hj;rw[hi] at e1;cases e1;rw[List.getElem?_set_self hiσ] at e2;cases e2;exact⟨u,r,.inl ⟨hk,by simp⟩⟩
   rw[List.getElem?_set_ne (BN hj)] at e2;obtain⟨u',r',q⟩:=hl j y v' e1 e2 e3;refine⟨u',r',?_⟩;rcases q with⟨k,e⟩|⟨k,c,e,z⟩
   ·refine .inl ⟨k,?_⟩;have:y≠x:=fun e=>hj (Ew hN e1 (e ▸ hi));simp [this,e]
   exact .inr ⟨k,c,e,z.sameBut hs (cne y c e)⟩
  ·obtain⟨w',z⟩:=I.cell y c e;exact⟨w',z.sameBut hs (cne y c e)⟩
  obtain⟨e,n,ne,nf,d⟩:=I.pin p hp;exact⟨(hs.2 p.1 ne).trans e,n,ne,nf,d⟩
 have hfn:X.fn x=true:=by
  rcases hf with z|z
  ·exact z
  rw[z] at hk;cases hk
 obtain⟨c,hc⟩:=I.ok.has x (.inl hk);obtain⟨w',z⟩:=I.cell x c hc;refine wpAny_storeName_cell I.ok.kind hk hc z (fun h' hc' hs=>?_);obtain⟨oc,hoc,hocd⟩:=id z;refine h { s with heap:=h' } ⟨I.ok,I.os,I.bare,⟨fun b o e n hb hx=>?_,fun b o e n hb hx=>?_,I.base.free,fun b o e hx=>?_,I.base.tups,I.base.frzs,I.base.tbls⟩,⟨m,hn.sameBut hs (BN (cne x c hc)),fun j y v' e1 e2 e3=>?_⟩,fun y c' e=>?_,I.free,I.freeC,fun p hp=>?_,tracked ⟨oc,hoc,I.freeC x c hc⟩ hs,by simpa using I.len⟩ ⟨c,hs,.inr hc⟩
 ·exact(hs.2 b (B1 (A8 (A4 e) (I.ok.cab x c hfn hc)))).trans (I.base.keep b o e n hb hx)
 ·obtain⟨sl,e1⟩:=I.base.slot b o e n hb hx;exact⟨sl,(hs.2 b (B1 (A8 (A4 e) (I.ok.cab x c hfn hc)))).trans e1⟩
 ·obtain⟨o',e1⟩:=I.base.there b o e hx;exact⟨o',(hs.2 b (B1 (A8 (A4 e) (I.ok.cab x c hfn hc)))).trans e1⟩
 ·by_cases hj:j=i
  ·subst hj;rw[hi] at e1;cases e1;rw[List.getElem?_set_self hiσ] at e2;cases e2;exact⟨u,r,.inr ⟨.inl hk,c,hc,hc'⟩⟩
  rw[List.getElem?_set_ne (BN hj)] at e2;obtain⟨u',r',q⟩:=hl j y v' e1 e2 e3;refine⟨u',r',?_⟩;rcases q with q|⟨k,c',e,z'⟩
  ·exact .inl q
  refine .inr ⟨k,c',e,z'.sameBut hs ?_⟩;rintro rfl;exact hj (Ew hN e1 (I.ok.inj _ _ _ e hc ▸ hi))
 ·by_cases hcc:c'=c
  ·subst hcc;exact⟨_,hc'⟩
  obtain⟨w2,z2⟩:=I.cell y c' e;exact⟨w2,z2.sameBut hs hcc⟩
 obtain⟨e,n,ne,nf,d⟩:=I.pin p hp;refine⟨(hs.2 p.1 ?_).trans e,n,ne,nf,d⟩;intro q;rw[q,hoc] at e;have q':oc=p.2:=BO e;exact d w' (by rw[<- q'];exact hocd)
theorem jC {M:Model}{A:A7}{E:An->AC->Prop}{i:Nat}{x:Str}{v:V}{u:An}{Q:Unit->AC->Prop}(I:Inv X pins σ H s)(hN:X.N.Nodup)(hi:X.N[i]?=some x)(hx:Loc X.env.scope x)(r:RelV v u)
  (h:∀s',Inv X pins (σ.set i (some v)) H s'->Q () s') (hf:X.fn x=true\/X.env.scope.names.lookup x=some .local:=by first|exact .inl rfl|exact .inr rfl|assumption):AG M A (storeName X.env x u) Q E s:=
 zP I hN hi hx r (fun s' I' _=>h s' I') hf
theorem Inv.call' {s':AC}{ch:List Addr}(I:Inv X pins σ H s)(ho:s'.os=s.os)(u:Un (frs X.stack) ch H H' s.heap s'.heap)(hok:HOk X.prog X.w H' s'.heap)(hg:HU s'.gens)
  (hch:∀b∈ch,(b∈X.ex\/X.s₀.heap.objs.size<=b)/\b≠X.env.locals/\(∀x c,X.env.cells.lookup x=some c->c≠b)/\∀p∈X.pn++pins,p.1≠b):Inv X pins σ H' s':=by
 obtain⟨h',g',d',t',o'⟩:=s';have e:o'=s.os:=ho;subst e;exact I.call (g':=g') (t':=t') (d':=d') u hok hg hch
end
noncomputable abbrev XK:=An->Option Addr->Hp->Prop
noncomputable abbrev St:=List (Option V)
noncomputable abbrev VK:=V->Hp->Prop
noncomputable abbrev TE:=St->Hp->VK->Prop
noncomputable abbrev TT:=St->Hp->(Bool->Hp->Prop)->Prop
noncomputable abbrev TA:=St->Hp->(List V->Hp->Prop)->Prop
structure Ends where
 nx:St->Hp->Prop
 rt:VK
 bk:St->Hp->Prop:=fun _ _=>False
 ct:St->Hp->Prop:=fun _ _=>False
noncomputable abbrev TS:=Ends->St->Hp->Prop
noncomputable def EP (X:Cx)(pins:List (Addr×Obj))(σ:St)(Q:VK)(u:An)(s':AC):Prop:=∃v H',Inv X pins σ H' s'/\RelV v u/\Q v H'
noncomputable def TP (X:Cx)(pins:List (Addr×Obj))(σ:St)(Q:Bool->Hp->Prop)(b:Bool)(s':AC):Prop:=∃H',Inv X pins σ H' s'/\Q b H'
noncomputable def AP (X:Cx)(pins:List (Addr×Obj))(σ:St)(Q:List V->Hp->Prop)(us:List An)(s':AC):Prop:=∃vs H',Inv X pins σ H' s'/\Vals vs us/\Q vs H'
noncomputable def SP (X:Cx)(pins:List (Addr×Obj))(D:Ends)(f:Flow)(s':AC):Prop:=
 match f with
 | .next=>∃σ' H',Inv X pins σ' H' s'/\D.nx σ' H'
 | .brk=>∃σ' H',Inv X pins σ' H' s'/\D.bk σ' H'
 | .cont=>∃σ' H',Inv X pins σ' H' s'/\D.ct σ' H'
 | .ret u=>∃v σ' H',Inv X pins σ' H' s'/\RelV v u/\D.rt v H'
noncomputable def PE (X:Cx)(e:Expr)(t:TE):Prop:=
 ∀(pins:List (Addr×Obj)) (s:AC) (σ:St) (H:Hp) (Q:VK),Inv X pins σ H s->t σ H Q->AG (A0 X.prog X.w) X.A (eval e X.env) (EP X pins σ Q) X.xe s
noncomputable def PT (X:Cx)(e:Expr)(t:TT):Prop:=
 ∀(pins:List (Addr×Obj)) (s:AC) (σ:St) (H:Hp) (Q:Bool->Hp->Prop),Inv X pins σ H s->t σ H Q->AG (A0 X.prog X.w) X.A (isTrue e X.env (eval e X.env)) (TP X pins σ Q) X.xe s
noncomputable def PW (X:Cx)(e:Expr)(t:TT):Prop:=
 ∀(whole:Sem An)(pins:List (Addr×Obj)) (s:AC) (σ:St) (H:Hp) (Q:Bool->Hp->Prop),Inv X pins σ H s->t σ H Q->AG (A0 X.prog X.w) X.A (isTrue e X.env whole) (TP X pins σ Q) X.xe s
theorem PW.pt {X:Cx}{e:Expr}{t:TT}(h:PW X e t):PT X e t:=h _
noncomputable def PA (X:Cx)(es:List Expr)(t:TA):Prop:=
 ∀(pos:Pos)(pins:List (Addr×Obj)) (s:AC) (σ:St) (H:Hp) (Q:List V->Hp->Prop),Inv X pins σ H s->t σ H Q->AG (A0 X.prog X.w) X.A (spliced (Ct pos (AH es X.env))) (AP X pins σ Q) X.xe s
noncomputable def PS (X:Cx)(st:Stmt)(t:TS):Prop:=
 ∀(pins:List (Addr×Obj)) (s:AC) (σ:St) (H:Hp) (D:Ends),Inv X pins σ H s->t D σ H->AG (A0 X.prog X.w) X.A (exec st X.env) (SP X pins D) X.xe s
noncomputable def PSs (X:Cx)(st:List Stmt)(t:TS):Prop:=
 ∀(pins:List (Addr×Obj)) (s:AC) (σ:St) (H:Hp) (D:Ends),Inv X pins σ H s->t D σ H->AG (A0 X.prog X.w) X.A (execs st X.env) (SP X pins D) X.xe s
theorem thn {α:Type}{t:Sem α}{Q Q':α->AC->Prop}{M:Model}{A:A7}{E:An->AC->Prop}{s:AC}(h:AG M A t Q E s)(hQ:∀a s,Q a s->Q' a s):AG M A t Q' E s:=DV h hQ fun _ _ x=>x
theorem thE {t:Sem An}{X:Cx}{pins:List (Addr×Obj)}{σ:St}{Q:VK}{Q':An->AC->Prop}{M:Model}{A:A7}{E:An->AC->Prop}{s:AC}(h:AG M A t (EP X pins σ Q) E s)(hQ:∀u s x H,Inv X pins σ H s->RelV x u->Q x H->Q' u s):AG M A t Q' E s:=thn h fun u s z=>by
 obtain⟨x,H,I,r,q⟩:=z;exact hQ u s x H I r q
theorem thA {t:Sem (List An)}{X:Cx}{pins:List (Addr×Obj)}{σ:St}{Q:List V->Hp->Prop}{Q':List An->AC->Prop}{M:Model}{A:A7}{E:An->AC->Prop}{s:AC}(h:AG M A t (AP X pins σ Q) E s)(hQ:∀u s x H,Inv X pins σ H s->Vals x u->Q x H->Q' u s):AG M A t Q' E s:=thn h fun u s z=>by
 obtain⟨x,H,I,r,q⟩:=z;exact hQ u s x H I r q
theorem thT {t:Sem Bool}{X:Cx}{pins:List (Addr×Obj)}{σ:St}{Q:Bool->Hp->Prop}{Q':Bool->AC->Prop}{M:Model}{A:A7}{E:An->AC->Prop}{s:AC}(h:AG M A t (TP X pins σ Q) E s)(hQ:∀u s H,Inv X pins σ H s->Q u H->Q' u s):AG M A t Q' E s:=thn h fun u s z=>by
 obtain⟨H,I,q⟩:=z;exact hQ u s H I q
section
variable {X:Cx}
noncomputable def Ou (i:Nat):TE:=fun σ H Q=>∃v,σ[i]?=some (some v)/\Q v H
noncomputable def tC (v:V):TE:=fun _ H Q=>Q v H
theorem QK {i:Nat}{x:Str}{pos:Pos}(hN:X.N[i]?=some x) (hv:Vis X.env.scope x) (hd:(x == ("__debug__" : Str))=false:=by decide) (hcd:(x == ("__classdict__" : Str))=false:=by decide):PE X (.Name x pos) (Ou i):=by
 intro pins s σ H Q I h;obtain⟨v,e,h⟩:=h;obtain⟨m,hn,hl⟩:=I.loc;obtain⟨u,r,l⟩:=hl i x v hN e hv;have fin:EP X pins σ Q u s:=⟨v,H,I,r,h⟩;rcases l with⟨hk,hm⟩|⟨hk,c,hc,hcell⟩
 ·exact wpAny_Name (wpAny_loadName_local I.ok.kind hk hn hm fin) hd
 rcases hk with hk|hk
 ·exact wpAny_Name (wpAny_loadName_cell I.ok.kind hk hc hcell fin) hd
 exact wpAny_Name (wpAny_loadName_free I.ok.kind hk hc hcell fin hcd) hd
theorem YD {i j pos}:PE X (.Constant (.int i) j pos) (tC (.int i)):=fun _ _ _ H _ I h=>wpAny_Constant_int ⟨.int i,H,I.tok _,⟨_,rfl⟩,h⟩
theorem aau {b j pos}:PE X (.Constant (.bool b) j pos) (tC (.bl b)):=fun _ _ _ H _ I h=>Constant_bool ⟨.bl b,H,I,rfl,h⟩
theorem YB {j pos}:PE X (.Constant .none j pos) (tC .non):=fun _ _ _ H _ I h=>Constant_none ⟨.non,H,I,rfl,h⟩
theorem Yx {x j pos}:PE X (.Constant (.str x) j pos) (tC (.str x)):=fun _ _ _ H _ I h=>Calls.Constant_str ⟨.str x,H,I.tok _,⟨_,rfl⟩,h⟩
noncomputable def Gl (X:Cx)(x:Str):Prop:=X.env.kindOf x=some .globalImplicit
theorem Kl {E:An->AC->Prop}{pins:List (Addr×Obj)}{s:AC}{σ:St}{H:Hp}{x:Str}{u:An}{pos:Pos}{Q:An->AC->Prop}(I:Inv X pins σ H s)(hg:Gl X x)(hm:X.mg x=some u)(h:Q u s)
  (hd:(x == ("__debug__" : Str))=false:=by decide):AG (A0 X.prog X.w) X.A (eval (.Name x pos) X.env) Q E s:=
 Calls.Name_function_global I.ok.kind hg (Calls.loadGlobal_global (by rw[I.ok.glob];exact I.mod.glob.keeps I.bk) hm h) hd
theorem ji {E:An->AC->Prop}{pins:List (Addr×Obj)}{s:AC}{σ:St}{H:Hp}{x:Str}{u:An}{pos:Pos}{Q:An->AC->Prop}(I:Inv X pins σ H s)(hg:Gl X x)(hm:X.mg x=none)(hv:DC x=some u)(h:Q u s)
  (hn:x ≠ "__name__" := by decide) (hd:(x == ("__debug__" : Str))=false:=by decide):AG (A0 X.prog X.w) X.A (eval (.Name x pos) X.env) Q E s:=by
 obtain⟨mb,h1,h2⟩:=I.mod.blt;exact Calls.Name_function_global I.ok.kind hg (Calls.loadGlobal_builtin (by rw[I.ok.glob];exact I.mod.glob.keeps I.bk) hm (by rw[I.ok.blt];exact h1.keeps I.bk) ((h2 x hn).trans hv) h) hd
theorem Vx {x:Str}{v:V}{u:An}{pos:Pos}(hg:Gl X x) (hm:X.mg x=some u) (r:RelV v u) (hd:(x == ("__debug__" : Str))=false:=by decide):PE X (.Name x pos) (tC v):=
 fun _ _ _ H _ I h=>Kl I hg hm ⟨v,H,I,r,h⟩ hd
theorem VP {x:Str}{v:V}{u:An}{pos:Pos}(hg:Gl X x) (hm:X.mg x=none) (hv:DC x=some u) (r:RelV v u) (hn:x ≠ "__name__" := by decide) (hd:(x == ("__debug__" : Str))=false:=by decide):PE X (.Name x pos) (tC v):=
 fun _ _ _ H _ I h=>ji I hg hm hv ⟨v,H,I,r,h⟩ hn hd
variable {a b:Expr}{ta tb:TE}{pos:Pos}
noncomputable def tB (t:TE):TT:=fun σ H Q=>t σ H fun x H1=>∃c,x=.bl c/\Q c H1
theorem Yk {e:Expr}{t:TE}(h:PE X e t)(he:∀whole,isTrue e X.env whole=(do let v <- whole;standAt e.pos;DJ [v] (truthy v)):=by intro _;rfl):PT X e (tB t):=by
 intro pins s σ H Q I hw;refine isTrue_plain (thE (h pins s σ H _ I hw) fun v s1 x H1 I1 r1 q1=>?_) (he _);obtain⟨d,rfl,q⟩:=q1;cases r1;exact Ex ⟨H1,I1,q⟩
variable {tA tB':TT}{rest:List Expr}
noncomputable def T8 (t u:TT):TT:=fun σ H Q=>t σ H fun c H1=>if c=true then u σ H1 Q else Q false H1
noncomputable def tOr (t u:TT):TT:=fun σ H Q=>t σ H fun c H1=>if c=true then Q true H1 else u σ H1 Q
noncomputable def O2 (t:TT):TT:=fun σ H Q=>t σ H fun c H1=>Q (!c) H1
theorem U7 (ha:PT X a tA):PW X (.BoolOp .And [a] pos) tA:=by
 intro wh pins s σ H Q I h;refine isTrue_and (thn (ha pins s σ H Q I h) fun c s1 e=>?_);cases c with
 | true=>exact isTrue_and_nil e
 | false=>exact e
theorem Yi (ha:PT X a tA):PW X (.BoolOp .Or [a] pos) tA:=by
 intro wh pins s σ H Q I h;refine isTrue_or (thn (ha pins s σ H Q I h) fun c s1 e=>?_);cases c with
 | false=>exact isTrue_or_nil e
 | true=>exact e
theorem Yj (ha:PT X a tA)(hb:PW X (.BoolOp .And (b::rest) pos) tB'):PW X (.BoolOp .And (a::b::rest) pos) (T8 tA tB'):=by
 intro wh pins s σ H Q I h;refine isTrue_and (thT (ha pins s σ H _ I h) fun c s1 H1 I1 q1=>?_);cases c with
 | true=>exact hb wh pins s1 σ H1 Q I1 q1
 | false=>exact⟨H1,I1,q1⟩
theorem aaj (ha:PT X a tA)(hb:PW X (.BoolOp .Or (b::rest) pos) tB'):PW X (.BoolOp .Or (a::b::rest) pos) (tOr tA tB'):=by
 intro wh pins s σ H Q I h;refine isTrue_or (thT (ha pins s σ H _ I h) fun c s1 H1 I1 q1=>?_);cases c with
 | true=>exact⟨H1,I1,q1⟩
 | false=>exact hb wh pins s1 σ H1 Q I1 q1
theorem Ym (ha:PT X a tA):PT X (.UnaryOp .Not a pos) (O2 tA):=by
 intro pins s σ H Q I h;exact isTrue_not (ha pins s σ H (fun c H1=>Q (!c) H1) I h)
noncomputable def Pa (ta tb:TE):TE:=fun σ H Q=>ta σ H fun x H1=>∃c,x=.bl c/\if c=true then tb σ H1 Q else Q (.bl false) H1
noncomputable def O1 (ta:TE):TE:=fun σ H Q=>ta σ H fun x H1=>∃c,x=.bl c/\Q (.bl (!c)) H1
theorem Yy {op}{t:TE}(h:PE X a t):PE X (.BoolOp op [a] pos) t:=fun pins s σ H Q I hw=>BoolOp_one (h pins s σ H Q I hw)
theorem YG (ha:PE X a ta)(hb:PE X (.BoolOp .And (b::rest) pos) tb):PE X (.BoolOp .And (a::b::rest) pos) (Pa ta tb):=by
 intro pins s σ H Q I h;refine BoolOp_and (thE (ha pins s σ H _ I h) fun v s1 x H1 I1 r1 q1=>?_);obtain⟨c,rfl,q1⟩:=q1;cases r1;refine Ex ?_;cases c with
 | true=>exact hb pins s1 σ H1 Q I1 q1
 | false=>exact⟨.bl false,H1,I1,rfl,q1⟩
theorem Yz (ha:PE X a ta):PE X (.UnaryOp .Not a pos) (O1 ta):=by
 intro pins s σ H Q I h;refine UnaryOp_ (thE (ha pins s σ H _ I h) fun v s1 x H1 I1 r1 q1=>?_);obtain⟨c,rfl,q1⟩:=q1;cases r1;exact not_of (Ex ⟨.bl (!c),H1,I1,rfl,q1⟩)
noncomputable def tIf (t:TT)(ta tb:TE):TE:=fun σ H Q=>t σ H fun c H1=>if c=true then ta σ H1 Q else tb σ H1 Q
theorem QV {c:Expr}(hc:PT X c tA)(ha:PE X a ta)(hb:PE X b tb):PE X (.IfExp c a b pos) (tIf tA ta tb):=by
 intro pins s σ H Q I h;refine wpAny_IfExp (thT (hc pins s σ H _ I h) fun d s1 H1 I1 q1=>?_);cases d with
 | true=>exact ha pins s1 σ H1 Q I1 q1
 | false=>exact hb pins s1 σ H1 Q I1 q1
end
noncomputable def SqL (K:AE)(H:Hp)(a:Addr)(xs:List V):Prop:=
 Rd H a (.lst xs) \/
  ∃(o:Obj)(its:Array An)(n:Nat),K.lookup a=some o/\o.cls=.type "list" /\ o.dict=none/\o.data=.seq its n/\its.size<=AL/\Vals xs its.toList
noncomputable def SqT (K:AE)(H:Hp)(a:Addr)(xs:List V):Prop:=
 Rd H a (.tup xs) \/
  ∃(o:Obj)(its:Array An)(n:Nat),K.lookup a=some o/\o.cls=.type "tuple" /\ o.data=.seq its n/\its.size<=AL/\Vals xs its.toList
noncomputable def aa4:An->Option V
 | .none=>some .non
 | .bool b=>some (.bl b)
 | .int i _=>some (.int i)
 | .str x _=>some (.str x)
 | .bytes b _=>some (.byt b)
 | .float b _=>some (.flt b)
 | .ref a=>some (.ref a)
 | .type n=>some (.ty n)
 | _=>none
theorem RelV.abs {x:V}{u:An}(r:RelV x u):aa4 u=some x:=by
 cases x with
 | non=>cases r;rfl
 | bl _=>cases r;rfl
 | int _=>obtain⟨t,rfl⟩:=r;rfl
 | str _=>obtain⟨t,rfl⟩:=r;rfl
 | byt _=>obtain⟨t,rfl⟩:=r;rfl
 | flt _=>obtain⟨t,rfl⟩:=r;rfl
 | ref _=>cases r;rfl
 | ty _=>cases r;rfl
theorem RelV.inj {x y:V}{u:An}(r:RelV x u)(q:RelV y u):x=y:=BO (r.abs.symm.trans q.abs)
theorem Vals.inj:∀{xs ys:List V}{us:List An},Vals xs us->Vals ys us->xs=ys
 | _,_,_,.nil,.nil=>rfl
 | _,_,_,.cons r t,.cons r' t'=>by rw[r.inj r',Vals.inj t t']
section
variable {X:Cx}{pins:List (Addr×Obj)}{σ:St}{H:Hp}{s:AC}{a:Addr}{xs ys:List V}
theorem SqL.of {K:AE}(h:H a=some (.lst xs)):SqL K H a xs:=.inl (.inl h)
theorem SqT.of {K:AE}(h:H a=some (.tup xs)):SqT K H a xs:=.inl (.inl h)
theorem Inv.list (I:Inv X pins σ H s)(h:SqL X.K H a xs):∃its:List An,Vals xs its/\PlainL s.heap a its.toArray/\xs.length<=AL:=by
 rcases h with h|⟨o,its,n,hk,hc,hd,hs,hz,r⟩
 ·obtain⟨z,its,n,r,e⟩:=h.ok I.hok;exact⟨its,r,⟨_,n,e,rfl,rfl,rfl⟩,z⟩
 refine⟨its.toList,r,⟨o,n,I.kIn a o hk,hc,hd,by simpa using hs⟩,?_⟩;have e:=r.length;simp only[D3] at e;omega
theorem Inv.tuple (I:Inv X pins σ H s)(h:SqT X.K H a xs):∃its:List An,Vals xs its/\IB s.heap a its.toArray/\xs.length<=AL:=by
 rcases h with h|⟨o,its,n,hk,hc,hs,hz,r⟩
 ·obtain⟨z,its,r,p⟩:=h.ok I.hok;exact⟨its,r,p,z⟩
 refine⟨its.toList,r,⟨o,I.kIn a o hk,hc,n,by simpa using hs⟩,?_⟩;have e:=r.length;simp only[D3] at e;omega
theorem Inv.RP (I:Inv X pins σ H s)(h:SqL X.K H a xs)(h':SqL X.K H a ys):xs=ys:=by
 obtain⟨its,r,⟨o,n,e,_,_,d⟩,_⟩:=I.list h;obtain⟨its',r',⟨o',n',e',_,_,d'⟩,_⟩:=I.list h';rw[e] at e';cases e';rw[d] at d';injection d' with d1 _;have:its=its':=by simpa using congrArg Array.toList d1
 subst this;exact r.inj r'
theorem Inv.Lb (I:Inv X pins σ H s)(h:SqT X.K H a xs)(h':SqT X.K H a ys):xs=ys:=by
 obtain⟨its,r,⟨o,e,_,n,d⟩,_⟩:=I.tuple h;obtain⟨its',r',⟨o',e',_,n',d'⟩,_⟩:=I.tuple h';rw[e] at e';cases e';rw[d] at d';injection d' with d1 _;have:its=its':=by simpa using congrArg Array.toList d1
 subst this;exact r.inj r'
end
noncomputable abbrev Cx.wish (X:Cx)(E:An->AC->Prop):Cx:={ X with xe:=E }
noncomputable abbrev Cx.nox (X:Cx):Cx:=X.wish fun _ _=>False
theorem Cx.Ok.wish {X:Cx}(ok:X.Ok)(E:An->AC->Prop):(X.wish E).Ok:=
 ⟨ok.mod,ok.kind,ok.glob,ok.blt,ok.above,ok.inj,ok.has,ok.cab,ok.hd,ok.frames,ok.stk,ok.exf,ok.bs,ok.bsz,ok.noex,ok.exfs,ok.vo,ok.frf⟩
theorem Cx.Ok.nP {X:Cx}{E:An->AC->Prop}(ok:(X.wish E).Ok):X.Ok:=
 ⟨ok.mod,ok.kind,ok.glob,ok.blt,ok.above,ok.inj,ok.has,ok.cab,ok.hd,ok.frames,ok.stk,ok.exf,ok.bs,ok.bsz,ok.noex,ok.exfs,ok.vo,ok.frf⟩
section
variable {X:Cx}{pins:List (Addr×Obj)}{σ:St}{H:Hp}{s:AC}{E:An->AC->Prop}
theorem Inv.wish (I:Inv X pins σ H s)(E:An->AC->Prop):Inv (X.wish E) pins σ H s:=⟨I.ok.wish E,I.os,I.bare,I.base,I.loc,I.cell,I.free,I.freeC,I.pin,I.hok,I.len⟩
theorem Inv.nP (I:Inv (X.wish E) pins σ H s):Inv X pins σ H s:=⟨I.ok.nP,I.os,I.bare,I.base,I.loc,I.cell,I.free,I.freeC,I.pin,I.hok,I.len⟩
theorem SP.nP {D:Ends}{f:Flow}{s':AC}(h:SP (X.wish E) pins D f s'):SP X pins D f s':=by
 cases f with
 | next=>obtain⟨σ',H',I,q⟩:=h;exact⟨σ',H',I.nP,q⟩
 | brk=>obtain⟨σ',H',I,q⟩:=h;exact⟨σ',H',I.nP,q⟩
 | cont=>obtain⟨σ',H',I,q⟩:=h;exact⟨σ',H',I.nP,q⟩
 | ret u=>obtain⟨v,σ',H',I,r,q⟩:=h;exact⟨v,σ',H',I.nP,r,q⟩
theorem PSs.nox {st:List Stmt}{t:TS}(h:PSs X.nox st t):PSs X st t:=fun pins s σ H D I hw=>
 DV (h pins s σ H D (I.wish _) hw) (fun _ _ q=>q.nP) fun _ _ z=>D7 z
end
section
variable {X:Cx}{st:Stmt}{rest:List Stmt}{t u:TS}{e:Expr}{te:TE}{pos:Pos}
noncomputable def Dz:TS:=fun D σ H=>D.nx σ H
noncomputable def G4 (t u:TS):TS:=fun D σ H=>t { D with nx:=u D } σ H
theorem Vc:PSs X [] Dz:=fun _ _ σ H _ I h=>IC ⟨σ,H,I,h⟩
theorem Qu (h1:PS X st t)(h2:PSs X rest u):PSs X (st::rest) (G4 t u):=by
 intro pins s σ H D I h;refine wpAny_execs_cons (thn (h1 pins s σ H { D with nx:=u D } I h) fun f s1 q=>?_);cases f with
 | next=>
  obtain⟨σ',H',I',q⟩:=q;exact h2 pins s1 σ' H' D I' q
 | ret v=>exact q
 | brk=>exact q
 | cont=>exact q
theorem Vb (h1:PS X st t):PSs X [st] t:=by
 intro pins s σ H D I h;refine wpAny_execs_cons (thn (h1 pins s σ H D I h) fun f s1 q=>?_);cases f with
 | next=>exact IC q
 | ret v=>exact q
 | brk=>exact q
 | cont=>exact q
theorem Inv.quiet {pins:List (Addr×Obj)}{σ:St}{H:Hp}{s:AC}(I:Inv X pins σ H s):interactive X.env=false:=by simp [interactive,I.ok.kind]
noncomputable def uH (te:TE):TS:=fun D σ H=>te σ H fun _ H1=>D.nx σ H1
theorem Vf (he:PE X e te)(hs:HP e none pos.line X.env=pure false:=by rfl):PS X (.Expr e pos) (uH te):=by
 intro pins s σ H D I h;exact wpAny_Expr_any (thE (he pins s σ H _ I h) fun v s1 x H1 I1 r1 q1=>⟨σ,H1,I1,q1⟩) I.quiet hs
noncomputable def Ov (te:TE):TS:=fun D σ H=>te σ H D.rt
theorem Yo (he:PE X e te):PS X (.Return (some e) pos) (Ov te):=by
 intro pins s σ H D I h;exact wpAny_Return_some (thE (he pins s σ H _ I h) fun v s1 x H1 I1 r1 q1=>⟨x,σ,H1,I1,r1,q1⟩)
noncomputable def G7 (c:TT)(t u:TS):TS:=fun D σ H=>c σ H fun b H1=>if b=true then t D σ H1 else u D σ H1
theorem aal {c:Expr}{a b:List Stmt}{tc:TT}(hc:PT X c tc)(ha:PSs X a t)(hb:PSs X b u):PS X (.If c a b pos) (G7 tc t u):=by
 intro pins s σ H D I h;refine wpAny_If (thT (hc pins s σ H _ I h) fun d s1 H1 I1 q1=>?_);cases d with
 | true=>exact ha pins s1 σ H1 D I1 q1
 | false=>exact hb pins s1 σ H1 D I1 q1
end
noncomputable abbrev TG:=V->St->Hp->(St->Hp->Prop)->Prop
noncomputable abbrev TGs:=List V->St->Hp->(St->Hp->Prop)->Prop
noncomputable def PG (X:Cx)(target:Expr)(t:TG):Prop:=
 ∀(pins:List (Addr×Obj)) (s:AC) (σ:St) (H:Hp) (v:V) (u:An) (Q:St->Hp->Prop),Inv X pins σ H s->RelV v u->t v σ H Q ->
  AG (A0 X.prog X.w) X.A (GV target X.env u) (fun _ s'=>∃σ' H',Inv X pins σ' H' s'/\Q σ' H') X.xe s
noncomputable def PGs (X:Cx)(ts:List Expr)(t:TGs):Prop:=
 ∀(pins:List (Addr×Obj)) (s:AC) (σ:St) (H:Hp) (vs:List V) (us:List An) (Q:St->Hp->Prop),Inv X pins σ H s->Vals vs us->t vs σ H Q ->
  AG (A0 X.prog X.w) X.A (HH ((DA ts X.env).map (·.2)) us) (fun _ s'=>∃σ' H',Inv X pins σ' H' s'/\Q σ' H') X.xe s
noncomputable abbrev Xb:=V->V->V->Hp->(Hp->Prop)->Prop
noncomputable def Xc (X:Cx)(t:Xb):Prop:=
 ∀(pins:List (Addr×Obj)) (s:AC) (σ:St) (H:Hp) (o i v:V) (ov iv u:An) (Q:Hp->Prop),Inv X pins σ H s->RelV o ov->RelV i iv->RelV v u->t o i v H Q ->
  AG (A0 X.prog X.w) X.A (setItem ov iv u) (fun _ s'=>∃H',Inv X pins σ H' s'/\Q H') X.xe s
section
variable {X:Cx}{pos:Pos}
noncomputable def lQ (i:Nat):TG:=fun v σ H Q=>Q (σ.set i (some v)) H
theorem JZ {i:Nat}{x:Str}(hN:X.N.Nodup)(hi:X.N[i]?=some x)(hx:Loc X.env.scope x)(hf:X.fn x=true\/X.env.scope.names.lookup x=some .local:=by first|exact .inl rfl|exact .inr rfl|assumption):PG X (.Name x pos) (lQ i):=by
 intro pins s σ H v u Q I r h;exact wpAny_assign_Name (jC I hN hi hx r (fun s' I'=>⟨_,H,I',h⟩) hf)
noncomputable def Zx:TGs:=fun vs σ H Q=>vs=[]/\Q σ H
noncomputable def Ss (t:TG)(u:TGs):TGs:=fun vs σ H Q=>∃v r,vs=v::r/\t v σ H fun σ' H'=>u r σ' H' Q
theorem Vq:PGs X [] Zx:=by
 intro pins s σ H vs us Q I r h;obtain⟨e,h⟩:=h;subst e;cases r;exact assignInOrder_nil ⟨σ,H,I,h⟩
theorem QJ {e:Expr}{es:List Expr}{t:TG}{u:TGs}(h1:PG X e t)(h2:PGs X es u)
  (hs:(DA (e::es) X.env).map (·.2)=GV e X.env::(DA es X.env).map (·.2):=by rfl):PGs X (e::es) (Ss t u):=by
 intro pins s σ H vs us Q I r h;obtain⟨v,vr,e1,h⟩:=h;subst e1;cases r with
 | cons r rr=>
  rw[hs];refine ER (thn (h1 pins s σ H _ _ _ I r h) fun _ s1 ⟨σ1,H1,I1,q1⟩=>?_);exact h2 pins s1 σ1 H1 _ _ Q I1 rr q1
noncomputable def aa1 (K:AE)(n:Nat)(t:TGs):TG:=fun v σ H Q=>∃a xs,v=.ref a/\SqT K H a xs/\xs.length=n/\t xs σ H Q
theorem Yu {es:List Expr}{k:Nat}{t:TGs}{n:Nat}(hc:X.calm=true)(h:PGs X es t)
  (hn:(DA es X.env).length=n:=by rfl) (hst:(DA es X.env).findIdx? (·.1)=none:=by rfl):PG X (.Tuple es k pos) (aa1 X.K n t):=by
 intro pins s σ H v u Q I r hw;obtain⟨a,xs,e1,hq,hl,hw⟩:=hw;subst e1;cases r;obtain⟨its,rv,ht,hz⟩:=I.tuple hq;refine assign_Tuple_tuple (I.ok.hd hc) ht (by simp [hn,<- hl,rv.length]) hst fun h' hx=>?_;have I1:Inv X pins σ H { s with heap:=h' }:=I.kept (t':=s.toks) fun b o e=>hx b o (B1 (A4 e)) e;exact h pins _ σ H xs _ Q I1 (by simpa using rv) hw
noncomputable def Zv (to ti:TE)(t:Xb):TG:=fun v σ H Q=>to σ H fun o H1=>ti σ H1 fun i H2=>t o i v H2 fun H3=>Q σ H3
theorem Yv {o i:Expr}{to ti:TE}{t:Xb}(ho:PE X o to)(hi:PE X i ti)(hs:Xc X t)
  (ha:∀v,GV (.Subscript o i pos) X.env v=(do
   let ov <- DJ [v] (eval o X.env)
   let iv <- DJ [v,ov] (eval i X.env)
   standAt pos
   DJ [v,ov,iv] (setItem ov iv v)
   release [v,ov,iv] []):=by intro _;rfl):PG X (.Subscript o i pos) (Zv to ti t):=by
 intro pins s σ H v u Q I r h;rw[ha];refine Ap (BE (thE (ho pins s σ H _ I h) fun ov s1 x H1 I1 r1 q1=>?_));refine Ap (BE (thE (hi pins s1 σ H1 _ I1 q1) fun iv s2 y H2 I2 r2 q2=>?_));refine Ap (HK (Ap (BE (thn (hs pins s2 σ H2 x y v ov iv u _ I2 r1 r2 r q2) fun _ s3 ⟨H3,I3,q3⟩=>?_))));exact wpAny_release ⟨σ,H3,I3,q3⟩
noncomputable def yK (te:TE)(g:TG):TS:=fun D σ H=>te σ H fun x H1=>g x σ H1 D.nx
theorem Yr {tg e:Expr}{te:TE}{g:TG}(he:PE X e te)(hg:PG X tg g)(hs:E8 [tg] e pos.line X.env=pure false:=by rfl)(hw:F7 [tg] e X.env=pure none:=by rfl)
  (h1:(DA [tg] X.env).map (·.2)=[GV tg X.env]:=by rfl):PS X (.Assign [tg] e pos) (yK te g):=by
 intro pins s σ H D I h;refine wpAny_Assign_stores (thE (he pins s σ H _ I h) fun v s1 x H1 I1 r1 q1=>?_) hs hw;rw[h1];exact thn (hg pins s1 σ H1 x v _ I1 r1 q1) fun _ s2 q=>q
theorem Yn {i:Nat}{x:Str}{e:Expr}{te:TE}{pos':Pos}(hN:X.N.Nodup)(hi:X.N[i]?=some x)(hx:Loc X.env.scope x)(he:PE X e te)(hs:HP e (some (.Name x pos')) pos.line X.env=pure false:=by rfl)(hf:X.fn x=true\/X.env.scope.names.lookup x=some .local:=by first|exact .inl rfl|exact .inr rfl|assumption) :
  PS X (.Assign [.Name x pos'] e pos) (yK te (lQ i)):=by
 intro pins s σ H D I h;refine wpAny_Assign_Name (thE (he pins s σ H _ I h) fun v s1 y H1 I1 r1 q1=>?_) hs;exact jC I1 hN hi hx r1 (fun s2 I2=>⟨_,H1,I2,q1⟩) hf
noncomputable def Xy (i j:Nat)(ta:TA):TS:=fun D σ H=>ta σ H fun vs H1=>∃v w,vs=[v,w]/\D.nx ((σ.set i (some v)).set j (some w)) H1
theorem Yp {i j:Nat}{x y:Str}{a b:Expr}{ta:TA}{px py pt:Pos}{kt k2 pt2}(hc:X.calm=true)(hN:X.N.Nodup)(hi:X.N[i]?=some x)(hj:X.N[j]?=some y)(hij:i≠j)
  (hx:X.env.scope.names.lookup x=some .local) (hy:X.env.scope.names.lookup y=some .local) (ha:PA X [a,b] ta)
  (hw:F7 [.Tuple [.Name x px,.Name y py] kt pt] (.Tuple [a,b] k2 pt2) X.env=pure (some [x,y]))
  (hs:E8 [.Tuple [.Name x px,.Name y py] kt pt] (.Tuple [a,b] k2 pt2) pos.line X.env=pure false:=by rfl) :
  PS X (.Assign [.Tuple [.Name x px,.Name y py] kt pt] (.Tuple [a,b] k2 pt2) pos) (Xy i j ta):=by
 intro pins s σ H D I h;rw[exec_Assign_arm];refine Ap (HK ?_);rw[hs];refine Ap (Au ?_);rw[if_neg δ];refine Ap (Tuple_ (thA (ha _ pins s σ H _ I h) fun us s1 vs H1 I1 r1 q1=>?_));obtain⟨v,w,e1,q1⟩:=q1;subst e1;obtain⟨u1,u2,rfl,rv,rw'⟩:∃u1 u2,us=[u1,u2]/\RelV v u1/\RelV w u2:=by
  cases r1 with
  | cons p q=>
   cases q with
   | cons p' q'=>
    cases q';exact⟨_,_,rfl,p,p'⟩
 refine BG ?_ (by show 2<=AL;decide);have I2:Inv X pins σ H1 { s1 with heap:=s1.heap.push { cls:=.type "tuple",data:=.seq [u1,u2].toArray } }:=I1.kept (t':=s1.toks) fun b o e=>AB _ e;rw[hw];refine Ap (Au ?_);show AG (A0 X.prog X.w) X.A (do rule "assign.swapped-stores";let items <- unpackItems (.ref s1.heap.objs.size) 2 none;HH [fun v=>Go X.env y v,fun v=>Go X.env x v] items.reverse;pure Flow.next) _ _ _;refine Ap (D8 (Ap (unpackItems_tuple (items:=#[u1,u2]) (I.ok.hd hc) (IB.new s1.heap _) fun h' hx'=>?_)));have I3:=I2.kept (h':=h') (t':=s1.toks) fun b o e=>hx' b o (B1 (A4 e)) e;show AG _ _ (HH [fun v=>Go X.env y v,fun v=>Go X.env x v] [u2,u1] >>= fun _=>pure Flow.next) _ _ _;refine Ap (ER (GW (jC I3 hN hj (.inl hy) rw' (fun s2 I4=>?_) (.inr hy))));refine ER (GW (jC I4 hN hi (.inl hx) rv (fun s3 I5=>assignInOrder_nil (Au ?_)) (.inr hx)));rw[set_comm _ _ (BN hij)] at I5;exact⟨_,H1,I5,q1⟩
noncomputable def Ot (c:TT)(tb:TS):TS:=fun D σ H=>∃W:Nat->St->Hp->Prop,(∃m,W m σ H)/\∀m σ H,W m σ H ->
 c σ H fun b H1=>if b=true then ∃N:St->Hp->Prop,(∀σ' H',N σ' H'->∃m',m'<m/\W m' σ' H')/\tb { D with nx:=N,ct:=N,bk:=D.nx } σ H1 else D.nx σ H1
theorem Qv {c:Expr}{body:List Stmt}{tc:TT}{tb:TS}(hp:PassesOwn (A0 X.prog X.w) X.A X.env X.xe)(hc:PT X c tc)(hb:PSs X body tb):PS X (.While c body [] pos) (Ot tc tb):=by
 intro pins s σ H D I h;obtain⟨W,⟨m0,w0⟩,turn⟩:=h;refine wpAny_While (codeAny_whileLoop (fun n s'=>∃σ' H',Inv X pins σ' H' s'/\W n σ' H') ?_ m0 ⟨σ,H,I,w0⟩);rintro n s1 ⟨σ1,H1,I1,w1⟩;refine E5 hp (thT (hc pins s1 σ1 H1 _ I1 (turn n σ1 H1 w1)) fun b s2 H2 I2 q2=>?_);cases b with
 | true=>
  obtain⟨N,hN,q2⟩:=q2;rw[if_pos rfl];refine E5 hp (thn (hb pins s2 σ1 H2 _ I2 q2) fun f s3 q3=>?_);cases f with
  | next=>
   obtain⟨σ3,H3,I3,n3⟩:=q3;obtain⟨m',hm,w3⟩:=hN σ3 H3 n3;exact⟨m',hm,σ3,H3,I3,w3⟩
  | cont=>
   obtain⟨σ3,H3,I3,n3⟩:=q3;obtain⟨m',hm,w3⟩:=hN σ3 H3 n3;exact⟨m',hm,σ3,H3,I3,w3⟩
  | brk=>exact q3
  | ret v=>exact q3
 | false=>
  rw[if_neg AZ];exact IC ⟨σ1,H2,I2,q2⟩
end
structure It where
 go:Nat->Hp->Prop
 yld:Nat->Hp->V->Hp->Prop
 stop:Nat->Hp->Prop
noncomputable def zK (X:Cx)(pins:List (Addr×Obj))(H:Hp)(b:Addr):Prop:=
 H b=none/\b≠X.env.locals/\b∉X.fs/\(b∈X.ex\/X.s₀.heap.objs.size<=b)/\(∀x c,X.env.cells.lookup x=some c->c≠b)/\∀p∈X.pn++pins,p.1≠b
theorem Inv.WD {X:Cx}{pins:List (Addr×Obj)}{σ:St}{H H':Hp}{s:AC}{b:Addr}(I:Inv X pins σ H s)(hb:s.heap.objs.size<=b)(hn:H' b=none):zK X pins H' b:=by
 refine⟨hn,ne_of_gt (A8 I.lt hb),I.Y6 hb,.inr (Be I.sz hb),fun x c e z=>?_,fun p hp z=>?_⟩
 ·obtain⟨v,q⟩:=I.cell x c e;exact absurd (A8 q.lt (by rw[z];exact hb)) (C8 _)
 exact absurd (A8 (A4 (I.pin p hp).1) (by rw[z];exact hb)) (C8 _)
structure Turn (P:AV)(w:A6)(K:AE)(tg:Expr)(J:It)(fp:List Addr)(it:Addr)(tn:Nat->Heap->Prop):Prop where
 mem:it∈fp
 obj:∀i h,tn i h->∀b∈fp,∃o,h.get? b=some o/\∀v,o.data≠.cell v
 keep:∀i h h',tn i h->(∀b∈fp,∀o,h.get? b=some o->h'.get? b=some o)->tn i h'
 item:∀(X:Cx),X.prog=P->X.w=w->X.K=K->X.calm=true->∀(i:Nat)(pins:List (Addr×Obj)) (s:AC) (σ:St) (H:Hp) (E:An->AC->Prop),Inv X pins σ H s->(∀b∈fp,zK X pins H b)->tn i s.heap->J.go i H ->
  AG (A0 P w) X.A (ES (.ref it)) (fun r s1=>∃u,r=some u /\
   AG (A0 P w) X.A (IE tg (.ref it) u) (fun _ s2=>∃x H',Inv X pins σ H' s2/\RelV x u/\J.yld i H x H'/\tn (i+1) s2.heap/\∀b∈fp,H' b=none) E s1) E s
 done:∀(X:Cx),X.prog=P->X.w=w->X.K=K->X.calm=true->∀(i:Nat)(pins:List (Addr×Obj)) (s:AC) (σ:St) (H:Hp) (E:An->AC->Prop),Inv X pins σ H s->(∀b∈fp,zK X pins H b)->tn i s.heap->J.stop i H ->
  AG (A0 P w) X.A (ES (.ref it)) (fun r s1=>r=none/\Inv X pins σ H s1) E s
 self:∀(A:A7)(i:Nat)(s:AC)(Q:An->AC->Prop)(E:An->AC->Prop),tn i s.heap->Q (.ref it) s->AG (A0 P w) A (pyIter (.ref it)) Q E s
noncomputable abbrev TI:=St->Hp->(It->Hp->Prop)->Prop
noncomputable def PIE (X:Cx)(pins:List (Addr×Obj))(σ:St)(tg:Expr)(R:It->Hp->Prop)(itv:An)(s2:AC):Prop:=
 ∃(it:Addr)(fp:List Addr)(tn:Nat->Heap->Prop)(J:It)(H':Hp),itv=.ref it/\Inv X pins σ H' s2/\Turn X.prog X.w X.K tg J fp it tn/\tn 0 s2.heap/\(∀b∈fp,zK X pins H' b)/\R J H'
noncomputable def PI (X:Cx)(tg iter:Expr)(wi:TI):Prop:=
 ∀(pins:List (Addr×Obj)) (s:AC) (σ:St) (H:Hp) (R:It->Hp->Prop),Inv X pins σ H s->wi σ H R ->
  AG (A0 X.prog X.w) X.A (eval iter X.env) (fun v s1=>AG (A0 X.prog X.w) X.A (pyIter v) (PIE X pins σ tg R) X.xe s1) X.xe s
theorem Kr {M:Model}{A:A7}{E:An->AC->Prop}{s:AC}{tg:Expr}{it:Addr}{u:An}{o:Obj}{n:String}{vs:Array An}{Q:Unit->AC->Prop}(ho:s.heap.get? it=some o)(hc:o.cls=.type n)(hd:o.data=.fields vs)
  (hn:["enumerate","zip","dict_itemiterator","dict_reverseitemiterator","odict_iterator","itertools.zip_longest","itertools.pairwise"].contains n=false) (hQ:Q () s):AG M A (IE tg (.ref it) u) Q E s:=by
 unfold IE;cases tg <;> first
  | exact Au hQ
  | (cases u <;> first
    | exact Au hQ
    | (refine Ap (wpAny_load ho ?_)
       rw[hc,hd];show AG M A (if (["enumerate","zip","dict_itemiterator","dict_reverseitemiterator","odict_iterator","itertools.zip_longest","itertools.pairwise"].contains n&&vs[0]? == some (FH _))=true then _ else _) Q E s;rw[if_neg (by intro h;rw[hn,FV] at h;cases h)];exact Au hQ))
noncomputable def Itl (K:AE)(a:Addr):It:=
 ⟨fun i H=>∃xs x,SqL K H a xs/\xs[i]?=some x,fun i H x H'=>H'=H/\∀xs,SqL K H a xs->xs[i]?=some x,fun i H=>∃xs,SqL K H a xs/\xs.length<=i⟩
noncomputable def Itt (K:AE)(a:Addr):It:=
 ⟨fun i H=>∃xs x,SqT K H a xs/\xs[i]?=some x,fun i H x H'=>H'=H/\∀xs,SqT K H a xs->xs[i]?=some x,fun i H=>∃xs,SqT K H a xs/\xs.length<=i⟩
noncomputable def Itr (lo:Int)(n:Nat):It:=⟨fun i _=>i<n,fun i H x H'=>H'=H/\x=.int (lo+i),fun i _=>n<=i⟩
theorem La {P:AV}{w:A6}{K:AE}{tg:Expr}(a it:Addr):Turn P w K tg (Itl K a) [it] it (fun i h=>h.IsListIter it a i) where
 mem:=by simp
 obj:=fun i h st b hb=>by
  have e:b=it:=by simpa using hb
  subst e;obtain⟨o,e,c,d⟩:=st;exact⟨o,e,fun v z=>by rw[d] at z;cases z⟩
 keep:=fun i h h' st k=>st.at fun o e=>k it (by simp) o e
 item:=by
  intro X hP hw hK hc i pins s σ H E I hf st hg;subst hP hw hK;obtain⟨xs,x,hq,hx⟩:=hg;obtain⟨its,rv,p,hz⟩:=I.list hq;obtain⟨u,hu,ru⟩:=rv.get hx;obtain⟨f0,f1,f2,f3,f4,f5⟩:=hf it (by simp);refine wpAny_pyNext_list_item st p.isList (x:=u) (by simpa using hu) fun h' st' sb=>?_;have I1:Inv X pins σ H { s with heap:=h' }:=I.turned (t':=s.toks) (fun b o hb e=>(sb.2 b hb).trans e) f0 f1 f3 f4 f5;obtain⟨o,e,c,d⟩:=id st';exact⟨u,rfl,Kr (s:={ s with heap:=h' }) e c d δ ⟨x,H,I1,ru,⟨rfl,fun ys hy=>by rw[I.RP hy hq];exact hx⟩,st',fun b hb=>(hf b hb).1⟩⟩
 done:=by
  intro X hP hw hK hc i pins s σ H E I hf st hg;subst hP hw hK;obtain⟨xs,hq,hx⟩:=hg;obtain⟨its,rv,p,hz⟩:=I.list hq;obtain⟨f0,f1,f2,f3,f4,f5⟩:=hf it (by simp);have hl:=rv.length;exact wpAny_pyNext_list_end (I.ok.hd hc) st p.isList (by simp;omega) fun h' eb=>⟨rfl,I.turned (t':=s.toks) (fun b o hb e=>eb b o hb e) f0 f1 f3 f4 f5⟩
 self:=fun _ _ _ _ _ st h=>wpAny_pyIter_listiter st h
theorem GX {P:AV}{w:A6}{K:AE}{tg:Expr}(a it:Addr):Turn P w K tg (Itt K a) [it] it (fun i h=>h.IsTupleIter it a i) where
 mem:=by simp
 obj:=fun i h st b hb=>by
  have e:b=it:=by simpa using hb
  subst e;obtain⟨o,e,c,d⟩:=st;exact⟨o,e,fun v z=>by rw[d] at z;cases z⟩
 keep:=fun i h h' st k=>st.at fun o e=>k it (by simp) o e
 item:=by
  intro X hP hw hK hc i pins s σ H E I hf st hg;subst hP hw hK;obtain⟨xs,x,hq,hx⟩:=hg;obtain⟨its,rv,p,hz⟩:=I.tuple hq;obtain⟨u,hu,ru⟩:=rv.get hx;obtain⟨f0,f1,f2,f3,f4,f5⟩:=hf it (by simp);refine wpAny_pyNext_tuple_item st (show s.heap.IsTuple a its.toArray from p) (x:=u) (by simpa using hu) fun h' st' sb=>?_;have I1:Inv X pins σ H { s with heap:=h' }:=I.turned (t':=s.toks) (fun b o hb e=>(sb.2 b hb).trans e) f0 f1 f3 f4 f5;obtain⟨o,e,c,d⟩:=id st';exact⟨u,rfl,Kr (s:={ s with heap:=h' }) e c d δ ⟨x,H,I1,ru,⟨rfl,fun ys hy=>by rw[I.Lb hy hq];exact hx⟩,st',fun b hb=>(hf b hb).1⟩⟩
 done:=by
  intro X hP hw hK hc i pins s σ H E I hf st hg;subst hP hw hK;obtain⟨xs,hq,hx⟩:=hg;obtain⟨its,rv,p,hz⟩:=I.tuple hq;obtain⟨f0,f1,f2,f3,f4,f5⟩:=hf it (by simp);have hl:=rv.length;exact wpAny_pyNext_tuple_end (I.ok.hd hc) st (show s.heap.IsTuple a its.toArray from p) (by simp;omega) fun h' eb=>⟨rfl,I.turned (t':=s.toks) (fun b o hb e=>eb b o hb e) f0 f1 f3 f4 f5⟩
 self:=fun _ _ _ _ _ st h=>wpAny_pyIter_tupleiter st h
theorem GZ {P:AV}{w:A6}{K:AE}{tg:Expr}(it:Addr)(lo:Int)(n:Nat):Turn P w K tg (Itr lo n) [it] it (fun i h=>IsRangeIter h it (lo+(i:Nat)*1) ((n:Int)-(i:Nat)) 1) where
 mem:=by simp
 obj:=fun i h st b hb=>by
  have e:b=it:=by simpa using hb
  subst e;exact⟨_,st,fun v z=>by
   have z':EN _=Data.cell v:=z;cases z'⟩
 keep:=fun i h h' st k=>k it (by simp) _ st
 item:=by
  intro X hP hw hK hc i pins s σ H E I hf st hg;subst hP hw hK;obtain⟨f0,f1,f2,f3,f4,f5⟩:=hf it (by simp);have W:=Walks.range (prog:=X.prog) (w:=X.w) (I.ok.hd hc) it lo 1 n;refine W.item i s _ _ hg st fun v h' tk hv st' kk=>?_;obtain⟨t,rfl⟩:=hv;have I1:Inv X pins σ H { s with heap:=h',toks:=tk }:=I.turned (fun b o hb e=>kk b o (by simpa using hb) e) f0 f1 f3 f4 f5;refine⟨_,rfl,Kr (s:={ s with heap:=h',toks:=tk }) (n := "range_iterator") st' rfl rfl δ ⟨.int (lo+i),H,I1,⟨t,?_⟩,⟨rfl,rfl⟩,st',fun b hb=>(hf b hb).1⟩⟩;rw[Int.mul_one]
 done:=by
  intro X hP hw hK hc i pins s σ H E I hf st hg;subst hP hw hK;obtain⟨f0,f1,f2,f3,f4,f5⟩:=hf it (by simp);exact wpAny_pyNext_range_end (I.ok.hd hc) st (by have:n<=i:=hg;omega) fun h' eb=>⟨rfl,I.turned (t':=s.toks) (fun b o hb e=>eb b o hb e) f0 f1 f3 f4 f5⟩
 self:=fun _ _ _ _ _ st h=>wpAny_pyIter_rangeiter st h
section
variable {X:Cx}{tg:Expr}
theorem Eg {pins:List (Addr×Obj)}{σ:St}{H:Hp}{s:AC}{R:It->Hp->Prop}{E:An->AC->Prop}{lo hi:Int}{t u v:Tok}{tk:Nat}(I:Inv X pins σ H s)(h1:-(2^62)<=lo)(h2:lo<2^62)(h3:-(2^62)<=hi)(h4:hi<2^62)
  (q:R (Itr lo (hi-lo).toNat) H):AG (A0 X.prog X.w) X.A (pyIter (.ref s.heap.objs.size)) (PIE X pins σ tg R) E { s with heap:=s.heap.push { cls:=.type "range",data:=.fields #[.int lo t,.int hi u,.int 1 v] },toks:=tk }:=by
 refine wpAny_pyIter_range (IsRange.new ..) (small_one h1 h2 h3 h4) ?_;have I1:Inv X pins σ H { s with heap:=s.heap.push { cls:=.type "range",data:=.fields #[.int lo t,.int hi u,.int 1 v] },toks:=tk }:=I.kept fun b o e=>AB _ e;refine⟨(s.heap.push { cls:=.type "range",data:=.fields #[.int lo t,.int hi u,.int 1 v] }).objs.size,[(s.heap.push { cls:=.type "range",data:=.fields #[.int lo t,.int hi u,.int 1 v] }).objs.size],_,_,H,rfl,
  I1.kept (t':=tk) fun b o e=>AB _ e,GZ _ lo (hi-lo).toNat,?_,fun b hb=>?_,q⟩
 ·have e1:lo+((0:Nat):Int)*1=lo:=by simp
  have e2:(((hi-lo).toNat:Nat):Int)-((0:Nat):Int)=AI.Range.rangeSize lo hi 1:=by rw[rangeSize_one];split <;> omega
  show IsRangeIter _ _ (lo+((0:Nat):Int)*1) ((((hi-lo).toNat:Nat):Int)-((0:Nat):Int)) 1;rw[e1,e2];exact AQ _ rfl
 have e:b=(s.heap.push { cls:=.type "range",data:=.fields #[.int lo t,.int hi u,.int 1 v] }).objs.size:=by simpa using hb
 subst e;exact I1.WD (A1 _) (I1.hok.fresh (A1 _))
noncomputable def uN (ta:TA):TI:=fun σ H R=>ta σ H fun vs H1=>∃j:Int,vs=[.int j]/\-(2^62)<=j/\j<2^62/\R (Itr 0 j.toNat) H1
noncomputable def Fv (ta:TA):TI:=fun σ H R=>ta σ H fun vs H1=>∃i j:Int,vs=[.int i,.int j]/\(-(2^62)<=i/\i<2^62/\-(2^62)<=j/\j<2^62)/\R (Itr i (j-i).toNat) H1
theorem Ma {a:Expr}{ta:TA}{p pos:Pos}(hg:Gl X "range") (hm:X.mg "range" = none) (ha:PA X [a] ta) (hs:AH [a] X.env=[(false,eval a X.env)]:=by rfl):PI X tg (.Call (.Name "range" p) [a] [] pos) (uN ta):=by
 intro pins s σ H R I h;refine Call_ (ji I hg hm boot_range (B0 (thA (ha pos pins s σ H _ I h) fun us s1 vs H1 I1 r1 q1=>?_) hs rfl));obtain⟨j,e,q1,q2,q⟩:=q1;subst e;cases r1 with
 | cons r rr=>
  cases rr;obtain⟨t,rfl⟩:=r;exact call_range_1 (Eg I1 ω ω q1 q2 (by simpa using q))
theorem LR {a b:Expr}{ta:TA}{p pos:Pos}(hg:Gl X "range") (hm:X.mg "range" = none) (ha:PA X [a,b] ta) (hs:AH [a,b] X.env=[(false,eval a X.env),(false,eval b X.env)]:=by rfl) (hs2:AH [b] X.env=[(false,eval b X.env)]:=by rfl) :
  PI X tg (.Call (.Name "range" p) [a,b] [] pos) (Fv ta):=by
 intro pins s σ H R I h;refine Call_ (ji I hg hm boot_range (B0 (thA (ha pos pins s σ H _ I h) fun us s1 vs H1 I1 r1 q1=>?_) (by rw[hs,hs2]) (by rw[hs2];rfl)));obtain⟨i,j,e,⟨q1,q2,q3,q4⟩,q⟩:=q1;subst e;cases r1 with
 | cons r rr=>
  cases rr with
  | cons r' rr=>
   cases rr;obtain⟨t,rfl⟩:=r;obtain⟨t',rfl⟩:=r';exact call_range_2 (Eg I1 q1 q2 q3 q4 q)
noncomputable def Xz (wi:TI)(g:TG)(tb:TS):TS:=fun D σ H=>wi σ H fun J H1=>∃W:Nat->Nat->St->Hp->Prop,(∃m,W 0 m σ H1)/\∀i m σ H,W i m σ H ->
 (J.stop i H/\D.nx σ H)\/(J.go i H/\∃N:St->Hp->Prop,(∀σ' H',N σ' H'->∃m',m'<m/\W (i+1) m' σ' H')/\∀x H',J.yld i H x H'->g x σ H' fun σ2 H2=>tb { D with nx:=N,ct:=N,bk:=D.nx } σ2 H2)
noncomputable def kh (fp:List Addr)(h:Heap):List (Addr×Obj):=fp.filterMap fun b=>(h.get? b).map fun o=>(b,o)
theorem mJ {fp:List Addr}{h:Heap}{b:Addr}{o:Obj}(hb:b∈fp)(e:h.get? b=some o):(b,o)∈kh fp h:=List.mem_filterMap.mpr ⟨b,hb,by rw[e];rfl⟩
theorem tO {fp:List Addr}{h:Heap}{p:Addr×Obj}(hp:p∈kh fp h):p.1∈fp/\h.get? p.1=some p.2:=by
 obtain⟨b,hb,e⟩:=List.mem_filterMap.mp hp;cases q:h.get? b with
 | none=>rw[q] at e;cases e
 | some o=>
  rw[q] at e;have e':(b,o)=p:=BO e;subst e';exact⟨hb,q⟩
theorem Inv.pinned {pins:List (Addr×Obj)}{σ:St}{H:Hp}{s:AC}{fp:List Addr}(I:Inv X pins σ H s)(hf:∀b∈fp,zK X pins H b)(ho:∀b∈fp,∃o,s.heap.get? b=some o/\∀v,o.data≠.cell v):Inv X (pins++kh fp s.heap) σ H s:=
 I.pq fun p hp=>(CF.mp hp).elim (fun z=>I.pin p (BI _ z)) fun z=>by
  obtain⟨hb,e⟩:=tO z;obtain⟨f0,f1,f2,_⟩:=hf p.1 hb;obtain⟨o,e',d⟩:=ho p.1 hb;rw[e] at e';cases e';exact⟨e,f0,f1,f2,d⟩
theorem Inv.nQ {pins pl:List (Addr×Obj)}{σ:St}{H:Hp}{s:AC}(I:Inv X (pins++pl) σ H s):Inv X pins σ H s:=I.pq fun p hp=>I.pin p (BI _ (GG _ hp))
theorem Yq {iter:Expr}{body:List Stmt}{wi:TI}{g:TG}{tb:TS}{pos:Pos}(hp:PassesOwn (A0 X.prog X.w) X.A X.env X.xe)(hc:X.calm=true)(hi:PI X tg iter wi)(hg:PG X tg g)(hb:PSs X body tb)
  (hs:∀x,E9 iter X.env x=pure x:=by intro _;rfl):PS X (.For tg iter body [] pos) (Xz wi g tb):=by
 intro pins s σ H D I h;refine wpAny_For (thn (hi pins s σ H _ I h) fun v s1 h1=>thn h1 fun itv s2 h2=>?_) hs;obtain⟨it,fp,tn,J,H2,e,I2,T,st2,f2,W,⟨m0,w0⟩,turn⟩:=h2;subst e
 -- what stays true of the iterator's objects through the loop
 have stat:∀{H':Hp},(∀b∈fp,H' b=none)->∀b∈fp,zK X pins H' b:=fun hn b hb=>⟨hn b hb,(f2 b hb).2⟩;refine codeAny_forLoop_any (fun n s'=>∃i σ' H',Inv X pins σ' H' s'/\tn i s'.heap/\(∀b∈fp,H' b=none)/\W i n σ' H') ?_ m0 ⟨0,σ,H2,I2,st2,fun b hb=>(f2 b hb).1,w0⟩;rintro n s3 ⟨i,σ3,H3,I3,st3,fr3,w3⟩;rcases turn i n σ3 H3 w3 with⟨stop,qn⟩|⟨go,N,hN,step⟩
 ·refine E5 hp (thn (T.done X rfl rfl rfl hc i pins s3 σ3 H3 X.xe I3 (stat fr3) st3 stop) fun r s4 ⟨hr,I4⟩=>?_);subst hr;exact IC ⟨σ3,H3,I4,qn⟩
 refine E5 hp (thn (T.item X rfl rfl rfl hc i pins s3 σ3 H3 X.xe I3 (stat fr3) st3 go) fun r s4 ⟨u,hr,h4⟩=>?_);subst hr;refine E5 hp (thn h4 fun _ s5 ⟨x,H5,I5,r5,y5,st5,fr5⟩=>?_);have I5':=I5.pinned (stat fr5) (T.obj _ _ st5);refine E5 hp (thn (hg _ s5 σ3 H5 x u _ I5' r5 (step x H5 y5)) fun _ s6 ⟨σ6,H6,I6,q6⟩=>?_);refine E5 hp (thn (hb _ s6 σ6 H6 _ I6 q6) fun f s7 q7=>?_);have again:∀{σ7:St}{H7:Hp},Inv X (pins++kh fp s5.heap) σ7 H7 s7->N σ7 H7->∃m,m<n/\∃i σ' H',Inv X pins σ' H' s7/\tn i s7.heap/\(∀b∈fp,H' b=none)/\W i m σ' H':=fun {σ7 H7} I7 n7=>by
  obtain⟨m',hm,w7⟩:=hN σ7 H7 n7;refine⟨m',hm,i+1,σ7,H7,I7.nQ,T.keep _ _ _ st5 fun b hb o e=>(I7.pin (b,o) (BI _ (BI _ (mJ hb e)))).1,fun b hb=>?_,w7⟩;obtain⟨o,e,d⟩:=T.obj _ _ st5 b hb;exact(I7.pin (b,o) (BI _ (BI _ (mJ hb e)))).2.1
 cases f with
 | next=>obtain⟨σ7,H7,I7,n7⟩:=q7;exact again I7 n7
 | cont=>obtain⟨σ7,H7,I7,n7⟩:=q7;exact again I7 n7
 | brk=>obtain⟨σ7,H7,I7,q7⟩:=q7;exact⟨σ7,H7,I7.nQ,q7⟩
 | ret v=>obtain⟨x7,σ7,H7,I7,r7,q7⟩:=q7;exact⟨x7,σ7,H7,I7.nQ,r7,q7⟩
end
theorem Sx {K:AE}{a:Addr}{xs:List V}{g:TG}{tb:TS}{D:Ends}{σ:St}{H:Hp}(Pv:Nat->St->Hp->Prop)(h0:Pv 0 σ H)(hl:∀i σ H,i<=xs.length->Pv i σ H->SqL K H a xs)
  (hs:∀i x σ H,xs[i]?=some x->Pv i σ H->g x σ H fun σ2 H2=>tb { D with nx:=Pv (i+1),ct:=Pv (i+1),bk:=D.nx } σ2 H2) (hd:∀σ H,Pv xs.length σ H->D.nx σ H) :
  ∃W:Nat->Nat->St->Hp->Prop,(∃m,W 0 m σ H)/\∀i m σ H,W i m σ H ->
   ((Itl K a).stop i H/\D.nx σ H)\/((Itl K a).go i H/\∃N:St->Hp->Prop,(∀σ' H',N σ' H'->∃m',m'<m/\W (i+1) m' σ' H')/\∀x H',(Itl K a).yld i H x H'->g x σ H' fun σ2 H2=>tb { D with nx:=N,ct:=N,bk:=D.nx } σ2 H2):=by
 refine⟨fun i m σ H=>m=xs.length-i/\i<=xs.length/\Pv i σ H,⟨xs.length,by simp,EI _,h0⟩,?_⟩;rintro i m σ H ⟨rfl,hi,p⟩;have q:=hl i σ H hi p;by_cases hlt:i<xs.length
 ·refine .inr ⟨⟨xs,xs[i],q,by simp [hlt]⟩,Pv (i+1),fun σ' H' p'=>⟨xs.length-(i+1),ω,rfl,hlt,p'⟩,fun x H' y=>?_⟩;obtain⟨e,y⟩:=y;subst e;exact hs i x σ _ (y xs q) p
 have e:i=xs.length:=ω;subst e;exact .inl ⟨⟨xs,q,A1 _⟩,hd σ H p⟩
theorem Ng {lo:Int}{n:Nat}{g:TG}{tb:TS}{D:Ends}{σ:St}{H:Hp}(Pv:Nat->St->Hp->Prop)(h0:Pv 0 σ H)
  (hs:∀i σ H,i<n->Pv i σ H->g (.int (lo+i)) σ H fun σ2 H2=>tb { D with nx:=Pv (i+1),ct:=Pv (i+1),bk:=D.nx } σ2 H2) (hd:∀σ H,Pv n σ H->D.nx σ H) :
  ∃W:Nat->Nat->St->Hp->Prop,(∃m,W 0 m σ H)/\∀i m σ H,W i m σ H ->
   ((Itr lo n).stop i H/\D.nx σ H)\/((Itr lo n).go i H/\∃N:St->Hp->Prop,(∀σ' H',N σ' H'->∃m',m'<m/\W (i+1) m' σ' H')/\∀x H',(Itr lo n).yld i H x H'->g x σ H' fun σ2 H2=>tb { D with nx:=N,ct:=N,bk:=D.nx } σ2 H2):=by
 refine⟨fun i m σ H=>m=n-i/\i<=n/\Pv i σ H,⟨n,by simp,EI _,h0⟩,?_⟩;rintro i m σ H ⟨rfl,hi,p⟩;by_cases hlt:i<n
 ·refine .inr ⟨hlt,Pv (i+1),fun σ' H' p'=>⟨n-(i+1),ω,rfl,hlt,p'⟩,fun x H' y=>?_⟩;obtain⟨e,y⟩:=y;subst e y;exact hs i σ _ hlt p
 have e:i=n:=ω;subst e;exact .inl ⟨A1 _,hd σ H p⟩
noncomputable abbrev R2:=V->V->Hp->VK->Prop
noncomputable def OpR (X:Cx)(f:An->An->Sem An)(r:R2):Prop:=
 ∀(pins:List (Addr×Obj)) (s:AC) (σ:St) (H:Hp) (x y:V) (v u:An) (Q:VK),Inv X pins σ H s->RelV x v->RelV y u->r x y H Q ->
  AG (A0 X.prog X.w) X.A (f v u) (EP X pins σ Q) X.xe s
noncomputable def UnR (X:Cx)(f:An->Sem An)(r:V->Hp->VK->Prop):Prop:=
 ∀(pins:List (Addr×Obj)) (s:AC) (σ:St) (H:Hp) (x:V) (v:An) (Q:VK),Inv X pins σ H s->RelV x v->r x H Q ->
  AG (A0 X.prog X.w) X.A (f v) (EP X pins σ Q) X.xe s
noncomputable def eV (X:Cx)(f:An)(r:List V->Hp->VK->Prop):Prop:=
 ∀(pins:List (Addr×Obj)) (s:AC) (σ:St) (H:Hp) (xs:List V) (us:List An) (Q:VK),Inv X pins σ H s->Vals xs us->r xs H Q ->
  AG (A0 X.prog X.w) X.A (call f us) (EP X pins σ Q) X.xe s
noncomputable def aa6 (X:Cx)(r:V->Hp->(Bool->Hp->Prop)->Prop):Prop:=
 ∀(pins:List (Addr×Obj)) (s:AC) (σ:St) (H:Hp) (x:V) (v:An) (Q:Bool->Hp->Prop),Inv X pins σ H s->RelV x v->r x H Q ->
  AG (A0 X.prog X.w) X.A (truthy v) (TP X pins σ Q) X.xe s
noncomputable def tOp (r:R2)(ta tb:TE):TE:=fun σ H Q=>ta σ H fun x H1=>tb σ H1 fun y H2=>r x y H2 Q
noncomputable def tUn (r:V->Hp->VK->Prop)(ta:TE):TE:=fun σ H Q=>ta σ H fun x H1=>r x H1 Q
noncomputable def rI (C:Int->Int->Prop)(g:Int->Int->V):R2:=fun x y H Q=>∃i j,x=.int i/\y=.int j/\C i j/\Q (g i j) H
noncomputable def rI0 (g:Int->Int->V):R2:=fun x y H Q=>∃i j,x=.int i/\y=.int j/\Q (g i j) H
noncomputable def rU (g:Int->V):V->Hp->VK->Prop:=fun x H Q=>∃i,x=.int i/\Q (g i) H
section
variable {X:Cx}{a b c:Expr}{ta tb tc:TE}{pos:Pos}
theorem ZJ (ha:PE X a ta)(hb:PE X b tb){pins:List (Addr×Obj)}{s:AC}{σ:St}{H:Hp}{R:V->V->Hp->Prop}(I:Inv X pins σ H s)
  (h:ta σ H fun x H1=>tb σ H1 fun y H2=>R x y H2) {Q:An->AC->Prop} {f:An->An->Sem An}
  (hf:∀v u s2 x y H2,Inv X pins σ H2 s2->RelV x v->RelV y u->R x y H2->AG (A0 X.prog X.w) X.A (f v u) Q X.xe s2) :
  AG (A0 X.prog X.w) X.A (eval a X.env) (fun v s₁=>AG (A0 X.prog X.w) X.A (eval b X.env) (fun u s₂=>AG (A0 X.prog X.w) X.A (f v u) Q X.xe s₂) X.xe s₁) X.xe s:=by
 refine thE (ha pins s σ H _ I h) fun v s1 x H1 I1 r1 q1=>?_;refine thE (hb pins s1 σ H1 _ I1 q1) fun u s2 y H2 I2 r2 q2=>?_;exact hf v u s2 x y H2 I2 r1 r2 q2
theorem aao {op:Operator}{r:R2}(ho:OpR X (D1 op) r)(ha:PE X a ta)(hb:PE X b tb):PE X (.BinOp a op b pos) (tOp r ta tb):=by
 intro pins s σ H Q I h;exact wpAny_BinOp (ZJ ha hb I h fun v u s2 x y H2 I2 rx ry q=>ho pins s2 σ H2 x y v u Q I2 rx ry q)
theorem aan {op:UnaryOp}{r:V->Hp->VK->Prop}(ho:UnR X (unaryOp op) r)(ha:PE X a ta):PE X (.UnaryOp op a pos) (tUn r ta):=by
 intro pins s σ H Q I h;exact UnaryOp_ (thE (ha pins s σ H _ I h) fun v s1 x H1 I1 r1 q1=>ho pins s1 σ H1 x v Q I1 r1 q1)
theorem opI {f:An->An->Sem An}{C:Int->Int->Prop}{g:Int->Int->Int}
  (rule:∀(i j:Int)(t u:Tok)(s:AC)(Q:An->AC->Prop)(E:An->AC->Prop),C i j->Q (.int (g i j) s.toks) { s with toks:=s.toks+1 }->AG (A0 X.prog X.w) X.A (f (.int i t) (.int j u)) Q E s) :
  OpR X f (rI C fun i j=>.int (g i j)):=by
 intro pins s σ H x y v u Q I rx ry h;obtain⟨i,j,rfl,rfl,hc,q⟩:=h;obtain⟨t,rfl⟩:=rx;obtain⟨t',rfl⟩:=ry;exact rule i j t t' s _ _ hc ⟨.int (g i j),H,I.tok _,⟨_,rfl⟩,q⟩
theorem YX {f:An->An->Sem An}{g:Int->Int->Int}
  (rule:∀(i j:Int)(t u:Tok)(s:AC)(Q:An->AC->Prop)(E:An->AC->Prop),Q (.int (g i j) s.toks) { s with toks:=s.toks+1 }->AG (A0 X.prog X.w) X.A (f (.int i t) (.int j u)) Q E s) :
  OpR X f (rI0 fun i j=>.int (g i j)):=by
 intro pins s σ H x y v u Q I rx ry h;obtain⟨i,j,rfl,rfl,q⟩:=h;obtain⟨t,rfl⟩:=rx;obtain⟨t',rfl⟩:=ry;exact rule i j t t' s _ _ ⟨.int (g i j),H,I.tok _,⟨_,rfl⟩,q⟩
theorem V5 {f:An->An->Sem An}{g:Int->Int->Bool}
  (rule:∀(i j:Int)(t u:Tok)(s:AC)(Q:An->AC->Prop)(E:An->AC->Prop),Q (.bool (g i j)) s->AG (A0 X.prog X.w) X.A (f (.int i t) (.int j u)) Q E s) :
  OpR X f (rI0 fun i j=>.bl (g i j)):=by
 intro pins s σ H x y v u Q I rx ry h;obtain⟨i,j,rfl,rfl,q⟩:=h;obtain⟨t,rfl⟩:=rx;obtain⟨t',rfl⟩:=ry;exact rule i j t t' s _ _ ⟨.bl (g i j),H,I,rfl,q⟩
noncomputable def Xe (i j:Int):Prop:=0<=j/\j<=1000000/\i.natAbs<2^64
noncomputable def N8 (i j:Int):Prop:=(-(2^64)<i/\i<2^64)\/(-(2^64)<j/\j<2^64)
theorem N8.ok {i j:Int}(h:N8 i j):IntMulOk i j:=by
 rcases h with⟨h1,h2⟩|⟨h1,h2⟩
 ·exact .of_left (intBits_le_64 h1 h2)
 exact .of_right (intBits_le_64 h1 h2)
theorem GR (k:Nat):(0:Int)<=2^k:=by
 rw[two_pow_cast];exact Int.natCast_nonneg _
theorem YW:OpR X (D1 .Add) (rI0 fun i j=>.int (i+j)):=YX fun _ _ _ _ _ _ _ q=>add_int q
theorem fJ:OpR X (D1 .Sub) (rI0 fun i j=>.int (i-j)):=YX fun _ _ _ _ _ _ _ q=>sub_int q
theorem YM:OpR X (D1 .Mult) (rI N8 fun i j=>.int (i*j)):=opI fun _ _ _ _ _ _ _ hc q=>mul_int q hc.ok
theorem iD:OpR X (D1 .Mod) (rI (fun _ j=>0<j) fun i j=>.int (i%j)):=opI fun i j _ _ _ _ _ hc q=>by
 have h1:(0:Int)<j:=hc;exact mod_int' ω (by rw[Int.fmod_eq_emod_of_nonneg i ω];exact q)
theorem tM:OpR X (D1 .Pow) (rI Xe fun i j=>.int (i^j.toNat)):=opI fun _ _ _ _ _ _ _ hc q=>pow_int_small hc.1 hc.2.1 hc.2.2 q
theorem jK:OpR X (D1 .LShift) (rI Xe fun i j=>.int (i*2^j.toNat)):=opI fun _ _ _ _ _ _ _ hc q=>lshift_int_small hc.1 hc.2.1 hc.2.2 q
theorem YJ:OpR X (D1 .RShift) (rI (fun _ j=>0<=j) fun i j=>.int (i/2^j.toNat)):=opI fun i j _ _ _ _ _ hc q=>
 rshift_int hc (by rw[Int.fdiv_eq_ediv_of_nonneg i (GR _)];exact q)
theorem Q8:OpR X (D1 .BitAnd) (rI0 fun i j=>.int (AI.bitAnd i j)):=YX fun _ _ _ _ _ _ _ q=>and_int q
theorem unI {f:An->Sem An}{g:Int->Int}
  (rule:∀(i:Int)(t:Tok)(s:AC)(Q:An->AC->Prop)(E:An->AC->Prop),Q (.int (g i) s.toks) { s with toks:=s.toks+1 }->AG (A0 X.prog X.w) X.A (f (.int i t)) Q E s) :
  UnR X f (rU fun i=>.int (g i)):=by
 intro pins s σ H x v Q I rx h;obtain⟨i,rfl,q⟩:=h;obtain⟨t,rfl⟩:=rx;exact rule i t s _ _ ⟨.int (g i),H,I.tok _,⟨_,rfl⟩,q⟩
theorem mj:UnR X (unaryOp .USub) (rU fun i=>.int (-i)):=unI fun _ _ _ _ _ q=>neg_int q
end
noncomputable def Ui:V->V->Bool
 | .non,.non=>true | .non,.int _=>true | .int _,.non=>true | .non,.bl _=>true | .bl _,.non=>true | .non,.str _=>true | .str _,.non=>true
 | .int _,.int _=>true | .bl _,.bl _=>true | .str _,.str _=>true | .byt _,.byt _=>true
 | .int _,.str _=>true | .str _,.int _=>true | .bl _,.str _=>true | .str _,.bl _=>true
 | _,_=>false
noncomputable def rEq:R2:=fun x y H Q=>Ui x y=true/\Q (.bl (decide (x=y))) H
noncomputable def rNe:R2:=fun x y H Q=>Ui x y=true/\Q (.bl (!decide (x=y))) H
theorem KJ {i j:Int}:decide (V.int i=V.int j)=(i == j):=by
 rw[FM];simp
theorem SX {i j:Bool}:decide (V.bl i=V.bl j)=(i == j):=by
 rw[FM];simp
theorem KH {i j:Str}:decide (V.str i=V.str j)=(i == j):=by
 rw[FM];simp
theorem KN {i j:Array UInt8}:decide (V.byt i=V.byt j)=(i.toList == j.toList):=by
 rw[FM];cases i;cases j;simp
section
variable {X:Cx}{a b c:Expr}{ta tb tc:TE}{pos:Pos}
theorem cg {pins:List (Addr×Obj)}{σ:St}{H:Hp}{s:AC}{Q:VK}{k k':Bool}(I:Inv X pins σ H s)(q:Q (.bl k) H)(e:k=k'):EP X pins σ Q (.bool k') s:=by
 subst e;exact⟨.bl k,H,I,rfl,q⟩
theorem aax:OpR X (Cn .Eq) rEq:=by
 intro pins s σ H x y v u Q I rx ry h;obtain⟨hs,q⟩:=h;cases x with
 | non=>
  cases rx;cases y with
  | non=>cases ry;exact PySem.EqNone.eq_none_none (cg I q (by simp))
  | bl j=>cases ry;exact PySem.EqNone.eq_none_bool (cg I q (by simp))
  | int j=>obtain⟨t',rfl⟩:=ry;exact PySem.EqNone.eq_none_int (cg I q (by simp))
  | str j=>obtain⟨t',rfl⟩:=ry;exact PySem.EqNone.eq_none_str (cg I q (by simp))
  | _=>exact absurd (show false=true from hs) AZ
 | bl i=>
  cases rx;cases y with
  | non=>cases ry;exact PySem.EqNone.eq_bool_none (cg I q (by simp))
  | bl j=>cases ry;exact eq_bool (cg I q SX)
  | str j=>obtain⟨t',rfl⟩:=ry;exact PySem.EqMixed.eq_bool_str (cg I q (by simp))
  | _=>exact absurd (show false=true from hs) AZ
 | int i=>
  obtain⟨t,rfl⟩:=rx;cases y with
  | non=>cases ry;exact PySem.EqNone.eq_int_none (cg I q (by simp))
  | int j=>obtain⟨t',rfl⟩:=ry;exact eq_int (cg I q KJ)
  | str j=>obtain⟨t',rfl⟩:=ry;exact PySem.EqMixed.eq_int_str (cg I q (by simp))
  | _=>exact absurd (show false=true from hs) AZ
 | str i=>
  obtain⟨t,rfl⟩:=rx;cases y with
  | non=>cases ry;exact PySem.EqNone.eq_str_none (cg I q (by simp))
  | bl j=>cases ry;exact PySem.EqMixed.eq_str_bool (cg I q (by simp))
  | int j=>obtain⟨t',rfl⟩:=ry;exact PySem.EqMixed.eq_str_int (cg I q (by simp))
  | str j=>obtain⟨t',rfl⟩:=ry;exact eq_str (cg I q KH)
  | _=>exact absurd (show false=true from hs) AZ
 | byt i=>
  obtain⟨t,rfl⟩:=rx;cases y with
  | byt j=>obtain⟨t',rfl⟩:=ry;exact PySem.W.eq_bytes (cg I q KN)
  | _=>exact absurd (show false=true from hs) AZ
 | _=>cases y <;> exact absurd (show false=true from hs) AZ
theorem aaw:OpR X (Cn .NotEq) rNe:=by
 intro pins s σ H x y v u Q I rx ry h;obtain⟨hs,q⟩:=h;cases x with
 | non=>
  cases rx;cases y with
  | non=>cases ry;exact PySem.EqNone.ne_none_none (cg I q (by simp))
  | bl j=>cases ry;exact PySem.EqNone.ne_none_bool (cg I q (by simp))
  | int j=>obtain⟨t',rfl⟩:=ry;exact PySem.EqNone.ne_none_int (cg I q (by simp))
  | str j=>obtain⟨t',rfl⟩:=ry;exact PySem.EqNone.ne_none_str (cg I q (by simp))
  | _=>exact absurd (show false=true from hs) AZ
 | bl i=>
  cases rx;cases y with
  | non=>cases ry;exact PySem.EqNone.ne_bool_none (cg I q (by simp))
  | bl j=>cases ry;exact ne_bool (cg I q (congrArg not SX))
  | str j=>obtain⟨t',rfl⟩:=ry;exact PySem.EqMixed.ne_bool_str (cg I q (by simp))
  | _=>exact absurd (show false=true from hs) AZ
 | int i=>
  obtain⟨t,rfl⟩:=rx;cases y with
  | non=>cases ry;exact PySem.EqNone.ne_int_none (cg I q (by simp))
  | int j=>obtain⟨t',rfl⟩:=ry;exact ne_int (cg I q (congrArg not KJ))
  | str j=>obtain⟨t',rfl⟩:=ry;exact PySem.EqMixed.ne_int_str (cg I q (by simp))
  | _=>exact absurd (show false=true from hs) AZ
 | str i=>
  obtain⟨t,rfl⟩:=rx;cases y with
  | non=>cases ry;exact PySem.EqNone.ne_str_none (cg I q (by simp))
  | bl j=>cases ry;exact PySem.EqMixed.ne_str_bool (cg I q (by simp))
  | int j=>obtain⟨t',rfl⟩:=ry;exact PySem.EqMixed.ne_str_int (cg I q (by simp))
  | str j=>obtain⟨t',rfl⟩:=ry;exact ne_str (cg I q (congrArg not KH))
  | _=>exact absurd (show false=true from hs) AZ
 | byt i=>
  obtain⟨t,rfl⟩:=rx;cases y with
  | byt j=>obtain⟨t',rfl⟩:=ry;exact PySem.W.ne_bytes (cg I q (congrArg not KN))
  | _=>exact absurd (show false=true from hs) AZ
 | _=>cases y <;> exact absurd (show false=true from hs) AZ
theorem pX:OpR X (Cn .Lt) (rI0 fun i j=>.bl (decide (i<j))):=V5 fun _ _ _ _ _ _ _ q=>lt_int q
theorem Aa:OpR X (Cn .LtE) (rI0 fun i j=>.bl (decide (i<=j))):=V5 fun _ _ _ _ _ _ _ q=>le_int q
theorem Ep:OpR X (Cn .Gt) (rI0 fun i j=>.bl (decide (j<i))):=V5 fun _ _ _ _ _ _ _ q=>gt_int q
theorem Xk:OpR X (Cn .GtE) (rI0 fun i j=>.bl (decide (j<=i))):=V5 fun _ _ _ _ _ _ _ q=>ge_int q
theorem aO (b:Expr){op:CmpOp}(h:op≠.In:=by decide)(h2:op≠.NotIn:=by decide):F8 op b=false:=by
 have e1:(op == CmpOp.In)=false:=by cases op <;> first|rfl|exact absurd rfl h
 have e2:(op == CmpOp.NotIn)=false:=by cases op <;> first|rfl|exact absurd rfl h2
 cases b <;> simp [F8,e1,e2]
theorem VJ {op:CmpOp}{r:R2}(ho:OpR X (Cn op) r)(ha:PE X a ta)(hb:PE X b tb)(hm:F8 op b=false):PE X (.Compare a [op] [b] pos) (tOp r ta tb):=by
 intro pins s σ H Q I h;exact wpAny_Compare1 (ZJ ha hb I h fun v u s2 x y H2 I2 rx ry q=>ho pins s2 σ H2 x y v u Q I2 rx ry q) hm
noncomputable def Dy (t:TE):TT:=fun σ H Q=>t σ H fun x H'=>∃k,x=.bl k/\Q k H'
theorem Va {op:CmpOp}{r:R2}(ho:OpR X (Cn op) r)(ha:PE X a ta)(hb:PE X b tb)(hm:F8 op b=false):PT X (.Compare a [op] [b] pos) (Dy (tOp r ta tb)):=by
 intro pins s σ H Q I h;refine wpAny_isTrue_Compare1 (thE (ha pins s σ H _ I h) fun v s1 x H1 I1 r1 q1=>thE (hb pins s1 σ H1 _ I1 q1) fun u s2 y H2 I2 r2 q2=>
  thn (ho pins s2 σ H2 x y v u _ I2 r1 r2 q2) fun c s3 ⟨z,H3,I3,r3,k,e,q3⟩=>?_) hm
 subst e;cases r3;exact Ex ⟨H3,I3,q3⟩
noncomputable def G8 (r r':R2)(ta tb tc:TE):TE:=fun σ H Q=>ta σ H fun x H1=>tb σ H1 fun y H2=>r x y H2 fun z H3=>∃k,z=.bl k /\
 (if k=true then tc σ H3 fun w' H4=>r' y w' H4 Q else Q (.bl false) H3)
theorem QZ {op op':CmpOp}{r r':R2}(ho:OpR X (Cn op) r)(ho':OpR X (Cn op') r')(ha:PE X a ta)(hb:PE X b tb)(hc:PE X c tc)
  (hm:lastMarks [op,op'] [b,c]=false:=by with_unfolding_all rfl):PE X (.Compare a [op,op'] [b,c] pos) (G8 r r' ta tb tc):=by
 intro pins s σ H Q I h;refine Compare_chain (thE (ha pins s σ H _ I h) fun v s1 x H1 I1 r1 q1=>chain_link (thE (hb pins s1 σ H1 _ I1 q1) fun u s2 y H2 I2 r2 q2=>
  thn (ho pins s2 σ H2 x y v u _ I2 r1 r2 q2) fun d s3 ⟨z,H3,I3,r3,k,e,q3⟩=>?_)) hm
 subst e;cases r3;refine Ex ?_;cases k with
 | false=>exact ite_ff ⟨.bl false,H3,I3,rfl,q3⟩
 | true=>exact ite_tt (chain_last (thn (hc pins s3 σ H3 _ I3 q3) fun w' s4 ⟨z',H4,I4,r4,q4⟩=>ho' pins s4 σ H4 y z' u w' Q I4 r2 r4 q4))
noncomputable def aa5 (K:AE)(x:V)(H:Hp)(k:Bool):Prop:=
 match x with
 | .non=>k=false
 | .bl b=>k=b
 | .int i=>k=(i != 0)
 | .str y=>y.length<=AL/\k=((y.length:Int) != 0)
 | .byt y=>y.size<=AL/\k=((y.size:Int) != 0)
 | .ref p=>(∃xs,SqL K H p xs/\k=!xs.isEmpty)\/(∃xs,SqT K H p xs/\k=!xs.isEmpty)\/∃kvs,H p=some (.dK kvs)/\k=!kvs.isEmpty
 | _=>False
theorem Ip {κ:Type}{kvs:List (κ×V)}{vs:List (κ×An)}(r:KV kvs vs):(!vs.isEmpty)=!kvs.isEmpty:=by
 cases r <;> rfl
theorem xU {xs:List V}{its:List An}(r:Vals xs its):(!its.toArray.isEmpty)=!xs.isEmpty:=by
 cases r <;> simp
theorem xT:(AL:Nat)<2^63:=by rw[IJ];decide
theorem Xv:aa6 X (fun x H Q=>∃k,aa5 X.K x H k/\Q k H):=by
 intro pins s σ H x v Q I rx h;obtain⟨k,e,q⟩:=h;have hl:=xT;have hs:AL=16777216:=IJ;cases x with
 | non=>
  cases rx;have e':k=false:=e;subst e';exact truthy_none ⟨H,I,q⟩
 | bl b=>
  cases rx;have e':k=b:=e;subst e';exact Ex ⟨H,I,q⟩
 | int i=>
  obtain⟨t,rfl⟩:=rx;have e':k=(i != 0):=e;subst e';exact PySem.P.truthy_int ⟨H,I,q⟩
 | str y=>
  obtain⟨t,rfl⟩:=rx;obtain⟨hy,e'⟩:y.length<=AL/\k=((y.length:Int) != 0):=e;subst e';exact PySem.P.truthy_str ω ⟨H,I.tok _,q⟩
 | byt y=>
  obtain⟨t,rfl⟩:=rx;obtain⟨hy,e'⟩:y.size<=AL/\k=((y.size:Int) != 0):=e;subst e';exact PySem.W.truthy_bytes ω ⟨H,I.tok _,q⟩
 | ref p=>
  cases rx;have e':(∃xs,SqL X.K H p xs/\k=!xs.isEmpty)\/(∃xs,SqT X.K H p xs/\k=!xs.isEmpty)\/∃kvs,H p=some (.dK kvs)/\k=!kvs.isEmpty:=e;rcases e' with⟨xs,hx,e'⟩|⟨xs,hx,e'⟩|⟨kvs,hx,e'⟩
  ·subst e';obtain⟨its,r,pl,hz⟩:=I.list hx;have hlen:=r.length;exact wpAny_truthy_list pl.isList (by simp only[AR];omega) ⟨H,I.tok _,by rw[xU r];exact q⟩
  ·subst e';obtain⟨its,r,pl,hz⟩:=I.tuple hx;have hlen:=r.length;exact truthy_tuple pl (by simp only[AR];omega) ⟨H,I.tok _,by rw[xU r];exact q⟩
  subst e';obtain⟨hz,hS,vs,r,m⟩:kvs.length<=AL/\(p == C6)=false/\∃vs,KV kvs vs/\s.heap.DictOf (aR X.prog X.w) p vs:=I.hok p _ hx;have hlen:kvs.length=vs.length:=Kb r;exact wpAny_truthy_dict hS m ω ⟨H,I.tok _,by rw[Ip r];exact q⟩
 | _=>exact(show False from e).elim
theorem vals1 {x:V}{us:List An}(r:Vals [x] us):∃u,us=[u]/\RelV x u:=by
 cases r with
 | cons r1 r2=>cases r2;exact⟨_,rfl,r1⟩
theorem vals2 {x y:V}{us:List An}(r:Vals [x,y] us):∃u w',us=[u,w']/\RelV x u/\RelV y w':=by
 cases r with
 | cons r1 r2=>
  cases r2 with
  | cons r3 r4=>cases r4;exact⟨_,_,rfl,r1,r3⟩
theorem Gn:eV X (.builtin "abs") (fun xs H Q=>∃i,xs=[.int i]/\Q (.int (if i<0 then -i else i)) H):=by
 intro pins s σ H xs us Q I r h;obtain⟨i,rfl,q⟩:=h;obtain⟨u,rfl,t,rfl⟩:=vals1 r;exact call_abs_int fun u tk=>⟨.int (if i<0 then -i else i),H,I.tok _,⟨_,rfl⟩,q⟩
theorem Ny (hc:X.calm=true):eV X (.builtin "max") (fun xs H Q=>∃i j,xs=[.int i,.int j]/\Q (.int (if j>i then j else i)) H):=by
 intro pins s σ H xs us Q I r h;obtain⟨i,j,rfl,q⟩:=h;obtain⟨u,w',rfl,⟨t,rfl⟩,⟨t',rfl⟩⟩:=vals2 r;refine max_two_ints (I.ok.hd hc) fun h' tk k=>⟨_,H,I.kept k,?_,q⟩;by_cases hj:j>i
 ·rw[if_pos hj,if_pos hj];exact⟨_,rfl⟩
 rw[if_neg hj,if_neg hj];exact⟨_,rfl⟩
theorem Nv (hc:X.calm=true):eV X (.builtin "min") (fun xs H Q=>∃i j,xs=[.int i,.int j]/\Q (.int (if j<i then j else i)) H):=by
 intro pins s σ H xs us Q I r h;obtain⟨i,j,rfl,q⟩:=h;obtain⟨u,w',rfl,⟨t,rfl⟩,⟨t',rfl⟩⟩:=vals2 r;refine min_two_ints (I.ok.hd hc) fun h' tk k=>⟨_,H,I.kept k,?_,q⟩;by_cases hj:j<i
 ·rw[if_pos hj,if_pos hj];exact⟨_,rfl⟩
 rw[if_neg hj,if_neg hj];exact⟨_,rfl⟩
theorem Aw:eV X (.type "int") (fun xs H Q=>(∃i,xs=[.int i]/\Q (.int i) H)\/∃k,xs=[.bl k]/\Q (.int (if k then 1 else 0)) H):=by
 intro pins s σ H xs us Q I r h;rcases h with⟨i,rfl,q⟩|⟨k,rfl,q⟩
 ·obtain⟨u,rfl,t,rfl⟩:=vals1 r;exact call_int_int ⟨.int i,H,I,⟨_,rfl⟩,q⟩
 obtain⟨u,rfl,r1⟩:=vals1 r;cases r1;exact call_int_bool ⟨.int (if k then 1 else 0),H,I.tok _,⟨_,rfl⟩,q⟩
end
structure ZP (h:Heap)(x dx C:Addr)(mA:Str->Option An):Prop where
 obj:h.get? x=some (PySem.W.instObj C dx)
 ns:h.Ns1 dx mA
 ne:dx≠x
theorem Mx {h:Heap}{dx:Addr}{mA:Str->Option An}(n:h.Ns1 dx mA):∃od,h.get? dx=some od/\∀name,PySem.W.lookIn name od=some (mA name):=by
 obtain⟨o,es,ep,ho,hd,hk,_,hm⟩:=n;refine⟨o,ho,fun name=>?_⟩;have e:=hm name;unfold nsFind findBy at e;rw[<- Array.find?_toList] at e;unfold PySem.W.lookIn;rw[hd];dsimp only;split
 ·rename_i y q;rw[q] at e;exact congrArg some e
 rename_i q;rw[q] at e;have a:es.toList.any (·.refKey)=false:=by
  rw[List.any_eq_false];intro y hy;obtain⟨z,t,hkey⟩:=hk y (Array.mem_toList_iff.mp hy);simp [DictEntry.refKey,hkey]
 have a':¬es.toList.any (·.refKey)=true:=by rw[a];exact AZ
 rw[if_neg a'];exact congrArg some e
theorem ZP.look {h:Heap}{x dx C:Addr}{mA:Str->Option An}(I:ZP h x dx C mA):∃od,PySem.W.InstAt h x (PySem.W.instObj C dx) C (some od)/\∀name,PySem.W.lookIn name od=some (mA name):=
 let ⟨od,ho,hl⟩:=Mx I.ns
 ⟨od,⟨I.obj,rfl,rfl,ho⟩,hl⟩
theorem yG.some_of {v:V}{o:Option An}(r:yG (some v) o):∃u,o=some u/\RelV v u:=by
 cases o with
 | none=>exact(show False from r).elim
 | some u=>exact⟨u,rfl,r⟩
section
variable {P:AV}{w:A6}{H H':Hp}{h h':Heap}{a C dx:Addr}{fs fs':List (Str×V)}
theorem Wt (hok:HOk P w H h)(e:H a=some (.ins C dx fs)):∃mA,ZP h a dx C mA/\(∀f,yG (fs.lookup f) (mA f))/\PySem.Within mA (fs.map (·.1))/\fs.length<=1000/\H dx=some (.own a):=by
 obtain⟨d,z,ne,ob,mA,n,r,q⟩:=(show dR P w H h a (.ins C dx fs) from hok a _ e);exact⟨mA,⟨ob,n,ne⟩,r,q,z,d⟩
end
structure Cls (K:AE)(C:Addr):Prop where
 pg:PySem.W.plainGet K C Str.empty=true
 hd:PySem.W.hasDictIn K C=true
 po:PySem.W.plainOver K C=true
 sa:GY K (.ref C) "__setattr__" = some (some (.builtin "object.__setattr__"))
theorem Cls.get {K:AE}{C:Addr}(c:Cls K C)(f:Str):PySem.W.plainGet K C f=true:=c.pg
noncomputable def aaN (X:Cx)(op:Operator)(rd:V->V->Hp->VK->Prop):Prop:=
 ∀(pins:List (Addr×Obj)) (s:AC) (σ:St) (H:Hp) (x y:V) (u v:An) (Q:VK),Inv X pins σ H s->RelV x u->RelV y v->rd x y H Q->AG (A0 X.prog X.w) X.A (inplaceOp op u v) (EP X pins σ Q) X.xe s
section
variable {X:Cx}{o e value:Expr}{f:Str}{pos pos' tpos:Pos}{ta tv:TE}
noncomputable def aae:V->V->Hp->VK->Prop:=fun x y H Q=>∃i j,x=.int i/\y=.int j/\Q (.int (i+j)) H
theorem Zt:aaN X .Add aae:=by
 rintro pins s σ H x y u v Q I rx ry ⟨i,j,rfl,rfl,q⟩;obtain⟨t,rfl⟩:=(show ∃t,u=An.int i t from rx);obtain⟨t',rfl⟩:=(show ∃t',v=An.int j t' from ry);exact PyProof.Rows.iadd_int ⟨.int (i+j),H,I.tok _,⟨_,rfl⟩,q⟩
end
section
variable {X:Cx}{pins:List (Addr×Obj)}{σ:St}{H:Hp}{s:AC}{A:A7}{E:An->AC->Prop}{Q:An->AC->Prop}{c:An}{b:Bool}
inductive sO (K:AE)(H:Hp):V->An->Prop where
 | non:sO K H .non (.type "NoneType")
 | bl (x:Bool):sO K H (.bl x) (.type "bool")
 | int (i:Int):sO K H (.int i) (.type "int")
 | str (x:Str):sO K H (.str x) (.type "str")
 | flt (x:UInt64):sO K H (.flt x) (.type "float")
 | lst {a:Addr} {xs:List V} (e:H a=some (.lst xs)):sO K H (.ref a) (.type "list")
 | frz {a:Addr} {o:Obj} {xs:List V} (e:H a=some (.frz o (.lst xs))):sO K H (.ref a) (.type "list")
 | tup {a:Addr} {xs:List V} (e:H a=some (.tup xs)):sO K H (.ref a) (.type "tuple")
 | dK {a:Addr} {kvs:List (Key×V)} (e:H a=some (.dK kvs)):sO K H (.ref a) (.type "dict")
 | dT {a:Addr} {kvs:List (List Key×V)} (e:H a=some (.dT kvs)):sO K H (.ref a) (.type "dict")
 | ins {a C dx:Addr} {fs:List (Str×V)} (e:H a=some (.ins C dx fs)) (cl:Cls K C) (ha:GY K (.ref C) "__class__" = some (some (.builtin "object.__class__")))
   (hn:PySem.W.specialIn K (.builtin "object.__class__") "__get__" = some (some (.builtin "getset_descriptor.__get__"))) (htk:PySem.W.takesIn K (.builtin "object.__class__")=some true)
   (hm:PySem.W.mroIn K C (.type "object")=some true):sO K H (.ref a) (.ref C)
theorem MN {x:V}{u t:An}(I:Inv X pins σ H s)(rx:RelV x u)(ty:sO X.K H x t)(e:kitOne X.K t c=some b)(h:∀tk,Q (.bool b) { s with toks:=tk }) :
  AG (A0 X.prog X.w) A (call (.builtin "isinstance") [u,c]) Q E s:=by
 cases ty with
 | non=>cases (show u=An.none from rx);exact C4 PySem.W.kitx_none I.kIn EH e (fun z=>nomatch z) h
 | bl y=>cases (show u=An.bool y from rx);exact C4 PySem.W.kitx_bool I.kIn EH e (fun z=>nomatch z) h
 | int i=>obtain⟨t,q⟩:=(show ∃t,u=An.int i t from rx);cases q;exact C4 PySem.W.kitx_int I.kIn EH e (fun z=>nomatch z) h
 | str y=>obtain⟨t,q⟩:=(show ∃t,u=An.str y t from rx);cases q;exact C4 PySem.W.kitx_str I.kIn EH e (fun z=>nomatch z) h
 | flt y=>obtain⟨t,q⟩:=(show ∃t,u=An.float y t from rx);cases q;exact C4 PySem.W.kitx_float I.kIn EH e (fun z=>nomatch z) h
 | @lst a xs ea=>
  cases (show u=An.ref a from rx);obtain⟨_,_,n,_,h1⟩:=(show dR X.prog X.w H s.heap a (.lst xs) from I.hok a _ ea);exact C4 PySem.W.kitx_list I.kIn ⟨_,h1,rfl⟩ e (fun z=>nomatch z) h
 | @frz a ob xs ea=>
  cases (show u=An.ref a from rx);obtain⟨_,_,_,n,_,h1⟩:=(show dR X.prog X.w H s.heap a (.frz ob (.lst xs)) from I.hok a _ ea);exact C4 PySem.W.kitx_list I.kIn ⟨_,h1,rfl⟩ e (fun z=>nomatch z) h
 | @tup a xs ea=>
  cases (show u=An.ref a from rx);obtain⟨_,_,_,p⟩:=(show dR X.prog X.w H s.heap a (.tup xs) from I.hok a _ ea);obtain⟨o,h1,h2,_⟩:=p;exact C4 PySem.W.kitx_tuple I.kIn ⟨o,h1,h2⟩ e (fun z=>nomatch z) h
 | @dK a kvs ea=>
  cases (show u=An.ref a from rx);obtain⟨_,_,vs,_,p⟩:=(show dR X.prog X.w H s.heap a (.dK kvs) from I.hok a _ ea);obtain⟨o,es,ep,h1,h2,_⟩:=p;exact C4 PySem.W.kitx_dict I.kIn ⟨o,h1,h2.1⟩ e (fun z=>nomatch z) h
 | @dT a kvs ea=>
  cases (show u=An.ref a from rx);obtain⟨_,_,xs,_,o,es,ep,h1,h2,_⟩:=(show dR X.prog X.w H s.heap a (.dT kvs) from I.hok a _ ea);exact C4 PySem.W.kitx_dict I.kIn ⟨o,h1,h2.1⟩ e (fun z=>nomatch z) h
 | @ins a C dx fs ea cl ha hn htk hm=>
  cases (show u=An.ref a from rx);obtain⟨mA,O,_⟩:=Wt I.hok ea;obtain⟨od,J,_⟩:=O.look;exact C4 (PySem.W.kitx_own (cl.get _) cl.hd ha hn htk hm) I.kIn J e (fun z=>nomatch z) h
end
structure iM (k:Nat)(A:A7):Prop where
 hd:A.handled=none
 dp:A.depth+3*k+5<recursionLimit
 un:A.units+16*k+200<Ff
 gd:A.guards=some []
theorem iM.mono {j k:Nat}{A:A7}(r:iM k A)(h:j<=k):iM j A:=⟨r.hd,by have:=r.dp;omega,by have:=r.un;omega,r.gd⟩
theorem iM.deeper {k:Nat}{A:A7}(r:iM (k+1) A)(env:Env):iM k (A.deeper env):=
 ⟨r.hd,by have:=r.dp;show A.depth+1+3*k+5<_;omega,by have:=r.un;show A.units+3+16*k+200<_;omega,r.gd⟩
theorem iM.depth {k:Nat}{A:A7}(r:iM k A):A.depth<recursionLimit:=by have:=r.dp;omega
theorem iM.bJ {k:Nat}{A:A7}(r:iM k A):A.units<Ff:=by have:=r.un;omega
noncomputable def Bh:TA:=fun _ H Q=>Q [] H
noncomputable def nR (ta:TE)(tr:TA):TA:=fun σ H Q=>ta σ H fun x H1=>tr σ H1 fun xs H2=>Q (x::xs) H2
section
variable {X:Cx}{e:Expr}{es:List Expr}{te:TE}{t:TA}{pos:Pos}
theorem YH:PA X [] Bh:=fun _ _ _ _ H Q I h=>Ch ⟨[],H,I,.nil,h⟩
theorem V1 (ha:PE X e te)(hr:PA X es t)(hs:AH (e::es) X.env=(false,eval e X.env)::AH es X.env:=by rfl):PA X (e::es) (nR te t):=by
 intro pos pins s σ H Q I h;rw[hs];show AG _ _ (spliced ((false,eval e X.env)::Ct pos (AH es X.env))) _ _ s;refine Co (thE (ha pins s σ H _ I h) fun u s1 x H1 I1 r1 q1=>?_);exact thA (hr pos pins s1 σ H1 _ I1 q1) fun us s2 xs H2 I2 r2 q2=>⟨x::xs,H2,I2,.cons r1 r2,q2⟩
noncomputable def Dw (t:TA):TE:=fun σ H Q=>t σ H fun xs H1=>xs.length<=AL/\∀p,H1 p=none->Q (.ref p) (upd H1 p (.tup xs))
noncomputable def G5 (t:TA):TE:=fun σ H Q=>t σ H fun xs H1=>xs.length<=AL/\∀p,H1 p=none->Q (.ref p) (upd H1 p (.lst xs))
theorem Yw {x1}(h:PA X es t):PE X (.Tuple es x1 pos) (Dw t):=by
 intro pins s σ H Q I hq;refine wpAny_Tuple_spliced (thn (h pos pins s σ H _ I hq) fun us s1 ⟨xs,H1,I1,r,z,q⟩=>⟨by rw[<- r.length];exact z,?_⟩);have hf:H1 s1.heap.objs.size=none:=I1.hok.fresh (A1 _);refine⟨.ref s1.heap.objs.size,upd H1 s1.heap.objs.size (.tup xs),I1.laid (t':=s1.toks) (fun b u e=>AB _ e) (A1 _) ?_,rfl,q _ hf⟩;exact⟨z,us,r,⟨_,AQ _ rfl,rfl,_,rfl⟩⟩
theorem YC (h:PA X es t):PE X (.List es pos) (G5 t):=by
 intro pins s σ H Q I hq;refine wpAny_List_spliced (thn (h pos pins s σ H _ I hq) fun us s1 ⟨xs,H1,I1,r,z,q⟩=>⟨by rw[<- r.length];exact z,?_⟩);have hf:H1 s1.heap.objs.size=none:=I1.hok.fresh (A1 _);refine⟨.ref s1.heap.objs.size,upd H1 s1.heap.objs.size (.lst xs),I1.laid (t':=s1.toks) (fun b u e=>AB _ e) (A1 _) ?_,rfl,q _ hf⟩;exact⟨z,us,0,r,AQ _ rfl⟩
end
noncomputable abbrev Sp:=List V->Hp->VK->XK->Prop
noncomputable abbrev CXT:=List Env->Hp->AC->XK->An->AC->Prop
structure Xd (P:AV)(w:A6)(K:AE)(mg:Str->Option An)(base:Heap)(A:A7)(outer:List Env)(s:AC)(H:Hp):Prop where
 frames:A.frames=some outer
 mod:Mod K mg base
 bs:∀b o,base.get? b=some o->s.heap.get? b=some o/\H b=none
 bsz:base.objs.size<=s.heap.objs.size
 vo:s.heap.FunFrames base outer
 frf:∀b∈frs outer,H b=none
 hok:HOk P w H s.heap
 bare:HU s.gens
noncomputable def CE (outer:List Env)(P:AV)(w:A6)(H:Hp)(s:AC)(Q:VK)(u:An)(s':AC):Prop:=
 ∃v H',s'.os=s.os/\HU s'.gens/\Un (frs outer) [] H H' s.heap s'.heap/\HOk P w H' s'.heap/\RelV v u/\Q v H'
noncomputable def CR (CX:CXT)(outer:List Env)(P:AV)(w:A6)(H:Hp)(s:AC)(Q:VK)(E:XK)(r:Result)(s':AC):Prop:=
 match r with
 | .ok (.ret u)=>CE outer P w H s Q u s'
 | .ok _=>False
 | .error e=>CX outer H s E e s'
structure dm (P:AV)(w:A6)(K:AE)(mg:Str->Option An)(base:Heap)(CX:CXT)(k:Nat)(f:Addr)(fd:CA)(ps:List Str)(sp:Sp):Prop where
 len:∀vs H Q E,sp vs H Q E->vs.length=ps.length
 run:∀(A:A7)(outer:List Env)(s:AC)(H:Hp)(args:Args)(us:List An)(vs:List V)(Q:VK)(E:XK),iM k A->Xd P w K mg base A outer s H->BindsTo s fd args (ps.zip us)->Vals vs us->sp vs H Q E ->
  FC (A0 P w) A (.call (.ref f) args) (CR CX outer P w H s Q E) s
section
variable {X:Cx}{pins:List (Addr×Obj)}{σ:St}{H:Hp}{s s':AC}
theorem Inv.env0 (I:Inv X pins σ H s):Xd X.prog X.w X.K X.mg X.base X.A X.stack s H:=
 ⟨I.ok.frames,I.ok.mod,I.bs,Be I.ok.bsz I.sz,I.stack,I.JD,I.hok,I.bare⟩
theorem Inv.after {Q:VK}{u:An}(I:Inv X pins σ H s)(h:CE X.stack X.prog X.w H s Q u s'):EP X pins σ Q u s':=by
 obtain⟨v,H',os,bare,un,hok,r,q⟩:=h;obtain⟨hh,g,d,t,os'⟩:=s';obtain rfl:os'=s.os:=os;exact⟨v,H',I.call (h':=hh) (g':=g) (d':=d) (t':=t) (ch:=[]) un hok bare (fun b z=>absurd z (by simp)),r,q⟩
end
noncomputable def vZ (sp:Sp)(dvs:List V)(E:XK)(t:TA):TE:=fun σ H Q=>t σ H fun vs H1=>sp (vs++dvs) H1 Q E
noncomputable def Binds (K:AE)(fd:CA)(ps:List Str)(ds:List An):Prop:=
 ∀(s:AC)(us:List An),K.In s.heap->(us++ds).length=ps.length->BindsTo s fd ⟨us,[]⟩ (ps.zip (us++ds))
theorem Binds.all {K:AE}{fd:CA}{ps:List Str}(h:∀us:List An,us.length=ps.length->bindArgs fd ⟨us,[]⟩=pure (ps.zip us)):Binds K fd ps []:=fun s us _ hl=>by
 rw[CH] at hl |-;exact .of_eq (h us hl)
noncomputable def Ju (CX:CXT)(X:Cx)(E:XK):Prop:=∀(pins:List (Addr×Obj)) (σ:St) (H:Hp) (s:AC) (e:An) (s':AC),Inv X pins σ H s->CX X.stack H s E e s'->X.xe e s'
section
variable {X:Cx}{CX:CXT}{k:Nat}{f C:Addr}{fd:CA}{ps:List Str}{sp:Sp}{dvs:List V}{ds:List An}{E:XK}{x m:Str}{p pos apos:Pos}{e o:Expr}{es:List Expr}{ta:TE}{t:TA}
theorem X5 {pins:List (Addr×Obj)}{σ:St}{H:Hp}{s:AC}{Q:VK}{us:List An}{vs:List V}(F:dm X.prog X.w X.K X.mg X.base CX k f fd ps sp)(hr:iM k X.A)(hb:Binds X.K fd ps ds)(hd:Vals dvs ds)(hx:Ju CX X E)
  (I:Inv X pins σ H s) (r:Vals vs us) (h:sp (vs++dvs) H Q E):AG (A0 X.prog X.w) X.A (call (.ref f) us) (EP X pins σ Q) X.xe s:=by
 have r2:Vals (vs++dvs) (us++ds):=r.append hd;have hl:(us++ds).length=ps.length:=by rw[<- r2.length];exact F.len _ _ _ _ h
 refine wpAny_call (HV (F.run X.A X.stack s H ⟨us,[]⟩ (us++ds) (vs++dvs) Q E hr I.env0 (hb s us I.kIn hl) r2 h) fun r s' hq=>?_);cases r with
 | error e=>exact hx pins σ H s e s' I hq
 | ok fl=>
  cases fl with
  | ret u=>exact I.after hq
  | next=>exact D7 hq
  | brk=>exact D7 hq
  | cont=>exact D7 hq
theorem VN (F:dm X.prog X.w X.K X.mg X.base CX k f fd ps sp)(hr:iM k X.A)(hg:Gl X x)(hm:X.mg x=some (.ref f))(hk:CB X.K (.ref f)=true)(hb:Binds X.K fd ps ds)(hd:Vals dvs ds)(hx:Ju CX X E)
  (ha:PA X (e::es) t) (hdb:(x == ("__debug__" : Str))=false:=by decide) (he:AH (e::es) X.env=(false,eval e X.env)::AH es X.env:=by rfl) (hpl:(Ct pos (AH es X.env)).any (·.1)=false:=by rfl) :
  PE X (.Call (.Name x p) (e::es) [] pos) (vZ sp dvs E t):=by
 intro pins s σ H Q I h;refine ET (Kl I hg hm ?_ hdb);refine PySem.W.callWith_K (h₀:=X.base) I.ok.mod.kin hk (thA (ha pos pins s σ H _ I h) fun us s1 vs H1 I1 r q=>⟨I1.kIn,?_⟩) he hpl;exact X5 F hr hb hd hx I1 r q
end
structure bA (N P:List Str)(sc:GM):Prop where
 kind:sc.kind=.function
 co:sc.isCoroutine=false
 gen:sc.isGenerator=false
 nd:N.Nodup
 pre:N.take P.length=P
 par:∀x∈P,sc.names.lookup x=some .local\/sc.names.lookup x=some .cell
 nofree:∀y∈sc.names,y.2≠.free
theorem Ax {kindOf:Str->Option Dx}{x:Str}:∀{binds:List (Str×An)}{m:Str->Option An},(∀v,(x,v)∉binds)->bindL kindOf binds m x=m x
 | [],_,_=>rfl
 | (n,v)::r,m,h=>by
  unfold bindL;rw[Ax fun w hw=>h w (BS _ hw)];split
  ·have:x≠n:=by rintro rfl;exact h v AX
   simp [this]
  rfl
theorem Az {kindOf:Str->Option Dx}{x:Str}:∀{binds:List (Str×An)}{m:Str->Option An},(∀v,(x,v)∉binds)->bindC kindOf binds m x=m x
 | [],_,_=>rfl
 | (n,v)::r,m,h=>by
  unfold bindC;rw[Az fun w hw=>h w (BS _ hw)];split
  ·rfl
  have:x≠n:=by rintro rfl;exact h v AX
  simp [this]
theorem Ay {kindOf:Str->Option Dx}{x:Str}{v:An}:∀{P:List Str}{vs:List An}{i:Nat}{m:Str->Option An},P.Nodup->P[i]?=some x->vs[i]?=some v->kindOf x=some .local ->
  bindL kindOf (P.zip vs) m x=some v
 | [],_,_,_,_,h,_,_=>by simp at h
 | _::_,[],_,_,_,_,h,_=>by simp at h
 | p::P,w::vs,0,m,nd,h1,h2,hk=>by
  simp at h1 h2;subst h1;subst h2;show bindL kindOf ((p,w)::P.zip vs) m p=_;unfold bindL;rw[Ax fun v hv=>(HZ.mp nd).1 (of_mem_zip hv).1,if_pos hk];simp
 | p::P,w::vs,i+1,m,nd,h1,h2,hk=>by
  show bindL kindOf ((p,w)::P.zip vs) m x=_;unfold bindL;exact Ay (i:=i) (HZ.mp nd).2 (by simpa using h1) (by simpa using h2) hk
theorem Ba {kindOf:Str->Option Dx}{x:Str}{v:An}:∀{P:List Str}{vs:List An}{i:Nat}{m:Str->Option An},P.Nodup->P[i]?=some x->vs[i]?=some v->kindOf x≠some .local ->
  bindC kindOf (P.zip vs) m x=some v
 | [],_,_,_,_,h,_,_=>by simp at h
 | _::_,[],_,_,_,_,h,_=>by simp at h
 | p::P,w::vs,0,m,nd,h1,h2,hk=>by
  simp at h1 h2;subst h1;subst h2;show bindC kindOf ((p,w)::P.zip vs) m p=_;unfold bindC;rw[Az fun v hv=>(HZ.mp nd).1 (of_mem_zip hv).1,if_neg hk];simp
 | p::P,w::vs,i+1,m,nd,h1,h2,hk=>by
  show bindC kindOf ((p,w)::P.zip vs) m x=_;unfold bindC;exact Ba (i:=i) (HZ.mp nd).2 (by simpa using h1) (by simpa using h2) hk
noncomputable def start (N:List Str)(vs:List V):St:=vs.map some++BC (N.length-vs.length) none
noncomputable def Jh (CX:CXT)(P:AV)(w:A6)(K:AE)(mg:Str->Option An)(base:Heap)(N:List Str)(qual:Str)(scope:GM)(f:Addr)(cd:An)(A:A7)(outer:List Env)(s:AC)(H:Hp)(E:XK):Cx where
 prog:=P
 w:=w
 K:=K
 mg:=mg
 base:=base
 A:=A.deeper (IL qual scope s.heap.objs.size f cd)
 N:=N
 s₀:=s
 H₀:=H
 env:=IL qual scope s.heap.objs.size f cd
 outer:=outer
 stack:=IL qual scope s.heap.objs.size f cd::outer
 ex:=[]
 calm:=true
 fn:=fun _=>true
 pn:=[]
 xe:=fun e s'=>AG (A0 P w) (A.deeper (IL qual scope s.heap.objs.size f cd)) (leaving (IL qual scope s.heap.objs.size f cd) e) (fun _ s''=>CX outer H s E e s'') (fun e' s''=>CX outer H s E e' s'') s'
theorem Gj {sc:GM}{n:Nat}{x:Str}(h:sc.names.lookup x=some .cell):∃c,(cellsFrom n sc.names []).lookup x=some c:=by
 have q:=PySem.W.cellsFrom_some sc.names n [] (.inl h);exact Option.isSome_iff_exists.mp q
theorem M4 {CX:CXT}{P:AV}{w:A6}{K:AE}{mg:Str->Option An}{base:Heap}{N ps:List Str}{qual:Str}{scope:GM}{f:Addr}{cd:An}{A:A7}{outer:List Env}{s s1:AC}{H:Hp}{E:XK}{us:List An}{vs:List V}
  (S:bA N ps scope) (hd:A.handled=none) (e0:Xd P w K mg base A outer s H) (hl:vs.length=ps.length) (r:Vals vs us)
  (x:InCallC s s.heap.objs.size (bindL (IL qual scope s.heap.objs.size f cd).kindOf (ps.zip us) fun _=>none) (cellsFrom (s.heap.objs.size+1) scope.names []) (bindC (IL qual scope s.heap.objs.size f cd).kindOf (ps.zip us) fun _=>none) s1) :
  Inv (Jh CX P w K mg base N qual scope f cd A outer s H E) [] (start N vs) H s1:=by
 have hpl:ps.length<=N.length:=by have:=congrArg Fh S.pre;rw[EA] at this;omega
 obtain⟨h1,tk,rfl,hk⟩:=x.done;have noA:∀b:Addr,b∉(Jh CX P w K mg base N qual scope f cd A outer s H E).ex:=fun b z=>absurd (show b∈([]:List Addr) from z) (by simp);refine⟨⟨e0.mod,S.kind,rfl,rfl,A1 _,fun y z c h1 h2=>?_,fun y hy=>?_,fun y c _ h=>?_,fun _=>hd,A7.frames_deeper e0.frames,.inr ⟨rfl,rfl⟩,fun b z=>absurd z (noA b),e0.bs,e0.bsz,fun b _ _=>noA b,fun b z=>absurd z (noA b),e0.vo,e0.frf⟩,
  rfl,e0.bare,Un.kept hk,⟨_,x.toInCall.ns,fun i y v h1 h2 h3=>?_⟩,fun y c h=>⟨_,x.cell y c h⟩,e0.hok.fresh (A1 _),fun y c h=>?_,fun p hp=>absurd (show p∈([]:List (Addr×Obj)) from hp) (by simp),e0.hok.kept hk,?_⟩
 ·exact name_of_addr x.apart (C1 h1) (C1 h2)
 ·have hy:scope.names.lookup y=some .cell\/scope.names.lookup y=some .free:=hy;rcases hy with hy|hy
  ·exact Gj hy
  exact absurd rfl (S.nofree _ (C1 hy))
 ·exact II (x.above y c (C1 h))
 ·have hi:i<vs.length:=by
   unfold start at h2;by_cases hi:i<vs.length
   ·exact hi
   rw[BU (by simpa using hi)] at h2;rw[List.getElem?_replicate] at h2;split at h2 <;> cases h2
  have ha:vs[i]?=some v:=by
   unfold start at h2;rw[DF (by simpa using hi),AU] at h2;cases e:vs[i]? with
   | none=>rw[e] at h2;cases h2
   | some a=>rw[e] at h2;cases h2;rfl
  obtain⟨u,hu,rv⟩:=r.get ha;have hp:ps[i]?=some y:=by
   rw[<- S.pre,List.getElem?_take_of_lt ω];exact h1
  have ndP:ps.Nodup:=by rw[<- S.pre];exact S.nd.sublist (List.take_sublist _ _)
  refine⟨u,rv,?_⟩;rcases S.par y (A5 hp) with k|k
  ·exact .inl ⟨k,Ay ndP hp hu k⟩
  obtain⟨c,e⟩:=Gj (n:=s.heap.objs.size+1) k;refine .inr ⟨.inl k,c,e,?_⟩;have q:=x.cell y c e;rw[Ba ndP hp hu (by show scope.names.lookup y≠_;rw[k];decide)] at q;exact q
 ·exact e0.hok.fresh (II (x.above y c (C1 h)))
 unfold start;show _=N.length;rw[AK,AF,List.length_replicate];omega
theorem aaH {CX:CXT}{P:AV}{w:A6}{K:AE}{mg:Str->Option An}{base:Heap}{k:Nat}{f:Addr}{name qual:Str}{params:Arguments}{body:List Stmt}{scope:GM}{dV kV doc pm cdv ct oc:An}{an od:Option Addr}
  {osl:Array (Option An)} {N ps:List Str} {sp:Sp} (lk:K.lookup f=some ⟨oc,od,.func (fnOf name qual params body scope dV kV doc pm an cdv ct),osl⟩) (hcd:CI K cdv qual=true) (S:bA N ps scope)
  (len:∀vs H Q E,sp vs H Q E->vs.length=ps.length)
  (hbody:∀(A:A7)(outer:List Env)(s:AC)(H:Hp)(vs:List V)(Q:VK)(E:XK),iM k (A.deeper (IL qual scope s.heap.objs.size f cdv))->sp vs H Q E ->
   ∃t,PSs (Jh CX P w K mg base N qual scope f cdv A outer s H E) body t/\t { nx:=fun _ H'=>Q .non H',rt:=Q } (start N vs) H) :
  dm P w K mg base CX (k+1) f (fnOf name qual params body scope dV kV doc pm an cdv ct) ps sp:=by
 refine⟨len,fun A outer s H args us vs Q E hr e0 hb r hsp=>?_⟩;have hl:=len _ _ _ _ hsp;have KX:K.In s.heap:=e0.mod.kin.keeps fun b o e=>(e0.bs b o e).1;have lim:s.heap.NoLimit:=e0.mod.nolimit.keeps fun b o e=>(e0.bs b o e).1;have hkind:∀y∈ps.zip us,scope.names.lookup y.1=some .local\/(scope.names.lookup y.1=some .cell/\((cellsFrom (s.heap.objs.size+1) scope.names []).lookup y.1).isSome=true):=fun⟨n,v⟩ hy=>by
  rcases S.par n (of_mem_zip hy).1 with q|q
  ·exact .inl q
  exact .inr ⟨q,PySem.W.cellsFrom_some _ _ _ (.inl q)⟩
 refine codeAny_call_function hr.depth (KX _ _ lk) rfl S.co S.gen rfl (PySem.W.codeRec_of KX hcd) (hb _ _ _ _ ?_);refine wpAny_newFunctionEnv_cells S.kind hkind fun env he s1 x=>?_;subst he;refine⟨lim.keeps x.toInCall.keep,codeAny_func ?_⟩;obtain⟨t,ht,hq⟩:=hbody A outer s H vs Q E (hr.deeper _) hsp;have I:Inv (Jh CX P w K mg base N qual scope f cdv A outer s H E) [] (start N vs) H s1:=M4 S hr.hd e0 hl r x;refine DV (ht [] s1 (start N vs) H _ I hq) (fun fl s' hs=>?_) fun e s' hs=>hs;have fin:∀{σ':St}{H':Hp}{v:V}{u:An},Inv (Jh CX P w K mg base N qual scope f cdv A outer s H E) [] σ' H' s'->RelV v u->Q v H'->CE outer P w H s Q u s':=
  fun {σ' H' v u} J rv q=>⟨v,H',J.os,J.bare,J.base,J.hok,rv,q⟩
 cases fl with
 | ret u=>
  obtain⟨v,σ',H',J,rv,q⟩:=hs;exact fin J rv q
 | next=>
  obtain⟨σ',H',J,q⟩:=hs;exact fin (v:=V.non) (u:=An.none) J rfl q
 | brk=>
  obtain⟨_,_,_,q⟩:=hs;exact D7 q
 | cont=>
  obtain⟨_,_,_,q⟩:=hs;exact D7 q
section
variable {X:Cx}{x:Str}{p pos:Pos}{e:Expr}{es:List Expr}{t:TA}{id T:String}{r:List V->Hp->VK->Prop}
noncomputable def tCB (r:List V->Hp->VK->Prop)(t:TA):TE:=fun σ H Q=>t σ H fun vs H1=>r vs H1 Q
theorem Q0 (hc:eV X (.builtin id) r) (hg:Gl X x) (hm:X.mg x=none) (hv:DC x=some (.builtin id)) (ha:PA X (e::es) t) (hn:x ≠ "__name__" := by decide) (hdb:(x == ("__debug__" : Str))=false:=by decide)
  (he:AH (e::es) X.env=(false,eval e X.env)::AH es X.env:=by rfl) (hpl:(Ct pos (AH es X.env)).any (·.1)=false:=by rfl):PE X (.Call (.Name x p) (e::es) [] pos) (tCB r t):=by
 intro pins s σ H Q I h;refine ET (ji I hg hm hv ?_ hn hdb);exact PyProof.Rows.callWith_builtin1 (thA (ha pos pins s σ H _ I h) fun us s1 vs H1 I1 r1 q1=>hc pins s1 σ H1 vs us Q I1 r1 q1) he hpl
theorem Mf (hc:eV X (.type T) r) (hg:Gl X x) (hm:X.mg x=none) (hv:DC x=some (.type T)) (ha:PA X (e::es) t) (hn:x ≠ "__name__" := by decide) (hdb:(x == ("__debug__" : Str))=false:=by decide)
  (he:AH (e::es) X.env=(false,eval e X.env)::AH es X.env:=by rfl) (hpl:(Ct pos (AH es X.env)).any (·.1)=false:=by rfl):PE X (.Call (.Name x p) (e::es) [] pos) (tCB r t):=by
 intro pins s σ H Q I h;refine ET (ji I hg hm hv ?_ hn hdb);exact B0 (thA (ha pos pins s σ H _ I h) fun us s1 vs H1 I1 r1 q1=>hc pins s1 σ H1 vs us Q I1 r1 q1) he hpl
end
end L2
namespace HT
open PySem PyProof.Rows
section
variable {prog:AV}{w:A6}{A:A7}{E:An->AC->Prop}{s:AC}
theorem WW {t b:Addr}{vs ws:List An}{Q:An->AC->Prop}(ht:IB s.heap t vs.toArray)(hb:IB s.heap b ws.toArray)(hv:vs≠[])
  (h1:ws=[]->Q (.ref t) s) (h2:ws≠[]->Q (.ref s.heap.objs.size) { s with heap:=s.heap.push { cls:=.type "tuple",data:=.seq (vs++ws).toArray } })
  (hsz:vs.length+ws.length<=AL):AG (A0 prog w) A (D1 .Add (.ref t) (.ref b)) Q E s:=by
 obtain⟨⟨cls,dd,data,sl⟩,ho,hc,n,hd⟩:=id ht;obtain⟨⟨cls2,dd2,data2,sl2⟩,ho2,hc2,n2,hd2⟩:=id hb;simp only at hc hd hc2 hd2;subst hc hd hc2 hd2;have e:vs.toArray++ws.toArray=(vs++ws).toArray:=by simp
 by_cases hw:ws=[]
 ·exact concat_meets ⟨_,ho,rfl⟩ ⟨_,ho2,rfl⟩ noFill_tuple_add seq_tuple_add PySem.F.slot_tuple_add PySem.F.entry_tuple_add (PySem.F.args_tuple_add_2 _ _)
   (tuple_addW1 t b vs.toArray ws.toArray n n2 dd dd2 sl sl2 (by simpa using hv) (by simp [hw])) ⟨ho,ho2,h1 hw⟩
 refine concat_meets ⟨_,ho,rfl⟩ ⟨_,ho2,rfl⟩ noFill_tuple_add seq_tuple_add PySem.F.slot_tuple_add PySem.F.entry_tuple_add (PySem.F.args_tuple_add_2 _ _)
  (tuple_addW2 t b vs.toArray ws.toArray n n2 dd dd2 sl sl2 (by simpa using hv) (by simpa using hw) (by rw[AR,AR];exact hsz)) ⟨ho,ho2,?_⟩
 rw[e];exact h2 hw
noncomputable def sIx (n d:Nat):Option Int->Nat
 | none=>d
 | some v=>if v<0 then (v+(n:Int)).toNat else min v.toNat n
theorem XS (n d:Nat)(hd:d<=n)(o:Option Int):sIx n d o<=n:=by
 cases o with
 | none=>exact hd
 | some v=>
  show(if v<0 then (v+(n:Int)).toNat else min v.toNat n)<=n;by_cases hv:v<0
  ·rw[if_pos hv];omega
  rw[if_neg hv];exact Nat.min_le_right _ _
theorem KY (v:Int)(n d:Nat):(if v<0 then max (v+(n:Int)) 0 else min v (n:Int))=((sIx n d (some v):Nat):Int):=by
 show(if v<0 then max (v+(n:Int)) 0 else min v (n:Int))=(((if v<0 then (v+(n:Int)).toNat else min v.toNat n):Nat):Int);by_cases hv:v<0
 ·simp only[if_pos hv];omega
 simp only[if_neg hv];omega
theorem Js (lo hi:Option Int)(n:Nat):AI.Slice.sliceAdjust lo hi 1 (n:Int)=(((sIx n 0 lo:Nat):Int),((sIx n n hi:Nat):Int)):=by
 have h1:¬((1:Int)<0):=ω;unfold AI.Slice.sliceAdjust;simp only[h1,if_false];refine Prod.ext ?_ ?_
 ·cases lo with
  | none=>rfl
  | some v=>exact KY v n 0
 cases hi with
 | none=>rfl
 | some v=>exact KY v n n
theorem Hy (i j:Nat):AI.Slice.slicePlaces (i:Int) (j:Int) 1=j-i:=by
 unfold AI.Slice.slicePlaces;have h1:(1:Int)>0:=ω;simp only[h1,if_true,Int.ediv_one];split <;> omega
theorem wu {v:An}{o:Option Int}{Q:Option Int->AC->Prop}(p:IsPart v o)(h:Q o s):AG (A0 prog w) A (AI.Slice.slicePartIndex v) Q E s:=by
 cases p with
 | none=>exact slicePart_none h
 | int i t=>exact slicePart_int h
theorem sY {sl:Addr}{vl vu:An}{lo hi:Option Int}{n:Nat}{Q:Int×Int×Nat->AC->Prop}(hs:s.heap.IsSliceOf sl vl vu .none)(pl:IsPart vl lo)(pu:IsPart vu hi)
  (h:Q (((sIx n 0 lo:Nat):Int),1,sIx n n hi-sIx n 0 lo) s):AG (A0 prog w) A (AI.Slice.sliceApplied (.ref sl) (pure (n:Int))) Q E s:=by
 obtain⟨os,hos,hcs,hds⟩:=id hs;unfold AI.Slice.sliceApplied AI.Slice.sliceFields;refine Ap (Ap (CL hos hds (x:=vl) rfl (Ap (CL hos hds (x:=vu) rfl (Ap (CL hos hds (x:=.none) rfl (Au ?_)))))));refine Ap (slicePart_none ?_);show AG _ _ (if ((1:Int) == 0)=true then _ else _) _ _ s;rw[if_neg δ];refine Ap (wu pl (Ap (wu pu (Ap (Au ?_)))));show AG _ _ (match AI.Slice.sliceAdjust lo hi 1 (n:Int) with|(lo,hi)=>pure (lo,(1:Int),AI.Slice.slicePlaces lo hi 1)) _ _ s
 rw[Js lo hi n];show AG _ _ (pure (((sIx n 0 lo:Nat):Int),(1:Int),AI.Slice.slicePlaces ((sIx n 0 lo:Nat):Int) ((sIx n n hi:Nat):Int) 1)) _ _ s;rw[Hy];exact Au h
theorem QD (xs:Array An)(i k:Nat):((BB k).filterMap fun(m:Nat)=>xs[((i:Int)+(m:Int)*1).toNat]?).toArray=((xs.toList.drop i).take k).toArray:=by
 have e:(fun(m:Nat)=>xs[((i:Int)+(m:Int)*1).toNat]?)=fun m=>xs[i+m]?:=by
  funext m;have:((i:Int)+(m:Int)*1).toNat=i+m:=by omega
  rw[this]
 rw[e];have:=pick_run xs i k;rw[List.filterMap_map] at this;have e2:((fun x=>xs[x]?)∘fun x=>i+x)=fun m=>xs[i+m]?:=rfl;rw[e2] at this;rw[this]
theorem rN {t sl:Addr}{items:Array An}{vl vu:An}{lo hi:Option Int}{Q:An->AC->Prop}(ht:IB s.heap t items)(hs:s.heap.IsSliceOf sl vl vu .none)(pl:IsPart vl lo)(pu:IsPart vu hi)
  (hw:¬(sIx items.size 0 lo=0/\sIx items.size items.size hi=items.size))
  (h:Q (.ref s.heap.objs.size) { s with heap:=s.heap.push { cls:=.type "tuple",data:=.seq ((items.toList.drop (sIx items.size 0 lo)).take (sIx items.size items.size hi-sIx items.size 0 lo)).toArray } })
  (hsz:items.size<=AL):AG (A0 prog w) A (JE (.ref t) (.ref sl)) Q E s:=by
 have htake:sizeOk (.seq ((items.toList.drop (sIx items.size 0 lo)).take (sIx items.size items.size hi-sIx items.size 0 lo)).toArray):=by
  show((items.toList.drop (sIx items.size 0 lo)).take (sIx items.size items.size hi-sIx items.size 0 lo)).toArray.size<=AL;rw[AR,EA,EB,D3];omega
 have hj:sIx items.size items.size hi<=items.size:=XS _ _ (A1 _) hi;obtain⟨os,hos,hcs,hds⟩:=id hs;have hTs:s.TypeIs (.ref sl) "slice" := ⟨os,hos,hcs⟩;unfold JE
 try with_reducible refine BE ?_
 first|refine Ap (Au ?_)|skip
 refine Ap (wpAny_sequenceKey ht.typeIs δ ?_);refine Ap (B5 (name:=BD "__getitem__") ht.typeIs F2
  (Cc F2 ht.typeIs entry_tuple_getitem ?_ (args_tuple_getitem _ _)))
 show AG _ _ (AI.Tuple.tupleItemsOf (.ref t) >>= _) _ _ s;refine Ap (tupleItemsOf_ ht ?_);refine Ap (CY hTs ?_);rw[if_pos δ];refine Ap (sY hs pl pu ?_);have hno:¬((((sIx items.size 0 lo:Nat):Int) == 0&&(1:Int) == 1&&(sIx items.size items.size hi-sIx items.size 0 lo) == items.size)=true):=by
  intro q;rw[C3,C3] at q;have q1:((sIx items.size 0 lo:Nat):Int)=0:=eq_of_beq q.1.1;have q2:sIx items.size items.size hi-sIx items.size 0 lo=items.size:=eq_of_beq q.2;exact hw ⟨ω,ω⟩
 show AG _ _ (if (((sIx items.size 0 lo:Nat):Int) == 0&&(1:Int) == 1&&(sIx items.size items.size hi-sIx items.size 0 lo) == items.size)=true then _ else _) _ _ s;rw[if_neg hno,QD]
 first
  | exact Ap (m:=AI.Tuple.tupleExact _) (BG (Au ⟨_,rfl,Au h⟩) htake)
  | exact Ap (m:=AI.Tuple.tupleExact _) (BG (Ap (Au (Au ⟨_,rfl,Au h⟩))) htake)
  | exact Ap (Ap (m:=AI.Tuple.tupleExact _) (BG (Au (Au ⟨_,rfl,Au h⟩)) htake))
  | exact Ap (Ap (m:=AI.Tuple.tupleExact _) (BG (Au ⟨_,rfl,Au h⟩) htake))
end
end HT
namespace L2
open PySem PySem.Spec PyProof.Rows
noncomputable abbrev TO:=St->Hp->(Option Int->Hp->Prop)->Prop
noncomputable def PO (X:Cx)(e:Option Expr)(t:TO):Prop:=
 ∀(pins:List (Addr×Obj)) (s:AC) (σ:St) (H:Hp) (Q:Option Int->Hp->Prop),Inv X pins σ H s->t σ H Q ->
  AG (A0 X.prog X.w) X.A (evalPart e X.env) (fun u s'=>∃o H',Inv X pins σ H' s'/\IsPart u o/\Q o H') X.xe s
noncomputable def Bg:TO:=fun _ H Q=>Q none H
noncomputable def Oz (t:TE):TO:=fun σ H Q=>t σ H fun x H1=>∃i,x=.int i/\Q (some i) H1
section
variable {X:Cx}{e:Expr}{te:TE}{lo hi:Option Expr}{tl th:TO}{pos p2:Pos}
theorem Vm:PO X none Bg:=by
 intro pins s σ H Q I h;rw[evalPart_none];exact Au ⟨none,H,I,.none,h⟩
theorem Vl (h:PE X e te):PO X (some e) (Oz te):=by
 intro pins s σ H Q I hw;rw[evalPart_some];refine thE (h pins s σ H _ I hw) fun u s1 x H1 I1 r1 q1=>?_;obtain⟨i,rfl,q⟩:=q1;obtain⟨t,rfl⟩:=r1;exact⟨some i,H1,I1,.int i t,q⟩
noncomputable def SlR (X:Cx)(r:V->Option Int->Option Int->Hp->VK->Prop):Prop:=
 ∀(pins:List (Addr×Obj)) (s:AC) (σ:St) (H:Hp) (x:V) (v vl vu:An) (lo hi:Option Int) (sl:Addr) (Q:VK),Inv X pins σ H s->RelV x v->s.heap.IsSliceOf sl vl vu .none->IsPart vl lo->IsPart vu hi->r x lo hi H Q ->
  ∃T id,Ic (.type T) "__getitem__" = pure (some (.builtin id))/\s.TypeIs v T/\AG (A0 X.prog X.w) X.A (JE v (.ref sl)) (EP X pins σ Q) X.xe s
noncomputable def tSl (r:V->Option Int->Option Int->Hp->VK->Prop)(te:TE)(tl th:TO):TE:=fun σ H Q=>te σ H fun x H1=>tl σ H1 fun l H2=>th σ H2 fun u H3=>r x l u H3 Q
theorem QL {r:V->Option Int->Option Int->Hp->VK->Prop}(hr:SlR X r)(he:PE X e te)(hl:PO X lo tl)(hu:PO X hi th):PE X (.Subscript e (.Slice lo hi none p2) pos) (tSl r te tl th):=by
 intro pins s σ H Q I h;refine Subscript_ (thE (he pins s σ H _ I h) fun v s1 x H1 I1 r1 q1=>?_);refine wpAny_Slice (thn (hl pins s1 σ H1 _ I1 q1) fun vl s2 ⟨l,H2,I2,pl,q2⟩=>thn (hu pins s2 σ H2 _ I2 q2) fun vu s3 ⟨u,H3,I3,pu,q3⟩=>?_);rw[evalPart_none];refine Au ?_;have I4:Inv X pins σ H3 { s3 with heap:=s3.heap.push { cls:=.type "slice",data:=.fields #[vl,vu,.none] } }:=I3.kept (t':=s3.toks) fun b ob q=>AB _ q;obtain⟨T,id,hT,ht,hg⟩:=hr pins { s3 with heap:=s3.heap.push { cls:=.type "slice",data:=.fields #[vl,vu,.none] } } σ H3 x v vl vu l u s3.heap.objs.size Q I4 r1 (Heap.IsSliceOf.new ..) pl pu q3;show AG (A0 X.prog X.w) X.A (subscriptTail e (.Slice lo hi none p2) v (.ref s3.heap.objs.size)) (EP X pins σ Q) X.xe { s3 with heap:=s3.heap.push { cls:=.type "slice",data:=.fields #[vl,vu,.none] } };exact tail_any (ops:=[.ref s3.heap.objs.size,v]) ht hT hg (by with_unfolding_all rfl)
noncomputable def jQ (xs:List V)(lo hi:Option Int):List V:=(xs.drop (HT.sIx xs.length 0 lo)).take (HT.sIx xs.length xs.length hi-HT.sIx xs.length 0 lo)
theorem uU (xs:List V)(lo hi:Option Int):(jQ xs lo hi).length<=xs.length:=by
 unfold jQ;rw[EA,EB];omega
noncomputable def aaO (K:AE):V->Option Int->Option Int->Hp->VK->Prop:=fun x lo hi H Q=>∃a xs,x=.ref a/\SqT K H a xs /\
 ¬(HT.sIx xs.length 0 lo=0/\HT.sIx xs.length xs.length hi=xs.length)/\∀p,H p=none->Q (.ref p) (upd H p (.tup (jQ xs lo hi)))
theorem XM:SlR X (aaO X.K):=by
 intro pins s σ H x v vl vu lo hi sl Q I rx hs pl pu h;obtain⟨a,xs,rfl,hx,hw,q⟩:=h;cases rx;obtain⟨its,r,ht,hz⟩:=I.tuple hx;have hlen:its.toArray.size=xs.length:=by rw[AR];exact r.length.symm
 refine⟨"tuple",_,F2.lookup,ht.typeIs,?_⟩;refine HT.rN ht hs pl pu (by rw[hlen];exact hw) ?_ (by rw[hlen];exact hz);rw[hlen];refine⟨.ref s.heap.objs.size,_,I.laid (t':=s.toks) (o:=.tup (jQ xs lo hi)) (fun b ob q=>AB _ q) (A1 _) ?_,rfl,q _ (I.hok.fresh (A1 _))⟩;exact⟨Be (uU xs lo hi) hz,_,(r.drop (HT.sIx xs.length 0 lo)).take (HT.sIx xs.length xs.length hi-HT.sIx xs.length 0 lo),IB.new _ _⟩
noncomputable def aad (K:AE):R2:=fun x y H Q=>∃a b xs ys,x=.ref a/\y=.ref b/\SqT K H a xs/\SqT K H b ys/\xs≠[]/\xs.length+ys.length<=AL /\
 (ys=[]->Q (.ref a) H)/\(ys≠[]->∀p,H p=none->Q (.ref p) (upd H p (.tup (xs++ys))))
theorem Vals.BZ {xs:List V}{us:List An}(r:Vals xs us):us=[]↔xs=[]:=by
 cases r with
 | nil=>simp
 | cons _ _=>simp
theorem V3:OpR X (D1 .Add) (aad X.K):=by
 intro pins s σ H x y v u Q I rx ry h;obtain⟨a,b,xs,ys,rfl,rfl,ha,hb,hx,hz,q1,q2⟩:=h;cases rx;cases ry;obtain⟨its,r1,p1,_⟩:=I.tuple ha;obtain⟨its2,r2,p2,_⟩:=I.tuple hb;refine HT.WW p1 p2 (fun z=>hx (r1.BZ.mp z)) (fun z=>⟨.ref a,H,I,rfl,q1 (r2.BZ.mp z)⟩) (fun z=>?_) (by rw[<- r1.length,<- r2.length];exact hz);refine⟨.ref s.heap.objs.size,_,I.laid (t':=s.toks) (o:=.tup (xs++ys)) (fun b ob q=>AB _ q) (A1 _) ?_,rfl,q2 (fun w=>z (r2.BZ.mpr w)) _ (I.hok.fresh (A1 _))⟩;exact⟨by rw[AK];exact hz,_,r1.append r2,IB.new _ _⟩
end
noncomputable def ixN (n:Nat)(i:Int):Option Nat:=if 0<=i then (if i<n then some i.toNat else none) else if -(n:Int)<=i then some (i+n).toNat else none
noncomputable def atI {α:Type}(xs:List α)(i:Int):Option α:=(ixN xs.length i).bind fun j=>xs[j]?
theorem Kq {n:Nat}{i:Int}{j:Nat}(h:ixN n i=some j):seqIndex? i n=some j/\j<n/\-(n:Int)<=i/\i<n:=by
 unfold ixN at h;by_cases h0:0<=i
 ·rw[if_pos h0] at h;by_cases h1:i<n
  ·rw[if_pos h1] at h;have e:i.toNat=j:=BO h;exact⟨by rw[seqIndex_of h0 h1,e],ω,ω,h1⟩
  rw[if_neg h1] at h;cases h
 rw[if_neg h0] at h;by_cases h1:-(n:Int)<=i
 ·rw[if_pos h1] at h;have e:(i+n).toNat=j:=BO h;exact⟨by rw[seqIndex_neg ω h1,e],ω,h1,ω⟩
 rw[if_neg h1] at h;cases h
theorem K5 {α:Type}{xs:List α}{i:Int}{v:α}(h:atI xs i=some v):∃j,seqIndex? i xs.length=some j/\xs[j]?=some v/\j<xs.length/\-(xs.length:Int)<=i/\i<xs.length:=by
 unfold atI at h;cases e:ixN xs.length i with
 | none=>rw[e] at h;cases h
 | some j=>
  rw[e] at h;obtain⟨h1,h2,h3,h4⟩:=Kq e;exact⟨j,h1,h,h2,h3,h4⟩
theorem dj {α:Type}{xs:List α}{j:Nat}{v:α}(h:xs[j]?=some v):atI xs (j:Int)=some v:=by
 have hj:j<xs.length:=(AW.mp h).1;have e:ixN xs.length (j:Int)=some j:=by
  unfold ixN;rw[if_pos ω,if_pos ω];simp
 unfold atI;rw[e];exact h
noncomputable def K7 (b:Expr):Prop:=∀o i,subscripted b false o i=operate [o,i] (JE o i)
noncomputable def IxR (X:Cx)(r:R2):Prop:=
 ∀(value slice:Expr)(pins:List (Addr×Obj)) (s:AC) (σ:St) (H:Hp) (x y:V) (v u:An) (Q:VK),Inv X pins σ H s->RelV x v->RelV y u->r x y H Q ->
  subscripted slice false v u=operate [v,u] (JE v u)->AG (A0 X.prog X.w) X.A (subscriptTail value slice v u) (EP X pins σ Q) X.xe s
section
variable {X:Cx}{a b:Expr}{ta tb:TE}{pos:Pos}
theorem aap {r:R2}(hr:IxR X r)(ha:PE X a ta)(hb:PE X b tb)(hs:K7 b):PE X (.Subscript a b pos) (tOp r ta tb):=by
 intro pins s σ H Q I h;exact Subscript_ (ZJ ha hb I h fun v u s2 x y H2 I2 rx ry q=>hr a b pins s2 σ H2 x y v u Q I2 rx ry q (hs _ _))
noncomputable def aac (K:AE):R2:=fun x y H Q=>∃p xs i v,x=.ref p/\y=.int i/\SqL K H p xs/\atI xs i=some v/\Q v H
noncomputable def aaT (K:AE):R2:=fun x y H Q=>∃p xs i v,x=.ref p/\y=.int i/\SqT K H p xs/\atI xs i=some v/\Q v H
theorem Kp:IxR X (aac X.K):=by
 intro value slice pins s σ H x y v u Q I rx ry h hs;obtain⟨p,xs,i,z,rfl,rfl,hq,he,q⟩:=h;cases rx;obtain⟨t,rfl⟩:=ry;obtain⟨its,r,pl,hz⟩:=I.list hq;obtain⟨j,h1,h2,h3,h4,h5⟩:=K5 he;obtain⟨w,ew,rw'⟩:=r.get h2;have hl:=r.length;have hn:=xT;have fin:EP X pins σ Q w s:=⟨z,H,I,rw',q⟩;by_cases h0:0<=i
 ·have hj:i.toNat=j:=by
   rw[seqIndex_of h0 h5] at h1;exact BO h1
  exact item_listR pl.isList h0 ω (by rw[hj];simpa using ew) fin hs
 have hj:(i+(its.toArray.size:Int)).toNat=j:=by
  rw[seqIndex_neg ω h4] at h1;rw[AR,<- hl];exact BO h1
 exact subscriptTail_builtinR (x:=w) pl.isList.typeIs slot_list_getitem.lookup
  (wpAny_getItem_list_neg (Q:=fun r s'=>r=w/\EP X pins σ Q r s') pl.isList ω (by rw[AR] <;> omega) ω (by rw[hj];simpa using ew) ⟨rfl,fin⟩) hs
theorem Zo:IxR X (aaT X.K):=by
 intro value slice pins s σ H x y v u Q I rx ry h hs;obtain⟨p,xs,i,z,rfl,rfl,hq,he,q⟩:=h;cases rx;obtain⟨t,rfl⟩:=ry;obtain⟨its,r,pl,hz⟩:=I.tuple hq;obtain⟨j,h1,h2,h3,h4,h5⟩:=K5 he;obtain⟨w,ew,rw'⟩:=r.get h2;have hl:=r.length;have hn:=xT;have fin:EP X pins σ Q w s:=⟨z,H,I,rw',q⟩;exact subscriptTail_builtinR (x:=w) pl.typeIs slot_tuple_getitem.lookup
  (getItem_tuple (j:=j) (Q:=fun r s'=>r=w/\EP X pins σ Q r s') pl ω ω (by rw[AR,<- hl];exact h1) (by simpa using ew) ⟨rfl,fin⟩) hs
theorem Ih (its:List An) (n j:Nat) (u:An):DB (·.setIfInBounds j u) { cls:=.type "list",data:=.seq its.toArray n }={ cls:=.type "list",data:=.seq (its.set j u).toArray n }:=by
 simp [DB]
theorem Inv.lst {pins:List (Addr×Obj)}{σ:St}{H:Hp}{s:AC}{p:Addr}{xs:List V}(I:Inv X pins σ H s)(h:H p=some (.lst xs)) :
  ∃(its:List An)(n:Nat),Vals xs its/\s.heap.get? p=some { cls:=.type "list",data:=.seq its.toArray n }/\xs.length<=AL:=by
 obtain⟨z,its,n,r,e⟩:=I.hok p _ h;exact⟨its,n,r,e,z⟩
theorem Inv.Ze {pins:List (Addr×Obj)}{σ:St}{H:Hp}{s:AC}{p:Addr}{xs ys:List V}{its its':List An}{n n':Nat}{f:Obj->Obj}(I:Inv X pins σ H s)(h:H p=some (.lst xs))
  (ho:s.heap.get? p=some { cls:=.type "list",data:=.seq its.toArray n }) (hf:f { cls:=.type "list",data:=.seq its.toArray n }={ cls:=.type "list",data:=.seq its'.toArray n' }) (r:Vals ys its') (hz:ys.length<=AL) (t:Nat) :
  Inv X pins σ (upd H p (.lst ys)) { s with heap:=s.heap.update p f,toks:=t }:=by
 have e:(s.heap.update p f).get? p=some { cls:=.type "list",data:=.seq its'.toArray n' }:=by
  rw[F3 f ho (by rw[hf] <;> rfl),hf]
 refine I.write (x:=p) (e:=p) (by rw[h];trivial) (.inl rfl) (fun b u hb q=>(Db _ _ (BN hb)).trans q) ⟨_,e⟩ ?_;exact⟨hz,its',n',r,e⟩
noncomputable def Z8:V->V->V->Hp->(Hp->Prop)->Prop:=fun o i v H Q=>∃p xs k j,o=.ref p/\i=.int k/\H p=some (.lst xs)/\ixN xs.length k=some j/\Q (upd H p (.lst (xs.set j v)))
theorem set_list:Xc X Z8:=by
 intro pins s σ H o i v ov iv u Q I ro ri rv h;obtain⟨p,xs,k,j,rfl,rfl,hp,hj,q⟩:=h;cases ro;obtain⟨t,rfl⟩:=ri;obtain⟨its,n,r,ho,hz⟩:=I.lst hp;obtain⟨h1,h2,h3,h4⟩:=Kq hj;have hl:=r.length;have hn:=xT;have I':Inv X pins σ (upd H p (.lst (xs.set j v))) { s with heap:=s.heap.update p (DB (·.setIfInBounds j u)) }:=
  I.Ze hp ho (Ih its n j u) (r.set rv j) (by rw[List.length_set];exact hz) s.toks
 by_cases h0:0<=k
 ·have hk:k.toNat=j:=by
   rw[seqIndex_of h0 h4] at h1;exact BO h1
  exact PySem.W.ki_setAt ho h0 ω (by rw[AR,<- hl];exact h4) (by rw[hk];exact⟨_,I',q⟩)
 have hk:(k+(its.toArray.size:Int)).toNat=j:=by
  rw[seqIndex_neg ω h3] at h1;rw[AR,<- hl];exact BO h1
 exact PySem.W.ki_setBack ho ω (by rw[AR,<- hl];exact h3) ω (by rw[hk];exact⟨_,I',q⟩)
theorem Bk (lo hi:Option Int)(n:Nat):(GA lo hi none n).1=((HT.sIx n 0 lo:Nat):Int)/\(GA lo hi none n).2.1=((HT.sIx n n hi:Nat):Int)/\(GA lo hi none n).2.2=1:=by
 refine⟨?_,?_,rfl⟩
 ·cases lo with
  | none=>simp [GA,HT.sIx]
  | some i=>
   simp only[GA,HT.sIx,getD_none,show(1:Int)>0 by decide,if_true];by_cases h:i<0
   ·simp only[h,if_true] <;> omega
   simp only[h,if_false] <;> omega
 cases hi with
 | none=>simp [GA,HT.sIx]
 | some i=>
  simp only[GA,HT.sIx,getD_none,show(1:Int)>0 by decide,if_true];by_cases h:i<0
  ·simp only[h,if_true] <;> omega
  simp only[h,if_false] <;> omega
theorem yL (its:List An)(lo hi:Option Int):slicePick its.toArray lo hi none=((its.drop (HT.sIx its.length 0 lo)).take (HT.sIx its.length its.length hi-HT.sIx its.length 0 lo)).toArray:=by
 obtain⟨h1,h2,h3⟩:=Bk lo hi its.toArray.size;unfold slicePick;rw[h1,h2,h3];simp only[sliceRange_one,pick_run,AR] <;> rfl
noncomputable def aaP (K:AE):V->Option Int->Option Int->Hp->VK->Prop:=fun x lo hi H Q=>∃a xs,x=.ref a/\SqL K H a xs/\∀p,H p=none->Q (.ref p) (upd H p (.lst (jQ xs lo hi)))
theorem Ue:SlR X (aaP X.K):=by
 intro pins s σ H x v vl vu lo hi sl Q I rx hs pl pu h;obtain⟨a,xs,rfl,hx,q⟩:=h;cases rx;obtain⟨its,r,ht,hz⟩:=I.list hx;have hlen:=r.length;refine⟨"list",_,slot_list_getitem.lookup,ht.isList.typeIs,?_⟩;refine wpAny_getItem_list_slice ht.isList hs pl pu .none (by simp) ?_ (by rw[AR] <;> omega)
 rw[yL,<- hlen];refine⟨.ref s.heap.objs.size,_,I.laid (t':=s.toks) (o:=.lst (jQ xs lo hi)) (fun b ob q=>AB _ q) (A1 _) ?_,rfl,q _ (I.hok.fresh (A1 _))⟩;exact⟨Be (uU xs lo hi) hz,_,0,(r.drop (HT.sIx xs.length 0 lo)).take (HT.sIx xs.length xs.length hi-HT.sIx xs.length 0 lo),AQ _ rfl⟩
noncomputable def iZ:V->Bool
 | .non=>true
 | .bl _=>true
 | .int _=>true
 | .str _=>true
 | _=>false
noncomputable def eqV:V->V->Bool
 | .non,.non=>true
 | .bl a,.bl b=>a == b
 | .bl a,.int b=>(if a then 1 else 0) == b
 | .int a,.bl b=>a == (if b then 1 else 0)
 | .int a,.int b=>a == b
 | .str a,.str b=>a == b
 | _,_=>false
theorem SQ {A:A7}{s:AC}{y x:V}{u v:An}(ry:RelV y u)(rx:RelV x v)(fy:iZ y=true)(fx:iZ x=true):BF A s u v (eqV y x):=by
 cases y with
 | non=>
  cases ry;cases x with
  | non=>cases rx;exact BF.same _
  | bl b=>cases rx;exact BF.none_bool b
  | int b=>obtain⟨t,rfl⟩:=rx;exact BF.none_int b t
  | str b=>obtain⟨t,rfl⟩:=rx;exact BF.none_str b t
  | _=>exact absurd (show false=true from fx) AZ
 | bl a=>
  cases ry;cases x with
  | non=>cases rx;exact BF.bool_none a
  | bl b=>cases rx;exact BF.bool_bool a b
  | int b=>obtain⟨t,rfl⟩:=rx;exact BF.bool_int a b t
  | str b=>obtain⟨t,rfl⟩:=rx;exact BF.bool_str a b t
  | _=>exact absurd (show false=true from fx) AZ
 | int a=>
  obtain⟨t',rfl⟩:=ry;cases x with
  | non=>cases rx;exact BF.int_none a t'
  | bl b=>cases rx;exact BF.int_bool a t' b
  | int b=>obtain⟨t,rfl⟩:=rx;exact BF.int_int a t' b t
  | str b=>obtain⟨t,rfl⟩:=rx;exact BF.int_str a t' b t
  | _=>exact absurd (show false=true from fx) AZ
 | str a=>
  obtain⟨t',rfl⟩:=ry;cases x with
  | non=>cases rx;exact BF.str_none a t'
  | bl b=>cases rx;exact BF.str_bool a t' b
  | int b=>obtain⟨t,rfl⟩:=rx;exact BF.str_int a t' b t
  | str b=>obtain⟨t,rfl⟩:=rx;exact BF.str_str a t' b t
  | _=>exact absurd (show false=true from fx) AZ
 | _=>exact absurd (show false=true from fy) AZ
noncomputable def eqU (x:V)(u:An):Bool:=match u with
 | .none=>eqV .non x
 | .bool b=>eqV (.bl b) x
 | .int i _=>eqV (.int i) x
 | .str z _=>eqV (.str z) x
 | _=>false
theorem SN {x y:V}{u:An}(r:RelV y u)(f:iZ y=true):eqU x u=eqV y x:=by
 cases y with
 | non=>cases r;rfl
 | bl b=>cases r;rfl
 | int i=>obtain⟨t,rfl⟩:=r;rfl
 | str z=>obtain⟨t,rfl⟩:=r;rfl
 | _=>exact absurd (show false=true from f) AZ
theorem sJ {x:V}:∀{xs:List V}{us:List An},Vals xs us->xs.all iZ=true->us.any (eqU x)=xs.any fun y=>eqV y x
 | _,_,.nil,_=>rfl
 | y::xs,u::us,.cons r t,f=>by
  rw[all_cons,C3] at f;rw[G0,G0,SN r f.1,sJ t f.2]
theorem oK {A:A7}{s:AC}{x:V}{v:An}(rx:RelV x v)(fx:iZ x=true):∀{xs:List V}{us:List An},Vals xs us->xs.all iZ=true->∀u∈us,BF A s u v (eqU x u)
 | _,_,.nil,_=>fun u hu=>by cases hu
 | y::xs,u::us,.cons r t,f=>fun u' hu=>by
  rw[all_cons,C3] at f;rcases Bi.mp hu with rfl|hu
  ·rw[SN r f.1];exact SQ r rx f.1 fx
  exact oK rx fx t f.2 u' hu
noncomputable def inV (x:V)(xs:List V):Bool:=xs.any fun y=>eqV y x
noncomputable def rIn (K:AE)(neg:Bool):R2:=fun x y H Q=>∃p xs,y=.ref p/\(SqL K H p xs\/SqT K H p xs)/\iZ x=true/\xs.all iZ=true/\Q (.bl (if neg then !inV x xs else inV x xs)) H
theorem Mh:OpR X (Cn .In) (rIn X.K false):=by
 intro pins s σ H x y v u Q I rx ry h;obtain⟨p,xs,rfl,hq,fx,fs,q⟩:=h;cases ry;rcases hq with hq|hq
 ·obtain⟨its,r,pl,hz⟩:=I.list hq;refine SeqAt.in_listAt (eqU x) pl.isList (fun w hw=>oK rx fx r fs w (by simpa using hw)) ⟨.bl _,H,I,rfl,?_⟩;rw[show its.toArray.any (eqU x)=its.any (eqU x) by simp,sJ r fs];exact q
 obtain⟨its,r,pl,hz⟩:=I.tuple hq;refine SeqAt.in_tupleAt (eqU x) pl (fun w hw=>oK rx fx r fs w (by simpa using hw)) ⟨.bl _,H,I,rfl,?_⟩;rw[show its.toArray.any (eqU x)=its.any (eqU x) by simp,sJ r fs];exact q
theorem BR:OpR X (Cn .NotIn) (rIn X.K true):=by
 intro pins s σ H x y v u Q I rx ry h;obtain⟨p,xs,rfl,hq,fx,fs,q⟩:=h;cases ry;rcases hq with hq|hq
 ·obtain⟨its,r,pl,hz⟩:=I.list hq;refine SeqAt.notIn_listAt (eqU x) pl.isList (fun w hw=>oK rx fx r fs w (by simpa using hw)) ⟨.bl _,H,I,rfl,?_⟩;rw[show its.toArray.any (eqU x)=its.any (eqU x) by simp,sJ r fs];exact q
 obtain⟨its,r,pl,hz⟩:=I.tuple hq;refine SeqAt.notIn_tupleAt (eqU x) pl (fun w hw=>oK rx fx r fs w (by simpa using hw)) ⟨.bl _,H,I,rfl,?_⟩;rw[show its.toArray.any (eqU x)=its.any (eqU x) by simp,sJ r fs];exact q
theorem jr:eV X (.builtin "len") (fun xs H Q=>∃p ys,xs=[.ref p]/\(SqL X.K H p ys\/SqT X.K H p ys)/\Q (.int ys.length) H):=by
 intro pins s σ H xs us Q I r h;obtain⟨p,ys,rfl,hq,q⟩:=h;obtain⟨u,rfl,rx⟩:=vals1 r;cases rx;have hn:=xT;rcases hq with hq|hq
 ·obtain⟨its,r',pl,hz⟩:=I.list hq;have hlen:=r'.length;exact Calls.call_len_list pl.isList (by simp only[AR] <;> omega) ⟨.int ys.length,H,I.tok _,⟨s.toks+1,by rw[AR,hlen]⟩,q⟩
 obtain⟨its,r',pl,hz⟩:=I.tuple hq;have hlen:=r'.length;exact len_tuple pl (by simp only[AR] <;> omega) ⟨.int ys.length,H,I.tok _,⟨s.toks+1,by rw[AR,hlen]⟩,q⟩
theorem Dd:eV X (.type "list") (fun xs H Q=>∃p ys,xs=[.ref p]/\(SqL X.K H p ys\/SqT X.K H p ys)/\∀l,H l=none->Q (.ref l) (upd H l (.lst ys))):=by
 intro pins s σ H xs us Q I r h;obtain⟨p,ys,rfl,hq,q⟩:=h;obtain⟨u,rfl,rx⟩:=vals1 r;cases rx;have fin:∀(its:List An),Vals ys its->ys.length<=AL->∀(h':Heap)(c':Nat),(∀b o',s.heap.get? b=some o'->h'.get? b=some o') ->
   h'.get? s.heap.objs.size=some { cls:=.type "list",dict:=none,data:=.seq its.toArray c',slots:=#[] }->EP X pins σ Q (.ref s.heap.objs.size) { s with heap:=h' }:=fun its r' hz h' c' kp e=>
  ⟨.ref s.heap.objs.size,_,I.laid (t':=s.toks) kp (A1 _) (show dR X.prog X.w _ h' _ (.lst ys) from⟨hz,its,c',r',e⟩),rfl,q _ (I.hok.fresh (A1 _))⟩
 rcases hq with hq|hq
 ·obtain⟨its,r',pl,hz⟩:=I.list hq;have hlen:=r'.length;obtain⟨o,ho,hc,n,hd⟩:=pl.isList;exact call_list_seq p (.inl rfl) ho hc hd (fun h' c' kp e=>fin its r' hz h' c' kp e) (by simp only[AR] <;> omega)
 obtain⟨its,r',pl,hz⟩:=I.tuple hq;have hlen:=r'.length;obtain⟨o,ho,hc,n,hd⟩:=pl;exact call_list_seq p (.inr rfl) ho hc hd (fun h' c' kp e=>fin its r' hz h' c' kp e) (by simp only[AR] <;> omega)
theorem p7:eV X (.type "tuple") (fun xs H Q=>∃p ys,xs=[.ref p]/\((SqL X.K H p ys/\∀l,H l=none->Q (.ref l) (upd H l (.tup ys)))\/(SqT X.K H p ys/\Q (.ref p) H))):=by
 intro pins s σ H xs us Q I r h;obtain⟨p,ys,rfl,h⟩:=h;obtain⟨u,rfl,rx⟩:=vals1 r;cases rx;rcases h with⟨hq,q⟩|⟨hq,q⟩
 ·obtain⟨its,r',pl,hz⟩:=I.list hq;have hlen:=r'.length;refine call_tuple_list pl.isList (fun h' kp=>?_) (by simp only[AR] <;> omega)
  have I1:Inv X pins σ H { s with heap:=h' }:=I.kept (t':=s.toks) kp;have I2:Inv X pins σ (upd H h'.objs.size (.tup ys)) { s with heap:=h'.push { cls:=.type "tuple",data:=.seq its.toArray } }:=
   I1.laid (t':=s.toks) (fun b o e=>AB _ e) (A1 _) (show dR X.prog X.w _ _ _ (.tup ys) from⟨hz,its,r',IB.new _ _⟩)
  exact⟨.ref h'.objs.size,_,I2,rfl,q _ (I1.hok.fresh (A1 _))⟩
 obtain⟨its,r',pl,hz⟩:=I.tuple hq;exact call_tuple_same pl ⟨.ref p,H,I,rfl,q⟩
noncomputable def tyV (K:AE)(T:String)(x:V)(H:Hp):Prop:=match x with
 | .str _=>T = "str"
 | .int _=>T = "int"
 | .ref p=>(T = "list" /\ ∃xs,SqL K H p xs)\/(T = "tuple" /\ ∃o,K.lookup p=some o/\o.cls=.type "tuple" /\ o.dict=none) \/
   (T = "dict" /\ ((∃kvs,H p=some (.dK kvs))\/∃kvs,H p=some (.dT kvs)))\/(T = "set" /\ ∃S n,H p=some (.set S n))
 | _=>False
theorem qd {pins:List (Addr×Obj)}{σ:St}{H:Hp}{s:AC}{T:String}{x:V}{v:An}(I:Inv X pins σ H s)(r:RelV x v)(ty:tyV X.K T x H) :
  s.TypeIs v T/\∀a,v=.ref a->∃ob,s.heap.get? a=some ob/\ob.dict=none:=by
 cases x with
 | str z=>
  obtain⟨t,rfl⟩:=r;cases (show T = "str" from ty);exact⟨typeIs_str s z t,fun _ e=>nomatch e⟩
 | int i=>
  obtain⟨t,rfl⟩:=r;cases (show T = "int" from ty);exact⟨typeIs_int s i t,fun _ e=>nomatch e⟩
 | ref p=>
  cases r;rcases ty with⟨rfl,xs,hq⟩|⟨rfl,o,hk,hc,hd⟩|⟨rfl,hk⟩|⟨rfl,S,n,hk⟩
  ·obtain⟨its,_,pl,_⟩:=I.list hq;refine⟨pl.isList.typeIs,fun a e=>?_⟩;cases e;obtain⟨o,n,e,c,hd,_⟩:=pl;exact⟨o,e,hd⟩
  ·refine⟨⟨o,I.kIn p o hk,hc⟩,fun a e=>?_⟩;cases e;exact⟨o,I.kIn _ o hk,hd⟩
  ·have z:∃o,s.heap.get? p=some o/\o.ExactDict:=by
    rcases hk with⟨kvs,hk⟩|⟨kvs,hk⟩
    ·obtain⟨_,_,_,_,o,_,_,e,ex,_⟩:=I.hok p _ hk;exact⟨o,e,ex⟩
    obtain⟨_,_,_,_,o,_,_,e,ex,_⟩:=I.hok p _ hk;exact⟨o,e,ex⟩
   obtain⟨o,e,ex⟩:=z;refine⟨⟨o,e,ex.1⟩,fun a e2=>?_⟩;cases e2;exact⟨o,e,ex.2.1⟩
  obtain⟨o,_,_,_,e,ex,_⟩:=I.hok p _ hk;refine⟨⟨o,e,ex.1⟩,fun a e2=>?_⟩;cases e2;exact⟨o,e,ex.2.1⟩
 | _=>exact D7 ty
variable {o e:Expr}{es:List Expr}{to:TE}{t:TA}{name:Str}{apos cpos:Pos}{T id:String}{r:V->List V->Hp->VK->Prop}
end
noncomputable def MtM (X:Cx)(id:String)(r:V->List V->Hp->VK->Prop):Prop:=
 ∀(pins:List (Addr×Obj)) (s:AC) (σ:St) (H:Hp) (x:V) (xs:List V) (v:An) (us:List An) (Q:VK),Inv X pins σ H s->RelV x v->Vals xs us->r x xs H Q ->
  AG (A0 X.prog X.w) X.A (call (.builtin id) (v::us)) (EP X pins σ Q) X.xe s
theorem Vals.one:∀{x:V}{us:List An},Vals [x] us->∃u,us=[u]/\RelV x u:=fun h=>by
 cases h with
 | cons r h=>
  cases h;exact⟨_,rfl,r⟩
theorem Vals.zero:∀{us:List An},Vals [] us->us=[]
 | _,.nil=>rfl
theorem Vals.dropLast {xs:List V}{us:List An}(h:Vals xs us):Vals xs.dropLast us.dropLast:=by
 induction h with
 | nil=>exact .nil
 | cons r t ih=>
  cases t with
  | nil=>exact .nil
  | cons q t'=>exact .cons r ih
theorem Vals.rep {xs:List V}{us:List An}(h:Vals xs us):∀k:Nat,Vals (BC k xs).flatten (BC k us).flatten
 | 0=>.nil
 | k+1=>by
  rw[FX,FX,flatten_cons,flatten_cons];exact Vals.append h (Vals.rep h k)
theorem Jf {α:Type}(l:List α):l.eraseIdx (l.length-1)=l.dropLast:=by
 induction l with
 | nil=>rfl
 | cons a r ih=>
  cases r with
  | nil=>rfl
  | cons b r=>
   have e:(a::b::r).length-1=((b::r).length-1)+1:=by
    have h1:(a::b::r).length=r.length+2:=rfl;have h2:(b::r).length=r.length+1:=rfl;omega
   rw[e,List.eraseIdx_cons_succ,ih]
   all_goals rfl
theorem foldl_rep (its:List An):∀(k:Nat)(acc:List An),
  List.foldl (fun x1 x2=>x1++x2) acc.toArray (BC k its.toArray)=(acc++(BC k its).flatten).toArray
 | 0,acc=>by simp
 | k+1,acc=>by
  have e:acc.toArray++its.toArray=(acc++its).toArray:=by simp
  have e2:(acc++its)++(BC k its).flatten=acc++(BC (k+1) its).flatten:=by
   rw[FX,flatten_cons,EC]
  rw[<- e2,<- foldl_rep its k (acc++its),<- e,FX,foldl_cons]
section
variable {X:Cx}{pins:List (Addr×Obj)}{σ:St}{H:Hp}{s:AC}{l b:Addr}{xs ys zs:List V}
theorem Inv.Zf {its its':List An}{n:Nat}{f:Array An->Array An}{t':Nat}(I:Inv X pins σ H s)(hH:H l=some (.lst xs))
  (e:s.heap.get? l=some { cls:=.type "list",data:=.seq its.toArray n }) (hf:f its.toArray=its'.toArray) (hv:Vals ys its') (hz:ys.length<=AL) :
  Inv X pins σ (upd H l (.lst ys)) { s with heap:=s.heap.update l (DB f),toks:=t' }:=by
 have q:=PySem.IsL.update e f;rw[hf] at q;refine I.write (x:=l) (e:=l) (by rw[hH];exact trivial) (.inl rfl) (fun b' u hb hu=>(Db s.heap (DB f) (BN hb)).trans hu) ⟨_,q⟩ ?_;exact⟨hz,its',_,hv,q⟩
theorem Inv.aaE {its:List An}{t':Nat}(I:Inv X pins σ H s)(hv:Vals ys its)(hz:ys.length<=AL) :
  Inv X pins σ (upd H s.heap.objs.size (.lst ys)) { s with heap:=s.heap.push { cls:=.type "list",data:=.seq its.toArray },toks:=t' }:=
 I.laid (fun _ _ q=>AB _ q) (A1 _) ⟨hz,its,0,hv,AQ _ rfl⟩
theorem Inv.fresh (I:Inv X pins σ H s):H s.heap.objs.size=none:=I.hok.fresh (A1 _)
theorem Inv.Ij (I:Inv X pins σ H s) (hH:H l=some (.lst xs)):xs.length<=AL/\∃(its:List An)(n:Nat),Vals xs its/\xs.length=its.length/\s.heap.get? l=some { cls:=.type "list",data:=.seq its.toArray n }:=by
 obtain⟨z,its,n,r,e⟩:=I.hok l _ hH;exact⟨z,its,n,r,r.length,e⟩
theorem Eu {n:Nat}(h:n<=AL):AI.List.listTooLong n=false:=by
 unfold AI.List.listTooLong;exact decide_eq_false ω
end
section
variable {X:Cx}
noncomputable def Ux:V->List V->Hp->VK->Prop:=fun x vs H Q=>∃l xs y,x=.ref l/\vs=[y]/\H l=some (.lst xs)/\xs.length<AL/\Q .non (upd H l (.lst (xs++[y])))
theorem Mw:MtM X "list.append" Ux:=by
 intro pins s σ H x vs v us Q I rx rv h;obtain⟨l,xs,y,rfl,rfl,hH,hz,q⟩:=h;cases rx;obtain⟨u,rfl,ru⟩:=rv.one;obtain⟨z,its,n,r,hl,e⟩:=I.Ij hH;refine DZ F.slot_list_append ⟨_,e,rfl⟩ JP (IM _ _) (PySem.list_append l its.toArray n u (by rw[AR];omega)) ⟨e,?_⟩;refine⟨.non,_,I.Zf (its':=its++[u]) hH e (by simp) (r.append (.cons ru .nil)) ?_,rfl,q⟩;rw[AK,BM];omega
noncomputable def Ut:V->List V->Hp->VK->Prop:=fun x vs H Q=>∃l b xs zs,x=.ref l/\vs=[.ref b]/\H l=some (.lst xs)/\H b=some (.lst zs)/\xs.length+zs.length<=AL/\Q .non (upd H l (.lst (xs++zs)))
theorem Mv:MtM X "list.extend" Ut:=by
 intro pins s σ H x vs v us Q I rx rv h;obtain⟨l,b,xs,zs,rfl,rfl,hH,hB,hz,q⟩:=h;cases rx;obtain⟨u,rfl,ru⟩:=rv.one;cases ru;obtain⟨z,its,n,r,hl,e⟩:=I.Ij hH;obtain⟨z2,its2,n2,r2,hl2,e2⟩:=I.Ij hB;have hsz:its.toArray.size+its2.toArray.size<=AL:=by rw[AR,AR];omega
 have hlong:¬(!its.toArray.isEmpty&&AI.List.listTooLong (its.toArray.size+its2.toArray.size))=true:=by
  rw[Eu hsz,FY];exact AZ
 refine DZ F.slot_list_extend ⟨_,e,rfl⟩ F.entry_list_extend (F.args_list_extend_2 _ _)
  (AutoSeq1.list_extend_list_list_0 l its.toArray n b its2.toArray n2 hlong (by rw[AR];omega) ω) ⟨e,e2,?_⟩
 refine⟨.non,_,I.Zf (its':=its++its2) hH e (by simp) (r.append r2) ?_,rfl,q⟩;rw[AK];omega
noncomputable def aaR:V->List V->Hp->VK->Prop:=fun x vs H Q=>∃l xs y,x=.ref l/\vs=[]/\H l=some (.lst xs)/\xs[xs.length-1]?=some y/\Q y (upd H l (.lst xs.dropLast))
theorem Y9:MtM X "list.pop" aaR:=by
 intro pins s σ H x vs v us Q I rx rv h;obtain⟨l,xs,y,rfl,rfl,hH,hy,q⟩:=h;cases rx;have hus:=rv.zero;subst hus;obtain⟨z,its,n,r,hl,e⟩:=I.Ij hH;obtain⟨u,hu,ru⟩:=r.get hy;have hy':its.toArray[its.toArray.size-1]?=some u:=by
  show its.toArray[its.length-1]?=some u;rw[<- CS,<- hl];exact hu
 refine DZ F.slot_list_pop ⟨_,e,rfl⟩ F.entry_list_pop (F.args_list_pop_1 _) (MeetsSeq.list_pop_last l its.toArray n u hy' (by rw[AR];omega)) ⟨e,?_⟩;refine⟨y,_,I.Zf (its':=its.dropLast) hH e ?_ r.dropLast ?_,ru,q⟩
 ·show its.toArray.eraseIdxIfInBounds (its.toArray.size-1)=its.dropLast.toArray;rw[AR,List.eraseIdxIfInBounds_toArray,Jf]
 rw[List.length_dropLast];omega
noncomputable def aaW:R2:=fun x y H Q=>∃l b xs zs,x=.ref l/\y=.ref b/\H l=some (.lst xs)/\H b=some (.lst zs)/\xs.length+zs.length<=AL/\∀p,H p=none->Q (.ref p) (upd H p (.lst (xs++zs)))
theorem YT:OpR X (D1 .Add) aaW:=by
 intro pins s σ H x y v u Q I rx ry h;obtain⟨l,b,xs,zs,rfl,rfl,hH,hB,hz,q⟩:=h;cases rx;cases ry;obtain⟨z,its,n,r,hl,e⟩:=I.Ij hH;obtain⟨z2,its2,n2,r2,hl2,e2⟩:=I.Ij hB;refine PySem.P.add_list e e2 ?_ (by rw[AR,AR];omega);have ea:its.toArray++its2.toArray=(its++its2).toArray:=by simp
 rw[ea];exact⟨.ref _,_,I.aaE (t':=s.toks) (r.append r2) (by rw[AK];omega),rfl,q _ I.fresh⟩
noncomputable def aaQ:R2:=fun x y H Q=>∃l k xs,x=.ref l/\y=.int k/\H l=some (.lst xs)/\-(2^63)<=k/\k<2^63/\xs.length*k.toNat<=AL /\
 ∀p,H p=none->Q (.ref p) (upd H p (.lst (BC k.toNat xs).flatten))
theorem len_rep {α:Type}(xs:List α)(k:Nat):(BC k xs).flatten.length=k*xs.length:=by
 induction k with
 | zero=>simp
 | succ k ih=>rw[FX,flatten_cons,AK,ih,succ_mul,Nat.add_comm]
theorem YK:OpR X (D1 .Mult) aaQ:=by
 intro pins s σ H x y v u Q I rx ry h;obtain⟨l,k,xs,rfl,rfl,hH,h1,h2,hz,q⟩:=h;cases rx;obtain⟨t,rfl⟩:=ry;obtain⟨z,its,n,r,hl,e⟩:=I.Ij hH;have hlen:its.toArray.size*k.toNat<=AL:=by rw[AR,<- hl];exact hz
 have hcap:¬its.toArray.size*k.toNat>(2^63-1)/8:=by
  have:(AL:Nat)<=(2^63-1)/8:=by decide
  omega
 have hfit:¬(!Builtin.List.listFitsIndex k)=true:=by
  rw[fitsIndex_both h1 h2];exact AZ
 have hlong:¬AI.List.listTooLong (its.toArray.size*k.toNat)=true:=by
  rw[Eu hlen];exact AZ
 have hnew:List.foldl (fun x1 x2=>x1++x2) #[] (BC (if its.toArray.isEmpty=true then 0 else k.toNat) its.toArray)=(BC k.toNat its).flatten.toArray:=by
  have f0:∀m:Nat,List.foldl (fun x1 x2=>x1++x2) #[] (BC m its.toArray)=(BC m its).flatten.toArray:=fun m=>by
   have:=foldl_rep its m [];rw[List.nil_append] at this;exact this
  rw[f0];cases its with
  | nil=>simp
  | cons a r'=>rw[if_neg (by simp)]
 refine wpAny_binaryOp_repeat_ref (T := "list") (U := "int") δ ⟨_,e,rfl⟩ (fun s'=>typeIs_int s' k t) noFill_list_mul F.fills_int_mul F.slot_int_rmul repeat_list F.slot_int_index.lookup
  (DZ F.slot_int_rmul (typeIs_int s k t) F.entry_int_rmul (F.args_int_rmul_2 _ _) (int___rmul___int_list k t l its.toArray n)
   ⟨e,rfl,⟨_,e,rfl⟩,DZ F.slot_list_mul ⟨_,e,rfl⟩ F.entry_list_mul (F.args_list_mul_2 _ _) (AutoListH.list___mul___list_int_3 l its.toArray n k t hfit hcap hlong) ⟨e,?_⟩⟩)
 rw[hnew];exact⟨.ref _,_,I.aaE (t':=s.toks) (r.rep k.toNat) (by rw[len_rep,Nat.mul_comm];exact hz),rfl,q _ I.fresh⟩
end
end L2
namespace Att
open PySem PySem.W PySem.Calls PyProof.Rows
theorem u9 {P:Params}{h:Heap}:∀(ns:List Int)(vs:List An),WellAll P h vs (ns.map WData.int)->Fa vs ns:=by
 intro ns
 induction ns with
 | nil=>
  intro vs w;rw[JI] at w;cases w;exact .nil
 | cons n ns ih=>
  intro vs w;rw[D2] at w;cases w with
  | cons a b=>
   cases a;exact .cons _ _ (ih _ b)
theorem Ln {l:OpenLaw}{n:Nat}(hn:l.most=some n){P:Params}{h:Heap}{args:List WData}{vals:List An}
  (hpre:l.row.toRowW.claim.pre args=true) (hwl:WellAll P h vals args) :
  ∃a vs ns,vals=[An.ref a]/\args=[WData.list (ns.map WData.int)]/\h.get? a=some { cls:=.type "list",data:=.seq vs.toArray }/\Fa vs ns/\ns.length<=n:=by
 have hsh:WShape.hasAll [] args [.list .int]=true:=(pre_splitW hpre).1;have hc:l.pre.holds [] { args:=args }=true:=(pre_splitW hpre).2;obtain⟨d,r,rfl,h1,h2⟩:=hasAllW_cons hsh;obtain rfl:=hasAllW_nil h2;obtain⟨xs,rfl,h3⟩:=hasW_list h1;obtain⟨ns,rfl⟩:=items_int h3;have hlen:ns.length<=n:=by
  unfold OpenLaw.pre at hc;have h4:(WTm.not (.lt (.lit (.int (n:Int))) (.len (.arg 0)))).holds [] { args:=[.list (ns.map .int)] }=true:=by
   have h4:=(holds_andW hc).1;rw[hn] at h4;exact h4
  have h5:=condW_of h4 (w_not (w_lt w_lit (w_len_list (w_arg rfl))));rw[AF] at h5;refine Nat.le_of_not_lt fun q=>?_;have q':(n:Int)<((ns.length:Nat):Int):=ω
  first
   | (rw[decide_eq_true q'] at h5;exact absurd h5 δ)
   | (simp at h5;omega)
 cases hwl with
 | cons w1 w2=>
  cases w2;cases w1 with
  | list ho hall=>exact⟨_,_,ns,rfl,rfl,ho,u9 ns _ hall,hlen⟩
theorem LC (l:OpenLaw)(args:List WData):l.row.toRowW.claim.post args (.bool true) args=true:=
 postW_of (r:=l.row.toRowW) (X:=(true == true))
  (show WShape.has [] (.bool true) .bool=true by first|rfl|decide|simp [WShape.has,WShape.arms,WShape.armsAll])
  (show(WTm.eq .res (.lit (.bool true))).value [] { args:=args,res:=some (.bool true),after:=args }=some (.bool (true == true)) from w_eq_bool (w_res rfl) w_lit) rfl
theorem Gy {l:OpenLaw}{n:Nat}{q:AV}{loose:List Str}{XP:(Str->Option An)->Heap->Prop}{YP:A6->Heap->Prop}{d:DefRec}
  (hn:l.most=some n) (hdf:d.params.defaults=[])
  (call:∀(w:A6)(s₀ s₁:AC)(mg mb:Str->Option An)(fa:Addr)(o:Obj)(pm cd doc:An)(a:Addr)(vs:List An)(ns:List Int),
   Ground q loose [] XP w s₀ mg mb s₁.heap->YP w s₁.heap ->
   s₁.heap.get? fa=some o->o.data=.func (docDef d.name d.params d.body d.scope pm cd doc)->s₁.heap.CodeRec cd d.name->mg d.name=some (.ref fa) ->
   s₁.heap.get? a=some { cls:=.type "list",data:=.seq vs.toArray }->Fa vs ns->ns.length<=n->s₁.gens=#[] ->
   FC (A0 l.prog w) callerA (.call (.ref fa) ⟨[.ref a],[]⟩) (fun r s'=>r=.ok (.ret (.bool true))/\OldK s₁.heap s'.heap/\s'.os=s₁.os/\HU s'.gens) s₁) :
  WalkO q loose XP YP l.row.toRowW d [] (fun f vs=>PySem.call f vs):=by
 intro w s₀ s₁ mg mb G Y fa o pm cd doc dV kV ho hd hcd hD hmg hg args vals as hpre hlay hrd hwl hlo;obtain rfl:dV=.none:=Dflts.none hD hdf;obtain rfl:kV=.none:=Dflts.noKw hD;obtain⟨a,vs,ns,rfl,rfl,hobj,hints,hlen⟩:=Ln hn hpre hwl;refine enter_call (HV (call w s₀ s₁ mg mb fa o pm cd doc a vs ns G Y ho (fd_plain hd) hcd hmg hobj hints hlen hg) fun r s' hq=>?_);obtain⟨rfl,h2,h3,h4⟩:=hq;exact⟨.inl ⟨.bool true,.bool true,[],rfl,fun _=>rfl,.bool true,LC l _,fun _=>⟨List.Pairwise.nil,fun _ hm=>(nomatch hm)⟩⟩,h2,h3,h4⟩
end Att
namespace L2
open PySem PySem.Spec PyProof.Rows
theorem zL:∀{vs:List An}{ns:List Int},Fa vs ns->Vals (ns.map V.int) vs
 | _,_,.nil=>.nil
 | _,_,.cons n t h=>.cons ⟨t,rfl⟩ (zL h)
noncomputable def Only (H:Hp):Prop:=∀b,H b=none\/∃o xs,H b=some (.frz o (.lst xs))
theorem RV {P:AV}{w:A6}{K:AE}{mg mb:Str->Option An}{CX:CXT}{k:Nat}{fa a:Addr}{fd:CA}{x:Str}{sp:Sp}{s₁:AC}{vs:List An}{ns:List Int}
  (KX:K.In s₁.heap) (hns:s₁.heap.Ns AJ mg) (hb:s₁.heap.Ns builtinsNs mb) (hbb:∀x:Str,x ≠ "__name__" -> mb x=DC x) (hlim:s₁.heap.NoLimit) (hg:s₁.gens=#[])
  (ha:s₁.heap.get? a=some { cls:=.type "list",data:=.seq vs.toArray }) (hi:Fa vs ns) (hl:ns.length<=AL) (hr:iM k callerA)
  (F:∀base:Heap,K.In base->base.Ns AJ mg->dm P w K mg base CX k fa fd [x] sp) (hbind:∀(s:AC)(u:An),BindsTo s fd ⟨[u],[]⟩ [(x,u)])
  (hsp:∀H:Hp,Only H->SqL K H a (ns.map V.int)->sp [.ref a] H (fun v _=>v=.bl true) fun _ _ _=>False)
  (hCX:∀H e s',CX [] H s₁ (fun _ _ _=>False) e s'->False) :
  FC (A0 P w) callerA (.call (.ref fa) ⟨[.ref a],[]⟩) (fun r s'=>r=.ok (.ret (.bool true))/\OldK s₁.heap s'.heap/\s'.os=s₁.os/\HU s'.gens) s₁:=by
 have rv:=zL hi;have lenV:=hi.length
 -- from an abstract heap in which nothing but the script may be tracked
 have core:∀H:Hp,Only H->SqL K H a (ns.map V.int)->HOk P w H s₁.heap->(∀b,H b≠none->b=a)->(H a≠none->K.lookup a=none) ->
   FC (A0 P w) callerA (.call (.ref fa) ⟨[.ref a],[]⟩) (fun r s'=>r=.ok (.ret (.bool true))/\OldK s₁.heap s'.heap/\s'.os=s₁.os/\HU s'.gens) s₁:=by
  intro H hO hS hok hA hK;have base_of:∀{b:Addr}{o:Obj},s₁.heap.get? b=some o->H b=none->(Cy s₁.heap H).get? b=some o:=fun e n=>R8 e n;have noA:∀{b:Addr}{o:Obj}{es:Array DictEntry}{ep:Nat},s₁.heap.get? b=some o->o.data=.dict es ep->H b=none:=fun {b o es ep} e d=>by
   cases q:H b with
   | none=>rfl
   | some u=>
    have e':b=a:=hA b (by rw[q];simp);subst e';rw[ha] at e;cases e;have d':ED vs.toArray _=F4 es ep:=d;cases d'
  have nsK:∀{b:Addr}{m:Str->Option An},s₁.heap.Ns b m->(Cy s₁.heap H).Ns b m:=fun {b m} ⟨o,es,ep,e,d,r⟩=>⟨o,es,ep,base_of e (noA e d),d,r⟩;have hKb:K.In (Cy s₁.heap H):=fun b o e=>base_of (KX b o e) (by
   cases q:H b with
   | none=>rfl
   | some u=>
    have e':b=a:=hA b (by rw[q];simp);subst e';rw[hK (by rw[q];simp)] at e;cases e)
  have hM:Mod K mg (Cy s₁.heap H):=⟨hKb,nsK hns,⟨mb,nsK hb,hbb⟩,let ⟨mc,h1,h2⟩:=hlim;⟨mc,nsK h1,h2⟩⟩;have e0:Xd P w K mg (Cy s₁.heap H) callerA [] s₁ H:=⟨rfl,hM,fun b o e=>Wf e,le_of_eq (M6 _ _),trivial,fun b hb=>absurd (show b∈([]:List Addr) from hb) (by simp),hok,.of_eq hg⟩;refine HV ((F _ hKb (nsK hns)).run callerA [] s₁ H ⟨[.ref a],[]⟩ [.ref a] [.ref a] _ _ hr e0 (hbind s₁ (.ref a)) (.cons rfl .nil) (hsp H hO hS)) fun r s' h=>?_;cases r with
  | error e=>exact(hCX H e s' h).elim
  | ok fl=>
   cases fl with
   | next=>exact D7 h
   | brk=>exact D7 h
   | cont=>exact D7 h
   | ret u=>
    obtain⟨v,H',os,bare,un,hok',r',q⟩:=h;have q':v=.bl true:=q;subst q';obtain rfl:u=An.bool true:=r';refine⟨rfl,OldK.of_keep fun b o e=>?_,os,bare⟩;cases q:H b with
    | none=>exact un.keep b o e q (by intro z;exact absurd (show b∈([]:List Addr) from z) (by simp)) (by simp)
    | some u=>
     rcases hO b with z|⟨ob,xs,z⟩
     ·rw[q] at z;cases z
     have z2:=un.frzs b ob _ z;obtain⟨e1,_⟩:=hok b _ z;obtain⟨e2,_⟩:=hok' b _ z2;rw[e] at e1;cases e1;exact e2
 cases hk:K.lookup a with
 | some o=>
  -- the script is one of the module's own objects
  have e:=KX a o hk;rw[ha] at e;cases e;refine core (fun _=>none) (fun _=>.inl rfl) (.inr ⟨_,vs.toArray,_,hk,rfl,rfl,rfl,by rw[AR,lenV];exact hl,by simpa using rv⟩) (fun b u z=>by have z':(none:Option HO)=some u:=z;cases z') (fun b z=>absurd rfl z) fun z=>absurd rfl z
 | none=>
  refine core (fun b=>if b=a then some (.frz { cls:=.type "list",data:=.seq vs.toArray } (.lst (ns.map V.int))) else none) (fun b=>?_) (.inl (.inr ⟨{ cls:=.type "list",data:=.seq vs.toArray },if_pos rfl⟩)) (fun b u z=>?_) (fun b z=>?_) fun _=>hk
  ·by_cases hb:b=a
   ·exact .inr ⟨_,_,if_pos hb⟩
   exact .inl (if_neg hb)
  ·by_cases hb:b=a
   ·have z':=(if_pos hb).symm.trans z;cases z';subst hb;exact⟨ha,by rw[AF];exact hl,vs,_,rv,ha⟩
   have z':=(if_neg hb).symm.trans z;cases z'
  by_cases hb:b=a
  ·exact hb
  exact absurd (if_neg hb) z
theorem TV {l:PySem.W.OpenLaw}{n k:Nat}{q:AV}{loose:List Str}{XP:(Str->Option An)->Heap->Prop}{YP:A6->Heap->Prop}{d:DefRec}{K:Params->AE}{CX:A6->CXT}{sp:A6->Sp}{x:Str}
  (hn:l.most=some n) (hn2:n<=AL) (hdf:d.params.defaults=[]) (hr:iM k callerA)
  (hY:∀(w:A6)(h:Heap),YP w h->(K w.params).In h)
  (F:∀(w:A6)(mg:Str->Option An)(fa:Addr)(h:Heap),(K w.params).In h->h.Ns AJ mg->mg d.name=some (.ref fa) ->
   ∃fd:CA,(∀(s:AC)(u:An),BindsTo s fd ⟨[u],[]⟩ [(x,u)]) /\
    ∀base:Heap,(K w.params).In base->base.Ns AJ mg->dm l.prog w (K w.params) mg base (CX w) k fa fd [x] (sp w))
  (hsp:∀(w:A6)(H:Hp)(a:Addr)(ns:List Int),ns.length<=n->Only H->SqL (K w.params) H a (ns.map V.int)->sp w [.ref a] H (fun v _=>v=.bl true) fun _ _ _=>False)
  (hCX:∀(w:A6)(H:Hp)(s:AC)(e:An)(s':AC),CX w [] H s (fun _ _ _=>False) e s'->False) :
  PySem.W.WalkO q loose XP YP l.row.toRowW d [] (fun f vs=>PySem.call f vs):=by
 refine Att.Gy hn hdf fun w s₀ s₁ mg mb fa o pm cd doc a vs ns G Y ho hd hcd hmg hobj hints hlen hg=>?_;have KX:=hY w _ Y;obtain⟨fd,hb,hF⟩:=F w mg fa _ KX G.T.g hmg;exact RV KX G.T.g G.T.b G.T.builtins G.T.nolimit hg hobj hints (Be hlen hn2) hr hF hb (fun H hO hS=>hsp w H a ns hlen hO hS) fun H e s'=>hCX w H s₁ e s'
noncomputable def bf (s:Stmt):Arguments:=match s with
 | .FunctionDef _ a _ _ _ _ _ _ _ _=>a
 | _=>{ posonlyargs:=[],args:=[],vararg:=none,kwonlyargs:=[],kw_defaults:=[],kwarg:=none,defaults:=[] }
noncomputable def aW (s:Stmt):List Stmt:=match s with
 | .FunctionDef _ _ b _ _ _ _ _ _ _=>b
 | _=>[]
noncomputable def aj (s:Stmt):GM:=match s with
 | .FunctionDef _ _ _ _ _ _ sc _ _ _=>sc
 | _=>{ kind:=.function,names:=[],isGenerator:=false,isCoroutine:=false }
noncomputable abbrev CX0:CXT:=fun _ _ _ _ _ _=>False
noncomputable abbrev E0:XK:=fun _ _ _=>False
theorem aav {X:Cx}:Ju CX0 X E0:=fun _ _ _ _ _ _ _ h=>h.elim
structure Fun (K:AE)(x qual:Str)(st:Stmt)(f:Addr)(fd:CA):Prop where
 ex:∃(oc:An)(od:Option Addr)(kV doc pm:An)(an:Option Addr)(cdv ct:An)(osl:Array (Option An)),
  fd=fnOf x qual (bf st) (aW st) (aj st) .none kV doc pm an cdv ct/\K.lookup f=some ⟨oc,od,.func fd,osl⟩/\CI K cdv qual=true
 kp:CB K (.ref f)=true
section
variable {P:AV}{w:A6}{K:AE}{mg:Str->Option An}{base:Heap}
theorem Fun.ok {x qual:Str}{st:Stmt}{f:Addr}{fd:CA}{N ps:List Str}{k:Nat}{sp:Sp}(F:Fun K x qual st f fd)(S:bA N ps (aj st))(len:∀vs H Q E,sp vs H Q E->vs.length=ps.length)
  (hbody:∀(cdv:An)(A:A7)(outer:List Env)(s:AC)(H:Hp)(vs:List V)(Q:VK)(E:XK),iM k (A.deeper (IL qual (aj st) s.heap.objs.size f cdv))->sp vs H Q E ->
   ∃t,PSs (Jh CX0 P w K mg base N qual (aj st) f cdv A outer s H E).nox (aW st) t/\t { nx:=fun _ H'=>Q .non H',rt:=Q } (start N vs) H):dm P w K mg base CX0 (k+1) f fd ps sp:=by
 obtain⟨oc,od,kV,doc,pm,an,cdv,ct,osl,rfl,lk,hcd⟩:=F.ex;refine aaH lk hcd S len fun A outer s H vs Q E hr hsp=>?_;obtain⟨t,h,q⟩:=hbody cdv A outer s H vs Q E hr hsp;exact⟨t,h.nox,q⟩
theorem Fun.binds {x qual:Str}{st:Stmt}{f:Addr}{fd:CA}{ps:List Str}(F:Fun K x qual st f fd)
  (h:∀(kV doc pm:An)(an:Option Addr)(cdv ct:An)(us:List An),us.length=ps.length->bindArgs (fnOf x qual (bf st) (aW st) (aj st) .none kV doc pm an cdv ct) ⟨us,[]⟩=pure (ps.zip us)):Binds K fd ps []:=by
 obtain⟨oc,od,kV,doc,pm,an,cdv,ct,osl,rfl,lk,hcd⟩:=F.ex;exact .all (h kV doc pm an cdv ct)
theorem Sv {x qual:Str}{st:Stmt}{f:Addr}{oc:An}{od an:Option Addr}{osl:Array (Option An)}{kV doc pm cdv ct:An}(l:K.lookup f=some ⟨oc,od,.func (fnOf x qual (bf st) (aW st) (aj st) .none kV doc pm an cdv ct),osl⟩)
  (c:CI K cdv qual=true) (k:CB K (.ref f)=true):Fun K x qual st f (fnOf x qual (bf st) (aW st) (aj st) .none kV doc pm an cdv ct):=⟨⟨oc,od,kV,doc,pm,an,cdv,ct,osl,rfl,l,c⟩,k⟩
end
noncomputable def Same (H H':Hp):Prop:=∀b o,H b=some o->H' b=some o
theorem Same.refl (H:Hp):Same H H:=fun _ _ h=>h
theorem Same.trans {H H1 H2:Hp}(a:Same H H1)(b:Same H1 H2):Same H H2:=fun c o h=>b c o (a c o h)
theorem Same.seq {K:AE}{H H':Hp}{a:Addr}{xs:List V}(e:Same H H')(h:SqL K H a xs):SqL K H' a xs:=by
 rcases h with(h|⟨o,h⟩)|h
 ·exact .inl (.inl (e _ _ h))
 ·exact .inl (.inr ⟨o,e _ _ h⟩)
 exact .inr h
end L2
set_option maxHeartbeats 4000000
namespace L2
open PySem PySem.Spec PyProof.Rows
theorem yw {env:Env}:∀(names:List (Str×Dx)) (acc:List (Str×Addr)),
  (∀y∈names,y.2=.free->∃c,env.cells.lookup y.1=some c)->(∀x c,acc.lookup x=some c->env.cells.lookup x=some c) ->
  ∃cl,(forIn names acc fun(y:Str×Dx)(r:List (Str×Addr))=>(match y with
   | (name,kind)=>if (kind == .free)=true then (do let a <- cellOf env name;pure (Ev ((name,a)::r))) else pure (Ev r):Sem (ForInStep (List (Str×Addr)))))=pure cl /\
   (∀x c,cl.lookup x=some c->env.cells.lookup x=some c)/\(∀y∈names,y.2=.free->∃c,cl.lookup y.1=some c)/\(∀x c,acc.lookup x=some c->∃c',cl.lookup x=some c')
 | [],acc,_,ha=>⟨acc,rfl,ha,fun _ h=>(nomatch h),fun x c h=>⟨c,h⟩⟩
 | (n,k)::r,acc,hf,ha=>by
  have hf':∀y∈r,y.2=.free->∃c,env.cells.lookup y.1=some c:=fun y hy=>hf y (BS _ hy);by_cases hk:k=.free
  ·subst hk;obtain⟨c0,e0⟩:=hf (n,.free) AX rfl;have hce:cellOf env n=pure c0:=by unfold cellOf;rw[e0]
   have ha2:∀x c,((n,c0)::acc).lookup x=some c->env.cells.lookup x=some c:=fun x c h=>by
    rw[EE] at h;cases hx:x == n with
    | true=>
     rw[hx] at h;have e1:x=n:=by simpa using hx
     rw[e1,e0];exact h
    | false=>
     rw[hx] at h;exact ha x c h
   obtain⟨cl,e,h1,h2,h3⟩:=yw r ((n,c0)::acc) hf' ha2;refine⟨cl,?_,h1,fun y hy hz=>?_,fun x c h=>?_⟩
   ·rw[EU];simp only[beq_self_eq_true,if_true,hce];exact e
   ·rcases Bi.mp hy with q|q
    ·subst q;exact h3 n c0 (by simp)
    exact h2 y q hz
   cases hx:x == n with
   | true=>exact h3 x c0 (by rw[EE,hx])
   | false=>exact h3 x c (by rw[EE,hx];exact h)
  have hb:(k == Dx.free)=false:=by simpa using hk
  obtain⟨cl,e,h1,h2,h3⟩:=yw r acc hf' ha;refine⟨cl,?_,h1,fun y hy hz=>?_,h3⟩
  ·rw[EU];simp only[hb,FI,if_false];exact e
  rcases Bi.mp hy with q|q
  ·subst q;exact absurd hz hk
  exact h2 y q hz
theorem KR {env:Env}{scope:GM}(hf:∀y∈scope.names,y.2=.free->∃c,env.cells.lookup y.1=some c) :
  ∃cl,closureFor scope env=pure cl/\(∀x c,cl.lookup x=some c->env.cells.lookup x=some c)/\(∀y∈scope.names,y.2=.free->∃c,cl.lookup y.1=some c):=by
 obtain⟨cl,e,h1,h2,_⟩:=yw (env:=env) scope.names [] hf (fun x c h=>by simp at h);refine⟨cl,?_,h1,h2⟩;unfold closureFor;show(forIn scope.names [] _ >>= fun r=>pure r)=_;rw[show(forIn scope.names ([]:List (Str×Addr)) fun(y:Str×Dx)(r:List (Str×Addr))=>(match y with
   | (name,kind)=>if (kind == .free)=true then (do let a <- cellOf env name;pure (Ev ((name,a)::r))) else pure (Ev r):Sem (ForInStep (List (Str×Addr)))))=pure cl from e]
 rfl
section
variable {prog:AV}{w:A6}{A:A7}{R:Result->AC->Prop}{s:AC}
theorem Ar {elt tg iter:Expr}{ifs:List Expr}{scope:GM}{pos:Pos}{it acc:An}{env:Env}(J:Nat->AC->Prop)
  (turn:∀n s,J n s->AG (A0 prog w) A (ES it) (fun r s1=>match r with
   | none=>R (.ok .next) s1
   | some v=>AG (A0 prog w) A (IE tg it v) (fun _ s1'=>AG (A0 prog w) A (GV tg env v) (fun _ s2=>
     AG (A0 prog w) A (forIn ifs true fun c r=>if r=true then do let ok <- isTrue c env (eval c env);pure (Ev ok) else pure (Ev r)) (fun ok s3=>
      if ok=true then AG (A0 prog w) A (eval elt env) (fun x s4=>
       AG (A0 prog w) A (call (.builtin "list.append") [acc,x]) (fun _ s5=>∃m,m<n/\J m s5) (notedBy (A0 prog w) A env fun e z=>R (.error e) z) s4) (notedBy (A0 prog w) A env fun e z=>R (.error e) z) s3
      else ∃m,m<n/\J m s3) (notedBy (A0 prog w) A env fun e z=>R (.error e) z) s2) (notedBy (A0 prog w) A env fun e z=>R (.error e) z) s1') (notedBy (A0 prog w) A env fun e z=>R (.error e) z) s1) (notedBy (A0 prog w) A env fun e z=>R (.error e) z) s)
  (n:Nat) (h:J n s):FC (A0 prog w) A (.compLoop (.ListComp elt [⟨tg,iter,ifs,0⟩] scope pos) 0 it acc env) R s:=by
 refine codeAny_loop rfl J (fun n z hJ=>?_) n h;show AG _ A ((compTurn (.ListComp elt [⟨tg,iter,ifs,0⟩] scope pos) 0 it acc env).onRaise (fun y=>do noteFrame y env;theTreesLotGoes y)) _ _ z;refine wpAny_noted ?_;rw[compTurn_list];refine Ap (HK (Ap (DV (turn n z hJ) (fun r s1 h1=>?_) fun _ _ q=>q)));cases r with
 | none=>exact Au h1
 | some v=>
  refine Ap (DV h1 (fun _ s1' h1'=>?_) fun _ _ q=>q);refine Ap (DV h1' (fun _ s2 h2=>Ap (DV h2 (fun ok s3 h3=>?_) fun _ _ q=>q)) fun _ _ q=>q);cases ok with
  | false=>exact Au ⟨rfl,h3⟩
  | true=>
   exact Ap (Ap (DV h3 (fun x s4 h4=>Ap (DV h4 (fun _ s5 h5=>Au (Au ⟨rfl,h5⟩)) fun _ _ q=>q)) fun _ _ q=>q))
end
noncomputable def pU (mp:List (Option Nat))(σ:St):St:=mp.map fun o=>match o with
 | some j=>(σ[j]?).join
 | none=>none
noncomputable def cJ (X:Cx)(N:List Str)(scope:GM)(cl:List (Str×Addr))(C:Addr)(s:AC)(H:Hp)(fp:List Addr):Cx:=
 { X with N:=N,s₀:=s,H₀:=H,env:=IP scope cl C X.env,outer:=X.stack,stack:=X.stack,ex:=fp,fn:=fun _=>false,pn:=[],xe:=fun _ _=>False }
noncomputable def p6 (NX:List Str)(names:List (Str×Dx)):List Str->List (Option Nat)->Bool
 | [],[]=>true
 | x::r,o::q=>(match o with
   | none=>names.lookup x == some .local
   | some j=>NX[j]? == some x&&names.lookup x == some .free)&&p6 NX names r q
 | _,_=>false
theorem Ac {NX:List Str}{names:List (Str×Dx)}:∀{N:List Str}{mp:List (Option Nat)}{i j:Nat}{x:Str},p6 NX names N mp=true->N[i]?=some x->mp[i]?=some (some j)->NX[j]?=some x/\names.lookup x=some .free
 | [],_,i,_,_,_,h,_=>by simp at h
 | _::_,[],_,_,_,h,_,_=>by simp [p6] at h
 | y::r,o::q,0,j,x,h,h1,h2=>by
  simp at h1 h2;subst h1 h2;unfold p6 at h;simp only[C3,beq_iff_eq] at h;exact h.1
 | y::r,o::q,i+1,j,x,h,h1,h2=>by
  unfold p6 at h;rw[C3] at h;exact Ac (i:=i) h.2 (by simpa using h1) (by simpa using h2)
theorem Ab {NX:List Str}{names:List (Str×Dx)}:∀{N:List Str}{mp:List (Option Nat)},p6 NX names N mp=true->mp.length=N.length
 | [],[],_=>rfl
 | [],_::_,h=>by simp [p6] at h
 | _::_,[],h=>by simp [p6] at h
 | _::r,_::q,h=>by
  unfold p6 at h;rw[C3] at h;simp [Ab h.2]
structure Bc (NX:List Str)(kX:List (Str×Dx))(N:List Str)(mp:List (Option Nat))(scope:GM):Prop where
 kind:scope.kind=.function
 nocell:∀y∈scope.names,y.2≠.cell
 locs:∀y∈scope.names,y.2=.local->scope.names.lookup y.1=some .local
 fre:∀y∈scope.names,y.2=.free->kX.lookup y.1=some .cell\/kX.lookup y.1=some .free
 map:p6 NX scope.names N mp=true
noncomputable def PTs (X:Cx)(cs:List Expr)(t:TT):Prop:=
 ∀(pins:List (Addr×Obj)) (s:AC) (σ:St) (H:Hp) (Q:Bool->Hp->Prop),Inv X pins σ H s->t σ H Q ->
  AG (A0 X.prog X.w) X.A (forIn cs true fun c r=>if r=true then do let ok <- isTrue c X.env (eval c X.env);pure (Ev ok) else pure (Ev r)) (TP X pins σ Q) X.xe s
noncomputable def Xw:TT:=fun _ H Q=>Q true H
theorem U9 {X:Cx}:PTs X [] Xw:=fun _ _ _ H _ I h=>wpAny_tests_nil ⟨H,I,h⟩
theorem U8 {X:Cx}{c:Expr}{t:TT}(h:PT X c t):PTs X [c] t:=fun pins s σ H Q I q=>wpAny_tests_one (h pins s σ H Q I q)
noncomputable def zO (mp:List (Option Nat))(wi:TI)(g:TG)(tc:TT)(te:TE):TE:=fun σ H Q=>wi σ H fun J H1=>
 ∃W:Nat->Nat->List V->St->Hp->Prop,(∃m,W 0 m [] (pU mp σ) H1)/\∀i m acc τ H2,W i m acc τ H2 ->
  (J.stop i H2/\∀d,H2 d=none->Q (.ref d) (upd H2 d (.lst acc))) \/
  (J.go i H2/\acc.length<AL/\∃N:List V->St->Hp->Prop,(∀acc' τ' H',N acc' τ' H'->∃m',m'<m/\W (i+1) m' acc' τ' H')/\∀x H3,J.yld i H2 x H3->g x τ H3 fun τ1 H4=>tc τ1 H4 fun b H5=>
   if b=true then te τ1 H5 fun v H6=>N (acc++[v]) τ1 H6 else N acc τ1 H5)
theorem gY {env:Env}:∀{names:List (Str×Dx)}{x:Str}{k:Dx},(names.map fun(n,k)=>if (k == Dx.free&&env.scope.kind == .function&&env.kindOf n == some .cell) then (n,Dx.cell) else (n,k)).lookup x=some k ->
  names.lookup x=some k\/(k=.cell/\names.lookup x=some .free)
 | [],_,_,h=>by simp at h
 | (n,k0)::r,x,k,h=>by
  have ih:=@gY env r x k;rw[D2] at h;by_cases hc:(k0 == Dx.free&&env.scope.kind == .function&&env.kindOf n == some .cell)=true
  ·simp only[hc,if_true] at h;cases hx:x == n with
   | true=>
    rw[EE,hx] at h;have hk:k0=.free:=by
     rw[C3,C3] at hc;simpa using hc.1.1
    right;refine⟨(BO h).symm,?_⟩;rw[EE,hx,hk]
   | false=>
    rw[EE,hx] at h;rw[EE,hx];exact ih h
  simp only[hc,if_false] at h;cases hx:x == n with
  | true=>
   rw[if_neg (by simp),EE,hx] at h;rw[EE,hx];exact .inl h
  | false=>
   rw[if_neg (by simp),EE,hx] at h;rw[EE,hx];exact ih h
theorem na0 {b D E:Nat}(h:b<E)(hD:E=D):b≠D:=by omega
theorem na1 {b D E C:Nat}(h:b<E)(hD:E=D)(hC:C=D+1):b≠C:=by omega
theorem na2 {C D:Nat}(hC:C=D+1):D≠C:=by omega
theorem na3 {C D E:Nat}(hD:E=D)(hC:C=D+1):E<=C:=by omega
theorem na4 {D E:Nat}(hD:E=D):E<=D:=by omega
section
variable {X:Cx}{NX N:List Str}{kX:List (Str×Dx)}{mp:List (Option Nat)}{scope:GM}{pins:List (Addr×Obj)}{σ:St}{s s':AC}{H:Hp}{fp:List Addr}{cl:List (Str×Addr)}{C:Addr}
theorem Ji (hkX:X.env.scope.names=kX)(S:Bc NX kX N mp scope)(I:Inv X pins σ H s)(hfp:∀b∈fp,zK X pins H b)(hold:∀b∈fp,b<s.heap.objs.size)(hC:s.heap.objs.size<=C)
  (hsub:∀x c,cl.lookup x=some c->X.env.cells.lookup x=some c) (hhas:∀y∈scope.names,y.2=.free->∃c,cl.lookup y.1=some c):(cJ X N scope cl C s H fp).Ok where
 mod:=I.ok.mod
 kind:=S.kind
 glob:=I.ok.glob
 blt:=I.ok.blt
 above:=hC
 inj:=fun x y c h1 h2=>I.ok.inj x y c (hsub x c h1) (hsub y c h2)
 has:=fun x h=>by
  have key:scope.names.lookup x=some .free:=by
   rcases h with h|h
   ·rcases gY (env:=X.env) (names:=scope.names) h with q|⟨_,q⟩
    ·exact absurd rfl (S.nocell _ (C1 q))
    exact q
   rcases gY (env:=X.env) (names:=scope.names) h with q|⟨q,_⟩
   ·exact q
   cases q
  exact hhas _ (C1 key) rfl
 cab:=fun x c h=>by cases h
 hd:=I.ok.hd
 frames:=I.ok.frames
 stk:=.inl rfl
 exf:=fun b hb=>⟨B1 (A8 (hold b hb) hC),fun x c e=>(hfp b hb).2.2.2.2.1 x c (hsub x c e)⟩
 bs:=I.bs
 bsz:=Be I.ok.bsz I.sz
 noex:=fun b o e hb=>by
  rcases(hfp b hb).2.2.2.1 with q|q
  ·exact I.ok.noex b o e q
  exact absurd (A8 (A8 (A4 e) I.ok.bsz) q) (C8 _)
 exfs:=fun b hb hz=>by
  obtain⟨_,h1,h2,_⟩:=hfp b hb;rcases Bi.mp (I.v8 b hz) with q|q
  ·exact h1 q
  exact h2 q
 vo:=I.stack
 frf:=I.JD
theorem KQ (hNX:X.N=NX)(hkX:X.env.scope.names=kX)(S:Bc NX kX N mp scope)(I:Inv X pins σ H s)(hfp:∀b∈fp,zK X pins H b)(hold:∀b∈fp,b<s.heap.objs.size)(hC:s.heap.objs.size<=C)
  (hsub:∀x c,cl.lookup x=some c->X.env.cells.lookup x=some c) (hhas:∀y∈scope.names,y.2=.free->∃c,cl.lookup y.1=some c)
  (ho:s'.os=s.os) (hg:s'.gens=s.gens) (hn:∃m,s'.heap.Ns C m) (hk:∀b o,s.heap.get? b=some o->s'.heap.get? b=some o) {pl:List (Addr×Obj)}
  (hp:∀p∈pl,s'.heap.get? p.1=some p.2/\H p.1=none/\p.1≠C/\p.1∉frs X.stack/\∀v,p.2.data≠.cell v) :
  Inv (cJ X N scope cl C s H fp) pl (pU mp σ) H s' where
 ok:=Ji hkX S I hfp hold hC hsub hhas
 os:=ho
 bare:=by rw[hg];exact I.bare
 base:=Un.kept hk
 loc:=by
  obtain⟨m,hm⟩:=hn;refine⟨m,hm,fun i x v h1 h2 h3=>?_⟩;have h2':(mp.map fun o=>match o with|some j=>(σ[j]?).join|none=>none)[i]?=some (some v):=h2
  rw[AU] at h2';cases e:mp[i]? with
  | none=>rw[e] at h2';cases h2'
  | some o=>
   rw[e] at h2';cases o with
   | none=>cases h2'
   | some j=>
    have h4:(σ[j]?).join=some v:=by simpa using h2'
    have h5:σ[j]?=some (some v):=by
     cases q:σ[j]? with
     | none=>rw[q] at h4;cases h4
     | some z=>rw[q] at h4;rw[show z=some v from h4]
    obtain⟨g1,g2⟩:=Ac S.map h1 e;have fk:=S.fre _ (C1 g2) rfl;obtain⟨m0,_,hl⟩:=I.loc;have vis:Vis X.env.scope x:=by
     rcases fk with q|q
     ·exact .inr (.inl (by rw[hkX];exact q))
     exact .inr (.inr (by rw[hkX];exact q))
    obtain⟨u,r,l⟩:=hl j x v (by rw[hNX];exact g1) h5 vis;refine⟨u,r,.inr ?_⟩;have l':∃c,X.env.cells.lookup x=some c/\s.heap.IsCell c (some u):=by
     rcases l with⟨q,_⟩|⟨_,q⟩
     ·have q':X.env.scope.names.lookup x=some .local:=q;rw[hkX] at q';rcases fk with z|z
      ·rw[q'] at z;cases z
      rw[q'] at z;cases z
     exact q
    obtain⟨c,hc,oc,hoc,hd⟩:=l';obtain⟨c',hc'⟩:=hhas _ (C1 g2) rfl;have ec:c'=c:=by
     have:=hsub x c' hc';rw[hc] at this;exact(BO this).symm
    subst ec;refine⟨?_,c',hc',oc,hk _ _ hoc,hd⟩;rcases h3 with q|q|q
    ·rcases gY (env:=X.env) (names:=scope.names) q with z|⟨z,_⟩
     ·rw[g2] at z;cases z
     cases z
    ·exact .inl q
    exact .inr q
 cell:=fun x c e=>by
  obtain⟨v,o,h1,h2⟩:=I.cell x c (hsub x c e);exact⟨v,o,hk _ _ h1,h2⟩
 free:=I.hok.fresh hC
 freeC:=fun x c e=>I.freeC x c (hsub x c e)
 pin:=fun p hpp=>hp p (by simpa [cJ] using hpp)
 hok:=I.hok.kept hk
 len:=by
  show(mp.map _).length=N.length;rw[AF];exact Ab S.map
set_option maxHeartbeats 8000000 in
theorem VG {tg iter elt:Expr}{ifs:List Expr}{pos:Pos}{wi:TI}{g:TG}{tc:TT}{te:TE}(N:List Str)(mp:List (Option Nat))(hNX:X.N=NX)(hkX:X.env.scope.names=kX)(S:Bc NX kX N mp scope)(hc:X.calm=true)
  (hi:PI X tg iter wi) (hg:∀cl C s H fp,PG (cJ X N scope cl C s H fp) tg g) (ht:∀cl C s H fp,PTs (cJ X N scope cl C s H fp) ifs tc) (he:∀cl C s H fp,PE (cJ X N scope cl C s H fp) elt te)
  (hs:∀x,E9 iter X.env x=pure x:=by intro _;rfl):PE X (.ListComp elt [⟨tg,iter,ifs,0⟩] scope pos) (zO mp wi g tc te):=by
 intro pins s σ H Q I h;obtain⟨cl,hcl,hsub,hhas⟩:=KR (env:=X.env) (scope:=scope) fun y hy hf=>I.ok.has y.1 (by
  rcases S.fre y hy hf with q|q
  ·exact .inl (show X.env.scope.names.lookup y.1=_ by rw[hkX];exact q)
  exact .inr (show X.env.scope.names.lookup y.1=_ by rw[hkX];exact q))
 rw[eval_ListComp];refine wpAny_comprehension_free (use:=none) rfl hs hcl S.kind S.locs ?_;refine thn (hi pins s σ H _ I h) fun v s1 h1=>thn h1 fun itv s2 h2=>?_;obtain⟨it,fp,tn,J,H2,e,I2,T,st2,f2,W,⟨m0,w0⟩,turn⟩:=h2;subst e;refine BG (wpAny_newFunctionEnv S.nocell (by intro y hy;simp at hy) (fun h3 hns hsb=>?_) S.kind);dsimp only at hns hsb |-;have hold:∀b∈fp,b<s2.heap.objs.size:=fun b hb=>by
  obtain⟨o,q,_⟩:=T.obj _ _ st2 b hb;exact A4 q
 generalize hD:s2.heap.objs.size=D at hns hsb;generalize hH2:s2.heap.push { cls:=.type "list",dict:=none,data:=.seq ([]:List An).toArray }=P2 at hns hsb |-;have hC:P2.objs.size=D+1:=by rw[<- hH2,B8,hD]
 generalize hC':P2.objs.size=C at hns hsb |-;rw[hC'] at hC;have old:∀b o,s2.heap.get? b=some o->h3.get? b=some o:=fun b o q=>by
  have hb:=A4 q;exact hsb.extBut b o (na1 hb hD hC) (AB _ (hH2 ▸ AB _ q))
 have accD:h3.get? D=some { cls:=.type "list",data:=.seq ([]:List An).toArray }:=
  hsb.extBut _ _ (na2 hC) (AB _ (by rw[<- hH2,<- hD];exact AQ _ rfl))
 have hfr:D∉frs X.stack:=fun z=>by
  rcases Bi.mp (I2.v8 D z) with q|q
  ·exact na0 I2.lt hD q.symm
  exact I2.Y6 (na4 hD) q
 have I0:Inv (cJ X N scope cl C s2 H2 fp) [(D,{ cls:=.type "list",data:=.seq ([]:List An).toArray })] (pU mp σ) H2 { s2 with heap:=h3,toks:=s2.toks+([]:List (Str×An)).length }:=
  KQ (s':={ s2 with heap:=h3,toks:=s2.toks+([]:List (Str×An)).length }) hNX hkX S I2 f2 hold (na3 hD hC) hsub hhas rfl rfl ⟨_,hns⟩ old fun p hp=>by
   have ep:=AM.mp hp;subst ep;exact⟨accD,I2.hok.fresh (na4 hD),na2 hC,hfr,fun v z=>by cases z⟩
 have T0:tn 0 h3:=T.keep _ _ _ st2 fun b _ o q=>old b o q;have loop:∀z:AC,z={ s2 with heap:=h3,toks:=s2.toks+([]:List (Str×An)).length } ->
   FC (A0 X.prog X.w) X.A (.compLoop (.ListComp elt [⟨tg,iter,ifs,0⟩] scope pos) 0 (.ref it) (.ref D) (IP scope cl C X.env))
    (compPost (A0 X.prog X.w) X.A X.xe none (EP X pins σ Q) (.ref D) C) z:=by
  rintro z rfl;have stat:∀{H':Hp}{pl:List (Addr×Obj)},(∀b∈fp,H' b=none)->(∀p∈pl,p.1=D)->∀b∈fp,zK (cJ X N scope cl C s2 H2 fp) pl H' b:=fun hn hp b hb=>by
   have hb2:=hold b hb;refine⟨hn b hb,na1 hb2 hD hC,(Ji hkX S I2 f2 hold (na3 hD hC) hsub hhas).exfs b hb,.inl hb,fun x c q=>(f2 b hb).2.2.2.2.1 x c (hsub x c q),fun p hpp=>?_⟩;have hpD:=hp p (by simpa [cJ] using hpp);rw[hpD];exact(na0 hb2 hD).symm
  refine Ar (env:=IP scope cl C X.env) (fun n z=>∃i acc τ H' its k,Inv (cJ X N scope cl C s2 H2 fp) [(D,{ cls:=.type "list",data:=.seq (GN its) k })] τ H' z/\tn i z.heap/\(∀b∈fp,H' b=none)/\Vals acc its/\acc.length<=AL/\W i n acc τ H')
   ?_ m0 ⟨0,[],_,H2,[],0,I0,T0,fun b hb=>(f2 b hb).1,.nil,EI _,w0⟩
  rintro n s5 ⟨i,acc,τ,H5,its,k,I5,st5,fr5,va,hz,w5⟩;rcases turn i n acc τ H5 w5 with⟨stop,qn⟩|⟨go,hz2,N9,hN9,step⟩
  ·refine thn (T.done (cJ X N scope cl C s2 H2 fp) rfl rfl rfl hc i _ s5 τ H5 _ I5 (stat fr5 (by simp)) st5 stop) fun r s6 ⟨hr,I6⟩=>?_;subst hr;obtain⟨m6,hn6,_⟩:=I6.loc;refine⟨m6,hn6,fun h' sb=>?_⟩;obtain⟨dD,nD,_,_,_⟩:=I6.pin (D,_) (BI _ (AM.mpr rfl));have U:=I6.base;have nC:H5 C=none:=I6.free;have ne:∀b o,s2.heap.get? b=some o->b≠C/\b≠D:=fun b o q=>by
    exact⟨na1 (A4 q) hD hC,na0 (A4 q) hD⟩
   have keepC:∀b o,b≠C->s6.heap.get? b=some o->h'.get? b=some o:=fun b o hb q=>(sb.2 b hb).trans q;have U':Un (frs X.stack) fp H2 (upd H5 D (.lst acc)) s2.heap h':=by
    refine⟨fun b o q n1 hb hx=>keepC b o (ne b o q).1 (U.keep b o q n1 hb hx),fun b o q n1 hb hx=>?_,fun b o q n1 hx=>?_,fun b o q hx=>?_,fun b xs q=>?_,fun b o xs q=>?_,fun b ps q=>?_⟩
    ·obtain⟨sl,z⟩:=U.slot b o q n1 hb hx;exact⟨sl,keepC b _ (ne b o q).1 z⟩
    ·rw[aM (ne b o q).2];exact U.free b o q n1 hx
    ·obtain⟨o',z⟩:=U.there b o q hx;exact⟨o',keepC b _ (ne b o q).1 z⟩
    ·have z:=U.tups b xs q;rw[aM (aF z nD)];exact z
    ·have z:=U.frzs b o xs q;rw[aM (aF z nD)];exact z
    obtain⟨more,z⟩:=U.tbls b ps q;exact⟨more,by rw[aM (aF z nD)];exact z⟩
   have hok:HOk X.prog X.w (upd H5 D (.lst acc)) h':=fun b u q=>by
    by_cases hb:b=D
    ·subst hb;rw[aq] at q;cases q;exact⟨hz,its,k,va,keepC _ _ (na2 hC) dD⟩
    rw[aM hb] at q;refine(I6.hok b u q).stay (fun c v hcc z=>keepC c v ?_ z) (fun c z=>by rw[aM (aF z nD)];exact z) fun c xs z=>by rw[aM (aF z nD)];exact z
    rcases hcc with z1|z1
    ·subst z1;exact aF q nC
    exact aF z1 nC
   have I7:Inv X pins σ (upd H5 D (.lst acc)) { s6 with heap:=h' }:=I2.call' (s':={ s6 with heap:=h' }) (ch:=fp) I6.os U' hok I6.bare fun b hb=>by
    obtain⟨_,a2,_,a4,a5,a6⟩:=f2 b hb;exact⟨a4,a2,a5,a6⟩
   exact⟨.ref D,_,I7,rfl,qn D nD⟩
  refine thn (T.item (cJ X N scope cl C s2 H2 fp) rfl rfl rfl hc i _ s5 τ H5 _ I5 (stat fr5 (by simp)) st5 go) fun r s6 ⟨u,hr,h6⟩=>?_;subst hr;refine thn h6 fun _ s7 ⟨x,H7,I7,r7,y7,st7,fr7⟩=>?_;have I7':=I7.pinned (stat fr7 (by simp)) (T.obj _ _ st7);have no:∀{α:Type}{t:Sem α}{Q1 Q2:α->AC->Prop}{E:An->AC->Prop}{z:AC},AG (A0 X.prog X.w) X.A t Q1 (fun _ _=>False) z->(∀a z,Q1 a z->Q2 a z)->AG (A0 X.prog X.w) X.A t Q2 E z:=
   fun q f=>DV q f fun _ _ z=>z.elim
  refine no (hg cl C s2 H2 fp _ s7 τ H7 x u _ I7' r7 (step x H7 y7)) fun _ s8 ⟨τ1,H8,I8,q8⟩=>?_;refine no (ht cl C s2 H2 fp _ s8 τ1 H8 _ I8 q8) fun ok s9 ⟨H9,I9,q9⟩=>?_;have again:∀{H':Hp}{z:AC}{its':List An}{k':Nat},Inv (cJ X N scope cl C s2 H2 fp) ([(D,{ cls:=.type "list",data:=.seq (GN its') k' })]++kh fp s7.heap) τ1 H' z ->
    tn (i+1) z.heap/\(∀b∈fp,H' b=none)/\Inv (cJ X N scope cl C s2 H2 fp) [(D,{ cls:=.type "list",data:=.seq (GN its') k' })] τ1 H' z:=fun {H' z its' k'} Iz=>by
   have get:∀b∈fp,∀o,s7.heap.get? b=some o->z.heap.get? b=some o/\H' b=none:=fun b hb o q=>by
    obtain⟨a1,a2,_⟩:=Iz.pin (b,o) (BI _ (BI _ (mJ hb q)));exact⟨a1,a2⟩
   refine⟨T.keep _ _ _ st7 fun b hb o q=>(get b hb o q).1,fun b hb=>?_,Iz.nQ⟩;obtain⟨o,q,_⟩:=T.obj _ _ st7 b hb;exact(get b hb o q).2
  cases ok with
  | false=>
   rw[if_neg AZ] at q9 |-;obtain⟨m',hm,w9⟩:=hN9 _ _ _ q9;obtain⟨a1,a2,a3⟩:=again I9;exact⟨m',hm,i+1,acc,τ1,H9,its,k,a3,a1,a2,va,hz,w9⟩
  | true=>
   rw[if_pos rfl] at q9 |-;refine no (he cl C s2 H2 fp _ s9 τ1 H9 _ I9 q9) fun y s10 ⟨v,H10,I10,rv,q10⟩=>?_;obtain⟨m',hm,w10⟩:=hN9 _ _ _ q10;obtain⟨a1,a2,a3⟩:=again I10;obtain⟨dD,nD,_,_,_⟩:=a3.pin (D,_) (BI _ (AM.mpr rfl));have hlen:=va.length;refine DZ F.slot_list_append ⟨_,dD,rfl⟩ JP (IM _ _) (PySem.list_append D its.toArray k y (by rw[AR];omega)) ⟨dD,?_⟩;obtain⟨k',q⟩:∃k',(s10.heap.update D (DB fun a=>a.push y)).get? D=some { cls:=.type "list",data:=.seq (its++[y]).toArray k' }:=by
    have q:=PySem.IsL.update dD (fun a=>a.push y);rw[show its.toArray.push y=(its++[y]).toArray by simp] at q;exact⟨_,q⟩
   have a4:Inv (cJ X N scope cl C s2 H2 fp) (kh fp s7.heap) τ1 H10 s10:=I10.pq fun p hp=>I10.pin p (BI _ (BI _ hp));have a5:Inv (cJ X N scope cl C s2 H2 fp) (kh fp s7.heap) τ1 H10 { s10 with heap:=s10.heap.update D (DB fun a=>a.push y),toks:=s10.toks }:=
    a4.turned (it:=D) (fun b o hb z=>(Db _ _ (BN hb)).trans z) nD (na2 hC) (.inr (na4 hD))
     (fun x c z=>by
      obtain⟨_,o,h1,_⟩:=I2.cell x c (hsub x c z);exact na0 (A4 h1) hD) fun p hp=>by
      have hb:=(tO (by simpa [cJ] using hp)).1;exact na0 (hold _ hb) hD
   obtain⟨b1,b2,b3⟩:=(show tn (i+1) (s10.heap.update D (DB fun a=>a.push y))/\(∀b∈fp,H10 b=none)/\True from
    ⟨T.keep _ _ _ a1 fun b hb o z=>(Db _ _ (na0 (hold b hb) hD).symm).trans z,a2,trivial⟩)
   refine⟨m',hm,i+1,acc++[v],τ1,H10,its++[y],k',a5.pq fun p hp=>?_,b1,b2,va.append (.cons rv .nil),by rw[AK,BM];omega,w10⟩;have ep:=AM.mp hp;subst ep;exact⟨q,nD,na2 hC,hfr,fun v z=>by cases z⟩
 have e1:{ newEnv scope C X.env.globals cl X.env.qual none .none (some X.env) X.env.builtins with scope:=relabel scope X.env }=IP scope cl C X.env:=rfl;exact codeAny_compStart_list (loop _ rfl) (T.self _ 0 _ _ _ T0 (loop _ rfl))
end
theorem Vals.bools:∀{bs:List Bool}{us:List An},Vals (bs.map V.bl) us->us=bs.map An.bool
 | [],_,.nil=>rfl
 | _::_,_,.cons r t=>by rw[Vals.bools t,(show _=An.bool _ from r)];rfl
section
variable {X:Cx}
theorem NP (bs:List Bool):((BB bs.length).all fun i=>(bs[i]?).getD true)=bs.all id:=by
 rw[FM,He,He];constructor
 ·intro h b hb;obtain⟨i,hi,rfl⟩:=List.getElem_of_mem hb;have:=h i (mem_range.mpr hi);rw[AD hi] at this;exact this
 intro h i hi;have hi':=mem_range.mp hi;rw[AD hi'];exact h _ (FS hi')
noncomputable def Yb (K:AE)(f:List Bool->Bool):List V->Hp->VK->Prop:=fun xs H Q=>∃p bs,xs=[.ref p]/\SqL K H p (List.map V.bl bs)/\Q (.bl (f bs)) H
theorem S8 (hc:X.calm=true):eV X (.builtin "all") (Yb X.K fun bs=>bs.all id):=by
 intro pins s σ H xs us Q I r h;obtain⟨p,bs,rfl,hq,q⟩:=h;cases r with
 | cons r rr=>
  cases rr;cases r;obtain⟨its,rv,pl,hz⟩:=I.list hq;have e:=rv.bools;subst e;have lt:p<s.heap.objs.size:=by obtain⟨_,e,_⟩:=pl.isList;exact A4 e
  refine call_all_walk (DL pl.isList ?_);refine⟨s.heap.objs.size,[s.heap.objs.size,p],[s.heap.objs.size],(bs.map An.bool).toArray.size,_,_,fun i=>(bs[i]?).getD true,rfl,Walks.list (A:=X.A.in1) (I.ok.hd hc) _ p (B1 lt) _,
   ⟨⟨_,AQ _ rfl,rfl,rfl⟩,pl.isList.push _⟩,fun i v s' Q' E' hP hQ=>?_,fun h' tk hk=>?_⟩
  ·have e:(bs.map An.bool)[i]?=some v:=by simpa using hP
   rw[AU] at e;cases z:bs[i]? with
   | none=>rw[z] at e;cases e
   | some b=>
    rw[z] at e;have e':An.bool b=v:=BO e;subst e';dsimp only at hQ;rw[z] at hQ;exact Ex hQ
  rw[AR,AF,NP];refine⟨.bl _,H,I.kept fun b o e=>hk b o (fun hm=>?_) (AB _ e),rfl,q⟩;rw[AM.mp hm] at e;exact C8 _ (A4 e)
noncomputable def aaU (K:AE):List V->Hp->VK->Prop:=fun xs H Q=>∃x T t b,xs=[x,.ty T]/\sO K H x t/\kitOne K t (.type T)=some b/\Q (.bl b) H
theorem S7:eV X (.builtin "isinstance") (aaU X.K):=by
 intro pins s σ H xs us Q I r h;obtain⟨x,T,t,b,rfl,ty,e,q⟩:=h;cases r with
 | cons r rr=>
  cases rr with
  | cons r' rr=>
   cases rr;cases (show _=An.type T from r');exact MN I r ty e fun tk=>⟨.bl b,H,I.tok tk,rfl,q⟩
end
inductive Tn (H:Hp):V->String->Prop where
 | non:Tn H .non "NoneType"
 | bl (b:Bool):Tn H (.bl b) "bool"
 | int (i:Int):Tn H (.int i) "int"
 | str (x:Str):Tn H (.str x) "str"
 | lst {a:Addr} {xs:List V} (e:H a=some (.lst xs)):Tn H (.ref a) "list"
 | tup {a:Addr} {xs:List V} (e:H a=some (.tup xs)):Tn H (.ref a) "tuple"
theorem Tn.ty {K:AE}{H:Hp}{x:V}{t:String}(h:Tn H x t):sO K H x (.type t):=by
 cases h with
 | non=>exact .non
 | bl b=>exact .bl b
 | int i=>exact .int i
 | str x=>exact .str x
 | lst e=>exact .lst e
 | tup e=>exact .tup e
noncomputable def jZ (t T:String):Bool:=t == T||(t == "bool" && T == "int")
noncomputable def kI:List String:=["NoneType","bool","int","str","list","tuple"]
theorem Wq (K:AE):∀t∈kI,∀T∈kI,kitOne K (.type t) (.type T)=some (jZ t T):=by
 intro t ht T hT;simp only[kI,Bi,B2,or_false] at ht hT;rcases ht with rfl|rfl|rfl|rfl|rfl|rfl <;> rcases hT with rfl|rfl|rfl|rfl|rfl|rfl <;> first|rfl|kernel_rfl
theorem Tn.known {H:Hp}{x:V}{t:String}(h:Tn H x t):t∈kI:=by cases h <;> decide
section
variable {X:Cx}
theorem Nz:eV X (.builtin "isinstance") (fun xs H Q=>∃x T t,xs=[x,.ty T]/\Tn H x t/\T∈kI/\Q (.bl (jZ t T)) H):=by
 intro pins s σ H xs us Q I r h;obtain⟨x,T,t,rfl,ty,hT,q⟩:=h;exact S7 pins s σ H _ us Q I r ⟨x,T,_,_,rfl,ty.ty,Wq X.K t ty.known T hT,q⟩
noncomputable def Xo (i j:Int):Prop:=0<j/\j<2^70
theorem wK:OpR X (D1 .FloorDiv) (rI Xo fun i j=>.int (i/j)):=opI fun i j _ _ _ _ _ hc q=>by
 have h1:(0:Int)<j:=hc.1;have h2:j<2^70:=hc.2;refine floordiv_int ω (by rw[Int.fdiv_eq_ediv_of_nonneg i ω];exact q) (.inl (PyProof.noPylong_of_log2 ?_));have h3:j.natAbs≠0:=ω;have h4:j.natAbs.log2<70:=(Nat.log2_lt h3).mpr ω;omega
end
noncomputable def cL (p:Addr)(H H':Hp):Prop:=∀b o,b≠p->H b=some o->H' b=some o
theorem cL.refl (p:Addr)(H:Hp):cL p H H:=fun _ _ _ h=>h
theorem cL.trans {p:Addr}{H H1 H2:Hp}(a:cL p H H1)(b:cL p H1 H2):cL p H H2:=fun c o n h=>b c o n (a c o n h)
theorem cL.upd {p:Addr}{H:Hp}{o:HO}:cL p H (upd H p o):=fun b u n h=>by rw[aM n];exact h
theorem Same.x {p:Addr}{H H':Hp}(h:Same H H'):cL p H H':=fun b o _ q=>h b o q
theorem aB {H:Hp}{p:Addr}{o:HO}(h:H p=none):Same H (upd H p o):=fun b u q=>by rw[aM (aF q h)];exact q
structure Cal (P:AV)(w:A6)(K:AE)(mg:Str->Option An)(base:Heap)(x:Str)(k:Nat)(ps:List Str)(sp:Sp):Prop where
 ex:∃(f:Addr)(fd:CA),dm P w K mg base CX0 k f fd ps sp/\Binds K fd ps []/\CB K (.ref f)=true/\mg x=some (.ref f)
section
variable {X:Cx}{k:Nat}{ps:List Str}{sp:Sp}{x:Str}{p pos:Pos}{e:Expr}{es:List Expr}{t:TA}
theorem YF (C:Cal X.prog X.w X.K X.mg X.base x k ps sp) (hr:iM k X.A) (hg:Gl X x) (ha:PA X (e::es) t) (hdb:(x == ("__debug__" : Str))=false:=by decide)
  (he:AH (e::es) X.env=(false,eval e X.env)::AH es X.env:=by rfl) (hpl:(Ct pos (AH es X.env)).any (·.1)=false:=by rfl):PE X (.Call (.Name x p) (e::es) [] pos) (vZ sp [] E0 t):=by
 obtain⟨f,fd,F,b,kp,hm⟩:=C.ex;exact VN F hr hg hm kp b .nil aav ha hdb he hpl
end
structure ZR (K:AE)(mg:Str->Option An)(x:Str)(st:Stmt)(ps:List Str)(f:Addr)(fd:CA):Prop where
 fn:Fun K x x st f fd
 bd:Binds K fd ps []
 nm:mg x=some (.ref f)
theorem ZR.cal {P:AV}{w:A6}{K:AE}{mg:Str->Option An}{base:Heap}{x:Str}{st:Stmt}{ps:List Str}{f:Addr}{fd:CA}{k:Nat}{sp:Sp}(D:ZR K mg x st ps f fd)(F:dm P w K mg base CX0 k f fd ps sp):Cal P w K mg base x k ps sp:=
 ⟨f,fd,F,D.bd,D.fn.kp,D.nm⟩
theorem PK (i j:Int):Ui (.int i) (.int j)=true:=rfl
theorem PJ (i j:Str):Ui (.str i) (.str j)=true:=rfl
theorem aaM {α:Type}(a:α)(r:List α):atI (a::r) 0=some a:=dj (j:=0) rfl
theorem Tp {α:Type}(a b:α)(r:List α):atI (a::b::r) 1=some b:=dj (j:=1) rfl
theorem aaL {α:Type}(a b c:α)(r:List α):atI (a::b::c::r) 2=some c:=dj (j:=2) rfl
theorem R5:ixN 3 0=some 0/\ixN 3 1=some 1/\ixN 3 2=some 2:=⟨δ,δ,δ⟩
theorem aU {n:Nat}(h:n<=1000000):n<=AL:=Be h δ
noncomputable def ixq (o:Option HO)(i:Int)(H:Hp)(Q:VK):Prop:=match o with
 | some (.lst xs)=>∃v,atI xs i=some v/\Q v H
 | some (.tup xs)=>∃v,atI xs i=some v/\Q v H
 | _=>False
noncomputable def stq (o:Option HO)(p:Addr)(k:Int)(v:V)(H:Hp)(Q:Hp->Prop):Prop:=match o with
 | some (.lst xs)=>∃j,ixN xs.length k=some j/\Q (upd H p (.lst (xs.set j v)))
 | _=>False
noncomputable def lnq (o:Option HO)(H:Hp)(Q:VK):Prop:=match o with
 | some (.lst ys)=>Q (.int ys.length) H
 | some (.tup ys)=>Q (.int ys.length) H
 | _=>False
noncomputable def Qi:R2:=fun x y H Q=>match x,y with
 | .ref p,.int i=>ixq (H p) i H Q
 | _,_=>False
noncomputable def Qc:V->V->V->Hp->(Hp->Prop)->Prop:=fun o i v H Q=>match o,i with
 | .ref p,.int k=>stq (H p) p k v H Q
 | _,_=>False
noncomputable def Qh:List V->Hp->VK->Prop:=fun xs H Q=>match xs with
 | [.ref p]=>lnq (H p) H Q
 | _=>False
theorem Ei (p:Addr)(i:Int)(H:Hp)(Q:VK):Qi (.ref p) (.int i) H Q=ixq (H p) i H Q:=rfl
theorem Lx (p:Addr)(k:Int)(v:V)(H:Hp)(Q:Hp->Prop):Qc (.ref p) (.int k) v H Q=stq (H p) p k v H Q:=rfl
theorem Ly (p:Addr)(H:Hp)(Q:VK):Qh [.ref p] H Q=lnq (H p) H Q:=rfl
theorem Wr (xs:List V)(i:Int)(H:Hp)(Q:VK):ixq (some (.lst xs)) i H Q=∃v,atI xs i=some v/\Q v H:=rfl
theorem Ua (xs:List V)(p:Addr)(k:Int)(v:V)(H:Hp)(Q:Hp->Prop):stq (some (.lst xs)) p k v H Q=∃j,ixN xs.length k=some j/\Q (upd H p (.lst (xs.set j v))):=rfl
theorem Wn (xs:List V)(H:Hp)(Q:VK):lnq (some (.lst xs)) H Q=Q (.int xs.length) H:=rfl
theorem Wm (xs:List V)(H:Hp)(Q:VK):lnq (some (.tup xs)) H Q=Q (.int xs.length) H:=rfl
section
variable {X:Cx}
theorem aV:IxR X Qi:=by
 intro value slice pins s σ H x y v u Q I rx ry h hs;unfold Qi at h;split at h
 ·rename_i p i;unfold ixq at h;split at h
  ·rename_i xs e;obtain⟨z,hz,q⟩:=h;exact Kp value slice pins s σ H _ _ v u Q I rx ry ⟨p,xs,i,z,rfl,rfl,SqL.of e,hz,q⟩ hs
  ·rename_i xs e;obtain⟨z,hz,q⟩:=h;exact Zo value slice pins s σ H _ _ v u Q I rx ry ⟨p,xs,i,z,rfl,rfl,SqT.of e,hz,q⟩ hs
  exact h.elim
 exact h.elim
theorem Pz:Xc X Qc:=by
 intro pins s σ H o i v ov iv u Q I ro ri rv h;unfold Qc at h;split at h
 ·rename_i p k;unfold stq at h;split at h
  ·rename_i xs e;obtain⟨j,hj,q⟩:=h;exact set_list pins s σ H _ _ v ov iv u Q I ro ri rv ⟨p,xs,k,j,rfl,rfl,e,hj,q⟩
  exact h.elim
 exact h.elim
theorem bK:eV X (.builtin "len") Qh:=by
 intro pins s σ H xs us Q I r h;unfold Qh at h;split at h
 ·rename_i p;unfold lnq at h;split at h
  ·rename_i ys e;exact jr pins s σ H _ us Q I r ⟨p,ys,rfl,.inl (SqL.of e),h⟩
  ·rename_i ys e;exact jr pins s σ H _ us Q I r ⟨p,ys,rfl,.inr (SqT.of e),h⟩
  exact h.elim
 exact h.elim
end
noncomputable def Ql:List V->Hp->VK->Prop:=fun xs H Q=>match xs with
 | [.int i]=>Q (.int i) H
 | [.bl k]=>Q (.int (if k then 1 else 0)) H
 | _=>False
theorem Us (k:Bool)(H:Hp)(Q:VK):Ql [.bl k] H Q=Q (.int (if k then 1 else 0)) H:=rfl
theorem mW {X:Cx}:eV X (.type "int") Ql:=by
 intro pins s σ H xs us Q I r h;unfold Ql at h;split at h
 ·exact Aw pins s σ H _ us Q I r (.inl ⟨_,rfl,h⟩)
 ·exact Aw pins s σ H _ us Q I r (.inr ⟨_,rfl,h⟩)
 exact h.elim
theorem aN {t u:TS}{D:Ends}{σ:St}{H:Hp}(h:∀k,k=u D->t { D with nx:=k } σ H):G4 t u D σ H:=h _ rfl
theorem lU {wi:TI}{g:TG}{tb:TS}{D:Ends}{σ:St}{H:Hp}(h:∀R:It->Hp->Prop,R=(fun J H1=>∃W:Nat->Nat->St->Hp->Prop,(∃m,W 0 m σ H1)/\∀i m σ H,W i m σ H ->
  (J.stop i H/\D.nx σ H)\/(J.go i H/\∃N:St->Hp->Prop,(∀σ' H',N σ' H'->∃m',m'<m/\W (i+1) m' σ' H')/\∀x H',J.yld i H x H'->g x σ H' fun σ2 H2=>tb { D with nx:=N,ct:=N,bk:=D.nx } σ2 H2))->wi σ H R):Xz wi g tb D σ H:=h _ rfl
theorem Ku {lo:Int}{n:Nat}{g:TG}{tb:TS}{D:Ends}{σ:St}{H:Hp}{R:It->Hp->Prop}(hR:R=(fun J H1=>∃W:Nat->Nat->St->Hp->Prop,(∃m,W 0 m σ H1)/\∀i m σ H,W i m σ H ->
  (J.stop i H/\D.nx σ H)\/(J.go i H/\∃N:St->Hp->Prop,(∀σ' H',N σ' H'->∃m',m'<m/\W (i+1) m' σ' H')/\∀x H',J.yld i H x H'->g x σ H' fun σ2 H2=>tb { D with nx:=N,ct:=N,bk:=D.nx } σ2 H2)))
  (Pv:Nat->St->Hp->Prop) (h0:Pv 0 σ H) (hs:∀i σ H,i<n->Pv i σ H->g (.int (lo+i)) σ H fun σ2 H2=>tb { D with nx:=Pv (i+1),ct:=Pv (i+1),bk:=D.nx } σ2 H2) (hd:∀σ H,Pv n σ H->D.nx σ H):R (Itr lo n) H:=by
 subst hR;exact Ng Pv h0 hs hd
theorem uR {K:AE}{a:Addr}{xs:List V}{g:TG}{tb:TS}{D:Ends}{σ:St}{H:Hp}{R:It->Hp->Prop}(hR:R=(fun J H1=>∃W:Nat->Nat->St->Hp->Prop,(∃m,W 0 m σ H1)/\∀i m σ H,W i m σ H ->
  (J.stop i H/\D.nx σ H)\/(J.go i H/\∃N:St->Hp->Prop,(∀σ' H',N σ' H'->∃m',m'<m/\W (i+1) m' σ' H')/\∀x H',J.yld i H x H'->g x σ H' fun σ2 H2=>tb { D with nx:=N,ct:=N,bk:=D.nx } σ2 H2)))
  (Pv:Nat->St->Hp->Prop) (h0:Pv 0 σ H) (hl:∀i σ H,i<=xs.length->Pv i σ H->SqL K H a xs) (hs:∀i x σ H,xs[i]?=some x->Pv i σ H->g x σ H fun σ2 H2=>tb { D with nx:=Pv (i+1),ct:=Pv (i+1),bk:=D.nx } σ2 H2) (hd:∀σ H,Pv xs.length σ H->D.nx σ H):R (Itl K a) H:=by
 subst hR;exact Sx Pv h0 hl hs hd
noncomputable def N6 (mp:List (Option Nat))(g:TG)(tc:TT)(te:TE)(σ:St)(Q:VK)(J:It)(H1:Hp):Prop:=∃W:Nat->Nat->List V->St->Hp->Prop,(∃m,W 0 m [] (pU mp σ) H1)/\∀i m acc τ H2,W i m acc τ H2 ->
  (J.stop i H2/\∀d,H2 d=none->Q (.ref d) (upd H2 d (.lst acc))) \/
  (J.go i H2/\acc.length<AL/\∃N:List V->St->Hp->Prop,(∀acc' τ' H',N acc' τ' H'->∃m',m'<m/\W (i+1) m' acc' τ' H')/\∀x H3,J.yld i H2 x H3->g x τ H3 fun τ1 H4=>tc τ1 H4 fun b H5=>
   if b=true then te τ1 H5 fun v H6=>N (acc++[v]) τ1 H6 else N acc τ1 H5)
theorem cF {mp:List (Option Nat)}{wi:TI}{g:TG}{tc:TT}{te:TE}{σ:St}{H:Hp}{Q:VK}(h:∀R:It->Hp->Prop,R=N6 mp g tc te σ Q->wi σ H R):zO mp wi g tc te σ H Q:=h _ rfl
theorem Dc {J:It}{mp:List (Option Nat)}{g:TG}{tc:TT}{te:TE}{σ:St}{H:Hp}{Q:VK}{R:It->Hp->Prop}(hR:R=N6 mp g tc te σ Q)(n:Nat)(hz:n<=AL)(Pv:Nat->List V->St->Hp->Prop)(h0:Pv 0 [] (pU mp σ) H)
  (hl:∀i acc τ H,Pv i acc τ H->acc.length<=i) (hgo:∀i acc τ H,i<n->Pv i acc τ H->J.go i H) (hst:∀acc τ H,Pv n acc τ H->J.stop n H)
  (hs:∀i acc τ H x H3,i<n->Pv i acc τ H->J.yld i H x H3->g x τ H3 fun τ1 H4=>tc τ1 H4 fun b H5=>if b=true then te τ1 H5 fun v H6=>Pv (i+1) (acc++[v]) τ1 H6 else Pv (i+1) acc τ1 H5)
  (hd:∀acc τ H d,Pv n acc τ H->H d=none->Q (.ref d) (upd H d (.lst acc))):R J H:=by
 subst hR;refine⟨fun i m acc τ H2=>m=n-i/\i<=n/\Pv i acc τ H2,⟨_,rfl,EI _,h0⟩,?_⟩;rintro i m acc τ H2 ⟨rfl,hi,p⟩;have q3:=hl i acc τ H2 p;by_cases hlt:i<n
 ·exact .inr ⟨hgo i acc τ H2 hlt p,ω,Pv (i+1),fun acc' τ' H' q=>⟨_,ω,rfl,hlt,q⟩,fun x H3 y=>hs i acc τ H2 x H3 hlt p y⟩
 have e:i=n:=ω;subst e;exact .inl ⟨hst acc τ H2 p,fun d hd'=>hd acc τ H2 d p hd'⟩
structure Nm (N:List Str)(sc:GM)(i:Nat)(x:Str):Prop where
 hN:N[i]?=some x
 hv:Loc sc x
 hd:(x == ("__debug__" : Str))=false
 hcd:(x == ("__classdict__" : Str))=false
noncomputable def aaz (N:List Str) (sc:GM) (i:Nat) (x:Str):Bool:=decide (N[i]?=some x)&&(decide (sc.names.lookup x=some .local)||decide (sc.names.lookup x=some .cell)) && !(x == ("__debug__" : Str)) && !(x == ("__classdict__" : Str))
theorem Nm.of {N:List Str}{sc:GM}{i:Nat}{x:Str}(h:aaz N sc i x=true):Nm N sc i x:=by
 unfold aaz at h;rw[C3,C3,C3,Bool.or_eq_true] at h;obtain⟨⟨⟨h1,h2⟩,h3⟩,h4⟩:=h;exact⟨of_decide_eq_true h1,h2.elim (fun z=>.inl (of_decide_eq_true z)) (fun z=>.inr (of_decide_eq_true z)),by simpa using h3,by simpa using h4⟩
structure Bn (x:Str):Prop where
 hn:x ≠ "__name__"
 hd:(x == ("__debug__" : Str))=false
section
variable {X:Cx}{i:Nat}{x:Str}{pos pos' p:Pos}{e:Expr}{es:List Expr}{te:TE}{t:TA}{k:Nat}{ps:List Str}{sp:Sp}{id T:String}{r:List V->Hp->VK->Prop}
theorem pn (n:Nm X.N X.env.scope i x):PE X (.Name x pos) (Ou i):=QK n.hN (n.hv.elim .inl fun z=>.inr (.inl z)) n.hd n.hcd
theorem aak (n:Nm X.N X.env.scope i x)(hN:X.N.Nodup)(he:PE X e te)(hs:HP e (some (.Name x pos')) pos.line X.env=pure false:=by rfl)(hf:X.fn x=true\/X.env.scope.names.lookup x=some .local:=by exact .inl rfl) :
  PS X (.Assign [.Name x pos'] e pos) (yK te (lQ i)):=Yn hN n.hN n.hv he hs hf
theorem aam (n:Nm X.N X.env.scope i x)(hN:X.N.Nodup)(hf:X.fn x=true\/X.env.scope.names.lookup x=some .local:=by exact .inl rfl):PG X (.Name x pos) (lQ i):=JZ hN n.hN n.hv hf
theorem aar (C:Cal X.prog X.w X.K X.mg X.base x k ps sp)(hr:iM k X.A)(hg:Gl X x)(hdb:Bn x)(ha:PA X (e::es) t)
  (he:AH (e::es) X.env=(false,eval e X.env)::AH es X.env:=by rfl) (hpl:(Ct pos (AH es X.env)).any (·.1)=false:=by rfl):PE X (.Call (.Name x p) (e::es) [] pos) (vZ sp [] E0 t):=
 YF C hr hg ha hdb.hd he hpl
theorem aas (hc:eV X (.builtin id) r)(hg:Gl X x)(hm:X.mg x=none)(hv:DC x=some (.builtin id))(b:Bn x)(ha:PA X (e::es) t)
  (he:AH (e::es) X.env=(false,eval e X.env)::AH es X.env:=by rfl) (hpl:(Ct pos (AH es X.env)).any (·.1)=false:=by rfl):PE X (.Call (.Name x p) (e::es) [] pos) (tCB r t):=Q0 hc hg hm hv ha b.hn b.hd he hpl
theorem aaq (hc:eV X (.type T) r)(hg:Gl X x)(hm:X.mg x=none)(hv:DC x=some (.type T))(b:Bn x)(ha:PA X (e::es) t)
  (he:AH (e::es) X.env=(false,eval e X.env)::AH es X.env:=by rfl) (hpl:(Ct pos (AH es X.env)).any (·.1)=false:=by rfl):PE X (.Call (.Name x p) (e::es) [] pos) (tCB r t):=Mf hc hg hm hv ha b.hn b.hd he hpl
theorem aat (n:String)(hg:Gl X x)(hm:X.mg x=none)(hv:DC x=some (.type n))(b:Bn x):PE X (.Name x pos) (tC (.ty n)):=VP hg hm hv rfl b.hn b.hd
end
theorem d8:Bn "len" := ⟨ψ,ψ⟩
theorem S9:Bn "abs" := ⟨ψ,ψ⟩
theorem uy:Bn "min" := ⟨ψ,ψ⟩
theorem Jk:Bn "max" := ⟨ψ,ψ⟩
theorem ZG:Bn "all" := ⟨ψ,ψ⟩
theorem gA:Bn "isinstance" := ⟨ψ,ψ⟩
theorem yD:Bn "int" := ⟨ψ,ψ⟩
theorem yC:Bn "sum" := ⟨ψ,ψ⟩
theorem WX:Bn "list" := ⟨ψ,ψ⟩
theorem sy:Bn "tuple" := ⟨ψ,ψ⟩
theorem KZ:Bn "bool" := ⟨ψ,ψ⟩
noncomputable def tyO:Option HO->Option String
 | some (.lst _)=>some "list"
 | some (.tup _)=>some "tuple"
 | _=>none
noncomputable def tyN (x:V)(H:Hp):Option String:=match x with
 | .non=>some "NoneType"
 | .bl _=>some "bool"
 | .int _=>some "int"
 | .str _=>some "str"
 | .ref a=>tyO (H a)
 | _=>none
theorem Tn.of {x:V}{H:Hp}{t:String}(h:tyN x H=some t):Tn H x t:=by
 cases x with
 | non=>cases h;exact .non
 | bl b=>cases h;exact .bl b
 | int i=>cases h;exact .int i
 | str s=>cases h;exact .str s
 | ref a=>
  have h':tyO (H a)=some t:=h;cases e:H a with
  | none=>rw[e] at h';cases h'
  | some o=>
   rw[e] at h';cases o with
   | lst xs=>cases h';exact .lst e
   | tup xs=>cases h';exact .tup e
   | _=>cases h'
 | _=>cases h
noncomputable def Qk:List V->Hp->VK->Prop:=fun xs H Q=>match xs with
 | [x,.ty T]=>∃t,tyN x H=some t/\kI.contains T=true/\Q (.bl (jZ t T)) H
 | _=>False
theorem lX {X:Cx}:eV X (.builtin "isinstance") Qk:=by
 intro pins s σ H xs us Q I r h;unfold Qk at h;split at h
 ·obtain⟨t,e,k,q⟩:=h;exact Nz pins s σ H _ us Q I r ⟨_,_,t,rfl,Tn.of e,by simpa using k,q⟩
 exact h.elim
theorem Qj (x:V)(T:String)(H:Hp)(Q:VK):Qk [x,.ty T] H Q=∃t,tyN x H=some t/\kI.contains T=true/\Q (.bl (jZ t T)) H:=rfl
theorem RZ:kI.contains "tuple" = true:=by decide
theorem Zn:kI.contains "int" = true:=by decide
theorem kc_bool:kI.contains "bool" = true:=by decide
theorem ty_int (i:Int) (H:Hp):tyN (.int i) H=some "int" := rfl
theorem ZW (i:Bool) (H:Hp):tyN (.bl i) H=some "bool" := rfl
theorem ty_str (i:Str) (H:Hp):tyN (.str i) H=some "str" := rfl
theorem Xu (H:Hp):tyN .non H=some "NoneType" := rfl
theorem Xr (p:Addr)(H:Hp):tyN (.ref p) H=tyO (H p):=rfl
theorem T3 (xs:List V):tyO (some (.lst xs))=some "list" := rfl
theorem TY (xs:List V):tyO (some (.tup xs))=some "tuple" := rfl
theorem tD:jZ "NoneType" "bool" = false:=by decide
theorem uX:jZ "NoneType" "int" = false:=by decide
theorem qO:jZ "NoneType" "tuple" = false:=by decide
theorem Bs:jZ "bool" "bool" = true:=by decide
theorem Ed:jZ "bool" "int" = true:=by decide
theorem yS:jZ "bool" "tuple" = false:=by decide
theorem Ec:jZ "int" "bool" = false:=by decide
theorem Hq:jZ "int" "int" = true:=by decide
theorem Br:jZ "int" "tuple" = false:=by decide
theorem Ea:jZ "str" "bool" = false:=by decide
theorem Ho:jZ "str" "int" = false:=by decide
theorem Bp:jZ "str" "tuple" = false:=by decide
theorem Bq:jZ "list" "bool" = false:=by decide
theorem Eb:jZ "list" "int" = false:=by decide
theorem yR:jZ "list" "tuple" = false:=by decide
theorem yQ:jZ "tuple" "bool" = false:=by decide
theorem Bo:jZ "tuple" "int" = false:=by decide
theorem wC:jZ "tuple" "tuple" = true:=by decide
noncomputable def gtq (o:Option HO)(n:Nat)(t:TGs)(σ:St)(H:Hp)(Q:St->Hp->Prop):Prop:=match o with
 | some (.tup xs)=>xs.length=n/\t xs σ H Q
 | _=>False
noncomputable def Ks (n:Nat)(t:TGs):TG:=fun v σ H Q=>match v with
 | .ref a=>gtq (H a) n t σ H Q
 | _=>False
theorem Nf (n:Nat)(t:TGs)(a:Addr)(σ:St)(H:Hp)(Q:St->Hp->Prop):Ks n t (.ref a) σ H Q=gtq (H a) n t σ H Q:=rfl
theorem Ww (xs:List V)(n:Nat)(t:TGs)(σ:St)(H:Hp)(Q:St->Hp->Prop):gtq (some (.tup xs)) n t σ H Q=(xs.length=n/\t xs σ H Q):=rfl
noncomputable def qtq (o:Option HO)(f:List Bool->Bool)(H:Hp)(Q:VK):Prop:=match o with
 | some (.lst xs)=>∃bs,xs=List.map V.bl bs/\Q (.bl (f bs)) H
 | _=>False
noncomputable def Bw (f:List Bool->Bool):List V->Hp->VK->Prop:=fun xs H Q=>match xs with
 | [.ref p]=>qtq (H p) f H Q
 | _=>False
theorem Eh (f:List Bool->Bool)(p:Addr)(H:Hp)(Q:VK):Bw f [.ref p] H Q=qtq (H p) f H Q:=rfl
theorem UG (f:List Bool->Bool)(xs:List V)(H:Hp)(Q:VK):qtq (some (.lst xs)) f H Q=∃bs,xs=List.map V.bl bs/\Q (.bl (f bs)) H:=rfl
section
variable {X:Cx}{es:List Expr}{k:Nat}{t:TGs}{n:Nat}{pos:Pos}
theorem Vr (hc:X.calm=true)(h:PGs X es t)(hn:(DA es X.env).length=n:=by rfl)(hst:(DA es X.env).findIdx? (·.1)=none:=by rfl):PG X (.Tuple es k pos) (Ks n t):=by
 intro pins s σ H v u Q I r hw;unfold Ks at hw;split at hw
 ·rename_i a;unfold gtq at hw;split at hw
  ·rename_i xs e;exact Yu hc h hn hst pins s σ H _ u Q I r ⟨a,xs,rfl,SqT.of e,hw.1,hw.2⟩
  exact hw.elim
 exact hw.elim
theorem NK (hc:X.calm=true):eV X (.builtin "all") (Bw fun bs=>bs.all id):=by
 intro pins s σ H xs us Q I r h;unfold Bw at h;split at h
 ·rename_i p;unfold qtq at h;split at h
  ·rename_i ys e;obtain⟨bs,rfl,q⟩:=h;exact S8 hc pins s σ H _ us Q I r ⟨p,bs,rfl,SqL.of e,q⟩
  exact h.elim
 exact h.elim
end
noncomputable def Qe:List V->Hp->VK->Prop:=fun xs H Q=>match xs with
 | [.int i,.int j]=>Q (.int (if j<i then j else i)) H
 | _=>False
noncomputable def Qg:List V->Hp->VK->Prop:=fun xs H Q=>match xs with
 | [.int i,.int j]=>Q (.int (if j>i then j else i)) H
 | _=>False
theorem Qd (i j:Int)(H:Hp)(Q:VK):Qe [.int i,.int j] H Q=Q (.int (if j<i then j else i)) H:=rfl
theorem Qf (i j:Int)(H:Hp)(Q:VK):Qg [.int i,.int j] H Q=Q (.int (if j>i then j else i)) H:=rfl
theorem Nu {X:Cx}(hc:X.calm=true):eV X (.builtin "min") Qe:=by
 intro pins s σ H xs us Q I r h;unfold Qe at h;split at h
 ·exact Nv hc pins s σ H _ us Q I r ⟨_,_,rfl,h⟩
 exact h.elim
theorem Nx {X:Cx}(hc:X.calm=true):eV X (.builtin "max") Qg:=by
 intro pins s σ H xs us Q I r h;unfold Qg at h;split at h
 ·exact Ny hc pins s σ H _ us Q I r ⟨_,_,rfl,h⟩
 exact h.elim
structure QE (X:Cx)(e:Expr)(t:TE):Prop where
 h:PE X e t
structure QT (X:Cx)(e:Expr)(t:TT):Prop where
 h:PT X e t
structure QW (X:Cx)(e:Expr)(t:TT):Prop where
 h:PW X e t
structure QA (X:Cx)(es:List Expr)(t:TA):Prop where
 h:PA X es t
structure QS (X:Cx)(st:Stmt)(t:TS):Prop where
 h:PS X st t
structure QB (X:Cx)(st:List Stmt)(t:TS):Prop where
 h:PSs X st t
structure QG (X:Cx)(e:Expr)(t:TG):Prop where
 h:PG X e t
structure QGs (X:Cx)(es:List Expr)(t:TGs):Prop where
 h:PGs X es t
structure QI (X:Cx)(tg e:Expr)(t:TI):Prop where
 h:PI X tg e t
structure QC (X:Cx)(cs:List Expr)(t:TT):Prop where
 h:PTs X cs t
section
variable {X:Cx}{i:Nat}{x:Str}{pos pos' p tpos:Pos}{e a b c o:Expr}{es rest:List Expr}{te ta tb tc to ti:TE}{tA tB':TT}{t:TA}{k n kk:Nat}{ps:List Str}{sp:Sp}{id T:String}{r:List V->Hp->VK->Prop}{st:Stmt}{sts:List Stmt}{ts us:TS}{tg iter:Expr}{wi:TI}{g:TG}{gs:TGs}
theorem aaY (h:Nm X.N X.env.scope i x):QE X (.Name x pos) (Ou i):=⟨pn h⟩
theorem aaX (i:Nat) {x:Str}{pos:Pos}(hN:X.N[i]?=some x:=by rfl) (hv:Vis X.env.scope x:=by first|exact C2 rfl|exact Or.inr (C2 rfl)|exact Or.inr (Or.inr rfl)) (hd:(x == ("__debug__" : Str))=false:=by decide)
  (hcd:(x == ("__classdict__" : Str))=false:=by decide):QE X (.Name x pos) (Ou i):=⟨QK hN hv hd hcd⟩
theorem au {i j pos}:QE X (.Constant (.int i) j pos) (tC (.int i)):=⟨YD⟩
theorem jG {b j pos}:QE X (.Constant (.bool b) j pos) (tC (.bl b)):=⟨aau⟩
theorem Yh {j pos}:QE X (.Constant .none j pos) (tC .non):=⟨YB⟩
theorem bI {x j pos}:QE X (.Constant (.str x) j pos) (tC (.str x)):=⟨Yx⟩
theorem aL {op:Operator}{r:R2}(ho:OpR X (D1 op) r)(ha:QE X a ta)(hb:QE X b tb):QE X (.BinOp a op b pos) (tOp r ta tb):=⟨aao ho ha.h hb.h⟩
theorem qT {op:UnaryOp}{r:V->Hp->VK->Prop}(ho:UnR X (unaryOp op) r)(ha:QE X a ta):QE X (.UnaryOp op a pos) (tUn r ta):=⟨aan ho ha.h⟩
theorem Yg (ha:QE X a ta):QE X (.UnaryOp .Not a pos) (O1 ta):=⟨Yz ha.h⟩
theorem gG {op:CmpOp}{r:R2}(ho:OpR X (Cn op) r)(ha:QE X a ta)(hb:QE X b tb)(hm:F8 op b=false):QE X (.Compare a [op] [b] pos) (tOp r ta tb):=⟨VJ ho ha.h hb.h hm⟩
theorem bw {op:CmpOp}{r:R2}(ho:OpR X (Cn op) r)(ha:QE X a ta)(hb:QE X b tb)(hm:F8 op b=false):QT X (.Compare a [op] [b] pos) (Dy (tOp r ta tb)):=⟨Va ho ha.h hb.h hm⟩
theorem Qt {op op':CmpOp}{r r':R2}(ho:OpR X (Cn op) r)(ho':OpR X (Cn op') r')(ha:QE X a ta)(hb:QE X b tb)(hc:QE X c tc)
  (hm:lastMarks [op,op'] [b,c]=false:=by with_unfolding_all rfl):QE X (.Compare a [op,op'] [b,c] pos) (G8 r r' ta tb tc):=⟨QZ ho ho' ha.h hb.h hc.h hm⟩
theorem wF {op}(h:QE X a ta):QE X (.BoolOp op [a] pos) ta:=⟨Yy h.h⟩
theorem wH (ha:QE X a ta)(hb:QE X (.BoolOp .And (b::rest) pos) tb):QE X (.BoolOp .And (a::b::rest) pos) (Pa ta tb):=⟨YG ha.h hb.h⟩
theorem Qs (hc:QT X c tA)(ha:QE X a ta)(hb:QE X b tb):QE X (.IfExp c a b pos) (tIf tA ta tb):=⟨QV hc.h ha.h hb.h⟩
theorem aJ {r:R2}(hr:IxR X r)(ha:QE X a ta)(hb:QE X b tb)(hs:K7 b):QE X (.Subscript a b pos) (tOp r ta tb):=⟨aap hr ha.h hb.h hs⟩
theorem bO (h:QA X es t):QE X (.List es pos) (G5 t):=⟨YC h.h⟩
theorem b8 {x1}(h:QA X es t):QE X (.Tuple es x1 pos) (Dw t):=⟨Yw h.h⟩
theorem aA:QA X [] Bh:=⟨YH⟩
theorem ak (ha:QE X e te)(hr:QA X es t)(hs:AH (e::es) X.env=(false,eval e X.env)::AH es X.env:=by rfl):QA X (e::es) (nR te t):=⟨V1 ha.h hr.h hs⟩
theorem bx (C:Cal X.prog X.w X.K X.mg X.base x k ps sp)(hr:iM k X.A)(hg:Gl X x)(hdb:Bn x)(ha:QA X (e::es) t)
  (he:AH (e::es) X.env=(false,eval e X.env)::AH es X.env:=by rfl) (hpl:(Ct pos (AH es X.env)).any (·.1)=false:=by rfl):QE X (.Call (.Name x p) (e::es) [] pos) (vZ sp [] E0 t):=⟨aar C hr hg hdb ha.h he hpl⟩
theorem bY (hc:eV X (.builtin id) r)(hg:Gl X x)(hm:X.mg x=none)(hv:DC x=some (.builtin id))(b:Bn x)(ha:QA X (e::es) t)
  (he:AH (e::es) X.env=(false,eval e X.env)::AH es X.env:=by rfl) (hpl:(Ct pos (AH es X.env)).any (·.1)=false:=by rfl):QE X (.Call (.Name x p) (e::es) [] pos) (tCB r t):=⟨aas hc hg hm hv b ha.h he hpl⟩
theorem wG (hc:eV X (.type T) r)(hg:Gl X x)(hm:X.mg x=none)(hv:DC x=some (.type T))(b:Bn x)(ha:QA X (e::es) t)
  (he:AH (e::es) X.env=(false,eval e X.env)::AH es X.env:=by rfl) (hpl:(Ct pos (AH es X.env)).any (·.1)=false:=by rfl):QE X (.Call (.Name x p) (e::es) [] pos) (tCB r t):=⟨aaq hc hg hm hv b ha.h he hpl⟩
theorem El (n:String)(hg:Gl X x)(hm:X.mg x=none)(hv:DC x=some (.type n))(b:Bn x):QE X (.Name x pos) (tC (.ty n)):=⟨aat n hg hm hv b⟩
theorem tE (ha:QT X a tA):QT X (.UnaryOp .Not a pos) (O2 tA):=⟨Ym ha.h⟩
theorem qi (h:QE X e te)(he:∀whole,isTrue e X.env whole=(do let v <- whole;standAt e.pos;DJ [v] (truthy v)):=by intro _;rfl):QT X e (tB te):=⟨Yk h.h he⟩
theorem vA (ha:QT X a tA):QW X (.BoolOp .And [a] pos) tA:=⟨U7 ha.h⟩
theorem wD (ha:QT X a tA):QW X (.BoolOp .Or [a] pos) tA:=⟨Yi ha.h⟩
theorem BJ (ha:QT X a tA)(hb:QW X (.BoolOp .And (b::rest) pos) tB'):QW X (.BoolOp .And (a::b::rest) pos) (T8 tA tB'):=⟨Yj ha.h hb.h⟩
theorem zY (ha:QT X a tA)(hb:QW X (.BoolOp .Or (b::rest) pos) tB'):QW X (.BoolOp .Or (a::b::rest) pos) (tOr tA tB'):=⟨aaj ha.h hb.h⟩
theorem BK (h:QW X e tA):QT X e tA:=⟨h.h.pt⟩
theorem bT:QB X [] Dz:=⟨Vc⟩
theorem aK (h:QS X st ts):QB X [st] ts:=⟨Vb h.h⟩
theorem aD (h:QS X st ts)(h2:QB X sts us):QB X (st::sts) (G4 ts us):=⟨Qu h.h h2.h⟩
theorem aQ (he:QE X e te):QS X (.Return (some e) pos) (Ov te):=⟨Yo he.h⟩
theorem cT {c:Expr}{a b:List Stmt}{tc:TT}(hc:QT X c tc)(ha:QB X a ts)(hb:QB X b us):QS X (.If c a b pos) (G7 tc ts us):=⟨aal hc.h ha.h hb.h⟩
theorem dg (he:QE X e te)(hs:HP e none pos.line X.env=pure false:=by rfl):QS X (.Expr e pos) (uH te):=⟨Vf he.h hs⟩
theorem bM (h:Nm X.N X.env.scope i x)(hN:X.N.Nodup)(he:QE X e te)(hs:HP e (some (.Name x pos')) pos.line X.env=pure false:=by rfl)(hf:X.fn x=true\/X.env.scope.names.lookup x=some .local:=by exact .inl rfl) :
  QS X (.Assign [.Name x pos'] e pos) (yK te (lQ i)):=⟨aak h hN he.h hs hf⟩
theorem qj (he:QE X e te)(hg:QG X tg g)(hs:E8 [tg] e pos.line X.env=pure false:=by rfl)(hw:F7 [tg] e X.env=pure none:=by rfl)
  (h1:(DA [tg] X.env).map (·.2)=[GV tg X.env]:=by rfl):QS X (.Assign [tg] e pos) (yK te g):=⟨Yr he.h hg.h hs hw h1⟩
theorem Ht {i j:Nat}{x y:Str}{a b:Expr}{ta:TA}{px py pt:Pos}{kt k2 pt2}(hc:X.calm=true)(hN:X.N.Nodup)(hi:X.N[i]?=some x)(hj:X.N[j]?=some y)(hij:i≠j)
  (hx:X.env.scope.names.lookup x=some .local) (hy:X.env.scope.names.lookup y=some .local) (ha:QA X [a,b] ta)
  (hw:F7 [.Tuple [.Name x px,.Name y py] kt pt] (.Tuple [a,b] k2 pt2) X.env=pure (some [x,y]))
  (hs:E8 [.Tuple [.Name x px,.Name y py] kt pt] (.Tuple [a,b] k2 pt2) pos.line X.env=pure false:=by rfl) :
  QS X (.Assign [.Tuple [.Name x px,.Name y py] kt pt] (.Tuple [a,b] k2 pt2) pos) (Xy i j ta):=⟨Yp hc hN hi hj hij hx hy ha.h hw hs⟩
theorem Qp {c:Expr}{body:List Stmt}{tc:TT}(hp:PassesOwn (A0 X.prog X.w) X.A X.env X.xe)(hc:QT X c tc)(hb:QB X body ts):QS X (.While c body [] pos) (Ot tc ts):=⟨Qv hp hc.h hb.h⟩
theorem iC {body:List Stmt}(hp:PassesOwn (A0 X.prog X.w) X.A X.env X.xe)(hc:X.calm=true)(hi:QI X tg iter wi)(hg:QG X tg g)(hb:QB X body ts)
  (hs:∀x,E9 iter X.env x=pure x:=by intro _;rfl):QS X (.For tg iter body [] pos) (Xz wi g ts):=⟨Yq hp hc hi.h hg.h hb.h hs⟩
theorem fC (h:Nm X.N X.env.scope i x)(hN:X.N.Nodup)(hf:X.fn x=true\/X.env.scope.names.lookup x=some .local:=by exact .inl rfl):QG X (.Name x pos) (lQ i):=⟨aam h hN hf⟩
theorem bL (i:Nat)(hN:X.N.Nodup)(hi:X.N[i]?=some x)(hx:Loc X.env.scope x)(hf:X.fn x=true\/X.env.scope.names.lookup x=some .local:=by first|exact .inl rfl|exact .inr rfl):QG X (.Name x pos) (lQ i):=⟨JZ hN hi hx hf⟩
theorem j7:QGs X [] Zx:=⟨Vq⟩
theorem cI (h1:QG X e g)(h2:QGs X es gs)(hs:(DA (e::es) X.env).map (·.2)=GV e X.env::(DA es X.env).map (·.2):=by rfl):QGs X (e::es) (Ss g gs):=⟨QJ h1.h h2.h hs⟩
theorem ou {n:Nat}(hc:X.calm=true)(h:QGs X es gs)(hn:(DA es X.env).length=n:=by rfl)(hst:(DA es X.env).findIdx? (·.1)=none:=by rfl):QG X (.Tuple es k pos) (Ks n gs):=⟨Vr hc h.h hn hst⟩
theorem Tq (o:Expr)(c j)(p pos:Pos)(env:Env)(v:An):GV (.Subscript o (.Constant c j p) pos) env v=(do
   let ov <- DJ [v] (eval o env)
   let iv <- DJ [v,ov] (eval (.Constant c j p) env)
   standAt pos
   DJ [v,ov,iv] (setItem ov iv v)
   release [v,ov,iv] []):=rfl
theorem BL {c j}{t:Xb}(ho:QE X o to)(hi:QE X (.Constant c j p) ti)(hs:Xc X t):QG X (.Subscript o (.Constant c j p) pos) (Zv to ti t):=⟨Yv ho.h hi.h hs (fun v=>Tq o c j p pos X.env v)⟩
theorem jw (hg:Gl X "range") (hm:X.mg "range" = none) (ha:QA X [a] t) (hs:AH [a] X.env=[(false,eval a X.env)]:=by rfl):QI X tg (.Call (.Name "range" p) [a] [] pos) (uN t):=⟨Ma hg hm ha.h hs⟩
theorem tG (hg:Gl X "range") (hm:X.mg "range" = none) (ha:QA X [a,b] t) (hs:AH [a,b] X.env=[(false,eval a X.env),(false,eval b X.env)]:=by rfl) (hs2:AH [b] X.env=[(false,eval b X.env)]:=by rfl):QI X tg (.Call (.Name "range" p) [a,b] [] pos) (Fv t):=⟨LR hg hm ha.h hs hs2⟩
theorem gH:QC X [] Xw:=⟨U9⟩
theorem jh (h:QT X c tA):QC X [c] tA:=⟨U8 h.h⟩
theorem cH {NX:List Str}{kX:List (Str×Dx)}{scope:GM}{elt:Expr}{ifs:List Expr}{tc:TT}(N:List Str)(mp:List (Option Nat))(hNX:X.N=NX)(hkX:X.env.scope.names=kX)(S:Bc NX kX N mp scope)(hc:X.calm=true)
  (hi:QI X tg iter wi) (hg:∀cl C s H fp,QG (cJ X N scope cl C s H fp) tg g) (ht:∀cl C s H fp,QC (cJ X N scope cl C s H fp) ifs tc) (he:∀cl C s H fp,QE (cJ X N scope cl C s H fp) elt te)
  (hs:∀x,E9 iter X.env x=pure x:=by intro _;rfl):QE X (.ListComp elt [⟨tg,iter,ifs,0⟩] scope pos) (zO mp wi g tc te):=
 ⟨VG N mp hNX hkX S hc hi.h (fun cl C s H fp=>(hg cl C s H fp).h) (fun cl C s H fp=>(ht cl C s H fp).h) (fun cl C s H fp=>(he cl C s H fp).h) hs⟩
end
section
variable {P:AV}{w:A6}{K:AE}{mg:Str->Option An}{base:Heap}
theorem Fun.okq {x qual:Str}{st:Stmt}{f:Addr}{fd:CA}{N ps:List Str}{k:Nat}{sp:Sp}(F:Fun K x qual st f fd)(S:bA N ps (aj st))(len:∀vs H Q E,sp vs H Q E->vs.length=ps.length)
  (hbody:∀(cdv:An)(A:A7)(outer:List Env)(s:AC)(H:Hp)(vs:List V)(Q:VK)(E:XK),iM k (A.deeper (IL qual (aj st) s.heap.objs.size f cdv))->sp vs H Q E ->
   ∃t,QB (Jh CX0 P w K mg base N qual (aj st) f cdv A outer s H E).nox (aW st) t/\t { nx:=fun _ H'=>Q .non H',rt:=Q } (L2.start N vs) H):dm P w K mg base CX0 (k+1) f fd ps sp:=
 F.ok S len fun cdv A outer s H vs Q E hr hsp=>by
  obtain⟨t,h,q⟩:=hbody cdv A outer s H vs Q E hr hsp;exact⟨t,h.h,q⟩
end
theorem Hx:∀(ns:List Int),preSum (fun i=>(ns[i]?).getD 0) ns.length=ns.sum:=by
 have key:∀(f:Nat->Int)(n:Nat),preSum f (n+1)=preSum f n+f n:=fun f n=>rfl;have key2:∀(n:Nat)(f g:Nat->Int),(∀i,i<n->f i=g i)->preSum f n=preSum g n:=by
  intro n
  induction n with
  | zero=>intros;rfl
  | succ n ih=>intro f g h;rw[key,key,ih f g fun i hi=>h i (CC hi),h n (C0 n)]
 have key3:∀(n:Nat)(f:Nat->Int),preSum f (n+1)=f 0+preSum (fun i=>f (i+1)) n:=by
  intro n
  induction n with
  | zero=>intro f;show(0:Int)+f 0=f 0+0;omega
  | succ n ih=>intro f;rw[key,ih,key];omega
 intro ns
 induction ns with
 | nil=>rfl
 | cons a r ih=>
  rw[B6,key3,sum_cons,<- ih];rfl
noncomputable def smq (o:Option HO)(H:Hp)(Q:VK):Prop:=match o with
 | some (.lst xs)=>∃ns:List Int,xs=ns.map V.int/\Q (.int ns.sum) H
 | _=>False
noncomputable def P0:List V->Hp->VK->Prop:=fun xs H Q=>match xs with
 | [.ref p]=>smq (H p) H Q
 | _=>False
theorem Lw (p:Addr)(H:Hp)(Q:VK):P0 [.ref p] H Q=smq (H p) H Q:=rfl
theorem Uc (xs:List V)(H:Hp)(Q:VK):smq (some (.lst xs)) H Q=∃ns:List Int,xs=ns.map V.int/\Q (.int ns.sum) H:=rfl
section
variable {X:Cx}
theorem lW (hc:X.calm=true):eV X (.builtin "sum") P0:=by
 intro pins s σ H xs us Q I r h;unfold P0 at h;split at h
 ·rename_i p;unfold smq at h;split at h
  ·rename_i ys e;obtain⟨ns,rfl,q⟩:=h;cases r with
   | cons r rr=>
    cases rr;cases r;obtain⟨its,rv,pl,hz⟩:=I.list (SqL.of e);have hl:=rv.length;have lt:p<s.heap.objs.size:=by obtain⟨_,e,_⟩:=pl.isList;exact A4 e
    refine call_sum_walkG (DL pl.isList ?_);refine⟨s.heap.objs.size,[s.heap.objs.size,p],[s.heap.objs.size],its.toArray.size,_,_,fun i=>(ns[i]?).getD 0,rfl,Walks.list (A:=X.A.in1) (I.ok.hd hc) _ p (B1 lt) _,
     ⟨⟨_,AQ _ rfl,rfl,rfl⟩,pl.isList.push _⟩,?_,fun i v hP=>?_,fun h' tk t' hk=>?_⟩
    ·intro b hb;rw[B8];simp only[Bi,B2,or_false] at hb;rcases hb with rfl|rfl
     ·exact C0 _
     exact CC lt
    ·have e1:its[i]?=some v:=by simpa using hP
     have hi:i<its.length:=by
      rcases FK i its.length with z|z
      ·exact z
      rw[FD z] at e1;cases e1
     have hi2:i<ns.length:=by rw[<- hl,AF] at hi;exact hi
     obtain⟨u,hu,ru⟩:=rv.get (i:=i) (x:=.int ns[i]) (by rw[AU,AD hi2];rfl);rw[e1] at hu;cases hu;obtain⟨t,rfl⟩:=ru;exact⟨t,by show _=An.int ((ns[i]?).getD 0) t;rw[AD hi2];rfl⟩
    have e2:its.toArray.size=ns.length:=by rw[AR,<- hl,AF]
    rw[e2,Hx];refine⟨.int _,H,I.kept fun b o e=>hk b o (fun hm=>?_) (AB _ e),⟨t',rfl⟩,q⟩;rw[AM.mp hm] at e;exact C8 _ (A4 e)
  exact h.elim
 exact h.elim
noncomputable def Bu (i:Int)(n:Nat):List V:=(BB n).map fun k=>V.int (i+(k:Nat))
theorem Jy:∀{xs:List V}{us:List An},xs.length=us.length->(∀(i:Nat) x u,xs[i]?=some x->us[i]?=some u->RelV x u)->Vals xs us
 | [],[],_,_=>.nil
 | [],_::_,h,_=>by cases h
 | _::_,[],h,_=>by cases h
 | x::xs,u::us,h,f=>.cons (f 0 x u rfl rfl) (Jy (by simpa using h) fun i y v h1 h2=>f (i+1) y v h1 h2)
theorem Zg:AL<=2^24:=by decide
noncomputable def adq (a b:Option HO)(H:Hp)(Q:VK):Prop:=match a,b with
 | some (.lst xs),some (.lst zs)=>xs.length+zs.length<=AL/\∀p,H p=none->Q (.ref p) (upd H p (.lst (xs++zs)))
 | _,_=>False
noncomputable def JR:R2:=fun x y H Q=>match x,y with
 | .int i,.int j=>Q (.int (i+j)) H
 | .ref p,.ref q=>adq (H p) (H q) H Q
 | _,_=>False
theorem Uz (i j:Int)(H:Hp)(Q:VK):JR (.int i) (.int j) H Q=Q (.int (i+j)) H:=rfl
theorem Uy (p q:Addr)(H:Hp)(Q:VK):JR (.ref p) (.ref q) H Q=adq (H p) (H q) H Q:=rfl
theorem ZK (xs zs:List V)(H:Hp)(Q:VK):adq (some (.lst xs)) (some (.lst zs)) H Q=(xs.length+zs.length<=AL/\∀p,H p=none->Q (.ref p) (upd H p (.lst (xs++zs)))):=rfl
theorem bD:OpR X (D1 .Add) JR:=by
 intro pins s σ H x y v u Q I rx ry h;unfold JR at h;split at h
 ·exact YW pins s σ H _ _ v u Q I rx ry ⟨_,_,rfl,rfl,h⟩
 ·rename_i p q;unfold adq at h;split at h
  ·rename_i xs zs e1 e2;exact YT pins s σ H _ _ v u Q I rx ry ⟨p,q,xs,zs,rfl,rfl,e1,e2,h.1,h.2⟩
  exact h.elim
 exact h.elim
noncomputable def eqL:List V->List V->Bool
 | [],[]=>true
 | x::xs,y::ys=>eqV x y&&eqL xs ys
 | _,_=>false
noncomputable def aaB (a b:Option HO)(H:Hp)(Q:VK):Prop:=match a,b with
 | some (.lst xs),some (.lst zs)=>xs.all iZ=true/\zs.all iZ=true/\Q (.bl (!eqL xs zs)) H
 | _,_=>False
noncomputable def Yd:R2:=fun x y H Q=>match x,y with
 | .ref p,.ref q=>aaB (H p) (H q) H Q
 | x,y=>rNe x y H Q
theorem Yc (i j:Int)(H:Hp)(Q:VK):Yd (.int i) (.int j) H Q=rNe (.int i) (.int j) H Q:=rfl
theorem Kz:∀(xs zs:List V),xs.length=zs.length->((BB xs.length).all fun j=>match xs[j]?,zs[j]? with|some a,some b=>eqV a b|_,_=>true)=eqL xs zs
 | [],[],_=>rfl
 | [],_::_,h=>by cases h
 | _::_,[],h=>by cases h
 | x::xs,z::zs,h=>by
  have ih:=Kz xs zs (by simpa using h);rw[B6,List.range_succ_eq_map,all_cons,all_map];show(eqV x z&&_)=(eqV x z&&eqL xs zs);rw[<- ih];rfl
theorem Ky:∀(xs zs:List V),xs.length≠zs.length->eqL xs zs=false
 | [],[],h=>absurd rfl h
 | [],_::_,_=>rfl
 | _::_,[],_=>rfl
 | x::xs,z::zs,h=>by
  show(eqV x z&&eqL xs zs)=false;rw[Ky xs zs (by simpa using h),FY]
theorem kj (hu:X.A.units<Ff):OpR X (Cn .NotEq) Yd:=by
 intro pins s σ H x y v u Q I rx ry h;unfold Yd at h;split at h
 ·rename_i p q;unfold aaB at h;split at h
  ·rename_i xs zs e1 e2;obtain⟨f1,f2,q⟩:=h;cases rx;cases ry;obtain⟨its1,r1,pl1,hz1⟩:=I.list (SqL.of e1);obtain⟨its2,r2,pl2,hz2⟩:=I.list (SqL.of e2);have l1:=r1.length;have l2:=r2.length;by_cases hl:xs.length=zs.length
   ·refine SeqAt.RcNeAt.lists (e:=fun j=>match xs[j]?,zs[j]? with|some a,some b=>eqV a b|_,_=>true) pl1.isList pl2.isList (by simp only[AR];omega) hu (fun j h1 h2=>?_) X.prog X.w X.xe (EP X pins σ Q) ?_
    ·have j1:j<xs.length:=by simp only[AR] at h1;omega
     have j2:j<zs.length:=ω;have g1:xs[j]?=some xs[j]:=AD j1;have g2:zs[j]?=some zs[j]:=AD j2;obtain⟨u1,hu1,ru1⟩:=r1.get g1;obtain⟨u2,hu2,ru2⟩:=r2.get g2;have k1:its1.toArray[j]=u1:=by
      have:=AW.mp hu1;obtain⟨_,z⟩:=this;simpa using z
     have k2:its2.toArray[j]=u2:=by
      have:=AW.mp hu2;obtain⟨_,z⟩:=this;simpa using z
     rw[k1,k2,g1,g2];exact SQ ru1 ru2 (He.mp f1 _ (FS j1)) (He.mp f2 _ (FS j2))
    rw[show its1.toArray.size=xs.length by simp only[AR];omega,Kz xs zs hl];exact⟨.bl _,H,I,rfl,q⟩
   rw[Ky xs zs hl] at q;refine SeqAt.RcNeAt.lists_lengths pl1.isList pl2.isList (by simp only[AR,bne_iff_ne,ne_eq];omega) hu X.prog X.w X.xe (EP X pins σ Q) ⟨.bl _,H,I,rfl,q⟩
  exact h.elim
 exact aaw pins s σ H _ _ v u Q I rx ry h
noncomputable def inq (neg:Bool)(o:Option HO)(x:V)(H:Hp)(Q:VK):Prop:=match o with
 | some (.lst xs)=>iZ x=true/\xs.all iZ=true/\Q (.bl (if neg then !inV x xs else inV x xs)) H
 | some (.tup xs)=>iZ x=true/\xs.all iZ=true/\Q (.bl (if neg then !inV x xs else inV x xs)) H
 | _=>False
noncomputable def Qm (neg:Bool):R2:=fun x y H Q=>match y with
 | .ref p=>inq neg (H p) x H Q
 | _=>False
theorem Ye (neg:Bool)(x:V)(p:Addr)(H:Hp)(Q:VK):Qm neg x (.ref p) H Q=inq neg (H p) x H Q:=rfl
theorem aaF (neg:Bool)(x:V)(xs:List V)(H:Hp)(Q:VK):inq neg (some (.lst xs)) x H Q=(iZ x=true/\xs.all iZ=true/\Q (.bl (if neg then !inV x xs else inV x xs)) H):=rfl
theorem R7 {neg:Bool}{o:Option HO}{x:V}{H:Hp}{Q:VK}{p:Addr}{K:AE}(e:H p=o)(h:inq neg o x H Q):rIn K neg x (.ref p) H Q:=by
 unfold inq at h;split at h
 ·rename_i xs;exact⟨p,xs,rfl,.inl (SqL.of e),h.1,h.2.1,h.2.2⟩
 ·rename_i xs;exact⟨p,xs,rfl,.inr (SqT.of e),h.1,h.2.1,h.2.2⟩
 exact h.elim
theorem YS:OpR X (Cn .In) (Qm false):=by
 intro pins s σ H x y v u Q I rx ry h;unfold Qm at h;split at h
 ·exact Mh pins s σ H _ _ v u Q I rx ry (R7 rfl h)
 exact h.elim
theorem Mg:OpR X (Cn .NotIn) (Qm true):=by
 intro pins s σ H x y v u Q I rx ry h;unfold Qm at h;split at h
 ·exact BR pins s σ H _ _ v u Q I rx ry (R7 rfl h)
 exact h.elim
end
structure cG (H:Hp)(p:Addr)(B:Int):Prop where
 ex:∃a b c:Int,H p=some (.lst [.int a,.int b,.int c])/\0<=a/\0<=b/\b<2147483629/\0<=c/\c<=B
theorem cG.same {H H':Hp}{p:Addr}{B:Int}(h:cG H p B)(s:Same H H'):cG H' p B:=by
 obtain⟨a,b,c,e,r⟩:=h;exact⟨a,b,c,s _ _ e,r⟩
theorem cG.le {H:Hp}{p:Addr}{B B':Int}(h:cG H p B)(l:B<=B'):cG H p B':=by
 obtain⟨a,b,c,e,r1,r2,r3,r4,r5⟩:=h;exact⟨a,b,c,e,r1,r2,r3,r4,ω⟩
theorem cG.ne {H:Hp}{p q:Addr}{B:Int}(h:cG H p B)(n:H q=none):q≠p:=by
 obtain⟨a,b,c,e,_⟩:=h;exact(aF e n).symm
noncomputable def Pq (K:AE):Sp:=fun vs H Q _=>∃(a:Addr)(ns:List Int)(k:Int),vs=[.ref a,.int k]/\SqL K H a (ns.map V.int)/\0<=k/\∀v:Int,Q (.int v) H
noncomputable def Ph (K:AE):Sp:=fun vs H Q _=>∃(a:Addr)(ns:List Int)(k:Int),vs=[.ref a,.int k]/\SqL K H a (ns.map V.int)/\0<=k/\k<=100/\∀p H',H p=none->Same H H'->cG H' p 0->Q (.ref p) H'
noncomputable def qe (n:Nat):Sp:=fun vs H Q _=>∃(p:Addr)(m B:Int),vs=[.ref p,.int m]/\cG H p B/\B+(n:Int)<=1000100/\0<m/\m<2^70/\1<=n/\(1000000<=m->2<=n) /\
 ∀r H',0<=r->r<m->cL p H H'->cG H' p (B+n)->Q (.int r) H'
theorem Ys (c:Int):∃v:Int,atI [V.int 2147483587,V.int 2147483579,V.int 2147483563,V.int 2147483549,V.int 2147483543,V.int 2147483497,V.int 2147483489] (c%7)=some (.int v)/\0<v:=by
 have h1:0<=c%7:=Fk _ δ;have h2:c%7<7:=D9 _ δ;generalize c%7=d at h1 h2;have h3:d=0\/d=1\/d=2\/d=3\/d=4\/d=5\/d=6:=ω;rcases h3 with rfl|rfl|rfl|rfl|rfl|rfl|rfl
 ·exact⟨_,dj (j:=0) rfl,δ⟩
 ·exact⟨_,dj (j:=1) rfl,δ⟩
 ·exact⟨_,dj (j:=2) rfl,δ⟩
 ·exact⟨_,dj (j:=3) rfl,δ⟩
 ·exact⟨_,dj (j:=4) rfl,δ⟩
 ·exact⟨_,dj (j:=5) rfl,δ⟩
 exact⟨_,dj (j:=6) rfl,δ⟩
theorem Dh (X k:Nat):((X:Int)/2^k)%2=if X.testBit k then 1 else 0:=by
 have e:(X:Int)/2^k%2=((X/2^k%2:Nat):Int):=by
  rw[Int.natCast_emod,Int.natCast_ediv,Fm];rfl
 rw[e,Nat.testBit_eq_decide_div_mod_eq];have:=mod_lt (X/2^k) (show 0<2 by decide);by_cases h:X/2^k%2=1
 ·simp [h]
 have h0:X/2^k%2=0:=ω;simp [h0]
theorem W9 (y:Int):AI.bitAnd y 1=y%2:=by
 have:=PySem.W.kbt_mask y 1;simpa using this
theorem Uh (X k:Nat):AI.bitAnd ((X:Int)/2^k) 1=if X.testBit k then 1 else 0:=by
 rw[W9,Dh]
theorem Jq (a b:Nat):AI.bitAnd (a:Int) (b:Int)=((a &&& b:Nat):Int):=by
 unfold AI.bitAnd;simp
inductive It1 where
 | one (a:Int)
 | rng (a b:Int)
 | bits (m v:Nat)
section
variable {mp:List (Option Nat)}{g:TG}{tc:TT}{te:TE}{σ:St}{H:Hp}{Q:VK}{R:It->Hp->Prop}{K:AE}
theorem yu {lo:Int}{n:Nat}(hR:R=N6 mp g tc te σ Q)(hz:n<=AL)(Pv:Nat->List V->St->Hp->Prop)(h0:Pv 0 [] (pU mp σ) H)(hl:∀i acc τ H,Pv i acc τ H->acc.length<=i)
  (hs:∀i acc τ H,i<n->Pv i acc τ H->g (.int (lo+i)) τ H fun τ1 H4=>tc τ1 H4 fun b H5=>if b=true then te τ1 H5 fun v H6=>Pv (i+1) (acc++[v]) τ1 H6 else Pv (i+1) acc τ1 H5)
  (hd:∀acc τ H d,Pv n acc τ H->H d=none->Q (.ref d) (upd H d (.lst acc))):R (Itr lo n) H:=by
 refine Dc hR n hz Pv h0 hl (fun i acc τ H hi _=>hi) (fun acc τ H _=>A1 n) (fun i acc τ H x H3 hi p y=>?_) hd;obtain⟨rfl,rfl⟩:=y;exact hs i acc τ _ hi p
theorem ux {a:Addr}{xs:List V}(hR:R=N6 mp g tc te σ Q)(hz:xs.length<=AL)(Pv:Nat->List V->St->Hp->Prop)(h0:Pv 0 [] (pU mp σ) H)(hl:∀i acc τ H,Pv i acc τ H->acc.length<=i)
  (hq:∀i acc τ H,Pv i acc τ H->SqL K H a xs)
  (hs:∀i x acc τ H,xs[i]?=some x->Pv i acc τ H->g x τ H fun τ1 H4=>tc τ1 H4 fun b H5=>if b=true then te τ1 H5 fun v H6=>Pv (i+1) (acc++[v]) τ1 H6 else Pv (i+1) acc τ1 H5)
  (hd:∀acc τ H d,Pv xs.length acc τ H->H d=none->Q (.ref d) (upd H d (.lst acc))):R (Itl K a) H:=by
 refine Dc hR xs.length hz Pv h0 hl (fun i acc τ H hi p=>⟨xs,xs[i],hq i acc τ H p,AD hi⟩) (fun acc τ H p=>⟨xs,hq _ acc τ H p,A1 _⟩) (fun i acc τ H x H3 hi p y=>?_) hd;obtain⟨rfl,hx⟩:=y;exact hs i x acc τ _ (hx xs (hq i acc τ _ p)) p
end
noncomputable def Y7 (l:List Nat):List V:=l.map fun k=>V.int (k:Nat)
theorem Wu (k:Nat)(l:List Nat):inV (.int (k:Nat)) (Y7 l)=l.contains k:=by
 unfold inV Y7;rw[List.any_map]
 induction l with
 | nil=>rfl
 | cons a r ih=>
  rw[G0,List.contains_cons,ih];congr 1;show((a:Int) == (k:Int))=(k == a);rw[FM,beq_iff_eq,beq_iff_eq];omega
section
variable {X:Cx}{pos:Pos}
noncomputable def OJ (i j k:Nat)(ta:TA):TS:=fun D σ H=>ta σ H fun vs H1=>∃u v w,vs=[u,v,w]/\D.nx (((σ.set i (some u)).set j (some v)).set k (some w)) H1
theorem Ve {i j k:Nat}{x y z:Str}{a b c:Expr}{ta:TA}{px py pz pt:Pos}{kt k2 pt2}(hc:X.calm=true)(hN:X.N.Nodup)(hi:X.N[i]?=some x)(hj:X.N[j]?=some y)(hk:X.N[k]?=some z)(hij:i≠j)(hik:i≠k)(hjk:j≠k)
  (hx:X.env.scope.names.lookup x=some .local) (hy:X.env.scope.names.lookup y=some .local) (hz:X.env.scope.names.lookup z=some .local) (ha:PA X [a,b,c] ta)
  (hw:F7 [.Tuple [.Name x px,.Name y py,.Name z pz] kt pt] (.Tuple [a,b,c] k2 pt2) X.env=pure (some [x,y,z]))
  (hs:E8 [.Tuple [.Name x px,.Name y py,.Name z pz] kt pt] (.Tuple [a,b,c] k2 pt2) pos.line X.env=pure false:=by rfl) :
  PS X (.Assign [.Tuple [.Name x px,.Name y py,.Name z pz] kt pt] (.Tuple [a,b,c] k2 pt2) pos) (OJ i j k ta):=by
 intro pins s σ H D I h;rw[exec_Assign_arm];refine Ap (HK ?_);rw[hs];refine Ap (Au ?_);rw[if_neg δ];refine Ap (Tuple_ (thA (ha _ pins s σ H _ I h) fun us s1 vs H1 I1 r1 q1=>?_));obtain⟨u,v,w,e1,q1⟩:=q1;subst e1;obtain⟨u1,u2,u3,rfl,ru,rv,rw'⟩:∃u1 u2 u3,us=[u1,u2,u3]/\RelV u u1/\RelV v u2/\RelV w u3:=by
  cases r1 with
  | cons p q=>
   cases q with
   | cons p' q'=>
    cases q' with
    | cons p'' q''=>
     cases q'';exact⟨_,_,_,rfl,p,p',p''⟩
 refine BG ?_ (by show 3<=AL;decide);have I2:Inv X pins σ H1 { s1 with heap:=s1.heap.push { cls:=.type "tuple",data:=.seq [u1,u2,u3].toArray } }:=I1.kept (t':=s1.toks) fun b o e=>AB _ e;rw[hw];refine Ap (Au ?_);show AG (A0 X.prog X.w) X.A (do rule "assign.swapped-stores";let items <- unpackItems (.ref s1.heap.objs.size) 3 none;HH [fun v=>Go X.env z v,fun v=>Go X.env y v,fun v=>Go X.env x v] items.reverse;pure Flow.next) _ _ _;refine Ap (D8 (Ap (unpackItems_tuple (items:=#[u1,u2,u3]) (I.ok.hd hc) (IB.new s1.heap _) fun h' hx'=>?_)));have I3:=I2.kept (h':=h') (t':=s1.toks) fun b o e=>hx' b o (B1 (A4 e)) e;show AG _ _ (HH [fun v=>Go X.env z v,fun v=>Go X.env y v,fun v=>Go X.env x v] [u3,u2,u1] >>= fun _=>pure Flow.next) _ _ _;refine Ap (ER (GW (jC I3 hN hk (.inl hz) rw' (fun s2 I4=>?_) (.inr hz))));refine ER (GW (jC I4 hN hj (.inl hy) rv (fun s3 I5=>?_) (.inr hy)));refine ER (GW (jC I5 hN hi (.inl hx) ru (fun s4 I6=>?_) (.inr hx)));refine assignInOrder_nil (Au ⟨_,H1,?_,q1⟩);have e:((σ.set k (some w)).set j (some v)).set i (some u)=((σ.set i (some u)).set j (some v)).set k (some w):=by
  rw[set_comm (some v) (some u) (BN hij),set_comm (some w) (some u) (BN hik),set_comm (some w) (some v) (BN hjk)]
 rw[<- e];exact I6
theorem UJ {i j k:Nat}{x y z:Str}{a b c:Expr}{ta:TA}{px py pz pt:Pos}{kt k2 pt2}(hc:X.calm=true)(hN:X.N.Nodup)(hi:X.N[i]?=some x)(hj:X.N[j]?=some y)(hk:X.N[k]?=some z)(hij:i≠j)(hik:i≠k)(hjk:j≠k)
  (hx:X.env.scope.names.lookup x=some .local) (hy:X.env.scope.names.lookup y=some .local) (hz:X.env.scope.names.lookup z=some .local) (ha:QA X [a,b,c] ta)
  (hw:F7 [.Tuple [.Name x px,.Name y py,.Name z pz] kt pt] (.Tuple [a,b,c] k2 pt2) X.env=pure (some [x,y,z]))
  (hs:E8 [.Tuple [.Name x px,.Name y py,.Name z pz] kt pt] (.Tuple [a,b,c] k2 pt2) pos.line X.env=pure false:=by rfl) :
  QS X (.Assign [.Tuple [.Name x px,.Name y py,.Name z pz] kt pt] (.Tuple [a,b,c] k2 pt2) pos) (OJ i j k ta):=⟨Ve hc hN hi hj hk hij hik hjk hx hy hz ha.h hw hs⟩
end
theorem Wz (g:TG)(gs:TGs)(x:V)(xs:List V)(σ:St)(H:Hp)(Q:St->Hp->Prop):Ss g gs (x::xs) σ H Q=g x σ H fun σ1 H1=>gs xs σ1 H1 Q:=
 propext ⟨fun⟨_,_,e,h⟩=>by cases e;exact h,fun h=>⟨x,xs,rfl,h⟩⟩
theorem Zw (σ:St)(H:Hp)(Q:St->Hp->Prop):Zx [] σ H Q=Q σ H:=propext ⟨fun h=>h.2,fun h=>⟨rfl,h⟩⟩
theorem SM {a b:Int}{P:Int->Int->Prop}:(∃v w,(a=v/\b=w)/\P v w)=P a b:=propext ⟨fun⟨_,_,⟨h1,h2⟩,h⟩=>h1 ▸ h2 ▸ h,fun h=>⟨a,b,⟨rfl,rfl⟩,h⟩⟩
theorem WL {a b c:V}{P:V->V->V->Prop}:(∃u v w,(a=u/\b=v/\c=w)/\P u v w)=P a b c:=propext ⟨fun⟨_,_,_,⟨h1,h2,h3⟩,h⟩=>h1 ▸ h2 ▸ h3 ▸ h,fun h=>⟨a,b,c,⟨rfl,rfl,rfl⟩,h⟩⟩
theorem gQ {tc:TT}{ts us:TS}{D:Ends}{σ:St}{H:Hp}(h:∀kt ke,kt=ts D->ke=us D->tc σ H fun b H1=>if b=true then kt σ H1 else ke σ H1):G7 tc ts us D σ H:=h _ _ rfl rfl
theorem Um {p:Addr}{H H':Hp}(h:cL p H H')(e:H p=none):Same H H':=fun b o hb=>h b o (aF hb e) hb
section
variable {X:Cx}{e o:Expr}{te to:TE}{pos:Pos}
noncomputable def apq (ob:Option HO)(l:Addr)(y:V)(H:Hp)(Q:VK):Prop:=match ob with
 | some (.lst xs)=>xs.length<AL/\Q .non (upd H l (.lst (xs++[y])))
 | _=>False
noncomputable def isq (ob:Option HO):Prop:=match ob with
 | some (.lst _)=>True
 | _=>False
theorem Cu (xs:List V):isq (some (.lst xs))=True:=rfl
theorem K6 (xs:List V)(l:Addr)(y:V)(H:Hp)(Q:VK):apq (some (.lst xs)) l y H Q=(xs.length<AL/\Q .non (upd H l (.lst (xs++[y])))):=rfl
noncomputable def W8 (x:V)(te:TE)(σ:St)(H1:Hp)(Q:VK):Prop:=match x with
 | .ref l=>isq (H1 l)/\te σ H1 fun y H2=>apq (H2 l) l y H2 Q
 | _=>False
noncomputable def v5 (to te:TE):TE:=fun σ H Q=>to σ H fun x H1=>W8 x te σ H1 Q
theorem O9 (to te:TE)(σ:St)(H:Hp)(Q:VK):v5 to te σ H Q=to σ H fun x H1=>W8 x te σ H1 Q:=rfl
theorem Gz (l:Addr)(te:TE)(σ:St)(H1:Hp)(Q:VK):W8 (.ref l) te σ H1 Q=(isq (H1 l)/\te σ H1 fun y H2=>apq (H2 l) l y H2 Q):=rfl
theorem V0 {apos cpos:Pos}(ho:PE X o to)(he:PE X e te)
  (hbase:CD o "append" X.env (eval o X.env)=eval o X.env:=by rfl)
  (hfew:((Ct cpos (AH [e] X.env)).all (fun x=>!x.1)&&(F0 cpos (EF [] X.env)).all (fun x=>x.1.isSome)
   && decide ([e].length+([]:List DM).length+(if ([]:List DM).isEmpty then 0 else 1)<30))=true:=by rfl)
  (hline:(apos.endLine == cpos.line)=true:=by rfl) (hs:AH [e] X.env=(false,eval e X.env)::AH [] X.env:=by rfl) (hplain:(Ct cpos (AH [] X.env)).any (·.1)=false:=by rfl) :
  PE X (.Call (.Attribute o "append" apos) [e] [] cpos) (v5 to te):=by
 intro pins s σ H Q I h;refine EV hbase hfew hline rfl (thE (ho pins s σ H _ I h) fun v s1 x H1 I1 r1 q=>?_);cases x with
 | ref l=>
  obtain⟨q1,q2⟩:=q;cases el:H1 l with
  | none=>rw[el] at q1;exact q1.elim
  | some ob=>
   cases ob with
   | lst xs=>
    obtain⟨h1,h2⟩:=qd (T := "list") I1 r1 (.inl ⟨rfl,xs,SqL.of el⟩);refine⟨"list","list.append",DS,PySem.F.slot_list_append,PySem.F.type_list_append,h1,h2,?_⟩;rw[hs];refine Cs (by show(false||(Ct cpos (AH [] X.env)).any (·.1))=false;rw[hplain] <;> rfl) (DH ?_)
    refine Co (thE (he pins s1 σ H1 _ I1 q2) fun u s2 y H2 I2 r2 q3=>Ch ?_);replace q3:apq (H2 l) l y H2 Q:=q3;cases el2:H2 l with
    | none=>rw[el2] at q3;exact q3.elim
    | some ob2=>
     cases ob2 with
     | lst ys=>
      rw[el2] at q3;exact Mw pins s2 σ H2 (.ref l) [y] v [u] Q I2 r1 (.cons r2 .nil) ⟨l,ys,y,rfl,rfl,el2,q3.1,q3.2⟩
     | _=>rw[el2] at q3;exact q3.elim
   | _=>rw[el] at q1;exact q1.elim
 | _=>exact q.elim
theorem eX {apos cpos:Pos}(ho:QE X o to)(he:QE X e te)
  (hbase:CD o "append" X.env (eval o X.env)=eval o X.env:=by rfl)
  (hfew:((Ct cpos (AH [e] X.env)).all (fun x=>!x.1)&&(F0 cpos (EF [] X.env)).all (fun x=>x.1.isSome)
   && decide ([e].length+([]:List DM).length+(if ([]:List DM).isEmpty then 0 else 1)<30))=true:=by rfl)
  (hline:(apos.endLine == cpos.line)=true:=by rfl) (hs:AH [e] X.env=(false,eval e X.env)::AH [] X.env:=by rfl) (hplain:(Ct cpos (AH [] X.env)).any (·.1)=false:=by rfl) :
  QE X (.Call (.Attribute o "append" apos) [e] [] cpos) (v5 to te):=⟨V0 ho.h he.h hbase hfew hline hs hplain⟩
noncomputable def slq (ob:Option HO)(lo hi:Option Int)(H:Hp)(Q:VK):Prop:=match ob with
 | some (.lst xs)=>∀p,H p=none->Q (.ref p) (upd H p (.lst (jQ xs lo hi)))
 | some (.tup xs)=>¬(HT.sIx xs.length 0 lo=0/\HT.sIx xs.length xs.length hi=xs.length)/\∀p,H p=none->Q (.ref p) (upd H p (.tup (jQ xs lo hi)))
 | _=>False
noncomputable def X8:V->Option Int->Option Int->Hp->VK->Prop:=fun x lo hi H Q=>match x with
 | .ref p=>slq (H p) lo hi H Q
 | _=>False
theorem Qa (p:Addr)(lo hi:Option Int)(H:Hp)(Q:VK):X8 (.ref p) lo hi H Q=slq (H p) lo hi H Q:=rfl
theorem Ud (xs:List V)(lo hi:Option Int)(H:Hp)(Q:VK):slq (some (.lst xs)) lo hi H Q=∀p,H p=none->Q (.ref p) (upd H p (.lst (jQ xs lo hi))):=rfl
theorem Ug:SlR X X8:=by
 intro pins s σ H x v vl vu lo hi sl Q I rx hs pl pu h;unfold X8 at h;split at h
 ·rename_i p;unfold slq at h;split at h
  ·rename_i xs e;exact Ue pins s σ H _ v vl vu lo hi sl Q I rx hs pl pu ⟨p,xs,rfl,SqL.of e,h⟩
  ·rename_i xs e;exact XM pins s σ H _ v vl vu lo hi sl Q I rx hs pl pu ⟨p,xs,rfl,SqT.of e,h.1,h.2⟩
  exact h.elim
 exact h.elim
structure QO (X:Cx)(e:Option Expr)(t:TO):Prop where
 h:PO X e t
theorem vC:QO X none Bg:=⟨Vm⟩
theorem vB (h:QE X e te):QO X (some e) (Oz te):=⟨Vl h.h⟩
theorem qU {r:V->Option Int->Option Int->Hp->VK->Prop}{lo hi:Option Expr}{tl th:TO}{p2:Pos}(hr:SlR X r)(he:QE X e te)(hl:QO X lo tl)(hu:QO X hi th):QE X (.Subscript e (.Slice lo hi none p2) pos) (tSl r te tl th):=⟨QL hr he.h hl.h hu.h⟩
noncomputable def rpq (ob:Option HO)(k:Int)(H:Hp)(Q:VK):Prop:=match ob with
 | some (.lst xs)=>-(2^63)<=k/\k<2^63/\xs.length*k.toNat<=AL/\∀p,H p=none->Q (.ref p) (upd H p (.lst (BC k.toNat xs).flatten))
 | _=>False
noncomputable def zX:R2:=fun x y H Q=>match x,y with
 | .ref p,.int k=>rpq (H p) k H Q
 | x,y=>rI N8 (fun i j=>.int (i*j)) x y H Q
theorem Ur (p:Addr)(k:Int)(H:Hp)(Q:VK):zX (.ref p) (.int k) H Q=rpq (H p) k H Q:=rfl
theorem Bx (i j:Int)(H:Hp)(Q:VK):zX (.int i) (.int j) H Q=rI N8 (fun i j=>.int (i*j)) (.int i) (.int j) H Q:=rfl
theorem Uo (xs:List V)(k:Int)(H:Hp)(Q:VK):rpq (some (.lst xs)) k H Q=(-(2^63)<=k/\k<2^63/\xs.length*k.toNat<=AL/\∀p,H p=none->Q (.ref p) (upd H p (.lst (BC k.toNat xs).flatten))):=rfl
theorem eE:OpR X (D1 .Mult) zX:=by
 intro pins s σ H x y v u Q I rx ry h;unfold zX at h;split at h
 ·rename_i p k;unfold rpq at h;split at h
  ·rename_i xs e;exact YK pins s σ H _ _ v u Q I rx ry ⟨p,k,xs,rfl,rfl,e,h.1,h.2.1,h.2.2.1,h.2.2.2⟩
  exact h.elim
 exact YM pins s σ H _ _ v u Q I rx ry h
noncomputable def eqo (ob:Option HO)(H:Hp)(Q:VK):Prop:=match ob with
 | some (.lst _)=>Q (.bl false) H
 | some (.tup _)=>Q (.bl false) H
 | _=>False
noncomputable def Qn:R2:=fun x y H Q=>match x,y with
 | .ref p,.str _=>eqo (H p) H Q
 | x,y=>rEq x y H Q
theorem Uv (i j:Int)(H:Hp)(Q:VK):Qn (.int i) (.int j) H Q=rEq (.int i) (.int j) H Q:=rfl
theorem Uu (i j:Str)(H:Hp)(Q:VK):Qn (.str i) (.str j) H Q=rEq (.str i) (.str j) H Q:=rfl
theorem cB (hu:X.A.units<Ff):OpR X (Cn .Eq) Qn:=by
 intro pins s σ H x y v u Q I rx ry h;unfold Qn at h;split at h
 ·rename_i p z;cases rx;obtain⟨t,rfl⟩:=ry;unfold eqo at h;split at h
  ·rename_i xs e;obtain⟨its,r,pl,hz⟩:=I.list (SqL.of e);exact SeqAt.RcAt.list_str z t pl.isList hu X.prog X.w X.xe (EP X pins σ Q) ⟨.bl false,H,I,rfl,h⟩
  ·rename_i xs e;obtain⟨its,r,pl,hz⟩:=I.tuple (SqT.of e);exact SeqAt.RcAt.tuple_str z t pl hu X.prog X.w X.xe (EP X pins σ Q) ⟨.bl false,H,I,rfl,h⟩
  exact h.elim
 exact aax pins s σ H _ _ v u Q I rx ry h
theorem qW {x:Str}{v:V}{u:An}(hg:Gl X x)(hm:X.mg x=some u)(r:RelV v u)(b:Bn x):QE X (.Name x pos) (tC v):=⟨Vx hg hm r b.hd⟩
end
mutual
inductive aH (ok:Addr->Prop)(H:Hp):V->A3->Prop
 | non:aH ok H .non .none
 | bl (b:Bool):aH ok H (.bl b) (.bool b)
 | int (i:Int):aH ok H (.int i) (.int i)
 | str (x:Str):aH ok H (.str x) (.str x)
 | lst {p:Addr} {xs:List V} {ds:List A3}:ok p->H p=some (.lst xs)->xs.length<=1000000->aG ok H xs ds->aH ok H (.ref p) (.list ds)
 | tup {p:Addr} {xs:List V} {ds:List A3}:ok p->H p=some (.tup xs)->xs.length<=1000000->aG ok H xs ds->aH ok H (.ref p) (.tuple ds)
inductive aG (ok:Addr->Prop)(H:Hp):List V->List A3->Prop
 | nil:aG ok H [] []
 | cons {x:V} {d:A3} {xs:List V} {ds:List A3}:aH ok H x d->aG ok H xs ds->aG ok H (x::xs) (d::ds)
end
mutual
theorem aH.keep {ok ok':Addr->Prop}{H H':Hp}(k:∀a o,ok a->H a=some o->ok' a/\H' a=some o):∀{v:V}{d:A3},aH ok H v d->aH ok' H' v d
 | _,_,.non=>.non
 | _,_,.bl b=>.bl b
 | _,_,.int i=>.int i
 | _,_,.str x=>.str x
 | _,_,.lst o e z t=>.lst (k _ _ o e).1 (k _ _ o e).2 z (aG.keep k t)
 | _,_,.tup o e z t=>.tup (k _ _ o e).1 (k _ _ o e).2 z (aG.keep k t)
theorem aG.keep {ok ok':Addr->Prop}{H H':Hp}(k:∀a o,ok a->H a=some o->ok' a/\H' a=some o):∀{vs:List V}{ds:List A3},aG ok H vs ds->aG ok' H' vs ds
 | _,_,.nil=>.nil
 | _,_,.cons t r=>.cons (aH.keep k t) (aG.keep k r)
end
theorem aH.same {ok:Addr->Prop}{H H':Hp}{v:V}{d:A3}(t:aH ok H v d)(s:Same H H'):aH ok H' v d:=t.keep fun a o h e=>⟨h,s a o e⟩
theorem aG.same {ok:Addr->Prop}{H H':Hp}{v:List V}{d:List A3}(t:aG ok H v d)(s:Same H H'):aG ok H' v d:=t.keep fun a o h e=>⟨h,s a o e⟩
theorem aH.PL {p:Addr}{H H':Hp}{v:V}{d:A3}(t:aH (·≠p) H v d)(s:cL p H H'):aH (·≠p) H' v d:=t.keep fun a o h e=>⟨h,s a o h e⟩
theorem aG.PL {p:Addr}{H H':Hp}{v:List V}{d:List A3}(t:aG (·≠p) H v d)(s:cL p H H'):aG (·≠p) H' v d:=t.keep fun a o h e=>⟨h,s a o h e⟩
theorem aG.length {ok:Addr->Prop}{H:Hp}:∀{vs:List V}{ds:List A3},aG ok H vs ds->vs.length=ds.length
 | _,_,.nil=>rfl
 | _,_,.cons _ r=>by rw[B6,B6,r.length]
theorem aG.append {ok:Addr->Prop}{H:Hp}:∀{vs ws:List V}{ds es:List A3},aG ok H vs ds->aG ok H ws es->aG ok H (vs++ws) (ds++es)
 | _,_,_,_,.nil,t=>t
 | _,_,_,_,.cons h r,t=>.cons h (r.append t)
theorem aG.get {ok:Addr->Prop}{H:Hp}:∀{vs:List V}{ds:List A3}{i:Nat}{v:V},aG ok H vs ds->vs[i]?=some v->∃d,ds[i]?=some d/\aH ok H v d
 | _,_,0,_,.cons h _,e=>by cases e;exact⟨_,rfl,h⟩
 | _,_,i+1,_,.cons _ r,e=>aG.get r (i:=i) e
theorem aG.take {ok:Addr->Prop}{H:Hp}:∀{vs:List V}{ds:List A3}(n:Nat),aG ok H vs ds->aG ok H (vs.take n) (ds.take n)
 | _,_,0,_=>.nil
 | _,_,_+1,.nil=>.nil
 | _,_,n+1,.cons h r=>.cons h (r.take n)
section
variable {X:Cx}{pins:List (Addr×Obj)}{σ:St}{H:Hp}{s:AC}{ok:Addr->Prop}
mutual
theorem aH.reads (I:Inv X pins σ H s):∀{v:V}{d:A3}{u:An},aH ok H v d->RelV v u->∃as,Reads s.heap u d as
 | _,_,_,.non,r=>by cases r;exact⟨_,.none⟩
 | _,_,_,.bl b,r=>by cases r;exact⟨_,.bool b⟩
 | _,_,_,.int i,r=>by obtain⟨t,rfl⟩:=r;exact⟨_,.int i t⟩
 | _,_,_,.str x,r=>by obtain⟨t,rfl⟩:=r;exact⟨_,.str x t⟩
 | _,_,_,.lst o e z t,r=>by
  cases r;obtain⟨its,rv,pl,hz⟩:=I.list (SqL.of e);obtain⟨ob,h1,h2,n,h3⟩:=pl.isList;obtain⟨as,h4⟩:=aG.reads I t rv;exact⟨_,.list h1 h2 h3 (by simpa using h4)⟩
 | _,_,_,.tup o e z t,r=>by
  cases r;obtain⟨its,rv,pl,hz⟩:=I.tuple (SqT.of e);obtain⟨ob,h1,h2,n,h3⟩:=pl;obtain⟨as,h4⟩:=aG.reads I t rv;exact⟨_,.tuple h1 h2 h3 (by simpa using h4)⟩
theorem aG.reads (I:Inv X pins σ H s):∀{vs:List V}{ds:List A3}{us:List An},aG ok H vs ds->Vals vs us->∃as,ReadsAll s.heap us ds as
 | _,_,_,.nil,r=>by cases r;exact⟨_,.nil⟩
 | _,_,_,.cons h t,r=>by
  cases r with
  | cons r1 r2=>
   obtain⟨as,h1⟩:=aH.reads I h r1;obtain⟨bs,h2⟩:=aG.reads I t r2;exact⟨_,.cons h1 h2⟩
end
end
mutual
noncomputable def nodes:A3->Nat
 | .list ds=>1+wQ ds
 | .tuple ds=>1+wQ ds
 | _=>1
noncomputable def wQ:List A3->Nat
 | []=>0
 | d::ds=>nodes d+wQ ds
end
mutual
noncomputable def smD:A3->Bool
 | .none=>true
 | .bool _=>true
 | .int i=>decide (i.natAbs<2^50\/i.natAbs=10^20\/i.natAbs<2^55)
 | .str x=>decide ((reprText x).length<=50)
 | .list ds=>Pu ds
 | .tuple ds=>Pu ds
 | .dict _=>false
noncomputable def Pu:List A3->Bool
 | []=>true
 | d::ds=>smD d&&Pu ds
end
section
variable {X:Cx}{tg l:Expr}{tl:TE}
noncomputable def itq (K:AE)(ob:Option HO)(a:Addr)(H:Hp)(R:It->Hp->Prop):Prop:=match ob with
 | some (.lst _)=>R (Itl K a) H
 | some (.tup _)=>R (Itt K a) H
 | _=>False
noncomputable def itK (K:AE)(x:V)(H:Hp)(R:It->Hp->Prop):Prop:=match x with
 | .ref a=>itq K (H a) a H R
 | _=>False
noncomputable def Ft (K:AE)(tl:TE):TI:=fun σ H R=>tl σ H fun x H1=>itK K x H1 R
theorem gZ (K:AE)(tl:TE)(σ:St)(H:Hp)(R:It->Hp->Prop):Ft K tl σ H R=tl σ H fun x H1=>itK K x H1 R:=rfl
theorem jo (K:AE)(a:Addr)(H:Hp)(R:It->Hp->Prop):itK K (.ref a) H R=itq K (H a) a H R:=rfl
theorem jn (K:AE)(xs:List V)(a:Addr)(H:Hp)(R:It->Hp->Prop):itq K (some (.lst xs)) a H R=R (Itl K a) H:=rfl
theorem Vp (hl:PE X l tl):PI X tg l (Ft X.K tl):=by
 intro pins s σ H R I h;refine thn (hl pins s σ H _ I h) fun v s1 ⟨x,H1,I1,r1,q1⟩=>?_;cases x with
 | ref a=>
  replace q1:itq X.K (H1 a) a H1 R:=q1;cases r1;unfold itq at q1;split at q1
  ·rename_i xs e;obtain⟨its,rv,p,hz⟩:=I1.list (SqL.of e);refine DL p.isList ?_;refine⟨s1.heap.objs.size,[s1.heap.objs.size],_,_,H1,rfl,I1.kept (t':=s1.toks) fun b o e=>AB _ e,La a _,⟨_,AQ _ rfl,rfl,rfl⟩,fun b hb=>?_,q1⟩;have e:b=s1.heap.objs.size:=by simpa using hb
   subst e;exact I1.WD (A1 _) (I1.hok.fresh (A1 _))
  ·rename_i xs e;obtain⟨its,rv,p,hz⟩:=I1.tuple (SqT.of e);refine EW (show s1.heap.IsTuple a its.toArray from p) ?_;refine⟨s1.heap.objs.size,[s1.heap.objs.size],_,_,H1,rfl,I1.kept (t':=s1.toks) fun b o e=>AB _ e,GX a _,⟨_,AQ _ rfl,rfl,rfl⟩,fun b hb=>?_,q1⟩;have e:b=s1.heap.objs.size:=by simpa using hb
   subst e;exact I1.WD (A1 _) (I1.hok.fresh (A1 _))
  exact q1.elim
 | _=>exact q1.elim
theorem bN (hl:QE X l tl):QI X tg l (Ft X.K tl):=⟨Vp hl.h⟩
end
noncomputable def Gv (ok:Addr->Prop)(t:TE)(σ:St)(H0:Hp)(d:A3):Prop:=∀H,Same H0 H->∀Q:VK,(∀v H',Same H H'->aH ok H' v d->Q v H')->t σ H Q
noncomputable def GvA (ok:Addr->Prop)(t:TA)(σ:St)(H0:Hp)(ds:List A3):Prop:=∀H,Same H0 H->∀Q:List V->Hp->Prop,(∀vs H',Same H H'->aG ok H' vs ds->Q vs H')->t σ H Q
noncomputable def cW (ok:Addr->Prop)(H0:Hp):Prop:=∀H p,Same H0 H->H p=none->ok p
theorem Rq {H0:Hp}{p:Addr}{o:HO}(h:H0 p=some o):cW (·≠p) H0:=fun H q s hq=>(aF (s _ _ h) hq).symm
theorem cW.same {ok:Addr->Prop}{H0 H1:Hp}(n:cW ok H0)(s:Same H0 H1):cW ok H1:=fun H p s2 h=>n H p (s.trans s2) h
section
variable {ok:Addr->Prop}{σ:St}{H0:Hp}{ta tb:TE}{tr:TA}{d e:A3}{ds es:List A3}
theorem kJ {x:Str}:Gv ok (tC (.str x)) σ H0 (.str x):=fun H _ Q q=>q _ _ (Same.refl _) (.str x)
theorem bV:GvA ok Bh σ H0 []:=fun H _ Q q=>q _ _ (Same.refl _) .nil
theorem aP (h:Gv ok ta σ H0 d)(h2:GvA ok tr σ H0 ds):GvA ok (nR ta tr) σ H0 (d::ds):=fun H s Q q=>
 h H s _ fun v H1 s1 t1=>h2 H1 (s.trans s1) _ fun vs H2 s2 t2=>q _ _ (s1.trans s2) (.cons (t1.same s2) t2)
theorem fW (n:cW ok H0)(h:GvA ok tr σ H0 ds)(hl:ds.length<=1000000):Gv ok (Dw tr) σ H0 (.tuple ds):=fun H s Q q=>
 h H s _ fun vs H1 s1 t1=>⟨aU (by rw[t1.length];exact hl),fun p hp=>q _ _ (s1.trans (aB hp)) (.tup (n H1 p (s.trans s1) hp) aq (by rw[t1.length];exact hl) (t1.same (aB hp)))⟩
theorem kO (n:cW ok H0)(h:GvA ok tr σ H0 ds)(hl:ds.length<=1000000):Gv ok (G5 tr) σ H0 (.list ds):=fun H s Q q=>
 h H s _ fun vs H1 s1 t1=>⟨aU (by rw[t1.length];exact hl),fun p hp=>q _ _ (s1.trans (aB hp)) (.lst (n H1 p (s.trans s1) hp) aq (by rw[t1.length];exact hl) (t1.same (aB hp)))⟩
theorem R9 {r:R2}{i j k:Int}(h:Gv ok ta σ H0 (.int i))(h2:Gv ok tb σ H0 (.int j))(hr:∀H Q,Q (.int k) H->r (.int i) (.int j) H Q):Gv ok (tOp r ta tb) σ H0 (.int k):=fun H s Q q=>
 h H s _ fun v H1 s1 t1=>by
  cases t1;exact h2 H1 (s.trans s1) _ fun w H2 s2 t2=>by
   cases t2;exact hr _ _ (q _ _ (s1.trans s2) (.int k))
end
noncomputable def Io:A3->Bool
 | .int _=>true
 | _=>false
noncomputable def Pk:Sp:=fun vs H Q _=>∃v ok d,vs=[v]/\aH ok H v d/\Q (.bl (Io d)) H
section
variable {X:Cx}{NX N:List Str}{kX:List (Str×Dx)}{mp:List (Option Nat)}{scope:GM}
set_option maxHeartbeats 8000000 in
theorem Vd {tg iter elt:Expr}{ifs:List Expr}{pos pos' pos2:Pos}{wi:TI}{g:TG}{tc:TT}{te:TE}{i:Nat}{x:Str}(N:List Str)(mp:List (Option Nat))(hn:Nm X.N X.env.scope i x)(hNd:X.N.Nodup)(hNX:X.N=NX)(hkX:X.env.scope.names=kX)(S:Bc NX kX N mp scope)(hc:X.calm=true)
  (hi:PI X tg iter wi) (hg:∀cl C s H fp,PG (cJ X N scope cl C s H fp) tg g) (ht:∀cl C s H fp,PTs (cJ X N scope cl C s H fp) ifs tc) (he:∀cl C s H fp,PE (cJ X N scope cl C s H fp) elt te)
  (hf:X.fn x=true\/X.env.scope.names.lookup x=some .local:=by exact .inl rfl)
  (hsw:E8 [.Name x pos'] (.ListComp elt [⟨tg,iter,ifs,0⟩] scope pos) pos2.line X.env=pure true:=by rfl)
  (h1:(DA [.Name x pos'] X.env).map (·.2)=[GV (.Name x pos') X.env]:=by rfl)
  (hs:∀x,E9 iter X.env x=pure x:=by intro _;rfl):PS X (.Assign [.Name x pos'] (.ListComp elt [⟨tg,iter,ifs,0⟩] scope pos) pos2) (yK (zO mp wi g tc te) (lQ i)):=by
 intro pins s σ H Dn I h;rw[exec_Assign_arm];refine Ap (HK ?_);rw[hsw];refine Ap (Au ?_);rw[if_pos rfl,h1];replace h:zO mp wi g tc te σ H (fun v H1=>Dn.nx (σ.set i (some v)) H1):=h;obtain⟨cl,hcl,hsub,hhas⟩:=KR (env:=X.env) (scope:=scope) fun y hy hf=>I.ok.has y.1 (by
  rcases S.fre y hy hf with q|q
  ·exact .inl (show X.env.scope.names.lookup y.1=_ by rw[hkX];exact q)
  exact .inr (show X.env.scope.names.lookup y.1=_ by rw[hkX];exact q))
 generalize hQ:(fun(v:V)(H1:Hp)=>Dn.nx (σ.set i (some v)) H1)=Q at h
 let QQ:An->AC->Prop:=fun _ s'=>∃τ H',Inv X pins τ H' s'/\Dn.nx τ H'
 refine Ap (Ap (thn (Q:=QQ) (wpAny_comprehension_free (e:=.ListComp elt [⟨tg,iter,ifs,0⟩] scope pos) (use:=some fun v=>assignAll v [GV (.Name x pos') X.env]) rfl hs hcl S.kind S.locs ?_) fun _ s' ⟨τ,H',I',q'⟩=>Au (Au ⟨τ,H',I',q'⟩)));refine thn (hi pins s σ H _ I h) fun v s1 h1=>thn h1 fun itv s2 h2=>?_;obtain⟨it,fp,tn,J,H2,e,I2,T,st2,f2,W,⟨m0,w0⟩,turn⟩:=h2;subst e;refine BG (wpAny_newFunctionEnv S.nocell (by intro y hy;simp at hy) (fun h3 hns hsb=>?_) S.kind);dsimp only at hns hsb |-;have hold:∀b∈fp,b<s2.heap.objs.size:=fun b hb=>by
  obtain⟨o,q,_⟩:=T.obj _ _ st2 b hb;exact A4 q
 generalize hD:s2.heap.objs.size=D at hns hsb;generalize hH2:s2.heap.push { cls:=.type "list",dict:=none,data:=.seq ([]:List An).toArray }=P2 at hns hsb |-;have hC:P2.objs.size=D+1:=by rw[<- hH2,B8,hD]
 generalize hC':P2.objs.size=C at hns hsb |-;rw[hC'] at hC;have old:∀b o,s2.heap.get? b=some o->h3.get? b=some o:=fun b o q=>by
  have hb:=A4 q;exact hsb.extBut b o (na1 hb hD hC) (AB _ (hH2 ▸ AB _ q))
 have accD:h3.get? D=some { cls:=.type "list",data:=.seq ([]:List An).toArray }:=
  hsb.extBut _ _ (na2 hC) (AB _ (by rw[<- hH2,<- hD];exact AQ _ rfl))
 have hfr:D∉frs X.stack:=fun z=>by
  rcases Bi.mp (I2.v8 D z) with q|q
  ·exact na0 I2.lt hD q.symm
  exact I2.Y6 (na4 hD) q
 have I0:Inv (cJ X N scope cl C s2 H2 fp) [(D,{ cls:=.type "list",data:=.seq ([]:List An).toArray })] (pU mp σ) H2 { s2 with heap:=h3,toks:=s2.toks+([]:List (Str×An)).length }:=
  KQ (s':={ s2 with heap:=h3,toks:=s2.toks+([]:List (Str×An)).length }) hNX hkX S I2 f2 hold (na3 hD hC) hsub hhas rfl rfl ⟨_,hns⟩ old fun p hp=>by
   have ep:=AM.mp hp;subst ep;exact⟨accD,I2.hok.fresh (na4 hD),na2 hC,hfr,fun v z=>by cases z⟩
 have T0:tn 0 h3:=T.keep _ _ _ st2 fun b _ o q=>old b o q;have loop:∀z:AC,z={ s2 with heap:=h3,toks:=s2.toks+([]:List (Str×An)).length } ->
   FC (A0 X.prog X.w) X.A (.compLoop (.ListComp elt [⟨tg,iter,ifs,0⟩] scope pos) 0 (.ref it) (.ref D) (IP scope cl C X.env))
    (compPost (A0 X.prog X.w) X.A X.xe (some fun v=>assignAll v [GV (.Name x pos') X.env]) QQ (.ref D) C) z:=by
  rintro z rfl;have stat:∀{H':Hp}{pl:List (Addr×Obj)},(∀b∈fp,H' b=none)->(∀p∈pl,p.1=D)->∀b∈fp,zK (cJ X N scope cl C s2 H2 fp) pl H' b:=fun hn hp b hb=>by
   have hb2:=hold b hb;refine⟨hn b hb,na1 hb2 hD hC,(Ji hkX S I2 f2 hold (na3 hD hC) hsub hhas).exfs b hb,.inl hb,fun x c q=>(f2 b hb).2.2.2.2.1 x c (hsub x c q),fun p hpp=>?_⟩;have hpD:=hp p (by simpa [cJ] using hpp);rw[hpD];exact(na0 hb2 hD).symm
  refine Ar (env:=IP scope cl C X.env) (fun n z=>∃i acc τ H' its k,Inv (cJ X N scope cl C s2 H2 fp) [(D,{ cls:=.type "list",data:=.seq (GN its) k })] τ H' z/\tn i z.heap/\(∀b∈fp,H' b=none)/\Vals acc its/\acc.length<=AL/\W i n acc τ H')
   ?_ m0 ⟨0,[],_,H2,[],0,I0,T0,fun b hb=>(f2 b hb).1,.nil,EI _,w0⟩
  rintro n s5 ⟨i,acc,τ,H5,its,k,I5,st5,fr5,va,hz,w5⟩;rcases turn i n acc τ H5 w5 with⟨stop,qn⟩|⟨go,hz2,N9,hN9,step⟩
  ·refine thn (T.done (cJ X N scope cl C s2 H2 fp) rfl rfl rfl hc i _ s5 τ H5 _ I5 (stat fr5 (by simp)) st5 stop) fun r s6 ⟨hr,I6⟩=>?_;subst hr;obtain⟨m6,hn6,_⟩:=I6.loc;obtain⟨dD,nD,_,_,_⟩:=I6.pin (D,_) (BI _ (AM.mpr rfl));have U:=I6.base;have nC:H5 C=none:=I6.free;have ne:∀b o,s2.heap.get? b=some o->b≠C/\b≠D:=fun b o q=>by
    exact⟨na1 (A4 q) hD hC,na0 (A4 q) hD⟩
   have key:∀h',B4 C s6.heap h'->Inv X pins σ (upd H5 D (.lst acc)) { s6 with heap:=h' }:=fun h' sb=>by
    have keepC:∀b o,b≠C->s6.heap.get? b=some o->h'.get? b=some o:=fun b o hb q=>(sb.2 b hb).trans q;have U':Un (frs X.stack) fp H2 (upd H5 D (.lst acc)) s2.heap h':=by
     refine⟨fun b o q n1 hb hx=>keepC b o (ne b o q).1 (U.keep b o q n1 hb hx),fun b o q n1 hb hx=>?_,fun b o q n1 hx=>?_,fun b o q hx=>?_,fun b xs q=>?_,fun b o xs q=>?_,fun b ps q=>?_⟩
     ·obtain⟨sl,z⟩:=U.slot b o q n1 hb hx;exact⟨sl,keepC b _ (ne b o q).1 z⟩
     ·rw[aM (ne b o q).2];exact U.free b o q n1 hx
     ·obtain⟨o',z⟩:=U.there b o q hx;exact⟨o',keepC b _ (ne b o q).1 z⟩
     ·have z:=U.tups b xs q;rw[aM (aF z nD)];exact z
     ·have z:=U.frzs b o xs q;rw[aM (aF z nD)];exact z
     obtain⟨more,z⟩:=U.tbls b ps q;exact⟨more,by rw[aM (aF z nD)];exact z⟩
    have hok:HOk X.prog X.w (upd H5 D (.lst acc)) h':=fun b u q=>by
     by_cases hb:b=D
     ·subst hb;rw[aq] at q;cases q;exact⟨hz,its,k,va,keepC _ _ (na2 hC) dD⟩
     rw[aM hb] at q;refine(I6.hok b u q).stay (fun c v hcc z=>keepC c v ?_ z) (fun c z=>by rw[aM (aF z nD)];exact z) fun c xs z=>by rw[aM (aF z nD)];exact z
     rcases hcc with z1|z1
     ·subst z1;exact aF q nC
     exact aF z1 nC
    have I7:Inv X pins σ (upd H5 D (.lst acc)) { s6 with heap:=h' }:=I2.call' (s':={ s6 with heap:=h' }) (ch:=fp) I6.os U' hok I6.bare fun b hb=>by
     obtain⟨_,a2,_,a4,a5,a6⟩:=f2 b hb;exact⟨a4,a2,a5,a6⟩
    exact I7
   have I7:Inv X pins σ (upd H5 D (.lst acc)) s6:=key s6.heap (B4.refl _ _);have lC:X.env.locals≠C:=na1 I2.lt hD hC;have cC:∀y c,X.env.cells.lookup y=some c->c≠C:=fun y c z=>by
    obtain⟨_,o,h1,_⟩:=I2.cell y c z;exact na1 (A4 h1) hD hC
   show AG _ _ (GV (.Name x pos') X.env (.ref D)) _ _ s6;refine wpAny_assign_Name (zP (v:=.ref D) I7 hNd hn.hN hn.hv rfl (fun s7 I8 ⟨a,sa,ha⟩=>?_) hf);have aC:a≠C:=by
    rcases ha with rfl|ha
    ·exact lC
    exact cC _ _ ha
   obtain⟨o6,es6,ep6,g1,g2,g3,g4⟩:=hn6;refine⟨m6,⟨o6,es6,ep6,(sa.2 C (BN aC)).trans g1,g2,g3,g4⟩,fun h' sb=>?_⟩;have q9:=qn D nD;rw[<- hQ] at q9;refine⟨_,_,I8.turned (it:=C) (t':=s7.toks) (fun b o hb q=>(sb.2 b hb).trans q) ?_ (BN lC) (.inr (Be I2.sz (na3 hD hC))) cC (fun p hp=>?_),q9⟩
   ·rw[aM (BN (na2 hC))];exact nC
   obtain⟨h1,_⟩:=I2.pin p hp;exact na1 (A4 h1) hD hC
  refine thn (T.item (cJ X N scope cl C s2 H2 fp) rfl rfl rfl hc i _ s5 τ H5 _ I5 (stat fr5 (by simp)) st5 go) fun r s6 ⟨u,hr,h6⟩=>?_;subst hr;refine thn h6 fun _ s7 ⟨x,H7,I7,r7,y7,st7,fr7⟩=>?_;have I7':=I7.pinned (stat fr7 (by simp)) (T.obj _ _ st7);have no:∀{α:Type}{t:Sem α}{Q1 Q2:α->AC->Prop}{E:An->AC->Prop}{z:AC},AG (A0 X.prog X.w) X.A t Q1 (fun _ _=>False) z->(∀a z,Q1 a z->Q2 a z)->AG (A0 X.prog X.w) X.A t Q2 E z:=
   fun q f=>DV q f fun _ _ z=>z.elim
  refine no (hg cl C s2 H2 fp _ s7 τ H7 x u _ I7' r7 (step x H7 y7)) fun _ s8 ⟨τ1,H8,I8,q8⟩=>?_;refine no (ht cl C s2 H2 fp _ s8 τ1 H8 _ I8 q8) fun ok s9 ⟨H9,I9,q9⟩=>?_;have again:∀{H':Hp}{z:AC}{its':List An}{k':Nat},Inv (cJ X N scope cl C s2 H2 fp) ([(D,{ cls:=.type "list",data:=.seq (GN its') k' })]++kh fp s7.heap) τ1 H' z ->
    tn (i+1) z.heap/\(∀b∈fp,H' b=none)/\Inv (cJ X N scope cl C s2 H2 fp) [(D,{ cls:=.type "list",data:=.seq (GN its') k' })] τ1 H' z:=fun {H' z its' k'} Iz=>by
   have get:∀b∈fp,∀o,s7.heap.get? b=some o->z.heap.get? b=some o/\H' b=none:=fun b hb o q=>by
    obtain⟨a1,a2,_⟩:=Iz.pin (b,o) (BI _ (BI _ (mJ hb q)));exact⟨a1,a2⟩
   refine⟨T.keep _ _ _ st7 fun b hb o q=>(get b hb o q).1,fun b hb=>?_,Iz.nQ⟩;obtain⟨o,q,_⟩:=T.obj _ _ st7 b hb;exact(get b hb o q).2
  cases ok with
  | false=>
   rw[if_neg AZ] at q9 |-;obtain⟨m',hm,w9⟩:=hN9 _ _ _ q9;obtain⟨a1,a2,a3⟩:=again I9;exact⟨m',hm,i+1,acc,τ1,H9,its,k,a3,a1,a2,va,hz,w9⟩
  | true=>
   rw[if_pos rfl] at q9 |-;refine no (he cl C s2 H2 fp _ s9 τ1 H9 _ I9 q9) fun y s10 ⟨v,H10,I10,rv,q10⟩=>?_;obtain⟨m',hm,w10⟩:=hN9 _ _ _ q10;obtain⟨a1,a2,a3⟩:=again I10;obtain⟨dD,nD,_,_,_⟩:=a3.pin (D,_) (BI _ (AM.mpr rfl));have hlen:=va.length;refine DZ F.slot_list_append ⟨_,dD,rfl⟩ JP (IM _ _) (PySem.list_append D its.toArray k y (by rw[AR];omega)) ⟨dD,?_⟩;obtain⟨k',q⟩:∃k',(s10.heap.update D (DB fun a=>a.push y)).get? D=some { cls:=.type "list",data:=.seq (its++[y]).toArray k' }:=by
    have q:=PySem.IsL.update dD (fun a=>a.push y);rw[show its.toArray.push y=(its++[y]).toArray by simp] at q;exact⟨_,q⟩
   have a4:Inv (cJ X N scope cl C s2 H2 fp) (kh fp s7.heap) τ1 H10 s10:=I10.pq fun p hp=>I10.pin p (BI _ (BI _ hp));have a5:Inv (cJ X N scope cl C s2 H2 fp) (kh fp s7.heap) τ1 H10 { s10 with heap:=s10.heap.update D (DB fun a=>a.push y),toks:=s10.toks }:=
    a4.turned (it:=D) (fun b o hb z=>(Db _ _ (BN hb)).trans z) nD (na2 hC) (.inr (na4 hD))
     (fun x c z=>by
      obtain⟨_,o,h1,_⟩:=I2.cell x c (hsub x c z);exact na0 (A4 h1) hD) fun p hp=>by
      have hb:=(tO (by simpa [cJ] using hp)).1;exact na0 (hold _ hb) hD
   obtain⟨b1,b2,b3⟩:=(show tn (i+1) (s10.heap.update D (DB fun a=>a.push y))/\(∀b∈fp,H10 b=none)/\True from
    ⟨T.keep _ _ _ a1 fun b hb o z=>(Db _ _ (na0 (hold b hb) hD).symm).trans z,a2,trivial⟩)
   refine⟨m',hm,i+1,acc++[v],τ1,H10,its++[y],k',a5.pq fun p hp=>?_,b1,b2,va.append (.cons rv .nil),by rw[AK,BM];omega,w10⟩;have ep:=AM.mp hp;subst ep;exact⟨q,nD,na2 hC,hfr,fun v z=>by cases z⟩
 have e1:{ newEnv scope C X.env.globals cl X.env.qual none .none (some X.env) X.env.builtins with scope:=relabel scope X.env }=IP scope cl C X.env:=rfl;exact codeAny_compStart_list (loop _ rfl) (T.self _ 0 _ _ _ T0 (loop _ rfl))
theorem qR {tg iter elt:Expr}{ifs:List Expr}{pos pos' pos2:Pos}{wi:TI}{g:TG}{tc:TT}{te:TE}{i:Nat}{x:Str}(N:List Str)(mp:List (Option Nat))(hn:Nm X.N X.env.scope i x)(hNd:X.N.Nodup)(hNX:X.N=NX)(hkX:X.env.scope.names=kX)(S:Bc NX kX N mp scope)(hc:X.calm=true)
  (hi:QI X tg iter wi) (hg:∀cl C s H fp,QG (cJ X N scope cl C s H fp) tg g) (ht:∀cl C s H fp,QC (cJ X N scope cl C s H fp) ifs tc) (he:∀cl C s H fp,QE (cJ X N scope cl C s H fp) elt te)
  (hf:X.fn x=true\/X.env.scope.names.lookup x=some .local:=by exact .inl rfl)
  (hsw:E8 [.Name x pos'] (.ListComp elt [⟨tg,iter,ifs,0⟩] scope pos) pos2.line X.env=pure true:=by rfl)
  (h1:(DA [.Name x pos'] X.env).map (·.2)=[GV (.Name x pos') X.env]:=by rfl)
  (hs:∀x,E9 iter X.env x=pure x:=by intro _;rfl):QS X (.Assign [.Name x pos'] (.ListComp elt [⟨tg,iter,ifs,0⟩] scope pos) pos2) (yK (zO mp wi g tc te) (lQ i)):=
 ⟨Vd N mp hn hNd hNX hkX S hc hi.h (fun cl C s H fp=>(hg cl C s H fp).h) (fun cl C s H fp=>(ht cl C s H fp).h) (fun cl C s H fp=>(he cl C s H fp).h) hf hsw h1 hs⟩
end
section
variable {mp:List (Option Nat)}{g:TG}{te:TE}{σ:St}{H:Hp}{Q:VK}{R:It->Hp->Prop}{K:AE}{a:Addr}{xs:List V}{ds:List A3}{ok:Addr->Prop}
theorem take_snoc {α:Type}{l:List α}{i:Nat}{x:α}(h:l[i]?=some x):l.take (i+1)=l.take i++[x]:=by
 rw[List.take_add_one,h];rfl
end
noncomputable def dh (d:A3)(z:Str):Bool:=match d with
 | .str x=>decide (x=z)
 | _=>false
theorem lV {ok:Addr->Prop}{H:Hp}{x:V}{d:A3}{z:Str}{Q:VK}(t:aH ok H x d)(q:Q (.bl (dh d z)) H):Qn x (.str z) H Q:=by
 cases t with
 | non=>exact⟨rfl,q⟩
 | bl b=>exact⟨rfl,q⟩
 | int i=>exact⟨rfl,q⟩
 | str y=>exact⟨rfl,by rw[show decide (V.str y=V.str z)=decide (y=z) by simp];exact q⟩
 | lst o e z t=>show eqo _ _ _;rw[e];exact q
 | tup o e z t=>show eqo _ _ _;rw[e];exact q
theorem FQ {p c:Addr}{H Hk:Hp}{B:Int}(s:cL p H Hk)(t:cG Hk p B)(h:Hk c=none):c≠p/\H c=none:=by
 have n:=t.ne h;refine⟨n,?_⟩;cases e:H c with
 | none=>rfl
 | some o=>rw[s _ _ n e] at h;cases h
theorem Lq {p c:Addr}{H H':Hp}{o:HO}(s:cL p H H')(h:H c=none):cL p H (upd H' c o):=fun b u n e=>by
 rw[aM (aF e h)];exact s b u n e
theorem cG.upd {H:Hp}{p c:Addr}{B:Int}{o:HO}(t:cG H p B)(n:c≠p):cG (upd H c o) p B:=by
 obtain⟨a,b,c',e,r⟩:=t;exact⟨a,b,c',by rw[aM (BN n)];exact e,r⟩
theorem Tj {α:Type}(l:List α)(x:α):atI (l++[x]) (-1)=some x:=by
 unfold atI ixN;rw[if_neg δ,if_pos (by rw[AK,BM];omega)];show(l++[x])[_]?=some x;rw[BU (by rw[AK,BM];omega)];rw[show(-1+((l++[x]).length:Int)).toNat-l.length=0 by rw[AK,BM];omega];rfl
theorem iM.ZV {k:Nat}{A:A7}(r:iM k A):A.units+200<Ff:=by have:=r.un;omega
theorem pF {α:Type}(l:List α)(h:0<l.length):∃a b,l=a++[b]:=by
 induction l with
 | nil=>cases h
 | cons x r ih=>
  cases r with
  | nil=>exact⟨[],x,rfl⟩
  | cons y r=>
   obtain⟨a,b,e⟩:=ih (by simp);exact⟨x::a,b,by rw[e];rfl⟩
theorem Ws {n:Nat}{i:Int}(h0:0<=i)(h:i<n):ixN n i=some i.toNat:=by
 unfold ixN;rw[if_pos h0,if_pos h]
theorem cG.newOk {H:Hp}{p:Addr}{B:Int}(t:cG H p B):cW (·≠p) H:=by
 obtain⟨a,b,c,e,_⟩:=t;exact Rq e
theorem rA {prog:AV}{w:A6}{A:A7}{E:An->AC->Prop}{s:AC}{it t:Addr}{i:Nat}{items:Array An}{x:An}{Q:An->AC->Prop}(hit:s.heap.IsTupleIter it t i)(ht:s.heap.IsTuple t items)(hx:items[i]?=some x)
  (hQ:∀h',h'.IsTupleIter it t (i+1)->B4 it s.heap h'->Q x { s with heap:=h' }):AG (A0 prog w) A (AI.SmallTypes.nextOf (An.ref it)) Q E s:=by
 obtain⟨o,ho,hc,hd⟩:=id hit;obtain⟨ol,hol,hcl,nl,hdl⟩:=ht;unfold AI.SmallTypes.nextOf;refine Ap (B5 hit.typeIs Fn (Cc Fn hit.typeIs F.entry_tuple_iterator_next ?_ (F.args_tuple_iterator_next_1 _)));refine Ap (Au (Ap (CL ho hd (i:=0) rfl ?_)));refine AY rfl (Ap (CL ho hd (i:=1) rfl ?_));refine Ap (CM hol hdl ?_);show AG _ _ (match items[(i:Int).toNat]? with
  | some x=>(do IQ (.ref it) 1 (FH ((i:Int)+1));ret x)
  | none=>_) _ _ _
 rw[B3,hx];refine Ap (wpAny_setField ho hd (C0 1) (Au ⟨x,rfl,Au (hQ _ ?_ ?_)⟩))
 ·refine⟨_,F3 _ ho (Obj.isFreed_of_fields (Obj.data_mapFields hd _)),(Obj.cls_mapFields o _).trans hc,?_⟩;rw[Obj.data_mapFields hd];rfl
 exact B4.update s.heap it _
theorem tQ {prog:AV}{w:A6}{A:A7}{E:An->AC->Prop}{s:AC}{it t:Addr}{i:Nat}{items:Array An}{Q:An->AC->Prop}(hh:A.handled=none)(hit:s.heap.IsTupleIter it t i)(ht:s.heap.IsTuple t items)(hx:items[i]?=none)
  (hE:∀h' e,Heap.ExtBut it s.heap h'->(∃o,h'.get? e=some o/\o.cls=An.type "StopIteration")->E (.ref e) { s with heap:=h' }):AG (A0 prog w) A (AI.SmallTypes.nextOf (An.ref it)) Q E s:=by
 obtain⟨o,ho,hc,hd⟩:=id hit;obtain⟨ol,hol,hcl,nl,hdl⟩:=ht;unfold AI.SmallTypes.nextOf;refine Ap (B5 hit.typeIs Fn (Cc Fn hit.typeIs F.entry_tuple_iterator_next ?_ (F.args_tuple_iterator_next_1 _)));refine Ap (Au (Ap (CL ho hd (i:=0) rfl ?_)));refine AY rfl (Ap (CL ho hd (i:=1) rfl ?_));refine Ap (CM hol hdl ?_);show AG _ _ (match items[(i:Int).toNat]? with
  | some x=>_
  | none=>(do rule (toString "tuple_iterator.__next__" ++ toString ".end");IQ (.ref it) 0 .none;AI.SmallTypes.stopIteration)) _ _ _
 rw[B3,hx];refine Ap (D8 (Ap (wpAny_setField ho hd (Iq 1) ?_)));unfold AI.SmallTypes.stopIteration newExc;refine Ap (Ap (BG ?_));refine Ap (C9 (a:=.none) rfl ?_);refine BG ?_;refine wpAny_raiseNew_none hh (hE _ _ ?_ ?_)
 ·exact fun b ob hb e=>AB _ (AB _ ((Db _ _ (BN hb)).trans e))
 exact⟨_,AQ _ rfl,rfl⟩
theorem Zz {J:It}{g:TG}{tb:TS}{D:Ends}{σ:St}{H:Hp}{R:It->Hp->Prop}(hR:R=(fun J H1=>∃W:Nat->Nat->St->Hp->Prop,(∃m,W 0 m σ H1)/\∀i m σ H,W i m σ H ->
  (J.stop i H/\D.nx σ H)\/(J.go i H/\∃N:St->Hp->Prop,(∀σ' H',N σ' H'->∃m',m'<m/\W (i+1) m' σ' H')/\∀x H',J.yld i H x H'->g x σ H' fun σ2 H2=>tb { D with nx:=N,ct:=N,bk:=D.nx } σ2 H2)))
  (n:Nat) (Pv:Nat->St->Hp->Prop) (h0:Pv 0 σ H) (hgo:∀i σ H,i<n->Pv i σ H->J.go i H) (hst:∀σ H,Pv n σ H->J.stop n H)
  (hs:∀i σ H x H3,i<n->Pv i σ H->J.yld i H x H3->g x σ H3 fun σ2 H2=>tb { D with nx:=Pv (i+1),ct:=Pv (i+1),bk:=D.nx } σ2 H2) (hd:∀σ H,Pv n σ H->D.nx σ H):R J H:=by
 subst hR;refine⟨fun i m σ H2=>m=n-i/\i<=n/\Pv i σ H2,⟨_,rfl,EI _,h0⟩,?_⟩;rintro i m σ H2 ⟨rfl,hi,p⟩;by_cases hlt:i<n
 ·exact .inr ⟨hgo i σ H2 hlt p,Pv (i+1),fun σ' H' q=>⟨_,ω,rfl,hlt,q⟩,fun x H3 y=>hs i σ H2 x H3 hlt p y⟩
 have e:i=n:=ω;subst e;exact .inl ⟨hst σ H2 p,hd σ H2 p⟩
section
variable {X:Cx}{e o:Expr}{te to:TE}{pos:Pos}
noncomputable def exq (ob oc:Option HO)(l:Addr)(H:Hp)(Q:VK):Prop:=match ob,oc with
 | some (.lst xs),some (.lst zs)=>xs.length+zs.length<=AL/\Q .non (upd H l (.lst (xs++zs)))
 | _,_=>False
noncomputable def Nk (l:Addr)(y:V)(H:Hp)(Q:VK):Prop:=match y with
 | .ref b=>exq (H l) (H b) l H Q
 | _=>False
noncomputable def exK (x:V)(te:TE)(σ:St)(H1:Hp)(Q:VK):Prop:=match x with
 | .ref l=>isq (H1 l)/\te σ H1 fun y H2=>Nk l y H2 Q
 | _=>False
noncomputable def O4 (to te:TE):TE:=fun σ H Q=>to σ H fun x H1=>exK x te σ H1 Q
theorem DG (to te:TE)(σ:St)(H:Hp)(Q:VK):O4 to te σ H Q=to σ H fun x H1=>exK x te σ H1 Q:=rfl
theorem Kw (l:Addr)(te:TE)(σ:St)(H1:Hp)(Q:VK):exK (.ref l) te σ H1 Q=(isq (H1 l)/\te σ H1 fun y H2=>Nk l y H2 Q):=rfl
theorem Ga (l b:Addr)(H:Hp)(Q:VK):Nk l (.ref b) H Q=exq (H l) (H b) l H Q:=rfl
theorem SJ (xs zs:List V)(l:Addr)(H:Hp)(Q:VK):exq (some (.lst xs)) (some (.lst zs)) l H Q=(xs.length+zs.length<=AL/\Q .non (upd H l (.lst (xs++zs)))):=rfl
theorem Vy {apos cpos:Pos}(ho:PE X o to)(he:PE X e te)
  (hbase:CD o "extend" X.env (eval o X.env)=eval o X.env:=by rfl)
  (hfew:((Ct cpos (AH [e] X.env)).all (fun x=>!x.1)&&(F0 cpos (EF [] X.env)).all (fun x=>x.1.isSome)
   && decide ([e].length+([]:List DM).length+(if ([]:List DM).isEmpty then 0 else 1)<30))=true:=by rfl)
  (hline:(apos.endLine == cpos.line)=true:=by rfl) (hs:AH [e] X.env=(false,eval e X.env)::AH [] X.env:=by rfl) (hplain:(Ct cpos (AH [] X.env)).any (·.1)=false:=by rfl) :
  PE X (.Call (.Attribute o "extend" apos) [e] [] cpos) (O4 to te):=by
 intro pins s σ H Q I h;refine EV hbase hfew hline rfl (thE (ho pins s σ H _ I h) fun v s1 x H1 I1 r1 q=>?_);cases x with
 | ref l=>
  obtain⟨q1,q2⟩:=q;cases el:H1 l with
  | none=>rw[el] at q1;exact q1.elim
  | some ob=>
   cases ob with
   | lst xs=>
    obtain⟨h1,h2⟩:=qd (T := "list") I1 r1 (.inl ⟨rfl,xs,SqL.of el⟩);refine⟨"list","list.extend",DS,PySem.F.slot_list_extend,PySem.F.type_list_extend,h1,h2,?_⟩;rw[hs];refine Cs (by show(false||(Ct cpos (AH [] X.env)).any (·.1))=false;rw[hplain] <;> rfl) (DH ?_)
    refine Co (thE (he pins s1 σ H1 _ I1 q2) fun u s2 y H2 I2 r2 q3=>Ch ?_);replace q3:Nk l y H2 Q:=q3;unfold Nk at q3;split at q3
    ·rename_i b;unfold exq at q3;split at q3
     ·rename_i ys zs e1 e2;exact Mv pins s2 σ H2 (.ref l) [.ref b] v [u] Q I2 r1 (.cons r2 .nil) ⟨l,b,ys,zs,rfl,rfl,e1,e2,q3.1,q3.2⟩
     exact q3.elim
    exact q3.elim
   | _=>rw[el] at q1;exact q1.elim
 | _=>exact q.elim
theorem JV {apos cpos:Pos}(ho:QE X o to)(he:QE X e te)
  (hbase:CD o "extend" X.env (eval o X.env)=eval o X.env:=by rfl)
  (hfew:((Ct cpos (AH [e] X.env)).all (fun x=>!x.1)&&(F0 cpos (EF [] X.env)).all (fun x=>x.1.isSome)
   && decide ([e].length+([]:List DM).length+(if ([]:List DM).isEmpty then 0 else 1)<30))=true:=by rfl)
  (hline:(apos.endLine == cpos.line)=true:=by rfl) (hs:AH [e] X.env=(false,eval e X.env)::AH [] X.env:=by rfl) (hplain:(Ct cpos (AH [] X.env)).any (·.1)=false:=by rfl) :
  QE X (.Call (.Attribute o "extend" apos) [e] [] cpos) (O4 to te):=⟨Vy ho.h he.h hbase hfew hline hs hplain⟩
end
mutual
noncomputable def szD (a:Nat):A3->Prop
 | .none=>True
 | .bool _=>True
 | .int i=>i.natAbs<=10^20*2^a
 | .str x=>x.length<=30+a/\∀c∈x.cps.toList,c<16^8
 | .list ds=>ds.length<=210*5^a/\Pb a ds
 | .tuple ds=>ds.length<=210*5^a/\Pb a ds
 | .dict _=>False
noncomputable def Pb (a:Nat):List A3->Prop
 | []=>True
 | d::ds=>szD a d/\Pb a ds
end
theorem uT {k:Nat}:∀{ds:List A3},(∀d∈ds,d.depth<=k)->A3.depthAll ds<=k
 | [],_=>EI _
 | x::ds,h=>by
  rw[A3.depthAll.eq_2];have h1:=h x AX;have h2:=uT fun d hd=>h d (BS _ hd);omega
noncomputable def ctq (a b:Option HO)(pa:Addr)(H:Hp)(Q:VK):Prop:=match a,b with
 | some (.tup xs),some (.tup ys)=>xs≠[]/\xs.length+ys.length<=AL/\(ys=[]->Q (.ref pa) H)/\(ys≠[]->∀p,H p=none->Q (.ref p) (upd H p (.tup (xs++ys))))
 | _,_=>False
noncomputable def Qo:R2:=fun x y H Q=>match x,y with
 | .ref p,.ref q=>ctq (H p) (H q) p H Q
 | _,_=>False
theorem Uw (p q:Addr)(H:Hp)(Q:VK):Qo (.ref p) (.ref q) H Q=ctq (H p) (H q) p H Q:=rfl
theorem ZF (xs ys:List V)(pa:Addr)(H:Hp)(Q:VK):ctq (some (.tup xs)) (some (.tup ys)) pa H Q=(xs≠[]/\xs.length+ys.length<=AL/\(ys=[]->Q (.ref pa) H)/\(ys≠[]->∀p,H p=none->Q (.ref p) (upd H p (.tup (xs++ys))))):=rfl
theorem V4 {X:Cx}:OpR X (D1 .Add) Qo:=by
 intro pins s σ H x y v u Q I rx ry h;unfold Qo at h;split at h
 ·rename_i p q;unfold ctq at h;split at h
  ·rename_i xs ys e1 e2;exact V3 pins s σ H _ _ v u Q I rx ry ⟨p,q,xs,ys,rfl,rfl,SqT.of e1,SqT.of e2,h.1,h.2.1,h.2.2.1,h.2.2.2⟩
  exact h.elim
 exact h.elim
inductive Dj (H:Hp):List V->List (List Nat)->Prop
 | nil:Dj H [] []
 | cons {t:Addr} {p:List Nat} {vs:List V} {ps:List (List Nat)}:H t=some (.tup (Y7 p))->Dj H vs ps->Dj H (.ref t::vs) (p::ps)
theorem XQ {n:Nat}(h:n<=100000):n<=AL:=Be h δ
theorem dH {H H':Hp}{l:Addr}{o:HO}(s:Same H H')(h:H l=none):Same H (upd H' l o):=fun b u e=>by
 rw[aM (aF e h)];exact s b u e
structure Odd1 (d:A3):Prop where
 sz:szD 0 d
 nd:nodes d<=4
 dp:d.depth<=1
theorem cW.new {ok:Addr->Prop}{H:Hp}(n:cW ok H){q:Addr}(h:H q=none):ok q:=n H q (Same.refl _) h
structure Sm3 (a:Nat)(d:A3):Prop where
 sz:szD (a+1) d
 nd:nodes d<=20
 dp:d.depth<=2
theorem Wo {α:Type}(xs:List α)(h:1<=xs.length):∃(i:Nat)(x:α),xs[i]?=some x/\atI xs (-1)=some x:=by
 have h1:xs.length-1<xs.length:=ω;refine⟨xs.length-1,xs[xs.length-1],AD h1,?_⟩;unfold atI ixN;rw[if_neg δ,if_pos ω];show xs[_]?=_;rw[show(-1+(xs.length:Int)).toNat=xs.length-1 by omega];exact AD h1
section
variable {X:Cx}{a:Expr}{ta:TE}
noncomputable def trq (ob:Option HO)(H:Hp)(Q:Bool->Hp->Prop):Prop:=match ob with
 | some (.lst xs)=>Q (!xs.isEmpty) H
 | some (.tup xs)=>Q (!xs.isEmpty) H
 | _=>False
noncomputable def Ld (x:V)(H:Hp)(Q:Bool->Hp->Prop):Prop:=match x with
 | .ref p=>trq (H p) H Q
 | .bl b=>Q b H
 | .int i=>Q (i != 0) H
 | .non=>Q false H
 | _=>False
noncomputable def Xx (te:TE):TT:=fun σ H Q=>te σ H fun x H1=>Ld x H1 Q
theorem T7 (te:TE)(σ:St)(H:Hp)(Q:Bool->Hp->Prop):Xx te σ H Q=te σ H fun x H1=>Ld x H1 Q:=rfl
theorem Om (p:Addr)(H:Hp)(Q:Bool->Hp->Prop):Ld (.ref p) H Q=trq (H p) H Q:=rfl
theorem Oq (i:Int)(H:Hp)(Q:Bool->Hp->Prop):Ld (.int i) H Q=Q (i != 0) H:=rfl
theorem T4 (b:Bool)(H:Hp)(Q:Bool->Hp->Prop):Ld (.bl b) H Q=Q b H:=rfl
theorem Oo (H:Hp)(Q:Bool->Hp->Prop):Ld .non H Q=Q false H:=rfl
theorem T6 (xs:List V)(H:Hp)(Q:Bool->Hp->Prop):trq (some (.lst xs)) H Q=Q (!xs.isEmpty) H:=rfl
theorem T5 (xs:List V)(H:Hp)(Q:Bool->Hp->Prop):trq (some (.tup xs)) H Q=Q (!xs.isEmpty) H:=rfl
theorem Yl (ha:PE X a ta)(he:∀whole,isTrue a X.env whole=(do let v <- whole;standAt a.pos;DJ [v] (truthy v))):PT X a (Xx ta):=by
 intro pins s σ H Q I h;refine isTrue_plain (thE (ha pins s σ H _ I h) fun v s1 x H1 I1 r1 q1=>Xv pins s1 σ H1 x v Q I1 r1 ?_) (he _);cases x with
 | ref p=>
  replace q1:trq (H1 p) H1 Q:=q1;unfold trq at q1;split at q1
  ·rename_i xs e;exact⟨_,.inl ⟨xs,SqL.of e,rfl⟩,q1⟩
  ·rename_i xs e;exact⟨_,.inr (.inl ⟨xs,SqT.of e,rfl⟩),q1⟩
  exact q1.elim
 | bl b=>exact⟨_,rfl,q1⟩
 | int i=>exact⟨_,rfl,q1⟩
 | non=>exact⟨_,rfl,q1⟩
 | _=>exact(show False from q1).elim
theorem Hs (h:QE X a ta)(he:∀whole,isTrue a X.env whole=(do let v <- whole;standAt a.pos;DJ [v] (truthy v)):=by intro _;rfl):QT X a (Xx ta):=⟨Yl h.h he⟩
noncomputable def aaS:R2:=fun x y H Q=>∃p q xs,x=.ref p/\y=.ref q/\H p=some (.lst xs)/\H q=some (.lst [])/\Q (.bl (!xs.isEmpty)) H
theorem YL (hu:X.A.units<Ff):OpR X (Cn .NotEq) aaS:=by
 intro pins s σ H x y v u Q I rx ry h;obtain⟨p,q,xs,rfl,rfl,e1,e2,qq⟩:=h;cases rx;cases ry;obtain⟨its1,r1,pl1,hz1⟩:=I.list (SqL.of e1);obtain⟨its2,r2,pl2,hz2⟩:=I.list (SqL.of e2);cases r2;cases xs with
 | nil=>
  cases r1;exact SeqAt.RcNeAt.lists (e:=fun _=>true) pl1.isList pl2.isList rfl hu (fun j h1 h2=>absurd h2 (Nat.not_lt_zero _)) X.prog X.w X.xe (EP X pins σ Q) ⟨.bl false,H,I,rfl,qq⟩
 | cons a b=>
  cases r1;exact SeqAt.RcNeAt.lists_lengths pl1.isList pl2.isList (by simp) hu X.prog X.w X.xe (EP X pins σ Q) ⟨.bl true,H,I,rfl,qq⟩
end
noncomputable def stD (s:Int×Int×Int):A3:=.tuple [.int s.1,.int s.2.1,.int s.2.2]
theorem aH.st {ok:Addr->Prop}{H:Hp}{x:V}{s:Int×Int×Int}(t:aH ok H x (stD s)):∃a,x=.ref a/\ok a/\H a=some (.tup [.int s.1,.int s.2.1,.int s.2.2]):=by
 cases t with
 | tup o e z ts=>
  rename_i p xs;refine⟨p,rfl,o,?_⟩;cases ts with
  | cons t1 ts=>
   cases t1;cases ts with
   | cons t2 ts=>
    cases t2;cases ts with
    | cons t3 ts=>
     cases t3;cases ts;exact e
theorem aG.st {ok:Addr->Prop}{H:Hp}{xs:List V}{ss:List (Int×Int×Int)}{i:Nat}{x:V}(t:aG ok H xs (ss.map stD))(h:xs[i]?=some x):∃a s,x=.ref a/\ok a/\ss[i]?=some s/\H a=some (.tup [.int s.1,.int s.2.1,.int s.2.2]):=by
 obtain⟨d,hd,td⟩:=t.get h;rw[AU] at hd;cases hs:ss[i]? with
 | none=>rw[hs] at hd;cases hd
 | some s=>
  rw[hs] at hd;cases hd;obtain⟨a,h1,h2,h3⟩:=td.st;exact⟨a,s,h1,h2,rfl,h3⟩
theorem qZ {is:List Int}{r:Int}(h0:0<=r)(h:r<is.length):∃i,i∈is/\atI (is.map V.int) r=some (.int i):=by
 have h1:r.toNat<is.length:=ω;refine⟨is[r.toNat],FS h1,?_⟩;unfold atI;rw[Ws h0 (by rw[AF];omega)];show(is.map V.int)[r.toNat]?=_;rw[AU,AD h1];rfl
structure GD (ss:List (Int×Int×Int)):Prop where
 lh:∀(i:Nat) s,ss[i]?=some s->s.1<=s.2.1/\0<=s.2.2/\s.2.2<=9
 nx:∀(i:Nat) s t,ss[i]?=some s->ss[i+1]?=some t->t.1=s.2.1+1
 bd:∀(i:Nat) s,ss[i]?=some s->-(10^12)<=s.1/\s.2.1<=10^9+(10^12+10)*(i+1)
theorem GD.nil:GD []:=⟨fun i s h=>(by cases h),fun i s t h=>(by cases h),fun i s h=>(by cases h)⟩
theorem GD.snoc {ss:List (Int×Int×Int)}(h:GD ss){lo hi b:Int}(h1:lo<=hi)(h2:0<=b/\b<=9)(h3:-(10^12)<=lo/\hi<=10^9+(10^12+10)*(ss.length+1))(h4:∀s,ss[ss.length-1]?=some s->lo=s.2.1+1):GD (ss++[(lo,hi,b)]):=by
 have get:∀(i:Nat) s,(ss++[(lo,hi,b)])[i]?=some s->(i<ss.length/\ss[i]?=some s)\/(i=ss.length/\s=(lo,hi,b)):=fun i s e=>by
  rcases FK i ss.length with z|z
  ·rw[DF z] at e;exact .inl ⟨z,e⟩
  rw[BU z] at e;cases hk:i-ss.length with
  | zero=>rw[hk] at e;cases e;exact .inr ⟨ω,rfl⟩
  | succ k=>rw[hk] at e;cases e
 refine⟨fun i s e=>?_,fun i s t e1 e2=>?_,fun i s e=>?_⟩
 ·rcases get i s e with⟨z,e⟩|⟨z,rfl⟩
  ·exact h.lh i s e
  exact⟨h1,h2.1,h2.2⟩
 ·rcases get i s e1 with⟨z,e1⟩|⟨z,rfl⟩
  ·rcases get (i+1) t e2 with⟨z2,e2⟩|⟨z2,rfl⟩
   ·exact h.nx i s t e1 e2
   exact h4 s (by rw[show ss.length-1=i by omega];exact e1)
  rcases get (i+1) t e2 with⟨z2,e2⟩|⟨z2,rfl⟩ <;> omega
 rcases get i s e with⟨z,e⟩|⟨z,rfl⟩
 ·exact h.bd i s e
 rw[z];exact h3
section
variable {κ:Type}[DecidableEq κ]
noncomputable def jd (kvs:List (κ×V))(k:κ):Option V:=(kvs.find? fun kv=>decide (kv.1=k)).map (·.2)
noncomputable def putK (kvs:List (κ×V))(k:κ)(v:V):List (κ×V):=
 if (kvs.any fun kv=>decide (kv.1=k))=true then kvs.map (fun kv=>if kv.1=k then (kv.1,v) else kv) else kvs++[(k,v)]
theorem Dt {k:κ}:jd ([]:List (κ×V)) k=none:=rfl
theorem fG {p:κ×V}{r:List (κ×V)}{k:κ}(e:p.1=k):jd (p::r) k=some p.2:=by simp [jd,Ix,e]
theorem fH {p:κ×V}{r:List (κ×V)}{k:κ}(e:¬p.1=k):jd (p::r) k=jd r k:=by simp [jd,Ix,e]
theorem qK (k:κ):∀kvs:List (κ×V),(kvs.any fun kv=>decide (kv.1=k))=(jd kvs k).isSome
 | []=>rfl
 | p::r=>by
  rw[G0];by_cases e:p.1=k
  ·simp only[fG e,decide_eq_true e,Bool.true_or,Option.isSome_some]
  rw[fH e,decide_eq_false e,Bool.false_or];exact qK k r
theorem Du (k j:κ)(y:V):∀kvs:List (κ×V),jd (kvs.map fun kv=>if kv.1=k then (kv.1,y) else kv) j=(jd kvs j).map fun x=>if j=k then y else x
 | []=>rfl
 | p::r=>by
  have ih:=Du k j y r;rw[D2];by_cases h:p.1=k
  ·rw[if_pos h];by_cases e:p.1=j
   ·rw[fG (p:=(p.1,y)) e,fG e,map_some,if_pos (e.symm.trans h)]
   rw[fH (p:=(p.1,y)) e,fH e,ih]
  rw[if_neg h];by_cases e:p.1=j
  ·rw[fG (p:=p) e,fG e,map_some,if_neg (fun z=>h (e.trans z))]
  rw[fH (p:=p) e,fH e,ih]
theorem zM (k j:κ)(y:V):∀kvs:List (κ×V),jd kvs k=none->jd (kvs++[(k,y)]) j=if j=k then some y else jd kvs j
 | [],_=>by
  by_cases e:k=j
  ·rw[if_pos e.symm];exact fG (p:=(k,y)) e
  rw[if_neg (fun z=>e z.symm)];exact fH (p:=(k,y)) e
 | p::r,hn=>by
  rw[List.cons_append];have hk:¬p.1=k:=fun z=>by rw[fG z] at hn;cases hn
  rw[fH hk] at hn;have ih:=zM k j y r hn;by_cases e:p.1=j
  ·rw[fG e,fG e,if_neg (fun z=>hk (e.trans z))]
  rw[fH e,fH e,ih]
theorem Ds (kvs:List (κ×V))(k j:κ)(y:V):jd (putK kvs k y) j=if j=k then some y else jd kvs j:=by
 unfold putK;by_cases a:(kvs.any fun kv=>decide (kv.1=k))=true
 ·rw[if_pos a,Du];rw[qK] at a;by_cases e:j=k
  ·obtain⟨x,hx⟩:=Option.isSome_iff_exists.mp a;rw[if_pos e,e,hx,map_some,if_pos rfl]
  rw[if_neg e];cases jd kvs j with
  | none=>rfl
  | some x=>rw[map_some,if_neg e]
 rw[if_neg a];refine zM k j y kvs ?_;rw[qK] at a;cases q:jd kvs k with
 | none=>rfl
 | some x=>rw[q] at a;exact(a rfl).elim
theorem gP (kvs:List (κ×V))(k:κ)(v:V):(putK kvs k v).length<=kvs.length+1:=by
 unfold putK;split
 ·rw[AF];omega
 rw[AK,B6,Fs];omega
theorem yG.MT {o:Option V}{u:Option An}(r:yG o u):o.isSome=u.isSome:=by
 cases o with
 | none=>cases u with
  | none=>rfl
  | some _=>exact(show False from r).elim
 | some _=>cases u with
  | none=>exact(show False from r).elim
  | some _=>rfl
theorem KV.val {kvs:List (κ×V)}{vs:List (κ×An)}(r:KV kvs vs)(k:κ):yG (jd kvs k) (valueAt vs k):=by
 unfold KV at r
 induction r with
 | nil=>exact EH
 | @cons p q ps qs h t ih=>
  obtain⟨h1,h2⟩:=h;by_cases e:p.1=k
  ·have e':q.1=k:=h1.symm.trans e;have b:valueAt (q::qs) k=some q.2:=by simp [valueAt,Ix,e']
   rw[fG e,b];exact h2
  have e':¬q.1=k:=fun z=>e (h1.trans z);have b:valueAt (q::qs) k=valueAt qs k:=by simp [valueAt,Ix,e']
  rw[fH e,b];exact ih
theorem KV.any {kvs:List (κ×V)}{vs:List (κ×An)}(r:KV kvs vs)(k:κ):(kvs.any fun kv=>decide (kv.1=k))=vs.any fun kv=>decide (kv.1=k):=by
 unfold KV at r
 induction r with
 | nil=>rfl
 | cons h t ih=>rw[G0,G0,ih,h.1]
theorem KV.repl {kvs:List (κ×V)}{vs:List (κ×An)}(r:KV kvs vs)(k:κ){y:V}{u:An}(ry:RelV y u) :
  KV (kvs.map fun kv=>if kv.1=k then (kv.1,y) else kv) (vs.map fun kv=>if kv.1=k then (kv.1,u) else kv):=by
 unfold KV at r |-
 induction r with
 | nil=>exact .nil
 | @cons p q ps qs h t ih=>
  rw[D2,D2];refine .cons ?_ ih;obtain⟨h1,h2⟩:=h;by_cases e:p.1=k
  ·rw[if_pos e,if_pos (h1.symm.trans e)];exact⟨h1,ry⟩
  rw[if_neg e,if_neg (fun z=>e (h1.trans z))];exact⟨h1,h2⟩
theorem KV.put {kvs:List (κ×V)}{vs:List (κ×An)}(r:KV kvs vs)(k:κ){y:V}{u:An}(ry:RelV y u):KV (putK kvs k y) (HL vs k u):=by
 unfold putK HL;rw[r.any k];by_cases e:(vs.any fun kv=>decide (kv.1=k))=true
 ·rw[if_pos e,if_pos e];exact r.repl k ry
 rw[if_neg e,if_neg e];exact Paired.snoc r ⟨rfl,ry⟩
theorem KV.keys {kvs:List (κ×V)}{vs:List (κ×An)}(r:KV kvs vs):kvs.map (·.1)=vs.map (·.1):=by
 unfold KV at r
 induction r with
 | nil=>rfl
 | cons h t ih=>rw[D2,D2,ih,h.1]
theorem KV.length {kvs:List (κ×V)}{vs:List (κ×An)}(r:KV kvs vs):kvs.length=vs.length:=Kb r
end
theorem Ah {P:AV}{w:A6}{k:Key}{u:An}(r:RelV (kV k) u):(aR P w).is k u=true:=by
 cases k with
 | inl i=>obtain⟨t,e⟩:=(show ∃t,u=An.int i t from r);subst e;exact Fo P w i t
 | inr x=>obtain⟨t,e⟩:=(show ∃t,u=An.str x t from r);subst e;exact Fl P w x t
theorem Ai {P:AV}{w:A6}:∀{ks:List Key}{us:List An},Vals (ks.map kV) us->ItemsAre (aR P w) ks us
 | [],_,r=>by rw[JI] at r;cases r;exact .nil
 | k::ks,_,r=>by
  rw[D2] at r;cases r with
  | cons h t=>exact .cons (Ah h) (Ai t)
noncomputable abbrev KT (H:Hp):List (List Key×V)->List (List Key×Addr×An)->Prop:=Paired fun p q=>p.1=q.1/\H q.2.1=some (.tup (p.1.map kV))/\RelV p.2 q.2.2
theorem KT.val {H:Hp}{kvs:List (List Key×V)}{xs:List (List Key×Addr×An)}(r:KT H kvs xs)(k:List Key):yG (jd kvs k) ((atKey xs k).map (·.2)):=by
 induction r with
 | nil=>exact EH
 | @cons p q ps qs h t ih=>
  obtain⟨h1,_,h2⟩:=h;by_cases e:p.1=k
  ·have e':q.1=k:=h1.symm.trans e;have b:atKey (q::qs) k=some q.2:=by simp [atKey,Ix,e']
   rw[fG e,b];exact h2
  have e':¬q.1=k:=fun z=>e (h1.trans z);have b:atKey (q::qs) k=atKey qs k:=by simp [atKey,Ix,e']
  rw[fH e,b];exact ih
theorem KT.repl {H:Hp}{kvs:List (List Key×V)}{xs:List (List Key×Addr×An)}(r:KT H kvs xs)(k:List Key){y:V}{u:An}(ry:RelV y u) :
  KT H (kvs.map fun kv=>if kv.1=k then (kv.1,y) else kv) (xs.map (putAt k u)):=by
 induction r with
 | nil=>exact .nil
 | @cons p q ps qs h t ih=>
  rw[D2,D2];refine .cons ?_ ih;obtain⟨h1,h2,h3⟩:=h;unfold putAt;by_cases e:p.1=k
  ·rw[if_pos e,if_pos (h1.symm.trans e)];exact⟨h1,h2,ry⟩
  rw[if_neg e,if_neg (fun z=>e (h1.trans z))];exact⟨h1,h2,h3⟩
theorem KT.put {H:Hp}{kvs:List (List Key×V)}{xs:List (List Key×Addr×An)}(r:KT H kvs xs)(k:List Key){b:Addr}{y:V}{u:An}(hb:H b=some (.tup (k.map kV)))(ry:RelV y u) :
  KT H (putK kvs k y) (storedH xs k b u):=by
 have e:(kvs.any fun kv=>decide (kv.1=k))=(atKey xs k).isSome:=by
  rw[qK,(r.val k).MT,Option.isSome_map]
 unfold putK storedH;rw[e];by_cases q:(atKey xs k).isSome=true
 ·rw[if_pos q,if_pos q];exact r.repl k ry
 rw[if_neg q,if_neg q];exact Paired.snoc r ⟨rfl,hb,ry⟩
theorem KT.keeps {H H':Hp}{kvs:List (List Key×V)}{xs:List (List Key×Addr×An)}(r:KT H kvs xs)(ht:∀b ys,H b=some (.tup ys)->H' b=some (.tup ys)):KT H' kvs xs:=
 Paired.Zb r fun _ _ z=>⟨z.1,ht _ _ z.2.1,z.2.2⟩
section
variable {P:AV}{w:A6}{H:Hp}{h:Heap}{a:Addr}
theorem Xj {u:HO}(ok:HOk P w H h)(e:Rd H a u):dR P w H h a u:=e.ok ok
theorem Gg {kvs:List (Key×V)}(ok:HOk P w H h)(e:Rd H a (.dK kvs)):kvs.length<=AL/\(a == C6)=false/\∃vs,KV kvs vs/\h.DictOf (aR P w) a vs:=
 show dR P w H h a (.dK kvs) from Xj ok e
theorem Am {kvs:List (Key×V)}(ok:HOk P w H h)(e:H a=some (.dK kvs)):kvs.length<=AL/\(a == C6)=false/\∃vs,KV kvs vs/\h.DictOf (aR P w) a vs:=Gg ok (.inl e)
theorem Im {ks:List Key}(ok:HOk P w H h)(e:H a=some (.tup (ks.map kV))):(tupleKind (aR P w)).is h ks a:=by
 obtain⟨_,its,r,o,h1,h2,n,h3⟩:=(show dR P w H h a (.tup (ks.map kV)) from ok a _ e);exact⟨o,its.toArray,n,h1,h2,h3,by simpa using Ai r⟩
theorem KC {kvs:List (List Key×V)}(ok:HOk P w H h)(e:Rd H a (.dT kvs)):kvs.length<=AL/\(a == C6)=false /\
  ∃xs,KT H kvs xs/\h.DictOfH (tupleKind (aR P w)) a xs:=by
 obtain⟨z,y,xs,r,o,es,ep,h1,h2,h3,h4,h5⟩:=(show dR P w H h a (.dT kvs) from Xj ok e);refine⟨z,y,xs,r,o,es,ep,h1,h2,h3,h4,fun x hx=>?_,h5⟩;have all:∀{l:List (List Key×V)}{m:List (List Key×Addr×An)},KT H l m->∀x∈m,(tupleKind (aR P w)).is h x.1 x.2.1:=by
  intro l m q
  induction q with
  | nil=>intro x hx;exact nomatch hx
  | @cons p q ps qs hq t ih=>
   intro x hx;rcases Bi.mp hx with e|hx
   ·subst e;exact Im ok (by rw[<- hq.1];exact hq.2.1)
   exact ih x hx
 exact all r x hx
theorem aaJ {kvs:List (List Key×V)}(ok:HOk P w H h)(e:H a=some (.dT kvs)):kvs.length<=AL/\(a == C6)=false /\
  ∃xs,KT H kvs xs/\h.DictOfH (tupleKind (aR P w)) a xs:=KC ok (.inl e)
end
noncomputable def uG (H:Hp)(a:Addr)(y:V)(r:Option V):Prop:=
 (∃kvs k,Rd H a (.dK kvs)/\y=kV k/\r=jd kvs k)\/∃kvs k b,Rd H a (.dT kvs)/\y=.ref b/\H b=some (.tup (k.map kV))/\r=jd kvs k
noncomputable def Dm (H:Hp)(a:Addr)(y v:V)(H':Hp):Prop:=
 (∃kvs k,H a=some (.dK kvs)/\y=kV k/\kvs.length<AL/\H'=upd H a (.dK (putK kvs k v))) \/
 ∃kvs k b,H a=some (.dT kvs)/\y=.ref b/\H b=some (.tup (k.map kV))/\kvs.length<AL/\H'=upd H a (.dT (putK kvs k v))
theorem uG.k {H:Hp}{a:Addr}{kvs:List (Key×V)}{k:Key}(e:H a=some (.dK kvs)):uG H a (kV k) (jd kvs k):=.inl ⟨kvs,k,.inl e,rfl,rfl⟩
theorem Dm.k {H:Hp}{a:Addr}{kvs:List (Key×V)}{k:Key}{v:V}(e:H a=some (.dK kvs))(hl:kvs.length<AL):Dm H a (kV k) v (upd H a (.dK (putK kvs k v))):=.inl ⟨kvs,k,e,rfl,hl,rfl⟩
section
variable {X:Cx}{pins:List (Addr×Obj)}{σ:St}{H:Hp}{s:AC}{a:Addr}{y v:V}{u r:An}{o:Option V}{A:A7}{E:An->AC->Prop}
theorem Inv.big (I:Inv X pins σ H s):C6<s.heap.objs.size:=by
 have h:AJ<s.heap.objs.size:=(I.mod.glob.keeps I.bk).lt;exact lt_trans δ h
theorem Aq {Q:An->AC->Prop}(hu:A.units+1<Ff)(I:Inv X pins σ H s)(g:uG H a y (some v))(ry:RelV y u)(h:∀w' s',Inv X pins σ H s'->RelV v w'->Q w' s') :
  AG (A0 X.prog X.w) A (JE (.ref a) u) Q E s:=by
 rcases g with⟨kvs,k,e,ey,l⟩|⟨kvs,k,b,e,ey,eb,l⟩
 ·subst ey;obtain⟨z,hd,vs,rel,dd⟩:=Gg I.hok e;obtain⟨w',hw,rw'⟩:=yG.some_of (v:=v) (o:=valueAt vs k) (by rw[l];exact rel.val k);exact wpAny_getItem_of (Ah ry) dd.mapOf hw (h w' _ (I.tok _) rw')
 subst ey;cases (show u=An.ref b from ry);obtain⟨z,hd,xs,rel,dd⟩:=KC I.hok e;obtain⟨w',hw,rw'⟩:=yG.some_of (v:=v) (o:=(atKey xs k).map (·.2)) (by rw[l];exact rel.val k);obtain⟨p,hp,hp2⟩:=Bz.mp hw;refine wpAny_getItem_heap (tupleKind_room_in1 hu) (Im I.hok eb) dd hp ?_;rw[hp2];exact h w' _ (I.tok _) rw'
theorem vO {h':Heap}{t':Nat}{ob:HO}(I:Inv X pins σ H s)(mu:Mut (H a))(hs:B4 a s.heap h')(he:∃q,h'.get? a=some q)(new:dR X.prog X.w (upd H a ob) h' a ob) :
  Inv X pins σ (upd H a ob) { s with heap:=h',toks:=t' }:=
 I.write (x:=a) (e:=a) mu (.inl rfl) (fun b q hb z=>(hs.2 b hb).trans z) he new
theorem yt {P:AV}{w:A6}{H':Hp}{h':Heap}{kvs:List (Key×V)}{vs:List (Key×An)}(z:kvs.length<=AL)(hd:(a == C6)=false)(rel:KV kvs vs)(dd:h'.DictOf (aR P w) a vs) :
  dR P w H' h' a (.dK kvs):=⟨z,hd,vs,rel,dd⟩
theorem Ao {H':Hp}{Q:Unit->AC->Prop}(hu:A.units+1<Ff)(I:Inv X pins σ H s)(g:Dm H a y v H')(ry:RelV y u)(rv:RelV v r)(h:∀s',Inv X pins σ H' s'->Q () s') :
  AG (A0 X.prog X.w) A (setItem (.ref a) u r) Q E s:=by
 rcases g with⟨kvs,k,e,ey,l,eH⟩|⟨kvs,k,b,e,ey,eb,l,eH⟩
 ·subst ey eH;obtain⟨z,hd,vs,rel,dd⟩:=Am I.hok e;have hz:vs.length<=AL:=by rw[<- rel.length];exact z
  have hl:(putK kvs k v).length<=AL:=by have:=gP kvs k v;omega
  refine wpAny_setItem_pairs (hsz:=hz) (Ah ry) dd fun h' dd' hs=>h _ ?_;have he:∃q,h'.get? a=some q:=let ⟨q,_,_,hq,_⟩:=dd';⟨q,hq⟩;exact vO I (by rw[e];exact EH) hs he (yt hl hd (rel.put k rv) dd')
 subst ey eH;cases (show u=An.ref b from ry);obtain⟨z,hd,xs,rel,dd⟩:=aaJ I.hok e;have hz:xs.length<=AL:=by rw[<- Kb rel];exact z
 have hl:(putK kvs k v).length<=AL:=by have:=gP kvs k v;omega
 refine wpAny_setItem_heap (hsz:=hz) (tupleKind_room_in1 hu) (Im I.hok eb) dd fun h' dd' hs=>h _ ?_;obtain⟨q,es,ep,hq,h2,h3,h4,_,h5⟩:=dd';refine vO I (by rw[e];exact EH) hs ⟨q,hq⟩ ⟨hl,hd,_,(rel.put k eb rv).keeps fun c ys ec=>?_,q,es,ep,hq,h2,h3,h4,h5⟩;rw[aM (aaC ec e (fun z=>nomatch z))];exact ec
end
noncomputable def ZQ (i:Expr):Prop:=∀ov iv,subscripted i false ov iv=operate [ov,iv] (JE ov iv)
theorem T9 {prog:AV}{w:A6}{A:A7}{E:An->AC->Prop}{s:AC}{env:Env}{value slice:Expr}{pos:Pos}{T id:String}{Q:An->AC->Prop}
  (hl:Ic (.type T) "__getitem__" = pure (some (.builtin id))) (hs:ZQ slice)
  (h:AG (A0 prog w) A (eval value env) (fun o s₁=>AG (A0 prog w) A (eval slice env) (fun i s₂=>s₂.TypeIs o T/\AG (A0 prog w) A (JE o i) Q E s₂) E s₁) E s) :
  AG (A0 prog w) A (eval (.Subscript value slice pos) env) Q E s:=by
 refine Subscript_ (DV h (fun o s₁ h₁=>DV h₁ (fun i s₂ h₂=>?_) fun _ _ x=>x) fun _ _ x=>x);obtain⟨hT,h₂⟩:=h₂;unfold subscriptTail;refine Ap ?_;rw[getitemInPython_of_ne hT.not_modules];refine Ap (wpAny_specialOf hT hl ?_);have fin:AG (A0 prog w) A (subscripted slice false o i) (fun r s₃=>AG (A0 prog w) A (letTemporaryGo value o r >>= fun _=>pure r) Q E s₃) E s₂:=by
  rw[hs o i];exact wpAny_operating (DV h₂ (fun r s₃ h₃=>Ap (wpAny_letTemporaryGo (Au h₃))) fun _ _ x=>x)
 first
  | exact Au (Ap fin)
  | exact Ap (Au (Ap fin))
  | exact Ap fin
theorem Gh {X:Cx}{pins:List (Addr×Obj)}{σ:St}{H:Hp}{s:AC}{a:Addr}{y:V}{o:Option V}(I:Inv X pins σ H s) (g:uG H a y o):s.TypeIs (.ref a) "dict" := by
 rcases g with⟨kvs,k,e,_,_⟩|⟨kvs,k,b,e,_,_,_⟩
 ·obtain⟨_,_,vs,_,dd⟩:=Gg I.hok e;exact dd.typeIs
 obtain⟨_,_,xs,_,dd⟩:=KC I.hok e;exact dd.typeIs
noncomputable def Z0 (td ty:TE):TE:=fun σ H Q=>td σ H fun x H1=>ty σ H1 fun y H2=>∃a v,x=.ref a/\uG H2 a y (some v)/\Q v H2
noncomputable def Z6 (td ty tv:TE):TS:=fun D σ H=>tv σ H fun v H1=>td σ H1 fun x H2=>ty σ H2 fun y H3=>∃a H4,x=.ref a/\Dm H3 a y v H4/\D.nx σ H4
noncomputable def Z7 (td ty tv:TE)(rd:V->V->Hp->VK->Prop):TS:=fun D σ H=>td σ H fun x H1=>ty σ H1 fun y H2=>∃a v,x=.ref a/\uG H2 a y (some v) /\
 tv σ H2 fun y2 H3=>rd v y2 H3 fun z H4=>∃H5,Dm H4 a y z H5/\D.nx σ H5
section
variable {X:Cx}{o i e value:Expr}{pos pos' tpos:Pos}{td ty tv:TE}
theorem VF (hu:X.A.units+1<Ff)(ho:PE X o td)(hi:PE X i ty)(hs:ZQ i):PE X (.Subscript o i pos) (Z0 td ty):=by
 intro pins s σ H Q I h;refine T9 PySem.F.slot_dict_getitem.lookup hs (thE (ho pins s σ H _ I h) fun u s1 x H1 I1 rx q1=>thn (hi pins s1 σ H1 _ I1 q1) fun iv s2 ⟨y,H2,I2,ry,a,v,ex,g,q2⟩=>?_);subst ex;obtain rfl:u=An.ref a:=rx;exact⟨Gh I2 g,Aq hu I2 g ry fun w' s3 I3 rw'=>⟨v,H2,I3,rw',q2⟩⟩
theorem Vg (hu:X.A.units+1<Ff)(ho:PE X o td)(hi:PE X i ty)(hv:PE X value tv)(hs:HP value (some (.Subscript o i pos')) pos.line X.env=pure false) :
  PS X (.Assign [.Subscript o i pos'] value pos) (Z6 td ty tv):=by
 intro pins s σ H D I h;refine wpAny_Assign_Subscript (thE (hv pins s σ H _ I h) fun r s1 v H1 I1 rv q1=>thE (ho pins s1 σ H1 _ I1 q1) fun u s2 x H2 I2 rx q2=>thn (hi pins s2 σ H2 _ I2 q2) fun iv s3 ⟨y,H3,I3,ry,a,H4,ex,g,q3⟩=>?_) hs;subst ex;obtain rfl:u=An.ref a:=rx;exact Ao hu I3 g ry rv fun s4 I4=>⟨σ,H4,I4,q3⟩
theorem Vh {op:Operator}{rd:V->V->Hp->VK->Prop}(hu:X.A.units+1<Ff)(ho:PE X o td)(hi:PE X i ty)(hv:PE X value tv)(hop:aaN X op rd)
  (ha:∀ov iv new,augStore i ov iv new=(do DJ [new,ov,iv] (setItem ov iv new);release [new,ov,iv] [];pure .next)):PS X (.AugAssign (.Subscript o i tpos) op value pos) (Z7 td ty tv rd):=by
 intro pins s σ H D I h;refine wpAny_AugAssign_SubscriptAny (thE (ho pins s σ H _ I h) fun u s1 x H1 I1 rx q1=>thn (hi pins s1 σ H1 _ I1 q1) fun iv s2 ⟨y,H2,I2,ry,a,v,ex,g,q2⟩=>?_) ha;subst ex;obtain rfl:u=An.ref a:=rx;refine Aq hu I2 g ry fun w' s3 I3 rw'=>thE (hv pins s3 σ H2 _ I3 q2) fun w2 s4 y2 H3 I4 ry2 q3=>thn (hop pins s4 σ H3 v y2 w' w2 _ I4 rw' ry2 q3) fun w3 s5 ⟨z,H4,I5,rz,H5,g5,q4⟩=>?_;exact Ao hu I5 g5 ry rz fun s6 I6=>⟨σ,H5,I6,q4⟩
end
theorem su {P:AV}{w:A6}{H:Hp}(h:Heap) (hb:C6<h.objs.size):dR P w H (h.push { cls:=.type "dict",data:=.dict #[] }) h.objs.size (.dK []):=
 ⟨EI _,beq_eq_false_iff_ne.mpr (BN (B1 hb)),[],.nil,Heap.DictOf.new h⟩
noncomputable def vY:TE:=fun _ H Q=>∀p,H p=none->Q (.ref p) (upd H p (.dK []))
section
variable {X:Cx}{pos:Pos}
theorem QX:PE X (.Dict [] [] pos) vY:=fun pins s σ H Q I h=>
 wpAny_Dict_empty ⟨.ref s.heap.objs.size,_,I.laid (a:=s.heap.objs.size) (o:=.dK []) (t':=s.toks) (fun _ _ q=>AB _ q) (A1 _) (su s.heap I.big),rfl,h _ (I.hok.fresh (A1 _))⟩
end
noncomputable def vW:List (TE×TE)->St->Hp->(List (V×V)->Hp->Prop)->Prop
 | [],_,H,Q=>Q [] H
 | (tk,tv)::r,σ,H,Q=>tk σ H fun x H1=>tv σ H1 fun y H2=>vW r σ H2 fun ps H3=>Q ((x,y)::ps) H3
noncomputable abbrev VV:List (V×V)->List (An×An)->Prop:=Paired fun p q=>RelV p.1 q.1/\RelV p.2 q.2
noncomputable def PPs (X:Cx)(pos:Pos)(keys:List (Option Expr))(values:List Expr)(trs:List (TE×TE)):Prop:=
 ∀(pins:List (Addr×Obj)) (s:AC) (σ:St) (H:Hp) (Q:List (V×V)->Hp->Prop),Inv X pins σ H s->vW trs σ H Q ->
  AG (A0 X.prog X.w) X.A (evalPairs (pairTrees keys values X.env pos)) (fun vs s'=>∃ps H',Inv X pins σ H' s'/\VV ps vs/\Q ps H') X.xe s
theorem Vi {X:Cx}{pos:Pos}:PPs X pos [] [] []:=fun pins s σ H Q I h=>pairTrees_nil_walk ⟨[],H,I,.nil,h⟩
theorem Qy {X:Cx}{pos:Pos}{k v:Expr}{ks:List (Option Expr)}{vs:List Expr}{tk tv:TE}{trs:List (TE×TE)}(hk:PE X k tk)(hv:PE X v tv)(hr:PPs X pos ks vs trs) :
  PPs X pos (some k::ks) (v::vs) ((tk,tv)::trs):=fun pins s σ H Q I h=>
 pairTrees_cons_walk (thE (hk pins s σ H _ I h) fun u s1 x H1 I1 rx q1=>thE (hv pins s1 σ H1 _ I1 q1) fun w2 s2 y H2 I2 ry q2=>
  thn (hr pins s2 σ H2 _ I2 q2) fun ws s3 ⟨ps,H3,I3,rel,q3⟩=>⟨(x,y)::ps,H3,I3,.cons ⟨rx,ry⟩ rel,q3⟩)
noncomputable def fB (kvs more:List (Key×V)):List (Key×V):=more.foldl (fun acc kv=>putK acc kv.1 kv.2) kvs
theorem KV.merge:∀{more:List (Key×V)}{rs:List (Key×An)}{kvs:List (Key×V)}{vs:List (Key×An)},KV more rs->KV kvs vs->KV (fB kvs more) (merged vs rs):=by
 intro more rs kvs vs r;unfold KV at r
 induction r generalizing kvs vs with
 | nil=>intro q;exact q
 | @cons p q ps qs h t ih=>
  intro r0;have e:KV (putK kvs p.1 p.2) (HL vs q.1 q.2):=by
   have:=r0.put p.1 h.2;rw[<- h.1];exact this
  exact ih e
theorem gw:∀(more kvs:List (Key×V)),(fB kvs more).length<=kvs.length+more.length
 | [],kvs=>by show kvs.length<=kvs.length+0;omega
 | p::r,kvs=>by
  have h1:=gw r (putK kvs p.1 p.2);have h2:=gP kvs p.1 p.2;show(fB (putK kvs p.1 p.2) r).length<=_;rw[B6];omega
theorem yx {P:AV}{w:A6}:∀{kvs:List (Key×V)}{ws:List (An×An)},VV (kvs.map fun kv=>(kV kv.1,kv.2)) ws->∃rs,Carries (aR P w) ws rs/\KV kvs rs
 | [],_,r=>by rw[JI] at r;cases r;exact⟨[],EH,.nil⟩
 | p::kvs,_,r=>by
  rw[D2] at r;cases r with
  | @cons a b as bs h t=>
   obtain⟨rs,c,q⟩:=yx (P:=P) (w:=w) t;obtain⟨b1,b2⟩:=b;exact⟨(p.1,b2)::rs,⟨Ah h.1,rfl,c⟩,.cons ⟨rfl,h.2⟩ q⟩
noncomputable def O5 (trs:List (TE×TE)):TE:=fun σ H Q=>∀p,H p=none->vW trs σ (upd H p (.dK [])) fun ps H2=>H2 p=some (.dK [])/\∃kvs:List (Key×V),ps=kvs.map (fun kv=>(kV kv.1,kv.2))/\kvs.length<=15/\Q (.ref p) (upd H2 p (.dK (fB [] kvs)))
theorem VD {X:Cx}{pos:Pos}{keys:List (Option Expr)}{values:List Expr}{trs:List (TE×TE)}(h:PPs X pos keys values trs)(hall:keys.all (·.isSome)=true)(hl:keys.length=values.length)(h0:keys≠[])
  (h15:keys.length<=15):PE X (.Dict keys values pos) (O5 trs):=by
 intro pins s σ H Q I q;have hn:=I.hok.fresh (A1 s.heap.objs.size);have I1:=I.laid (a:=s.heap.objs.size) (o:=.dK []) (h':=s.heap.push { cls:=.type "dict",data:=.dict #[] }) (t':=s.toks) (fun _ _ q=>AB _ q) (A1 _) (su s.heap I.big);refine wpAny_Dict_walk (knd:=aR X.prog X.w) hall hl h0 h15 (thn (h pins _ σ _ _ I1 (q _ hn)) fun ws s2 ⟨ps,H2,I2,rel,e,kvs,ep,lk,q2⟩=>?_);subst ep;obtain⟨rs,c,rk⟩:=yx (P:=X.prog) (w:=X.w) rel;obtain⟨z,hd,vs0,r0,dd⟩:=Am I2.hok e;cases r0;refine⟨rs,c,dd,fun h' dd' hs=>⟨.ref s.heap.objs.size,_,?_,rfl,q2⟩⟩;have hz:(fB [] kvs).length<=AL:=by
  have h1:=gw kvs [];rw[Fs] at h1;rw[IJ];omega
 have he:∃q,h'.get? s.heap.objs.size=some q:=let ⟨q,_,_,hq,_⟩:=dd';⟨q,hq⟩;exact vO I2 (by rw[e];exact EH) hs he (yt hz hd (rk.merge .nil) dd')
structure M1 (X:Cx)(o:Expr)(m:Str)(apos:Pos)(e:Expr)(cpos:Pos):Prop where
 base:CD o m X.env (eval o X.env)=eval o X.env
 few:((Ct cpos (AH [e] X.env)).all (fun x=>!x.1)&&(F0 cpos (EF [] X.env)).all (fun x=>x.1.isSome)
  && decide (([e]:List Expr).length+([]:List DM).length+(if ([]:List DM).isEmpty then 0 else 1)<30))=true
 line:(apos.endLine == cpos.line)=true
 trees:Ct cpos (AH [e] X.env)=[(false,eval e X.env)]
noncomputable def IsD (H:Hp)(a:Addr):Prop:=(∃kvs,Rd H a (.dK kvs))\/∃kvs,Rd H a (.dT kvs)
theorem Zr {X:Cx}{pins:List (Addr×Obj)}{σ:St}{H:Hp}{s:AC}{a:Addr}(I:Inv X pins σ H s)(d:IsD H a) :
  s.TypeIs (.ref a) "dict" /\ (∀b,An.ref a=.ref b->∃ob,s.heap.get? b=some ob/\ob.dict=none)/\(a == C6)=false:=by
 rcases d with⟨kvs,e⟩|⟨kvs,e⟩
 ·obtain⟨_,hd,vs,_,dd⟩:=Gg I.hok e;refine⟨dd.typeIs,fun b q=>?_,hd⟩;cases q;obtain⟨ob,_,_,h1,h2,_⟩:=dd;exact⟨ob,h1,h2.2.1⟩
 obtain⟨_,hd,xs,_,dd⟩:=KC I.hok e;refine⟨dd.typeIs,fun b q=>?_,hd⟩;cases q;obtain⟨ob,_,_,h1,h2,_⟩:=dd;exact⟨ob,h1,h2.2.1⟩
theorem iM.GQ {k:Nat}{A:A7}(r:iM k A):A.units+1<Ff:=by have:=r.un;omega
theorem iM.un1 {k:Nat}{A:A7}(r:iM k A):A.in1.units<Ff:=by
 have:=r.un;show A.units+1<Ff;omega
section
variable {X:Cx}{pos:Pos}
structure QPs (X:Cx)(pos:Pos)(keys:List (Option Expr))(values:List Expr)(trs:List (TE×TE)):Prop where
 h:PPs X pos keys values trs
theorem UL:QPs X pos [] [] []:=⟨Vi⟩
theorem Qq {k v:Expr}{ks:List (Option Expr)}{vs:List Expr}{tk tv:TE}{trs:List (TE×TE)}(hk:QE X k tk)(hv:QE X v tv)(hr:QPs X pos ks vs trs):QPs X pos (some k::ks) (v::vs) ((tk,tv)::trs):=⟨Qy hk.h hv.h hr.h⟩
theorem U5 {keys:List (Option Expr)}{values:List Expr}{trs:List (TE×TE)}(h:QPs X pos keys values trs)(hall:keys.all (·.isSome)=true)(hl:keys.length=values.length)(h0:keys≠[])(h15:Nat.ble keys.length 15=true):QE X (.Dict keys values pos) (O5 trs):=⟨VD h.h hall hl h0 (Nat.le_of_ble_eq_true h15)⟩
noncomputable def aaV:R2:=fun x y H Q=>∃(p:Addr)(ws:List Str)(d:A3)(ok:Addr->Prop),y=.ref p/\H p=some (.tup (ws.map V.str))/\aH ok H x d/\Q (.bl (ws.any (dh d))) H
theorem YQ (hu:X.A.in1.units<Ff):OpR X (Cn .In) aaV:=by
 intro pins s σ H x y v u Q I rx ry h;obtain⟨p,ws,d,ok,rfl,e,t,q⟩:=h;cases ry;obtain⟨its,r,pl,hz⟩:=I.tuple (SqT.of e);have key:∀u∈its,∃y t,u=An.str y t:=fun u hu=>by
  obtain⟨j,hj,ej⟩:=CU.mp hu;have hl:=r.length;have hx:(ws.map V.str)[j]?=some (ws.map V.str)[j]:=AD ω;obtain⟨u',hu',ru⟩:=r.get hx;rw[AD hj,ej] at hu';cases hu';rw[List.getElem_map] at ru;obtain⟨t,e⟩:=ru;exact⟨_,t,e⟩
 let g:An->Bool:=fun u=>match u with | .str y _=>dh d y|_=>false
 refine SeqAt.in_tupleAt g pl (fun w hw=>?_) ⟨.bl _,H,I,rfl,?_⟩
 ·obtain⟨y,t',rfl⟩:=key w (by simpa using hw);cases t with
  | non=>cases rx;exact BF.str_none y t'
  | bl b=>cases rx;exact BF.str_bool y t' b
  | int i=>obtain⟨t2,rfl⟩:=rx;exact BF.str_int y t' i t2
  | str z=>
   obtain⟨t2,rfl⟩:=rx;have h2:=BF.str_str (A:=X.A.in1) (s:=s) y t' z t2;have e3:(y == z)=dh (.str z) y:=by
    show(y == z)=decide (z=y);rw[Bool.beq_eq_decide_eq];exact decide_eq_decide.mpr ⟨Eq.symm,Eq.symm⟩
   rw[e3] at h2;exact h2
  | lst o e1 z1 ts=>
   cases rx;obtain⟨its1,r1,pl1,hz1⟩:=I.list (SqL.of e1);exact BF.str_list y t' pl1.isList hu
  | tup o e1 z1 ts=>
   cases rx;obtain⟨its1,r1,pl1,hz1⟩:=I.tuple (SqT.of e1);exact BF.str_tuple y t' pl1 hu
 have:∀(ws:List Str)(its:List An),Vals (ws.map V.str) its->its.any g=ws.any (dh d):=by
  intro ws
  induction ws with
  | nil=>intro its r;cases r;rfl
  | cons a ws ih=>
   intro its r;cases r with
   | cons r1 r2=>
    obtain⟨t1,rfl⟩:=r1;rw[G0,G0,ih _ r2]
 rw[show its.toArray.any g=its.any g by simp,this ws its r];exact q
end
theorem aG.ints {ok:Addr->Prop}{H:Hp}:∀{xs:List V}{is:List Int},aG ok H xs (is.map A3.int)->xs=is.map V.int
 | _,[],.nil=>rfl
 | _,i::is,.cons h r=>by
  cases h;rw[r.ints];rfl
theorem jA {d:A3}{z:Str}(h:dh d z=true):d=.str z:=by
 cases d with
 | str w=>
  have:w=z:=of_decide_eq_true (show decide (w=z)=true from h);rw[this]
 | _=>exact absurd h AZ
theorem Et:(("is" : Str) = "below")=False:=eq_false ψ
theorem HW:(("is" : Str) = "mask")=False:=eq_false ψ
theorem HS:(("is" : Str) = "pick")=False:=eq_false ψ
theorem Es:(("is" : Str) = "table")=False:=eq_false ψ
theorem uZ:(("within" : Str) = "below")=False:=eq_false ψ
theorem wM:(("within" : Str) = "mask")=False:=eq_false ψ
theorem wL:(("within" : Str) = "pick")=False:=eq_false ψ
theorem uY:(("within" : Str) = "table")=False:=eq_false ψ
theorem zb:(("below" : Str) = "pick")=False:=eq_false ψ
theorem wO:(("below" : Str) = "table")=False:=eq_false ψ
theorem yZ:(("mask" : Str) = "below")=False:=eq_false ψ
theorem BX:(("mask" : Str) = "pick")=False:=eq_false ψ
theorem yX:(("mask" : Str) = "table")=False:=eq_false ψ
theorem yW:(("pick" : Str) = "below")=False:=eq_false ψ
theorem BW:(("pick" : Str) = "mask")=False:=eq_false ψ
theorem wN:(("table" : Str) = "below")=False:=eq_false ψ
theorem yV:(("table" : Str) = "mask")=False:=eq_false ψ
theorem yU:(("table" : Str) = "pick")=False:=eq_false ψ
noncomputable def rdW:=AA @Et (AA @HW (AA @HS (AA @Es (AA @uZ (AA @wM (AA @wL (AA @uY (AA @zb (AA @wO (AA @yZ (AA @BX (AA @yX (AA @yW (AA @BW (AA @wN (AA @yV @yU))))))))))))))))
theorem lg {H:Hp}{l p:Addr}{o:HO}(h:upd H l o p=none):H p=none/\p≠l:=by
 have hp:p≠l:=fun z=>by rw[z,aq] at h;cases h
 rw[aM hp] at h;exact⟨h,hp⟩
theorem Same.none {H H':Hp}(s:Same H H'){p:Addr}(h:H' p=none):H p=none:=by
 cases e:H p with
 | none=>rfl
 | some o=>rw[s _ _ e] at h;cases h
mutual
noncomputable def szB:A3->Bool
 | .none=>true
 | .bool _=>true
 | .int i=>decide (i.natAbs<=10^20)
 | .str x=>decide (x.length<=30)&&x.cps.toList.all fun c=>decide (c<16^8)
 | .list ds=>decide (ds.length<=210)&&XF ds
 | .tuple ds=>decide (ds.length<=210)&&XF ds
 | .dict _=>false
noncomputable def XF:List A3->Bool
 | []=>true
 | d::ds=>szB d&&XF ds
end
noncomputable def tz1 (h:Heap) (l1:Addr):Heap:=h.push { cls:=An.type "tuple_iterator",data:=EN #[An.ref l1,An.int 0 0] }
noncomputable def tz2 (h:Heap) (l1 l2:Addr):Heap:=(tz1 h l1).push { cls:=An.type "tuple_iterator",data:=EN #[An.ref l2,An.int 0 0] }
noncomputable def tz3 (h:Heap) (l1 l2:Addr):Heap:=(tz2 h l1 l2).push { cls:=An.type "tuple",data:=ED #[An.ref h.objs.size,An.ref (tz1 h l1).objs.size] }
noncomputable def tz4 (h:Heap) (l1 l2:Addr):Heap:=(tz3 h l1 l2).push { cls:=An.type "tuple",data:=ED #[An.none,An.none] }
noncomputable def tz5 (h:Heap) (l1 l2:Addr):Heap:=(tz4 h l1 l2).push { cls:=An.type "zip",data:=EN #[An.none,An.bool false,An.bool false,An.ref (tz2 h l1 l2).objs.size,An.ref (tz3 h l1 l2).objs.size] }
theorem Ob (l1 l2:Addr) (xs ys:Array An):Meets (AI.«zip.__new__» { pos:=[An.type "zip",An.ref l1,An.ref l2] }) fun _ R s=>
  s.heap.IsTuple l1 xs/\s.heap.IsTuple l2 ys/\R (.ok (.ret (.ref (tz4 s.heap l1 l2).objs.size))) { s with heap:=tz5 s.heap l1 l2 }:=by
 refine IR fun prog w A R s h=>?_;obtain⟨ht1,ht2,hR⟩:=h;unfold AI.«zip.__new__» AI.SmallTypes.newClass;refine Ap (Ap (Au (AY rfl (Ap (C9 sub_zip (AY rfl (Au ?_)))))));show AG _ _ (AI.SmallTypes.iterAll [An.ref l1,An.ref l2] >>= _) _ _ _;refine Ap ?_;unfold AI.SmallTypes.iterAll;refine Ap ?_;rw[EU];refine Ap (Ap (BE (EW ht1 (Au ?_))));show AG _ _ (forIn [An.ref l2] #[An.ref s.heap.objs.size] _) _ _ _;rw[EU];have ht2':(tz1 s.heap l1).IsTuple l2 ys:=by
  obtain⟨o,e,r⟩:=ht2;exact⟨o,AB _ e,r⟩
 refine Ap (Ap (BE (EW (s:={ s with heap:=tz1 s.heap l1 }) ht2' (Au ?_))));show AG _ _ (forIn [] #[An.ref s.heap.objs.size,An.ref (tz1 s.heap l1).objs.size] _) _ _ _;rw[forIn_nil];refine Au (Au ?_);show AG _ _ (IT [An.ref s.heap.objs.size,An.ref (tz1 s.heap l1).objs.size] >>= _) _ _ { s with heap:=tz2 s.heap l1 l2 };refine Ap (Fu ?_ (by show 2<=AL;decide));show AG _ _ (IT [An.none,An.none] >>= _) _ _ { s with heap:=tz3 s.heap l1 l2 };refine Ap (Fu ?_ (by show 2<=AL;decide));show AG _ _ (newObj (.type "zip") (.fields #[.none,.bool false,.bool false,.ref (tz2 s.heap l1 l2).objs.size,.ref (tz3 s.heap l1 l2).objs.size]) >>= fun r=>ret r) _ _ { s with heap:=tz4 s.heap l1 l2 };refine Ap (BG ?_);exact Au ⟨_,rfl,hR⟩
theorem Gk {prog:AV}{w:A6}{A:A7}{E:An->AC->Prop}{s:AC}{l1 l2:Addr}{xs ys:Array An}{Q:An->AC->Prop}(hl1:s.heap.IsTuple l1 xs)(hl2:s.heap.IsTuple l2 ys)
  (h:∀h':Heap,IsZip h' (s.heap.objs.size+4) (s.heap.objs.size+2) (s.heap.objs.size+3) An.none->DI h' (s.heap.objs.size+2) (An.ref s.heap.objs.size) (An.ref (s.heap.objs.size+1))->DI h' (s.heap.objs.size+3) An.none An.none->h'.IsTupleIter s.heap.objs.size l1 0->h'.IsTupleIter (s.heap.objs.size+1) l2 0 ->
   h'.objs.size=s.heap.objs.size+5->(∀c o,s.heap.get? c=some o->h'.get? c=some o)->Q (An.ref (s.heap.objs.size+4)) { s with heap:=h' }):AG (A0 prog w) A (call (An.type "zip") [An.ref l1,An.ref l2]) Q E s:=by
 refine callType_new F.called_zip δ (F.typeCall_zip_2 _ _) (F.newCall_zip_2 _ _) (fun obj=>F.args_object_init_3 obj _ _) F.entry_zip_new (Ob l1 l2 xs ys) ⟨hl1,hl2,?_⟩;have z1:(tz1 s.heap l1).objs.size=s.heap.objs.size+1:=B8 ..;have z2:(tz2 s.heap l1 l2).objs.size=s.heap.objs.size+2:=(B8 ..).trans (by rw[z1]);have z3:(tz3 s.heap l1 l2).objs.size=s.heap.objs.size+3:=(B8 ..).trans (by rw[z2]);have z4:(tz4 s.heap l1 l2).objs.size=s.heap.objs.size+4:=(B8 ..).trans (by rw[z3]);have z5:(tz5 s.heap l1 l2).objs.size=s.heap.objs.size+5:=(B8 ..).trans (by rw[z4]);have g5:(tz5 s.heap l1 l2).get? (tz4 s.heap l1 l2).objs.size=_:=AQ _ rfl;have g4:(tz5 s.heap l1 l2).get? (tz3 s.heap l1 l2).objs.size=_:=AB _ (AQ _ rfl);have g3:(tz5 s.heap l1 l2).get? (tz2 s.heap l1 l2).objs.size=_:=AB _ (AB _ (AQ _ rfl));have g2:(tz5 s.heap l1 l2).get? (tz1 s.heap l1).objs.size=_:=AB _ (AB _ (AB _ (AQ _ rfl)));have g1:(tz5 s.heap l1 l2).get? s.heap.objs.size=_:=AB _ (AB _ (AB _ (AB _ (AQ _ rfl))));have hk:∀c o,s.heap.get? c=some o->(tz5 s.heap l1 l2).get? c=some o:=fun c o e=>AB _ (AB _ (AB _ (AB _ (AB _ e))));rw[z4,z2,z3] at g5;rw[z3] at g4;rw[z2,z1] at g3;rw[z1] at g2;rw[z4];generalize tz5 s.heap l1 l2=h' at z5 g5 g4 g3 g2 g1 hk;exact⟨⟨_,g5,rfl⟩,h h' g5 g3 g4 ⟨_,g1,rfl,rfl⟩ ⟨_,g2,rfl,rfl⟩ z5 hk⟩
inductive RowC where
 | one (n t:Int)
 | rng (a b t:Int)
 | low (n t:Int)
 | msk (lo wd bits t:Int)
 | tab (lo:Int) (gs:List Int)
 | pik (l:Int)
noncomputable def scV:A3->Option V
 | .int i=>some (.int i)
 | .str z=>some (.str z)
 | _=>none
theorem aH.sc {ok:Addr->Prop}{H:Hp}{x v:V}{d:A3}(t:aH ok H x d)(h:scV d=some v):x=v:=by
 cases t with
 | int i=>exact BO h
 | str z=>exact BO h
 | _=>cases h
theorem aG.sc {ok:Addr->Prop}{H:Hp}:∀{xs vs:List V}{ds:List A3},aG ok H xs ds->ds.map scV=vs.map some->xs=vs
 | _,[],_,.nil,_=>rfl
 | _,v::vs,_,.nil,h=>by cases h
 | _,[],_,.cons _ _,h=>by cases h
 | _,v::vs,_,.cons t ts,h=>by
  rw[D2,D2] at h;injection h with h1 h2;rw[t.sc h1,ts.sc h2]
theorem aG.uncons {ok:Addr->Prop}{H:Hp}{xs:List V}{d:A3}{ds:List A3}(t:aG ok H xs (d::ds)):∃x r,xs=x::r/\aH ok H x d/\aG ok H r ds:=by
 cases t with
 | cons h r=>exact⟨_,_,rfl,h,r⟩
theorem aH.tupOf {ok:Addr->Prop}{H:Hp}{x:V}{ds:List A3}(t:aH ok H x (.tuple ds)):∃p xs,x=.ref p/\H p=some (.tup xs)/\aG ok H xs ds:=by
 cases t with
 | tup o e z ts=>exact⟨_,_,rfl,e,ts⟩
theorem Mz (pre:List Int)(j:Int):atI ((pre++[j]).map V.int) (-1)=some (V.int j):=by
 unfold atI ixN;rw[if_neg δ,if_pos (by rw[AF,AK,BM];omega)];show((pre++[j]).map V.int)[_]?=_;rw[show(-1+(((pre++[j]).map V.int).length:Int)).toNat=pre.length by rw[AF,AK,BM];omega,AU,BU (A1 _),IU];rfl
section
variable {X:Cx}{e o:Expr}{te to:TE}{pos:Pos}
noncomputable def ppq (ob:Option HO)(l:Addr)(H:Hp)(Q:VK):Prop:=match ob with
 | some (.lst xs)=>∃y,xs[xs.length-1]?=some y/\Q y (upd H l (.lst xs.dropLast))
 | _=>False
noncomputable def ppK (x:V)(H:Hp)(Q:VK):Prop:=match x with
 | .ref l=>ppq (H l) l H Q
 | _=>False
noncomputable def Ox (to:TE):TE:=fun σ H Q=>to σ H fun x H1=>ppK x H1 Q
theorem Ow (to:TE)(σ:St)(H:Hp)(Q:VK):Ox to σ H Q=to σ H fun x H1=>ppK x H1 Q:=rfl
theorem Vk (l:Addr)(H:Hp)(Q:VK):ppK (.ref l) H Q=ppq (H l) l H Q:=rfl
theorem Vj (xs:List V)(l:Addr)(H:Hp)(Q:VK):ppq (some (.lst xs)) l H Q=∃y,xs[xs.length-1]?=some y/\Q y (upd H l (.lst xs.dropLast)):=rfl
theorem Vu {apos cpos:Pos}(ho:PE X o to) (hbase:CD o "pop" X.env (eval o X.env)=eval o X.env:=by rfl) (hline:(apos.endLine == cpos.line)=true:=by rfl) :
  PE X (.Call (.Attribute o "pop" apos) [] [] cpos) (Ox to):=by
 intro pins s σ H Q I h;refine wpAny_Call_method0_late hbase hline (thE (ho pins s σ H _ I h) fun v s1 x H1 I1 r1 q=>?_);cases x with
 | ref l=>
  replace q:ppq (H1 l) l H1 Q:=q;cases el:H1 l with
  | none=>rw[el] at q;exact q.elim
  | some ob=>
   cases ob with
   | lst xs=>
    rw[el] at q;obtain⟨y,hy,q⟩:=q;obtain⟨h1,h2⟩:=qd (T := "list") I1 r1 (.inl ⟨rfl,xs,SqL.of el⟩);exact⟨"list","list.pop",DS,PySem.F.slot_list_pop,PySem.F.type_list_pop,h1,h2,Cs rfl (PySem.evalArgs_none (Y9 pins s1 σ H1 (.ref l) [] v [] Q I1 r1 .nil ⟨l,xs,y,rfl,rfl,el,hy,q⟩))⟩
   | _=>rw[el] at q;exact q.elim
 | _=>exact q.elim
theorem U0 {apos cpos:Pos}(ho:QE X o to) (hbase:CD o "pop" X.env (eval o X.env)=eval o X.env:=by rfl) (hline:(apos.endLine == cpos.line)=true:=by rfl) :
  QE X (.Call (.Attribute o "pop" apos) [] [] cpos) (Ox to):=⟨Vu ho.h hbase hline⟩
noncomputable def ints1 (H:Hp)(p:Addr)(is:List Int):Prop:=H p=some (.lst (is.map V.int))\/H p=some (.tup (is.map V.int))
theorem gF {is:List Int}{its:List An}(r:Vals (is.map V.int) its)(i:Nat)(v:An)(h:its.toArray[i]?=some v):∃t,v=An.int (is.getD i 0) t:=by
 have hl:=r.length;rw[AF] at hl;have hi:i<its.length:=by
  rcases FK i its.length with z|z
  ·exact z
  rw[F5,FD z] at h;cases h
 have hx:(is.map V.int)[i]?=some (V.int (is.getD i 0)):=by
  rw[AU,AD ω,AN,AD ω];rfl
 obtain⟨u,hu,ru⟩:=r.get hx;rw[F5,hu] at h;cases h;exact ru
theorem pI (hc:X.calm=true):eV X (.builtin "min") (fun xs H Q=>∃p is,xs=[.ref p]/\ints1 H p is/\is≠[]/\∀M,M∈is->(∀a∈is,M<=a)->Q (.int M) H):=by
 intro pins s σ H xs us Q I r h;obtain⟨p,is,rfl,hp,hne,q⟩:=h;obtain⟨u,rfl,rv⟩:=vals1 r;cases rv;have hpos:0<is.length:=Ee.mpr hne;have fin:∀{its:List An}(rvs:Vals (is.map V.int) its) (v:An) (h':Heap) (tk:Nat),its.toArray[argBest (fun i j=>decide (is.getD i 0<is.getD j 0)) (its.toArray.size-1)]?=some v->Inv X pins σ H { s with heap:=h',toks:=tk }->EP X pins σ Q v { s with heap:=h',toks:=tk }:=fun {its} rvs v h' tk hv I3=>by
  have hl:=rvs.length;rw[AF] at hl;obtain⟨t,rfl⟩:=gF rvs _ v hv;have hb:=argBest_lt (fun i=>is.getD i 0) (its.toArray.size-1);rw[AR] at hb |-;refine⟨.int _,H,I3,⟨_,rfl⟩,q _ ?_ ?_⟩
  ·rw[AN,AD ω];exact FS _
  intro a ha;obtain⟨j,hj,e⟩:=CU.mp ha;have:=hb.2 j ω;rw[show is.getD j 0=a by rw[AN,AD hj];exact e] at this;exact this
 have kept:∀{ob:Obj}{h':Heap}{tk:Nat},(∀(b:Addr)(o:Obj),¬b∈[s.heap.objs.size]->(s.heap.push ob).get? b=some o->h'.get? b=some o)->Inv X pins σ H { s with heap:=h',toks:=tk }:=fun {ob h' tk} hk=>
  I.kept (t':=tk) fun b o e=>hk b o (fun z=>B1 (A4 e) (AM.mp z)) (AB _ e)
 rcases hp with hp|hp
 ·obtain⟨its,rvs,pl,hz⟩:=I.list (SqL.of hp);have hl:=rvs.length;rw[AF] at hl;have pl':s.heap.IsList p its.toArray:=pl.isList;have hlt:p<s.heap.objs.size:=by obtain⟨_,e,_⟩:=pl';exact A4 e
  refine call_min_walk (DL pl' ?_);refine⟨s.heap.objs.size,_,_,_,_,_,_,rfl,Walks.list (A:=X.A.in1) (I.ok.hd hc) s.heap.objs.size p (B1 hlt) its.toArray,?_,fun b hb=>?_,?_,CmpOf.ints_lt (fun i=>is.getD i 0) fun i v hv=>gF rvs i v hv,fun v h' tk hv hk=>fin rvs v h' tk hv (kept hk)⟩
  ·obtain⟨ob,e,r⟩:=pl';exact⟨⟨_,AQ _ rfl,rfl,rfl⟩,ob,AB _ e,r⟩
  ·rw[B8];simp only[Bi,B2,or_false] at hb;rcases hb with rfl|rfl
   ·exact C0 _
   exact CC hlt
  rw[AR];omega
 obtain⟨its,rvs,pl,hz⟩:=I.tuple (SqT.of hp);have hl:=rvs.length;rw[AF] at hl;have pl':s.heap.IsTuple p its.toArray:=pl;have hlt:p<s.heap.objs.size:=by obtain⟨_,e,_⟩:=pl';exact A4 e
 refine call_min_walk (EW pl' ?_);refine⟨s.heap.objs.size,_,_,_,_,_,_,rfl,Walks.tuple (A:=X.A.in1) (I.ok.hd hc) s.heap.objs.size p (B1 hlt) its.toArray,?_,fun b hb=>?_,?_,CmpOf.ints_lt (fun i=>is.getD i 0) fun i v hv=>gF rvs i v hv,fun v h' tk hv hk=>fin rvs v h' tk hv (kept hk)⟩
 ·obtain⟨ob,e,r⟩:=pl';exact⟨⟨_,AQ _ rfl,rfl,rfl⟩,ob,AB _ e,r⟩
 ·rw[B8];simp only[Bi,B2,or_false] at hb;rcases hb with rfl|rfl
  ·exact C0 _
  exact CC hlt
 rw[AR];omega
theorem Av (hc:X.calm=true):eV X (.builtin "max") (fun xs H Q=>∃p is,xs=[.ref p]/\ints1 H p is/\is≠[]/\∀M,M∈is->(∀a∈is,a<=M)->Q (.int M) H):=by
 intro pins s σ H xs us Q I r h;obtain⟨p,is,rfl,hp,hne,q⟩:=h;obtain⟨u,rfl,rv⟩:=vals1 r;cases rv;have hpos:0<is.length:=Ee.mpr hne;have fin:∀{its:List An}(rvs:Vals (is.map V.int) its) (v:An) (h':Heap) (tk:Nat),its.toArray[argBest (fun i j=>decide (is.getD i 0>is.getD j 0)) (its.toArray.size-1)]?=some v->Inv X pins σ H { s with heap:=h',toks:=tk }->EP X pins σ Q v { s with heap:=h',toks:=tk }:=fun {its} rvs v h' tk hv I3=>by
  have hl:=rvs.length;rw[AF] at hl;obtain⟨t,rfl⟩:=gF rvs _ v hv;have hb:=argBest_gt (fun i=>is.getD i 0) (its.toArray.size-1);rw[AR] at hb |-;refine⟨.int _,H,I3,⟨_,rfl⟩,q _ ?_ ?_⟩
  ·rw[AN,AD ω];exact FS _
  intro a ha;obtain⟨j,hj,e⟩:=CU.mp ha;have:=hb.2 j ω;rw[show is.getD j 0=a by rw[AN,AD hj];exact e] at this;exact this
 have kept:∀{ob:Obj}{h':Heap}{tk:Nat},(∀(b:Addr)(o:Obj),¬b∈[s.heap.objs.size]->(s.heap.push ob).get? b=some o->h'.get? b=some o)->Inv X pins σ H { s with heap:=h',toks:=tk }:=fun {ob h' tk} hk=>
  I.kept (t':=tk) fun b o e=>hk b o (fun z=>B1 (A4 e) (AM.mp z)) (AB _ e)
 rcases hp with hp|hp
 ·obtain⟨its,rvs,pl,hz⟩:=I.list (SqL.of hp);have hl:=rvs.length;rw[AF] at hl;have pl':s.heap.IsList p its.toArray:=pl.isList;have hlt:p<s.heap.objs.size:=by obtain⟨_,e,_⟩:=pl';exact A4 e
  refine call_max_walk (DL pl' ?_);refine⟨s.heap.objs.size,_,_,_,_,_,_,rfl,Walks.list (A:=X.A.in1) (I.ok.hd hc) s.heap.objs.size p (B1 hlt) its.toArray,?_,fun b hb=>?_,?_,CmpOf.ints_gt (fun i=>is.getD i 0) fun i v hv=>gF rvs i v hv,fun v h' tk hv hk=>fin rvs v h' tk hv (kept hk)⟩
  ·obtain⟨ob,e,r⟩:=pl';exact⟨⟨_,AQ _ rfl,rfl,rfl⟩,ob,AB _ e,r⟩
  ·rw[B8];simp only[Bi,B2,or_false] at hb;rcases hb with rfl|rfl
   ·exact C0 _
   exact CC hlt
  rw[AR];omega
 obtain⟨its,rvs,pl,hz⟩:=I.tuple (SqT.of hp);have hl:=rvs.length;rw[AF] at hl;have pl':s.heap.IsTuple p its.toArray:=pl;have hlt:p<s.heap.objs.size:=by obtain⟨_,e,_⟩:=pl';exact A4 e
 refine call_max_walk (EW pl' ?_);refine⟨s.heap.objs.size,_,_,_,_,_,_,rfl,Walks.tuple (A:=X.A.in1) (I.ok.hd hc) s.heap.objs.size p (B1 hlt) its.toArray,?_,fun b hb=>?_,?_,CmpOf.ints_gt (fun i=>is.getD i 0) fun i v hv=>gF rvs i v hv,fun v h' tk hv hk=>fin rvs v h' tk hv (kept hk)⟩
 ·obtain⟨ob,e,r⟩:=pl';exact⟨⟨_,AQ _ rfl,rfl,rfl⟩,ob,AB _ e,r⟩
 ·rw[B8];simp only[Bi,B2,or_false] at hb;rcases hb with rfl|rfl
  ·exact C0 _
  exact CC hlt
 rw[AR];omega
noncomputable def G6 (ta:TA):TE:=fun σ H Q=>ta σ H fun vs H1=>∃j:Int,vs=[.int j]/\(-(2^62)<=j/\j<2^62)/\(j-0).toNat<=AL/\∀p,H1 p=none->Q (.ref p) (upd H1 p (.lst (Bu 0 (j-0).toNat)))
theorem QM {a:Expr}{ta:TA}{p p2 pos pos2:Pos}(hc:X.calm=true) (hgl:Gl X "list") (hml:X.mg "list" = none) (hg:Gl X "range") (hm:X.mg "range" = none) (ha:PA X [a] ta)
  (hs:AH [a] X.env=[(false,eval a X.env)]:=by rfl)
  (he:AH [.Call (.Name "range" p2) [a] [] pos2] X.env=[(false,eval (.Call (.Name "range" p2) [a] [] pos2) X.env)]:=by rfl) :
  PE X (.Call (.Name "list" p) [.Call (.Name "range" p2) [a] [] pos2] [] pos) (G6 ta):=by
 intro pins s σ H Q I h;refine ET (ji I hgl hml boot_list ?_ δ δ);refine B0 ?_ he rfl;rw[he];show AG _ _ (spliced ((false,eval (.Call (.Name "range" p2) [a] [] pos2) X.env)::[])) _ _ s;refine Co ?_;refine Call_ (ji I hg hm boot_range (B0 (thA (ha pos2 pins s σ H _ I h) fun us s1 vs H1 I1 r1 q1=>?_) hs rfl));obtain⟨j,e,⟨q3,q4⟩,hz,q⟩:=q1;have q1:(-(2^62):Int)<=0:=by decide
 have q2:(0:Int)<2^62:=by decide
 subst e;cases r1 with
 | cons r' rr=>
  cases rr;obtain⟨t',rfl⟩:=r';refine call_range_1 (Ch ?_);refine call_list_range (n:=(j-0).toNat) (I1.ok.hd hc) (IsRange.new ..) (small_one q1 q2 q3 q4) (by rw[rangeSize_one];split <;> omega) (Be hz Zg) fun h' tk acc' c' kp e it=>?_
  have I2:Inv X pins σ H1 { s1 with heap:=s1.heap.push { cls:=.type "range",data:=.fields #[.int 0 s1.toks,.int j t',.int 1 (s1.toks+1)] },toks:=s1.toks+1+1 }:=I1.kept fun b o e=>AB _ e;have hf:H1 (s1.heap.push { cls:=.type "range",data:=.fields #[.int 0 s1.toks,.int j t',.int 1 (s1.toks+1)] }).objs.size=none:=I2.hok.fresh (A1 _);refine⟨.ref _,_,I2.laid (t':=tk) kp (A1 _) (show dR X.prog X.w _ h' _ (.lst (Bu 0 (j-0).toNat)) from⟨?_,acc'.toList,c',?_,by simpa using e⟩),rfl,q _ hf⟩
  ·simpa [Bu] using hz
  obtain⟨it1,it2⟩:=it;refine Jy (by simp [Bu,it1]) fun k x u h1 h2=>?_;have h2':acc'[k]?=some u:=by simpa using h2
  obtain⟨t9,rfl⟩:=it2 k u h2';unfold Bu at h1;rw[AU] at h1;have hk:k<(j-0).toNat:=by
   rcases FK k (j-0).toNat with z|z
   ·exact z
   rw[FD (by simpa using z)] at h1;cases h1
  rw[List.getElem?_range hk] at h1;cases h1;exact⟨t9,by rw[Int.mul_one]⟩
theorem Ek {a:Expr}{ta:TA}{p p2 pos pos2:Pos}(hc:X.calm=true) (hgl:Gl X "list") (hml:X.mg "list" = none) (hg:Gl X "range") (hm:X.mg "range" = none) (ha:QA X [a] ta)
  (hs:AH [a] X.env=[(false,eval a X.env)]:=by rfl)
  (he:AH [.Call (.Name "range" p2) [a] [] pos2] X.env=[(false,eval (.Call (.Name "range" p2) [a] [] pos2) X.env)]:=by rfl) :
  QE X (.Call (.Name "list" p) [.Call (.Name "range" p2) [a] [] pos2] [] pos) (G6 ta):=⟨QM hc hgl hml hg hm ha.h hs he⟩
noncomputable def vM (ws:List Str)(w:Str)(j:Nat):Prop:=ws[j]?=some w/\∀m,m<j->ws[m]?≠some w
end
theorem Bf (l:Addr)(items:Array An)(x:An)(e:An->Bool)(j:Nat)(hj:j<items.size)(h1:e items[j]=true)(h2:∀m (hm:m<items.size),m<j->e items[m]=false) :
  Meets (AI.«tuple.index» { pos:=[An.ref l,x] }) fun A R s=>s.heap.IsTuple l items/\(∀y,y∈items->BF A.in1 s y x (e y))/\R (.ok (.ret (.int j s.toks))) { s with toks:=s.toks+1 }:=by
 refine IR fun prog w A R s h=>?_;obtain⟨⟨o,ho,hc,n,hd⟩,heq,hR⟩:=h;unfold AI.«tuple.index» selfAndSome;refine Ap (Ap (C9 (a:=()) rfl ?_));refine Ap (C9 (a:=()) rfl (Au ?_));unfold AI.Tuple.tupleItemsOf;refine Ap (Ap (CM ho hd (Au ?_)));refine Ap (Au ?_);refine Ap (Au ?_);refine Ap ?_;rw[Std.Legacy.Range.forIn_eq_forIn_range'];have hsz:[:min items.size items.size].size=items.size:=by simp [Std.Legacy.Range.size]
 rw[hsz];refine wpAny_forIn_list _ (fun rest b s'=>b=(none,())/\s'=s/\∃i,rest=List.range' i (items.size-i)/\i<=j) _ ?_ ?_ _ _ ⟨rfl,rfl,0,rfl,EI _⟩
 ·rintro i rest b s' ⟨rfl,rfl,i0,hrest,hij⟩;obtain⟨k,hk⟩:∃k,items.size-i0=k+1:=⟨items.size-i0-1,ω⟩;rw[hk,List.range'_succ] at hrest;cases hrest;have hi:i<items.size:=ω;have he:items[i]?=some items[i]:=Array.getElem?_eq_getElem hi;simp only[he];refine Ap (heq _ (Array.getElem_mem hi) _ _ _ _ ?_);by_cases hj2:i=j
  ·subst hj2;rw[h1,if_pos rfl];refine Ap ?_;unfold retInt;refine Ap (wpAny_mkInt ?_);exact Au (Au (Au ⟨_,rfl,hR⟩))
  rw[h2 i hi ω,if_neg δ];exact Au ⟨rfl,rfl,i+1,by rw[show items.size-(i+1)=k by omega],ω⟩
 rintro b s' ⟨rfl,rfl,i,hrest,hij⟩;obtain⟨k,hk⟩:∃k,items.size-i=k+1:=⟨items.size-i-1,ω⟩;rw[hk,List.range'_succ] at hrest;cases hrest
section
variable {X:Cx}{e o:Expr}{te to:TE}{pos:Pos}
noncomputable def KTup (K:AE) (p:Addr) (xs:List V):Prop:=∃(o:Obj)(its:Array An)(n:Nat),K.lookup p=some o/\o.cls=.type "tuple" /\ o.dict=none/\o.data=.seq its n/\its.size<=AL/\Vals xs its.toList
theorem KTup.sq {K:AE}{p:Addr}{xs:List V}{H:Hp}(h:KTup K p xs):SqT K H p xs:=by
 obtain⟨o,its,n,h1,h2,_,h3,h4,h5⟩:=h;exact .inr ⟨o,its,n,h1,h2,h3,h4,h5⟩
noncomputable def SqB (b:Bool)(K:AE)(H:Hp)(p:Addr)(xs:List V):Prop:=match b with
 | true=>SqL K H p xs
 | false=>KTup K p xs
noncomputable def vX (K:AE)(to te:TE):TE:=fun σ H Q=>to σ H fun x H1=>∃(p:Addr)(ws:List Str)(b:Bool),x=.ref p/\SqB b K H1 p (ws.map V.str)/\te σ H1 fun y H2=>∃w j,y=.str w/\SqB b K H2 p (ws.map V.str)/\vM ws w j/\Q (.int (j:Nat)) H2
theorem lZ {ws:List Str}{its:List An}(r:Vals (ws.map V.str) its){i:Nat}{v:An}(h:its[i]?=some v):∃w t,ws[i]?=some w/\v=An.str w t:=by
 have hl:=r.length;rw[AF] at hl;have hi:=(AW.mp h).1;have hx:(ws.map V.str)[i]?=some (V.str ws[i]):=by rw[AU,AD ω];rfl
 obtain⟨u,hu,ru⟩:=r.get hx;rw[hu] at h;cases h;obtain⟨t,rfl⟩:=ru;exact⟨ws[i],t,AD ω,rfl⟩
theorem Vw {apos cpos:Pos}(hu:X.A.in1.units<Ff)(ho:PE X o to)(he:PE X e te)
  (hbase:CD o "index" X.env (eval o X.env)=eval o X.env:=by rfl)
  (hfew:((Ct cpos (AH [e] X.env)).all (fun x=>!x.1)&&(F0 cpos (EF [] X.env)).all (fun x=>x.1.isSome)
   && decide ([e].length+([]:List DM).length+(if ([]:List DM).isEmpty then 0 else 1)<30))=true:=by rfl)
  (hline:(apos.endLine == cpos.line)=true:=by rfl) (hs:AH [e] X.env=(false,eval e X.env)::AH [] X.env:=by rfl) (hplain:(Ct cpos (AH [] X.env)).any (·.1)=false:=by rfl) :
  PE X (.Call (.Attribute o "index" apos) [e] [] cpos) (vX X.K to te):=by
 intro pins s σ H Q I h;refine EV hbase hfew hline rfl (thE (ho pins s σ H _ I h) fun v s1 x H1 I1 r1 q=>?_);obtain⟨p,ws,b,rfl,hq,q⟩:=q;have key:∀{its:List An}{w:Str}{j:Nat}{u:An}{s2:AC},Vals (ws.map V.str) its->vM ws w j->RelV (.str w) u->∃(g:An->Bool)(hj:j<its.toArray.size),g its.toArray[j]=true/\(∀m (hm:m<its.toArray.size),m<j->g its.toArray[m]=false)/\∀y,y∈its.toArray->BF X.A.in1 s2 y u (g y):=fun {its w j u s2} rv hf ru=>by
  obtain⟨t,rfl⟩:=ru;have hl:=rv.length;rw[AF] at hl;have hj:j<its.length:=by have:=(AW.mp hf.1).1;omega
  refine⟨fun y=>match y with | .str z _=>z == w|_=>false,by simpa using hj,?_,fun m hm hmj=>?_,fun y hy=>?_⟩
  ·obtain⟨w',t',h1,h2⟩:=lZ rv (AD hj);rw[hf.1] at h1;cases h1;have:its.toArray[j]=An.str w t':=by simpa using h2
   rw[this];simp
  ·have hm':m<its.length:=by simpa using hm
   obtain⟨w',t',h1,h2⟩:=lZ rv (AD hm');have:its.toArray[m]=An.str w' t':=by simpa using h2
   rw[this];have hne:w'≠w:=fun z=>hf.2 m hmj (by rw[h1,z]);simpa using hne
  have hy':y∈its:=by simpa using hy
  obtain⟨m,hm,em⟩:=CU.mp hy';obtain⟨w',t',h1,h2⟩:=lZ rv (AD hm);rw[em] at h2;rw[h2];exact BF.str_str w' t' w t
 cases b with
 | true=>
  obtain⟨h1,h2⟩:=qd (T := "list") I1 r1 (.inl ⟨rfl,_,hq⟩);refine⟨"list","list.index",DS,PySem.F.slot_list_index,PySem.F.type_list_index,h1,h2,?_⟩;rw[hs];refine Cs (by show(false||(Ct cpos (AH [] X.env)).any (·.1))=false;rw[hplain] <;> rfl) (DH ?_)
  refine Co (thn (he pins s1 σ H1 _ I1 q) fun u s2 ⟨y,H2,I2,r2,w,j,ey,hq2,hf,q3⟩=>Ch ?_);subst ey;cases r1;obtain⟨its,rv,pl,hz⟩:=I2.list hq2;obtain⟨g,hj,g1,g2,g3⟩:=key (s2:=s2) rv hf r2;obtain⟨ob,n,eo,ec,ed,es⟩:=pl;cases ob with
  | mk cls dict data slots=>
   cases ec;cases es;have hj2:((j:Nat):Int)<2^63-1:=by
    rw[AR] at hj;have hl:=rv.length;have:=IJ;omega
   refine DZ F.slot_list_index ⟨_,eo,rfl⟩ F.entry_list_index (F.args_list_index_2 _ _) (SeqAt.list_indexAt p its.toArray n _ _ u g j hj hj2 g1 g2) ⟨eo,g3,?_⟩;exact⟨.int (j:Nat),H2,I2.tok _,⟨_,rfl⟩,q3⟩
 | false=>
  obtain⟨h1,h2⟩:=qd (T := "tuple") I1 r1 (.inr (.inl ⟨rfl,by obtain⟨o,_,_,k1,k2,k3,_⟩:=hq;exact⟨o,k1,k2,k3⟩⟩));refine⟨"tuple","tuple.index",PySem.F.plainAttrs_tuple,PySem.F.slot_tuple_index,PySem.F.type_tuple_index,h1,h2,?_⟩;rw[hs];refine Cs (by show(false||(Ct cpos (AH [] X.env)).any (·.1))=false;rw[hplain] <;> rfl) (DH ?_)
  refine Co (thn (he pins s1 σ H1 _ I1 q) fun u s2 ⟨y,H2,I2,r2,w,j,ey,hq2,hf,q3⟩=>Ch ?_);subst ey;cases r1;obtain⟨its,rv,pl,hz⟩:=I2.tuple (KTup.sq hq2);obtain⟨g,hj,g1,g2,g3⟩:=key (s2:=s2) rv hf r2;have pl':s2.heap.IsTuple p its.toArray:=pl;obtain⟨ob,eo,ec,n,ed⟩:=id pl';refine DZ F.slot_tuple_index ⟨_,eo,ec⟩ F.entry_tuple_index (F.args_tuple_index_2 _ _) (Bf p its.toArray u g j hj g1 g2) ⟨pl',g3,?_⟩;exact⟨.int (j:Nat),H2,I2.tok _,⟨_,rfl⟩,q3⟩
theorem BP {apos cpos:Pos}(hu:X.A.in1.units<Ff)(ho:QE X o to)(he:QE X e te)
  (hbase:CD o "index" X.env (eval o X.env)=eval o X.env:=by rfl)
  (hfew:((Ct cpos (AH [e] X.env)).all (fun x=>!x.1)&&(F0 cpos (EF [] X.env)).all (fun x=>x.1.isSome)
   && decide ([e].length+([]:List DM).length+(if ([]:List DM).isEmpty then 0 else 1)<30))=true:=by rfl)
  (hline:(apos.endLine == cpos.line)=true:=by rfl) (hs:AH [e] X.env=(false,eval e X.env)::AH [] X.env:=by rfl) (hplain:(Ct cpos (AH [] X.env)).any (·.1)=false:=by rfl) :
  QE X (.Call (.Attribute o "index" apos) [e] [] cpos) (vX X.K to te):=⟨Vw hu ho.h he.h hbase hfew hline hs hplain⟩
end
inductive Pl where
 | pick (l:Int)
 | one (k:Nat) (r:Pl)
 | wit (k:Nat) (r:Pl)
 | low (k:Nat) (a b:Pl)
 | msk (l:Int) (r:Pl)
 | tab
noncomputable def plD:Pl->A3
 | .pick l=>.tuple [.str "pick",.int l]
 | .one k r=>.tuple [.str "is",.int (k:Int),plD r]
 | .wit k r=>.tuple [.str "within",.int (k:Int),plD r]
 | .low k a b=>.tuple [.str "below",.int (k:Int),plD a,plD b]
 | .msk l r=>.tuple [.str "mask",.int l,plD r]
 | .tab=>.tuple [.str "table"]
noncomputable def rm:Pl->Nat
 | .pick _=>0
 | .one _ r=>rm r+1
 | .wit _ r=>rm r+1
 | .low _ a b=>max (rm a) (rm b)+1
 | .msk _ r=>rm r+1
 | .tab=>0
noncomputable def jJ:Pl->Nat
 | .pick _=>1
 | .one _ r=>jJ r+1
 | .wit _ r=>jJ r+1
 | .low _ a b=>jJ a+jJ b+1
 | .msk _ r=>jJ r+1
 | .tab=>1
noncomputable abbrev Sts:=List (Int×Int×Int)
noncomputable def bW (ss:Sts)(k:Nat):Int×Int×Int:=ss.getD k (0,0,0)
structure Lf (ss:Sts)(left:List Nat):Prop where
 ne:left≠[]
 lt:∀k∈left,k<ss.length
 up:left.Pairwise (· < ·)
noncomputable def kids (ss:Sts):Pl->List Nat->List (List Nat×Pl)
 | .pick _,_=>[]
 | .tab,_=>[]
 | .one k r,left=>[(left.filter (·≠k),r)]
 | .wit k r,left=>[(left.filter (·≠k),r)]
 | .low k a b,left=>[(left.filter (· < k),a),(left.filter (k<=·),b)]
 | .msk l r,left=>[(left.filter fun k=>(bW ss k).2.2≠l,r)]
noncomputable def Di (ss:Sts):Pl->List Nat->Prop
 | .pick _,left=>Lf ss left
 | .tab,left=>Lf ss left
 | .one k r,left=>Lf ss left/\Di ss r (left.filter (·≠k))
 | .wit k r,left=>Lf ss left/\Di ss r (left.filter (·≠k))
 | .low k a b,left=>Lf ss left/\Di ss a (left.filter (· < k))/\Di ss b (left.filter (k<=·))
 | .msk l r,left=>Lf ss left/\Di ss r (left.filter fun k=>(bW ss k).2.2≠l)
theorem Di.lf {ss:Sts}{p:Pl}{left:List Nat}(h:Di ss p left):Lf ss left:=by
 cases p with
 | pick l=>exact h
 | tab=>exact h
 | one k r=>exact h.1
 | wit k r=>exact h.1
 | low k a b=>exact h.1
 | msk l r=>exact h.1
noncomputable def v7 (ss:Sts)(f:List Nat->Pl->Int):Pl->List Nat->Int
 | .pick l,left=>f left (.pick l)
 | .tab,left=>f left .tab
 | .one k r,left=>f left (.one k r)+v7 ss f r (left.filter (·≠k))
 | .wit k r,left=>f left (.wit k r)+v7 ss f r (left.filter (·≠k))
 | .low k a b,left=>f left (.low k a b)+v7 ss f a (left.filter (· < k))+v7 ss f b (left.filter (k<=·))
 | .msk l r,left=>f left (.msk l r)+v7 ss f r (left.filter fun k=>(bW ss k).2.2≠l)
noncomputable def lJ (left:List Nat):A3:=.list (left.map fun(k:Nat)=>.int (k:Int))
noncomputable def bR (ss:Sts)(left:List Nat):Int:=(bW ss (left.getLast?.getD 0)).2.1-(bW ss (left.head?.getD 0)).1+1
noncomputable def lu:Sp:=fun vs H Q _=>∃(s l:V)(ok:Addr->Prop)(ss:Sts)(left:List Nat),vs=[s,l]/\aH ok H s (.list (ss.map stD))/\aH ok H l (lJ left)/\Lf ss left/\Q (.int (bR ss left)) H
theorem jq {k:Nat}:∀{left:List Nat},left.Pairwise (· < ·)->left.drop (left.filter (· < k)).length=left.filter (k<=·)
 | [],_=>rfl
 | a::left,h=>by
  rw[DD] at h;by_cases ha:a<k
  ·rw[EX (by simpa using ha),EZ (by simpa using ha),B6,List.drop_succ_cons];exact jq h.2
  have h1:left.filter (· < k)=[]:=F1.mpr fun b hb=>by have:=h.1 b hb;simp;omega
  have h2:left.filter (k<=·)=left:=JU.mpr fun b hb=>by have:=h.1 b hb;simp;omega
  rw[EZ (by simpa using ha),h1,EX (by simp;omega),h2];rfl
theorem Wh {ok:Addr->Prop}{H:Hp}(left:List Nat):aG ok H (left.map fun(k:Nat)=>V.int (k:Int)) (left.map fun(k:Nat)=>A3.int (k:Int)):=by
 induction left with
 | nil=>exact .nil
 | cons a l ih=>exact .cons (.int _) ih
theorem aG.nats {ok:Addr->Prop}{H:Hp}:∀{xs:List V}{left:List Nat},aG ok H xs (left.map fun(k:Nat)=>A3.int (k:Int))->xs=left.map fun(k:Nat)=>V.int (k:Int)
 | _,[],.nil=>rfl
 | _,a::l,.cons h r=>by
  cases h;rw[r.nats];rfl
theorem aH.left {ok:Addr->Prop}{H:Hp}{x:V}{left:List Nat}(t:aH ok H x (lJ left)):∃a,x=.ref a/\ok a/\H a=some (.lst (left.map fun(k:Nat)=>V.int (k:Int)))/\left.length<=1000000:=by
 cases t with
 | lst o e z ts=>
  rw[ts.nats] at e z;rw[AF] at z;exact⟨_,rfl,o,e,z⟩
theorem XH {ss:Sts}{k:Nat}(h:k<ss.length):ss[k]?=some (bW ss k):=by
 unfold bW;rw[AN,AD h];rfl
theorem aG.stN {ok:Addr->Prop}{H:Hp}{xs:List V}{ss:Sts}(t:aG ok H xs (ss.map stD)){k:Nat}(h:k<ss.length):∃a,atI xs (k:Int)=some (.ref a)/\H a=some (.tup [.int (bW ss k).1,.int (bW ss k).2.1,.int (bW ss k).2.2]):=by
 have hl:=t.length;rw[AF] at hl;have hx:xs[k]?=some xs[k]:=AD ω;obtain⟨a,s,h1,_,h2,h3⟩:=t.st hx;rw[XH h] at h2;cases h2;refine⟨a,?_,h3⟩;rw[<- h1];exact dj hx
noncomputable def nv (left:List Nat):List V:=left.map fun(k:Nat)=>V.int (k:Int)
theorem dN (left:List Nat):(nv left).length=left.length:=by unfold nv;rw[AF]
theorem Rp {left:List Nat}{i:Nat}{x:V}(h:(nv left)[i]?=some x):∃k,left[i]?=some k/\x=.int (k:Int):=by
 unfold nv at h;rw[AU] at h;cases e:left[i]? with
 | none=>rw[e] at h;cases h
 | some k=>rw[e] at h;cases h;exact⟨k,rfl,rfl⟩
theorem vD {left:List Nat}(h:left≠[]):∃k,left.getLast?=some k/\k∈left/\atI (nv left) (-1)=some (.int (k:Int)):=by
 obtain⟨a,b,rfl⟩:=pF left (Ee.mpr h);refine⟨b,by simp,by simp,?_⟩;have:=Mz (a.map fun(k:Nat)=>(k:Int)) (b:Int);unfold nv;rw[show((a++[b]).map fun(k:Nat)=>V.int (k:Int))=((a.map fun(k:Nat)=>(k:Int))++[(b:Int)]).map V.int by simp];exact this
theorem vG {left:List Nat}(h:left≠[]):∃k,left.head?=some k/\k∈left/\atI (nv left) 0=some (.int (k:Int)):=by
 cases left with
 | nil=>exact absurd rfl h
 | cons a l=>exact⟨a,rfl,AX,dj (j:=0) (show(nv (a::l))[0]?=_ from rfl)⟩
theorem Al {left:List Nat}{P:Nat->Bool}{i k:Nat}(h:left[i]?=some k):(left.take (i+1)).filter P=(left.take i).filter P++(if P k=true then [k] else []):=by
 rw[take_snoc h,List.filter_append];cases hp:P k with
 | true=>rw[EX hp];rfl
 | false=>rw[EZ (by rw[hp];decide)];rfl
theorem Y5 (a b:List Nat):nv (a++b)=nv a++nv b:=by unfold nv;rw[A9]
theorem cD {ok:Addr->Prop}{H:Hp}{a:Addr}{left:List Nat}(h:ok a)(e:H a=some (.lst (nv left)))(hl:left.length<=1000000):aH ok H (.ref a) (lJ left):=.lst h e (by rw[dN];exact hl) (Wh left)
theorem dU {K:AE}{mp:List (Option Nat)}{g:TG}{tc:TT}{te:TE}{σ:St}{H:Hp}{Q:VK}{R:It->Hp->Prop}{a:Addr}{left:List Nat}(P:Nat->Bool)(okT:St->Prop)(hR:R=N6 mp g tc te σ Q)(e:H a=some (.lst (nv left)))(hz:left.length<=1000000)(h0:okT (pU mp σ))
  (hs:∀(i k:Nat) τ (acc:List V) (Pn:List V->St->Hp->Prop),left[i]?=some k->okT τ->(P k=true->∀τ1,okT τ1->Pn (acc++[V.int (k:Int)]) τ1 H)->(P k=false->∀τ1,okT τ1->Pn acc τ1 H)->g (.int (k:Int)) τ H fun τ1 H4=>tc τ1 H4 fun b H5=>if b=true then te τ1 H5 fun v H6=>Pn (acc++[v]) τ1 H6 else Pn acc τ1 H5)
  (hd:∀d,H d=none->Q (.ref d) (upd H d (.lst (nv (left.filter P))))):R (Itl K a) H:=by
 refine ux hR (xs:=nv left) (aU (by rw[dN];exact hz)) (fun i acc τ H'=>H'=H/\acc=nv ((left.take i).filter P)/\okT τ) ⟨rfl,rfl,h0⟩ ?_ ?_ ?_ ?_
 ·rintro i acc τ H' ⟨_,rfl,_⟩;rw[dN];exact Be (BA _ _) (JY _ _)
 ·rintro i acc τ H' ⟨rfl,_,_⟩;exact SqL.of e
 ·rintro i x acc τ H' hx ⟨rfl,rfl,ht⟩;obtain⟨k,hk,rfl⟩:=Rp hx;refine hs i k τ _ (fun acc τ H1=>H1=H'/\acc=nv ((left.take (i+1)).filter P)/\okT τ) hk ht (fun hp τ1 h1=>⟨rfl,?_,h1⟩) (fun hp τ1 h1=>⟨rfl,?_,h1⟩)
  ·rw[Al hk,Y5,if_pos hp];rfl
  rw[Al hk,if_neg (by rw[hp];decide),CH]
 rintro acc τ H' d ⟨rfl,rfl,_⟩ hdn;rw[Fc (by rw[dN];exact A1 _)];exact hd d hdn
theorem S6 (xs:List V)(n:Nat)(h:n<=xs.length):jQ xs (some (n:Int)) none=xs.drop n:=by
 unfold jQ;have e1:HT.sIx xs.length 0 (some (n:Int))=n:=by
  simp only[HT.sIx];split
  ·omega
  omega
 have e2:HT.sIx xs.length xs.length none=xs.length:=by simp [HT.sIx]
 rw[e1,e2];exact Fc (by rw[EB];exact A1 _)
theorem Nq {left:List Nat}{k:Nat}(h:left.Pairwise (· < ·)):jQ (nv left) (some ((left.filter (· < k)).length:Int)) none=nv (left.filter (k<=·)):=by
 rw[S6 _ _ (by rw[dN];exact BA _ _),<- jq h];unfold nv;rw[List.map_drop]
theorem aG.dropLast {ok:Addr->Prop}{H:Hp}{xs:List V}{ds:List A3}{d:A3}(t:aG ok H xs (ds++[d])):aG ok H xs.dropLast ds/\∃y,xs[xs.length-1]?=some y/\aH ok H y d:=by
 have hl:=t.length;rw[AK,BM] at hl;constructor
 ·have:=t.take ds.length;rw[List.take_left,show xs.take ds.length=xs.dropLast by rw[List.dropLast_eq_take,hl,IX]] at this;exact this
 have hx:xs[xs.length-1]?=some xs[xs.length-1]:=AD ω;obtain⟨d',hd,td⟩:=t.get hx;rw[hl,IX,BU (A1 _),IU] at hd;cases hd;exact⟨_,hx,td⟩
noncomputable def fD:Pl->Str
 | .pick _ => "pick"
 | .one _ _ => "is"
 | .wit _ _ => "within"
 | .low _ _ _ => "below"
 | .msk _ _ => "mask"
 | .tab => "table"
noncomputable def uc:Pl->Nat
 | .pick _=>0
 | .one _ _=>0
 | .wit _ _=>1
 | .low _ _ _=>2
 | .msk _ _=>3
 | .tab=>4
noncomputable def vK:Pl->Bool
 | .pick _=>true
 | _=>false
noncomputable def eZ (ss:Sts)(zs:List Int)(left:List Nat):Pl->Int
 | .pick _=>0
 | .tab=>zs.getD 4 0+zs.getD 5 0*bR ss left
 | p=>zs.getD (uc p) 0
noncomputable def gJ:List Str:=["is","within","below","mask","table"]
theorem yq {p:Pl}(h:vK p=false):vM gJ (fD p) (uc p):=by
 cases p with
 | pick l=>cases h
 | one k r=>exact⟨rfl,fun m hm=>absurd hm (Nat.not_lt_zero _)⟩
 | wit k r=>exact⟨rfl,fun m hm=>by
   have:m=0:=by simp only[uc] at hm;omega
   subst this;exact(by decide +kernel:(some ("is" : Str))≠some "within")⟩
 | low k a b=>exact⟨rfl,fun m hm=>by
   have:m=0\/m=1:=by simp only[uc] at hm;omega
   rcases this with rfl|rfl
   ·exact(by decide +kernel:(some ("is" : Str))≠some "below")
   exact(by decide +kernel:(some ("within" : Str))≠some "below")⟩
 | msk l r=>exact⟨rfl,fun m hm=>by
   have:m=0\/m=1\/m=2:=by simp only[uc] at hm;omega
   rcases this with rfl|rfl|rfl
   ·exact(by decide +kernel:(some ("is" : Str))≠some "mask")
   ·exact(by decide +kernel:(some ("within" : Str))≠some "mask")
   exact(by decide +kernel:(some ("below" : Str))≠some "mask")⟩
 | tab=>exact⟨rfl,fun m hm=>by
   have:m=0\/m=1\/m=2\/m=3:=by simp only[uc] at hm;omega
   rcases this with rfl|rfl|rfl|rfl
   ·exact(by decide +kernel:(some ("is" : Str))≠some "table")
   ·exact(by decide +kernel:(some ("within" : Str))≠some "table")
   ·exact(by decide +kernel:(some ("below" : Str))≠some "table")
   exact(by decide +kernel:(some ("mask" : Str))≠some "table")⟩
theorem Tz {zs:List Int}(h:zs.length=6):atI (zs.map V.int) (-1)=some (.int (zs.getD 5 0)):=by
 match zs,h with
 | [a,b,c,d,e,f],_=>rfl
theorem pR {zs:List Int}{i:Nat}(h:i<zs.length):atI (zs.map V.int) (i:Int)=some (.int (zs.getD i 0)):=by
 refine dj ?_;rw[AU,AD h,AN,AD h];rfl
noncomputable def DN:Sp:=fun vs H Q _=>∃(p:Addr)(B:Int),vs=[.ref p,.int 6]/\cG H p B/\0<=B/\B<=900000 /\
 ∀(t:Addr)(zs:List Int) H',cL p H H'->cG H' p (B+20)->t≠p->H t=none->H' t=some (.tup (zs.map V.int))->zs.length=6->(∀z∈zs,1<=z/\z<=99)->Q (.ref t) H'
noncomputable def oX (n:Nat):Sp:=fun vs H Q _=>∃(s l p:V)(z:Addr)(ok:Addr->Prop)(ss:Sts)(zs:List Int)(left:List Nat)(pl:Pl),vs=[s,.ref z,l,p]/\cW ok H/\aH ok H s (.list (ss.map stD))/\aH ok H l (lJ left)/\aH ok H p (plD pl)/\H z=some (.tup (zs.map V.int))/\zs.length=6/\(-(2^64)<zs.getD 5 0/\zs.getD 5 0<2^64)/\Di ss pl left/\rm pl<n /\
 ∀H',Same H H'->Q (.int (v7 ss (eZ ss zs) pl left)) H'
theorem jB {K:AE}{mp:List (Option Nat)}{g:TG}{tc:TT}{te:TE}{σ:St}{H:Hp}{Q:VK}{R:It->Hp->Prop}{a:Addr}{left:List Nat}(fI:Nat->Int)(okT:St->Prop)(hR:R=N6 mp g tc te σ Q)(e:H a=some (.lst (nv left)))(hz:left.length<=1000000)(h0:okT (pU mp σ))
  (hs:∀(i k:Nat) τ (acc:List V) (Pn:List V->St->Hp->Prop),left[i]?=some k->okT τ->(∀τ1,okT τ1->Pn (acc++[V.int (fI k)]) τ1 H)->g (.int (k:Int)) τ H fun τ1 H4=>tc τ1 H4 fun b H5=>if b=true then te τ1 H5 fun v H6=>Pn (acc++[v]) τ1 H6 else Pn acc τ1 H5)
  (hd:∀d,H d=none->Q (.ref d) (upd H d (.lst ((left.map fI).map V.int)))):R (Itl K a) H:=by
 refine ux hR (xs:=nv left) (aU (by rw[dN];exact hz)) (fun i acc τ H'=>H'=H/\acc=((left.take i).map fI).map V.int/\okT τ) ⟨rfl,rfl,h0⟩ ?_ ?_ ?_ ?_
 ·rintro i acc τ H' ⟨_,rfl,_⟩;rw[AF,AF];exact JY _ _
 ·rintro i acc τ H' ⟨rfl,_,_⟩;exact SqL.of e
 ·rintro i x acc τ H' hx ⟨rfl,rfl,ht⟩;obtain⟨k,hk,rfl⟩:=Rp hx;refine hs i k τ _ (fun acc τ H1=>H1=H'/\acc=((left.take (i+1)).map fI).map V.int/\okT τ) hk ht (fun τ1 h1=>⟨rfl,?_,h1⟩);rw[take_snoc hk,A9,A9];rfl
 rintro acc τ H' d ⟨rfl,rfl,_⟩ hdn;rw[Fc (by rw[dN];exact A1 _)];exact hd d hdn
theorem J2 (l:List Nat):(nv l).all iZ=true:=by
 unfold nv;rw[all_map,He];intro x _;rfl
noncomputable def sS:List Str:=["is","within","below","mask"]
theorem j8 {p:Pl}(h:vK p=false)(hi:uc p<4):vM sS (fD p) (uc p):=by
 have hx:=yq h;have hg:∀m,m<4->sS[m]?=gJ[m]?:=fun m hm=>match m,hm with
  | 0,_=>rfl
  | 1,_=>rfl
  | 2,_=>rfl
  | 3,_=>rfl
 exact⟨by rw[hg _ hi];exact hx.1,fun m hm=>by rw[hg m ω];exact hx.2 m hm⟩
theorem Uq (n:Nat):Bu 0 n=nv (BB n):=by
 unfold Bu nv;apply G1;intro x _;simp
section
variable {X:Cx}{e o:Expr}{te to:TE}{pos:Pos}
noncomputable def aa3 (xs:List V)(y:V)(n:Nat):Prop:=(∃(is:List Int)(i:Int),xs=is.map V.int/\y=.int i/\n=is.count i)\/(∃(ws:List Str)(w:Str),xs=ws.map V.str/\y=.str w/\n=ws.count w)
noncomputable def Xh (K:AE)(to te:TE):TE:=fun σ H Q=>to σ H fun x H1=>∃(p:Addr),x=.ref p/\(∃xs,SqL K H1 p xs)/\te σ H1 fun y H2=>∃(xs:List V)(n:Nat),SqL K H2 p xs/\aa3 xs y n/\Q (.int (n:Nat)) H2
theorem GK {ws:List Int}{its:List An}(r:Vals (ws.map V.int) its){i:Nat}{v:An}(h:its[i]?=some v):∃w t,ws[i]?=some w/\v=An.int w t:=by
 have hl:=r.length;rw[AF] at hl;have hi:=(AW.mp h).1;have hx:(ws.map V.int)[i]?=some (V.int ws[i]):=by rw[AU,AD ω];rfl
 obtain⟨u,hu,ru⟩:=r.get hx;rw[hu] at h;cases h;obtain⟨t,rfl⟩:=ru;exact⟨ws[i],t,AD ω,rfl⟩
noncomputable def isI (w:Int):An->Bool
 | .int z _=>z == w
 | _=>false
noncomputable def isS (w:Str):An->Bool
 | .str z _=>z == w
 | _=>false
theorem cnt_ints (w:Int):∀{is:List Int}{its:List An},Vals (is.map V.int) its->its.countP (isI w)=is.count w
 | [],_,.nil=>rfl
 | i::is,_,.cons r rs=>by
  obtain⟨t,rfl⟩:=r;rw[List.countP_cons,List.count_cons,cnt_ints w rs];rfl
theorem cnt_strs (w:Str):∀{is:List Str}{its:List An},Vals (is.map V.str) its->its.countP (isS w)=is.count w
 | [],_,.nil=>rfl
 | i::is,_,.cons r rs=>by
  obtain⟨t,rfl⟩:=r;rw[List.countP_cons,List.count_cons,cnt_strs w rs];rfl
theorem VH {apos cpos:Pos}(hu:X.A.in1.units<Ff)(ho:PE X o to)(he:PE X e te)
  (hbase:CD o "count" X.env (eval o X.env)=eval o X.env:=by rfl)
  (hfew:((Ct cpos (AH [e] X.env)).all (fun x=>!x.1)&&(F0 cpos (EF [] X.env)).all (fun x=>x.1.isSome)
   && decide ([e].length+([]:List DM).length+(if ([]:List DM).isEmpty then 0 else 1)<30))=true:=by rfl)
  (hline:(apos.endLine == cpos.line)=true:=by rfl) (hs:AH [e] X.env=(false,eval e X.env)::AH [] X.env:=by rfl) (hplain:(Ct cpos (AH [] X.env)).any (·.1)=false:=by rfl) :
  PE X (.Call (.Attribute o "count" apos) [e] [] cpos) (Xh X.K to te):=by
 intro pins s σ H Q I h;refine EV hbase hfew hline rfl (thE (ho pins s σ H _ I h) fun v s1 x H1 I1 r1 q=>?_);obtain⟨p,rfl,⟨xs0,hq⟩,q⟩:=q;obtain⟨h1,h2⟩:=qd (T := "list") I1 r1 (.inl ⟨rfl,_,hq⟩);refine⟨"list","list.count",DS,PySem.F.slot_list_count,PySem.F.type_list_count,h1,h2,?_⟩;rw[hs];refine Cs (by show(false||(Ct cpos (AH [] X.env)).any (·.1))=false;rw[hplain] <;> rfl) (DH ?_)
 refine Co (thn (he pins s1 σ H1 _ I1 q) fun u s2 ⟨y,H2,I2,r2,xs,n,hq2,hc,q3⟩=>Ch ?_);cases r1;obtain⟨its,rv,pl,hz⟩:=I2.list hq2;obtain⟨ob,nn,eo,ec,ed,es⟩:=pl;cases ob with
 | mk cls dict data slots=>
  cases ec;cases es;rcases hc with⟨is,i,rfl,rfl,rfl⟩|⟨ws,w,rfl,rfl,rfl⟩
  ·obtain⟨t,rfl⟩:=r2;refine DZ F.slot_list_count ⟨_,eo,rfl⟩ F.entry_list_count (F.args_list_count_2 _ _) (SeqAt.list_countAt p its.toArray nn _ _ _ (isI i)) ⟨eo,fun y hy=>?_,?_⟩
   ·have hy':y∈its:=by simpa using hy
    obtain⟨m,hm,em⟩:=CU.mp hy';obtain⟨w',t',h1,h2⟩:=GK rv (AD hm);rw[em] at h2;rw[h2];exact BF.int_int w' t' i t
   rw[show its.toArray.toList=its from rfl,cnt_ints i rv];exact⟨.int (is.count i:Nat),H2,I2.tok _,⟨_,rfl⟩,q3⟩
  obtain⟨t,rfl⟩:=r2;refine DZ F.slot_list_count ⟨_,eo,rfl⟩ F.entry_list_count (F.args_list_count_2 _ _) (SeqAt.list_countAt p its.toArray nn _ _ _ (isS w)) ⟨eo,fun y hy=>?_,?_⟩
  ·have hy':y∈its:=by simpa using hy
   obtain⟨m,hm,em⟩:=CU.mp hy';obtain⟨w',t',h1,h2⟩:=lZ rv (AD hm);rw[em] at h2;rw[h2];exact BF.str_str w' t' w t
  rw[show its.toArray.toList=its from rfl,cnt_strs w rv];exact⟨.int (ws.count w:Nat),H2,I2.tok _,⟨_,rfl⟩,q3⟩
theorem JW (K:AE){apos cpos:Pos}(hu:X.A.in1.units<Ff)(ho:QE X o to)(he:QE X e te)(hK:X.K=K:=by rfl)
  (hbase:CD o "count" X.env (eval o X.env)=eval o X.env:=by rfl)
  (hfew:((Ct cpos (AH [e] X.env)).all (fun x=>!x.1)&&(F0 cpos (EF [] X.env)).all (fun x=>x.1.isSome)
   && decide ([e].length+([]:List DM).length+(if ([]:List DM).isEmpty then 0 else 1)<30))=true:=by rfl)
  (hline:(apos.endLine == cpos.line)=true:=by rfl) (hs:AH [e] X.env=(false,eval e X.env)::AH [] X.env:=by rfl) (hplain:(Ct cpos (AH [] X.env)).any (·.1)=false:=by rfl) :
  QE X (.Call (.Attribute o "count" apos) [e] [] cpos) (Xh K to te):=by
 subst hK;exact⟨VH hu ho.h he.h hbase hfew hline hs hplain⟩
end
theorem UW (K:AE){X:Cx}{tg l:Expr}{tl:TE}(hl:QE X l tl)(hK:X.K=K:=by rfl):QI X tg l (Ft K tl):=by
 subst hK;exact bN hl
noncomputable def Few (zs:List Int):Prop:=∀z∈zs,-(2^40)<z/\z<2^40
theorem Few.at {zs:List Int}(h:Few zs)(i:Nat):-(2^64)<zs.getD i 0/\zs.getD i 0<2^64:=by
 rw[AN];cases e:zs[i]? with
 | none=>exact⟨δ,δ⟩
 | some z=>
  have:=h z (A5 e);exact⟨by show -(2^64)<z;omega,by show z<2^64;omega⟩
noncomputable def lbl (ss:Sts)(k:Nat):Int:=(bW ss k).2.2
noncomputable def sV (ss:Sts):Pl->List Nat->List (List Nat×Pl)
 | .pick l,left=>[(left,.pick l)]
 | .tab,left=>[(left,.tab)]
 | .one k r,left=>(left,.one k r)::sV ss r (left.filter (·≠k))
 | .wit k r,left=>(left,.wit k r)::sV ss r (left.filter (·≠k))
 | .low k a b,left=>(left,.low k a b)::(sV ss b (left.filter (k<=·))++sV ss a (left.filter (· < k)))
 | .msk l r,left=>(left,.msk l r)::sV ss r (left.filter fun k=>(bW ss k).2.2≠l)
noncomputable def VL (ss:Sts)(left:List Nat):Pl->Prop
 | .pick l=>∀k∈left,lbl ss k=l
 | .tab=>bR ss left<=200
 | .one k _=>k∈left/\(bW ss k).1=(bW ss k).2.1
 | .wit k _=>k∈left
 | .low k _ _=>k∈left
 | .msk l _=>bR ss left<=64/\∃k∈left,lbl ss k=l
noncomputable def PlV (ss:Sts):Pl->List Nat->Prop
 | .pick l,left=>Lf ss left/\VL ss left (.pick l)
 | .tab,left=>Lf ss left/\VL ss left .tab
 | .one k r,left=>(Lf ss left/\VL ss left (.one k r))/\PlV ss r (left.filter (·≠k))
 | .wit k r,left=>(Lf ss left/\VL ss left (.wit k r))/\PlV ss r (left.filter (·≠k))
 | .low k a b,left=>(Lf ss left/\VL ss left (.low k a b))/\PlV ss a (left.filter (· < k))/\PlV ss b (left.filter (k<=·))
 | .msk l r,left=>(Lf ss left/\VL ss left (.msk l r))/\PlV ss r (left.filter fun k=>(bW ss k).2.2≠l)
theorem PlV.ok {ss:Sts}:∀{p:Pl}{left:List Nat},PlV ss p left->Di ss p left
 | .pick l,left,h=>h.1
 | .tab,left,h=>h.1
 | .one k r,left,h=>⟨h.1.1,PlV.ok h.2⟩
 | .wit k r,left,h=>⟨h.1.1,PlV.ok h.2⟩
 | .msk k r,left,h=>⟨h.1.1,PlV.ok h.2⟩
 | .low k a b,left,h=>⟨h.1.1,PlV.ok h.2.1,PlV.ok h.2.2⟩
noncomputable def pJ:Pl->Nat->List (Nat×Nat)
 | .pick _,_=>[]
 | .tab,_=>[]
 | .one _ r,p=>pJ r (p+1)
 | .wit _ r,p=>pJ r (p+1)
 | .msk _ r,p=>pJ r (p+1)
 | .low _ a b,p=>pJ b (p+1)++(p,p+1+jJ b)::pJ a (p+1+jJ b)
noncomputable def Zy:List Pl->List Nat->Nat->List (Nat×Nat)
 | [],_,_=>[]
 | c::rest,T,p=>pJ c p++(match T with | []=>[]|t::T'=>match rest with | []=>[]|_::_=>(t,p+jJ c)::Zy rest T' (p+jJ c))
theorem ZD (xs:List V)(n:Nat)(h:n<=xs.length):jQ xs none (some (n:Int))=xs.take n:=by
 unfold jQ;have e1:HT.sIx xs.length 0 none=0:=by simp [HT.sIx]
 have e2:HT.sIx xs.length xs.length (some (n:Int))=n:=by
  simp only[HT.sIx];split
  ·omega
  omega
 rw[e1,e2];rfl
theorem Dq:Ic (An.type "zip") (BD "keys")=pure none:=IG (by rfl)
theorem vQ:Ic (An.type "zip") (BD "__getattr__")=pure none:=IG (by rfl)
theorem ud (a:Addr) (vs:Array An) (u:Tok):Meets (AI.«object.__getattribute__» { pos:=[An.ref a,An.str (BD "keys") u] }) fun A R s=>
  s.heap.get? a=some { cls:=An.type "zip",data:=EN vs }/\raisesAttr (An.ref a) (BD "keys") A R s:=by
 refine IR fun prog w A R s hs=>?_;obtain⟨hp,g,d,tk,os⟩:=s;obtain⟨hx,hr⟩:=hs;have hT:(⟨hp,g,d,tk,os⟩:AC).TypeIs (An.ref a) "zip" := ⟨_,hx,rfl⟩;unfold AI.«object.__getattribute__» slotArgs;refine Ap (AY rfl (AY rfl (Au ?_)));refine Ap ?_;show AG _ _ (pure (BD "keys")) _ _ _;refine Au ?_;refine Ap (CY hT ?_);refine Ap ?_;unfold AI.ObjectAttr.find;refine Ap (C9 Dq ?_);refine Ap ?_;show AG _ _ (pure none) _ _ _;refine Au (Ap ?_);show AG _ _ (pure none) _ _ _;refine Au ?_;show AG _ _ (AI.ObjectAttr.ownThenClass (An.ref a) (BD "keys") none none) _ _ _;unfold AI.ObjectAttr.ownThenClass;refine Ap ?_;unfold AI.ObjectAttr.inOwnDict;refine Ap ?_;unfold AI.ObjectAttr.ownDict;refine Ap (IH hx ?_);show AG _ _ (instanceDict a false) _ _ _;unfold instanceDict;refine Ap (IH hx (B7 rfl (Au ?_)));show AG _ _ (pure none) _ _ _;refine Au ?_;show AG _ _ (AI.ObjectAttr.copiedAttributeGuard (BD "keys") (An.ref a) >>= _) _ _ _;refine Ap ?_;unfold AI.ObjectAttr.copiedAttributeGuard;refine AY δ (Au ?_);show AG _ _ (rule _ >>= _) _ _ _;refine Ap (D8 (Au ?_));refine AY rfl ?_;refine AY rfl ?_;show AG _ _ (typeNameOfCut 100 (An.ref a) >>= _) _ _ _;refine Ap ?_;show AG _ _ (shownTypeOf (An.ref a) >>= _) _ _ _;refine Ap ?_;show AG _ _ (typeOf (An.ref a) >>= _) _ _ _;refine Ap (CY hT ?_);refine AY rfl (Au ?_);show AG _ _ (pure _) _ _ _;refine Au ?_;exact wpAny_raiseAttrError hr.1 hr.2 (attrMsg_fits δ δ)
theorem CZ:entryFor table "zip.__getattribute__" = some AI.«object.__getattribute__»:=entryFor_alias (id' := "object.__getattribute__") (by rfl) ψ ψ (by rfl)
theorem yI {prog:AV}{w:A6}{A:A7}{E:An->AC->Prop}{s:AC}{a:Addr}{vs:Array An}{Q:Option An->AC->Prop}(hh:A.handled=none) (hx:s.heap.get? a=some { cls:=An.type "zip",data:=EN vs })
  (h:∀(h':Heap)(tk:Nat),(∀c o,s.heap.get? c=some o->h'.get? c=some o)->Q none { s with heap:=h',toks:=tk }):AG (A0 prog w) A (getAttr? (An.ref a) (BD "keys")) Q E s:=by
 obtain⟨hp,g,d,tk,os⟩:=s;have hT:∀tk,(⟨hp,g,d,tk,os⟩:AC).TypeIs (An.ref a) "zip" := fun _=>⟨_,hx,rfl⟩;unfold getAttr? mkText;refine Ap (Ap (wpAny_fresh' (Au ?_)));unfold getAttrBy?;refine Ap (DE ?_);unfold getAttrBy;refine BE (Ap (CY (hT _) ?_));refine Ap (C9 HQ.lookup ?_);show AG _ _ (ite _ _ _) _ _ _;refine AY rfl ?_;unfold getAttrByItsOwn hookBefore;refine Ap (AY rfl (Au ?_));refine Ap (DE (BE ?_));unfold callGetattribute;refine AY rfl ?_;unfold boundAndCalled;refine Ap (C9 (HQ.bind (An.ref a)) ?_);refine DZ HQ (hT _) CZ (F.args_zip_getattribute_2 _ _) (ud a vs _) ⟨hx,hh,fun h' tk' e ne=>?_⟩;obtain⟨t,u,he⟩:=ne.there;have hTe:(⟨h',g,d,tk',os⟩:AC).TypeIs (An.ref e) "AttributeError" := ⟨_,he,rfl⟩;unfold getattributeRaised;refine Ap (D5 hTe G2 (B7 rfl ?_));unfold hookBehind;refine Ap (AY rfl (C9 vQ ?_));show AG _ _ (throw (An.ref e) >>= _) _ _ _;refine Ap (wpAny_throw ?_);show AG _ _ (isInstance (An.ref e) (An.type "AttributeError") >>= _) _ _ _;refine Ap (D5 hTe G2 (B7 rfl (Au ?_)));exact h h' tk' fun c o e=>ne.keeps c o e
noncomputable def Wlk (h:Heap)(i l:Addr)(k:Nat)(xs:Array An):Prop:=(h.IsTupleIter i l k/\h.IsTuple l xs)\/(h.IsListIter i l k/\h.IsList l xs)
theorem Wlk.keep {h h':Heap}{i l:Addr}{k:Nat}{xs:Array An}(I:Wlk h i l k xs)(ki:∀o,h.get? i=some o->h'.get? i=some o)(kl:∀o,h.get? l=some o->h'.get? l=some o):Wlk h' i l k xs:=by
 rcases I with⟨a,o,e,r⟩|⟨a,o,e,r⟩
 ·exact .inl ⟨a.at ki,o,kl o e,r⟩
 exact .inr ⟨a.at ki,o,kl o e,r⟩
theorem Wlk.item {prog:AV}{w:A6}{A:A7}{E:An->AC->Prop}{s:AC}{i l:Addr}{k:Nat}{xs:Array An}{x:An}{Q:An->AC->Prop}(I:Wlk s.heap i l k xs)(hl:l≠i)(hx:xs[k]?=some x)
  (hQ:∀h',Wlk h' i l (k+1) xs->B4 i s.heap h'->Q x { s with heap:=h' }):AG (A0 prog w) A (AI.SmallTypes.nextOf (An.ref i)) Q E s:=by
 rcases I with⟨a,b⟩|⟨a,b⟩
 ·refine rA a b hx fun h' h1 sb=>hQ h' (.inl ⟨h1,?_⟩) sb;obtain⟨o,e,r⟩:=b;exact⟨o,(sb.2 l hl).trans e,r⟩
 refine wpAny_nextOf_list_item a b hx fun h' h1 sb=>hQ h' (.inr ⟨h1,?_⟩) sb;obtain⟨o,e,r⟩:=b;exact⟨o,(sb.2 l hl).trans e,r⟩
theorem Wlk.last {prog:AV}{w:A6}{A:A7}{E:An->AC->Prop}{s:AC}{i l:Addr}{k:Nat}{xs:Array An}{Q:An->AC->Prop}(hh:A.handled=none)(I:Wlk s.heap i l k xs)(hx:xs[k]?=none)
  (hE:∀h' e,Heap.ExtBut i s.heap h'->(∃o,h'.get? e=some o/\o.cls=An.type "StopIteration")->E (.ref e) { s with heap:=h' }):AG (A0 prog w) A (AI.SmallTypes.nextOf (An.ref i)) Q E s:=by
 rcases I with⟨a,b⟩|⟨a,b⟩
 ·exact tQ hh a b hx hE
 exact wpAny_nextOf_list_end hh a b hx hE
theorem Og {M:Model}{A:A7}{E:An->AC->Prop}{s:AC}{a:Addr}{Q:Option Obj->AC->Prop}(h:Q (s.heap.get? a) s):AG M A (loadIfAlive a) Q E s:=by
 intro Γ p hΓ;show Sem.wp M Γ (Sem.loadIfAlive a Sem.pure) _ _ p s;rw[Sem.wp_loadIfAlive];exact h
@[reducible] def jY (h:Heap) (z TI TO a:Addr) (b:Bool):Prop:=h.get? z=some { cls:=An.type "zip",data:=EN #[FH a,An.bool b,An.bool false,An.ref TI,An.ref TO] }
theorem FT {prog:AV}{w:A6}{A:A7}{E:An->AC->Prop}{s:AC}{z TI TO a:Addr}{b:Bool}{o:Obj}{Q:Bool->AC->Prop}(hz:jY s.heap z TI TO a b)(ha:s.heap.get? a=some o)
  (hQ:∀h',jY h' z TI TO a true->B4 z s.heap h'->Q false { s with heap:=h' }):AG (A0 prog w) A (AI.SmallTypes.ownedTupleIsFree (An.ref z)) Q E s:=by
 unfold AI.SmallTypes.ownedTupleIsFree;refine Ap (CL hz rfl rfl ?_);show AG _ _ (loadIfAlive ((a:Int).toNat) >>= _) _ _ _;refine Ap (Og ?_);rw[show((a:Int).toNat)=a from B3 a,ha];refine AY rfl ?_;refine Ap (CL hz rfl rfl ?_);cases b with
 | true=>
  refine AY rfl (Au ?_);exact hQ s.heap hz ⟨rfl,fun _ _=>rfl⟩
 | false=>
  refine B7 rfl ?_;refine Ap (CO hz (Ki (Iq 3)) fun h' hz' hs'=>Au ?_);exact hQ h' hz' hs'
theorem TF {prog:AV}{w:A6}{A:A7}{E:An->AC->Prop}{s:AC}{z TI TO i1 i2 l1 l2 a:Addr}{ob:Bool}{k1 k2:Nat}{xs ys:Array An}{x y:An}{o:Obj}{Q:An->AC->Prop}(D:GB z TI TO i1 i2 l1 l2)(hz:jY s.heap z TI TO a ob)(ha:s.heap.get? a=some o)(hTI:DI s.heap TI (An.ref i1) (An.ref i2))
  (h1:Wlk s.heap i1 l1 k1 xs) (h2:Wlk s.heap i2 l2 k2 ys) (hx:xs[k1]?=some x) (hy:ys[k2]?=some y)
  (hQ:∀h':Heap,jY h' z TI TO a true->Wlk h' i1 l1 (k1+1) xs->Wlk h' i2 l2 (k2+1) ys->DI h' s.heap.objs.size x y->h'.objs.size=s.heap.objs.size+1->(∀c o,c≠z->c≠i1->c≠i2->s.heap.get? c=some o->h'.get? c=some o)->Q (An.ref s.heap.objs.size) { s with heap:=h' }) :
  AG (A0 prog w) A (AI.«zip.__next__» { pos:=[An.ref z] }) (fun fin s'=>∃v,fin=Fin.done (Flow.ret v)/\Q v s') E s:=by
 show AG _ _ (field (An.ref z) 2 >>= _) _ _ _;refine Ap (CL hz rfl rfl ?_);show AG _ _ (field (An.ref z) 3 >>= _) _ _ _;refine Ap (CL hz rfl rfl ?_);refine Ap (CM hTI rfl ?_);show AG _ _ (AI.SmallTypes.ownedTupleIsFree (An.ref z) >>= _) _ _ _;refine Ap (FT hz ha fun h₁ hz₁ hs₁=>?_);refine AY rfl ?_;have old1:∀c o,c≠z->s.heap.get? c=some o->h₁.get? c=some o:=fun c o hc e=>(hs₁.2 c hc).trans e;have h1a:=h1.keep (h':=h₁) (fun o e=>old1 i1 o D.i1z e) (fun o e=>old1 l1 o D.l1z e);show AG _ _ (forIn #[An.ref i1,An.ref i2] (none,#[]) _ >>= _) _ _ _;refine Ap ?_;rw[<- Array.forIn_toList];show AG _ _ (forIn [An.ref i1,An.ref i2] (none,#[]) _) _ _ _;rw[EU];refine Ap ?_;show AG _ _ (DJ [] (AI.SmallTypes.nextOf (An.ref i1) >>= fun v=>pure (some v)) >>= _) _ _ _;refine Ap (BE (Ap (h1a.item (s:={ s with heap:=h₁ }) D.l1i1 hx fun h₂ h1b sb₂=>Au ?_)));have old2:∀c o,c≠z->c≠i1->s.heap.get? c=some o->h₂.get? c=some o:=fun c o hc hc1 e=>(sb₂.2 c hc1).trans (old1 c o hc e);refine Au ?_;show AG _ _ (forIn [An.ref i2] (none,#[x]) _) _ _ _;rw[EU];refine Ap ?_;have h2a:=h2.keep (h':=h₂) (fun o e=>old2 i2 o D.i2z (BN D.i12) e) (fun o e=>old2 l2 o D.l2z D.l2i1 e);show AG _ _ (DJ [x] (AI.SmallTypes.nextOf (An.ref i2) >>= fun v=>pure (some v)) >>= _) _ _ _;refine Ap (BE (Ap (h2a.item (s:={ s with heap:=h₂ }) D.l2i2 hy fun h₃ h2b sb₃=>Au ?_)));have old3:∀c o,c≠z->c≠i1->c≠i2->s.heap.get? c=some o->h₃.get? c=some o:=fun c o hc hc1 hc2 e=>(sb₃.2 c hc2).trans (old2 c o hc hc1 e);refine Au ?_;show AG _ _ (forIn [] (none,#[x,y]) _) _ _ _;rw[forIn_nil];refine Au ?_;show AG _ _ (IT [x,y] >>= _) _ _ _;refine Ap (Fu ?_ (by show 2<=AL;decide));have sz:h₃.objs.size=s.heap.objs.size:=by rw[sb₃.1,sb₂.1,hs₁.1]
 have old4:∀c o,h₃.get? c=some o->(h₃.push { cls:=An.type "tuple",data:=ED #[x,y] }).get? c=some o:=fun c o e=>AB _ e;refine Au ⟨_,rfl,?_⟩;rw[show(({ s with heap:=h₃ }:AC).heap.objs.size)=s.heap.objs.size from sz];refine hQ (h₃.push { cls:=An.type "tuple",data:=ED #[x,y] }) ?_ ?_ ?_ ?_ ?_ fun c o hc1 hc2 hc3 e=>old4 c o (old3 c o hc1 hc2 hc3 e)
 ·exact old4 z _ ((sb₃.2 z (BN D.i2z)).trans ((sb₂.2 z (BN D.i1z)).trans hz₁))
 ·exact h1b.keep (fun o e=>old4 i1 o ((sb₃.2 i1 D.i12).trans e)) (fun o e=>old4 l1 o ((sb₃.2 l1 D.l1i2).trans e))
 ·exact h2b.keep (fun o e=>old4 i2 o e) (fun o e=>old4 l2 o e)
 ·show(h₃.push { cls:=An.type "tuple",data:=ED #[x,y] }).get? s.heap.objs.size=_;rw[<- sz];exact AQ _ rfl
 rw[B8,sz]
theorem Xp {prog:AV}{w:A6}{A:A7}{E:An->AC->Prop}{s:AC}{z TI TO i1 i2 l1 l2 a:Addr}{ob:Bool}{k1:Nat}{xs:Array An}{o:Obj}{Q:PySem.Fin->AC->Prop}(hh:A.handled=none)(D:GB z TI TO i1 i2 l1 l2)(hz:jY s.heap z TI TO a ob)(ha:s.heap.get? a=some o)(hTI:DI s.heap TI (An.ref i1) (An.ref i2))
  (h1:Wlk s.heap i1 l1 k1 xs) (hx:xs[k1]?=none)
  (hE:∀(h':Heap)(e:Addr),(∀c o,c≠z->c≠i1->s.heap.get? c=some o->h'.get? c=some o)->(∃o,h'.get? e=some o/\o.cls=An.type "StopIteration")->E (An.ref e) { s with heap:=h' }) :
  AG (A0 prog w) A (AI.«zip.__next__» { pos:=[An.ref z] }) Q E s:=by
 show AG _ _ (field (An.ref z) 2 >>= _) _ _ _;refine Ap (CL hz rfl rfl ?_);show AG _ _ (field (An.ref z) 3 >>= _) _ _ _;refine Ap (CL hz rfl rfl ?_);refine Ap (CM hTI rfl ?_);show AG _ _ (AI.SmallTypes.ownedTupleIsFree (An.ref z) >>= _) _ _ _;refine Ap (FT hz ha fun h₁ hz₁ hs₁=>?_);refine AY rfl ?_;have old1:∀c o,c≠z->s.heap.get? c=some o->h₁.get? c=some o:=fun c o hc e=>(hs₁.2 c hc).trans e;have h1a:=h1.keep (h':=h₁) (fun o e=>old1 i1 o D.i1z e) (fun o e=>old1 l1 o D.l1z e);show AG _ _ (forIn #[An.ref i1,An.ref i2] (none,#[]) _ >>= _) _ _ _;refine Ap ?_;rw[<- Array.forIn_toList];show AG _ _ (forIn [An.ref i1,An.ref i2] (none,#[]) _) _ _ _;rw[EU];refine Ap ?_;show AG _ _ (DJ [] (AI.SmallTypes.nextOf (An.ref i1) >>= fun v=>pure (some v)) >>= _) _ _ _;refine Ap (BE (Ap (Wlk.last (s:={ s with heap:=h₁ }) hh h1a hx fun h₂ e ext he=>?_)));exact hE h₂ e (fun c o c1 c2 g=>ext c o c2 (old1 c o c1 g)) he
theorem Oa {prog:AV}{w:A6}{A:A7}{E:An->AC->Prop}{s:AC}{z TI TO i1 i2 l1 l2:Addr}{k1 k2:Nat}{xs ys:Array An}{x y a b:An}{Q:An->AC->Prop}(D:GB z TI TO i1 i2 l1 l2)(hz:IsZip s.heap z TI TO An.none)(hTI:DI s.heap TI (An.ref i1) (An.ref i2))(hTO:DI s.heap TO a b)
  (h1:Wlk s.heap i1 l1 k1 xs) (h2:Wlk s.heap i2 l2 k2 ys) (hx:xs[k1]?=some x) (hy:ys[k2]?=some y)
  (hQ:∀h':Heap,jY h' z TI TO s.heap.objs.size false->Wlk h' i1 l1 (k1+1) xs->Wlk h' i2 l2 (k2+1) ys->DI h' s.heap.objs.size x y->h'.objs.size=s.heap.objs.size+1->(∀c o,c≠z->c≠TO->c≠i1->c≠i2->s.heap.get? c=some o->h'.get? c=some o)->Q (An.ref s.heap.objs.size) { s with heap:=h' }) :
  AG (A0 prog w) A (AI.«zip.__next__» { pos:=[An.ref z] }) (fun fin s'=>∃v,fin=Fin.done (Flow.ret v)/\Q v s') E s:=by
 show AG _ _ (field (An.ref z) 2 >>= _) _ _ _;refine Ap (CL hz rfl rfl ?_);show AG _ _ (field (An.ref z) 3 >>= _) _ _ _;refine Ap (CL hz rfl rfl ?_);refine Ap (CM hTI rfl ?_);show AG _ _ (AI.SmallTypes.ownedTupleIsFree (An.ref z) >>= _) _ _ _;refine Ap ?_;show AG _ _ (field (An.ref z) 0 >>= _) _ _ _;refine Ap (CL hz rfl rfl (Au ?_));show AG _ _ (rule _ >>= _) _ _ _;refine Ap (D8 (Ap (CL hz rfl rfl ?_)));show AG _ _ (IQ (An.ref z) 0 An.ellipsis >>= _) _ _ _;refine Ap (CO hz (Ki (Iq 4)) fun h₁ hz₁ hs₁=>?_);have old1:∀c o,c≠z->s.heap.get? c=some o->h₁.get? c=some o:=fun c o hc e=>(hs₁.2 c hc).trans e;have h1a:=h1.keep (h':=h₁) (fun o e=>old1 i1 o D.i1z e) (fun o e=>old1 l1 o D.l1z e);refine Ap ?_;show AG _ _ (forIn [(An.ref i1,0),(An.ref i2,1)] (none,()) _) _ _ _;rw[EU];refine Ap ?_;show AG _ _ ((Sem.onRaise (AI.SmallTypes.nextOf (An.ref i1) >>= fun v=>pure (some v)) (fun _=>IQ (An.ref z) 0 An.none)) >>= _) _ _ _;refine Ap (wpAny_onRaise (Ap (h1a.item (s:={ s with heap:=h₁ }) D.l1i1 hx fun h₂ h1b sb₂=>Au ?_)));have old2:∀c o,c≠z->c≠i1->s.heap.get? c=some o->h₂.get? c=some o:=fun c o hc hc1 e=>(sb₂.2 c hc1).trans (old1 c o hc e);have hTO2:DI h₂ TO a b:=old2 TO _ D.TOz D.TOi1 hTO;show AG _ _ (seqItems? (An.ref TO) >>= _) _ _ _;refine Ap (CM (s:={ s with heap:=h₂ }) hTO2 rfl ?_);show AG _ _ (updateSeq TO _ >>= _) _ _ _;refine Ap (wpAny_updateSeq_pair (s:={ s with heap:=h₂ }) hTO2 fun h₃ g₃ sb₃=>?_);refine Ap (wpAny_letGo (Au ?_));show AG _ _ (forIn [(An.ref i2,1)] (none,()) _) _ _ _;rw[EU];refine Ap ?_;have old3:∀c o,c≠z->c≠i1->c≠TO->s.heap.get? c=some o->h₃.get? c=some o:=fun c o hc hc1 hc2 e=>(sb₃.2 c hc2).trans (old2 c o hc hc1 e);have h2c:=h2.keep (h':=h₃) (fun o e=>old3 i2 o D.i2z (BN D.i12) (BN D.TOi2) e) (fun o e=>old3 l2 o D.l2z D.l2i1 D.l2TO e);have g₃':DI h₃ TO x b:=g₃;show AG _ _ ((Sem.onRaise (AI.SmallTypes.nextOf (An.ref i2) >>= fun v=>pure (some v)) (fun _=>IQ (An.ref z) 0 An.none)) >>= _) _ _ _;refine Ap (wpAny_onRaise (Ap (h2c.item (s:={ s with heap:=h₃ }) D.l2i2 hy fun h₄ h2d sb₄=>Au ?_)));have hTO4:DI h₄ TO x b:=(sb₄.2 TO D.TOi2).trans g₃';show AG _ _ (seqItems? (An.ref TO) >>= _) _ _ _;refine Ap (CM (s:={ s with heap:=h₄ }) hTO4 rfl ?_);show AG _ _ (updateSeq TO _ >>= _) _ _ _;refine Ap (wpAny_updateSeq_pair (s:={ s with heap:=h₄ }) hTO4 fun h₅ g₅ sb₅=>?_);refine Ap (wpAny_letGo (Au ?_));have g₅':DI h₅ TO x y:=g₅;show AG _ _ (forIn [] (none,()) _) _ _ _;rw[forIn_nil];refine Au ?_;show AG _ _ (seqItems? (An.ref TO) >>= _) _ _ _
 refine Ap (CM (s:={ s with heap:=h₅ }) g₅' rfl ?_);show AG _ _ (IT [x,y] >>= _) _ _ _;refine Ap (Fu ?_ (by show 2<=AL;decide));have sz:h₅.objs.size=s.heap.objs.size:=by
  rw[sb₅.1,sb₄.1,sb₃.1,sb₂.1,hs₁.1]
 have z5:h₅.get? z=_:=(sb₅.2 z (BN D.TOz)).trans ((sb₄.2 z (BN D.i2z)).trans ((sb₃.2 z (BN D.TOz)).trans ((sb₂.2 z (BN D.i1z)).trans hz₁)));have z6:(h₅.push { cls:=An.type "tuple",data:=ED #[x,y] }).get? z=_:=AB _ z5;refine Ap ?_;show AG _ _ (IQ (An.ref z) 0 (FH h₅.objs.size) >>= fun _=>IQ (An.ref z) 1 (An.bool false)) _ _ _;refine Ap (CO (s:={ s with heap:=h₅.push { cls:=An.type "tuple",data:=ED #[x,y] } }) z6 (Ki (Iq 4)) fun h₇ hz₇ hs₇=>?_);refine CO (s:={ s with heap:=h₇ }) hz₇ (Ki (Iq 3)) fun h₈ hz₈ hs₈=>?_;have nzs:s.heap.objs.size≠z:=fun q=>by
  have:=A4 hz;rw[<- q] at this;exact C8 _ this
 have old6:∀c o,h₅.get? c=some o->(h₅.push { cls:=An.type "tuple",data:=ED #[x,y] }).get? c=some o:=fun c o e=>AB _ e;have old8:∀c o,c≠z->h₅.get? c=some o->h₈.get? c=some o:=fun c o hc e=>(hs₈.2 c hc).trans ((hs₇.2 c hc).trans (old6 c o e));have new8:h₈.get? s.heap.objs.size=some { cls:=An.type "tuple",data:=ED #[x,y] }:=by
  refine(hs₈.2 _ nzs).trans ((hs₇.2 _ nzs).trans ?_);show(h₅.push { cls:=An.type "tuple",data:=ED #[x,y] }).get? s.heap.objs.size=_;rw[<- sz];exact AQ _ rfl
 refine Au ⟨_,rfl,?_⟩;rw[show(({ s with heap:=h₅ }:AC).heap.objs.size)=s.heap.objs.size from sz];refine hQ h₈ ?_ ?_ ?_ new8 ?_ ?_
 ·rw[sz] at hz₈;exact hz₈
 ·exact h1b.keep (fun o e=>old8 i1 o D.i1z ((sb₅.2 i1 (BN D.TOi1)).trans ((sb₄.2 i1 D.i12).trans ((sb₃.2 i1 (BN D.TOi1)).trans e)))) (fun o e=>old8 l1 o D.l1z ((sb₅.2 l1 D.l1TO).trans ((sb₄.2 l1 D.l1i2).trans ((sb₃.2 l1 D.l1TO).trans e))))
 ·exact h2d.keep (fun o e=>old8 i2 o D.i2z ((sb₅.2 i2 (BN D.TOi2)).trans e)) (fun o e=>old8 l2 o D.l2z ((sb₅.2 l2 D.l2TO).trans e))
 ·rw[hs₈.1,hs₇.1];show(h₅.push { cls:=An.type "tuple",data:=ED #[x,y] }).objs.size=_;rw[B8,sz]
 intro c o hc1 hc2 hc3 hc4 e;exact old8 c o hc1 ((sb₅.2 c hc2).trans ((sb₄.2 c hc4).trans (old3 c o hc1 hc3 hc2 e)))
theorem Qz {prog:AV}{w:A6}{A:A7}{E:An->AC->Prop}{s:AC}{z TI TO i1 i2 l1 l2:Addr}{k1 k2:Nat}{xs ys:Array An}{x y a b:An}{Q:Option An->AC->Prop}(D:GB z TI TO i1 i2 l1 l2)(hz:IsZip s.heap z TI TO An.none)(hTI:DI s.heap TI (An.ref i1) (An.ref i2))(hTO:DI s.heap TO a b)
  (h1:Wlk s.heap i1 l1 k1 xs) (h2:Wlk s.heap i2 l2 k2 ys) (hx:xs[k1]?=some x) (hy:ys[k2]?=some y)
  (hQ:∀h':Heap,jY h' z TI TO s.heap.objs.size false->Wlk h' i1 l1 (k1+1) xs->Wlk h' i2 l2 (k2+1) ys->DI h' s.heap.objs.size x y->h'.objs.size=s.heap.objs.size+1->(∀c o,c≠z->c≠TO->c≠i1->c≠i2->s.heap.get? c=some o->h'.get? c=some o)->Q (some (An.ref s.heap.objs.size)) { s with heap:=h' }) :
  AG (A0 prog w) A (ES (An.ref z)) Q E s:=by
 have hT:∃o,s.heap.get? z=some o/\o.cls=An.type "zip" := ⟨_,hz,rfl⟩;exact Ap (DE (B5 hT FO (Cc FO hT F.entry_zip_next
  (Oa D hz hTI hTO h1 h2 hx hy fun h' a1 a2 a3 a4 a5 a6=>Au (hQ h' a1 a2 a3 a4 a5 a6)) (F.args_zip_next_1 (An.ref z)))))
theorem Vn {prog:AV}{w:A6}{A:A7}{E:An->AC->Prop}{s:AC}{z TI TO i1 i2 l1 l2 a:Addr}{ob:Bool}{k1 k2:Nat}{xs ys:Array An}{x y:An}{o:Obj}{Q:Option An->AC->Prop}(D:GB z TI TO i1 i2 l1 l2)(hz:jY s.heap z TI TO a ob)(ha:s.heap.get? a=some o)(hTI:DI s.heap TI (An.ref i1) (An.ref i2))
  (h1:Wlk s.heap i1 l1 k1 xs) (h2:Wlk s.heap i2 l2 k2 ys) (hx:xs[k1]?=some x) (hy:ys[k2]?=some y)
  (hQ:∀h':Heap,jY h' z TI TO a true->Wlk h' i1 l1 (k1+1) xs->Wlk h' i2 l2 (k2+1) ys->DI h' s.heap.objs.size x y->h'.objs.size=s.heap.objs.size+1->(∀c o,c≠z->c≠i1->c≠i2->s.heap.get? c=some o->h'.get? c=some o)->Q (some (An.ref s.heap.objs.size)) { s with heap:=h' }) :
  AG (A0 prog w) A (ES (An.ref z)) Q E s:=by
 have hT:∃o,s.heap.get? z=some o/\o.cls=An.type "zip" := ⟨_,hz,rfl⟩;exact Ap (DE (B5 hT FO (Cc FO hT F.entry_zip_next
  (TF D hz ha hTI h1 h2 hx hy fun h' a1 a2 a3 a4 a5 a6=>Au (hQ h' a1 a2 a3 a4 a5 a6)) (F.args_zip_next_1 (An.ref z)))))
theorem Yt {prog:AV}{w:A6}{A:A7}{E:An->AC->Prop}{s:AC}{z TI TO i1 i2 l1 l2 a:Addr}{ob:Bool}{k1:Nat}{xs:Array An}{o:Obj}{Q:Option An->AC->Prop}(hh:A.handled=none)(D:GB z TI TO i1 i2 l1 l2)(hz:jY s.heap z TI TO a ob)(ha:s.heap.get? a=some o)(hTI:DI s.heap TI (An.ref i1) (An.ref i2))
  (h1:Wlk s.heap i1 l1 k1 xs) (hx:xs[k1]?=none)
  (hQ:∀h':Heap,(∀c o,c≠z->c≠i1->s.heap.get? c=some o->h'.get? c=some o)->Q none { s with heap:=h' }):AG (A0 prog w) A (ES (An.ref z)) Q E s:=by
 have hT:∃o,s.heap.get? z=some o/\o.cls=An.type "zip" := ⟨_,hz,rfl⟩;exact Ap (DE (B5 hT FO (Cc FO hT F.entry_zip_next
  (Xp hh D hz ha hTI h1 hx fun h' e hk he=>by
   obtain⟨o,ho,hc⟩:=he;exact Ap (D5 ⟨o,ho,hc⟩ isSubtype_stop (Au (hQ h' hk)))) (F.args_zip_next_1 (An.ref z)))))
theorem fP:entryFor table "dict.update.loop" = some AI.«dict.update.loop»:=entryFor_of_tree (by rfl)
theorem sU {K:Type}[DecidableEq K](kvs:List (K×An))(k:K)(v:An):(HL kvs k v).length<=kvs.length+1:=by
 unfold HL;split
 ·rw[AF];omega
 rw[AK];simp
theorem J0 {prog:AV}{w:A6}{A:A7}{E:An->AC->Prop}{s:AC}{d p:Addr}{kvs:List (Key×An)}{k:Key}{u v:An}{hd:An->Sem (List An)}{el:List An->Sem Unit}{Q:Unit->AC->Prop}(hp:DI s.heap p u v)(hk:(aR prog w).is k u=true)(hd':s.heap.DictOf (aR prog w) d kvs)(hz:kvs.length<=AL)
  (hQ:∀h',h'.DictOf (aR prog w) d (HL kvs k v)->B4 d s.heap h'->Q () { s with heap:=h',toks:=s.toks+1 }) :
  AG (A0 prog w) A (DJ [An.ref p] (do
   let pair <- (AI.Dict.pairItems (An.ref p)).tryCatch hd
   match pair with
    | [k,v]=>DJ [k,v] (dictSet d k v)
    | l=>el l)) Q E s:=by
 refine BE (Ap ?_);refine wpAny_tryCatch ?_;unfold AI.Dict.pairItems;refine Ap (CY (T := "tuple") ⟨_,hp,rfl⟩ (B7 rfl ?_));refine Ap (CM hp rfl (Au ?_));show AG _ _ (DJ [u,v] (dictSet d u v)) _ _ _;exact BE (wpAny_dictSet_pairs hk hd' hQ hz)
structure ZM (prog:AV)(w:A6)(rs:List (Key×An))(xs ys:Array An):Prop where
 at_:∀(j:Nat) kv,rs[j]?=some kv->∃u,xs[j]?=some u/\(aR prog w).is kv.1 u=true/\ys[j]?=some kv.2
 end_:xs[rs.length]?=none
theorem Dv {prog:AV}{w:A6}{A:A7}{R:Result->AC->Prop}{z TI TO i1 i2 l1 l2 a d:Addr}{rs:List (Key×An)}{xs ys:Array An}(hh:A.handled=none)(D:GB z TI TO i1 i2 l1 l2)(S:ZM prog w rs xs ys)(dz:d≠z)(dTI:d≠TI)(d1:d≠i1)(d2:d≠i2)(dl1:d≠l1)(dl2:d≠l2) :
  ∀(m i:Nat)(s:AC)(ob:Bool)(kvs:List (Key×An)),rs.length-i=m->i<=rs.length->jY s.heap z TI TO a ob->(∃o,s.heap.get? a=some o)->a≠z->a≠i1->a≠i2->a≠d->DI s.heap TI (An.ref i1) (An.ref i2)->Wlk s.heap i1 l1 i xs->Wlk s.heap i2 l2 i ys->s.heap.DictOf (aR prog w) d kvs->kvs.length+m<=AL ->
   (∀(h':Heap)(t':Nat),h'.DictOf (aR prog w) d (merged kvs (rs.drop i))->(∀c o,c≠z->c≠i1->c≠i2->c≠d->s.heap.get? c=some o->h'.get? c=some o)->R (.ok (.ret .none)) { s with heap:=h',toks:=t' }) ->
   FC (A0 prog w) A (GO "dict.update.loop" { pos:=[An.ref d,An.ref z,FH i,An.none] }) R s
 | 0,i,s,ob,kvs,hm,hi,hz,⟨oa,ha⟩,az,a1,a2,ad,hTI,h1,h2,hd,hl,hR=>by
  have hi':i=rs.length:=ω;subst hi';refine C5 fP ?_;show AG _ _ (ES (An.ref z) >>= _) _ _ _;refine Ap (Yt (A:=A.under _) hh D hz ha hTI h1 S.end_ fun h' hk=>?_);show AG _ _ (AI.Dict.addKeywords d [] >>= _) _ _ _;refine Ap ?_;show AG _ _ (pure ()) _ _ _;refine Au (Au ?_);refine hR h' s.toks ?_ fun c o c1 c2 c3 c4 e=>hk c o c1 c2 e;rw[List.drop_length];obtain⟨o,es,ep,e,r⟩:=hd;exact⟨o,es,ep,hk d o dz d1 e,r⟩
 | m+1,i,s,ob,kvs,hm,hi,hz,⟨oa,ha⟩,az,a1,a2,ad,hTI,h1,h2,hd,hl,hR=>by
  have hlt:i<rs.length:=ω;have hrs:rs[i]?=some rs[i]:=AD hlt;obtain⟨u,hx,hk,hy⟩:=S.at_ i _ hrs;refine C5 fP ?_;show AG _ _ (ES (An.ref z) >>= _) _ _ _;refine Ap (Vn D hz ha hTI h1 h2 hx hy fun h' z1 w1 w2 pr sz old=>?_);have hd':h'.DictOf (aR prog w) d kvs:=by
   obtain⟨o,es,ep,e,r⟩:=hd;exact⟨o,es,ep,old d o dz d1 d2 e,r⟩
  refine Ap (J0 (s:={ s with heap:=h' }) pr hk hd' ω fun h'' hd'' sb=>?_);refine Au ⟨E3 _ ψ,?_⟩;show FC _ _ (GO "dict.update.loop" { pos:=[An.ref d,An.ref z,FH ((i:Int)+1),An.none] }) _ _;rw[show((i:Int)+1)=((i+1:Nat):Int) by omega];have old2:∀c o,c≠z->c≠i1->c≠i2->c≠d->s.heap.get? c=some o->h''.get? c=some o:=fun c o c1 c2 c3 c4 e=>(sb.2 c c4).trans (old c o c1 c2 c3 e);refine Dv hh D S dz dTI d1 d2 dl1 dl2 m (i+1) _ true (HL kvs rs[i].1 rs[i].2) ω ω ((sb.2 z (BN dz)).trans z1) ⟨oa,old2 a oa az a1 a2 ad ha⟩ az a1 a2 ad (old2 TI _ D.TIz D.TIi1 D.TIi2 (BN dTI) hTI) (w1.keep (fun o e=>(sb.2 i1 (BN d1)).trans e) (fun o e=>(sb.2 l1 (BN dl1)).trans e)) (w2.keep (fun o e=>(sb.2 i2 (BN d2)).trans e) (fun o e=>(sb.2 l2 (BN dl2)).trans e)) hd'' (by have:=sU kvs rs[i].1 rs[i].2;omega) fun h3 t3 hd3 old3=>?_;refine hR h3 t3 ?_ fun c o c1 c2 c3 c4 e=>old3 c o c1 c2 c3 c4 (old2 c o c1 c2 c3 c4 e);rw[Hd hlt];exact hd3
theorem TX {prog:AV}{w:A6}{A:A7}{R:Result->AC->Prop}{z TI TO i1 i2 l1 l2 d:Addr}{rs:List (Key×An)}{xs ys:Array An}{b1 b2:An}{s:AC}(hh:A.handled=none)(D:GB z TI TO i1 i2 l1 l2)(S:ZM prog w rs xs ys)(dz:d≠z)(dTI:d≠TI)(dTO:d≠TO)(d1:d≠i1)(d2:d≠i2)(dl1:d≠l1)(dl2:d≠l2)(hn:0<rs.length)(hl:rs.length<=AL)
  (hz:IsZip s.heap z TI TO An.none) (hTI:DI s.heap TI (An.ref i1) (An.ref i2)) (hTO:DI s.heap TO b1 b2) (h1:Wlk s.heap i1 l1 0 xs) (h2:Wlk s.heap i2 l2 0 ys) (hd:s.heap.DictOf (aR prog w) d [])
  (hR:∀(h':Heap)(t':Nat),h'.DictOf (aR prog w) d (merged [] rs)->(∀c o,c≠z->c≠TO->c≠i1->c≠i2->c≠d->s.heap.get? c=some o->h'.get? c=some o)->R (.ok (.ret .none)) { s with heap:=h',toks:=t' }) :
  FC (A0 prog w) A (GO "dict.update.loop" { pos:=[An.ref d,An.ref z,FH 0,An.none] }) R s:=by
 have hrs:rs[0]?=some rs[0]:=AD hn;obtain⟨u,hx,hk,hy⟩:=S.at_ 0 _ hrs;have fr:∀{c:Addr}{o:Obj},s.heap.get? c=some o->s.heap.objs.size≠c:=fun {c o} e q=>by
  have:=A4 e;rw[<- q] at this;exact C8 _ this
 have g1:∃o,s.heap.get? i1=some o:=by rcases h1 with⟨⟨o,e,_⟩,_⟩|⟨⟨o,e,_⟩,_⟩ <;> exact⟨o,e⟩
 have g2:∃o,s.heap.get? i2=some o:=by rcases h2 with⟨⟨o,e,_⟩,_⟩|⟨⟨o,e,_⟩,_⟩ <;> exact⟨o,e⟩
 obtain⟨o1,e1⟩:=g1;obtain⟨o2,e2⟩:=g2;have gd:∃o,s.heap.get? d=some o:=by obtain⟨o,_,_,e,_⟩:=hd;exact⟨o,e⟩
 obtain⟨od,ed⟩:=gd;refine C5 fP ?_;show AG _ _ (ES (An.ref z) >>= _) _ _ _;refine Ap (Qz D hz hTI hTO h1 h2 hx hy fun h' z1 w1 w2 pr sz old=>?_);have hd':h'.DictOf (aR prog w) d []:=by
  obtain⟨o,es,ep,e,r⟩:=hd;exact⟨o,es,ep,old d o dz dTO d1 d2 e,r⟩
 refine Ap (J0 (s:={ s with heap:=h' }) pr hk hd' (EI _) fun h'' hd'' sb=>?_);refine Au ⟨E3 _ ψ,?_⟩;show FC _ _ (GO "dict.update.loop" { pos:=[An.ref d,An.ref z,FH ((1:Nat):Int),An.none] }) _ _;have old2:∀c o,c≠z->c≠TO->c≠i1->c≠i2->c≠d->s.heap.get? c=some o->h''.get? c=some o:=fun c o c1 c5 c2 c3 c4 e=>(sb.2 c c4).trans (old c o c1 c5 c2 c3 e);refine Dv (a:=s.heap.objs.size) hh D S dz dTI d1 d2 dl1 dl2 (rs.length-1) 1 _ false (HL [] rs[0].1 rs[0].2) rfl hn ((sb.2 z (BN dz)).trans z1) ⟨_,(sb.2 _ (fr ed)).trans pr⟩ (fr hz) (fr e1) (fr e2) (fr ed) (old2 TI _ D.TIz D.TITO D.TIi1 D.TIi2 (BN dTI) hTI) (w1.keep (fun o e=>(sb.2 i1 (BN d1)).trans e) (fun o e=>(sb.2 l1 (BN dl1)).trans e)) (w2.keep (fun o e=>(sb.2 i2 (BN d2)).trans e) (fun o e=>(sb.2 l2 (BN dl2)).trans e)) hd'' (by have:=sU [] rs[0].1 rs[0].2;simp only[Fs] at this;omega) fun h3 t3 hd3 old3=>?_;refine hR h3 t3 ?_ fun c o c1 c5 c2 c3 c4 e=>old3 c o c1 c2 c3 c4 (old2 c o c1 c5 c2 c3 c4 e);have hm:merged [] rs=merged (HL [] rs[0].1 rs[0].2) (rs.drop 1):=by
  have:=Hd hn;rw[List.drop_zero] at this
  conv=>lhs;rw[this]
  rfl
 rw[hm];exact hd3
theorem zE {prog:AV}{w:A6}{A:A7}{E:An->AC->Prop}{s:AC}{z TI TO i1 i2 l1 l2:Addr}{rs:List (Key×An)}{xs ys:Array An}{b1 b2:An}{Q:An->AC->Prop}(hh:A.handled=none)(D:GB z TI TO i1 i2 l1 l2)(S:ZM prog w rs xs ys)(hn:0<rs.length)(hl:rs.length<=AL)(hb:C6<s.heap.objs.size)
  (hz:IsZip s.heap z TI TO An.none) (hTI:DI s.heap TI (An.ref i1) (An.ref i2)) (hTO:DI s.heap TO b1 b2) (h1:Wlk s.heap i1 l1 0 xs) (h2:Wlk s.heap i2 l2 0 ys)
  (hQ:∀(h':Heap)(t':Nat),h'.DictOf (aR prog w) s.heap.objs.size (merged [] rs)->(∀c o,c≠z->c≠TO->c≠i1->c≠i2->s.heap.get? c=some o->h'.get? c=some o)->Q (.ref s.heap.objs.size) { s with heap:=h',toks:=t' }) :
  AG (A0 prog w) A (call (An.type "dict") [An.ref z]) Q E s:=by
 have fr:∀{c:Addr}{o:Obj},s.heap.get? c=some o->s.heap.objs.size≠c:=fun {c o} e q=>by
  have:=A4 e;rw[<- q] at this;exact C8 _ this
 have g1:∃o,s.heap.get? i1=some o:=by rcases h1 with⟨⟨o,e,_⟩,_⟩|⟨⟨o,e,_⟩,_⟩ <;> exact⟨o,e⟩
 have g2:∃o,s.heap.get? i2=some o:=by rcases h2 with⟨⟨o,e,_⟩,_⟩|⟨⟨o,e,_⟩,_⟩ <;> exact⟨o,e⟩
 have k1:∃o,s.heap.get? l1=some o:=by rcases h1 with⟨_,⟨o,e,_⟩⟩|⟨_,⟨o,e,_⟩⟩ <;> exact⟨o,e⟩
 have k2:∃o,s.heap.get? l2=some o:=by rcases h2 with⟨_,⟨o,e,_⟩⟩|⟨_,⟨o,e,_⟩⟩ <;> exact⟨o,e⟩
 obtain⟨o1,e1⟩:=g1;obtain⟨o2,e2⟩:=g2;obtain⟨q1,f1⟩:=k1;obtain⟨q2,f2⟩:=k2;refine callType_codes F.kt_called_dict (F.kt_typeCall_dict_1 _) F.entry_dict_init (kt_code_dict_new _ (Q₁:=fun obj s₁=>obj=An.ref s.heap.objs.size/\s₁={ s with heap:=s.heap.push { cls:=An.type "dict",data:=F4 #[] } }) ⟨rfl,rfl⟩) fun obj s₁ q=>?_;obtain⟨rfl,rfl⟩:=q;have gd:(s.heap.push { cls:=An.type "dict",data:=F4 #[] }).get? s.heap.objs.size=some { cls:=An.type "dict",data:=F4 #[] }:=AQ _ rfl;have up:∀c o,s.heap.get? c=some o->(s.heap.push { cls:=An.type "dict",data:=F4 #[] }).get? c=some o:=fun c o e=>AB _ e;refine⟨⟨_,gd,rfl⟩,F.args_dict_init_2 _ _,?_⟩;unfold AI.«dict.__init__» AI.Dict.selfAndRest AI.Dict.notOrdered;refine Ap (Ap (B7 ψ ?_));refine Ap (CY (T := "dict") ⟨_,gd,rfl⟩ (AY rfl (Au ?_)));show AG _ _ (AI.Dict.addrOf (An.ref s.heap.objs.size) >>= _) _ _ _;refine Ap ?_;show AG _ _ (pure s.heap.objs.size) _ _ _;refine Au (Au ?_);show AG _ _ (AI.Dict.updateFrom "dict.__init__" s.heap.objs.size (An.ref z) [] An.none) _ _ _;unfold AI.Dict.updateFrom;refine Ap (CY (T := "zip") ⟨_,up z _ hz,rfl⟩ (B7 rfl ?_));refine Ap (yI (A:=A.in1.in1) hh (up z _ hz) fun h' tk kp=>?_);refine B7 rfl ?_;refine Ap (D8 ?_);have up2:∀c o,s.heap.get? c=some o->h'.get? c=some o:=fun c o e=>kp c o (up c o e);refine Ap (wpAny_pyIter_zip (up2 z _ hz) (Au ⟨E3 _ ψ,?_⟩));have hd0:h'.DictOf (aR prog w) s.heap.objs.size []:=by
  obtain⟨_,_,vs,kv,o,es,ep,e,r⟩:=su (P:=prog) (w:=w) (H:=fun _=>none) s.heap hb;cases kv;exact⟨o,es,ep,kp _ o e,r⟩
 refine TX (A:=A.in1) hh D S (fr hz) (fr hTI) (fr hTO) (fr e1) (fr e2) (fr f1) (fr f2) hn hl (up2 z _ hz) (up2 TI _ hTI) (up2 TO _ hTO) (h1.keep (fun o e=>up2 i1 o e) (fun o e=>up2 l1 o e)) (h2.keep (fun o e=>up2 i2 o e) (fun o e=>up2 l2 o e)) hd0 fun h3 t3 d3 old3=>?_;exact⟨rfl,hQ h3 t3 d3 fun c o c1 c2 c3 c4 e=>old3 c o c1 c2 c3 c4 (BN (fr e)) (up2 c o e)⟩
noncomputable def mz1 (h:Heap) (l1:Addr):Heap:=h.push { cls:=An.type "list_iterator",data:=EN #[An.ref l1,An.int 0 0] }
noncomputable def mz2 (h:Heap) (l1 l2:Addr):Heap:=(mz1 h l1).push { cls:=An.type "tuple_iterator",data:=EN #[An.ref l2,An.int 0 0] }
noncomputable def mz3 (h:Heap) (l1 l2:Addr):Heap:=(mz2 h l1 l2).push { cls:=An.type "tuple",data:=ED #[An.ref h.objs.size,An.ref (mz1 h l1).objs.size] }
noncomputable def mz4 (h:Heap) (l1 l2:Addr):Heap:=(mz3 h l1 l2).push { cls:=An.type "tuple",data:=ED #[An.none,An.none] }
noncomputable def mz5 (h:Heap) (l1 l2:Addr):Heap:=(mz4 h l1 l2).push { cls:=An.type "zip",data:=EN #[An.none,An.bool false,An.bool false,An.ref (mz2 h l1 l2).objs.size,An.ref (mz3 h l1 l2).objs.size] }
theorem Oc (l1 l2:Addr) (xs ys:Array An):Meets (AI.«zip.__new__» { pos:=[An.type "zip",An.ref l1,An.ref l2] }) fun _ R s=>
  s.heap.IsList l1 xs/\s.heap.IsTuple l2 ys/\R (.ok (.ret (.ref (mz4 s.heap l1 l2).objs.size))) { s with heap:=mz5 s.heap l1 l2 }:=by
 refine IR fun prog w A R s h=>?_;obtain⟨ht1,ht2,hR⟩:=h;unfold AI.«zip.__new__» AI.SmallTypes.newClass;refine Ap (Ap (Au (AY rfl (Ap (C9 sub_zip (AY rfl (Au ?_)))))));show AG _ _ (AI.SmallTypes.iterAll [An.ref l1,An.ref l2] >>= _) _ _ _;refine Ap ?_;unfold AI.SmallTypes.iterAll;refine Ap ?_;rw[EU];refine Ap (Ap (BE (DL ht1 (Au ?_))));show AG _ _ (forIn [An.ref l2] #[An.ref s.heap.objs.size] _) _ _ _;rw[EU];have ht2':(mz1 s.heap l1).IsTuple l2 ys:=by
  obtain⟨o,e,r⟩:=ht2;exact⟨o,AB _ e,r⟩
 refine Ap (Ap (BE (EW (s:={ s with heap:=mz1 s.heap l1 }) ht2' (Au ?_))));show AG _ _ (forIn [] #[An.ref s.heap.objs.size,An.ref (mz1 s.heap l1).objs.size] _) _ _ _;rw[forIn_nil];refine Au (Au ?_);show AG _ _ (IT [An.ref s.heap.objs.size,An.ref (mz1 s.heap l1).objs.size] >>= _) _ _ { s with heap:=mz2 s.heap l1 l2 };refine Ap (Fu ?_ (by show 2<=AL;decide));show AG _ _ (IT [An.none,An.none] >>= _) _ _ { s with heap:=mz3 s.heap l1 l2 };refine Ap (Fu ?_ (by show 2<=AL;decide));show AG _ _ (newObj (.type "zip") (.fields #[.none,.bool false,.bool false,.ref (mz2 s.heap l1 l2).objs.size,.ref (mz3 s.heap l1 l2).objs.size]) >>= fun r=>ret r) _ _ { s with heap:=mz4 s.heap l1 l2 };refine Ap (BG ?_);exact Au ⟨_,rfl,hR⟩
theorem Gm {prog:AV}{w:A6}{A:A7}{E:An->AC->Prop}{s:AC}{l1 l2:Addr}{xs ys:Array An}{Q:An->AC->Prop}(hl1:s.heap.IsList l1 xs)(hl2:s.heap.IsTuple l2 ys)
  (h:∀h':Heap,IsZip h' (s.heap.objs.size+4) (s.heap.objs.size+2) (s.heap.objs.size+3) An.none->DI h' (s.heap.objs.size+2) (An.ref s.heap.objs.size) (An.ref (s.heap.objs.size+1))->DI h' (s.heap.objs.size+3) An.none An.none->h'.IsListIter s.heap.objs.size l1 0->h'.IsTupleIter (s.heap.objs.size+1) l2 0 ->
   h'.objs.size=s.heap.objs.size+5->(∀c o,s.heap.get? c=some o->h'.get? c=some o)->Q (An.ref (s.heap.objs.size+4)) { s with heap:=h' }):AG (A0 prog w) A (call (An.type "zip") [An.ref l1,An.ref l2]) Q E s:=by
 refine callType_new F.called_zip δ (F.typeCall_zip_2 _ _) (F.newCall_zip_2 _ _) (fun obj=>F.args_object_init_3 obj _ _) F.entry_zip_new (Oc l1 l2 xs ys) ⟨hl1,hl2,?_⟩;have z1:(mz1 s.heap l1).objs.size=s.heap.objs.size+1:=B8 ..;have z2:(mz2 s.heap l1 l2).objs.size=s.heap.objs.size+2:=(B8 ..).trans (by rw[z1]);have z3:(mz3 s.heap l1 l2).objs.size=s.heap.objs.size+3:=(B8 ..).trans (by rw[z2]);have z4:(mz4 s.heap l1 l2).objs.size=s.heap.objs.size+4:=(B8 ..).trans (by rw[z3]);have z5:(mz5 s.heap l1 l2).objs.size=s.heap.objs.size+5:=(B8 ..).trans (by rw[z4]);have g5:(mz5 s.heap l1 l2).get? (mz4 s.heap l1 l2).objs.size=_:=AQ _ rfl;have g4:(mz5 s.heap l1 l2).get? (mz3 s.heap l1 l2).objs.size=_:=AB _ (AQ _ rfl);have g3:(mz5 s.heap l1 l2).get? (mz2 s.heap l1 l2).objs.size=_:=AB _ (AB _ (AQ _ rfl));have g2:(mz5 s.heap l1 l2).get? (mz1 s.heap l1).objs.size=_:=AB _ (AB _ (AB _ (AQ _ rfl)));have g1:(mz5 s.heap l1 l2).get? s.heap.objs.size=_:=AB _ (AB _ (AB _ (AB _ (AQ _ rfl))));have hk:∀c o,s.heap.get? c=some o->(mz5 s.heap l1 l2).get? c=some o:=fun c o e=>AB _ (AB _ (AB _ (AB _ (AB _ e))));rw[z4,z2,z3] at g5;rw[z3] at g4;rw[z2,z1] at g3;rw[z1] at g2;rw[z4];generalize mz5 s.heap l1 l2=h' at z5 g5 g4 g3 g2 g1 hk;exact⟨⟨_,g5,rfl⟩,h h' g5 g3 g4 ⟨_,g1,rfl,rfl⟩ ⟨_,g2,rfl,rfl⟩ z5 hk⟩
theorem Ko {P:AV}{w:A6}:∀{kvs:List (Key×V)}{its1 its2:List An}{ys:List V},Vals (kvs.map fun kv=>kV kv.1) its1->Vals ys its2->ys.take kvs.length=kvs.map (·.2) ->
  ∃rs,KV kvs rs/\rs.length=kvs.length/\its1.length=kvs.length/\∀(j:Nat) kv,rs[j]?=some kv->∃u,its1[j]?=some u/\(aR P w).is kv.1 u=true/\its2[j]?=some kv.2
 | [],its1,its2,ys,h1,h2,h3=>by
  cases h1;exact⟨[],.nil,rfl,rfl,fun j kv e=>by simp at e⟩
 | kv::kvs,its1,its2,ys,h1,h2,h3=>by
  cases h1 with
  | cons r1 t1=>
   rename_i u us;cases h2 with
   | nil=>simp at h3
   | cons r2 t2=>
    rename_i y v ys' vs;simp only[B6,List.take_succ_cons,D2,List.cons.injEq] at h3;obtain⟨rs,k1,k2,k4,k3⟩:=Ko (P:=P) (w:=w) t1 t2 h3.2;refine⟨(kv.1,v)::rs,.cons ⟨rfl,by rw[<- h3.1];exact r2⟩ k1,by simp [k2],by simp [k4],fun j q e=>?_⟩;cases j with
    | zero=>
     simp only[FR,Hm] at e;subst e;exact⟨u,by simp,Ah r1,by simp⟩
    | succ j=>
     rw[E4] at e;obtain⟨u',e1,e2,e3⟩:=k3 j q e;exact⟨u',by simpa using e1,e2,by simpa using e3⟩
noncomputable def ZX (K:AE)(ta:TA):TE:=fun σ H Q=>ta σ H fun vs H1=>∃(a b:Addr)(kvs:List (Key×V)) (ys:List V),vs=[.ref a,.ref b]/\(SqT K H1 a (kvs.map fun kv=>kV kv.1)\/SqL K H1 a (kvs.map fun kv=>kV kv.1))/\SqT K H1 b ys/\ys.take kvs.length=kvs.map (·.2)/\0<kvs.length/\kvs.length<=15/\∀p,H1 p=none->Q (.ref p) (upd H1 p (.dK (fB [] kvs)))
section
variable {X:Cx}
theorem Vz {a b:Expr}{ta:TA}{p p2 pos pos2:Pos}(hc:X.calm=true) (hgl:Gl X "dict") (hml:X.mg "dict" = none) (hg:Gl X "zip") (hm:X.mg "zip" = none) (ha:PA X [a,b] ta)
  (hs:AH [a,b] X.env=[(false,eval a X.env),(false,eval b X.env)]:=by rfl) (hs2:AH [b] X.env=[(false,eval b X.env)]:=by rfl)
  (he:AH [.Call (.Name "zip" p2) [a,b] [] pos2] X.env=[(false,eval (.Call (.Name "zip" p2) [a,b] [] pos2) X.env)]:=by rfl) :
  PE X (.Call (.Name "dict" p) [.Call (.Name "zip" p2) [a,b] [] pos2] [] pos) (ZX X.K ta):=by
 intro pins s σ H Q I h;refine ET (ji I hgl hml boot_dict ?_ δ δ);refine B0 ?_ he rfl;rw[he];show AG _ _ (spliced ((false,eval (.Call (.Name "zip" p2) [a,b] [] pos2) X.env)::[])) _ _ s;refine Co ?_;refine Call_ (ji I hg hm boot_zip (B0 (thA (ha pos2 pins s σ H _ I h) fun us s1 vs H1 I1 r1 q1=>?_) (by rw[hs,hs2]) (by rw[hs2];rfl)));obtain⟨l1,l2,kvs,ys,rfl,sq1,sq2,htk,hn,hl,q⟩:=q1;cases r1 with
 | cons r rr=>
  cases rr with
  | cons r' rr=>
   cases rr;cases r;cases r';have apart:l1<s1.heap.objs.size->l2<s1.heap.objs.size->GB (s1.heap.objs.size+4) (s1.heap.objs.size+2) (s1.heap.objs.size+3) s1.heap.objs.size (s1.heap.objs.size+1) l1 l2:=by
    generalize s1.heap.objs.size=n;intro lt1 lt2;have lt1':@LT.lt Nat _ l1 n:=lt1;have lt2':@LT.lt Nat _ l2 n:=lt2;constructor <;> (intro(z:@Eq Nat _ _);omega)
   obtain⟨its2,rv2,p2',hz2⟩:=I1.tuple sq2;have lt2:l2<s1.heap.objs.size:=by obtain⟨_,e,_⟩:=p2';exact A4 e
   have fin:∀(its1:List An)(h':Heap),Vals (kvs.map fun kv=>kV kv.1) its1->l1<s1.heap.objs.size->IsZip h' (s1.heap.objs.size+4) (s1.heap.objs.size+2) (s1.heap.objs.size+3) An.none->DI h' (s1.heap.objs.size+2) (An.ref s1.heap.objs.size) (An.ref (s1.heap.objs.size+1))->DI h' (s1.heap.objs.size+3) An.none An.none->Wlk h' s1.heap.objs.size l1 0 its1.toArray->Wlk h' (s1.heap.objs.size+1) l2 0 its2.toArray->h'.objs.size=s1.heap.objs.size+5->(∀c o,s1.heap.get? c=some o->h'.get? c=some o) ->
     AG (A0 X.prog X.w) X.A (call (An.type "dict") [An.ref (s1.heap.objs.size+4)]) (EP X pins σ Q) X.xe { s1 with heap:=h' }:=fun its1 h' rv1 lt1 b1 b2 b3 b4 b5 b6 hk=>by
    obtain⟨rs,k1,k2,k4,k3⟩:=Ko (P:=X.prog) (w:=X.w) rv1 rv2 htk;have I2:Inv X pins σ H1 { s1 with heap:=h' }:=I1.kept (t':=s1.toks) hk;refine zE (s:={ s1 with heap:=h' }) (rs:=rs) (xs:=its1.toArray) (ys:=its2.toArray) (I1.ok.hd hc) (apart lt1 lt2) ⟨fun j kv e=>?_,?_⟩ ω (Be (by omega:rs.length<=15) δ) I2.big b1 b2 b3 b4 b5 fun h3 t3 d3 old3=>?_
    ·obtain⟨u,e1,e2,e3⟩:=k3 j kv e;exact⟨u,by simpa using e1,e2,by simpa using e3⟩
    ·simp [k2,k4]
    have hp:H1 h'.objs.size=none:=I2.hok.fresh (A1 _);have le5:s1.heap.objs.size<=h'.objs.size:=by rw[b6];exact Nat.le_add_right _ _
    have kp3:∀c o,s1.heap.get? c=some o->h3.get? c=some o:=fun c o e=>by
     have lt:=A4 e;refine old3 c o ?_ ?_ ?_ ?_ (hk c o e) <;> (intro(z:@Eq Nat _ _);have lt':@LT.lt Nat _ c s1.heap.objs.size:=lt;omega)
    refine⟨.ref h'.objs.size,_,I1.laid (t':=t3) kp3 le5 (yt ?_ ?_ (KV.merge k1 .nil) d3),rfl,q _ hp⟩
    ·have:=gw kvs [];simp only[Fs] at this;exact Be (by omega:(fB [] kvs).length<=15) δ
    have:=I1.big;have ne:h'.objs.size≠C6:=by
     intro(z:@Eq Nat _ _);have t1:@LT.lt Nat _ C6 s1.heap.objs.size:=this;have t2:@LE.le Nat _ s1.heap.objs.size h'.objs.size:=le5;omega
    exact beq_false_of_ne ne
   rcases sq1 with sq1|sq1
   ·obtain⟨its1,rv1,p1',hz1⟩:=I1.tuple sq1;have lt1:l1<s1.heap.objs.size:=by obtain⟨_,e,_⟩:=p1';exact A4 e
    refine Gk p1' p2' fun h' b1 b2 b3 b4 b5 b6 hk=>Ch ?_;refine fin its1 h' rv1 lt1 b1 b2 b3 (.inl ⟨b4,?_⟩) (.inl ⟨b5,?_⟩) b6 hk
    ·obtain⟨o,e,r⟩:=p1';exact⟨o,hk _ o e,r⟩
    obtain⟨o,e,r⟩:=p2';exact⟨o,hk _ o e,r⟩
   obtain⟨its1,rv1,p1',hz1⟩:=I1.list sq1;have p1'':=p1'.isList;have lt1:l1<s1.heap.objs.size:=by obtain⟨_,e,_⟩:=p1'';exact A4 e
   refine Gm p1'' p2' fun h' b1 b2 b3 b4 b5 b6 hk=>Ch ?_;refine fin its1 h' rv1 lt1 b1 b2 b3 (.inr ⟨b4,?_⟩) (.inl ⟨b5,?_⟩) b6 hk
   ·obtain⟨o,e,r⟩:=p1'';exact⟨o,hk _ o e,r⟩
   obtain⟨o,e,r⟩:=p2';exact⟨o,hk _ o e,r⟩
end
noncomputable def dzQ (K:AE)(vs:List V)(H1:Hp)(Q:VK):Prop:=∃(a b:Addr)(kvs:List (Key×V)) (ys:List V),vs=[.ref a,.ref b]/\(SqT K H1 a (kvs.map fun kv=>kV kv.1)\/SqL K H1 a (kvs.map fun kv=>kV kv.1))/\SqT K H1 b ys/\ys.take kvs.length=kvs.map (·.2)/\0<kvs.length/\kvs.length<=15/\∀p,H1 p=none->Q (.ref p) (upd H1 p (.dK (fB [] kvs)))
noncomputable def tDZ (K:AE)(ta:TA):TE:=fun σ H Q=>ta σ H fun vs H1=>dzQ K vs H1 Q
theorem XC (K:AE)(ta:TA)(σ:St)(H:Hp)(Q:VK):tDZ K ta σ H Q=ta σ H fun vs H1=>dzQ K vs H1 Q:=rfl
noncomputable def dgQ (x y:V)(H:Hp)(Q:VK):Prop:=∃a v,x=.ref a/\uG H a y (some v)/\Q v H
noncomputable def tDG (td ty:TE):TE:=fun σ H Q=>td σ H fun x H1=>ty σ H1 fun y H2=>dgQ x y H2 Q
theorem XD (td ty:TE)(σ:St)(H:Hp)(Q:VK):tDG td ty σ H Q=td σ H fun x H1=>ty σ H1 fun y H2=>dgQ x y H2 Q:=rfl
noncomputable def dpQ (x y v:V)(H:Hp)(R:Hp->Prop):Prop:=∃a H4,x=.ref a/\Dm H a y v H4/\R H4
noncomputable def sDP (td ty tv:TE):TS:=fun D σ H=>tv σ H fun v H1=>td σ H1 fun x H2=>ty σ H2 fun y H3=>dpQ x y v H3 fun H4=>D.nx σ H4
theorem X3 (td ty tv:TE)(D:Ends)(σ:St)(H:Hp):sDP td ty tv D σ H=tv σ H fun v H1=>td σ H1 fun x H2=>ty σ H2 fun y H3=>dpQ x y v H3 fun H4=>D.nx σ H4:=rfl
noncomputable def daQ (x y:V)(H:Hp)(R:Addr->V->Prop):Prop:=∃a v,x=.ref a/\uG H a y (some v)/\R a v
noncomputable def dbQ (a:Addr)(y v y2:V)(H:Hp)(R:Hp->Prop):Prop:=aae v y2 H fun z H4=>∃H5,Dm H4 a y z H5/\R H5
noncomputable def sDA (td ty tv:TE):TS:=fun D σ H=>td σ H fun x H1=>ty σ H1 fun y H2=>daQ x y H2 fun a v=>tv σ H2 fun y2 H3=>dbQ a y v y2 H3 fun H5=>D.nx σ H5
theorem X4 (td ty tv:TE)(D:Ends)(σ:St)(H:Hp):sDA td ty tv D σ H=td σ H fun x H1=>ty σ H1 fun y H2=>daQ x y H2 fun a v=>tv σ H2 fun y2 H3=>dbQ a y v y2 H3 fun H5=>D.nx σ H5:=rfl
section
variable {X:Cx}{o i e value:Expr}{pos pos' tpos:Pos}{td ty tv:TE}
theorem aah {a b:Expr}{ta:TA}{p p2 pos pos2:Pos}(hc:X.calm=true) (hgl:Gl X "dict") (hml:X.mg "dict" = none) (hg:Gl X "zip") (hm:X.mg "zip" = none) (ha:QA X [a,b] ta)
  (hs:AH [a,b] X.env=[(false,eval a X.env),(false,eval b X.env)]:=by rfl) (hs2:AH [b] X.env=[(false,eval b X.env)]:=by rfl)
  (he:AH [.Call (.Name "zip" p2) [a,b] [] pos2] X.env=[(false,eval (.Call (.Name "zip" p2) [a,b] [] pos2) X.env)]:=by rfl) :
  QE X (.Call (.Name "dict" p) [.Call (.Name "zip" p2) [a,b] [] pos2] [] pos) (tDZ X.K ta):=⟨Vz hc hgl hml hg hm ha.h hs hs2 he⟩
theorem aai (hu:X.A.units+1<Ff)(ho:QE X o td)(hi:QE X i ty)(hs:ZQ i):QE X (.Subscript o i pos) (tDG td ty):=⟨VF hu ho.h hi.h hs⟩
theorem aaf (hu:X.A.units+1<Ff)(ho:QE X o td)(hi:QE X i ty)(hv:QE X value tv)(hs:HP value (some (.Subscript o i pos')) pos.line X.env=pure false) :
  QS X (.Assign [.Subscript o i pos'] value pos) (sDP td ty tv):=⟨Vg hu ho.h hi.h hv.h hs⟩
theorem aag (hu:X.A.units+1<Ff)(ho:QE X o td)(hi:QE X i ty)(hv:QE X value tv)
  (ha:∀ov iv new,augStore i ov iv new=(do DJ [new,ov,iv] (setItem ov iv new);release [new,ov,iv] [];pure .next)):QS X (.AugAssign (.Subscript o i tpos) .Add value pos) (sDA td ty tv):=⟨Vh hu ho.h hi.h hv.h Zt ha⟩
end
noncomputable def rdA:=AA @XC (AA @XD (AA @X3 @X4))
noncomputable def fX (zs:List Int):List (Key×V):=[(Da "is",V.int (zs.getD 0 0)),(Da "within",V.int (zs.getD 1 0)),(Da "below",V.int (zs.getD 2 0)),(Da "mask",V.int (zs.getD 3 0)),(Da "table",V.int (zs.getD 4 0))]
theorem FZ (zs:List Int):(fX zs).length=5:=rfl
theorem Nh {zs:List Int}(h:5<=zs.length):(zs.map V.int).take (fX zs).length=(fX zs).map (·.2):=by
 match zs,h with
 | a::b::c::d::e::_,_=>rfl
theorem WK (zs:List Int):(fB [] (fX zs)).length<AL:=by
 have:=gw (fX zs) [];rw[FZ,Fs] at this;exact IY this δ
theorem Sy (zs:List Int)(k:Key)(v:V):(putK (fB [] (fX zs)) k v).length<AL:=by
 have:=gw (fX zs) [];rw[FZ,Fs] at this;have h2:=gP (fB [] (fX zs)) k v;exact IY (by omega:_<=6) δ
theorem kne {a b:Str}(h:a≠b):¬(Da a:Key)=Da b:=fun e=>h (Da.inj e)
theorem Je (zs:List Int):jd (fB [] (fX zs)) (Da "table")=some (V.int (zs.getD 4 0)):=by
 unfold fB fX;simp only[foldl_cons,List.foldl_nil,Ds,Dt];exact if_pos trivial
noncomputable def Bt (zs:List Int) (n:Int):List (Key×V):=putK (putK (fB [] (fX zs)) (Da "table") (V.int (zs.getD 4 0+zs.getD 5 0*n))) (Da "pick") (V.int 0)
noncomputable def JF:Sp:=fun vs H Q _=>∃(s l:V)(z:Addr)(ok:Addr->Prop)(ss:Sts)(zs:List Int)(left:List Nat),vs=[s,.ref z,l]/\aH ok H s (.list (ss.map stD))/\aH ok H l (lJ left)/\Lf ss left/\H z=some (.tup (zs.map V.int))/\zs.length=6/\(-(2^64)<zs.getD 5 0/\zs.getD 5 0<2^64) /\
 ∀p H',Same H H'->H' p=some (.dK (Bt zs (bR ss left)))->Q (.ref p) H'
theorem PN (ss:Sts)(zs:List Int)(left:List Nat)(p:Pl):jd (Bt zs (bR ss left)) (Da (fD p))=some (V.int (eZ ss zs left p)):=by
 unfold Bt fB fX;simp only[foldl_cons,List.foldl_nil,Ds,Dt];cases p with
 | pick l=>
  rw[show fD (.pick l)=("pick" : Str) from rfl];rw[if_pos rfl];rfl
 | one k r=>
  rw[show fD (.one k r)=("is" : Str) from rfl];rw[if_neg (kne (a := "is") (b := "pick") ψ),if_neg (kne (a := "is") (b := "table") ψ),if_neg (kne (a := "is") (b := "table") ψ),if_neg (kne (a := "is") (b := "mask") ψ),if_neg (kne (a := "is") (b := "below") ψ),if_neg (kne (a := "is") (b := "within") ψ),if_pos rfl];rfl
 | wit k r=>
  rw[show fD (.wit k r)=("within" : Str) from rfl];rw[if_neg (kne (a := "within") (b := "pick") ψ),if_neg (kne (a := "within") (b := "table") ψ),if_neg (kne (a := "within") (b := "table") ψ),if_neg (kne (a := "within") (b := "mask") ψ),if_neg (kne (a := "within") (b := "below") ψ),if_pos rfl];rfl
 | low k a b=>
  rw[show fD (.low k a b)=("below" : Str) from rfl];rw[if_neg (kne (a := "below") (b := "pick") ψ),if_neg (kne (a := "below") (b := "table") ψ),if_neg (kne (a := "below") (b := "table") ψ),if_neg (kne (a := "below") (b := "mask") ψ),if_pos rfl];rfl
 | msk l r=>
  rw[show fD (.msk l r)=("mask" : Str) from rfl];rw[if_neg (kne (a := "mask") (b := "pick") ψ),if_neg (kne (a := "mask") (b := "table") ψ),if_neg (kne (a := "mask") (b := "table") ψ),if_pos rfl];rfl
 | tab=>
  rw[show fD (.tab)=("table" : Str) from rfl];rw[if_neg (kne (a := "table") (b := "pick") ψ),if_pos rfl];rfl
noncomputable def pk (c:Int×Int):List Int:=[c.1,c.2]
noncomputable def slc (ws:List Int)(i j:Nat):List Int:=(ws.drop i).take (j-i)
inductive Tr:List Int->Int->Prop
 | leaf (w:Int):Tr [w] 0
 | node {a b:List Int} {x y:Int}:Tr a x->Tr b y->Tr (a++b) ((a++b).sum+(x+y))
inductive PTr (ss:Sts)(ws:List Int):Nat->Nat->Pl->Int->Prop
 | leaf {i:Nat}:i<ss.length->PTr ss ws i (i+1) (.pick (bW ss i).2.2) 0
 | node {i k j:Nat} {a b:Pl} {x y:Int}:i<k->k<j->PTr ss ws i k a x->PTr ss ws k j b y->PTr ss ws i j (.low k a b) ((slc ws i j).sum+(x+y))
noncomputable def key2 (a b:Int):List Key:=[B9 a,B9 b]
theorem JM {n:Nat}(h:n<=1000000):n<AL:=IY h δ
open PySem.W (Frag clsIn findIn takerIn InstAt looks_clsIn looks_findIn looks_takesIn Looks check_slot looks_mroIn mroIn set_plain osa_eq)
open Builtin Builtin.ObjectAttr
noncomputable def vbm:List An:=[.type "ValueError",.type "Exception",.type "BaseException",.type "object"]
open PySem.W (Frag clsIn findIn takerIn InstAt looks_clsIn looks_findIn looks_takesIn Looks check_slot looks_mroIn mroIn handedIn handedOut_of)
structure XCls (K:AE)(C D N fI:Addr):Prop where
 obj:∃nm q bs sn sub ab col dd k0 k1 k2 k3 k5,K.lookup C=some (excClassObj nm q C N bs (.ref D::vbm) true sn sub ab col dd k0 k1 k2 k3 k5 "ValueError.__new__")
 tail:PySem.W.tailIn K vbm (.ref D::vbm)=true
 nsok:PySem.W.nsOkIn K N=true
 init:nsIn K N "__init__" = some (some (.ref fI))
 set:GY K (.ref C) "__setattr__" = some (some (.builtin "object.__setattr__"))
 ga:GY K (.ref C) "__getattribute__" = some (some (.builtin "BaseException.__getattribute__"))
 gk:GY K (.ref C) "__getattr__" = some none
noncomputable abbrev TJ:=St->Hp->(Hp->Prop)->Prop
open PySem.W (Frag clsIn findIn takerIn InstAt looks_clsIn looks_findIn looks_takesIn looks_specialIn specialIn takesIn Looks check_slot looks_mroIn mroIn handedIn handedOut_of class_get KitX)
open Builtin
mutual
noncomputable def noL:A3->Bool
 | .list _=>false
 | .tuple ds=>aay ds
 | _=>true
noncomputable def aay:List A3->Bool
 | []=>true
 | d::ds=>noL d&&aay ds
end
theorem zN {ok:Addr->Prop}{H:Hp}:∀gs:List Int,aG ok H (gs.map V.int) (gs.map A3.int)
 | []=>.nil
 | g::gs=>.cons (.int g) (zN gs)
section
variable {X:Cx}{o e i:Expr}{to te td ty:TE}{pos:Pos}
theorem Hu {pos:Pos}:QE X (.Dict [] [] pos) vY:=⟨QX⟩
theorem Xl {P:AV}{w:A6}{k:Key}{u:An}(h:(aR P w).is k u=true):RelV (kV k) u:=by
 rcases dB h with⟨i,t,rfl,rfl⟩|⟨x,t,rfl,rfl⟩
 ·exact⟨t,rfl⟩
 exact⟨t,rfl⟩
end
noncomputable def Zq:Pl->Bool
 | .pick _=>true
 | .tab=>true
 | _=>false
noncomputable def aaI (ss:Sts)(C:List (List Nat×Pl)):List (List Nat×Pl):=(C.map fun x=>sV ss x.2 x.1).flatten
noncomputable def RQ (S:List (List Nat×Pl)):Nat->Bool
 | 0=>false
 | i+1=>match S[i]? with
  | some x=>Zq x.2
  | none=>false
structure AhSt (ss:Sts)(S:List (List Nat×Pl))(tot:List (Nat×Nat))(i:Nat)(C:List (List Nat×Pl))(T:List Nat)(done:List (Nat×Nat)):Prop where
 fl:S.drop i=aaI ss C
 no:RQ S i=false->T.length+1=C.length/\tot=done++Zy (C.map (·.2)) T i
 yes:RQ S i=true->T.length=C.length/\((C=[]/\tot=done)\/∃t T',T=t::T'/\tot=done++(t,i)::Zy (C.map (·.2)) T' i)
theorem aH.Ol {ok:Addr->Prop}{H:Hp}{x:V}{ds:List A3}(t:aH ok H x (.tuple ds)):∃p xs,x=.ref p/\H p=some (.tup xs)/\aG ok H xs ds:=by
 cases t with
 | tup o e z ts=>exact⟨_,_,rfl,e,ts⟩
noncomputable def Bj:Sp:=fun vs H Q _=>∃(s l:V)(ok:Addr->Prop)(ss:Sts)(left:List Nat),vs=[s,l]/\aH ok H s (.list (ss.map stD))/\aH ok H l (lJ left)/\Lf ss left /\
 ∀(a:Addr),H a=none->Q (.ref a) (upd H a (.lst ((left.map (lbl ss)).map V.int)))
noncomputable def G9:Sp:=fun vs H Q _=>∃(p:Addr)(m B:Int),vs=[.ref p,.int m]/\cG H p B/\0<=B/\B<=900000/\1<=m/\m<=60 /\
 ∀(l:Addr)(ss:Sts) H',cL p H H'->cG H' p (B+2000)->aH (·≠p) H' (.ref l) (.list (ss.map stD))->(ss.length:Int)=m->GD ss->(∀s,ss[0]?=some s->s.1<=10^9)->Q (.ref l) H'
section
variable {X:Cx}{e o:Expr}{te to:TE}{pos:Pos}
theorem Q6:OpR X (Cn .IsNot) (fun x y H Q=>∃a b,x=.bl a/\y=.bl b/\Q (.bl (!decide (a=b))) H):=by
 intro pins s σ H x y v u Q I rx ry h;obtain⟨a,b,rfl,rfl,q⟩:=h;cases rx;cases ry;cases a <;> cases b <;> exact Au ⟨.bl _,H,I,rfl,q⟩
noncomputable def Z9:R2:=fun x y H Q=>∃(ok ok':Addr->Prop)(d:A3),aH ok H x d/\aH ok' H y d/\d.canLay0=true/\d.depth<=100/\Q (.bl false) H
theorem V2 (hu:X.A.units+200<Ff):OpR X (Cn .NotEq) Z9:=by
 intro pins s σ H x y v u Q I rx ry h;obtain⟨ok,ok',d,t1,t2,hc,hd,q⟩:=h;obtain⟨as,ra⟩:=t1.reads I rx;obtain⟨bs,rb⟩:=t2.reads I ry;refine SeqAt.rcNeAt_reads ra rb hc hc (by rw[Nat.min_self];omega) X.prog X.w X.xe (EP X pins σ Q) ⟨.bl false,H,I,?_,q⟩;rw[SeqAt.eqv_refl d hc];rfl
end
theorem uG.k' {H:Hp}{a:Addr}{kvs:List (Key×V)}{k:Key}{v:V}(e:H a=some (.dK kvs))(hv:jd kvs k=some v):uG H a (kV k) (some v):=by
 rw[<- hv];exact uG.k e
theorem ln1 {α:Type}{us:List α}(h:us.length=1):∃a,us=[a]:=by
 cases us with
 | nil=>cases h
 | cons a r=>
  cases r with
  | nil=>exact⟨a,rfl⟩
  | cons b r=>cases h
theorem ln2 {α:Type}{us:List α}(h:us.length=2):∃a0 a1,us=[a0,a1]:=by
 cases us with
 | nil=>cases h
 | cons a0 r=>
  obtain⟨a1,rfl⟩:=ln1 (Nat.succ.inj h);exact⟨a0,a1,rfl⟩
theorem ln3 {α:Type}{us:List α}(h:us.length=3):∃a0 a1 a2,us=[a0,a1,a2]:=by
 cases us with
 | nil=>cases h
 | cons a0 r=>
  obtain⟨a1,a2,rfl⟩:=ln2 (Nat.succ.inj h);exact⟨a0,a1,a2,rfl⟩
theorem ln4 {α:Type}{us:List α}(h:us.length=4):∃a0 a1 a2 a3,us=[a0,a1,a2,a3]:=by
 cases us with
 | nil=>cases h
 | cons a0 r=>
  obtain⟨a1,a2,a3,rfl⟩:=ln3 (Nat.succ.inj h);exact⟨a0,a1,a2,a3,rfl⟩
noncomputable def tV (i:Nat):TE:=fun σ H Q=>match σ[i]? with
 | some (some x)=>Q x H
 | _=>False
theorem Xg {i:Nat}{σ:St}{H:Hp}{Q:VK}(h:tV i σ H Q):Ou i σ H Q:=by
 unfold tV at h;split at h
 ·rename_i x e;exact⟨x,e,h⟩
 exact h.elim
section
variable {X:Cx}{i:Nat}{x:Str}{pos:Pos}
theorem ao (h:Nm X.N X.env.scope i x):QE X (.Name x pos) (tV i):=⟨fun pins s σ H Q I q=>(aaY h).h pins s σ H Q I (Xg q)⟩
theorem bh (i:Nat) {x:Str}{pos:Pos}(hN:X.N[i]?=some x:=by rfl) (hv:Vis X.env.scope x:=by first|exact C2 rfl|exact Or.inr (C2 rfl)|exact Or.inr (Or.inr rfl)) (hd:(x == ("__debug__" : Str))=false:=by decide)
  (hcd:(x == ("__classdict__" : Str))=false:=by decide):QE X (.Name x pos) (tV i):=⟨fun pins s σ H Q I q=>(aaX i hN hv hd hcd).h pins s σ H Q I (Xg q)⟩
end
noncomputable def atq (o:Option V)(H:Hp)(Q:VK):Prop:=∃v,o=some v/\Q v H
theorem Ti (v:V)(H:Hp)(Q:VK):atq (some v) H Q=Q v H:=propext ⟨fun⟨_,e,h⟩=>by cases e;exact h,fun h=>⟨v,rfl,h⟩⟩
theorem R4 (xs:List V)(i:Int)(H:Hp)(Q:VK):ixq (some (.lst xs)) i H Q=atq (atI xs i) H Q:=rfl
theorem R0 (xs:List V)(i:Int)(H:Hp)(Q:VK):ixq (some (.tup xs)) i H Q=atq (atI xs i) H Q:=rfl
theorem ZC {b:Bool}{P:Bool->Prop}:(∃k,V.bl b=V.bl k/\P k)=P b:=propext ⟨fun⟨_,e,h⟩=>by cases e;exact h,fun h=>⟨b,rfl,h⟩⟩
theorem WQ {a:Int}{P:Int->Prop}:(∃k,V.int a=V.int k/\P k)=P a:=propext ⟨fun⟨_,e,h⟩=>by cases e;exact h,fun h=>⟨a,rfl,h⟩⟩
theorem WN {a b:Int}{P:Int->Int->Prop}:(∃i j,V.int a=V.int i/\V.int b=V.int j/\P i j)=P a b:=propext ⟨fun⟨_,_,e,f,h⟩=>by cases e;cases f;exact h,fun h=>⟨a,b,rfl,rfl,h⟩⟩
theorem WM {a b:V}{P:V->V->Prop}:(∃i j,[a,b]=[i,j]/\P i j)=P a b:=propext ⟨fun⟨_,_,e,h⟩=>by cases e;exact h,fun h=>⟨a,b,rfl,h⟩⟩
theorem aaK {α:Type}(a b c d:α)(l:List α):atI (a::b::c::d::l) 3=some d:=dj (j:=3) rfl
noncomputable def ry0:=AA @G4.eq_1 (AA @G7.eq_1 (AA @Dy.eq_1 (AA @tOp.eq_1 (AA @rI.eq_1 (AA @rI0.eq_1 (AA @rU.eq_1 (AA @tUn.eq_1 (AA @tC.eq_1 (AA @Ov.eq_1 (AA @Dz.eq_1 (AA @vZ.eq_1 (AA @nR.eq_1 (AA @Bh.eq_1 (AA @tCB.eq_1 (AA @tIf.eq_1 (AA @O2.eq_1 (AA @tB.eq_1 (AA @Pa.eq_1 (AA @O1.eq_1 (AA @G5.eq_1 (AA @Dw.eq_1 (AA @yK.eq_1 (AA @lQ.eq_1 (AA @Zv.eq_1 (AA @Nf (AA @Ww (AA @Eh (AA @Qd (AA @Qf (AA @UG (AA @Xw.eq_1 (AA @Wz @Zw))))))))))))))))))))))))))))))))
noncomputable def ry1:=AA @Ei (AA @Lx (AA @Ly (AA @Us (AA @R4 (AA @R0 (AA @Ua (AA @Wn (AA @Wm (AA R5.1 (AA R5.2.1 (AA R5.2.2 (AA @aaM (AA @Tp (AA @aaL (AA @aq (AA @Qj (AA @RZ (AA @Zn (AA @kc_bool (AA @ty_int (AA @ZW (AA @ty_str (AA @Xu (AA @Xr (AA @T3 (AA @TY (AA @tD (AA @uX (AA @qO (AA @Bs @Ed))))))))))))))))))))))))))))))
noncomputable def ry2:=AA @yS (AA @Ec (AA @Hq (AA @Br (AA @Ea (AA @Ho (AA @Bp (AA @Bq (AA @Eb (AA @yR (AA @yQ (AA @Bo (AA @wC (AA @FL (AA @FA (AA @FI (AA @decide_true (AA @uH.eq_1 (AA @rEq.eq_1 (AA @rNe.eq_1 @Uz)))))))))))))))))))
noncomputable def ry3:=AA @Uy (AA @ZK (AA @Yc (AA @Ye (AA @aaF (AA @Lw (AA @Uc (AA @Xy.eq_1 (AA @G8.eq_1 (AA @PK (AA @PJ (AA @N8.eq_1 (AA @Xe.eq_1 (AA @Xo.eq_1 (AA @L2.start.eq_1 (AA @D2.{0,0} (AA @JI.{0,0} (AA @B6.{0} (AA @Fs.{0} (AA @List.cons_append.{0} (AA @List.nil_append.{0} (AA @FX.{0} (AA @List.replicate_zero.{0} (AA @CH.{0} (AA @FR.{0} @E4.{0}))))))))))))))))))))))))
noncomputable def ry4:=AA @F9.{0} (AA @Gc.{0} (AA @IU (AA @Hm.{0} (AA @exists_eq_left'.{1} (AA @SM (AA @WL (AA @OJ.eq_1 (AA @V.int.injEq (AA @V.str.injEq (AA @V.ref.injEq (AA @List.cons.injEq.{0} (AA @and_true (AA @true_and (AA @exists_and_left.{1} (AA @decide_eq_true_eq (AA @O9 (AA @Gz (AA @Cu (AA @K6 (AA @Qa (AA @Ud (AA @tSl.eq_1 (AA @Bg.eq_1 (AA @Oz.eq_1 @Ur))))))))))))))))))))))))
noncomputable def ry5:=AA @Bx (AA @Uo (AA @Uv (AA @Uu (AA @gZ (AA @jo (AA @jn (AA @T7 (AA @Om (AA @Oq (AA @T4 (AA @Oo (AA @T6 (AA @T5 (AA @O5.eq_1 (AA @vW.eq_1 (AA @vW.eq_2 (AA @Ow (AA @Vk (AA @Vj @G6.eq_1)))))))))))))))))))
noncomputable def ry6:=AA @aaK (AA @Ti (AA @ZC (AA @WQ (AA @WN @WM))))
noncomputable def rdy:=AA ry0 (AA ry1 (AA ry2 (AA ry3 (AA ry4 (AA ry5 (AA ry6 @tV.eq_1))))))
theorem bQ {K:AE}{h:Heap}{mg:Str->Option An}{x:Str}{st:Stmt}{ps:List Str}{f:Addr}{oc:An}{od an:Option Addr}{osl:Array (Option An)}{kV doc pm cdv ct:An}(X:K.In h)(G:h.Ns AJ mg)(a:nsIn K AJ x=some (some (.ref f)))
  (l:K.lookup f=some ⟨oc,od,.func (fnOf x x (bf st) (aW st) (aj st) .none kV doc pm an cdv ct),osl⟩) (c:CI K cdv x=true) (k:CB K (.ref f)=true)
  (hb:∀(kV doc pm:An)(an:Option Addr)(cdv ct:An)(us:List An),us.length=ps.length->bindArgs (fnOf x x (bf st) (aW st) (aj st) .none kV doc pm an cdv ct) ⟨us,[]⟩=pure (ps.zip us)):ZR K mg x st ps f (fnOf x x (bf st) (aW st) (aj st) .none kV doc pm an cdv ct):=
 ⟨Sv (st:=st) l c k,(Sv (st:=st) l c k).binds hb,mg_of X G a⟩
end L2
set_option maxHeartbeats 4100000
namespace SRT
open PySem PyProof.Rows
noncomputable def Ris (xs:Array Nat):Prop:=xs.toList.Pairwise (· < ·)
theorem Ris.lt {xs:Array Nat}(h:Ris xs){i k x y:Nat}(hx:xs[i]?=some x)(hy:xs[k]?=some y)(hik:i<k):x<y:=by
 rw[<- CS] at hx hy;obtain⟨h1,rfl⟩:=AW.mp hx;obtain⟨h2,rfl⟩:=AW.mp hy;exact List.pairwise_iff_getElem.mp h i k h1 h2 hik
theorem Wx {xs:Array Nat}(hr:Ris xs)(j:Nat):∀fuel lo hi,hi-lo<=fuel->lo<=hi->hi<=xs.size->(∀i x,xs[i]?=some x->i<lo->x<j)->(∀i x,xs[i]?=some x->hi<=i->j<=x) ->
  (∀i x,xs[i]?=some x->(i<AO.below.go xs j fuel lo hi↔x<j))/\AO.below.go xs j fuel lo hi<=xs.size:=by
 intro fuel
 induction fuel with
 | zero=>
  intro lo hi h1 h2 h3 h4 h5;have e:hi=lo:=ω;subst e;refine⟨fun i x hx=>⟨fun hl=>h4 i x hx hl,fun hl=>?_⟩,h3⟩;show i<hi;refine Nat.lt_of_not_le fun hle=>?_;have:=h5 i x hx hle;omega
 | succ fuel ih=>
  intro lo hi h1 h2 h3 h4 h5;show(∀i x,xs[i]?=some x->(i<(if lo<hi then if xs.getD ((lo+hi)/2) j<j then AO.below.go xs j fuel ((lo+hi)/2+1) hi else AO.below.go xs j fuel lo ((lo+hi)/2) else lo)↔x<j))/\(if lo<hi then if xs.getD ((lo+hi)/2) j<j then AO.below.go xs j fuel ((lo+hi)/2+1) hi else AO.below.go xs j fuel lo ((lo+hi)/2) else lo)<=xs.size;by_cases hl:lo<hi
  ·rw[if_pos hl];have hm:(lo+hi)/2<xs.size:=ω;have hg:xs[(lo+hi)/2]?=some xs[(lo+hi)/2]:=by simp [hm]
   have hd:xs.getD ((lo+hi)/2) j=xs[(lo+hi)/2]:=by simp [Array.getD,hm]
   rw[hd];by_cases hc:xs[(lo+hi)/2]<j
   ·rw[if_pos hc];refine ih _ _ ω ω h3 (fun i x hx hi'=>?_) h5;by_cases e:i=(lo+hi)/2
    ·subst e;rw[hg] at hx;cases hx;exact hc
    exact lt_trans (hr.lt hx hg ω) hc
   rw[if_neg hc];refine ih _ _ ω ω ω h4 (fun i x hx hi'=>?_);by_cases e:i=(lo+hi)/2
   ·subst e;rw[hg] at hx;cases hx;omega
   have:=hr.lt hg hx ω;omega
  rw[if_neg hl];have e:hi=lo:=ω;subst e;refine⟨fun i x hx=>⟨fun hl=>h4 i x hx hl,fun hl=>?_⟩,h3⟩;refine Nat.lt_of_not_le fun hle=>?_;have:=h5 i x hx hle;omega
theorem qI {xs:Array Nat}(hr:Ris xs)(j:Nat):(∀i x,xs[i]?=some x->(i<AO.below xs j↔x<j))/\AO.below xs j<=xs.size:=by
 unfold AO.below;refine Wx hr j _ _ _ ω ω (A1 _) (fun _ _ _ h=>absurd h ω) fun i x hx hi=>?_;have:=(Array.getElem?_eq_some_iff.mp hx).1;omega
theorem Gx {xs:Array Nat}(hr:Ris xs){j:Nat}(hn:xs[AO.below xs j]?≠some j):∀x∈xs.toList,x≠j:=by
 intro x hx e;subst e;obtain⟨i,hi,e⟩:=CU.mp hx;have hg:xs[i]?=some x:=by rw[<- CS,AD hi,e]
 have hs:=qI hr x;have h1:=(hs.1 i x hg);have h2:AO.below xs x<=i:=by
  refine Nat.le_of_not_lt fun h=>?_;exact C8 _ (h1.mp h)
 rcases FK (AO.below xs x) i with h|h
 ·have hi':i<xs.size:=by simpa using hi
  have hb:AO.below xs x<xs.size:=ω;have hgb:xs[AO.below xs x]?=some xs[AO.below xs x]:=by simp [hb]
  have l1:=hr.lt hgb hg h;have:=(hs.1 _ _ hgb).mpr l1;omega
 have e:AO.below xs x=i:=ω;rw[e] at hn;exact hn hg
theorem zq {α:Type}(xs:Array α)(p:Nat)(x:α):(AO.insertAt xs p x).toList=xs.toList.take p++x::xs.toList.drop p:=by
 unfold AO.insertAt;simp [Array.toList_extract,List.extract,Fc]
theorem Hr {xs:Array Nat}(hr:Ris xs){j:Nat}(hn:xs[AO.below xs j]?≠some j):Ris (AO.insertAt xs (AO.below xs j) j):=by
 have hs:=qI hr j;have hne:=Gx hr hn;show(AO.insertAt xs (AO.below xs j) j).toList.Pairwise (· < ·);rw[zq];have hx:xs.toList.Pairwise (· < ·):=hr;rw[List.pairwise_append,DD];refine⟨hx.sublist (List.take_sublist _ _),⟨fun y hy=>?_,hx.sublist (List.drop_sublist _ _)⟩,fun a ha b hb=>?_⟩
 ·obtain⟨i,hi,e⟩:=CU.mp hy;rw[List.getElem_drop] at e;have hl:AO.below xs j+i<xs.toList.length:=by rw[EB] at hi;omega
  have hg:xs[AO.below xs j+i]?=some y:=by rw[<- CS,AD hl,e]
  have h1:=hs.1 _ _ hg;have h2:=hne y (GH hy);have:¬(y<j):=fun h=>by have:=h1.mpr h;omega
  omega
 have l1:a<j:=by
  obtain⟨i,hi,e⟩:=CU.mp ha;rw[List.getElem_take] at e;have hl:i<AO.below xs j/\i<xs.toList.length:=by rw[EA] at hi;omega
  have hg:xs[i]?=some a:=by rw[<- CS,AD hl.2,e]
  exact(hs.1 _ _ hg).mp hl.1
 rcases Bi.mp hb with rfl|hb
 ·exact l1
 obtain⟨i,hi,e⟩:=CU.mp hb;rw[List.getElem_drop] at e;have hl:AO.below xs j+i<xs.toList.length:=by rw[EB] at hi;omega
 have hg:xs[AO.below xs j+i]?=some b:=by rw[<- CS,AD hl,e]
 have h1:=hs.1 _ _ hg;have:¬(b<j):=fun h=>by have:=h1.mpr h;omega
 omega
noncomputable def TOk (b:Bool)(t:AO):Prop:=Ris t.place/\t.dummies=#[]/\t.led=b
theorem Lg {b:Bool}{t:AO}(h:TOk b t)(p:Bool):TOk b { t with plain:=p }:=h
theorem Ls (n:Nat):Ris (Array.range n):=by
 show(Array.range n).toList.Pairwise (· < ·);rw[Array.toList_range];exact Hn
theorem j6 {b:Bool}{t:AO}(h:TOk b t)(n:Nat):TOk b (t.standIn n):=⟨Ls n,rfl,h.2.2⟩
theorem yJ {b:Bool}{t:AO}(h:TOk b t)(n:Nat):TOk b (t.orStandIn n):=by
 unfold AO.orStandIn;split
 ·exact h
 exact j6 h n
theorem Lh (f m:Nat)(b:Bool):TOk b (AO.fresh f m b):=⟨List.Pairwise.nil,rfl,rfl⟩
theorem Hw {t:AO}(hd:t.dummies=#[]){f:Nat->Int}{h:Int}(hf:∀i,(f i == h)=false):∀(fuel:Nat)(p:AO.Probe),p.dummy=none ->
  ∀m,AO.probe.go t f h fuel p=some m->∃j,m=.empty j none/\t.place[AO.below t.place j]?≠some j:=by
 intro fuel
 induction fuel with
 | zero=>intro p _ m e;exact absurd e (by simp [AO.probe.go])
 | succ fuel ih=>
  intro p hp m e;unfold AO.probe.go at e;have hnd:∀j,AO.has t.dummies j=false:=fun j=>by rw[hd];simp [AO.has]
  have hadv:∀q:AO.Probe,q.dummy=none->(t.advance q).dummy=none:=fun q hq=>by
   unfold AO.advance;split
   ·exact hq
   exact hq
  split at e
  ·rename_i hs;cases e;refine⟨p.j,by rw[hp],fun hc=>?_⟩;unfold AO.slot at hs;simp [hc] at hs
  ·rename_i hs;unfold AO.slot at hs;dsimp only at hs;split at hs
   ·cases hs
   rw[hnd] at hs;simp at hs
  rw[hf,if_neg (by simp)] at e;exact ih _ (hadv _ hp) m e
theorem FW {t:AO}(hd:t.dummies=#[]){h:Int}{j:Nat}{b:Bool}(e:t.freeSlot h=some (j,b)):t.place[AO.below t.place j]?≠some j:=by
 unfold AO.freeSlot AO.probe at e;split at e
 ·rename_i j' d hp;obtain⟨j2,e2,hn⟩:=Hw hd (f:=fun _=>h+1) (h:=h) (fun i=>by simp;omega) _ _ rfl _ hp;cases e2;simp at e;rw[<- e.1];exact hn
 cases e
theorem Ik {b:Bool}{t:AO}(ht:TOk b t)(es:Array (Int×An))(h:Int)(x:An):TOk b (layNew t es h x).2.1:=by
 unfold layNew;split
 ·rename_i slot wd hs;have hn:=FW ht.2.1 hs;refine yJ ?_ _;unfold AO.put;refine⟨Hr ht.1 hn,?_,ht.2.2⟩;show(if AO.has t.dummies slot=true then AO.eraseAt t.dummies (AO.below t.dummies slot) else t.dummies)=#[];rw[ht.2.1];rfl
 exact j6 ht _
theorem Bv {b:Bool}{t:AO}(ht:TOk b t)(es:Array (Int×An))(n:Nat):TOk b (relayAll t es n).2.1:=by
 unfold relayAll;split
 ·rename_i t' order hr;dsimp only;split
  ·unfold AO.relaid AO.laid at hr;cases ho:AO.layClean (AO.sizeAbove n-1) (es.map (·.1)) with
   | none=>rw[ho] at hr;cases hr
   | some owner=>
    rw[ho] at hr;simp only[Option.bind_eq_bind,Option.bind_some,Option.pure_def,Hm,Prod.mk.injEq] at hr;obtain⟨rfl,-⟩:=hr;refine⟨?_,rfl,ht.2.2⟩;show(List.map _ _).toArray.toList.Pairwise (· < ·);rw[List.toList_toArray,List.pairwise_map,List.pairwise_filterMap];refine Hn.imp fun {a c} hac p hp q hq=>?_;simp only[Bz] at hp hq;obtain⟨_,_,rfl⟩:=hp;obtain⟨_,_,rfl⟩:=hq;exact hac
  exact j6 ht _
 exact j6 ht _
end SRT
namespace SRT
open PySem PyProof.Rows
section
variable {prog:AV}{w:A6}{K:Type}[DecidableEq K]
noncomputable def SetT (knd:KeyKind prog w K)(b:Bool)(h:Heap)(a:Addr)(S:K->Bool)(n:Nat):Prop:=
 ∃o es ep t,h.get? a=some o/\o.ExactSet/\o.data=.set es ep t/\(ElemsOf knd es.toList/\(∀k,S k=true ↔ ∃e∈es.toList,knd.is k e.2=true)/\es.size<FU)/\t.fits es.size=true/\es.size=n/\TOk b t
variable {knd:KeyKind prog w K}{A:A7}{E:An->AC->Prop}{s:AC}{b:Bool}
theorem SetT.get {h h':Heap}{a:Addr}{S:K->Bool}{n:Nat}(hS:SetT knd b h a S n)(hk:∀o,h.get? a=some o->h'.get? a=some o):SetT knd b h' a S n:=
 let ⟨o,es,ep,t,ho,r⟩:=hS;⟨o,es,ep,t,hk o ho,r⟩
theorem SetT.congr {h:Heap}{a:Addr}{S S':K->Bool}{n n':Nat}(hS:SetT knd b h a S n)(e:∀k,S k=S' k)(en:n=n'):SetT knd b h a S' n':=by
 have:S=S':=funext e;subst this;subst en;exact hS
theorem zU {h:Heap}{a:Addr}{o:Obj}{es:Array (Int×An)}{ep:Nat}{t:AO}(ho:h.get? a=some o)(hex:o.ExactSet)(hd:o.data=.set es ep t)
  {es':Array (Int×An)} {t':AO} {S':K->Bool} (hel:ElemsOf knd es'.toList/\(∀k,S' k=true ↔ ∃e∈es'.toList,knd.is k e.2=true)/\es'.size<FU) (hf:t'.fits es'.size=true) (ht:TOk b t') :
  (h.update a (Obj.putSet es' t')).get? a=some { o with data:=.set es' (ep+1) t' }/\SetT knd b (h.update a (Obj.putSet es' t')) a S' es'.size:=by
 have hg:(h.update a (Obj.putSet es' t')).get? a=some { o with data:=.set es' (ep+1) t' }:=by
  have q:=F3 (Obj.putSet es' t') ho (by rw[putSet_of es' t' hd];rfl);rw[putSet_of es' t' hd] at q;exact q
 exact⟨hg,_,es',ep+1,t',hg,hex,rfl,hel,hf,rfl,ht⟩
theorem GC {g:Bool->Sem Unit}(hg:∀(c:Bool)(s₁:AC)(Q':Unit->AC->Prop),Q' () s₁->AG (A0 prog w) A (g c) Q' E s₁)
  {a:Addr} {o:Obj} {es:Array (Int×An)} {ep:Nat} {t:AO} (ho:s.heap.get? a=some o) (hex:o.ExactSet) (hd:o.data=.set es ep t)
  {es1:Array (Int×An)} {t2:AO} {S':K->Bool} (hel:ElemsOf knd es1.toList/\(∀k,S' k=true ↔ ∃e∈es1.toList,knd.is k e.2=true)/\es1.size<FU)
  (hf:t2.fits es1.size=true) (ht:TOk b t2) {wd:Bool} {R:Option Bool->AC->Prop}
  (h:∀h',B4 a s.heap h'->SetT knd b h' a S' es1.size->R (some true) { s with heap:=h' }) :
  AG (A0 prog w) A (storeSet a es1 t2 >>= fun _=>if (!wd&&t2.tooFull)=true then (g (relayAll t2 es1 (AO.grown es1.size)).2.2 >>= fun _=>storeSet a (relayAll t2 es1 (AO.grown es1.size)).1 (relayAll t2 es1 (AO.grown es1.size)).2.1 >>= fun _=>pure (some true)) else pure (some true)) R E s:=by
 refine Ap (wpAny_storeSet_of ho hd ?_ (fits_of_scanBound hel.2.2));obtain⟨ho1,hS1⟩:=zU (knd:=knd) ho hex hd hel hf ht;have hsb1:=B4.update s.heap a (Obj.putSet es1 t2);by_cases hc:(!wd&&t2.tooFull)=true
 ·rw[if_pos hc];have hp:=relayAll_perm t2 es1 (AO.grown es1.size);have hfr:=relayAll_fits t2 es1 (AO.grown es1.size);have htr:=Bv ht es1 (AO.grown es1.size);generalize relayAll t2 es1 (AO.grown es1.size)=Rl at hp hfr htr |-;obtain⟨es2,t3,gv⟩:=Rl;dsimp only at hp hfr htr |-;have hsz:es2.size=es1.size:=by rw[<- D3,hp.length_eq,D3]
  have hel2:ElemsOf knd es2.toList/\(∀k,S' k=true ↔ ∃e∈es2.toList,knd.is k e.2=true)/\es2.size<FU:=
   ⟨hel.1.perm hp,fun k=>(hel.2.1 k).trans ⟨fun⟨e,he,q⟩=>⟨e,hp.mem_iff.mpr he,q⟩,fun⟨e,he,q⟩=>⟨e,hp.mem_iff.mp he,q⟩⟩,by rw[hsz];exact hel.2.2⟩
  refine Ap (hg _ _ _ (Ap (wpAny_storeSet_of ho1 rfl ?_ (fits_of_scanBound hel2.2.2))));obtain⟨_,hS2⟩:=zU (knd:=knd) ho1 hex rfl hel2 hfr htr;rw[hsz] at hS2;exact Au (h _ (hsb1.trans (B4.update _ a _)) hS2)
 rw[if_neg hc];exact Au (h _ hsb1 hS1)
theorem Py {a:Addr}{S:K->Bool}{n:Nat}{k:K}{x:An}{Q:Bool->AC->Prop}(hkey:knd.is k x=true)(hsc:x.scannable=true)(hS:SetT knd b s.heap a S n)(hroom:n+1<FU)
  (h:∀h',B4 a s.heap h'->SetT knd b h' a (fun k'=>S k'||decide (k'=k)) (if S k then n else n+1)->Q (!S k) { s with heap:=h' }) :
  AG (A0 prog w) A (setAddHashed a x (knd.hash k)) Q E s:=by
 obtain⟨o,es,ep,t,ho,hex,hd,hel,hf,hn,ht⟩:=hS;unfold setAddHashed setAddHashedIn;refine BE (Ap (wpAny_setState_of ho hd hf ?_));dsimp only;rw[byScan_of hsc hel.2.2 hel.1,if_pos rfl];unfold setAddByScan;refine Ap (Ap (D8 (Ap (wpAny_setScan_of hkey ho hd hf hel.1 ?_))));cases hr:List.findIdx? (fun e=>knd.is k e.2) es.toList with
 | some j=>
  dsimp only;obtain⟨hj,hpj,_⟩:=List.findIdx?_eq_some_iff_getElem.mp hr;have hSk:S k=true:=(hel.2.1 k).mpr ⟨es.toList[j],FS hj,hpj⟩;refine Au (Au ?_);have q:=h s.heap (B4.refl a s.heap) ⟨o,es,ep,t,ho,hex,hd,⟨hel.1,fun k'=>by
   rw[Bool.or_eq_true,decide_eq_true_eq,<- hel.2.1 k'];exact⟨fun hk=>hk.elim id (fun e=>e ▸ hSk),.inl⟩,hel.2.2⟩,hf,by rw[hSk];exact hn,ht⟩
  rw[hSk] at q;exact q
 | none=>
  dsimp only;have hSk:S k=false:=by
   cases hk:S k with
   | false=>rfl
   | true=>
    obtain⟨e,he,hp⟩:=(hel.2.1 k).mp hk;have q:=List.findIdx?_eq_none_iff.mp hr e he;rw[hp] at q;exact Bool.noConfusion q
  have hgw:∀(c:Bool){s₁:AC}{Q':Unit->AC->Prop},Q' () s₁->AG (A0 prog w) A (match c with|true=>rule "set.scan.the-table-gave-way" | false=>pure ()) Q' E s₁:=
   fun c s₁ Q' hq=>by cases c <;> first|exact Au hq|exact D8 hq
  have hperm:=layNew_perm t es (knd.hash k) x;have hfits:=layNew_fits t es (knd.hash k) x;have htok:=Ik ht es (knd.hash k) x;generalize layNew t es (knd.hash k) x=L at hperm hfits htok |-;obtain⟨es1,t1,wd,gv⟩:=L;dsimp only at hperm hfits htok |-;rw[toList_push] at hperm;have hsz1:es1.size=n+1:=by rw[<- D3,hperm.length_eq,AK,D3,hn];rfl
  have hel1:ElemsOf knd es1.toList/\(∀k',(S k'||decide (k'=k))=true ↔ ∃e∈es1.toList,knd.is k' e.2=true)/\es1.size<FU:=
   ⟨(hel.1.push hkey hsc).perm hperm,mem_push_iff hkey hel.2.1 hperm,by rw[hsz1];exact hroom⟩
  have hend:∀h',B4 a s.heap h'->SetT knd b h' a (fun k'=>S k'||decide (k'=k)) es1.size->Q true { s with heap:=h' }:=by
   intro h' hsb hS';have q:=h h' hsb;rw[hSk] at q;rw[hsz1] at hS';exact q hS'
  refine Ap (hgw _ ?_);by_cases hpl:t1.plain=true
  ·rw[if_pos hpl,hashByValue_scannable 8 hsc];refine Ap (Au ?_);refine GC (b:=b) ?_ ho hex hd hel1 (t2:=if plainKind x=true then t1 else { t1 with plain:=false }) ?_ ?_ ?_
   ·intro c s₁ Q' hq;cases c <;> first|exact Au hq|exact D8 hq
   ·split
    ·exact hfits
    exact AO.fits_plain_off hfits
   ·split
    ·exact htok
    exact Lg htok false
   intro h' hsb hS';dsimp only;exact Au (hend h' hsb hS')
  rw[if_neg hpl];refine Ap (Au ?_);refine GC (b:=b) ?_ ho hex hd hel1 hfits htok ?_
  ·intro c s₁ Q' hq;cases c <;> first|exact Au hq|exact D8 hq
  intro h' hsb hS';dsimp only;exact Au (hend h' hsb hS')
end
end SRT
namespace SRT
open PySem PyProof.Rows
noncomputable abbrev bt (w:A6):Bool:=w.params.followText "set-order"
section
variable {prog:AV}{w:A6}{A:A7}{R:Result->AC->Prop}{I:Addr}{fp wr:List Addr}{G:Array GenState->Array GenState->Prop}{n:Nat}{P:Nat->An->Prop}{St:Nat->AC->Prop}{b:Bool}
theorem Oj (W:WalksS prog w A.in1 I fp wr G n P St)(S:Addr)(hSf:S∉fp)(val:Nat->Int)(hval:∀i v,P i v->∃t,v=.int (val i) t)(hb:n+1<FU) :
  ∀(k i:Nat)(s:AC),n-i=k->i<=n->St i s->SetT (F6 prog w) b s.heap S (fun k'=>(E6 val i).any (· == k')) (E6 val i).length ->
   (∀s',Moved (S::wr) G s s'->SetT (F6 prog w) b s'.heap S (fun k'=>(E6 val n).any (· == k')) (E6 val n).length->R (.ok (.ret .none)) s') ->
   FC (A0 prog w) A (.builtin "set.update.loop" ⟨[.ref S,.ref I],[]⟩) R s:=by
 have hSw:S∉wr:=fun h=>hSf (W.sub _ h);have hsub:∀c∈wr,c∈S::wr:=fun c hc=>BS _ hc;intro k
 induction k with
 | zero=>
  intro i s hk hi hst hS hR;have hin:i=n:=ω;subst hin;refine C5 F.entry_set_update_loop ?_;rw[A7.under_plainId HR _];show AG _ A.in1 (ES (.ref I) >>= _) _ _ s;refine Ap (W.done s _ _ hst fun s' hm=>?_);show AG _ A.in1 (ret An.none) _ _ s';exact Au (hR s' (hm.mono hsub) (hS.get fun o e=>hm.heap S _ hSw e))
 | succ k ih=>
  intro i s hk hi hst hS hR;have hlt:i<n:=ω;refine C5 F.entry_set_update_loop ?_;rw[A7.under_plainId HR _];show AG _ A.in1 (ES (.ref I) >>= _) _ _ s;refine Ap (W.item i s _ _ hlt hst fun v s' hP hst' hm=>?_);obtain⟨t,rfl⟩:=hval i v hP;have hS':=hS.get fun o e=>hm.heap S _ hSw e;show AG _ A.in1 (DJ [An.int (val i) t] (setAdd S (.int (val i) t)) >>= _) _ _ s';refine Ap (BE ?_);unfold setAdd;refine BE (Ap ((F6 prog w).pyHash (k:=val i) (intKind_is _ _ _ _) ?_));have hroom:(E6 val i).length+1<FU:=by have:=firstMet_length_le val i;omega
  refine Py (knd:=F6 prog w) (s:={ s' with toks:=s'.toks+1 }) (intKind_is _ _ _ _) rfl hS' hroom fun h' hsb hS2=>?_;have hSi:SetT (F6 prog w) b h' S (fun k'=>(E6 val (i+1)).any (· == k')) (E6 val (i+1)).length:=
   hS2.congr (fun k'=>by rw[firstMet_succ,step_any]) (by rw[firstMet_succ,step_length])
  refine Au ⟨Kj HR _,ih (i+1) _ ω hlt (W.frame _ s' _ _ hst' (le_succ _) fun c hc o e=>?_) hSi fun s'' hm'' hS''=>?_⟩
  ·rw[hsb.2 c (fun h:c=S=>hSf (by rw[<- h];exact hc))];exact e
  refine hR s'' (Moved.trans W.gtrans ((hm.mono hsub).then_heap (le_succ _) fun c o hc e=>?_) hm'') hS'';rw[hsb.2 c (fun h:c=S=>hc (by rw[h];exact AX))];exact e
end
noncomputable abbrev yM (w:A6):Obj:={ cls:=.type "set",dict:=none,data:=.set #[] 0 (.fresh 0 0 (!bt w)) }
section
variable {prog:AV}{w:A6}{A:A7}{E:An->AC->Prop}{s:AC}
theorem Nr (a:An){Q₁:An->AC->Prop}(h:Q₁ (.ref s.heap.objs.size) { s with heap:=s.heap.push (yM w) }) :
  FC (A0 prog w) A (.call (.builtin "set.__new__") ⟨[.type "set",a],[]⟩) (wants Q₁ E) s:=by
 refine codeAny_of_tree (show AG _ A.in1 (checkBuiltinCall "set.__new__" ⟨[.type "set",a],[]⟩ >>= fun _=>again (.builtin "set.__new__" ⟨[.type "set",a],[]⟩)) _ _ s from ?_);refine Ap (C9 (F.newCall_set_1 a) (Au ⟨Kj F.plain_set_new _,C5 F.entry_set_new ?_⟩));rw[A7.under_plainId F.plain_set_new _];unfold AI.«set.__new__» AI.Frozenset.newClass;have hsub:=sub_set_self;obtain⟨hp,g,d,tk,os⟩:=s;dsimp only
 wp_walk
 refine FE (Au ?_);dsimp only;simp only[newObj];exact Ap (wpAny_alloc (Au (Au h)))
set_option maxHeartbeats 3200000 in
theorem Nt {l:Addr}{items:Array An}{ns:List Int}{Q:An->AC->Prop}(hh:A.handled=none)(hl:s.heap.IsList l items)(hi:Fa items.toList ns)(hb:items.size+1<FU)
  (h:∀(h':Heap)(tk:Nat),SetT (F6 prog w) (!bt w) h' s.heap.objs.size (fun k'=>(E6 (fun i=>ns.getD i 0) items.size).any (· == k')) (E6 (fun i=>ns.getD i 0) items.size).length ->
   (∀c o,c<s.heap.objs.size->s.heap.get? c=some o->h'.get? c=some o)->Q (.ref s.heap.objs.size) { s with heap:=h',toks:=tk }) :
  AG (A0 prog w) A (call (.type "set") [.ref l]) Q E s:=by
 obtain⟨c,tl,hmro⟩:=FF.mro;have hmade:=FF.made;have hsub:=FF.sub;refine wpAny_call (codeAny_of_tree (show AG _ _ (callAny (.type "set") _) _ _ _ from Au ⟨E3 _ ψ,C5 F.entry_type_call ?_⟩));rw[A7.under_plain (weight_type_call_type "set" [.ref l] []) rfl];have h1:=FF.notType;have h2:=FF.canCreate;have hct:=F.typeCall_set_1 (.ref l)
 repeat (any_goals (first|assumption|wp_step))
 refine HV (Nr (.ref l) (E:=E) (Q₁:=fun obj s₁=>obj=.ref s.heap.objs.size/\s₁={ s with heap:=s.heap.push (yM w) }) ⟨rfl,rfl⟩) fun r s₁ hr=>?_;cases r with
 | error e=>exact hr
 | ok fl=>
  cases fl with
  | ret obj=>
   obtain⟨rfl,rfl⟩:=hr;have hS:(s.heap.push (yM w)).get? s.heap.objs.size=some (yM w):=AQ _ rfl;have hT:AC.TypeIs { s with heap:=s.heap.push (yM w) } (.ref s.heap.objs.size) "set" := ⟨_,hS,rfl⟩;have hli:=FF.init.lookup;have hbi:=FF.init.bind (.ref s.heap.objs.size)
   repeat (any_goals (first|assumption|wp_step))
   refine HV (codeAny_call_builtin (R:=wants (fun r s₂=>r=.none/\∃h' tk,s₂={ s with heap:=h',toks:=tk } /\
     SetT (F6 prog w) (!bt w) h' s.heap.objs.size (fun k'=>(E6 (fun i=>ns.getD i 0) items.size).any (· == k')) (E6 (fun i=>ns.getD i 0) items.size).length /\
     (∀c o,c<s.heap.objs.size->s.heap.get? c=some o->h'.get? c=some o)) E) FF.init.plain F.entry_set_init (check_set_init_1 hT ?_)) fun r₂ s₂ hr₂=>?_
   ·obtain⟨ol,hol,hcl,nl,hdl⟩:=hl;obtain⟨ocls,odict,odata,oslots⟩:=ol;simp only at hcl hdl;subst hcl;subst hdl;have hol':(s.heap.push (yM w)).get? l=some { cls:=.type "list",dict:=odict,data:=.seq items nl,slots:=oslots }:=AB _ hol;have hsls:=F.sub_list_set;have hslf:=F.sub_list_frozenset;have hne:(An.type "list" == An.type "dict")=false:=by decide
    have hl1:(s.heap.push (yM w)).IsList l items:=⟨_,hol',rfl,nl,rfl⟩;unfold AI.«set.__init__» noKeywords AI.Frozenset.updateFrom;generalize hPI:pyIter=PI
    wp_walk
    subst hPI;refine DL hl1 (Ap (wpAny_runValue ?_));have hlS:l<s.heap.objs.size:=A4 hol;have hh3:A.in1.in1.in1.handled=none:=by simp [hh]
    have hneI:l≠(s.heap.push (yM w)).objs.size:=by
     rw[B8];exact B1 (CC hlS)
    have hSf:s.heap.objs.size∉[(s.heap.push (yM w)).objs.size,l]:=by
     rw[B8];simp only[Bi,AM,B2,or_false,not_or];exact⟨B1 (C0 _),ne_of_gt hlS⟩
    have hval:∀(i:Nat)(v:An),items[i]?=some v->∃t,v=.int ((fun i=>ns.getD i 0) i) t:=fun i v hv=>Fa.int_at hi i v (by rw[CS];exact hv);refine Oj (b:=!bt w) ((Walks.list hh3 _ l hneI items).toS) s.heap.objs.size hSf (fun i=>ns.getD i 0) hval hb (items.size-0) 0 _ ω (EI _)
     ⟨⟨_,AQ _ rfl,rfl,rfl⟩,(hl1.push _)⟩ ?hS0 ?hR
    case hS0=>exact⟨_,#[],0,_,AB _ hS,⟨rfl,rfl,rfl⟩,rfl,⟨fun e he=>by simp at he,fun k=>by simp [firstMet_zero],δ⟩,by rfl,rfl,Lh _ _ _⟩
    case hR=>
     intro s' hm hS';obtain⟨h',g',d',tk',os'⟩:=s';have eg:g'=s.gens:=hm.gens;have ed:d'=s.drawn:=hm.drawn;have eo:os'=s.os:=hm.os;subst eg;subst ed;subst eo;show AG _ _ _ _ _ _;refine Au (show AG _ _ (ret An.none) _ _ _ from Au ⟨rfl,h',tk',rfl,hS',fun c o hc e=>?_⟩);have hc1:c≠s.heap.objs.size:=B1 hc;have hc2:c≠(s.heap.push (yM w)).objs.size:=by
      rw[B8];exact B1 (CC hc)
     exact hm.heap c o (by simp only[Bi,AM,B2,or_false,not_or];exact⟨hc1,hc2⟩) (AB _ (AB _ e))
   cases r₂ with
   | error e=>exact hr₂
   | ok fl₂=>
    cases fl₂ with
    | ret r=>
     obtain⟨rfl,h',tk,rfl,hS',hk'⟩:=hr₂
     repeat (any_goals (first|assumption|wp_step))
     exact h _ _ hS' hk'
    | _=>exact hr₂.elim
  | _=>exact hr.elim
end
end SRT
namespace SRT
open PySem PyProof.Rows
theorem ql {α:Type}:∀{l:List α}{i:Nat}(h:i<l.length),(l[i]::l.eraseIdx i).Perm l
 | x::l,0,_=>FG.refl _
 | x::l,i+1,h=>by
  have h':i<l.length:=by simpa using h
  show(l[i]::x::l.eraseIdx i).Perm (x::l);exact(FG.swap _ _ _).trans (FG.cons _ (ql h'))
section
variable {prog:AV}{w:A6}{A:A7}{E:An->AC->Prop}
theorem wp_choose {s:AC}{src:Source}{n:Nat}{Q:Nat->AC->Prop}(hn:n≠0)(h:∀k d,k<n->Q k { s with drawn:=d }):AG (A0 prog w) A (choose src n) Q E s:=
 fun _ _ _=>⟨hn,h _ _ (mod_lt _ (Nat.pos_of_ne_zero hn))⟩
theorem WR {α:Type}:∀(n:Nat)(xs:List α)(s:AC){Q:List α->AC->Prop},xs.length=n->(∀ys d,ys.Perm xs->Q ys { s with drawn:=d })->AG (A0 prog w) A (drawOrder n xs) Q E s:=by
 intro n
 induction n with
 | zero=>
  intro xs s Q hl h;have e:xs=[]:=Ha.mp hl;subst e;exact Au (h [] s.drawn (FG.refl _))
 | succ n ih=>
  intro xs s Q hl h;cases xs with
  | nil=>cases hl
  | cons x xs=>
   unfold drawOrder;refine Ap (wp_choose (by simp) fun i d hi=>?_);have hg:(x::xs)[i]?=some (x::xs)[i]:=AD hi;rw[hg];dsimp only;refine Ap (ih _ _ (by rw[List.length_eraseIdx,if_pos hi];simpa using hl) fun ys d' hp=>Au (h _ d' ?_));exact(FG.cons _ hp).trans (ql hi)
end
theorem Vo {α:Type}(next:Nat->Nat):∀(fuel k:Nat)(left:List α)(out:Array α),left.length=fuel->(GU.go next fuel k left out).toList.Perm (out.toList++left):=by
 intro fuel
 induction fuel with
 | zero=>
  intro k left out hl;have e:left=[]:=Ha.mp hl;subst e;show out.toList.Perm _;rw[CH]
 | succ fuel ih=>
  intro k left out hl;unfold GU.go;have hi:next k%left.length<left.length:=mod_lt _ ω;rw[AD hi];dsimp only;refine(ih (k+1) _ _ (by rw[List.length_eraseIdx,if_pos hi];omega)).trans ?_;rw[toList_push,EC];exact FG.append_left _ (ql hi)
theorem LQ {α:Type}(next:Nat->Nat)(xs:Array α):(GU next xs).toList.Perm xs.toList:=by
 have:=Vo next xs.size 0 xs.toList #[] (by simp);simpa [GU] using this
noncomputable def ig (h:Heap)(S:Addr)(es:Array (Int×An))(ep:Nat)(t:AO):Prop:=∃o,h.get? S=some o/\o.ExactSet/\o.data=.set es ep t
noncomputable def fY (h:Heap)(I:Addr)(first:An)(i:Nat)(S:Addr)(n ep:Nat):Prop:=
 h.get? I=some { cls:=.type "set_iterator",dict:=none,data:=.fields #[first,.int i 0,.ref S,.int n 0,.int ep 0],slots:=#[] }
theorem ig.get {h h':Heap}{S:Addr}{es:Array (Int×An)}{ep:Nat}{t:AO}(hS:ig h S es ep t)(hk:∀o,h.get? S=some o->h'.get? S=some o):ig h' S es ep t:=
 let ⟨o,ho,r⟩:=hS;⟨o,hk o ho,r⟩
section
variable {prog:AV}{w:A6}{A:A7}{E:An->AC->Prop}{s:AC}{S:Addr}{es:Array (Int×An)}{ep:Nat}{t:AO}
theorem nT {Q:(Array (Int×An)×Nat×AO)->AC->Prop}(hS:ig s.heap S es ep t)(hf:t.fits es.size=true)(h:Q (es,ep,t) s):AG (A0 prog w) A (setState S) Q E s:=
 let ⟨_,ho,_,hd⟩:=hS;wpAny_setState_of ho hd hf h
theorem below_at {xs:Array Nat}(hr:Ris xs){i:Nat}(hi:i<=xs.size):AO.below xs (if i=0 then 0 else xs.getD (i-1) 0+1)=i:=by
 have hs:=qI hr (if i=0 then 0 else xs.getD (i-1) 0+1);generalize hb:AO.below xs (if i=0 then 0 else xs.getD (i-1) 0+1)=b at hs;by_cases h0:i=0
 ·subst h0;simp only[↓reduceIte] at hs;rcases Nat.eq_zero_or_pos b with h|h
  ·exact h
  have hl:0<xs.size:=ω;have hg:xs[0]?=some xs[0]:=by simp [hl]
  have:=(hs.1 0 _ hg).mp h;omega
 rw[if_neg h0] at hs;have hl:i-1<xs.size:=ω;have hg:xs[i-1]?=some xs[i-1]:=by simp [hl]
 have hd:xs.getD (i-1) 0=xs[i-1]:=by simp [Array.getD,hl]
 rw[hd] at hs;have h1:i-1<b:=(hs.1 _ _ hg).mpr ω;rcases FK i b with h|h
 ·have hl2:i<xs.size:=ω;have hg2:xs[i]?=some xs[i]:=by simp [hl2]
  have h2:=(hs.1 _ _ hg2).mp h;have h3:=hr.lt hg hg2 ω;omega
 omega
theorem Wg (hf:t.fits es.size=true)(ht:TOk (!bt w) t)(hd:bt w=true\/(!t.plain&&decide (es.size>1))=false) :
  ∃(vs:List An)(sl:Nat->Nat),sl 0=0/\vs.Perm (es.toList.map (·.2))/\∀(i:Nat)(s:AC)(A:A7)(E:An->AC->Prop)(Q:Option (An×Nat)->AC->Prop),i<=vs.length->ig s.heap S es ep t ->
   Q (vs[i]?.map fun x=>(x,sl (i+1))) s->AG (A0 prog w) A (setNext S (sl i) i ep) Q E s:=by
 by_cases hb:bt w=true
 ·refine⟨(GU (w.params.setOrder S ep) es).toList.map (·.2),fun _=>0,rfl,(LQ _ es).map _,fun i s A E Q hi hS h=>?_⟩;unfold setNext;refine Ap (nT hS hf ?_);dsimp only;unfold setsByText;refine Ap (Ap (FE (Au ?_)));show AG _ _ (if bt w=true then _ else _) _ _ _;rw[if_pos hb,if_neg (by simp)];unfold setWalk;refine Ap (Ap (nT hS hf ?_));dsimp only;unfold setsByText;refine Ap (Ap (FE (Au ?_)));show AG _ _ (if bt w=true then _ else _) _ _ _;rw[if_pos hb];refine Ap (FE (Au (Au ?_)));have e:((GU (w.params.setOrder S ep) es)[i]?).map (fun e=>(e.2,0))=(((GU (w.params.setOrder S ep) es).toList.map (·.2))[i]?).map fun x=>(x,0):=by
   rw[AU,Option.map_map,CS];rfl
  show Q (((GU (w.params.setOrder S ep) es)[i]?).map (fun e=>(e.2,0))) s;rw[e];exact h
 have hb':bt w=false:=by simpa using hb
 have hdr:=hd.resolve_left hb;have hps:t.place.size=es.size:=by
  have:=hf;unfold AO.fits at this;simp only[C3,beq_iff_eq] at this;exact this.1
 refine⟨es.toList.map (·.2),fun i=>if i=0 then 0 else t.place.getD (i-1) 0+1,rfl,FG.refl _,fun i s A E Q hi hS h=>?_⟩;unfold setNext;refine Ap (nT hS hf ?_);dsimp only;unfold setsByText;refine Ap (Ap (FE (Au ?_)));show AG _ _ (if bt w=true then _ else _) _ _ _;rw[if_neg hb];show AG _ _ (if (!t.plain&&decide (es.size>1))=true then _ else _) _ _ _;rw[if_neg (by rw[hdr];simp)];refine Ap ?_;show AG _ _ (if (!t.led && !es.isEmpty)=true then _ else _) _ _ _;have hled:t.led=true:=by rw[ht.2.2,hb'];rfl
 rw[if_neg (by rw[hled];simp)];refine Au (Au ?_);have hi':i<=es.size:=by simpa using hi
 rw[below_at ht.1 (by rw[hps];exact hi')];rcases FK i es.size with hlt|hge
 ·have g1:es[i]?=some es[i]:=by simp [hlt]
  have g2:t.place[i]?=some t.place[i]:=by simp [hps,hlt]
  have g3:(es.toList.map (·.2))[i]?=some es[i].2:=by rw[AU,CS,g1];rfl
  rw[g1,g2];rw[g3] at h;have g4:t.place.getD i 0=t.place[i]'(by rw[hps];exact hlt):=by simp [Array.getD,hps,hlt]
  simp only[map_some,Nat.add_one_ne_zero,if_false,IX,g4] at h;exact h
 have g1:es[i]?=none:=by simp [hge]
 have g3:(es.toList.map (·.2))[i]?=none:=by rw[AU,CS,g1];rfl
 rw[g1];rw[g3] at h;exact h
end
end SRT
namespace SRT
open PySem PyProof.Rows
theorem Ge:entryFor table "set.__iter__" = some AI.«frozenset.__iter__»:=entryFor_alias (id' := "frozenset.__iter__") (by kernel_rfl) rfl ψ (by kernel_rfl)
theorem dI:Slot "set_iterator" "__next__" "set_iterator.__next__" :=
 .of (owner := "set_iterator") (n := "__next__") (by rw[typeLookup_type,builtinLookup_eq_fast];kernel_rfl) ψ ψ ψ (by first|exact .inl ψ|exact .inr ψ) (by rw[isSubtype_type];kernel_rfl)
theorem wk:Slot "set_iterator" "__iter__" "set_iterator.__iter__" :=
 .of (owner := "set_iterator") (n := "__iter__") (by rw[typeLookup_type,builtinLookup_eq_fast];kernel_rfl) ψ ψ ψ (by first|exact .inl ψ|exact .inr ψ) (by rw[isSubtype_type];kernel_rfl)
theorem j9:entryFor table "set_iterator.__next__" = some AI.«set_iterator.__next__»:=entryFor_of_tree (by kernel_rfl)
theorem Gd:entryFor table "set_iterator.__iter__" = some AI.«dict_keyiterator.__iter__»:=entryFor_alias (id' := "dict_keyiterator.__iter__") (by kernel_rfl) rfl ψ (by kernel_rfl)
theorem m5 (a:An):argsOk "set_iterator.__next__" ⟨[a],[]⟩:=by unfold argsOk;kernel_rfl
theorem Jr (a:An):argsOk "set_iterator.__iter__" ⟨[a],[]⟩:=by unfold argsOk;kernel_rfl
section
variable {prog:AV}{w:A6}{A:A7}{E:An->AC->Prop}{s:AC}{S I:Addr}{es:Array (Int×An)}{ep:Nat}{t:AO}
theorem fY.ty {h:AC}{first:An}{i n:Nat}(hI:fY h.heap I first i S n ep):h.TypeIs (.ref I) "set_iterator" := ⟨_,hI,rfl⟩
theorem fY.get {h h':Heap}{first:An}{i n:Nat}(hI:fY h I first i S n ep)(hk:∀o,h.get? I=some o->h'.get? I=some o):fY h' I first i S n ep:=hk _ hI
theorem jP {Q:Array (Int×An)->AC->Prop}(hS:ig s.heap S es ep t)(hf:t.fits es.size=true)(h:Q es s):AG (A0 prog w) A (setEntries S) Q E s:=
 let ⟨_,ho,_,hd⟩:=hS;wpAny_setEntries_of ho hd hf h
theorem Gb {Q:Nat->AC->Prop}(hS:ig s.heap S es ep t)(hf:t.fits es.size=true)(h:Q ep s):AG (A0 prog w) A (setEpoch S) Q E s:=
 let ⟨_,ho,_,hd⟩:=hS;wpAny_setEpoch_of ho hd hf h
theorem JC (hh:A.handled=none) {s:AC}{P:Fin->AC->Prop}{E':An->AC->Prop}(h:∀(h':Heap)(e:An),(∀c o,s.heap.get? c=some o->h'.get? c=some o)->AC.TypeIs { s with heap:=h' } e "StopIteration" -> E' e { s with heap:=h' }) :
  AG (A0 prog w) A (newExc (.type "StopIteration") [] >>= fun e=>(raiseNew e:Sem Fin)) P E' s:=by
 refine Ap ?_;simp only[newExc,IT];refine Ap (BG (Ap (m:=firstArgMember _ _) (C9 (a:=An.none) (by first|rfl|(simp only[firstArgMember];rfl)) ?_)) (by size_fits))
 refine BG ?_ (by size_fits);simp only[raiseNew];refine Ap (wpAny_handled ?_);rw[hh];refine Ap (Au (wpAny_throw (h _ (.ref _) (fun c o e=>AB _ (AB _ e)) ⟨_,AQ _ rfl,rfl⟩)))
theorem next_item {n i:Nat}{first:Nat}{v:An}{sl:Nat}{Q:Option An->AC->Prop}(hI:fY s.heap I (.int first 0) i S es.size ep)(hS:ig s.heap S es ep t)(hf:t.fits es.size=true)
  (hn:∀(s:AC)(A:A7)(E:An->AC->Prop)(Q:Option (An×Nat)->AC->Prop),ig s.heap S es ep t->Q (some (v,sl)) s->AG (A0 prog w) A (setNext S first i ep) Q E s)
  (hne:S≠I) (hQ:∀h',fY h' I (.int sl 0) (i+1) S es.size ep->B4 I s.heap h'->Q (some v) { s with heap:=h' }):AG (A0 prog w) A (ES (.ref I)) Q E s:=by
 unfold ES;refine Ap (DE (B5 (name:=BD "__next__") hI.ty dI (Cc dI hI.ty j9 ?_ (m5 _))));show AG _ _ (fieldsOf (.ref I) >>= _) _ _ s;refine Ap (IZ hI rfl ?_);refine Ap (jP hS hf ?_);rw[if_neg (by simp)];dsimp only;refine Ap (hn s _ _ _ hS ?_);dsimp only;refine Ap (CO hI (by simp) fun h1 g1 b1=>?_);refine Ap (CO (s:={ s with heap:=h1 }) g1 (by simp) fun h2 g2 b2=>?_);exact Au ⟨_,rfl,Au (hQ h2 g2 (b1.trans b2))⟩
end
end SRT
namespace SRT
open PySem PyProof.Rows
section
variable {prog:AV}{w:A6}{A:A7}{E:An->AC->Prop}{s:AC}{S I T:Addr}{es:Array (Int×An)}{ep:Nat}{t:AO}
theorem Ef {a:Addr}{h h' h'':Heap}(b:B4 a h h')(k:∀c o,h'.get? c=some o->h''.get? c=some o)(c:Addr)(o:Obj)(hc:c≠a)(e:h.get? c=some o):h''.get? c=some o:=k c o (b.extBut c o hc e)
theorem next_end {i first:Nat}{Q:Option An->AC->Prop}(hh:A.handled=none)(hI:fY s.heap I (.int first 0) i S es.size ep)(hS:ig s.heap S es ep t)(hf:t.fits es.size=true)
  (hn:∀(s:AC)(A:A7)(E:An->AC->Prop)(Q:Option (An×Nat)->AC->Prop),ig s.heap S es ep t->Q none s->AG (A0 prog w) A (setNext S first i ep) Q E s)
  (hQ:∀h',(∀c o,c≠I->s.heap.get? c=some o->h'.get? c=some o)->Q none { s with heap:=h' }):AG (A0 prog w) A (ES (.ref I)) Q E s:=by
 unfold ES;refine Ap (DE (B5 (name:=BD "__next__") hI.ty dI (Cc dI hI.ty j9 ?_ (m5 _))));show AG _ _ (fieldsOf (.ref I) >>= _) _ _ s;refine Ap (IZ hI rfl (Ap (jP hS hf ?_)));rw[if_neg (by simp)];dsimp only;refine Ap (hn s _ _ _ hS ?_);dsimp only;refine Ap (CO hI (by simp) fun h1 g1 b1=>?_);refine JC (s:={ s with heap:=h1 }) (by simpa using hh) fun h2 e k2 ty=>Ap (D5 ty isSubtype_stop (Au (hQ h2 fun c o hc x=>Ef b1 k2 c o hc x)))
noncomputable def TupAt (h:Heap) (T:Addr) (ds:List Nat):Prop:=h.get? T=some { cls:=.type "tuple",data:=.seq (ds.map fun(i:Nat)=>FH i).toArray }
theorem Jg {i d:Nat}{ds:List Nat}{v:An}{Q:Option An->AC->Prop}(hI:fY s.heap I (.ref T) i S es.size ep)(hS:ig s.heap S es ep t)(hT:TupAt s.heap T ds)(hf:t.fits es.size=true)
  (hd:ds[i]?=some d) (hv:(es[d]?).map (·.2)=some v) (hne:S≠I)
  (hQ:∀h',fY h' I (.ref T) (i+1) S es.size ep->B4 I s.heap h'->Q (some v) { s with heap:=h' }):AG (A0 prog w) A (ES (.ref I)) Q E s:=by
 unfold ES;refine Ap (DE (B5 (name:=BD "__next__") hI.ty dI (Cc dI hI.ty j9 ?_ (m5 _))));show AG _ _ (fieldsOf (.ref I) >>= _) _ _ s;refine Ap (IZ hI rfl (Ap (jP hS hf ?_)));rw[if_neg (by simp)];dsimp only;refine Ap (CM hT rfl ?_);dsimp only;have hg:(ds.map fun(i:Nat)=>FH i).toArray[(i:Int).toNat]?=some (.int (d:Int) 0):=by
  rw[B3,F5,AU,hd];rfl
 rw[hg];dsimp only;unfold setNextDrawn;refine Ap (Ap (nT hS hf ?_));dsimp only;rw[if_neg (by simp)];obtain⟨⟨hh,x⟩,he,rfl⟩:=Bz.mp hv;rw[B3,he];dsimp only;refine Au ?_;refine Ap (CO hI (by simp) fun h1 g1 b1=>?_);exact Au ⟨_,rfl,Au (hQ h1 g1 b1)⟩
theorem Np {i:Nat}{ds:List Nat}{Q:Option An->AC->Prop}(hh:A.handled=none)(hI:fY s.heap I (.ref T) i S es.size ep)(hS:ig s.heap S es ep t)(hT:TupAt s.heap T ds)(hf:t.fits es.size=true)
  (hd:ds[i]?=none) (hQ:∀h',(∀c o,c≠I->s.heap.get? c=some o->h'.get? c=some o)->Q none { s with heap:=h' }):AG (A0 prog w) A (ES (.ref I)) Q E s:=by
 unfold ES;refine Ap (DE (B5 (name:=BD "__next__") hI.ty dI (Cc dI hI.ty j9 ?_ (m5 _))));show AG _ _ (fieldsOf (.ref I) >>= _) _ _ s;refine Ap (IZ hI rfl (Ap (jP hS hf ?_)));rw[if_neg (by simp)];dsimp only;refine Ap (CM hT rfl ?_);dsimp only;have hg:(ds.map fun(i:Nat)=>FH i).toArray[(i:Int).toNat]?=none:=by
  rw[B3,F5,AU,hd];rfl
 rw[hg];dsimp only;refine Ap (CO hI (by simp) fun h1 g1 b1=>?_);refine Ap (CO (s:={ s with heap:=h1 }) g1 (by simp) fun h2 g2 b2=>?_);refine JC (s:={ s with heap:=h2 }) (by simpa using hh) fun h3 e k3 ty=>Ap (D5 ty isSubtype_stop (Au (hQ h3 fun c o hc x=>Ef (b1.trans b2) k3 c o hc x)))
theorem JN {first:An}{i n:Nat}{Q:An->AC->Prop}(hI:fY s.heap I first i S n ep)(h:Q (.ref I) s):AG (A0 prog w) A (pyIter (.ref I)) Q E s:=by
 refine wpAny_pyIter_slot hI.ty wk (Cc wk hI.ty Gd ?_ (Jr _));show AG _ _ (ret (.ref I)) _ _ s;exact Au ⟨_,rfl, "set_iterator",_,hI.ty,dI.lookup,h⟩
theorem Px {Q:An->AC->Prop}(hh:A.handled=none)(hS:ig s.heap S es ep t)(hf:t.fits es.size=true)(ht:TOk (!bt w) t)(hz:es.size<=AL)
  (h:∀(s':AC)(I:Addr)(fp:List Addr)(vs:List An)(St:Nat->AC->Prop),(∀c o,s.heap.get? c=some o->s'.heap.get? c=some o)->s'.gens=s.gens->s'.os=s.os->s'.toks=s.toks->vs.Perm (es.toList.map (·.2))->I=s'.heap.objs.size-1->s.heap.objs.size<=I->I<s'.heap.objs.size ->
   (∀A':A7,A'.handled=none->WalksS prog w A' I fp [I] (fun a b=>b=a) vs.length (fun i v=>vs[i]?=some v) St)->St 0 s'->(∀b∈fp,b<s'.heap.objs.size/\(b=S\/s.heap.objs.size<=b))->Q (.ref I) s') :
  AG (A0 prog w) A (pyIter (.ref S)) Q E s:=by
 obtain⟨o,ho,hx,hd⟩:=id hS;have hty:s.TypeIs (.ref S) "set" := ⟨o,ho,hx.1⟩;have lt:S<s.heap.objs.size:=A4 ho;refine wpAny_pyIter_slot hty F.slot_set_iter (Cc F.slot_set_iter hty Ge ?_ (F.args_set_iter_1 _));unfold AI.«frozenset.__iter__»;show AG _ _ (AI.Frozenset.sizeOf S >>= _) _ _ s;unfold AI.Frozenset.sizeOf;refine Ap (Ap (jP hS hf (Au ?_)));unfold setDrawn setsByText;refine Ap (Ap (nT hS hf ?_));dsimp only;refine Ap (Ap (FE (Au (Au ?_))));show AG _ _ (if (!bt w&&(!t.plain&&decide (es.size>1)))=true then _ else _) _ _ _;have arith:∀{n m:Nat},m=n+1->n=m-1:=by intros;omega
 by_cases hc:(!bt w&&(!t.plain&&decide (es.size>1)))=true
 ·rw[if_pos hc];refine Ap (WR es.size (BB es.size) _ (EG) fun ds d hp=>?_);have hdl:ds.length=es.size:=by rw[hp.length_eq,EG]
  refine Ap (Fu ?_ (by rw[AF,hdl];exact hz));have hS1:ig (s.heap.push { cls:=.type "tuple",data:=.seq (ds.map fun(i:Nat)=>FH i).toArray }) S es ep t:=hS.get fun o e=>AB _ e;have hT1:TupAt (s.heap.push { cls:=.type "tuple",data:=.seq (ds.map fun(i:Nat)=>FH i).toArray }) s.heap.objs.size ds:=AQ _ rfl;have hz1:(s.heap.push { cls:=.type "tuple",data:=.seq (ds.map fun(i:Nat)=>FH i).toArray }).objs.size=s.heap.objs.size+1:=B8 ..;have hk1:∀c o,s.heap.get? c=some o->(s.heap.push { cls:=.type "tuple",data:=.seq (ds.map fun(i:Nat)=>FH i).toArray }).get? c=some o:=fun c o e=>AB _ e;generalize s.heap.push { cls:=.type "tuple",data:=.seq (ds.map fun(i:Nat)=>FH i).toArray }=h1 at hS1 hT1 hz1 hk1 |-;refine Ap (Gb (s:={ s with drawn:=d,heap:=h1 }) hS1 hf (Ap (BG ?_)));have hI:fY (h1.push { cls:=.type "set_iterator",data:=.fields #[.ref s.heap.objs.size,.int (0:Nat) 0,.ref S,.int (es.size:Nat) 0,.int (ep:Nat) 0] }) h1.objs.size (.ref s.heap.objs.size) 0 S es.size ep:=AQ _ rfl;refine Au ⟨_,rfl, "set_iterator",_,⟨_,hI,rfl⟩,dI.lookup,?_⟩;have hz2:(h1.push { cls:=.type "set_iterator",data:=.fields #[.ref s.heap.objs.size,.int (0:Nat) 0,.ref S,.int (es.size:Nat) 0,.int (ep:Nat) 0] }).objs.size=h1.objs.size+1:=B8 ..;have hk2:∀c o,h1.get? c=some o->(h1.push { cls:=.type "set_iterator",data:=.fields #[.ref s.heap.objs.size,.int (0:Nat) 0,.ref S,.int (es.size:Nat) 0,.int (ep:Nat) 0] }).get? c=some o:=fun c o e=>AB _ e;show Q (.ref h1.objs.size) { s with drawn:=d,heap:=h1.push { cls:=.type "set_iterator",data:=.fields #[.ref s.heap.objs.size,.int (0:Nat) 0,.ref S,.int (es.size:Nat) 0,.int (ep:Nat) 0] } };generalize h1.push { cls:=.type "set_iterator",data:=.fields #[.ref s.heap.objs.size,.int (0:Nat) 0,.ref S,.int (es.size:Nat) 0,.int (ep:Nat) 0] }=h2 at hI hz2 hk2 |-;have n1:S≠h1.objs.size:=by rw[hz1];exact B1 (CC lt)
  have n2:s.heap.objs.size≠h1.objs.size:=by rw[hz1];exact B1 (C0 _)
  have hmem:∀i d:Nat,ds[i]?=some d->∃x:An,(es[d]?).map (fun(e:Int×An)=>e.2)=some x/\(ds.map fun d=>(es.toList.map (·.2)).getD d .none)[i]?=some x:=by
   intro i d hi;have:d<es.size:=by have:=hp.mem_iff.mp (A5 hi);simpa using this
   refine⟨es[d].2,by simp [this],?_⟩;rw[AU,hi];simp [this]
  refine h { s with drawn:=d,heap:=h2 } h1.objs.size [h1.objs.size,S,s.heap.objs.size] (ds.map fun d=>(es.toList.map (·.2)).getD d .none)
   (fun i s'=>fY s'.heap h1.objs.size (.ref s.heap.objs.size) i S es.size ep/\ig s'.heap S es ep t/\TupAt s'.heap s.heap.objs.size ds)
   (fun c o e=>hk2 c o (hk1 c o e)) rfl rfl rfl ?_ (arith hz2) (by rw[hz1];exact le_succ _) (by show h1.objs.size<h2.objs.size;rw[hz2];exact C0 _) (fun A' hh'=>?_) ⟨hI,hS1.get (hk2 S),hk2 _ _ hT1⟩ ?_
  ·have e:(BB es.size).map (fun d=>(es.toList.map (·.2)).getD d .none)=es.toList.map (·.2):=by
    refine ext_getElem (by simp) fun i h1 h2=>?_;simp at h1 h2;simp [h2]
   exact(hp.map fun d=>(es.toList.map fun(x:Int×An)=>x.2).getD d An.none).trans (FG.of_eq e)
  ·have hlen:(ds.map fun d=>(es.toList.map (·.2)).getD d .none).length=ds.length:=AF _;exact {
    sub:=fun b hb=>by simp at hb;simp [hb]
    grefl:=fun _=>rfl
    gtrans:=fun a b c e f=>f.trans e
    frame:=fun i s1 h' tk st _ hk=>⟨st.1.get fun o e=>hk _ (by simp) o e,st.2.1.get fun o e=>hk _ (by simp) o e,hk _ (by simp) _ st.2.2⟩
    item:=fun i s1 Q1 E1 hi st hQ1=>by
     rw[hlen] at hi;obtain⟨x,e1,e2⟩:=hmem i ds[i] (AD hi);refine Jg st.1 st.2.1 st.2.2 hf (AD hi) e1 n1 fun h' i' b'=>?_;exact hQ1 x { s1 with heap:=h' } e2 ⟨i',st.2.1.get fun o e=>b'.extBut _ o n1 e,b'.extBut _ _ n2 st.2.2⟩ ⟨fun b o hb e=>b'.extBut b o (fun z=>hb (by simp [z])) e,rfl,rfl,rfl,A1 _⟩
    done:=fun s1 Q1 E1 st hQ1=>by
     refine Np hh' st.1 st.2.1 st.2.2 hf (by rw[hlen];simp) fun h' k'=>?_;exact hQ1 { s1 with heap:=h' } ⟨fun b o hb e=>k' b o (fun z=>hb (by simp [z])) e,rfl,rfl,rfl,A1 _⟩
    self:=fun i s1 Q1 E1 st hQ1=>JN st.1 hQ1 }
  intro b hb;show b<h2.objs.size/\_;have l0:=CC lt;simp only[Bi,B2,or_false] at hb;rw[hz2,hz1];rcases hb with rfl|rfl|rfl
  ·rw[hz1];exact⟨C0 _,.inr (le_succ _)⟩
  ·exact⟨CC l0,.inl rfl⟩
  exact⟨CC (C0 _),.inr (A1 _)⟩
 rw[if_neg hc];obtain⟨vs,sl,sl0,hp,hn⟩:=Wg (prog:=prog) (w:=w) (S:=S) (ep:=ep) hf ht (by
  cases hb:bt w with
  | true=>exact .inl rfl
  | false=>rw[hb] at hc;exact .inr (by simpa using hc))
 refine Ap (Au (Ap (Gb hS hf (Ap (BG ?_)))));have hI:fY (s.heap.push { cls:=.type "set_iterator",data:=.fields #[.int (0:Nat) 0,.int (0:Nat) 0,.ref S,.int (es.size:Nat) 0,.int (ep:Nat) 0] }) s.heap.objs.size (.int (sl 0) 0) 0 S es.size ep:=by rw[sl0];exact AQ _ rfl
 refine Au ⟨_,rfl, "set_iterator",_,⟨_,hI,rfl⟩,dI.lookup,?_⟩;have hz2:(s.heap.push { cls:=.type "set_iterator",data:=.fields #[.int (0:Nat) 0,.int (0:Nat) 0,.ref S,.int (es.size:Nat) 0,.int (ep:Nat) 0] }).objs.size=s.heap.objs.size+1:=B8 ..;have hk2:∀c o,s.heap.get? c=some o->(s.heap.push { cls:=.type "set_iterator",data:=.fields #[.int (0:Nat) 0,.int (0:Nat) 0,.ref S,.int (es.size:Nat) 0,.int (ep:Nat) 0] }).get? c=some o:=fun c o e=>AB _ e;show Q (.ref s.heap.objs.size) { s with heap:=s.heap.push { cls:=.type "set_iterator",data:=.fields #[.int (0:Nat) 0,.int (0:Nat) 0,.ref S,.int (es.size:Nat) 0,.int (ep:Nat) 0] } };generalize s.heap.push { cls:=.type "set_iterator",data:=.fields #[.int (0:Nat) 0,.int (0:Nat) 0,.ref S,.int (es.size:Nat) 0,.int (ep:Nat) 0] }=h2 at hI hz2 hk2 |-;have n1:S≠s.heap.objs.size:=B1 lt;refine h { s with heap:=h2 } s.heap.objs.size [s.heap.objs.size,S] vs (fun i s'=>fY s'.heap s.heap.objs.size (.int (sl i) 0) i S es.size ep/\ig s'.heap S es ep t)
  (fun c o e=>hk2 c o e) rfl rfl rfl hp (arith hz2) (A1 _) (by show s.heap.objs.size<h2.objs.size;rw[hz2];exact C0 _) (fun A' hh'=>?_) ⟨hI,hS.get (hk2 S)⟩ ?_
 ·exact {
   sub:=fun b hb=>by simp at hb;simp [hb]
   grefl:=fun _=>rfl
   gtrans:=fun a b c e f=>f.trans e
   frame:=fun i s1 h' tk st _ hk=>⟨st.1.get fun o e=>hk _ (by simp) o e,st.2.get fun o e=>hk _ (by simp) o e⟩
   item:=fun i s1 Q1 E1 hi st hQ1=>by
    have hv:vs[i]?=some vs[i]:=AD hi;refine next_item (n:=0) st.1 st.2 hf (v:=vs[i]) (sl:=sl (i+1)) (fun s2 A2 E2 Q2 st2 hQ2=>hn i s2 A2 E2 Q2 (II hi) st2 (by rw[hv];exact hQ2)) n1 fun h' i' b'=>?_;exact hQ1 vs[i] { s1 with heap:=h' } hv ⟨i',st.2.get fun o e=>b'.extBut _ o n1 e⟩ ⟨fun b o hb e=>b'.extBut b o (fun z=>hb (by simp [z])) e,rfl,rfl,rfl,A1 _⟩
   done:=fun s1 Q1 E1 st hQ1=>by
    have hv:vs[vs.length]?=none:=by simp
    refine next_end hh' st.1 st.2 hf (fun s2 A2 E2 Q2 st2 hQ2=>hn vs.length s2 A2 E2 Q2 (A1 _) st2 (by rw[hv];exact hQ2)) fun h' k'=>?_;exact hQ1 { s1 with heap:=h' } ⟨fun b o hb e=>k' b o (fun z=>hb (by simp [z])) e,rfl,rfl,rfl,A1 _⟩
   self:=fun i s1 Q1 E1 st hQ1=>JN st.1 hQ1 }
 intro b hb;show b<h2.objs.size/\_;rw[hz2];simp only[Bi,B2,or_false] at hb;rcases hb with rfl|rfl
 ·exact⟨C0 _,.inr (A1 _)⟩
 exact⟨CC lt,.inl rfl⟩
end
end SRT
namespace SRT
open PySem PyProof.Rows
noncomputable def gallopF:Bool->E7->Array E7->Nat->Nat->Nat->StateT GI Sem (Option Nat):=sortPriv% PySem.Builtin.gallop
noncomputable def mergeLoF:Array E7->Array E7->StateT GI Sem (Array E7):=sortPriv% PySem.Builtin.mergeLo
noncomputable def mergeHiF:Array E7->Array E7->StateT GI Sem (Array E7):=sortPriv% PySem.Builtin.mergeHi
noncomputable def IK (p:E7):Prop:=∃n t,p.1=.int n t
noncomputable def Bd (xs:Array E7):Prop:=∀(i:Nat) p,xs[i]?=some p->IK p
end SRT
namespace SRT
open PySem PyProof.Rows
noncomputable abbrev withG (st:GI)(g:Nat):GI:=GI.mk' (kindOf st) (arrOf st) (EJ st) g (failedOf st)
section
variable {prog:AV}{w:A6}{s:AC}{A:A7}{E:An->AC->Prop}
noncomputable def X6 (a b out:Array E7)(i j:Nat):List E7:=out.toList++(a.toList.drop i++b.toList.drop j)
noncomputable def LoI (a b out:Array E7)(i j:Nat):Prop:=(X6 a b out i j).Perm (a.toList++b.toList)/\i+1<a.size/\j<b.size
noncomputable def RetI (a b:Array E7)(c:Option (Array E7)):Prop:=∃r,c=some r/\r.toList.Perm (a.toList++b.toList)
end
end SRT
namespace SRT
open PySem PyProof.Rows
section
variable {prog:AV}{w:A6}{s:AC}{A:A7}{E:An->AC->Prop}
noncomputable def X7 (a b out:Array E7)(i j:Nat):List E7:=(a.toList.take i++b.toList.take j)++out.toList
noncomputable def HiI (a b out:Array E7)(i j:Nat):Prop:=(X7 a b out i j).Perm (a.toList++b.toList)/\0<i/\1<j/\i<=a.size/\j<=b.size
end
end SRT
namespace SRT
open PySem PyProof.Rows
noncomputable def Chain:List (Nat×Nat×Nat)->Nat->Nat->Prop
 | [],a,b=>a=b
 | (p,n,_)::t,a,b=>p=a/\1<=n/\Chain t (a+n) b
theorem Chain.le:∀{l:List (Nat×Nat×Nat)}{a b:Nat},Chain l a b->a<=b
 | [],_,_,h=>le_of_eq h
 | (_,n,_)::_,a,_,⟨_,_,h⟩=>Be (Nat.le_add_right a n) h.le
theorem Chain.two:∀{pre post:List (Nat×Nat×Nat)}{sa na w sb nb v a b:Nat},Chain (pre++(sa,na,w)::(sb,nb,v)::post) a b ->
  sb=sa+na/\1<=na/\1<=nb/\sb+nb<=b/\Chain (pre++(sa,na+nb,w)::post) a b
 | [],post,sa,na,w,sb,nb,v,a,b,⟨h1,h2,h3,h4,h5⟩=>by
  have:=h5.le;refine⟨ω,h2,h4,ω,h1,ω,?_⟩;rw[<- Nat.add_assoc];exact h5
 | (_,_,_)::pre,post,sa,na,w,sb,nb,v,a,b,⟨h1,h2,h3⟩=>by
  obtain⟨k1,k2,k3,k4,k5⟩:=Chain.two h3;exact⟨k1,k2,k3,k4,h1,h2,k5⟩
theorem Chain.snoc:∀{l:List (Nat×Nat×Nat)}{a b n w:Nat},Chain l a b->1<=n->Chain (l++[(b,n,w)]) a (b+n)
 | [],a,b,n,w,h,h1=>by cases h;exact⟨rfl,h1,rfl⟩
 | (_,_,_)::t,a,b,n,w,⟨k1,k2,k3⟩,h1=>⟨k1,k2,k3.snoc h1⟩
theorem Chain.PX:∀{l:List (Nat×Nat×Nat)}{a b p n w v:Nat},Chain (l++[(p,n,w)]) a b->Chain (l++[(p,n,v)]) a b
 | [],a,b,p,n,w,v,h=>h
 | (_,_,_)::t,a,b,p,n,w,v,⟨k1,k2,k3⟩=>⟨k1,k2,k3.PX⟩
theorem Bd.perm {a b:Array E7}(h:Bd a)(hp:b.toList.Perm a.toList):Bd b:=by
 intro i p hi;have h1:p∈b.toList:=by rw[<- CS] at hi;exact A5 hi
 obtain⟨j,hj⟩:=List.getElem?_of_mem (hp.mem_iff.mp h1);exact h j p (by rw[<- CS];exact hj)
theorem Bd.ext {a:Array E7}(h:Bd a)(x y:Nat):Bd (a.extract x y):=by
 intro i p hi;rw[Array.getElem?_extract] at hi;split at hi
 ·exact h _ p hi
 cases hi
section
variable {prog:AV}{w:A6}{s:AC}{A:A7}{E:An->AC->Prop}{a₀:Array E7}
structure MB (a₀:Array E7)(st:GI):Prop where
 kind:kindOf st=oneType'
 perm:(arrOf st).toList.Perm a₀.toList
 fail:failedOf st=none
theorem MB.size {st:GI}(h:MB a₀ st):(arrOf st).size=a₀.size:=by simpa using h.perm.length_eq
end
end SRT
namespace SRT
open PySem PyProof.Rows
section
variable {prog:AV}{w:A6}{s:AC}{A:A7}{E:An->AC->Prop}{a₀:Array E7}{pd:Array (Nat×Nat×Nat)}
noncomputable def MP (a₀:Array E7)(pd:Array (Nat×Nat×Nat))(st:GI):Prop:=MB a₀ st/\EJ st=pd
theorem MP.set {st:GI}{xs:Array E7}(h:MP a₀ pd st)(hp:xs.Perm (arrOf st)):MP a₀ pd (setArr st xs):=
 ⟨⟨h.1.kind,(Array.perm_iff_toList_perm.mp hp).trans h.1.perm,h.1.fail⟩,h.2⟩
end
end SRT
namespace SRT
open PySem PyProof.Rows
section
variable {prog:AV}{w:A6}{s:AC}{A:A7}{E:An->AC->Prop}{a₀:Array E7}{pd:Array (Nat×Nat×Nat)}
noncomputable def MC (a₀:Array E7)(hi:Nat)(st:GI):Prop:=MB a₀ st/\Chain (EJ st).toList 0 hi
theorem Ub:∀(l:List (Nat×Nat×Nat)),l≠[]->∃t p n v,l=t++[(p,n,v)]
 | l,h=>⟨l.dropLast,(l.getLast h).1,(l.getLast h).2.1,(l.getLast h).2.2,(List.dropLast_concat_getLast h).symm⟩
theorem uL {α:Type}(f:α->α)(x:α):∀t:List α,(t++[x]).modify t.length f=t++[f x]
 | []=>rfl
 | y::t=>congrArg (y :: ·) (uL f x t)
theorem MC.PX {st:GI}{hi pw:Nat}(h:MC a₀ hi st):MC a₀ hi (setPending st ((EJ st).modify ((EJ st).size-1) fun(x,len,_)=>(x,len,pw))):=by
 refine⟨⟨h.1.kind,h.1.perm,h.1.fail⟩,?_⟩;show Chain ((EJ st).modify ((EJ st).size-1) fun(x,len,_)=>(x,len,pw)).toList 0 hi;have hc:=h.2;by_cases he:(EJ st).toList=[]
 ·have:EJ st=#[]:=by simpa using he
  rw[this] at hc |-;simpa using hc
 obtain⟨t,p,n,v,e⟩:=Ub _ he;have e2:EJ st=(t++[(p,n,v)]).toArray:=by rw[<- e]
 rw[e] at hc;rw[e2];have:((t++[(p,n,v)]).toArray.modify ((t++[(p,n,v)]).toArray.size-1) fun(x,len,_)=>(x,len,pw)).toList=t++[(p,n,pw)]:=by
  simp [uL]
 rw[this];exact hc.PX
theorem MC.push {st:GI}{lo n:Nat}(h:MC a₀ lo st)(h1:1<=n):MC a₀ (lo+n) (setPending st ((EJ st).push (lo,n,0))):=by
 refine⟨⟨h.1.kind,h.1.perm,h.1.fail⟩,?_⟩;show Chain ((EJ st).push (lo,n,0)).toList 0 (lo+n);rw[toList_push];exact h.2.snoc h1
theorem MC.of {st st':GI}{lo:Nat}(h:MC a₀ lo st)(h':MP a₀ (EJ st) st'):MC a₀ lo st':=⟨h'.1,by rw[h'.2];exact h.2⟩
end
end SRT
namespace SRT
open PySem PyProof.Rows
end SRT
namespace SRT
open PySem PyProof.Rows
theorem M5 {vs xs:List An}(hp:xs.Perm vs):∀{ns:List Int},Fa vs ns->∃ns',Fa xs ns'/\ns'.Perm ns:=by
 induction hp with
 | nil=>intro ns h;exact⟨ns,h,FG.refl _⟩
 | cons x _ ih=>
  intro ns h;cases h with
  | cons n t h=>
   obtain⟨ns',h1,h2⟩:=ih h;exact⟨n::ns',.cons n t h1,h2.cons n⟩
 | swap x y l=>
  intro ns h;cases h with
  | cons n t h=>
   cases h with
   | cons m u h=>exact⟨m::n::_,.cons m u (.cons n t h),FG.swap _ _ _⟩
 | trans _ _ ih1 ih2=>
  intro ns h;obtain⟨n1,a1,b1⟩:=ih2 h;obtain⟨n2,a2,b2⟩:=ih1 a1;exact⟨n2,a2,b2.trans b1⟩
theorem pW {α:Type}[DecidableEq α]:∀{l ks:List α},l.Nodup->(∀x∈l,x∈ks)->ks.length=l.length->ks.Perm l
 | [],ks,_,_,h=>by rw[Ha.mp h]
 | x::l,ks,hn,hs,hl=>by
  obtain⟨h1,h2⟩:=HZ.mp hn;have hx:x∈ks:=hs x (AX ..);refine(List.perm_cons_erase hx).trans (FG.cons _ (pW h2 (fun y hy=>?_) ?_))
  ·have:y≠x:=fun e=>h1 (e ▸ hy);exact(List.mem_erase_of_ne this).mpr (hs y (BS _ hy))
  rw[List.length_erase_of_mem hx,hl];rfl
theorem oN (val:Nat->Int):∀i,(E6 val i).Nodup
 | 0=>List.nodup_nil
 | i+1=>by
  rw[firstMet_succ];unfold step_dedup;have ih:=oN val i;split
  ·exact ih
  rename_i h;rw[List.nodup_append];refine⟨ih,by simp,fun a ha b hb e=>?_⟩;simp only[AM] at hb;exact h (List.any_eq_true.mpr ⟨a,ha,by simp [e,hb]⟩)
noncomputable def ded (ns:List Int):List Int:=E6 (fun i=>ns.getD i 0) ns.length
theorem uw (ns:List Int):(ded ns).Nodup:=oN _ _
theorem vN (ns:List Int):(ded ns).length<=ns.length:=firstMet_length_le _ _
theorem KD {ns:List Int}{k:Int}:k∈ded ns↔k∈ns:=by
 have e:=firstMet_any (fun i=>ns.getD i 0) ns.length k;have hr:(BB ns.length).map (fun i=>ns.getD i 0)=ns:=by
  refine ext_getElem (by simp) fun i h1 h2=>?_;simp at h1 h2;simp [h2]
 rw[hr] at e;have a1:∀l:List Int,l.any (· == k)=true↔k∈l:=fun l=>by simp
 rw[<- a1,<- a1];unfold ded;rw[e]
section
variable {prog:AV}{w:A6}{A:A7}{E:An->AC->Prop}{s:AC}{S:Addr}{es:Array (Int×An)}{ep:Nat}{t:AO}
theorem yr:∀{l:List (Int×An)},ElemsOf (F6 prog w) l->∃ks:List Int,Fa (l.map (·.2)) ks/\∀k,k∈ks ↔ ∃e∈l,(F6 prog w).is k e.2=true
 | [],_=>⟨[],.nil,fun k=>by simp⟩
 | (h,v)::l,he=>by
  obtain⟨⟨k,hk,_⟩,_⟩:=he.head;obtain⟨tk,e⟩:=An.isInt_shape hk;dsimp only at e hk;subst e;obtain⟨ks,h1,h2⟩:=yr he.tail;refine⟨k::ks,.cons k tk h1,fun j=>?_⟩;rw[Bi,h2];constructor
  ·rintro(rfl|⟨e,a,b⟩)
   ·exact⟨_,AX ..,hk⟩
   exact⟨e,BS _ a,b⟩
  rintro⟨e,a,b⟩;rcases Bi.mp a with rfl|a
  ·exact .inl ((F6 prog w).inj _ _ _ b hk)
  exact .inr ⟨e,a,b⟩
theorem R6 {vs:List An}{acc:Array An}(h:ItemsOf (fun i v=>vs[i]?=some v) acc vs.length):acc.toList=vs:=by
 refine ext_getElem (by simpa using h.1) fun i h1 h2=>?_;have:vs[i]?=some acc[i]:=h.2 i acc[i] (by simp);rw[AD h2] at this;simpa using this.symm
theorem Gi {Q:List An->AC->Prop}(hh:A.handled=none)(hS:ig s.heap S es ep t)(hf:t.fits es.size=true)(ht:TOk (!bt w) t)(hz:es.size<=AL)
  (hQ:∀(s':AC)(vs:List An),vs.Perm (es.toList.map (·.2))->(∀c o,s.heap.get? c=some o->s'.heap.get? c=some o)->s'.gens=s.gens->s'.os=s.os->s.heap.objs.size<=s'.heap.objs.size->Q vs s') :
  AG (A0 prog w) A (collect (.ref S)) Q E s:=by
 obtain⟨o,ho,hx,hd⟩:=id hS;have hty:s.TypeIs (.ref S) "set" := ⟨o,ho,hx.1⟩;have lt:S<s.heap.objs.size:=A4 ho;unfold collect;refine Ap (wpAny_runValue (C5 F.entry_proto_collect ?_));rw[A7.under_plainId F.plain_proto_collect _];show AG _ A.in1 (newList [] >>= fun l=>again (.builtin "list.__iadd__" ⟨[l,.ref S],[]⟩)) _ _ s;refine Ap (BG ?_);refine Au ⟨Kj F.plain_list_iadd _,C5 F.entry_list_iadd ?_⟩;rw[A7.under_plainId F.plain_list_iadd _];have hS1:ig (s.heap.push { cls:=.type "list",data:=.seq ([]:List An).toArray }) S es ep t:=hS.get fun o e=>AB _ e;have hL1:(s.heap.push { cls:=.type "list",data:=.seq ([]:List An).toArray }).get? s.heap.objs.size=some { cls:=.type "list",data:=.seq ([]:List An).toArray }:=AQ _ rfl;have hk1:∀c o,s.heap.get? c=some o->(s.heap.push { cls:=.type "list",data:=.seq ([]:List An).toArray }).get? c=some o:=fun c o e=>AB _ e;have hty1:AC.TypeIs { s with heap:=s.heap.push { cls:=.type "list",data:=.seq ([]:List An).toArray } } (.ref S) "set" := ⟨o,hk1 _ _ ho,hx.1⟩;generalize s.heap.push { cls:=.type "list",data:=.seq ([]:List An).toArray }=h1 at hS1 hL1 hk1 hty1 |-;have ne1:s.heap.objs.size≠S:=ne_of_gt lt;show AG _ A.in1 (AI.List.listExtendWith (.ref s.heap.objs.size) (.ref S) (.ref s.heap.objs.size)) _ _ _;unfold AI.List.listExtendWith;refine Ap (CY hty1 ?_);have q1:AI.List.listSameRef (.ref s.heap.objs.size) (.ref S)=false:=by simp [AI.List.listSameRef,ne1]
 rw[if_neg (by rw[q1];decide)];refine Ap (Px (s:={ s with heap:=h1 }) hh hS1 hf ht hz fun s2 I fp vs St hk2 hg2 ho2 ht2 hp hI hle hlt W st0 hfp=>?_);have hty2:s2.TypeIs (.ref S) "set" := ⟨o,hk2 _ _ (hk1 _ _ ho),hx.1⟩;refine Ap (BE ?_);unfold AI.List.listLengthHint;refine Ap (wpAny_specialOf hty2 F.slot_set_len.lookup ?_)
 (generalize hid:("set.__len__" : String)=id0;(fail_if_success (clear hid id0));wp_delta;rw[show splitId id0=some ("set","__len__") from by subst hid;decide +kernel];subst hid)
 refine Ap (D5 (b:=true) hty2 sub_set_self ?_);refine AY rfl (B7 ψ (Ap (CY hty2 (Au ?_))));rw[if_pos δ];have hSf:s.heap.objs.size∉fp:=fun z=>by
  have l1:s.heap.objs.size<h1.objs.size:=A4 hL1;rcases(hfp _ z).2 with e|e
  ·exact ne1 e
  exact C8 _ (A8 l1 e)
 have hL2:=hk2 _ _ hL1;refine Ap (D8 (Ap ?_));show AG _ A.in1 (updateSeq s.heap.objs.size (·.push .none) >>= fun _=>updateSeq s.heap.objs.size (·.pop)) _ _ _;refine Ap (wpAny_updateSeq hL2 rfl ?_);have hL3:=F3 (DB (·.push An.none)) hL2 rfl;refine wpAny_updateSeq hL3 rfl ?_;have hL4:=F3 (DB (·.pop)) hL3 rfl;have oth:∀b o,b≠s.heap.objs.size->s2.heap.get? b=some o->((s2.heap.update s.heap.objs.size (DB (·.push An.none))).update s.heap.objs.size (DB (·.pop))).get? b=some o:=
  fun b o hb e=>(Db _ _ (BN hb)).trans ((Db _ _ (BN hb)).trans e)
 have W1:=W A.in1 (by simpa using hh);refine Au ⟨Kj F.plain_extend_loop _,codeAny_extend_loopS W1 (by rw[hp.length_eq,AF,D3];exact hz) _ hSf _ vs.length 0 _ _ _ rfl (EI _)
  (W1.frame 0 s2 _ s2.toks st0 (A1 _) fun b hb o e=>oth b o (fun z=>hSf (z ▸ hb)) e) hL4 (ItemsOf.nil _) fun s' acc' c' hm hS' hacc=>?_⟩
 show AG _ A (load s.heap.objs.size >>= _) _ _ s';refine Ap (wpAny_load hS' (Au ?_));rw[R6 hacc];have l2:s.heap.objs.size<s'.heap.objs.size:=A4 hS';refine hQ s' vs hp (fun c o e=>?_) (hm.gens.trans hg2) (hm.os.trans ho2) (II l2);have lc:c<s.heap.objs.size:=A4 e;have nI:c≠I:=fun z=>by
  have l3:s.heap.objs.size<h1.objs.size:=A4 hL1;have l4:h1.objs.size<=I:=hle;rw[z] at lc;exact C8 _ (A8 (lt_trans lc l3) l4)
 exact hm.heap c o (by simp only[Bi,B2,or_false,not_or];exact⟨B1 lc,nI⟩) (oth c o (B1 lc) (hk2 _ _ (hk1 _ _ e)))
theorem Pr {l:List Int}{Q:An->AC->Prop}(hh:A.handled=none)(hS:SetT (F6 prog w) (!bt w) s.heap S (fun k'=>l.any (· == k')) l.length)(hnd:l.Nodup)(h64:l.length<64)
  (h:∀(s':AC)(L:Addr)(xs:List An)(ns':List Int)(k:Nat),s'.heap.get? L=some (seqObj "list" xs.toArray k)->Fa xs ns'->ns'.Perm l->(l.length<64->ns'.Pairwise (·<=·)) ->
   (∀c o,s.heap.get? c=some o->s'.heap.get? c=some o)->s'.gens=s.gens->s'.os=s.os->s.heap.objs.size<=L->Q (.ref L) s'):AG (A0 prog w) A (call (.builtin "sorted") [.ref S]) Q E s:=by
 obtain⟨o,es,ep,t,ho,hex,hd,⟨hel,hmem,hb⟩,hf,hn,ht⟩:=hS;have hz:es.size<=AL:=fits_of_scanBound hb;obtain⟨ks,hks,hkm⟩:=yr hel;have hkp:ks.Perm l:=pW hnd (fun x hx=>(hkm x).mpr ((hmem x).mp (by simpa using hx))) (by rw[<- hn,<- D3,<- Fa.length hks,AF]);refine Calls.call_function_entry kind_sorted plain_sorted entry_sorted (args_sorted1 (.ref S)) ?_;unfold AI.«sorted»;refine Ap (m:=checkCount "sorted" 1 1 _) (Au (Ap (Gi (by simpa using hh) ⟨o,ho,hex,hd⟩ hf ht hz fun s1 vs hp hk1 hg1 ho1 hl1=>Ap (wpAny_newList ?_ ?_))))
 ·obtain⟨ms,hms,hmp⟩:=M5 hp hks;have hvl:vs.length=l.length:=by rw[Fa.length hms,hmp.length_eq,hkp.length_eq]
  have hL:(s1.heap.push (seqObj "list" vs.toArray 0)).get? s1.heap.objs.size=some (seqObj "list" vs.toArray 0):=AQ _ rfl;show AG (A0 prog w) A.in1 _ _ E { s1 with heap:=s1.heap.push (seqObj "list" vs.toArray 0) };refine Ap (BE (Cc slot_list_sort ⟨_,hL,rfl⟩ entry_list_sort (list_sort_tree hL hms ?_ fun xs ns' a1 a2 a3=>⟨_,rfl,Au ⟨_,rfl,?_⟩⟩) (args_list_sort _)))
  ·rw[hvl];exact h64
  obtain⟨e,he⟩:=sortedHeap_at (out:=xs) hL;refine h _ _ xs.toList ns' e (by simpa using he) a1 (a2.trans (hmp.trans hkp)) (fun _=>a3) (fun c o x=>?_) hg1 ho1 hl1;have lc:c<s1.heap.objs.size:=A4 (hk1 c o x);show(sortedHeap _ _ _ _).get? c=some o;rw[sortedHeap_old (B1 lc) (by rw[size_push'];exact CC lc)];exact AB _ (hk1 c o x)
 rw[hp.length_eq,AF,D3];exact hz
end
end SRT
set_option maxHeartbeats 4000000
namespace L2
open PySem PySem.Spec PyProof.Rows
theorem vV:∀{xs:List Int}{us:List An},Vals (xs.map V.int) us->Fa us xs
 | [],_,h=>by cases h;exact .nil
 | x::xs,_,h=>by
  cases h with
  | cons r h=>
   obtain⟨t,rfl⟩:=r;exact .cons x t (vV h)
theorem Aj:∀{us:List An}{xs:List Int},Fa us xs->Vals (xs.map V.int) us
 | _,_,.nil=>.nil
 | _,_,.cons n t h=>.cons ⟨t,rfl⟩ (Aj h)
noncomputable def tSS (K:AE)(ta:TA):TE:=fun σ H Q=>ta σ H fun vs H1=>∃(l:Addr)(xs:List Int),vs=[.ref l]/\SqL K H1 l (xs.map V.int)/\xs.length<64 /\
 ∀(p:Addr)(ys:List Int),H1 p=none->ys.Perm (SRT.ded xs)->((SRT.ded xs).length<64->ys.Pairwise (·<=·))->Q (.ref p) (upd H1 p (.lst (ys.map V.int)))
section
variable {X:Cx}{pins:List (Addr×Obj)}{s:AC}{σ:St}{H:Hp}
theorem Inv.drawn (I:Inv X pins σ H s)(d:Drawn):Inv X pins σ H { s with drawn:=d }:=
 I.step (g':=s.gens) (d':=d) (t':=s.toks) (h':=s.heap) (ch:=[]) (fun _ z=>nomatch z) (fun b o _ _ _ e _=>e) (fun b o _ _ _ e _=>⟨o.slots,e⟩) (fun _ _ _ _ n=>n) (fun b o _ e=>⟨o,e⟩) (fun _ _ e=>e) (fun _ _ _ e=>e) (fun b ps e=>⟨#[],by rw[e];simp⟩) (fun _ h=>h) I.hok I.bare
theorem Vt {a:Expr}{ta:TA}{p p2 pos pos2:Pos}(hc:X.calm=true) (hgl:Gl X "sorted") (hml:X.mg "sorted" = none) (hg:Gl X "set") (hm:X.mg "set" = none) (ha:PA X [a] ta)
  (hs:AH [a] X.env=[(false,eval a X.env)]:=by rfl)
  (he:AH [.Call (.Name "set" p2) [a] [] pos2] X.env=[(false,eval (.Call (.Name "set" p2) [a] [] pos2) X.env)]:=by rfl) :
  PE X (.Call (.Name "sorted" p) [.Call (.Name "set" p2) [a] [] pos2] [] pos) (tSS X.K ta):=by
 intro pins s σ H Q I h;refine ET (ji I hgl hml PyProof.Rows.boot_sorted ?_ δ δ);refine PyProof.Rows.callWith_builtin1 ?_ he rfl;rw[he];show AG _ _ (spliced ((false,eval (.Call (.Name "set" p2) [a] [] pos2) X.env)::[])) _ _ s;refine Co ?_;refine Call_ (ji I hg hm PyProof.Rows.boot_set (B0 (thA (ha pos2 pins s σ H _ I h) fun us s1 vs H1 I1 r1 q1=>?_) hs rfl));obtain⟨l,xs,rfl,sq,hn,q⟩:=q1;cases r1 with
 | cons r rr=>
  cases rr;cases r;obtain⟨its,rv,pl,hz⟩:=I1.list sq;have hI:=vV rv;have hlen:its.length=xs.length:=Fa.length hI;refine SRT.Nt (I1.ok.hd hc) pl.isList (by simpa using hI) (by simp [hlen,FU];omega) fun h2 t2 hS hk=>Ch ?_;have eq:E6 (fun i=>xs.getD i 0) its.toArray.size=SRT.ded xs:=by unfold SRT.ded;rw[AR,hlen]
  rw[eq] at hS;have hk2:∀c o,s1.heap.get? c=some o->h2.get? c=some o:=fun c o e=>hk c o (A4 e) e;refine SRT.Pr (s:={ s1 with heap:=h2,toks:=t2 }) (I1.ok.hd hc) hS (SRT.uw xs) (IY (SRT.vN xs) hn) fun s3 L ys ns k gL iL pL oL k3 g3 o3 l3=>?_;have le:s1.heap.objs.size<=L:=by
   obtain⟨o,_,_,_,e,_⟩:=hS;exact Be (II (A4 e)) l3
  have hf:H1 L=none:=I1.hok.fresh le;obtain⟨h3,g3',d3,t3,o3'⟩:=s3;cases g3;cases o3;have hl:ns.length<=AL:=by
   rw[pL.length_eq];exact Be (SRT.vN xs) (Be (II hn) δ)
  refine⟨.ref L,_,((I1.drawn d3).laid (t':=t3) (h':=h3) (fun c o e=>k3 c o (hk2 c o e)) le (show dR X.prog X.w _ h3 _ (.lst (ns.map V.int)) from⟨by simpa using hl,ys,k,Aj iL,gL⟩)),rfl,q L ns hf pL oL⟩
theorem JT {a:Expr}{ta:TA}{p p2 pos pos2:Pos}(hc:X.calm=true) (hgl:Gl X "sorted") (hml:X.mg "sorted" = none) (hg:Gl X "set") (hm:X.mg "set" = none) (ha:QA X [a] ta)
  (hs:AH [a] X.env=[(false,eval a X.env)]:=by rfl)
  (he:AH [.Call (.Name "set" p2) [a] [] pos2] X.env=[(false,eval (.Call (.Name "set" p2) [a] [] pos2) X.env)]:=by rfl) :
  QE X (.Call (.Name "sorted" p) [.Call (.Name "set" p2) [a] [] pos2] [] pos) (tSS X.K ta):=⟨Vt hc hgl hml hg hm ha.h hs he⟩
end
noncomputable def aX:List Nat->Nat
 | []=>0
 | k::l=>2^k+aX l
noncomputable def bC (n s:Nat):List Nat:=(BB n).filter fun k=>s.testBit k
theorem DX:∀(l m:List Nat),aX (l++m)=aX l+aX m
 | [],m=>(Nat.zero_add _).symm
 | k::l,m=>by
  show 2^k+aX (l++m)=2^k+aX l+aX m;rw[DX l m];omega
theorem snoc_ind {P:List Nat->Prop}(h0:P [])(h1:∀l m,P l->P (l++[m])):∀l,P l:=by
 intro l;have:∀(n:Nat)(l:List Nat),l.length=n->P l:=by
  intro n
  induction n with
  | zero=>intro l h;rw[EO h];exact h0
  | succ n ih=>
   intro l h;obtain⟨a,b,rfl⟩:=pF l ω;refine h1 a b (ih a ?_);rw[AK,BM] at h;omega
 exact this l.length l rfl
theorem lz:∀l:List Nat,l.Pairwise (· < ·)->∀n,(∀k∈l,k<n)->aX l<2^n/\∀j,(aX l).testBit j=decide (j∈l):=by
 refine snoc_ind ?_ ?_
 ·intro _ n _;exact⟨D0 n,fun j=>by show Nat.testBit 0 j=_;rw[Nat.zero_testBit];simp⟩
 intro l m ih hp n hl;obtain⟨p1,_,p3⟩:=List.pairwise_append.mp hp;have hm:∀k∈l,k<m:=fun k hk=>p3 k hk m (AM.mpr rfl);obtain⟨i1,i2⟩:=ih p1 m hm;have hmn:=hl m (by simp);have e:aX (l++[m])=2^m+aX l:=by
  rw[DX];show aX l+(2^m+0)=_;omega
 have hlt:2^m+aX l<2^(m+1):=by rw[Nat.pow_succ];omega
 rw[e];refine⟨A8 hlt (D6 δ hmn),fun j=>?_⟩;rcases Nat.lt_trichotomy j m with c|c|c
 ·rw[Nat.testBit_two_pow_add_gt c,i2 j];have:j≠m:=by omega
  simp [this]
 ·subst c;rw[Nat.testBit_two_pow_add_eq,i2 j];have:j∉l:=fun z=>C8 _ (hm j z);simp [this]
 rw[Iy (A8 hlt (D6 δ c))];have h1:j≠m:=ω;have h2:j∉l:=fun z=>by have:=hm j z;omega
 simp [h1,h2]
theorem qQ:∀{a b:List Nat},a.Pairwise (· < ·)->b.Pairwise (· < ·)->(∀x,x∈a↔x∈b)->a=b
 | [],[],_,_,_=>rfl
 | [],y::b,_,_,h=>absurd ((h y).mpr AX) B2
 | x::a,[],_,_,h=>absurd ((h x).mp AX) B2
 | x::a,y::b,ha,hb,h=>by
  obtain⟨a1,a2⟩:=DD.mp ha;obtain⟨b1,b2⟩:=DD.mp hb;have e:x=y:=by
   rcases Bi.mp ((h x).mp AX) with z|z
   ·exact z
   rcases Bi.mp ((h y).mpr AX) with w|w
   ·exact w.symm
   have:=b1 x z;have:=a1 y w;omega
  subst e;congr 1;refine qQ a2 b2 fun z=>?_;constructor
  ·intro m;rcases Bi.mp ((h z).mp (BS _ m)) with w|w
   ·have:=a1 z m;omega
   exact w
  intro m;rcases Bi.mp ((h z).mpr (BS _ m)) with w|w
  ·have:=b1 z m;omega
  exact w
theorem jR (n s:Nat):(bC n s).Pairwise (· < ·):=Hn.filter _
theorem gU {n s k:Nat}:k∈bC n s↔k<n/\s.testBit k=true:=by
 unfold bC;rw[C7,mem_range]
theorem Gw {l:List Nat}(hp:l.Pairwise (· < ·)){n:Nat}(hl:∀k∈l,k<n):bC n (aX l)=l:=by
 refine qQ (jR _ _) hp fun x=>?_;rw[gU,(lz l hp n hl).2 x,decide_eq_true_eq];exact⟨fun z=>z.2,fun z=>⟨hl x z,z⟩⟩
theorem jD {n s:Nat}(h:s<2^n):aX (bC n s)=s:=by
 have hb:=(lz (bC n s) (jR n s) n fun k hk=>(gU.mp hk).1).2;refine Nat.eq_of_testBit_eq fun j=>?_;rw[hb j];by_cases c:j<n
 ·cases e:s.testBit j with
  | true=>exact decide_eq_true (gU.mpr ⟨c,e⟩)
  | false=>exact decide_eq_false fun z=>by rw[(gU.mp z).2] at e;cases e
 rw[Iy (A8 h (D6 δ ω))];exact decide_eq_false fun z=>c (gU.mp z).1
theorem jE (p:Nat->Bool):∀l:List Nat,aX (l.filter p)+aX (l.filter fun k=>!p k)=aX l
 | []=>rfl
 | k::l=>by
  have ih:=jE p l;cases h:p k with
  | true=>
   rw[EX (by rw[h]),EZ (by rw[h];decide)];show 2^k+_+_=2^k+aX l;omega
  | false=>
   rw[EZ (by rw[h];decide),EX (by rw[h];rfl)];show _+(2^k+_)=2^k+aX l;omega
theorem DW {l:List Nat}(hp:l.Pairwise (· < ·)){k:Nat}(hk:k∈l):aX (l.filter (·≠k))+2^k=aX l:=by
 have e:(l.filter fun j=>!(decide (j≠k)))=[k]:=by
  refine qQ (hp.filter _) (List.pairwise_singleton _ _) fun x=>?_;rw[C7,AM];constructor
  ·intro z;have:=z.2;simpa using this
  intro z;subst z;exact⟨hk,by simp⟩
 have h:=jE (fun j=>decide (j≠k)) l;rw[e] at h;exact h
theorem nU:∀{l:List Nat},l≠[]->0<aX l
 | [],h=>absurd rfl h
 | k::l,_=>by
  have:=D0 k;show 0<2^k+aX l;omega
theorem PB {l:List Nat}(hp:l.Pairwise (· < ·))(k:Nat):aX l &&& (2^k-1)=aX (l.filter (· < k)):=by
 have bound:∀x∈l,x<aX l+1:=fun x hx=>by
  have h1:=DW hp hx;have:=@Nat.lt_two_pow_self x;omega
 have b1:=(lz l hp _ bound).2;have b2:=(lz (l.filter (· < k)) (hp.filter _) _ fun x hx=>bound x (C7.mp hx).1).2;refine Nat.eq_of_testBit_eq fun j=>?_;rw[Nat.testBit_and,Nat.testBit_two_pow_sub_one,b1 j,b2 j];by_cases c1:j∈l <;> by_cases c2:j<k <;> simp [c1,c2]
theorem wA:∀l:List Nat,(l.map fun k=>((2^k:Nat):Int)).sum=(aX l:Nat)
 | []=>rfl
 | k::l=>by
  rw[D2,sum_cons,wA l];show _=((2^k+aX l:Nat):Int);omega
theorem Tg {x n:Nat}(h:x<2^n):x<2^AI.Int.intBits (x:Int)/\AI.Int.intBits (x:Int)<=n:=by
 unfold AI.Int.intBits;by_cases c:x=0
 ·subst c;exact⟨δ,by simp⟩
 rw[if_neg (by simp;omega),Int.natAbs_natCast];exact⟨Nat.lt_log2_self,(Nat.log2_lt c).mpr h⟩
theorem Jp {n m s:Nat}(h1:s<2^n)(h2:s<2^m):bC n s=bC m s:=by
 refine qQ (jR _ _) (jR _ _) fun k=>?_;rw[gU,gU];have no:∀{a},s<2^a->s.testBit k=true->k<a:=fun {a} h z=>by
  rcases FK k a with c|c
  ·exact c
  rw[Iy (A8 h (D6 δ c))] at z;cases z
 exact⟨fun z=>⟨no h2 z.2,z.2⟩,fun z=>⟨no h1 z.2,z.2⟩⟩
theorem mZ (n s:Nat):bC (n+1) s=bC n s++(if s.testBit n=true then [n] else []):=by
 unfold bC;rw[List.range_succ,List.filter_append];congr 1;by_cases c:s.testBit n=true
 ·rw[if_pos c,EX (by simpa using c)];rfl
 rw[if_neg c,EZ (by simpa using c)];rfl
noncomputable def blK (x:V)(H:Hp)(Q:VK):Prop:=match x with
 | .int i=>Q (.int (AI.Int.intBits i:Nat)) H
 | _=>False
noncomputable def O8 (to:TE):TE:=fun σ H Q=>to σ H fun x H1=>blK x H1 Q
theorem O7 (to:TE)(σ:St)(H:Hp)(Q:VK):O8 to σ H Q=to σ H fun x H1=>blK x H1 Q:=rfl
theorem W7 (i:Int)(H:Hp)(Q:VK):blK (.int i) H Q=Q (.int (AI.Int.intBits i:Nat)) H:=rfl
section
variable {X:Cx}{o:Expr}{to:TE}
theorem VR {apos cpos:Pos}(ho:PE X o to) (hbase:CD o "bit_length" X.env (eval o X.env)=eval o X.env:=by rfl) (hline:(apos.endLine == cpos.line)=true:=by rfl) :
  PE X (.Call (.Attribute o "bit_length" apos) [] [] cpos) (O8 to):=by
 intro pins s σ H Q I h;refine wpAny_Call_method0_late hbase hline (thE (ho pins s σ H _ I h) fun v s1 x H1 I1 r1 q=>?_);cases x with
 | int i=>
  replace q:Q (.int (AI.Int.intBits i:Nat)) H1:=q;obtain⟨t,rfl⟩:=r1;have c:AG (A0 X.prog X.w) X.A (call (.builtin "int.bit_length") [.int i t]) (EP X pins σ Q) X.xe s1:=
   call_givesAt (P:=fun _=>True) F.slot_int_bit_length (typeIs_int s1 i t) F.entry_int_bit_length (F.args_int_bit_length_1 _) (PySem.AutoIntG2.int_bit_length_int_0 i t).at trivial
    (show EP X pins σ Q _ _ from⟨.int _,H1,I1.tok _,⟨_,rfl⟩,q⟩)
  exact⟨"int","int.bit_length",F.plainAttrs_int,F.slot_int_bit_length,F.type_int_bit_length,typeIs_int s1 i t,(fun a (e:An.int i t=.ref a)=>nomatch e),Cs rfl (PySem.evalArgs_none c)⟩
 | _=>exact q.elim
theorem U6 {apos cpos:Pos}(ho:QE X o to) (hbase:CD o "bit_length" X.env (eval o X.env)=eval o X.env:=by rfl) (hline:(apos.endLine == cpos.line)=true:=by rfl) :
  QE X (.Call (.Attribute o "bit_length" apos) [] [] cpos) (O8 to):=⟨VR ho.h hbase hline⟩
end
inductive Wy where
 | pick (l:Int)
 | tab
 | msk (l:Int)
 | one (k:Nat)
 | wit (k:Nat)
 | low (k:Nat)
noncomputable def hdL:Wy->List A3
 | .pick l=>[.str "pick",.int l]
 | .tab=>[.str "table"]
 | .msk l=>[.str "mask",.int l]
 | .one k=>[.str "is",.int (k:Int)]
 | .wit k=>[.str "within",.int (k:Int)]
 | .low k=>[.str "below",.int (k:Int)]
noncomputable def eO (ss:Sts)(left:List Nat):Wy->List (List Nat)
 | .pick _=>[]
 | .tab=>[]
 | .msk l=>[left.filter fun k=>(bW ss k).2.2≠l]
 | .one k=>[left.filter (·≠k)]
 | .wit k=>[left.filter (·≠k)]
 | .low k=>[left.filter (· < k),left.filter (k<=·)]
noncomputable def ptD (p:List Nat):A3:=.int ((aX p:Nat):Int)
noncomputable def wyD (ss:Sts)(left:List Nat)(w:Wy):A3:=.tuple [.tuple (hdL w),.list ((eO ss left w).map ptD)]
noncomputable def oA (ss:Sts)(k:Nat):List Wy:=if (bW ss k).1=(bW ss k).2.1 then [.one k,.wit k] else [.wit k]
noncomputable def K8 (ss:Sts)(left:List Nat):List Wy:=left.flatMap (oA ss)++(left.drop 1).map Wy.low
theorem vy (ss:Sts):∀l:List Nat,(l.flatMap (oA ss)).length<=2*l.length
 | []=>EI _
 | k::l=>by
  have:=vy ss l;rw[GS,AK,B6];have:(oA ss k).length<=2:=by unfold oA;split <;> simp
  omega
theorem low_split {left:List Nat}(hp:left.Pairwise (· < ·))(k:Nat):aX left-aX (left.filter (· < k))=aX (left.filter (k<=·)):=by
 have h:=jE (fun j=>decide (j<k)) left;have e:(left.filter fun j=>!(decide (j<k)))=left.filter (k<=·):=List.filter_congr fun j _=>by
  by_cases c:j<k
  ·rw[decide_eq_true c,decide_eq_false (show ¬k<=j by omega)];rfl
  rw[decide_eq_false c,decide_eq_true (show k<=j by omega)];rfl
 rw[e] at h;omega
section
variable {ok:Addr->Prop}{σ:St}{H:Hp}{te:TE}{d:A3}{ds:List A3}{D:Ends}{i:Nat}
theorem gvV {v:V}(h:σ[i]?=some (some v))(t:aH ok H v d):Gv ok (tV i) σ H d:=fun H2 s Q q=>by
 unfold tV;rw[h];exact q _ _ (Same.refl _) (t.same s)
theorem qJ {r:Addr}{xs:List V}(hσ:σ[i]?=some (some (.ref r)))(er:H r=some (.lst xs))(hx:xs.length<1000000)(hr:∀a,ok a->a≠r)(t:aG ok H xs ds)(h:Gv ok te σ H d)
  (q:∀v H',Same H H'->aG ok (upd H' r (.lst (xs++[v]))) (xs++[v]) (ds++[d])->D.nx σ (upd H' r (.lst (xs++[v])))):uH (v5 (tV i) te) D σ H:=by
 unfold uH v5 tV;rw[hσ];show W8 _ _ _ _ _;rw[Gz];refine⟨by rw[er];trivial,h H (Same.refl _) _ fun v H' s tv=>?_⟩;rw[s _ _ er,K6];refine⟨A8 hx δ,q v H' s ?_⟩;exact((t.same s).append (.cons tv .nil)).keep fun a o h e=>⟨h,by rw[aM (hr a h)];exact e⟩
end
theorem S5 (left:List Nat):jQ (nv left) (some 1) none=nv (left.drop 1):=by
 unfold jQ;have e2:HT.sIx (nv left).length (nv left).length none=(nv left).length:=rfl;rw[e2];cases left with
 | nil=>rfl
 | cons a r=>
  have e1:HT.sIx (nv (a::r)).length 0 (some 1)=1:=by
   simp only[HT.sIx,dN,B6];split
   ·omega
   omega
  rw[e1];show(((nv (a::r)).drop 1).take _)=nv r;rw[Fc (by rw[EB];exact A1 _)];rfl
theorem Xq {ss:Sts}{left:List Nat}{i k:Nat}(h:left[i]?=some k):((left.take (i+1)).flatMap (oA ss))=(left.take i).flatMap (oA ss)++oA ss k:=by
 rw[take_snoc h,List.flatMap_append,GS,flatMap_nil,CH]
theorem DR {left:List Nat}(hp:left.Pairwise (· < ·)){k:Nat}(hk:k∈left):((aX left:Nat):Int)-1*2^((k:Int)).toNat=((aX (left.filter (·≠k)):Nat):Int):=by
 have h:=DW hp hk;rw[IA,B3,show((2:Int)^k)=((2^k:Nat):Int) by rw[Fm];rfl];omega
theorem Lk {left:List Nat}(hp:left.Pairwise (· < ·))(k:Nat):AI.bitAnd ((aX left:Nat):Int) (1*2^((k:Int)).toNat-1)=((aX (left.filter (· < k)):Nat):Int):=by
 have p:=D0 k;rw[IA,B3,show((2:Int)^k-1)=((2^k-1:Nat):Int) by rw[Int.natCast_sub p,Fm];rfl,Jq,PB hp]
theorem wz {left:List Nat}(hp:left.Pairwise (· < ·))(k:Nat):((aX left:Nat):Int)-((aX (left.filter (· < k)):Nat):Int)=((aX (left.filter (k<=·)):Nat):Int):=by
 have h:=jE (fun j=>decide (j<k)) left;have:=low_split hp k;omega
noncomputable def oV (ss:Sts)(left:List Nat)(L:List Int):Prop:=L.Nodup/\∀l,l∈L ↔ ∃k∈left,lbl ss k=l
noncomputable def wyP (L:List Int):List Wy:=if L.length=1 then [.pick (L.getD 0 0)] else []
noncomputable def wyT (ss:Sts)(left:List Nat):List Wy:=if bR ss left<=200 then [.tab] else []
noncomputable def wyM (ss:Sts)(left:List Nat)(L:List Int):List Wy:=if bR ss left<=64/\1<L.length then L.map Wy.msk else []
noncomputable def GJ (ss:Sts)(left:List Nat)(L:List Int):List Wy:=wyP L++wyT ss left++wyM ss left L
theorem Zu {ok:Addr->Prop}{σ:St}{H:Hp}{i:Nat}{p:Addr}{L:List Int}(hσ:σ[i]?=some (some (.ref p)))(e:H p=some (.lst (L.map V.int)))(hL:0<L.length):Gv ok (tOp Qi (tV i) (tC (V.int 0))) σ H (.int (L.getD 0 0)):=fun H' s Q q=>by
 unfold tOp tV tC;rw[hσ];show Qi (.ref p) (.int 0) H' Q;rw[Ei,s _ _ e,Wr];cases L with
 | nil=>exact absurd hL δ
 | cons x L=>exact⟨V.int x,dj (xs:=V.int x::L.map V.int) (j:=0) rfl,q _ _ (Same.refl _) (.int x)⟩
theorem Oe (ss:Sts)(left:List Nat)(L:List Int):(GJ ss left L).length<=2+L.length:=by
 have h1:(wyP L).length<=1:=by unfold wyP;split <;> simp
 have h2:(wyT ss left).length<=1:=by unfold wyT;split <;> simp
 have h3:(wyM ss left L).length<=L.length:=by unfold wyM;split <;> simp
 unfold GJ;rw[AK,AK];omega
theorem Od (ss:Sts)(left:List Nat):(K8 ss left).length<=3*left.length:=by
 have h1:=vy ss left;unfold K8;rw[AK,AF,EB];omega
noncomputable def K9 (ss:Sts)(left:List Nat)(L:List Int):List Wy:=GJ ss left L++if 1<left.length then K8 ss left else []
theorem iT {ss:Sts}{n s:Nat}(hn:ss.length=n)(h0:0<s)(h:s<2^n):Lf ss (bC n s):=by
 refine⟨fun z=>?_,fun k hk=>by have:=(gU.mp hk).1;omega,jR n s⟩;have e:=jD h;rw[z] at e;have:(0:Nat)=s:=e;omega
theorem mY (n s:Nat):(bC n s).length<=n:=Be (BA _ _) (by rw[EG];exact A1 _)
noncomputable def jb (ss:Sts)(left:List Nat)(l:Int):Nat:=(left.map (lbl ss)).count l
noncomputable def Hb (ss:Sts)(left:List Nat):Pl->Bool
 | .tab=>decide (bR ss left<=200)
 | .pick l=>decide (jb ss left l=left.length)
 | .low k _ _=>(left.drop 1).contains k
 | .msk l _=>(decide (0<jb ss left l)&&decide (jb ss left l<left.length))&&decide (bR ss left<=64)
 | .one k _=>(left.contains k&&decide (left.length≠1))&&decide ((bW ss k).1=(bW ss k).2.1)
 | .wit k _=>left.contains k&&decide (left.length≠1)
noncomputable def okP (ss:Sts):Pl->List Nat->Bool
 | .tab,left=>Hb ss left .tab
 | .pick l,left=>Hb ss left (.pick l)
 | .low k a b,left=>Hb ss left (.low k a b)&&(okP ss a (left.filter (· < k))&&okP ss b (left.filter (k<=·)))
 | .msk l r,left=>Hb ss left (.msk l r)&&okP ss r (left.filter fun k=>(bW ss k).2.2≠l)
 | .one k r,left=>Hb ss left (.one k r)&&okP ss r (left.filter (·≠k))
 | .wit k r,left=>Hb ss left (.wit k r)&&okP ss r (left.filter (·≠k))
theorem Kv {left:List Nat}{k:Nat}(hk:k∈left)(hu:left.Pairwise (· < ·))(h1:left.length≠1):left.filter (·≠k)≠[]:=by
 intro e;have all:∀x∈left,x=k:=fun x hx=>by
  rcases Decidable.em (x=k) with h|h
  ·exact h
  have:x∈left.filter (·≠k):=C7.mpr ⟨hx,by simpa using h⟩;rw[e] at this;cases this
 cases left with
 | nil=>cases hk
 | cons a r=>
  cases r with
  | nil=>exact h1 rfl
  | cons b r=>
   have h2:=(DD.mp hu).1 b (AX ..);have h3:=all a (AX ..);have h4:=all b (BS _ (AX ..));omega
theorem Lj {ss:Sts}{left:List Nat}{p:Pl}(lf:Lf ss left)(h:Hb ss left p=true):∀x∈kids ss p left,Lf ss x.1:=by
 have mk:∀q:Nat->Bool,left.filter q≠[]->Lf ss (left.filter q):=fun q hq=>⟨hq,fun k hk=>lf.lt k (C7.mp hk).1,lf.up.sublist (List.filter_sublist ..)⟩;intro x hx;cases p with
 | tab=>cases hx
 | pick l=>cases hx
 | one k r=>
  simp only[kids,AM] at hx;subst hx;simp only[Hb,C3,EK,decide_eq_true_eq] at h;exact mk _ (Kv h.1.1 lf.up h.1.2)
 | wit k r=>
  simp only[kids,AM] at hx;subst hx;simp only[Hb,C3,EK,decide_eq_true_eq] at h;exact mk _ (Kv h.1 lf.up h.2)
 | msk l r=>
  simp only[kids,AM] at hx;subst hx;simp only[Hb,C3,decide_eq_true_eq] at h;refine mk _ fun e=>?_;have:jb ss left l=left.length:=by
   unfold jb;have e2:∀y∈left.map (lbl ss),l=y:=fun y hy=>by
    obtain⟨k,hk,rfl⟩:=DT.mp hy;rcases Decidable.em ((bW ss k).2.2=l) with h|h
    ·exact h.symm
    have:k∈left.filter fun k=>decide ((bW ss k).2.2≠l):=C7.mpr ⟨hk,by simpa using h⟩;rw[e] at this;cases this
   rw[Jn.mpr e2,AF]
  omega
 | low k a b=>
  simp only[Hb,EK] at h;have hk:k∈left:=GH h;simp only[kids,Bi,B2,or_false] at hx;rcases hx with rfl|rfl
  ·refine mk _ fun e=>?_;cases left with
   | nil=>cases hk
   | cons c r=>
    have h2:=(DD.mp lf.up).1 k (by simpa using h);have:c∈(c::r).filter (fun x=>decide (x<k)):=C7.mpr ⟨AX ..,by simpa using h2⟩;rw[e] at this;cases this
  refine mk _ fun e=>?_;have:k∈left.filter (fun x=>decide (k<=x)):=C7.mpr ⟨hk,by simp⟩;rw[e] at this;cases this
theorem Kg {ss:Sts}{p:Pl}{left:List Nat}(h:PlV ss p left):Lf ss left:=h.ok.lf
theorem Kh {left:List Nat}{k:Nat}(hk:k∈left)(h:left.filter (fun x=>decide (x≠k))≠[]):left.length≠1:=by
 intro e;obtain⟨a,rfl⟩:=DU.mp e;rw[AM] at hk;subst hk;exact h (by simp)
theorem PlV.okP {ss:Sts}:∀{p:Pl}{left:List Nat},PlV ss p left->okP ss p left=true
 | .tab,left,h=>decide_eq_true h.2
 | .pick l,left,h=>by
  refine decide_eq_true ?_;unfold jb;rw[Jn.mpr fun y hy=>?_,AF];obtain⟨k,hk,rfl⟩:=DT.mp hy;exact(h.2 k hk).symm
 | .one k r,left,h=>by
  obtain⟨⟨lf,hk,e⟩,hr⟩:=h;have h1:=Kh hk (Kg hr).ne;show(((left.contains k&&decide (left.length≠1))&&decide ((bW ss k).1=(bW ss k).2.1))&&L2.okP ss r _)=true;rw[PlV.okP hr,decide_eq_true h1,decide_eq_true e,EK.mpr hk];rfl
 | .wit k r,left,h=>by
  obtain⟨⟨lf,hk⟩,hr⟩:=h;have h1:=Kh hk (Kg hr).ne;show((left.contains k&&decide (left.length≠1))&&L2.okP ss r _)=true;rw[PlV.okP hr,decide_eq_true h1,EK.mpr hk];rfl
 | .low k a b,left,h=>by
  obtain⟨⟨lf,hk⟩,ha,hb⟩:=h;have h1:k∈left.drop 1:=by
   cases left with
   | nil=>cases hk
   | cons c r=>
    rcases Bi.mp hk with rfl|hk
    ·refine absurd ?_ (Kg ha).ne;rw[F1];intro x hx;rcases Bi.mp hx with rfl|hx
     ·simp
     have:=(DD.mp lf.up).1 x hx;simp;omega
    simpa using hk
  show((left.drop 1).contains k&&(L2.okP ss a _&&L2.okP ss b _))=true;rw[PlV.okP ha,PlV.okP hb,EK.mpr h1];rfl
 | .msk l r,left,h=>by
  obtain⟨⟨lf,hs,k,hk,e⟩,hr⟩:=h;have h1:0<jb ss left l:=List.count_pos_iff.mpr (DT.mpr ⟨k,hk,e⟩);have h2:jb ss left l<left.length:=by
   refine Nat.lt_of_le_of_ne (Be (List.count_le_length ..) (by rw[AF];exact A1 _)) fun z=>?_;refine(Kg hr).ne ?_;rw[F1];intro x hx;have:=Jn.mp (show(left.map (lbl ss)).count l=(left.map (lbl ss)).length by rw[AF];exact z) _ (DT.mpr ⟨x,hx,rfl⟩);simp only[decide_eq_true_eq,Decidable.not_not];exact this.symm
  show(((decide (0<jb ss left l)&&decide (jb ss left l<left.length))&&decide (bR ss left<=64))&&L2.okP ss r _)=true;rw[PlV.okP hr,decide_eq_true h1,decide_eq_true h2,decide_eq_true hs];rfl
noncomputable def JH:Sp:=fun vs H Q _=>∃(s l:V)(ok:Addr->Prop)(ss:Sts)(left:List Nat)(m:Int),vs=[s,l,.int m]/\aH ok H s (.list (ss.map stD))/\aH ok H l (lJ left)/\Lf ss left/\left.length<=1000000 /\
 ∀H',Same H H'->Q (.bl (decide (0<jb ss left m)&&decide (jb ss left m<left.length))) H'
inductive Pg where
 | pick (l:Int)
 | one (k:Nat) (r:Pg)
 | wit (k:Nat) (r:Pg)
 | low (k:Nat) (a b:Pg)
 | msk (l:Int) (r:Pg)
 | tab
 | odd (d:A3)
noncomputable def pgD:Pg->A3
 | .pick l=>.tuple [.str "pick",.int l]
 | .one k r=>.tuple [.str "is",.int (k:Int),pgD r]
 | .wit k r=>.tuple [.str "within",.int (k:Int),pgD r]
 | .low k a b=>.tuple [.str "below",.int (k:Int),pgD a,pgD b]
 | .msk l r=>.tuple [.str "mask",.int l,pgD r]
 | .tab=>.tuple [.str "table"]
 | .odd d=>d
noncomputable def jj:Pg->Nat
 | .pick _=>1
 | .one _ r=>jj r+1
 | .wit _ r=>jj r+1
 | .low _ a b=>jj a+jj b+1
 | .msk _ r=>jj r+1
 | .tab=>1
 | .odd _=>1
structure Xn (d:A3):Prop where
 tab:d≠.tuple [.str "table"]
 pick:∀l,d≠.tuple [.str "pick",.int l]
 one:∀(k:Nat) r,d≠.tuple [.str "is",.int (k:Int),r]
 wit:∀(k:Nat) r,d≠.tuple [.str "within",.int (k:Int),r]
 low:∀(k:Nat) a b,d≠.tuple [.str "below",.int (k:Int),a,b]
 msk:∀l r,d≠.tuple [.str "mask",.int l,r]
noncomputable def WfG:Pg->Prop
 | .pick _=>True
 | .one _ r=>WfG r
 | .wit _ r=>WfG r
 | .low _ a b=>WfG a/\WfG b
 | .msk _ r=>WfG r
 | .tab=>True
 | .odd d=>Xn d
noncomputable def iz (ss:Sts):Pg->List Nat->List (List Nat×Pg)
 | .pick _,_=>[]
 | .tab,_=>[]
 | .one k r,left=>[(left.filter (·≠k),r)]
 | .wit k r,left=>[(left.filter (·≠k),r)]
 | .low k a b,left=>[(left.filter (· < k),a),(left.filter (k<=·),b)]
 | .msk l r,left=>[(left.filter fun k=>(bW ss k).2.2≠l,r)]
 | .odd _,_=>[]
noncomputable def iy (ss:Sts)(left:List Nat):Pg->Bool
 | .tab=>decide (bR ss left<=200)
 | .pick l=>decide (jb ss left l=left.length)
 | .low k _ _=>(left.drop 1).contains k
 | .msk l _=>(decide (0<jb ss left l)&&decide (jb ss left l<left.length))&&decide (bR ss left<=64)
 | .one k _=>(left.contains k&&decide (left.length≠1))&&decide ((bW ss k).1=(bW ss k).2.1)
 | .wit k _=>left.contains k&&decide (left.length≠1)
 | .odd _=>false
noncomputable def okG (ss:Sts):Pg->List Nat->Bool
 | .tab,left=>iy ss left .tab
 | .pick l,left=>iy ss left (.pick l)
 | .low k a b,left=>iy ss left (.low k a b)&&(okG ss a (left.filter (· < k))&&okG ss b (left.filter (k<=·)))
 | .msk l r,left=>iy ss left (.msk l r)&&okG ss r (left.filter fun k=>(bW ss k).2.2≠l)
 | .one k r,left=>iy ss left (.one k r)&&okG ss r (left.filter (·≠k))
 | .wit k r,left=>iy ss left (.wit k r)&&okG ss r (left.filter (·≠k))
 | .odd _,_=>false
theorem Er (ss:Sts)(p:Pg)(left:List Nat):okG ss p left=(iy ss left p&&(iz ss p left).all fun x=>okG ss x.2 x.1):=by
 cases p with
 | tab=>simp [okG,iz]
 | pick l=>simp [okG,iz]
 | one k r=>simp [okG,iz]
 | wit k r=>simp [okG,iz]
 | msk l r=>simp [okG,iz]
 | low k a b=>simp [okG,iz]
 | odd d=>simp [okG,iz,iy]
noncomputable def aaG:Pg->Option Pl
 | .pick l=>some (.pick l)
 | .one k _=>some (.one k .tab)
 | .wit k _=>some (.wit k .tab)
 | .low k _ _=>some (.low k .tab .tab)
 | .msk l _=>some (.msk l .tab)
 | .tab=>some .tab
 | .odd _=>none
theorem M7 {ss:Sts}{left:List Nat}{p:Pg}{q:Pl}(h:aaG p=some q):iy ss left p=Hb ss left q/\(iz ss p left).map (·.1)=(kids ss q left).map (·.1):=by
 cases p <;> cases h <;> exact⟨rfl,rfl⟩
theorem Ir {ss:Sts}{left:List Nat}{p:Pg}(lf:Lf ss left)(h:iy ss left p=true):∀x∈iz ss p left,Lf ss x.1:=by
 cases hq:aaG p with
 | none=>
  cases p <;> cases hq
  cases h
 | some q=>
  obtain⟨h1,h2⟩:=M7 (ss:=ss) (left:=left) hq;rw[h1] at h;intro x hx;have hm:x.1∈(kids ss q left).map (·.1):=by
   rw[<- h2];exact EL hx
  obtain⟨y,hy,e⟩:=DT.mp hm;rw[<- e];exact Lj lf h y hy
theorem WfG.kids {ss:Sts}{left:List Nat}{p:Pg}(h:WfG p):∀x∈iz ss p left,WfG x.2:=by
 intro x hx;cases p with
 | pick l=>cases hx
 | tab=>cases hx
 | odd d=>cases hx
 | one k r=>rw[AM.mp hx];exact h
 | wit k r=>rw[AM.mp hx];exact h
 | msk l r=>rw[AM.mp hx];exact h
 | low k a b=>
  rcases Bi.mp hx with rfl|hx
  ·exact h.1
  rw[AM.mp hx];exact h.2
noncomputable def gR (W:List (List Nat×Pg)):Nat:=(W.map fun x=>jj x.2).sum
theorem pH (A B:List (List Nat×Pg)):gR (A++B)=gR A+gR B:=by
 unfold gR;rw[A9,List.sum_append]
theorem Ak (ss:Sts)(p:Pg)(left:List Nat):gR (iz ss p left)<jj p:=by
 cases p <;> simp [gR,iz,jj]
theorem Sd (W:List (List Nat×Pg)):W.length<=gR W:=by
 induction W with
 | nil=>exact A1 _
 | cons x W ih=>
  have h1:1<=jj x.2:=by cases x.2 <;> simp [jj]
  have h2:gR (x::W)=jj x.2+gR W:=by simp [gR]
  rw[B6,h2];omega
noncomputable def gwD (x:List Nat×Pg):A3:=.tuple [lJ x.1,pgD x.2]
noncomputable def JG:Sp:=fun vs H Q _=>∃(s l p:V)(ok:Addr->Prop)(ss:Sts)(left:List Nat)(pl:Pg),vs=[s,l,p]/\aH ok H s (.list (ss.map stD))/\aH ok H l (lJ left)/\aH ok H p (pgD pl)/\WfG pl/\Lf ss left /\
 ∀H',Same H H'->Q (.bl (iy ss left pl)) H'
noncomputable def JL:Sp:=fun vs H Q _=>∃(s l p:V)(ok:Addr->Prop)(ss:Sts)(left:List Nat)(pl:Pg),vs=[s,l,p]/\cW ok H/\aH ok H s (.list (ss.map stD))/\aH ok H l (lJ left)/\aH ok H p (pgD pl)/\iy ss left pl=true/\Lf ss left /\
 ∀v H',Same H H'->aH ok H' v (.list ((iz ss pl left).map gwD))->Q v H'
noncomputable def zR:Sp:=fun vs H Q _=>∃(s p:V)(ok:Addr->Prop)(ss:Sts)(pl:Pg),vs=[s,p]/\cW ok H/\aH ok H s (.list (ss.map stD))/\aH ok H p (pgD pl)/\WfG pl/\0<ss.length/\ss.length<=100/\jj pl<=4000 /\
 ∀H',Same H H'->Q (.bl (okG ss pl (BB ss.length))) H'
theorem vL {i:Int}(h:i<0):∀left:List Nat,inV (V.int i) (nv left)=false
 | []=>rfl
 | k::left=>by
  have ih:=vL h left;unfold inV nv at ih |-;rw[D2,G0,ih,Bool.or_false];exact decide_eq_false ω
theorem Cv (k:Nat)(left:List Nat):inV (V.int (k:Int)) (nv left)=left.contains k:=Wu k left
noncomputable def iV (ss:Sts)(left:List Nat)(d0:A3)(ds:List A3):Bool:=
 if dh d0 "table" = true then ds.isEmpty&&decide (bR ss left<=200)
 else match ds with
  | .int i::es=>
   if dh d0 "pick" = true then es.isEmpty&&decide (jb ss left i=left.length)
   else if dh d0 "below" = true then decide (es.length=2)&&inV (V.int i) (nv (left.drop 1))
   else if es.length≠1 then false
   else if dh d0 "mask" = true then (decide (0<jb ss left i)&&decide (jb ss left i<left.length))&&decide (bR ss left<=64)
   else if inV (V.int i) (nv left)=false\/left.length=1 then false
   else if dh d0 "is" = true then decide ((bW ss i.toNat).1=(bW ss i.toNat).2.1)
   else dh d0 "within"
  | _=>false
noncomputable def stepT (ss:Sts)(left:List Nat):A3->Bool
 | .tuple (d0::ds)=>iV ss left d0 ds
 | _=>false
theorem qm {a b:Str}(h:a≠b):¬dh (.str a) b=true:=fun z=>h (of_decide_eq_true z)
theorem Lz (a:Str):dh (.str a) a=true:=decide_eq_true rfl
theorem Ro {ss:Sts}{left:List Nat}{d:A3}(wf:Xn d):stepT ss left d=false:=by
 cases d with
 | tuple ds=>
  cases ds with
  | nil=>rfl
  | cons d0 ds=>
   show iV ss left d0 ds=false;unfold iV;split
   ·rename_i h;obtain rfl:=jA h;cases ds with
    | nil=>exact absurd rfl wf.tab
    | cons _ _=>rfl
   split
   ·rename_i _ i es;split
    ·rename_i h;obtain rfl:=jA h;cases es with
     | nil=>exact absurd rfl (wf.pick i)
     | cons _ _=>rfl
    split
    ·rename_i h;obtain rfl:=jA h;rcases lt_or_le i 0 with z|z
     ·rw[vL z,FY]
     obtain⟨k,rfl⟩:=EM z
     match es with
     | []=>rfl
     | [_]=>rfl
     | [a,b]=>exact absurd rfl (wf.low k a b)
     | _::_::_::es=>rw[decide_eq_false (by simp only[B6];omega),FV]
    split
    ·rfl
    rename_i hl;obtain⟨d2,rfl⟩:∃d2,es=[d2]:=DU.mp (Decidable.not_not.mp hl);split
    ·rename_i h;obtain rfl:=jA h;exact absurd rfl (wf.msk i d2)
    split
    ·rfl
    rename_i hin;rcases lt_or_le i 0 with z|z
    ·exact absurd (.inl (vL z left)) hin
    obtain⟨k,rfl⟩:=EM z;split
    ·rename_i h;obtain rfl:=jA h;exact absurd rfl (wf.one k d2)
    cases h:dh d0 "within" with
    | false=>rfl
    | true=>
     obtain rfl:=jA h;exact absurd rfl (wf.wit k d2)
   rfl
 | _=>rfl
theorem Iu {ss:Sts}{left:List Nat}{pl:Pg}(wf:WfG pl):iy ss left pl=stepT ss left (pgD pl):=by
 cases pl with
 | odd d=>exact(Ro wf).symm
 | tab=>
  show _=iV ss left (.str "table") [];unfold iV;rw[if_pos (Lz _)];rfl
 | pick l=>
  show _=iV ss left (.str "pick") [.int l];unfold iV;rw[if_neg (qm ψ)];dsimp only;rw[if_pos (Lz _)];rfl
 | low k a b=>
  show _=iV ss left (.str "below") [.int (k:Int),pgD a,pgD b];unfold iV;rw[if_neg (qm ψ)];dsimp only;rw[if_neg (qm ψ),if_pos (Lz _),Cv];rfl
 | msk l r=>
  show _=iV ss left (.str "mask") [.int l,pgD r];unfold iV;rw[if_neg (qm ψ)];dsimp only;rw[if_neg (qm ψ),if_neg (qm ψ),if_neg (by simp),if_pos (Lz _)];rfl
 | one k r=>
  show((left.contains k&&decide (left.length≠1))&&decide ((bW ss k).1=(bW ss k).2.1))=iV ss left (.str "is") [.int (k:Int),pgD r];unfold iV;rw[if_neg (qm ψ)];dsimp only;rw[if_neg (qm ψ),if_neg (qm ψ),if_neg (by simp),if_neg (qm ψ),Cv,if_pos (Lz _),B3];by_cases c:left.contains k=false\/left.length=1
  ·rw[if_pos c];rcases c with c|c
   ·rw[c];rfl
   rw[decide_eq_false (show ¬left.length≠1 from fun z=>z c),FY];rfl
  rw[if_neg c,decide_eq_true (show left.length≠1 from fun z=>c (.inr z))];cases h:left.contains k with
  | false=>exact absurd (.inl h) c
  | true=>rfl
 | wit k r=>
  show(left.contains k&&decide (left.length≠1))=iV ss left (.str "within") [.int (k:Int),pgD r];unfold iV;rw[if_neg (qm ψ)];dsimp only;rw[if_neg (qm ψ),if_neg (qm ψ),if_neg (by simp),if_neg (qm ψ),Cv,if_neg (qm (a := "within") (b := "is") ψ),Lz];by_cases c:left.contains k=false\/left.length=1
  ·rw[if_pos c];rcases c with c|c
   ·rw[c];rfl
   rw[decide_eq_false (show ¬left.length≠1 from fun z=>z c),FY]
  rw[if_neg c,decide_eq_true (show left.length≠1 from fun z=>c (.inr z))];cases h:left.contains k with
  | false=>exact absurd (.inl h) c
  | true=>rfl
noncomputable def oW (ss:Sts)(left:List Nat):Wy->Prop
 | .pick l=>∀k∈left,lbl ss k=l
 | .tab=>bR ss left<=200
 | .msk l=>bR ss left<=64/\(∃k∈left,lbl ss k=l)/\∃k∈left,lbl ss k≠l
 | .one k=>(k∈left/\1<left.length)/\(bW ss k).1=(bW ss k).2.1
 | .wit k=>k∈left/\1<left.length
 | .low k=>k∈left.drop 1
noncomputable def mkP:Wy->List Pl->Pl
 | .pick l,_=>.pick l
 | .tab,_=>.tab
 | .msk l,ps=>.msk l (ps.getD 0 .tab)
 | .one k,ps=>.one k (ps.getD 0 .tab)
 | .wit k,ps=>.wit k (ps.getD 0 .tab)
 | .low k,ps=>.low k (ps.getD 0 .tab) (ps.getD 1 .tab)
noncomputable def eY (w:Wy):Pl:=mkP w []
theorem Nj {p:Nat->Bool}{left:List Nat}(h:∃a∈left,p a=false):aX (left.filter p)<aX left/\(left.filter p).length<left.length:=by
 obtain⟨a,ha,e⟩:=h;have h1:=jE p left;have h2:(left.filter fun k=>!p k)≠[]:=fun z=>by
  have:a∈left.filter fun k=>!p k:=C7.mpr ⟨ha,by rw[e];rfl⟩;rw[z] at this;cases this
 have h3:=nU h2;refine⟨ω,?_⟩;rcases FK (left.filter p).length left.length with c|c
 ·exact c
 have hs:=(List.filter_sublist (p:=p) (l:=left)).eq_of_length_le c;rw[JU] at hs;rw[hs a ha] at e;cases e
theorem Ni {p:Nat->Bool}{left:List Nat}(h:∃a∈left,p a=true):left.filter p≠[]:=fun z=>by
 obtain⟨a,ha,e⟩:=h;have:a∈left.filter p:=C7.mpr ⟨ha,e⟩;rw[z] at this;cases this
theorem Eo {left:List Nat}(hu:left.Pairwise (· < ·))(h:1<left.length)(k:Nat):∃a∈left,a≠k:=by
 match left,h with
 | a::b::l,_=>
  have:a<b:=(DD.mp hu).1 b AX;by_cases c:a=k
  ·exact⟨b,by simp,ω⟩
  exact⟨a,by simp,c⟩
theorem jH {ss:Sts}{left:List Nat}(lf:Lf ss left){w:Wy}(h:oW ss left w):∀p∈eO ss left w,Lf ss p/\aX p<aX left/\p.length<left.length:=by
 have mk:∀q:Nat->Bool,(∃a∈left,q a=true)->(∃a∈left,q a=false)->Lf ss (left.filter q)/\aX (left.filter q)<aX left/\(left.filter q).length<left.length:=fun q h1 h2=>
  ⟨⟨Ni h1,fun k hk=>lf.lt k (C7.mp hk).1,lf.up.filter _⟩,Nj h2⟩
 intro p hp;cases w with
 | pick l=>cases hp
 | tab=>cases hp
 | msk l=>
  rw[AM.mp hp];obtain⟨_,⟨a,ha,ea⟩,b,hb,eb⟩:=h;exact mk _ ⟨b,hb,decide_eq_true eb⟩ ⟨a,ha,decide_eq_false fun z=>z ea⟩
 | one k=>
  rw[AM.mp hp];obtain⟨b,hb,eb⟩:=Eo lf.up h.1.2 k;exact mk _ ⟨b,hb,decide_eq_true eb⟩ ⟨k,h.1.1,decide_eq_false fun z=>z rfl⟩
 | wit k=>
  rw[AM.mp hp];obtain⟨b,hb,eb⟩:=Eo lf.up h.2 k;exact mk _ ⟨b,hb,decide_eq_true eb⟩ ⟨k,h.1,decide_eq_false fun z=>z rfl⟩
 | low k=>
  have hk:k∈left:=GH h;have ha:∃a∈left,a<k:=by
   match left,h,lf with
   | a::l,h,lf=>exact⟨a,AX,(DD.mp lf.up).1 k (show k∈(a::l).drop 1 from h)⟩
  obtain⟨a,ha,ea⟩:=ha;rcases Bi.mp hp with rfl|hp
  ·exact mk _ ⟨a,ha,decide_eq_true ea⟩ ⟨k,hk,decide_eq_false (C8 k)⟩
  rw[AM.mp hp];exact mk _ ⟨k,hk,decide_eq_true (A1 k)⟩ ⟨a,ha,decide_eq_false ω⟩
noncomputable def iU (f:List Nat->Pl->Int)(N:List Int)(ss:Sts)(left:List Nat)(w:Wy):Int:=f left (eY w)+((eO ss left w).map fun p=>N.getD (aX p) 0).sum
noncomputable def ni (f:List Nat->Pl->Int)(N:List Int)(ss:Sts)(left:List Nat)(c:Int):Prop:=(∃w,oW ss left w/\c=iU f N ss left w)/\∀w,oW ss left w->c<=iU f N ss left w
structure Tbl (f:List Nat->Pl->Int)(ss:Sts)(n m:Nat)(N:List Int):Prop where
 len:N.length=m
 at0:N.getD 0 0=0
 lst:∀x,0<x->x<m->ni f N ss (bC n x) (N.getD x 0)
theorem GP {f:List Nat->Pl->Int}{N M:List Int}{ss:Sts}{left:List Nat}{w:Wy}(h:∀p∈eO ss left w,N.getD (aX p) 0=M.getD (aX p) 0):iU f N ss left w=iU f M ss left w:=by
 unfold iU;rw[G1 h]
theorem ni.uniq {f:List Nat->Pl->Int}{N:List Int}{ss:Sts}{left:List Nat}{c d:Int}(h1:ni f N ss left c)(h2:ni f N ss left d):c=d:=by
 obtain⟨⟨w,hw,ew⟩,l1⟩:=h1;obtain⟨⟨v,hv,ev⟩,l2⟩:=h2;have:=l1 v hv;have:=l2 w hw;omega
theorem ni.congr {f:List Nat->Pl->Int}{N M:List Int}{ss:Sts}{left:List Nat}{c:Int}(lf:Lf ss left)(h:∀p,Lf ss p->aX p<aX left->N.getD (aX p) 0=M.getD (aX p) 0)(h1:ni f N ss left c):ni f M ss left c:=by
 have key:∀w,oW ss left w->iU f N ss left w=iU f M ss left w:=fun w hw=>GP fun p hp=>by
  obtain⟨a,b,_⟩:=jH lf hw p hp;exact h p a b
 obtain⟨⟨w,hw,ew⟩,l1⟩:=h1;exact⟨⟨w,hw,by rw[<- key w hw];exact ew⟩,fun v hv=>by rw[<- key v hv];exact l1 v hv⟩
theorem Tbl.uniq {f:List Nat->Pl->Int}{ss:Sts}{n m:Nat}{N M:List Int}(hn:ss.length=n)(hm:m<=2^n)(h1:Tbl f ss n m N)(h2:Tbl f ss n m M):∀x,x<m->N.getD x 0=M.getD x 0:=by
 intro x
 induction x using Nat.strongRecOn with
 | ind x ih=>
  intro hx;by_cases c:x=0
  ·subst c;rw[h1.at0,h2.at0]
  have lf:=iT hn (show 0<x by omega) (show x<2^n by omega);have e:=jD (show x<2^n by omega);refine((h1.lst x ω hx).congr lf fun p _ hp=>ih _ ω ω).uniq (h2.lst x ω hx)
theorem Tbl.snoc {f:List Nat->Pl->Int}{ss:Sts}{n m:Nat}{N:List Int}{c:Int}(hn:ss.length=n)(h0:0<m)(hm:m<2^n)(h:Tbl f ss n m N)(hc:ni f N ss (bC n m) c):Tbl f ss n (m+1) (N++[c]):=by
 have old:∀y,y<m->(N++[c]).getD y 0=N.getD y 0:=fun y hy=>by
  rw[AN,AN,DF (by rw[h.len];exact hy)]
 have new:(N++[c]).getD m 0=c:=by
  rw[AN,BU (by rw[h.len];exact A1 m),h.len,IU];rfl
 refine⟨by rw[AK,h.len];rfl,by rw[old 0 h0,h.at0],fun x hx hlt=>?_⟩;have lf:=iT hn hx (show x<2^n by omega);have e:=jD (show x<2^n by omega);by_cases c':x=m
 ·subst c';rw[new];exact hc.congr lf fun p _ hp=>(old _ ω).symm
 rw[old x ω];exact(h.lst x hx ω).congr lf fun p _ hp=>(old _ ω).symm
theorem Tbl.start (f:List Nat->Pl->Int)(ss:Sts)(n:Nat):Tbl f ss n 1 [0]:=⟨rfl,rfl,fun x h1 h2=>ω⟩
structure PlT (f:List Nat->Pl->Int)(ss:Sts)(n m:Nat)(N:List Int)(T:List Pl):Prop where
 len:T.length=m
 ok:∀x,0<x->x<m->PlV ss (T.getD x .tab) (bC n x)/\v7 ss f (T.getD x .tab) (bC n x)=N.getD x 0/\jJ (T.getD x .tab)+1<=2*(bC n x).length
theorem aaD (ss:Sts)(left:List Nat)(w:Wy)(ps:List Pl)(h:ps.length=(eO ss left w).length):plD (mkP w ps)=.tuple (hdL w++ps.map plD):=by
 cases w with
 | pick l=>cases EO h;rfl
 | tab=>cases EO h;rfl
 | msk l=>obtain⟨a,rfl⟩:=DU.mp h;rfl
 | one l=>obtain⟨a,rfl⟩:=DU.mp h;rfl
 | wit l=>obtain⟨a,rfl⟩:=DU.mp h;rfl
 | low k=>
  match ps,h with
  | [a,b],_=>rfl
noncomputable def ZL (f:List Nat->Pl->Int):Prop:=∀left w ps,f left (mkP w ps)=f left (eY w)
theorem Za {f:List Nat->Pl->Int}(hf:ZL f){ss:Sts}{n m:Nat}{N:List Int}{T:List Pl}(hn:ss.length=n)(hm:m<2^n)(h0:0<m)(h:PlT f ss n m N T){w:Wy}(hw:oW ss (bC n m) w){c:Int}(hc:c=iU f N ss (bC n m) w) :
  PlV ss (mkP w ((eO ss (bC n m) w).map fun p=>T.getD (aX p) .tab)) (bC n m)/\v7 ss f (mkP w ((eO ss (bC n m) w).map fun p=>T.getD (aX p) .tab)) (bC n m)=c/\jJ (mkP w ((eO ss (bC n m) w).map fun p=>T.getD (aX p) .tab))+1<=2*(bC n m).length:=by
 have lf:=iT hn h0 hm;have e:=jD hm;generalize bC n m=left at *;have part:∀p∈eO ss left w,PlV ss (T.getD (aX p) .tab) p/\v7 ss f (T.getD (aX p) .tab) p=N.getD (aX p) 0/\jJ (T.getD (aX p) .tab)+1<=2*p.length/\p.length<left.length:=fun p hp=>by
  obtain⟨l1,l2,l3⟩:=jH lf hw p hp;have hb:bC n (aX p)=p:=Gw l1.up fun k hk=>by have:=l1.lt k hk;omega
  have:=h.ok (aX p) (nU l1.ne) ω;rw[hb] at this;exact⟨this.1,this.2.1,this.2.2,l3⟩
 have hl:0<left.length:=Ee.mpr lf.ne;have ht:=hf left w ((eO ss left w).map fun p=>T.getD (aX p) .tab);unfold iU at hc;rw[<- ht] at hc;cases w with
 | pick l=>exact⟨⟨lf,hw⟩,by rw[hc];exact(FB _).symm,by show 1+1<=_;omega⟩
 | tab=>exact⟨⟨lf,hw⟩,by rw[hc];exact(FB _).symm,by show 1+1<=_;omega⟩
 | msk l=>
  obtain⟨p1,p2,p3,p4⟩:=part _ (AM.mpr rfl);exact⟨⟨⟨lf,hw.1,hw.2.1⟩,p1⟩,by rw[hc];exact congrArg (f left _ + ·) (p2.trans (FB _).symm),by show jJ _+1+1<=_;exact Be (JA p3 1) ω⟩
 | one k=>
  obtain⟨p1,p2,p3,p4⟩:=part _ (AM.mpr rfl);exact⟨⟨⟨lf,hw.1.1,hw.2⟩,p1⟩,by rw[hc];exact congrArg (f left _ + ·) (p2.trans (FB _).symm),by show jJ _+1+1<=_;exact Be (JA p3 1) ω⟩
 | wit k=>
  obtain⟨p1,p2,p3,p4⟩:=part _ (AM.mpr rfl);exact⟨⟨⟨lf,hw.1⟩,p1⟩,by rw[hc];exact congrArg (f left _ + ·) (p2.trans (FB _).symm),by show jJ _+1+1<=_;exact Be (JA p3 1) ω⟩
 | low k=>
  obtain⟨p1,p2,p3,p4⟩:=part _ AX;obtain⟨q1,q2,q3,q4⟩:=part _ (BS _ AX);have hsum:(left.filter (· < k)).length+(left.filter (k<=·)).length=left.length:=by
   have hd:=jq (k:=k) lf.up;have:=congrArg Fh hd;rw[EB] at this;have:=BA (fun x=>decide (x<k)) left;omega
  exact⟨⟨⟨lf,GH hw⟩,p1,q1⟩,by rw[hc];show _+_+_=_+(N.getD (aX (left.filter (· < k))) 0+(N.getD (aX (left.filter (k<=·))) 0+0));rw[<- p2,<- q2,FB,Int.add_assoc];rfl,by show jJ (T.getD (aX (left.filter (· < k))) .tab)+jJ (T.getD (aX (left.filter (k<=·))) .tab)+1+1<=_;omega⟩
theorem PlT.snoc {f:List Nat->Pl->Int}{ss:Sts}{n m:Nat}{N:List Int}{T:List Pl}{c:Int}{p:Pl}(hN:N.length=m)(h:PlT f ss n m N T)(hp:PlV ss p (bC n m)/\v7 ss f p (bC n m)=c/\jJ p+1<=2*(bC n m).length):PlT f ss n (m+1) (N++[c]) (T++[p]):=by
 refine⟨by rw[AK,h.len];rfl,fun x hx hlt=>?_⟩;by_cases e:x=m
 ·subst e;rw[AN,BU (by rw[h.len];exact A1 _),h.len,IU,AN,BU (by rw[hN];exact A1 _),hN,IU];exact hp
 rw[AN,DF (by rw[h.len];omega),AN,DF (by rw[hN];omega),<- AN,<- AN];exact h.ok x hx ω
theorem PlT.start (f:List Nat->Pl->Int)(ss:Sts)(n:Nat)(N:List Int):PlT f ss n 1 N [.tab]:=⟨rfl,fun x h1 h2=>ω⟩
theorem Cr {ss:Sts}{left:List Nat}{L:List Int}(hL:oV ss left L)(lf:Lf ss left):L.length=1 ↔ ∃l,∀k∈left,lbl ss k=l:=by
 constructor
 ·intro h;obtain⟨l,rfl⟩:=DU.mp h;exact⟨l,fun k hk=>AM.mp ((hL.2 _).mpr ⟨k,hk,rfl⟩)⟩
 rintro⟨l,h⟩;have all:∀x∈L,x=l:=fun x hx=>by
  obtain⟨k,hk,e⟩:=(hL.2 x).mp hx;rw[<- e,h k hk]
 match L,hL,all with
 | [],hL,_=>
  obtain⟨k,hk⟩:=List.exists_mem_of_ne_nil _ lf.ne;have:=(hL.2 _).mpr ⟨k,hk,rfl⟩;cases this
 | [a],_,_=>rfl
 | a::b::L,hL,all=>
  have h1:=(HZ.mp hL.1).1;rw[all a (by simp),all b (by simp)] at h1;exact absurd AX h1
theorem Km {ss:Sts}{left:List Nat}{L:List Int}(hL:oV ss left L)(lf:Lf ss left):0<L.length:=by
 obtain⟨k,hk⟩:=List.exists_mem_of_ne_nil _ lf.ne;exact List.length_pos_of_mem ((hL.2 _).mpr ⟨k,hk,rfl⟩)
theorem RT {ss:Sts}{left:List Nat}{L:List Int}(hL:oV ss left L)(lf:Lf ss left)(h:1<L.length)(l:Int):∃k∈left,lbl ss k≠l:=by
 refine Classical.byContradiction fun no=>?_;have:=(Cr hL lf).mpr ⟨l,fun k hk=>Classical.byContradiction fun z=>no ⟨k,hk,z⟩⟩;omega
theorem Wk {ss:Sts}{left:List Nat}{L:List Int}(hL:oV ss left L)(lf:Lf ss left)(w:Wy):w∈wyP L ↔ ∃l,w=.pick l/\oW ss left (.pick l):=by
 unfold wyP;constructor
 ·intro h;split at h
  ·rename_i c;obtain⟨a,rfl⟩:=DU.mp c;exact⟨a,AM.mp h,fun k hk=>AM.mp ((hL.2 _).mpr ⟨k,hk,rfl⟩)⟩
  cases h
 rintro⟨l,rfl,h⟩;have c:=(Cr hL lf).mpr ⟨l,h⟩;rw[if_pos c];obtain⟨a,rfl⟩:=DU.mp c;obtain⟨k,hk,e⟩:=(hL.2 a).mp AX;rw[h k hk] at e;rw[e];exact AX
theorem Wl {ss:Sts}{left:List Nat}{L:List Int}(hL:oV ss left L)(lf:Lf ss left)(w:Wy):w∈wyM ss left L ↔ ∃l,w=.msk l/\oW ss left (.msk l):=by
 unfold wyM;constructor
 ·intro h;split at h
  ·rename_i c;obtain⟨l,hl,rfl⟩:=DT.mp h;exact⟨l,rfl,c.1,(hL.2 l).mp hl,RT hL lf c.2 l⟩
  cases h
 rintro⟨l,rfl,h1,h2,k,hk,hne⟩;have hl:=(hL.2 l).mpr h2;have c:1<L.length:=by
  have:=Km hL lf;rcases FK 1 L.length with c|c
  ·exact c
  obtain⟨l',h⟩:=(Cr hL lf).mp ω;obtain⟨j,hj,ej⟩:=h2;rw[h k hk,<- ej,h j hj] at hne;exact absurd rfl hne
 rw[if_pos ⟨h1,c⟩];exact EL hl
theorem Kd {ss:Sts}{left:List Nat}(w:Wy):w∈wyT ss left↔w=.tab/\oW ss left .tab:=by
 unfold wyT;constructor
 ·intro h;split at h
  ·rename_i c;exact⟨AM.mp h,c⟩
  cases h
 rintro⟨rfl,h⟩;rw[if_pos (show bR ss left<=200 from h)];exact AX
theorem RK {ss:Sts}{left:List Nat}{L:List Int}(hL:oV ss left L)(lf:Lf ss left)(w:Wy):w∈K9 ss left L↔oW ss left w:=by
 unfold K9 GJ;rw[CF,CF,CF,Wk hL lf,Kd,Wl hL lf];have hS:w∈(if 1<left.length then K8 ss left else []) ↔ ∃k,(w=.one k\/w=.wit k\/w=.low k)/\oW ss left w:=by
  by_cases c:1<left.length
  ·rw[if_pos c];unfold K8;rw[CF,List.mem_flatMap,DT];constructor
   ·rintro(⟨k,hk,h⟩|⟨k,hk,rfl⟩)
    ·unfold oA at h;split at h
     ·rename_i e;rcases Bi.mp h with rfl|h
      ·exact⟨k,.inl rfl,⟨hk,c⟩,e⟩
      rw[AM.mp h];exact⟨k,.inr (.inl rfl),hk,c⟩
     rw[AM.mp h];exact⟨k,.inr (.inl rfl),hk,c⟩
    exact⟨k,.inr (.inr rfl),hk⟩
   rintro⟨k,rfl|rfl|rfl,h⟩
   ·exact .inl ⟨k,h.1.1,by unfold oA;rw[if_pos h.2];exact AX⟩
   ·exact .inl ⟨k,h.1,by unfold oA;split <;> simp⟩
   exact .inr ⟨k,h,rfl⟩
  rw[if_neg c];constructor
  ·intro h;cases h
  rintro⟨k,rfl|rfl|rfl,h⟩
  ·exact absurd h.1.2 c
  ·exact absurd h.2 c
  have:k∈left.drop 1:=h;rw[List.drop_of_length_le ω] at this;cases this
 rw[hS];constructor
 ·rintro(((⟨l,rfl,h⟩|⟨rfl,h⟩)|⟨l,rfl,h⟩)|⟨k,_,h⟩) <;> exact h
 intro h;cases w with
 | pick l=>exact .inl (.inl (.inl ⟨l,rfl,h⟩))
 | tab=>exact .inl (.inl (.inr ⟨rfl,h⟩))
 | msk l=>exact .inl (.inr ⟨l,rfl,h⟩)
 | one k=>exact .inr ⟨k,.inl rfl,h⟩
 | wit k=>exact .inr ⟨k,.inr (.inl rfl),h⟩
 | low k=>exact .inr ⟨k,.inr (.inr rfl),h⟩
noncomputable def Xm (is:List Int)(w:Int)(j:Nat):Prop:=is[j]?=some w/\∀m<j,is[m]?≠some w
noncomputable def O3 (K:AE)(to te:TE):TE:=fun σ H Q=>to σ H fun x H1=>∃(p:Addr)(is:List Int),x=.ref p/\SqL K H1 p (is.map V.int)/\te σ H1 fun y H2=>∃w,y=.int w/\SqL K H2 p (is.map V.int)/\w∈is/\∀j,Xm is w j->Q (.int (j:Nat)) H2
theorem Sw:∀{is:List Int}{w:Int},w∈is->∃j,Xm is w j
 | a::is,w,h=>by
  by_cases c:a=w
  ·subst c;exact⟨0,rfl,fun m hm=>ω⟩
  obtain⟨j,h1,h2⟩:=Sw (is:=is) (w:=w) (by
   rcases Bi.mp h with z|z
   ·exact absurd z.symm c
   exact z)
  refine⟨j+1,h1,fun m hm=>?_⟩;cases m with
  | zero=>intro z;exact c (BO z)
  | succ m=>exact h2 m ω
section
variable {X:Cx}{o e:Expr}{to te:TE}
theorem Vv {apos cpos:Pos}(hu:X.A.in1.units<Ff)(ho:PE X o to)(he:PE X e te)
  (hbase:CD o "index" X.env (eval o X.env)=eval o X.env:=by rfl)
  (hfew:((Ct cpos (AH [e] X.env)).all (fun x=>!x.1)&&(F0 cpos (EF [] X.env)).all (fun x=>x.1.isSome)
   && decide ([e].length+([]:List DM).length+(if ([]:List DM).isEmpty then 0 else 1)<30))=true:=by rfl)
  (hline:(apos.endLine == cpos.line)=true:=by rfl) (hs:AH [e] X.env=(false,eval e X.env)::AH [] X.env:=by rfl) (hplain:(Ct cpos (AH [] X.env)).any (·.1)=false:=by rfl) :
  PE X (.Call (.Attribute o "index" apos) [e] [] cpos) (O3 X.K to te):=by
 intro pins s σ H Q I h;refine EV hbase hfew hline rfl (thE (ho pins s σ H _ I h) fun v s1 x H1 I1 r1 q=>?_);obtain⟨p,is,rfl,hq,q⟩:=q;obtain⟨h1,h2⟩:=qd (T := "list") I1 r1 (.inl ⟨rfl,_,hq⟩);refine⟨"list","list.index",DS,PySem.F.slot_list_index,PySem.F.type_list_index,h1,h2,?_⟩;rw[hs];refine Cs (by show(false||(Ct cpos (AH [] X.env)).any (·.1))=false;rw[hplain] <;> rfl) (DH ?_)
 refine Co (thn (he pins s1 σ H1 _ I1 q) fun u s2 ⟨y,H2,I2,r2,w,ey,hq2,hw,q3⟩=>Ch ?_);subst ey;obtain⟨j,hf⟩:=Sw hw;cases r1;obtain⟨its,rv,pl,hz⟩:=I2.list hq2;have hl:=rv.length;rw[AF] at hl;have hj:j<its.length:=by have:=(AW.mp hf.1).1;omega
 have at':∀m (hm:m<its.length),∃t,its[m]=An.int (is.getD m 0) t:=fun m hm=>gF rv m _ (by simp [AD hm]);have gd:∀m,m<its.length->is[m]?=some (is.getD m 0):=fun m hm=>by
  rw[AN,AD ω];rfl
 obtain⟨tu,rfl⟩:=r2;obtain⟨ob,n,eo,ec,ed,es⟩:=pl;cases ob with
 | mk cls dict data slots=>
  cases ec;cases es;have hj2:((j:Nat):Int)<2^63-1:=by
   have hl:=rv.length;have:=IJ;omega
  refine DZ F.slot_list_index ⟨_,eo,rfl⟩ F.entry_list_index (F.args_list_index_2 _ _) (SeqAt.list_indexAt p its.toArray n _ _ (.int w tu) (fun y=>match y with | .int z _=>z == w|_=>false) j (by simpa using hj) hj2 ?_ ?_) ⟨eo,fun y hy=>?_,?_⟩
  ·obtain⟨t,e⟩:=at' j hj;have:its.toArray[j]'(by simpa using hj)=An.int (is.getD j 0) t:=by simpa using e
   rw[this];have:=hf.1;rw[gd j hj] at this;simpa using BO this
  ·intro m hm hmj;have hm':m<its.length:=by simpa using hm
   obtain⟨t,e⟩:=at' m hm';have:its.toArray[m]=An.int (is.getD m 0) t:=by simpa using e
   rw[this];have:=hf.2 m hmj;rw[gd m hm'] at this;have:is.getD m 0≠w:=fun z=>this (by rw[z]);simpa using this
  ·have hy':y∈its:=by simpa using hy
   obtain⟨m,hm,em⟩:=CU.mp hy';obtain⟨t,e⟩:=at' m hm;rw[em] at e;rw[e];exact BF.int_int _ t w tu
  exact⟨.int (j:Nat),H2,I2.tok _,⟨_,rfl⟩,q3 j hf⟩
theorem U3 {apos cpos:Pos}(hu:X.A.in1.units<Ff)(ho:QE X o to)(he:QE X e te)
  (hbase:CD o "index" X.env (eval o X.env)=eval o X.env:=by rfl)
  (hfew:((Ct cpos (AH [e] X.env)).all (fun x=>!x.1)&&(F0 cpos (EF [] X.env)).all (fun x=>x.1.isSome)
   && decide ([e].length+([]:List DM).length+(if ([]:List DM).isEmpty then 0 else 1)<30))=true:=by rfl)
  (hline:(apos.endLine == cpos.line)=true:=by rfl) (hs:AH [e] X.env=(false,eval e X.env)::AH [] X.env:=by rfl) (hplain:(Ct cpos (AH [] X.env)).any (·.1)=false:=by rfl) :
  QE X (.Call (.Attribute o "index" apos) [e] [] cpos) (O3 X.K to te):=⟨Vv hu ho.h he.h hbase hfew hline hs hplain⟩
theorem Jj (hc:X.calm=true):eV X (.builtin "min") (fun xs H Q=>∃p kvs,xs=[.ref p]/\H p=some (.dK kvs)/\kvs≠[]/\∃is:List Int,kvs.map (·.1)=is.map B9/\∀M,M∈is->(∀a∈is,M<=a)->Q (.int M) H):=by
 intro pins s σ H xs us Q I r h;obtain⟨p,kvs,rfl,hp,hne,is,his,q⟩:=h;obtain⟨u,rfl,rv⟩:=vals1 r;cases rv;obtain⟨z,hd,vs,rel,dd⟩:=Am I.hok hp;obtain⟨o,es,ep,g,hex,hdat,hk,hpp,hnd⟩:=dd;have dat:Heap.DictAt (aR X.prog X.w) s.heap p vs ep:=⟨o,es,g,hex,hdat,hk,hpp,hnd⟩;have hlt:=A4 g;have hks:is.map B9=vs.map (·.1):=his.symm.trans rel.keys;have hlen:is.length=vs.length:=by have:=congrArg Fh hks;rwa [AF,AF] at this
 have hkl:kvs.length=is.length:=by have:=congrArg Fh his;rwa [AF,AF] at this
 have hpos:0<vs.length:=by have:=Ee.mpr hne;omega
 have kval:∀i v,(∃k x,vs[i]?=some (k,x)/\(aR X.prog X.w).is k v=true)->∃t,v=An.int (is.getD i 0) t:=fun i v ⟨k,x,hv,hi⟩=>by
  have h1:(is.map (B9:Int->Key))[i]?=some k:=by rw[hks,AU,hv];rfl
  rw[AU] at h1;obtain⟨a,ha,rfl⟩:=Bz.mp h1;rw[AN,ha];exact Xl hi
 refine call_min_walk (wpAny_pyIter_dict hd dat ?_);refine⟨s.heap.objs.size,_,_,_,_,_,_,rfl,Walks.dictKeys (knd:=aR X.prog X.w) (A:=X.A.in1) (I.ok.hd hc) s.heap.objs.size p (B1 hlt) vs ep,?_,fun b hb=>?_,hpos,CmpOf.ints_lt (fun i=>is.getD i 0) kval,fun v h' tk hv hk'=>?_⟩
 ·exact⟨⟨_,AQ _ rfl,rfl,rfl⟩,⟨o,es,AB _ g,hex,hdat,hk,hpp,hnd⟩⟩
 ·rw[B8];simp only[Bi,B2,or_false] at hb;rcases hb with rfl|rfl
  ·exact C0 _
  exact CC hlt
 obtain⟨t,rfl⟩:=kval _ v hv;have hb:=argBest_lt (fun i=>is.getD i 0) (vs.length-1);have I3:Inv X pins σ H { s with heap:=h',toks:=tk }:=I.kept (t':=tk) fun b o e=>hk' b o (fun z=>B1 (A4 e) (AM.mp z)) (AB _ e);refine⟨.int _,H,I3,⟨_,rfl⟩,q _ ?_ ?_⟩
 ·rw[AN,AD ω];exact FS _
 intro a ha;obtain⟨j,hj,e⟩:=CU.mp ha;have:=hb.2 j ω;rw[show is.getD j 0=a by rw[AN,AD hj];exact e] at this;exact this
noncomputable def ItF (o:Obj)(d:Addr)(kvs:List (Key×V)):It:=⟨fun i H=>i<kvs.length/\H d=some (.frz o (.dK kvs)),fun i H x H'=>H'=H/\∃kv,kvs[i]?=some kv/\x=kV kv.1,fun i H=>kvs.length<=i/\H d=some (.frz o (.dK kvs))⟩
theorem Inv.aa2 {pins:List (Addr×Obj)}{σ:St}{H:Hp}{s:AC}{d:Addr}{o:Obj}{kvs:List (Key×V)}(I:Inv X pins σ H s)(he:H d=some (.dK kvs))(ho:s.heap.get? d=some o):Inv X pins σ (upd H d (.frz o (.dK kvs))) s:=by
 have oth:∀b u,H b=some u->u≠.dK kvs->upd H d (.frz o (.dK kvs)) b=some u:=fun b u h n=>by
  rw[aM (fun z=>n (by rw[z,he] at h;exact(BO h).symm)),h]
 have non:∀b,H b=none->upd H d (.frz o (.dK kvs)) b=none:=fun b h=>by
  rw[aM (fun z=>by rw[z,he] at h;cases h),h]
 have B:=I.base;refine⟨I.ok,I.os,I.bare,⟨B.keep,B.slot,fun b o g n hx=>non b (B.free b o g n hx),B.there,fun b xs h=>oth b _ (B.tups b xs h) (fun z=>nomatch z),fun b o u h=>oth b _ (B.frzs b o u h) (fun z=>nomatch z),fun b ps h=>?_⟩,I.loc,I.cell,non _ I.free,fun x c h=>non _ (I.freeC x c h),fun p hp=>?_,fun a u ha=>?_,I.len⟩
 ·obtain⟨m,hm⟩:=B.tbls b ps h;exact⟨m,oth b _ hm (fun z=>nomatch z)⟩
 ·obtain⟨z1,z2,z3⟩:=I.pin p hp;exact⟨z1,non _ z2,z3⟩
 have st:∀{a u},dR X.prog X.w H s.heap a u->dR X.prog X.w (upd H d (.frz o (.dK kvs))) s.heap a u:=fun x=>x.stay (fun b u _ g=>g) (fun b h=>oth b _ h (fun z=>nomatch z)) fun b xs h=>oth b _ h (fun z=>nomatch z);by_cases c:a=d
 ·subst c;rw[aq] at ha;cases ha;exact⟨ho,st (I.hok a _ he)⟩
 rw[aM c] at ha;exact st (I.hok a u ha)
theorem G3 {P:AV}{w:A6}{K:AE}{tg:Expr}(it d:Addr)(hne:d≠it)(o:Obj)(kvs:List (Key×V))(vs:List (Key×An))(ep:Nat)(hkv:kvs.map (·.1)=vs.map (·.1))(hA:∀h:Heap,h.get? d=some o->Heap.DictAt (aR P w) h d vs ep):Turn P w K tg (ItF o d kvs) [it] it (fun i h=>h.IsKeyIter it d i vs.length ep) where
 mem:=by simp
 obj:=fun i h st b hb=>by
  rw[AM.mp hb];obtain⟨o,g,_,hd⟩:=st;exact⟨o,g,fun v z=>by rw[hd] at z;cases z⟩
 keep:=fun i h h' st k=>st.at fun o e=>k it (by simp) o e
 item:=by
  intro X hP hw hK hc i pins s σ H E I hf st hg;subst hP hw hK;obtain⟨f0,f1,f2,f3,f4,f5⟩:=hf it (by simp);have W:=Walks.dictKeys (prog:=X.prog) (w:=X.w) (knd:=aR X.prog X.w) (I.ok.hd hc) it d hne vs ep;obtain⟨hg,hd⟩:=hg;have hlen:kvs.length=vs.length:=by have:=congrArg Fh hkv;rwa [AF,AF] at this
  have go:s.heap.get? d=some o:=(I.hok d _ hd).1;refine W.item i s _ _ ω ⟨st,hA _ go⟩ fun v h' tk hv st' kk=>?_;obtain⟨k,x,hk,hv⟩:=hv;have I1:Inv X pins σ H { s with heap:=h',toks:=tk }:=I.turned (fun b o hb e=>kk b o (by simpa using hb) e) f0 f1 f3 f4 f5;obtain⟨ob,go,gc,gd⟩:=st'.1;have hkk:(kvs.map (·.1))[i]?=some k:=by rw[hkv,AU,hk];rfl
  rw[AU] at hkk;obtain⟨kv,e1,rfl⟩:=Bz.mp hkk;exact⟨_,rfl,Kr (s:={ s with heap:=h',toks:=tk }) (n := "dict_keyiterator") go gc gd δ ⟨kV kv.1,H,I1,Xl hv,⟨rfl,kv,e1,rfl⟩,st'.1,fun b hb=>(hf b hb).1⟩⟩
 done:=by
  intro X hP hw hK hc i pins s σ H E I hf st hg;subst hP hw hK;obtain⟨f0,f1,f2,f3,f4,f5⟩:=hf it (by simp);obtain⟨hg,hd⟩:=hg;have hlen:kvs.length=vs.length:=by have:=congrArg Fh hkv;rwa [AF,AF] at this
  have go:s.heap.get? d=some o:=(I.hok d _ hd).1;exact wpAny_pyNext_dict_end (I.ok.hd hc) st (hA _ go) (FD ω) fun h' eb=>⟨rfl,I.turned (t':=s.toks) (fun b o hb e=>eb b o hb e) f0 f1 f3 f4 f5⟩
 self:=fun A i s Q E st h=>wpAny_pyIter_keyiter st h
noncomputable def Cw (te:TE):TI:=fun σ H R=>te σ H fun x H1=>∃d kvs,x=.ref d/\((H1 d=some (.dK kvs)/\∀o,R (ItF o d kvs) (upd H1 d (.frz o (.dK kvs))))\/∃o,H1 d=some (.frz o (.dK kvs))/\R (ItF o d kvs) H1)
theorem QF {tg:Expr}(he:PE X e te):PI X tg e (Cw te):=by
 intro pins s σ H R I h;refine thn (he pins s σ H _ I h) fun v s1 ⟨x,H1,I1,r1,d,kvs,ex,q⟩=>?_;subst ex;cases r1;have key:∀(o:Obj)(H2:Hp),Inv X pins σ H2 s1->H2 d=some (.frz o (.dK kvs))->R (ItF o d kvs) H2->AG (A0 X.prog X.w) X.A (pyIter (.ref d)) (PIE X pins σ tg R) X.xe s1:=fun o H2 I2 e2 q2=>by
  obtain⟨z,hd,vs,rel,dd⟩:=Gg I2.hok (.inr ⟨o,e2⟩);obtain⟨o',es,ep,g,hex,hdat,hk,hp,hnd⟩:=dd;have go:s1.heap.get? d=some o:=(I2.hok d _ e2).1;have eo:o'=o:=by rw[go] at g;exact(BO g).symm
  subst eo;have hA:∀h:Heap,h.get? d=some o'->Heap.DictAt (aR X.prog X.w) h d vs ep:=fun h g=>⟨o',es,g,hex,hdat,hk,hp,hnd⟩;have ltd:=A4 g;have I3:=I2.kept (t':=s1.toks) (h':=s1.heap.push { cls:=.type "dict_keyiterator",data:=.fields #[.ref d,.int 0 0,.int (vs.length:Nat) 0,.int (ep:Nat) 0] }) fun b o e=>AB _ e;refine wpAny_pyIter_dict hd (hA _ g) ?_;refine⟨s1.heap.objs.size,[s1.heap.objs.size],_,_,H2,rfl,I3,G3 s1.heap.objs.size d (B1 ltd) o' kvs vs ep rel.keys hA,⟨_,AQ _ rfl,rfl,rfl⟩,fun b hb=>?_,q2⟩;rw[AM.mp hb];exact I2.WD (A1 _) (I2.hok.fresh (A1 _))
 rcases q with⟨e1,q⟩|⟨o,e1,q⟩
 ·obtain⟨z,hd,vs,rel,o,es,ep,g,_⟩:=Am I1.hok e1;exact key o _ (I1.aa2 e1 g) aq (q o)
 exact key o _ I1 e1 q
theorem Ej {tg:Expr}(he:QE X e te):QI X tg e (Cw te):=⟨QF he.h⟩
end
noncomputable abbrev lY:=List Nat->Pl->Int
noncomputable def chD (f:lY)(ss:Sts)(left:List Nat)(w:Wy):A3:=.tuple [.int (f left (eY w)),.tuple (hdL w),.list ((eO ss left w).map ptD)]
noncomputable def N7 (f:lY)(n:Nat)(H:Hp)(ca:Addr):Prop:=∃cds:List Addr,H ca=some (.lst (cds.map V.ref))/\cds.length=2^n/\∀x d,0<x->cds[x]?=some d->∃kvs,H d=some (.dK kvs)/\∀p:Pl,jd kvs (Da (fD p))=some (.int (f (bC n x) p))
theorem N7.same {f:lY}{n:Nat}{H H':Hp}{ca:Addr}(h:N7 f n H ca)(s:Same H H'):N7 f n H' ca:=by
 obtain⟨cds,e,l,h⟩:=h;exact⟨cds,s _ _ e,l,fun x d h0 hx=>by obtain⟨kvs,ek,hk⟩:=h x d h0 hx;exact⟨kvs,s _ _ ek,hk⟩⟩
noncomputable def zT (f:lY)(n:Nat):Sp:=fun vs H Q _=>∃(s:V)(ca:Addr)(x:Nat)(ok:Addr->Prop)(ss:Sts),vs=[s,.ref ca,.int (x:Int)]/\cW ok H/\aH ok H s (.list (ss.map stD))/\ss.length=n/\0<x/\x<2^n/\N7 f n H ca /\
 ∀(r:Addr)(xs:List V)(W:List Wy) H',Same H H'->H r=none->H' r=some (.lst xs)->(∀w,w∈W↔oW ss (bC n x) w)->aG ok H' xs (W.map (chD f ss (bC n x)))->xs.length<=1000->Q (.ref r) H'
structure Tv (f:lY)(ss:Sts)(left:List Nat)(ok:Addr->Prop)(H:Hp)(r na:Addr)(xs:List V)(W:List Wy)(N:List Int):Prop where
 er:H r=some (.lst xs)
 t:aG ok H xs (W.map (chD f ss left))
 hx:xs.length<=1000
 en:H na=some (.lst (N.map V.int))
 lt:∀w∈W,∀p∈eO ss left w,aX p<N.length
noncomputable def DQ (f:lY):Sp:=fun vs H Q _=>∃(r na:Addr)(ok:Addr->Prop)(ss:Sts)(left:List Nat)(xs:List V)(W:List Wy)(N:List Int),vs=[.ref r,.ref na]/\Tv f ss left ok H r na xs W N /\
 ∀b H',Same H H'->H b=none->H' b=some (.lst ((W.map (iU f N ss left)).map V.int))->Q (.ref b) H'
noncomputable def Oi (ss:Sts)(left:List Nat)(PD:List A3)(w:Wy):A3:=.tuple (hdL w++(eO ss left w).map fun p=>PD.getD (aX p) .none)
noncomputable def zQ (f:lY):Sp:=fun vs H Q _=>∃(r na pa:Addr)(ok:Addr->Prop)(ss:Sts)(left:List Nat)(xs:List V)(W:List Wy)(N:List Int)(ps:List V)(PD:List A3),vs=[.ref r,.ref na,.ref pa]/\Tv f ss left ok H r na xs W N/\cW ok H/\H pa=some (.lst ps)/\aG ok H ps PD/\PD.length=N.length/\W≠[] /\
 ∀(v:V) w H',Same H H'->w∈W->(∀w'∈W,iU f N ss left w<=iU f N ss left w')->aH ok H' v (.tuple [.int (iU f N ss left w),Oi ss left PD w])->Q v H'
noncomputable def En:List Pl->List A3
 | []=>[]
 | _::r=>.none::r.map plD
theorem wJ (T:List Pl):(En T).length=T.length:=by
 cases T with
 | nil=>rfl
 | cons a r=>show(r.map plD).length+1=_;rw[AF];rfl
theorem JX {T:List Pl}{x:Nat}(h0:0<x)(h:x<T.length):(En T).getD x .none=plD (T.getD x .tab):=by
 match T,x,h0,h with
 | a::r,x+1,_,h=>
  show(r.map plD).getD x .none=plD (r.getD x .tab);rw[AN,AN,AU,AD (by simpa using h)];rfl
theorem LK {T:List Pl}(h:T≠[])(p:Pl):En (T++[p])=En T++[plD p]:=by
 match T,h with
 | a::r,_=>
  show A3.none::(r++[p]).map plD=A3.none::r.map plD++[plD p];rw[A9];rfl
theorem Em (ss:Sts)(left:List Nat)(w:Wy):(eO ss left w).length<=2:=by cases w <;> simp [eO]
theorem Wv (w:Wy):(hdL w).length<=2:=by cases w <;> simp [hdL]
noncomputable def DP (f:lY)(n:Nat):Sp:=fun vs H Q _=>∃(s:V)(ca:Addr)(ok:Addr->Prop)(ss:Sts),vs=[s,.ref ca]/\cW ok H/\aH ok H s (.list (ss.map stD))/\ss.length=n/\N7 f n H ca /\
 ∀(t na pa:Addr)(N:List Int)(T:List Pl)(ps:List V) H',Same H H'->H' t=some (.tup [.ref na,.ref pa])->H' na=some (.lst (N.map V.int))->H' pa=some (.lst ps)->aG ok H' ps (En T)->Tbl f ss n (2^n) N->PlT f ss n (2^n) N T->Q (.ref t) H'
theorem yF (n:Nat):bC n (2^n-1)=BB n:=by
 unfold bC;refine JU.mpr fun k hk=>?_;rw[Nat.testBit_two_pow_sub_one];exact decide_eq_true (mem_range.mp hk)
theorem Q5 {prog:AV}{w:A6}{A:A7}{E:An->AC->Prop}{s:AC}{d p:Addr}{kvs:List (Key×An)}{k:Key}{u v:An}{hd:An->Sem (List An)}{el:List An->Sem Unit}{Q:Unit->AC->Prop}(hp:IB s.heap p #[u,v])(hk:(aR prog w).is k u=true)(hd':s.heap.DictOf (aR prog w) d kvs)(hz:kvs.length<=AL)
  (hQ:∀h',h'.DictOf (aR prog w) d (HL kvs k v)->B4 d s.heap h'->Q () { s with heap:=h',toks:=s.toks+1 }) :
  AG (A0 prog w) A (DJ [An.ref p] (do
   let pair <- (AI.Dict.pairItems (An.ref p)).tryCatch hd
   match pair with
    | [k,v]=>DJ [k,v] (dictSet d k v)
    | l=>el l)) Q E s:=by
 obtain⟨o,ho,hc,n,hs⟩:=hp;refine BE (Ap (wpAny_tryCatch ?_));unfold AI.Dict.pairItems;refine Ap (CY (T := "tuple") ⟨_,ho,hc⟩ (B7 rfl ?_));refine Ap (CM ho hs (Au ?_));show AG _ _ (DJ [u,v] (dictSet d u v)) _ _ _;exact BE (wpAny_dictSet_pairs hk hd' hQ hz)
noncomputable def GF (prog:AV)(w:A6)(h:Heap)(rs:List (Key×An))(ps:Array An)(bad:List Addr):Prop:=
 ps.size=rs.length/\∀(j:Nat) kv,rs[j]?=some kv->∃p u,ps[j]?=some (.ref p)/\IB h p #[u,kv.2]/\(aR prog w).is kv.1 u=true/\p∉bad
theorem GF.keep {prog:AV}{w:A6}{h h':Heap}{rs:List (Key×An)}{ps:Array An}{bad:List Addr}(P:GF prog w h rs ps bad)(k:∀c o,c∉bad->h.get? c=some o->h'.get? c=some o):GF prog w h' rs ps bad:=
 ⟨P.1,fun j kv e=>by
  obtain⟨p,u,e1,e2,e3,e4⟩:=P.2 j kv e;obtain⟨o,e5,e6⟩:=e2;exact⟨p,u,e1,⟨o,k p o e4 e5,e6⟩,e3,e4⟩⟩
theorem ZS {prog:AV}{w:A6}{A:A7}{R:Result->AC->Prop}{it l d:Addr}{rs:List (Key×An)}{ps:Array An}(hh:A.handled=none)(dit:d≠it)(dl:d≠l)(lit:l≠it) :
  ∀(m i:Nat)(s:AC)(kvs:List (Key×An)),rs.length-i=m->i<=rs.length->s.heap.IsListIter it l i->s.heap.IsList l ps->GF prog w s.heap rs ps [it,d]->s.heap.DictOf (aR prog w) d kvs->kvs.length+m<=AL ->
   (∀(h':Heap)(t':Nat),h'.DictOf (aR prog w) d (merged kvs (rs.drop i))->(∀c o,c≠it->c≠d->s.heap.get? c=some o->h'.get? c=some o)->R (.ok (.ret .none)) { s with heap:=h',toks:=t' }) ->
   FC (A0 prog w) A (GO "dict.update.loop" { pos:=[An.ref d,An.ref it,FH i,An.none] }) R s
 | 0,i,s,kvs,hm,hi,hit,hls,P,hd,hl,hR=>by
  have hi':i=rs.length:=ω;subst hi';refine C5 fP ?_;show AG _ _ (ES (An.ref it) >>= _) _ _ _;refine Ap (wpAny_pyNext_list_end (A:=A.under _) hh hit hls (by rw[Array.getElem?_eq_none_iff];exact le_of_eq P.1) fun h' hk=>?_);show AG _ _ (AI.Dict.addKeywords d [] >>= _) _ _ _;refine Ap ?_;show AG _ _ (pure ()) _ _ _;refine Au (Au ?_);refine hR h' s.toks ?_ fun c o c1 _ e=>hk c o c1 e;rw[List.drop_length];obtain⟨o,es,ep,e,r⟩:=hd;exact⟨o,es,ep,hk d o dit e,r⟩
 | m+1,i,s,kvs,hm,hi,hit,hls,P,hd,hl,hR=>by
  have hlt:i<rs.length:=ω;have hrs:rs[i]?=some rs[i]:=AD hlt;obtain⟨p,u,hx,hpr,hk,hbad⟩:=P.2 i _ hrs;refine C5 fP ?_;show AG _ _ (ES (An.ref it) >>= _) _ _ _;refine Ap (wpAny_pyNext_list_item hit hls hx fun h' hit' sb=>?_);have old:∀c o,c≠it->s.heap.get? c=some o->h'.get? c=some o:=fun c o c1 e=>(sb.2 c c1).trans e;have hd':h'.DictOf (aR prog w) d kvs:=by
   obtain⟨o,es,ep,e,r⟩:=hd;exact⟨o,es,ep,old d o dit e,r⟩
  have pit:p≠it:=fun z=>hbad (by rw[z];exact AX);have hpr':IB h' p #[u,rs[i].2]:=by
   obtain⟨o,e5,e6⟩:=hpr;exact⟨o,old p o pit e5,e6⟩
  refine Ap (Q5 (s:={ s with heap:=h' }) hpr' hk hd' ω fun h'' hd'' sb2=>?_);refine Au ⟨E3 _ ψ,?_⟩;show FC _ _ (GO "dict.update.loop" { pos:=[An.ref d,An.ref it,FH ((i:Int)+1),An.none] }) _ _;rw[show((i:Int)+1)=((i+1:Nat):Int) by omega];have old2:∀c o,c≠it->c≠d->s.heap.get? c=some o->h''.get? c=some o:=fun c o c1 c2 e=>(sb2.2 c c2).trans (old c o c1 e);refine ZS hh dit dl lit m (i+1) _ (HL kvs rs[i].1 rs[i].2) ω ω (hit'.at fun o e=>(sb2.2 it (BN dit)).trans e) ?_ (P.keep fun c o cb e=>old2 c o (fun z=>cb (by rw[z];exact AX)) (fun z=>cb (by rw[z];exact BS _ AX)) e) hd'' (by have:=sU kvs rs[i].1 rs[i].2;omega) fun h3 t3 hd3 old3=>?_
  ·obtain⟨o,e,r⟩:=hls;exact⟨o,old2 l o lit (BN dl) e,r⟩
  refine hR h3 t3 ?_ fun c o c1 c2 e=>old3 c o c1 c2 (old2 c o c1 c2 e);rw[Hd hlt];exact hd3
theorem Fp:Ic (An.type "list") (BD "keys")=pure none:=IG (by rfl)
theorem xR:Ic (An.type "list") (BD "__getattr__")=pure none:=IG (by rfl)
theorem uf (a:Addr) (vs:Array An) (k:Nat) (u:Tok):Meets (AI.«object.__getattribute__» { pos:=[An.ref a,An.str (BD "keys") u] }) fun A R s=>
  s.heap.get? a=some { cls:=An.type "list",data:=ED vs k }/\raisesAttr (An.ref a) (BD "keys") A R s:=by
 refine IR fun prog w A R s hs=>?_;obtain⟨hp,g,d,tk,os⟩:=s;obtain⟨hx,hr⟩:=hs;have hT:(⟨hp,g,d,tk,os⟩:AC).TypeIs (An.ref a) "list" := ⟨_,hx,rfl⟩;unfold AI.«object.__getattribute__» slotArgs;refine Ap (AY rfl (AY rfl (Au ?_)));refine Ap ?_;show AG _ _ (pure (BD "keys")) _ _ _;refine Au ?_;refine Ap (CY hT ?_);refine Ap ?_;unfold AI.ObjectAttr.find;refine Ap (C9 Fp ?_);refine Ap ?_;show AG _ _ (pure none) _ _ _;refine Au (Ap ?_);show AG _ _ (pure none) _ _ _;refine Au ?_;show AG _ _ (AI.ObjectAttr.ownThenClass (An.ref a) (BD "keys") none none) _ _ _;unfold AI.ObjectAttr.ownThenClass;refine Ap ?_;unfold AI.ObjectAttr.inOwnDict;refine Ap ?_;unfold AI.ObjectAttr.ownDict;refine Ap (IH hx ?_);show AG _ _ (instanceDict a false) _ _ _;unfold instanceDict;refine Ap (IH hx (B7 rfl (Au ?_)));show AG _ _ (pure none) _ _ _;refine Au ?_;show AG _ _ (AI.ObjectAttr.copiedAttributeGuard (BD "keys") (An.ref a) >>= _) _ _ _;refine Ap ?_;unfold AI.ObjectAttr.copiedAttributeGuard;refine AY δ (Au ?_);show AG _ _ (rule _ >>= _) _ _ _;refine Ap (D8 (Au ?_));refine AY rfl ?_;refine AY rfl ?_;show AG _ _ (typeNameOfCut 100 (An.ref a) >>= _) _ _ _;refine Ap ?_;show AG _ _ (shownTypeOf (An.ref a) >>= _) _ _ _;refine Ap ?_;show AG _ _ (typeOf (An.ref a) >>= _) _ _ _;refine Ap (CY hT ?_);refine AY rfl (Au ?_);show AG _ _ (pure _) _ _ _;refine Au ?_;exact wpAny_raiseAttrError hr.1 hr.2 (attrMsg_fits δ δ)
theorem zp {prog:AV}{w:A6}{A:A7}{E:An->AC->Prop}{s:AC}{a:Addr}{vs:Array An}{k:Nat}{Q:Option An->AC->Prop}(hh:A.handled=none) (hx:s.heap.get? a=some { cls:=An.type "list",data:=ED vs k })
  (h:∀(h':Heap)(tk:Nat),(∀c o,s.heap.get? c=some o->h'.get? c=some o)->Q none { s with heap:=h',toks:=tk }):AG (A0 prog w) A (getAttr? (An.ref a) (BD "keys")) Q E s:=by
 obtain⟨hp,g,d,tk,os⟩:=s;have hT:∀tk,(⟨hp,g,d,tk,os⟩:AC).TypeIs (An.ref a) "list" := fun _=>⟨_,hx,rfl⟩;unfold getAttr? mkText;refine Ap (Ap (wpAny_fresh' (Au ?_)));unfold getAttrBy?;refine Ap (DE ?_);unfold getAttrBy;refine BE (Ap (CY (hT _) ?_));refine Ap (C9 HM.lookup ?_);show AG _ _ (ite _ _ _) _ _ _;refine AY rfl ?_;unfold getAttrByItsOwn hookBefore;refine Ap (AY rfl (Au ?_));refine Ap (DE (BE ?_));unfold callGetattribute;refine AY rfl ?_;unfold boundAndCalled;refine Ap (C9 (HM.bind (An.ref a)) ?_);refine DZ HM (hT _) F.entry_list_ga (F.args_list_getattribute_2 _ _) (uf a vs k _) ⟨hx,hh,fun h' tk' e ne=>?_⟩;obtain⟨t,u,he⟩:=ne.there;have hTe:(⟨h',g,d,tk',os⟩:AC).TypeIs (An.ref e) "AttributeError" := ⟨_,he,rfl⟩;unfold getattributeRaised;refine Ap (D5 hTe G2 (B7 rfl ?_));unfold hookBehind;refine Ap (AY rfl (C9 xR ?_));show AG _ _ (throw (An.ref e) >>= _) _ _ _;refine Ap (wpAny_throw ?_);show AG _ _ (isInstance (An.ref e) (An.type "AttributeError") >>= _) _ _ _;refine Ap (D5 hTe G2 (B7 rfl (Au ?_)));exact h h' tk' fun c o e=>ne.keeps c o e
noncomputable def putAll (kvs prs:List (Key×V)):List (Key×V):=prs.foldl (fun acc kv=>putK acc kv.1 kv.2) kvs
theorem KV.putAll:∀{prs:List (Key×V)}{rs:List (Key×An)}{kvs:List (Key×V)}{vs:List (Key×An)},KV kvs vs->KV prs rs->KV (putAll kvs prs) (merged vs rs)
 | [],_,_,_,r,h=>by cases h;exact r
 | kv::prs,_,kvs,vs,r,h=>by
  cases h with
  | cons e t=>
   rename_i kv' rs;obtain⟨k,v⟩:=kv;obtain⟨k',v'⟩:=kv';obtain⟨e1,e2⟩:=e;cases e1;exact KV.putAll (prs:=prs) (kvs:=putK kvs k v) (vs:=HL vs k v') (r.put k e2) t
theorem tH:∀(prs kvs:List (Key×V)),(putAll kvs prs).length<=kvs.length+prs.length
 | [],kvs=>A1 _
 | kv::prs,kvs=>by
  have h1:=tH prs (putK kvs kv.1 kv.2);have h2:=gP kvs kv.1 kv.2;show(putAll (putK kvs kv.1 kv.2) prs).length<=_;rw[B6];omega
theorem Qw {prog:AV}{w:A6}{H:Hp}{h:Heap}(hok:HOk prog w H h):∀(ads:List Addr)(prs:List (Key×V)),ads.length=prs.length->(∀(j:Nat) p kv,ads[j]?=some p->prs[j]?=some kv->H p=some (.tup [kV kv.1,kv.2])) ->
  ∃rs,KV prs rs/\rs.length=prs.length/\∀(j:Nat) kv,rs[j]?=some kv->∃p u xs,ads[j]?=some p/\IB h p #[u,kv.2]/\(aR prog w).is kv.1 u=true/\H p=some (.tup xs)
 | [],[],_,_=>⟨[],.nil,rfl,fun j kv e=>by simp at e⟩
 | p::ads,kv::prs,hl,hp=>by
  obtain⟨rs,k1,k2,k3⟩:=Qw hok ads prs (by simpa using hl) fun j p kv e1 e2=>hp (j+1) p kv (by simpa using e1) (by simpa using e2);have e0:=hp 0 p kv rfl rfl;obtain⟨_,its,r,tp⟩:=hok p _ e0;cases r with
  | cons r1 t1=>
   cases t1 with
   | cons r2 t2=>
    cases t2;rename_i u v;refine⟨(kv.1,v)::rs,.cons ⟨rfl,r2⟩ k1,by simp [k2],fun j q e=>?_⟩;cases j with
    | zero=>
     simp only[FR,Hm] at e;subst e;exact⟨p,u,_,rfl,tp,Ah r1,e0⟩
    | succ j=>
     rw[E4] at e;obtain⟨p',u',xs,e1,e2,e3,e4⟩:=k3 j q e;exact⟨p',u',xs,by simpa using e1,e2,e3,e4⟩
theorem vU:∀{ads:List Addr}{its:List An},Vals (ads.map V.ref) its->its=ads.map An.ref
 | [],_,h=>by cases h;rfl
 | a::ads,_,h=>by
  cases h with
  | cons r t=>
   rw[vU t];cases (show _=An.ref a from r);rfl
noncomputable def stW (ss:Sts)(left:List Nat)(w:Wy):A3:=.tuple [.str (fD (eY w)),.list ((eO ss left w).map ptD)]
noncomputable def nH (ss:Sts)(left:List Nat)(k:Nat):List Wy:=(if 1<left.length then .wit k::(if (bW ss k).1=(bW ss k).2.1 then [.one k] else []) else [])++if left.filter (· < k)=[] then [] else [.low k]
noncomputable def Il (ss:Sts)(left:List Nat)(L:List Int)(mn mx:Int):List Wy:=if bR ss left<=64/\mn<mx then L.map Wy.msk else []
noncomputable def u5 (mn mx:Int):List Wy:=if mn=mx then [.pick mn] else []
noncomputable def RX (ss:Sts)(left:List Nat)(L:List Int)(mn mx:Int):List Wy:=u5 mn mx++wyT ss left++left.flatMap (nH ss left)++Il ss left L mn mx
noncomputable def stB (m:Nat):Nat:=if m=1 then 2 else 4*m
structure MinMax (ss:Sts)(left:List Nat)(mn mx:Int):Prop where
 a:mn∈left.map (lbl ss)
 b:∀x∈left.map (lbl ss),mn<=x
 c:mx∈left.map (lbl ss)
 d:∀x∈left.map (lbl ss),x<=mx
theorem Gf {left:List Nat}(hu:left.Pairwise (· < ·)){k:Nat}:k∈left.drop 1↔k∈left/\left.filter (· < k)≠[]:=by
 match left,hu with
 | [],_=>simp
 | a::r,hu=>
  have ha:=(DD.mp hu).1;show k∈r↔_;constructor
  ·intro hk;refine⟨BS _ hk,fun z=>?_⟩;have:a∈(a::r).filter (· < k):=C7.mpr ⟨AX,decide_eq_true (ha k hk)⟩;rw[z] at this;cases this
  rintro⟨hk,hne⟩;rcases Bi.mp hk with rfl|hk
  ·refine absurd (F1.mpr fun j hj=>?_) hne;rcases Bi.mp hj with rfl|hj
   ·simp
   have:=ha j hj;simp;omega
  exact hk
theorem RL {ss:Sts}{left:List Nat}{L:List Int}{mn mx:Int}(hL:oV ss left L)(lf:Lf ss left)(hm:MinMax ss left mn mx)(w:Wy):w∈RX ss left L mn mx↔oW ss left w:=by
 have at':∀{k},k∈left->mn<=lbl ss k/\lbl ss k<=mx:=fun hk=>⟨hm.b _ (EL hk),hm.d _ (EL hk)⟩;obtain⟨kn,hkn,en⟩:=DT.mp hm.a;obtain⟨kx,hkx,ex⟩:=DT.mp hm.c;unfold RX;rw[CF,CF,CF,Kd,List.mem_flatMap];constructor
 ·rintro(((h|⟨rfl,h⟩)|⟨k,hk,h⟩)|h)
  ·unfold u5 at h;split at h
   ·rename_i c;rw[AM.mp h];intro k hk;have:=at' hk;omega
   cases h
  ·exact h
  ·unfold nH at h;rcases CF.mp h with h|h
   ·split at h
    ·rename_i c;rcases Bi.mp h with rfl|h
     ·exact⟨hk,c⟩
     split at h
     ·rename_i e;rw[AM.mp h];exact⟨⟨hk,c⟩,e⟩
     cases h
    cases h
   split at h
   ·cases h
   rename_i c;rw[AM.mp h];exact(Gf lf.up).mpr ⟨hk,c⟩
  unfold Il at h;split at h
  ·rename_i c;obtain⟨l,hl,rfl⟩:=DT.mp h;refine⟨c.1,(hL.2 l).mp hl,?_⟩;by_cases e:mn=l
   ·exact⟨kx,hkx,ω⟩
   exact⟨kn,hkn,ω⟩
  cases h
 intro h;cases w with
 | pick l=>
  have h1:lbl ss kn=l:=h kn hkn;have h2:lbl ss kx=l:=h kx hkx;refine .inl (.inl (.inl ?_));unfold u5;rw[if_pos ω,show mn=l by omega];exact AX
 | tab=>exact .inl (.inl (.inr ⟨rfl,h⟩))
 | msk l=>
  obtain⟨h1,h2,k,hk,hne⟩:=h;refine .inr ?_;unfold Il;obtain⟨j,hj,ej⟩:=h2;have:=at' hk;have:=at' hj;rw[if_pos ⟨h1,ω⟩];exact EL ((hL.2 l).mpr ⟨j,hj,ej⟩)
 | one k=>exact .inl (.inr ⟨k,h.1.1,CF.mpr (.inl (by rw[if_pos h.1.2,if_pos h.2];simp))⟩)
 | wit k=>exact .inl (.inr ⟨k,h.1,CF.mpr (.inl (by rw[if_pos h.2];simp))⟩)
 | low k=>
  obtain⟨h1,h2⟩:=(Gf lf.up).mp (show k∈left.drop 1 from h);exact .inl (.inr ⟨k,h1,CF.mpr (.inr (by rw[if_neg h2];simp))⟩)
theorem Fq (ss:Sts)(left:List Nat)(k:Nat):(nH ss left k).length<=3:=by
 unfold nH;rw[AK];have h1:(if 1<left.length then Wy.wit k::(if (bW ss k).1=(bW ss k).2.1 then [Wy.one k] else []) else []).length<=2:=by
  split
  ·split <;> simp
  simp
 have h2:(if left.filter (· < k)=[] then [] else [Wy.low k]).length<=1:=by split <;> simp
 omega
theorem pG (ss:Sts)(left:List Nat):∀l:List Nat,(l.flatMap (nH ss left)).length<=3*l.length
 | []=>EI _
 | k::l=>by
  have:=pG ss left l;rw[GS,AK,B6];have:=Fq ss left k;omega
theorem RW {ss:Sts}{left:List Nat}{L:List Int}{mn mx:Int}(hL:0<L.length)(hl:L.length<=left.length)(lf:Lf ss left):(RX ss left L mn mx).length<=stB left.length:=by
 have h1:(u5 mn mx).length+(Il ss left L mn mx).length<=left.length:=by
  unfold u5 Il;by_cases c:mn=mx
  ·rw[if_pos c,if_neg ω];show 1+0<=_;omega
  rw[if_neg c];show 0+_<=_;split
  ·rw[AF];omega
  exact EI _
 have h2:(wyT ss left).length<=1:=by unfold wyT;split <;> simp
 unfold RX;rw[AK,AK,AK]
 match left,lf,h1,hl with
 | [],lf,_,_=>exact absurd rfl lf.ne
 | [a],lf,h1,_=>
  have e:nH ss [a] a=[]:=by
   unfold nH;rw[if_neg (show ¬1<[a].length from C8 1),if_pos (by simp)];rfl
  rw[GS,e];show _+_+0+_<=2;have:[a].length=1:=rfl;omega
 | a::b::r,lf,h1,_=>
  have hf:(a::b::r).filter (· < a)=[]:=by
   refine F1.mpr fun j hj=>?_;rcases Bi.mp hj with rfl|hj
   ·simp
   have:=(DD.mp lf.up).1 j hj;simp;omega
  have e:(nH ss (a::b::r) a).length<=2:=by
   unfold nH;rw[if_pos hf,CH];split
   ·split <;> simp
   simp
  have h3:=pG ss (a::b::r) (b::r);rw[GS,AK];unfold stB;have h4:(a::b::r).length=(b::r).length+1:=rfl;have h5:0<(b::r).length:=Nat.succ_pos _;rw[if_neg ω];omega
noncomputable def wj:Sp:=fun vs H Q _=>∃(s:V)(la:Addr)(ok:Addr->Prop)(ss:Sts)(left:List Nat),vs=[s,.ref la]/\cW ok H/\aH ok H s (.list (ss.map stD))/\H la=some (.lst (nv left))/\Lf ss left/\ss.length<=60/\left.length<=60 /\
 ∀(r:Addr)(xs:List V)(W:List Wy) H',Same H H'->H r=none->H' r=some (.lst xs)->(∀w,w∈W↔oW ss left w)->aG ok H' xs (W.map (stW ss left))->xs.length<=stB left.length->Q (.ref r) H'
noncomputable abbrev ScP:=lY->Sts->Hp->Addr->Prop
noncomputable def Jt (Sc:ScP):Prop:=∀f ss H H' sc,Sc f ss H sc->Same H H'->Sc f ss H' sc
noncomputable def Hf (Sc:ScP):Sp:=fun vs H Q _=>∃(s:V)(sc la:Addr)(ok:Addr->Prop)(f:lY)(ss:Sts)(left:List Nat)(w:Wy),vs=[s,.ref sc,.ref la,.str (fD (eY w))]/\aH ok H s (.list (ss.map stD))/\Sc f ss H sc/\H la=some (.lst (nv left))/\Lf ss left/\ss.length<=60/\left.length<=60 /\
 ∀H',Same H H'->Q (.int (f left (eY w))) H'
noncomputable def Hg (Sc:ScP)(n:Nat):Sp:=fun vs H Q _=>∃(s:V)(sc:Addr)(ok:Addr->Prop)(f:lY)(ss:Sts),vs=[s,.ref sc]/\cW ok H/\aH ok H s (.list (ss.map stD))/\ss.length=n/\Sc f ss H sc /\
 ∀(r:Addr)(N:List Int) H',Same H H'->H r=none->H' r=some (.lst (N.map V.int))->Tbl f ss n (2^n) N->Q (.ref r) H'
noncomputable def KS (kvs:List (Key×V))(S:Int->Prop):Prop:=∀k:Key,k∈kvs.map (·.1) ↔ ∃i,k=B9 i/\S i
theorem MF (kvs:List (Key×V))(k:Key)(v:V)(j:Key):j∈(putK kvs k v).map (·.1)↔j=k\/j∈kvs.map (·.1):=by
 unfold putK;split
 ·rename_i h;have e:(kvs.map fun kv=>if kv.1=k then (kv.1,v) else kv).map (·.1)=kvs.map (·.1):=by
   rw[JJ];refine G1 fun kv _=>?_;show(if kv.1=k then (kv.1,v) else kv).1=kv.1;split <;> rfl
  rw[e];obtain⟨kv,hkv,ek⟩:=List.any_eq_true.mp h;have:k∈kvs.map (·.1):=DT.mpr ⟨kv,hkv,of_decide_eq_true ek⟩;exact⟨.inr,fun z=>z.elim (fun e=>by rw[e];exact this) id⟩
 rw[A9,CF];show _\/j∈[k]↔_;rw[AM];exact or_comm
theorem uM:∀(prs kvs:List (Key×V)) (j:Key),j∈(putAll kvs prs).map (·.1)↔j∈prs.map (·.1)\/j∈kvs.map (·.1)
 | [],kvs,j=>Iff.intro .inr fun z=>z.elim (fun h=>nomatch h) id
 | kv::prs,kvs,j=>by
  show j∈(putAll (putK kvs kv.1 kv.2) prs).map (·.1)↔j∈kv.1::prs.map (·.1)\/_;rw[uM prs,MF,Bi];constructor
  ·rintro(h|h|h)
   ·exact .inl (.inr h)
   ·exact .inl (.inl h)
   exact .inr h
  rintro((h|h)|h)
  ·exact .inr (.inl h)
  ·exact .inl h
  exact .inr (.inr h)
theorem mK:∀(prs kvs:List (Key×V)),(putAll kvs prs).length<=kvs.length+prs.length
 | [],kvs=>A1 _
 | kv::prs,kvs=>by
  have h1:=mK prs (putK kvs kv.1 kv.2);have h2:=gP kvs kv.1 kv.2;show(putAll (putK kvs kv.1 kv.2) prs).length<=kvs.length+(prs.length+1);omega
theorem KS.nil:KS [] fun _=>False:=fun k=>Iff.intro (fun h=>nomatch h) fun⟨_,_,h⟩=>D7 h
theorem KS.one (i:Int)(v:V):KS [(B9 i,v)] fun j=>j=i:=fun k=>by
 show k∈[B9 i]↔_;rw[AM];exact⟨fun h=>⟨i,h,rfl⟩,fun⟨j,h,e⟩=>by rw[h,e]⟩
theorem KS.all {kvs prs:List (Key×V)}{S T:Int->Prop}(h:KS kvs S)(h2:KS prs T):KS (putAll kvs prs) fun i=>S i\/T i:=fun k=>by
 rw[uM,h k,h2 k];constructor
 ·rintro(⟨i,e,t⟩|⟨i,e,t⟩)
  ·exact⟨i,e,.inr t⟩
  exact⟨i,e,.inl t⟩
 rintro⟨i,e,t|t⟩
 ·exact .inr ⟨i,e,t⟩
 exact .inl ⟨i,e,t⟩
theorem KS.imp {kvs:List (Key×V)}{S T:Int->Prop}(h:KS kvs S)(e:∀i,S i↔T i):KS kvs T:=fun k=>by
 rw[h k];exact⟨fun⟨i,a,b⟩=>⟨i,a,(e i).mp b⟩,fun⟨i,a,b⟩=>⟨i,a,(e i).mpr b⟩⟩
theorem Af:∀(ks:List Key),(∀k∈ks,∃i,k=B9 i)->∃is:List Int,ks=is.map B9
 | [],_=>⟨[],rfl⟩
 | k::ks,h=>by
  obtain⟨i,rfl⟩:=h k AX;obtain⟨is,e⟩:=Af ks fun k hk=>h k (BS _ hk);exact⟨i::is,by rw[e];rfl⟩
theorem KS.list {kvs:List (Key×V)}{S:Int->Prop}(h:KS kvs S):∃is:List Int,kvs.map (·.1)=is.map B9/\∀i,i∈is↔S i:=by
 obtain⟨is,e⟩:=Af _ fun k hk=>by obtain⟨i,e,_⟩:=(h k).mp hk;exact⟨i,e⟩
 refine⟨is,e,fun i=>?_⟩;have h1:=h (B9 i);rw[e] at h1;constructor
 ·intro hi;obtain⟨j,ej,s⟩:=h1.mp (EL hi);cases ej;exact s
 intro s;obtain⟨j,hj,ej⟩:=DT.mp (h1.mpr ⟨i,rfl,s⟩);cases ej;exact hj
theorem KS.of {kvs:List (Key×V)}{is:List Int}(e:kvs.map (·.1)=is.map B9):KS kvs (·∈is):=fun k=>by
 rw[e,DT];exact⟨fun⟨i,h,e⟩=>⟨i,e.symm,h⟩,fun⟨i,e,h⟩=>⟨i,h,e.symm⟩⟩
noncomputable def nj (S:Int->Prop)(c:Int):Prop:=S c/\∀a,S a->c<=a
noncomputable def Z2 (S T:Int->Prop)(c:Int):Prop:=∃a b,S a/\T b/\c=a+b
theorem nj.sum {S T:Int->Prop}{c d:Int}(h:nj S c)(h2:nj T d):nj (Z2 S T) (c+d):=
 ⟨⟨c,d,h.1,h2.1,rfl⟩,fun x ⟨a,b,ha,hb,e⟩=>by have:=h.2 a ha;have:=h2.2 b hb;omega⟩
noncomputable def Pj:Sp:=fun vs H Q _=>∃(d e:Addr)(kvs more:List (Key×V)) (S T:Int->Prop),vs=[.ref d,.ref e]/\d≠e/\H d=some (.dK kvs)/\H e=some (.dK more)/\KS kvs S/\KS more T/\kvs.length<=800/\more.length<=800 /\
 ∀(r:Addr)(xs:List (Key×V)) H',H r=none->H' r=some (.dK xs)->KS xs (Z2 S T)->xs.length<=kvs.length*more.length->(∀b o,b≠d->b≠e->H b=some o->H' b=some o)->Q (.ref r) H'
noncomputable def vR:Nat->Nat
 | 0=>1
 | 1=>1
 | 2=>4
 | 3=>64
 | _=>1536
noncomputable def allB (m:Nat):Nat:=stB m*vR m
noncomputable def qY:List (List Nat)->Nat
 | []=>1
 | p::r=>allB p.length*qY r
theorem wI:∀(l:List (List Nat)) (p:List Nat),qY (l++[p])=qY l*allB p.length
 | [],p=>by show _*1=1*_;rw[mul_one,Nat.one_mul]
 | q::r,p=>by show _*qY (r++[p])=_*qY r*_;rw[wI r p,Nat.mul_assoc]
theorem Xa {a m:Nat}(h0:0<a)(h:a<m)(hm:m<=4):allB a<=vR m/\allB a<=768:=by
 have:a=1\/a=2\/a=3:=by omega
 have:m=2\/m=3\/m=4:=by omega
 rcases ‹a=1\/a=2\/a=3› with rfl|rfl|rfl <;> rcases ‹m=2\/m=3\/m=4› with rfl|rfl|rfl <;> first|(exfalso;omega)|decide
theorem Tt {a b:Nat}(h0:0<a)(h1:0<b)(hm:a+b<=4):allB a*allB b<=vR (a+b):=by
 have:a=1\/a=2\/a=3:=by omega
 have:b=1\/b=2\/b=3:=by omega
 rcases ‹a=1\/a=2\/a=3› with rfl|rfl|rfl <;> rcases ‹b=1\/b=2\/b=3› with rfl|rfl|rfl <;> first|(exfalso;omega)|decide
theorem Dr (m:Nat):1<=vR m:=by
 match m with
 | 0=>decide
 | 1=>decide
 | 2=>decide
 | 3=>decide
 | _+4=>show 1<=1536;decide
theorem Qx {ss:Sts}{left:List Nat}{w:Wy}(lf:Lf ss left)(h:oW ss left w)(h4:left.length<=4):qY (eO ss left w)<=vR left.length/\∀p∈eO ss left w,allB p.length<=768:=by
 have part:=jH lf h;have one:∀p∈eO ss left w,allB p.length<=vR left.length/\allB p.length<=768:=fun p hp=>by
  obtain⟨a,_,c⟩:=part p hp;exact Xa (Ee.mpr a.ne) c h4
 refine⟨?_,fun p hp=>(one p hp).2⟩;have s1:∀p,p∈eO ss left w->qY [p]<=vR left.length:=fun p hp=>by
  show _*1<=_;rw[mul_one];exact(one p hp).1
 cases w with
 | pick l=>exact Dr _
 | tab=>exact Dr _
 | msk l=>exact s1 _ AX
 | one k=>exact s1 _ AX
 | wit k=>exact s1 _ AX
 | low k=>
  have hsum:(left.filter (· < k)).length+(left.filter (k<=·)).length=left.length:=by
   have hd:=jq (k:=k) lf.up;have:=congrArg Fh hd;rw[EB] at this;have:=BA (fun x=>decide (x<k)) left;omega
  have p1:=(part _ AX).1.ne;have p2:=(part _ (BS _ AX)).1.ne;show allB (left.filter (· < k)).length*(allB (left.filter (k<=·)).length*1)<=_;rw[mul_one,<- hsum];exact Tt (Ee.mpr p1) (Ee.mpr p2) ω
noncomputable def sX (Sc:ScP)(n m:Nat):Sp:=fun vs H Q _=>∃(s:V)(sc:Addr)(x:Nat)(ok:Addr->Prop)(f:lY)(ss:Sts)(N:List Int),vs=[s,.ref sc,.int (x:Int),.int (n:Int)]/\cW ok H/\aH ok H s (.list (ss.map stD))/\ss.length=n/\Sc f ss H sc/\0<x/\x<2^n/\(bC n x).length<=m/\Tbl f ss n (2^n) N /\
 ∀(r:Addr)(kvs:List (Key×V)) (S:Int->Prop) H',Same H H'->H r=none->H' r=some (.dK kvs)->KS kvs S->nj S (N.getD x 0)->kvs.length<=allB (bC n x).length->Q (.ref r) H'
noncomputable def Dp (f:lY)(N:List Int)(ss:Sts)(left:List Nat)(W:List Wy)(S:Int->Prop):Prop:=(∀w∈W,S (iU f N ss left w))/\∀a,S a->∃w∈W,iU f N ss left w<=a
theorem Dp.nil (f:lY)(N:List Int)(ss:Sts)(left:List Nat):Dp f N ss left [] fun _=>False:=AA (fun _ h=>nomatch h) fun _ h=>D7 h
theorem Dp.snoc {f:lY}{N:List Int}{ss:Sts}{left:List Nat}{W:List Wy}{S T:Int->Prop}{w:Wy}(h:Dp f N ss left W S)(h2:nj T (iU f N ss left w)):Dp f N ss left (W++[w]) fun i=>S i\/T i:=by
 refine⟨fun v hv=>?_,fun a ha=>?_⟩
 ·rcases CF.mp hv with hv|hv
  ·exact .inl (h.1 v hv)
  rw[AM.mp hv];exact .inr h2.1
 rcases ha with ha|ha
 ·obtain⟨v,hv,e⟩:=h.2 a ha;exact⟨v,GG _ hv,e⟩
 exact⟨w,by simp,h2.2 a ha⟩
theorem Dp.least {f:lY}{N:List Int}{ss:Sts}{left:List Nat}{W:List Wy}{S:Int->Prop}{c:Int}(h:Dp f N ss left W S)(hW:∀w,w∈W↔oW ss left w)(hc:ni f N ss left c):nj S c:=by
 obtain⟨⟨w,hw,e⟩,hl⟩:=hc;refine⟨by rw[e];exact h.1 w ((hW w).mpr hw),fun a ha=>?_⟩;obtain⟨v,hv,le⟩:=h.2 a ha;exact Int.le_trans (hl v ((hW v).mp hv)) le
noncomputable def plG:Pl->Pg
 | .pick l=>.pick l
 | .tab=>.tab
 | .one k r=>.one k (plG r)
 | .wit k r=>.wit k (plG r)
 | .low k a b=>.low k (plG a) (plG b)
 | .msk l r=>.msk l (plG r)
theorem zZ:∀p:Pl,pgD (plG p)=plD p
 | .pick l=>rfl
 | .tab=>rfl
 | .one k r=>by show A3.tuple [_,_,pgD (plG r)]=_;rw[zZ r];rfl
 | .wit k r=>by show A3.tuple [_,_,pgD (plG r)]=_;rw[zZ r];rfl
 | .low k a b=>by show A3.tuple [_,_,pgD (plG a),pgD (plG b)]=_;rw[zZ a,zZ b];rfl
 | .msk l r=>by show A3.tuple [_,_,pgD (plG r)]=_;rw[zZ r];rfl
theorem tK:∀p:Pl,WfG (plG p)
 | .pick l=>trivial
 | .tab=>trivial
 | .one k r=>tK r
 | .wit k r=>tK r
 | .low k a b=>⟨tK a,tK b⟩
 | .msk l r=>tK r
theorem oZ:∀p:Pl,jj (plG p)=jJ p
 | .pick l=>rfl
 | .tab=>rfl
 | .one k r=>congrArg (· + 1) (oZ r)
 | .wit k r=>congrArg (· + 1) (oZ r)
 | .low k a b=>by show jj (plG a)+jj (plG b)+1=_;rw[oZ a,oZ b];rfl
 | .msk l r=>congrArg (· + 1) (oZ r)
theorem tL (ss:Sts):∀(p:Pl)(left:List Nat),okG ss (plG p) left=okP ss p left
 | .pick l,_=>rfl
 | .tab,_=>rfl
 | .one k r,left=>by show(iy ss left (.one k (plG r))&&okG ss (plG r) _)=_;rw[tL ss r];rfl
 | .wit k r,left=>by show(iy ss left (.wit k (plG r))&&okG ss (plG r) _)=_;rw[tL ss r];rfl
 | .low k a b,left=>by show(iy ss left (.low k (plG a) (plG b))&&(okG ss (plG a) _&&okG ss (plG b) _))=_;rw[tL ss a,tL ss b];rfl
 | .msk l r,left=>by show(iy ss left (.msk l (plG r))&&okG ss (plG r) _)=_;rw[tL ss r];rfl
theorem Ae:∀{ds:List A3},(∀d∈ds,d.canLay0=true)->A3.canLayAll0 ds=true
 | [],_=>rfl
 | d::ds,h=>by
  show(d.canLay0&&A3.canLayAll0 ds)=true;rw[h d AX,Ae fun d hd=>h d (BS _ hd)];rfl
theorem Le (ss:Sts)(zs:List Int):ZL (eZ ss zs):=fun left w ps=>by cases w <;> rfl
noncomputable def wg (n:Nat):Sp:=fun vs H Q _=>∃(s:V)(z:Addr)(ok:Addr->Prop)(ss:Sts)(zs:List Int),vs=[s,.ref z]/\cW ok H/\aH ok H s (.list (ss.map stD))/\ss.length=n/\H z=some (.tup (zs.map V.int))/\zs.length=6/\Few zs /\
 ∀ca H',Same H H'->H ca=none->N7 (eZ ss zs) n H' ca->Q (.ref ca) H'
noncomputable def sW (n:Nat):Sp:=fun vs H Q _=>∃(s:V)(z:Addr)(ok:Addr->Prop)(ss:Sts)(zs:List Int),vs=[s,.ref z]/\cW ok H/\aH ok H s (.list (ss.map stD))/\ss.length=n/\H z=some (.tup (zs.map V.int))/\zs.length=6/\Few zs /\
 ∀(v:V)(pl:Pl)(N:List Int) H',Same H H'->aH ok H' v (.tuple [.int (N.getD (2^n-1) 0),plD pl])->PlV ss pl (BB n)->jJ pl+1<=2*n->v7 ss (eZ ss zs) pl (BB n)=N.getD (2^n-1) 0->Tbl (eZ ss zs) ss n (2^n) N->Q v H'
noncomputable def uz:ScP:=fun f ss H sc=>∃(z:Addr)(zs:List Int),f=eZ ss zs/\H sc=some (.tup [.str "room",.ref z])/\H z=some (.tup (zs.map V.int))/\zs.length=6/\Few zs
theorem uJ:Jt uz:=fun f ss H H' sc ⟨z,zs,e,h1,h4,h5⟩ s=>⟨z,zs,e,s _ _ h1,s _ _ h4,h5⟩
theorem lA:∀p:Pl,rm p<jJ p
 | .pick l=>Nat.zero_lt_one
 | .tab=>Nat.zero_lt_one
 | .one k r=>Nat.succ_lt_succ (lA r)
 | .wit k r=>Nat.succ_lt_succ (lA r)
 | .low k a b=>by
  have h1:=lA a;have h2:=lA b;show max (rm a) (rm b)+1<jJ a+jJ b+1;omega
 | .msk l r=>Nat.succ_lt_succ (lA r)
noncomputable def DK:Sp:=fun vs H Q _=>∃(sa z:Addr)(ok:Addr->Prop)(ss:Sts)(zs:List Int),vs=[.ref sa,.ref z]/\cW ok H/\aH ok H (.ref sa) (.list (ss.map stD))/\0<ss.length/\ss.length<=8/\H z=some (.tup (zs.map V.int))/\zs.length=6/\Few zs /\
 ∀H',Same H H'->Q (.bl true) H'
theorem v9 (ss:Sts):(A3.list (ss.map stD)).canLay0=true/\(A3.list (ss.map stD)).depth<=100:=by
 constructor
 ·refine Ae fun d hd=>?_;obtain⟨s,_,rfl⟩:=DT.mp hd;rfl
 have h1:=uT (ds:=ss.map stD) (k:=2) fun d hd=>by
  obtain⟨s,_,rfl⟩:=DT.mp hd;show(1:Nat)<=2;decide
 show A3.depthAll (ss.map stD)+1<=100;omega
noncomputable def JB (td ty:TE):TE:=fun σ H Q=>td σ H fun x H1=>∃a,x=.ref a/\IsD H1 a/\ty σ H1 fun y H2=>∃(l:Addr)(kvs more:List (Key×V)),y=.ref l/\a≠l/\H2 a=some (.dK kvs)/\H2 l=some (.dK more) /\
 kvs.length+more.length<=AL/\Q .non (upd H2 a (.dK (putAll kvs more)))
section
variable {X:Cx}{o e:Expr}{apos cpos:Pos}{td ty:TE}
theorem Vs (ho:PE X o td) (he:PE X e ty) (m:M1 X o "update" apos e cpos):PE X (.Call (.Attribute o "update" apos) [e] [] cpos) (JB td ty):=by
 intro pins s σ H Q I h;refine wpAny_Call_method m.base m.few m.line PySem.F.plainAttrs_dict PySem.F.slot_dict_update PySem.F.type_dict_update (thn (ho pins s σ H _ I h) fun u s1 ⟨x,H1,I1,rx,a,ex,d,q1⟩=>?_);subst ex;obtain rfl:u=An.ref a:=rx;obtain⟨t1,t2,_⟩:=Zr I1 d;refine⟨t1,t2,?_⟩;rw[m.trees];refine Cs rfl (DH (Co (thn (he pins s1 σ H1 _ I1 q1) fun iv s2 ⟨y,H2,I2,ry,l,kvs,more,ey,al,ea,el,hz,q2⟩=>Ch ?_)));subst ey;obtain rfl:iv=An.ref l:=ry;obtain⟨zz,hd,vs,rel,dd⟩:=Am I2.hok ea;obtain⟨zz2,hd2,vs2,rel2,dd2⟩:=Am I2.hok el;have hvl:vs.length=kvs.length:=rel.length.symm;have hvl2:vs2.length=more.length:=rel2.length.symm;refine call_meetsIn PySem.F.slot_dict_update dd.typeIs PySem.F.entry_dict_update (PySem.F.args_dict_update_2 _ _) (meets_dict_update (aR X.prog X.w) a l al hd2) ⟨vs,vs2,dd,dd2,by rw[hvl,hvl2];exact hz,fun h' dd' _ old=>?_⟩;have he':∃q,h'.get? a=some q:=let ⟨q,_,_,hq,_⟩:=dd';⟨q,hq⟩;exact⟨.non,_,vO (t':=s2.toks) I2 (by rw[ea];exact EH) old he' (yt (Be (tH more kvs) hz) hd (KV.putAll rel rel2) dd'),rfl,q2⟩
theorem JS (ho:QE X o td) (he:QE X e ty) (m:M1 X o "update" apos e cpos):QE X (.Call (.Attribute o "update" apos) [e] [] cpos) (JB td ty):=⟨Vs ho.h he.h m⟩
end
theorem zF {prog:AV}{w:A6}{A:A7}{E:An->AC->Prop}{s:AC}{l:Addr}{rs:List (Key×An)}{ps:Array An}{k:Nat}{Q:An->AC->Prop}(hh:A.handled=none) (hl:s.heap.get? l=some { cls:=.type "list",data:=.seq ps k }) (P:GF prog w s.heap rs ps []) (hz:rs.length<=AL) (hb:C6<s.heap.objs.size)
  (hQ:∀(h':Heap)(t':Nat),h'.DictOf (aR prog w) s.heap.objs.size (merged [] rs)->(∀c o,s.heap.get? c=some o->h'.get? c=some o)->Q (.ref s.heap.objs.size) { s with heap:=h',toks:=t' }) :
  AG (A0 prog w) A (call (An.type "dict") [An.ref l]) Q E s:=by
 have fr:∀{c:Addr}{o:Obj},s.heap.get? c=some o->s.heap.objs.size≠c:=fun {c o} e q=>by
  have:=A4 e;rw[<- q] at this;exact C8 _ this
 refine callType_codes F.kt_called_dict (F.kt_typeCall_dict_1 _) F.entry_dict_init (kt_code_dict_new _ (Q₁:=fun obj s₁=>obj=An.ref s.heap.objs.size/\s₁={ s with heap:=s.heap.push { cls:=An.type "dict",data:=F4 #[] } }) ⟨rfl,rfl⟩) fun obj s₁ q=>?_;obtain⟨rfl,rfl⟩:=q;have gd:(s.heap.push { cls:=An.type "dict",data:=F4 #[] }).get? s.heap.objs.size=some { cls:=An.type "dict",data:=F4 #[] }:=AQ _ rfl;have up:∀c o,s.heap.get? c=some o->(s.heap.push { cls:=An.type "dict",data:=F4 #[] }).get? c=some o:=fun c o e=>AB _ e;refine⟨⟨_,gd,rfl⟩,F.args_dict_init_2 _ _,?_⟩;unfold AI.«dict.__init__» AI.Dict.selfAndRest AI.Dict.notOrdered;refine Ap (Ap (B7 ψ ?_));refine Ap (CY (T := "dict") ⟨_,gd,rfl⟩ (AY rfl (Au ?_)));show AG _ _ (AI.Dict.addrOf (An.ref s.heap.objs.size) >>= _) _ _ _;refine Ap ?_;show AG _ _ (pure s.heap.objs.size) _ _ _;refine Au (Au ?_);show AG _ _ (AI.Dict.updateFrom "dict.__init__" s.heap.objs.size (An.ref l) [] An.none) _ _ _;unfold AI.Dict.updateFrom;refine Ap (CY (T := "list") ⟨_,up l _ hl,rfl⟩ (B7 rfl ?_));refine Ap (zp (A:=A.in1.in1) hh (up l _ hl) fun h1 tk kp=>?_);refine B7 rfl ?_;refine Ap (D8 ?_);have up2:∀c o,s.heap.get? c=some o->h1.get? c=some o:=fun c o e=>kp c o (up c o e);have il:h1.IsList l ps:=⟨_,up2 l _ hl,rfl,k,rfl⟩;have hd0:h1.DictOf (aR prog w) s.heap.objs.size []:=by
  obtain⟨_,_,vs,kv,o,es,ep,e,r⟩:=su (P:=prog) (w:=w) (H:=fun _=>none) s.heap hb;cases kv;exact⟨o,es,ep,kp _ o e,r⟩
 refine Ap (DL (s:={ s with heap:=h1,toks:=tk }) il (Au ⟨E3 _ ψ,?_⟩));have up3:∀c o,h1.get? c=some o->(h1.push { cls:=.type "list_iterator",data:=.fields #[.ref l,.int 0 0] }).get? c=some o:=fun c o e=>AB _ e;have lt:∀{c:Addr}{o:Obj},h1.get? c=some o->c≠h1.objs.size:=fun {c o} e q=>by
  have:=A4 e;rw[q] at this;exact C8 _ this
 have gd1:∃o,h1.get? s.heap.objs.size=some o:=by obtain⟨o,_,_,e,_⟩:=hd0;exact⟨o,e⟩
 obtain⟨od,ed⟩:=gd1;refine ZS (A:=A.in1) (it:=h1.objs.size) (l:=l) (d:=s.heap.objs.size) (rs:=rs) (ps:=ps) hh (lt ed) (fr hl) (lt (up2 l _ hl)) rs.length 0 _ [] rfl (EI _) ⟨_,AQ _ rfl,rfl,rfl⟩ ⟨_,up3 l _ (up2 l _ hl),rfl,k,rfl⟩ ?_ ?_ (by simpa using hz) fun h3 t3 d3 old3=>?_
 ·refine⟨P.1,fun j kv e=>?_⟩;obtain⟨p,u,e1,e2,e3,e4⟩:=P.2 j kv e;obtain⟨o5,e5,e6⟩:=e2;refine⟨p,u,e1,⟨o5,up3 p o5 (up2 p o5 e5),e6⟩,e3,fun q=>?_⟩;rcases Bi.mp q with q|q
  ·exact lt (up2 p o5 e5) q
  exact fr e5 (AM.mp q).symm
 ·obtain⟨o,es,ep,e,r⟩:=hd0;exact⟨o,es,ep,up3 _ o e,r⟩
 rw[List.drop_zero] at d3;exact⟨rfl,hQ h3 t3 d3 fun c o e=>old3 c o (lt (up2 c o e)) (BN (fr e)) (up3 c o (up2 c o e))⟩
noncomputable def O6 (ta:TA):TE:=fun σ H Q=>ta σ H fun vs H1=>∃(l:Addr)(prs:List (Key×V)) (ads:List Addr),vs=[.ref l]/\H1 l=some (.lst (ads.map V.ref))/\ads.length=prs.length /\
 (∀(j:Nat) p kv,ads[j]?=some p->prs[j]?=some kv->H1 p=some (.tup [kV kv.1,kv.2]))/\prs.length<=AL/\∀d,H1 d=none->Q (.ref d) (upd H1 d (.dK (putAll [] prs)))
section
variable {X:Cx}
theorem VB {a:Expr}{ta:TA}{p pos:Pos}(hc:X.calm=true) (hg:Gl X "dict") (hm:X.mg "dict" = none) (ha:PA X [a] ta) (hs:AH [a] X.env=[(false,eval a X.env)]:=by rfl) :
  PE X (.Call (.Name "dict" p) [a] [] pos) (O6 ta):=by
 intro pins s σ H Q I h;refine Call_ (ji I hg hm boot_dict (B0 (thA (ha pos pins s σ H _ I h) fun us s1 vs H1 I1 r1 q1=>?_) hs rfl));obtain⟨l,prs,ads,rfl,el,hlen,hprs,hz,q⟩:=q1;cases r1 with
 | cons r rr=>
  cases rr;cases r;obtain⟨zl,its,n,rv,gl⟩:=I1.hok l _ el;have eits:=vU rv;obtain⟨rs,k1,k2,k3⟩:=Qw I1.hok ads prs hlen hprs;refine zF (rs:=rs) (ps:=its.toArray) (k:=n) (I1.ok.hd hc) gl ⟨?_,fun j kv ej=>?_⟩ (by rw[k2];exact hz) I1.big fun h3 t3 d3 old=>?_
  ·rw[AR,eits,AF,hlen,k2]
  ·obtain⟨p,u,xs,e1,e2,e3,e4⟩:=k3 j kv ej;refine⟨p,u,?_,e2,e3,B2⟩;rw[F5,eits,AU,e1];rfl
  have hf:H1 s1.heap.objs.size=none:=I1.hok.fresh (A1 _);have hsys:(s1.heap.objs.size == C6)=false:=by
   have t1:@LT.lt Nat _ C6 s1.heap.objs.size:=I1.big;exact beq_false_of_ne (by intro(z:@Eq Nat _ _);omega)
  have hle:=tH prs [];exact⟨.ref s1.heap.objs.size,_,I1.laid (t':=t3) (h':=h3) old (A1 _) (yt (Be hle (by simpa using hz)) hsys (KV.putAll .nil k1) d3),rfl,q _ hf⟩
theorem U4 {a:Expr}{ta:TA}{p pos:Pos}(hc:X.calm=true) (hg:Gl X "dict") (hm:X.mg "dict" = none) (ha:QA X [a] ta) (hs:AH [a] X.env=[(false,eval a X.env)]:=by rfl) :
  QE X (.Call (.Name "dict" p) [a] [] pos) (O6 ta):=⟨VB hc hg hm ha.h hs⟩
end
end L2
local macro_rules | `(tactic| push_cast) => `(tactic| ((try dsimp only [L2.tV, L2.G4, L2.G7, L2.Dy, L2.tOp, L2.tC, L2.Ov, L2.Dz, L2.vZ, L2.nR, L2.Bh, L2.tCB, L2.tIf, L2.O2, L2.tB, L2.T8, L2.tOr, L2.G5, L2.Dw, L2.yK, L2.lQ, L2.rI0, FR, E4, F9, Gc]); try simp only [↓L2.rdy, L2.rdy, ↓reduceIte, reduceCtorEq, Nat.reduceAdd, Nat.reduceSub]))
local macro_rules | `(tactic| push_cast [$ls,*]) => `(tactic| ((try dsimp only [L2.tV, L2.G4, L2.G7, L2.Dy, L2.tOp, L2.tC, L2.Ov, L2.Dz, L2.vZ, L2.nR, L2.Bh, L2.tCB, L2.tIf, L2.O2, L2.tB, L2.T8, L2.tOr, L2.G5, L2.Dw, L2.yK, L2.lQ, L2.rI0, FR, E4, F9, Gc]); try simp only [↓L2.rdy, L2.rdy, ↓reduceIte, reduceCtorEq, Nat.reduceAdd, Nat.reduceSub, $ls,*]))
namespace K36
open PySem L2 PyProof.Rows
noncomputable abbrev q0_:List Str:=["_law_stretches_here","_law_sizes","_law_left_here","_law_plan"]
noncomputable abbrev q1_:List Str:=["_law_tape_here","_law_many"]
noncomputable abbrev q2_:List Str:=["_law_stretches_here","_law_scale","_law_number","_law_many"]
noncomputable abbrev q3_:List Str:=["stretches","left"]
noncomputable abbrev q4_:List Str:=["_law_stretches_here","_law_left_here"]
noncomputable abbrev q5_:List Str:=["_law_stretches_here","_law_scale","_law_left_here","_law_word"]
noncomputable abbrev q6_:List Str:=["stretches","sizes"]
noncomputable abbrev q7_:List Str:=["_law_script","_law_k"]
noncomputable abbrev q8_:List Str:=["_law_stretches_here","_law_scale"]
noncomputable abbrev q9_:List Str:=["_law_number","_law_many"]
noncomputable abbrev q10_:List Str:=["_law_stretches_here","_law_sizes"]
noncomputable abbrev q11_:List Str:=["stretches","charges","some"]
noncomputable abbrev q12_:List Str:=["stretches","left","label"]
noncomputable abbrev q13_:List Str:=["stretches","left","thing"]
noncomputable abbrev q14_:List Str:=["stretches","sizes","left"]
noncomputable abbrev q15_:List Str:=["stretches","left","plan"]
noncomputable abbrev q16_:List Str:=["ways","numbers","plans"]
noncomputable def top (i:Nat):Stmt:=PySem.Challenge.pw_caseways_k36_least_room_of_all.main.body.getD i (.Pass ⟨0,0,0,0⟩)
noncomputable abbrev BLs:List Str:=["abs","all","bool","dict","int","isinstance","len","list","max","min","range","set","sorted","sum","tuple","zip"]
theorem RN:("abs" : Str)∈BLs:=by decide +kernel
theorem Zd:("all" : Str)∈BLs:=by decide +kernel
theorem Kf:("bool" : Str)∈BLs:=by decide +kernel
theorem Ke:("dict" : Str)∈BLs:=by decide +kernel
theorem xQ:("int" : Str)∈BLs:=by decide +kernel
theorem gq:("isinstance" : Str)∈BLs:=by decide +kernel
theorem d7:("len" : Str)∈BLs:=by decide +kernel
theorem Cq:("list" : Str)∈BLs:=by decide +kernel
theorem Ii:("max" : Str)∈BLs:=by decide +kernel
theorem tZ:("min" : Str)∈BLs:=by decide +kernel
theorem fM:("range" : Str)∈BLs:=by decide +kernel
theorem RM:("set" : Str)∈BLs:=by decide +kernel
theorem Ad:("sorted" : Str)∈BLs:=by decide +kernel
theorem xP:("sum" : Str)∈BLs:=by decide +kernel
theorem rM:("tuple" : Str)∈BLs:=by decide +kernel
theorem Zc:("zip" : Str)∈BLs:=by decide +kernel
noncomputable abbrev yH:List Str:=["_law_script","_law_k"]
noncomputable abbrev GI_ (s:Stmt)(x:Str):Prop:=(aj s).names.lookup x=some .globalImplicit
noncomputable abbrev NM_ (N:List Str)(s:Stmt)(i:Nat)(x:Str):Prop:=Nm N (aj s) i x
noncomputable abbrev gW:Stmt:=top 30
theorem Lp:bA yH q7_ (aj gW):=⟨rfl,rfl,rfl,ψ,rfl,ψ,ψ⟩
theorem wZ:NM_ yH gW 0 "_law_script" := .of ψ
theorem wY:NM_ yH gW 1 "_law_k" := .of ψ
theorem CK:GI_ gW "len" := by decide +kernel
theorem NT:Bn "_law_cell_at" := ⟨ψ,ψ⟩
noncomputable abbrev Dk:List Str:=["_law_script","_law_k","_law_cell"]
noncomputable abbrev je:Stmt:=top 31
theorem JQ:bA Dk q7_ (aj je):=⟨rfl,rfl,rfl,ψ,rfl,ψ,ψ⟩
theorem Rr:NM_ Dk je 0 "_law_script" := .of ψ
theorem wR:NM_ Dk je 1 "_law_k" := .of ψ
theorem rB:NM_ Dk je 2 "_law_cell" := .of ψ
theorem xW:GI_ je "_law_cell_at" := by decide +kernel
theorem xV:GI_ je "abs" := by decide +kernel
theorem Iv:GI_ je "int" := by decide +kernel
theorem WY:Bn "_law_tape" := ⟨ψ,ψ⟩
noncomputable abbrev uD:List Str:=["_law_tape_here","_law_many","_law_found","_law_prime","_law_once"]
noncomputable abbrev jf:Stmt:=top 32
theorem qM:bA uD q1_ (aj jf):=⟨rfl,rfl,rfl,ψ,rfl,ψ,ψ⟩
theorem dO:NM_ uD jf 0 "_law_tape_here" := .of ψ
theorem oF:NM_ uD jf 1 "_law_many" := .of ψ
theorem oE:NM_ uD jf 2 "_law_found" := .of ψ
theorem Ey:NM_ uD jf 3 "_law_prime" := .of ψ
theorem wU:NM_ uD jf 4 "_law_once" := .of ψ
theorem Cz:GI_ jf "_law_take" := by decide +kernel
theorem dX:Bn "_law_take" := ⟨ψ,ψ⟩
section
variable {P:AV}{w:A6}{K:AE}{mg:Str->Option An}{base:Heap}{f:Addr}{fd:CA}{bs:List Str}
theorem Wd (hB:∀x:Str,x∈BLs->mg x=none) (F:Fun K "_law_cell_at" "_law_cell_at" gW f fd):dm P w K mg base CX0 1 f fd q7_ (Pq K):=by
 refine F.okq Lp (fun vs H Q E h=>?_) (fun cdv A outer s H vs Q E hr h=>?_)
 ·obtain⟨a,ns,k,rfl,_⟩:=h;rfl
 obtain⟨a,ns,k,rfl,hS,h0,q⟩:=h;refine⟨_,(aK (aQ (Qs (bw pX (ao wY) (bY jr CK (hB "len" d7) BH d8 (ak (ao wZ) aA rfl) rfl rfl) (aO _)) (aJ Kp (ao wZ) (ao wY) (fun _ _=>rfl)) au))),?_⟩;push_cast;refine⟨_,.inl hS,?_⟩;split
 ·rename_i c;rw[AF] at c;have hk:k.toNat<ns.length:=ω;have ek:k=((k.toNat:Nat):Int):=ω;have z:atI (ns.map V.int) ((k.toNat:Nat):Int)=some (.int ns[k.toNat]):=dj (by rw[AU,AD hk];rfl);rw[<- ek] at z;unfold aac;exact⟨a,_,k,_,rfl,rfl,hS,z,q _⟩
 exact q _
theorem Wa (hB:∀x:Str,x∈BLs->mg x=none) (CZCellAt:Cal P w K mg base "_law_cell_at" 1 q7_ (Pq K)) (F:Fun K "_law_tape" "_law_tape" je f fd):dm P w K mg base CX0 2 f fd q7_ (Ph K):=by
 refine F.okq JQ (fun vs H Q E h=>?_) (fun cdv A outer s H vs Q E hr h=>?_)
 ·obtain⟨a,ns,k,rfl,_⟩:=h;rfl
 obtain⟨a,ns,k,rfl,hS,h0,h1,q⟩:=h;refine⟨_,(aD (bM rB JQ.nd (bx CZCellAt (hr.mono δ) xW NT (ak (ao Rr) (ak (ao wR) aA rfl) rfl) rfl rfl) rfl (.inl rfl))
  (aK (aQ (bO (ak (aL eE (bY Gn xV (hB "abs" RN) PyProof.Rows.Boot.«abs» S9 (ak (ao rB) aA rfl) rfl rfl) (wG mW Iv (hB "int" xQ) boot_int yD (ak (gG Xk (bY Gn xV (hB "abs" RN) PyProof.Rows.Boot.«abs» S9 (ak (ao rB) aA rfl) rfl rfl) (aL tM au au) (aO _)) aA rfl) rfl rfl)) (ak (aL iD (aL eE (aL bD (aL bD (aL iD (ao rB) au) (aL eE (aL eE au (ao wR)) (ao wR))) au) au) au) (ak au aA rfl) rfl) rfl))))),?_⟩
 push_cast;refine⟨a,ns,k,rfl,hS,h0,fun v=>?_⟩;push_cast;refine⟨⟨δ,δ,δ⟩,?_,δ,.inl δ,.inr ω,.inr δ,δ,aU δ,fun p hp=>q p _ hp (aB hp) ⟨_,_,_,aq,?_,?_,?_,Int.le_refl _,Int.le_refl _⟩⟩
 ·right;generalize (if v<0 then -v else v)=u;split <;> decide
 ·refine Int.mul_nonneg ?_ ?_
  ·split <;> omega
  generalize (if v<0 then -v else v)=u;split <;> decide
 ·exact Fk _ δ
 exact D9 _ δ
theorem J1 {n:Nat}(hB:∀x:Str,x∈BLs->mg x=none) (hn:n<=10) (CZTake:Cal P w K mg base "_law_take" n q1_ (qe n)) (F:Fun K "_law_take" "_law_take" jf f fd):dm P w K mg base CX0 (n+1) f fd q1_ (qe (n+1)):=by
 refine F.okq qM (fun vs H Q E h=>?_) (fun cdv A outer s H vs Q E hr h=>?_)
 ·obtain⟨p,m,B,rfl,_⟩:=h;rfl
 obtain⟨p,m,B,rfl,⟨a,b,c,hp,ha,hb0,hb1,hc0,hc1⟩,hB0,hm0,hm1,hn1,hn2,q⟩:=h;refine⟨_,(aD (cT (bw Ep (aJ aV (ao dO) au (fun _ _=>rfl)) au (aO _)) (aD (bM oE qM.nd (aL iD (aJ aV (ao dO) au (fun _ _=>rfl)) (ao oF)) rfl (.inl rfl))
  (aD (qj (aL wK (aJ aV (ao dO) au (fun _ _=>rfl)) (ao oF)) (BL (ao dO) au Pz) rfl rfl rfl)
  (aK (aQ (ao oE))))) bT)
  (aD (qj (aL bD (aJ aV (ao dO) au (fun _ _=>rfl)) au) (BL (ao dO) au Pz) rfl rfl rfl)
  (aD (bM Ey qM.nd (aJ aV (bO (ak au (ak au (ak au (ak au (ak au (ak au (ak au aA rfl) rfl) rfl) rfl) rfl) rfl) rfl)) (aL iD (aJ aV (ao dO) au (fun _ _=>rfl)) au) (fun _ _=>rfl)) rfl (.inl rfl))
  (aD (bM wU qM.nd (aL iD (aL eE (aL bD (aJ aV (ao dO) au (fun _ _=>rfl)) (aL eE au (aJ aV (ao dO) au (fun _ _=>rfl)))) (aL bD au (aJ aV (ao dO) au (fun _ _=>rfl)))) (ao Ey)) rfl (.inl rfl))
  (aD (qj (aL iD (aL bD (aL eE (ao wU) (aL bD (aL iD (ao wU) au) au)) (aJ aV (ao dO) au (fun _ _=>rfl))) au) (BL (ao dO) au Pz) rfl rfl rfl)
  (aD (bM oE qM.nd (aL wK (aL iD (aL eE (aJ aV (ao dO) au (fun _ _=>rfl)) (aL bD (aL iD (aJ aV (ao dO) au (fun _ _=>rfl)) au) au)) au) au) rfl (.inl rfl))
  (aK (aQ (Qs (bw pX (ao oF) (aL tM au au) (aO _)) (aL iD (ao oE) (ao oF)) (aL iD (aL bD (aL eE (ao oE) au) (bx CZTake (hr.mono ω) Cz dX (ak (ao dO) (ak au aA rfl) rfl) rfl rfl)) (ao oF))))))))))),?_⟩
 push_cast [hp];split
 ·refine⟨hm0,⟨hm0,hm1⟩,?_⟩;refine q _ _ (Fk _ ω) (D9 _ hm0) cL.upd ⟨_,_,_,aq,Int.ediv_nonneg ha ω,hb0,hb1,hc0,ω⟩
 refine⟨aU δ,fun p1 hp1=>?_⟩;have np:p≠p1:=fun z=>by rw[<- z,aq] at hp1;cases hp1
 obtain⟨v,hv,v0⟩:=Ys (c+1);push_cast [hp,aM np,ne_eq,np,not_false_eq_true,hv];have m1:∀x:Int,0<=x%40009/\x%40009<40009:=fun x=>⟨Fk _ δ,D9 _ δ⟩;have m2:∀x:Int,0<=x%1009/\x%1009<1009:=fun x=>⟨Fk _ δ,D9 _ δ⟩;have m3:∀x:Int,0<=x%2147483629/\x%2147483629<2147483629:=fun x=>⟨Fk _ δ,D9 _ δ⟩;refine⟨δ,.inl δ,.inr ω,v0,δ,.inr ?_,δ,δ,.inr ?_,δ,δ,δ,?_⟩
 ·have:=m1 ((b+39373*(c+1))*(48271+(c+1))%v);omega
 ·have:=m2 (((b+39373*(c+1))*(48271+(c+1))%v*((b+39373*(c+1))*(48271+(c+1))%v%40009+7)+(c+1))%2147483629);omega
 have e3:=m3 ((b+39373*(c+1))*(48271+(c+1))%v*((b+39373*(c+1))*(48271+(c+1))%v%40009+7)+(c+1));generalize ((b+39373*(c+1))*(48271+(c+1))%v*((b+39373*(c+1))*(48271+(c+1))%v%40009+7)+(c+1))%2147483629=y at e3 |-;have sx:cL p H (upd (upd (upd H p (HO.lst [V.int a,V.int b,V.int (c+1)])) p1 (HO.lst [V.int 2147483587,V.int 2147483579,V.int 2147483563,V.int 2147483549,V.int 2147483543,V.int 2147483497,V.int 2147483489])) p (HO.lst [V.int a,V.int y,V.int (c+1)])):=
  (cL.upd.trans (aB hp1).x).trans cL.upd
 have tp:cG (upd (upd (upd H p (HO.lst [V.int a,V.int b,V.int (c+1)])) p1 (HO.lst [V.int 2147483587,V.int 2147483579,V.int 2147483563,V.int 2147483549,V.int 2147483543,V.int 2147483497,V.int 2147483489])) p (HO.lst [V.int a,V.int y,V.int (c+1)])) p (B+1):=
  ⟨a,y,c+1,aq,ha,e3.1,e3.2,ω,ω⟩
 generalize upd (upd (upd H p (HO.lst [V.int a,V.int b,V.int (c+1)])) p1 (HO.lst [V.int 2147483587,V.int 2147483579,V.int 2147483563,V.int 2147483549,V.int 2147483543,V.int 2147483497,V.int 2147483489])) p (HO.lst [V.int a,V.int y,V.int (c+1)])=H2 at sx tp |-;split
 ·refine⟨hm0,q _ _ (Fk _ ω) (D9 _ hm0) sx ?_⟩;obtain⟨a',b',c',z1,z2,z3,z4,z5,z6⟩:=tp;exact⟨a',b',c',z1,z2,z3,z4,z5,ω⟩
 rename_i hm;have hm':1000000<=m:=by
  rw[show(10:Int)^Cf 6=1000000 from by decide] at hm;omega
 have hn3:=hn2 hm';refine⟨.inr δ,p,99991,B+1,rfl,tp,ω,δ,δ,ω,fun z=>absurd z δ,fun r H3 r0 r1 s3 t3=>?_⟩;push_cast;refine⟨hm0,q _ _ (Fk _ ω) (D9 _ hm0) (sx.trans s3) ?_⟩;obtain⟨a',b',c',z1,z2,z3,z4,z5,z6⟩:=t3;exact⟨a',b',c',z1,z2,z3,z4,z5,ω⟩
theorem Li:dm P w K mg base CX0 0 f fd q1_ (qe 0):=by
 have no:∀vs H Q E,¬qe 0 vs H Q E:=fun vs H Q E h=>by
  obtain⟨p,m,B,_,_,_,_,_,h1,_⟩:=h;omega
 exact⟨fun vs H Q E h=>absurd h (no vs H Q E),fun A outer s H args us vs Q E _ _ _ _ h=>absurd h (no vs H Q E)⟩
end
noncomputable abbrev m7:List Str:=["some"]
noncomputable abbrev cZ:Stmt:=top 17
theorem yN:bA m7 ["some"] (aj cZ):=⟨rfl,rfl,rfl,ψ,rfl,ψ,ψ⟩
theorem xr:NM_ m7 cZ 0 "some" := .of ψ
theorem qy:GI_ cZ "range" := by decide +kernel
theorem p8:Bn "stretches_in" := ⟨ψ,ψ⟩
noncomputable abbrev Jx:List Str:=["left"]
noncomputable abbrev mD:Stmt:=top 18
theorem Ul:bA Jx ["left"] (aj mD):=⟨rfl,rfl,rfl,ψ,rfl,ψ,ψ⟩
theorem RB:NM_ Jx mD 0 "left" := .of ψ
theorem Jc:GI_ mD "sum" := by decide +kernel
theorem K3:Bn "set_of" := ⟨ψ,ψ⟩
noncomputable def XJ (n:Nat):Sp:=fun vs H Q _=>∃s:Nat,vs=[.int (s:Int)]/\s<2^n/\∀p H',Same H H'->H p=none->H' p=some (.lst (nv (bC n s)))->Q (.ref p) H'
noncomputable def qL:Sp:=fun vs H Q _=>∃(l:Addr)(left:List Nat),vs=[.ref l]/\H l=some (.lst (nv left))/\left.length<=100/\(∀k∈left,k<=100)/\∀H',Same H H'->Q (.int (aX left:Nat)) H'
section
variable {P:AV}{w:A6}{K:AE}{mg:Str->Option An}{base:Heap}{f:Addr}{fd:CA}{bs:List Str}
theorem Rj (hB:∀x:Str,x∈BLs->mg x=none) (F:Fun K "set_of" "set_of" mD f fd):dm P w K mg base CX0 1 f fd ["left"] qL:=by
 refine F.okq Ul (fun vs H Q E h=>?_) (fun cdv A outer s H vs Q E hr h=>?_)
 ·obtain⟨l,left,rfl,_⟩:=h;rfl
 obtain⟨l,left,rfl,el,ll,lk,q⟩:=h;refine⟨_,(aK (aQ (bY (lW rfl) Jc (hB "sum" xP) boot_sum yC (ak (cH (NX:=Jx) (kX:=(aj mD).names) ["k"] [none] rfl rfl ⟨rfl,ψ,ψ,ψ,ψ⟩ rfl (bN (ao RB)) (fun _ _ _ _ _=>(bL 0 (show BQ (["k"]:List Str) from by decide +kernel) rfl (C2 rfl))) (fun _ _ _ _ _=>gH) (fun _ _ _ _ _=>(aL jK au (bh 0)))) aA rfl) rfl rfl))),?_⟩;push_cast;refine cF fun R hR=>?_;push_cast [gZ,jo,el,jn];refine jB (fun k=>((2^k:Nat):Int)) (fun τ=>∃o0,τ=[o0]) hR el ω ⟨_,rfl⟩ ?_ ?_
 ·rintro i k' τ acc Pn hk' ⟨o0,rfl⟩ h1;have hk:=lk k' (A5 hk');push_cast;refine⟨⟨ω,ω,δ⟩,?_⟩;rw[IA,B3,show((2:Int)^k')=((2^k':Nat):Int) by rw[Fm];rfl];exact h1 _ ⟨_,rfl⟩
 intro d hd;have s1:=aB (o:=HO.lst ((left.map fun k=>((2^k:Nat):Int)).map V.int)) hd;have e1:upd H d (HO.lst ((left.map fun k=>((2^k:Nat):Int)).map V.int)) d=_:=aq;generalize upd H d (HO.lst ((left.map fun k=>((2^k:Nat):Int)).map V.int))=H1 at s1 e1 |-;push_cast [e1];refine⟨_,rfl,?_⟩;rw[wA];exact q _ s1
theorem Rh {n:Nat}(hn:n<=60) (hB:∀x:Str,x∈BLs->mg x=none) (F:Fun K "stretches_in" "stretches_in" cZ f fd):dm P w K mg base CX0 1 f fd ["some"] (XJ n):=by
 refine F.okq yN (fun vs H Q E h=>?_) (fun cdv A outer s H vs Q E hr h=>?_)
 ·obtain⟨s,rfl,_⟩:=h;rfl
 obtain⟨x,rfl,hx,q⟩:=h;refine⟨_,(aK (aQ (cH (NX:=m7) (kX:=(aj cZ).names) ["k","some"] [none,some 0] rfl rfl ⟨rfl,ψ,ψ,ψ,ψ⟩ rfl (jw qy (hB "range" fM) (ak (U6 (ao xr)) aA rfl) rfl) (fun _ _ _ _ _=>(bL 0 (show BQ (["k","some"]:List Str) from by decide +kernel) rfl (C2 rfl))) (fun _ _ _ _ _=>(jh (Hs (aL Q8 (aL YJ (bh 1) (bh 0)) au)))) (fun _ _ _ _ _=>(bh 0))))),?_⟩;push_cast;refine cF fun R hR=>?_;push_cast [uN,O7,W7];obtain⟨h1,h2⟩:=Tg hx;generalize AI.Int.intBits (x:Int)=m at h1 h2 |-;refine⟨ω,ω,?_⟩;rw[B3];obtain⟨Pc,hPc⟩:∃Pv:Nat->List V->L2.St->Hp->Prop,Pv=fun(i:Nat) acc τ H'=>∃(o0:Option V),H'=H/\acc=nv (bC i x)/\τ=[o0,some (.int (x:Int))]:=⟨_,rfl⟩;refine yu hR (aU ω) Pc (by rw[hPc];exact⟨_,rfl,rfl,rfl⟩) ?_ ?_ ?_
 ·intro i acc τ H5 pc;rw[hPc] at pc;obtain⟨_,_,rfl,_⟩:=pc;rw[dN];exact Be (BA _ _) (by rw[EG];exact A1 _)
 ·intro i acc τ H5 hi pc;rw[hPc] at pc;obtain⟨o0,rfl,rfl,rfl⟩:=pc;push_cast;refine⟨ω,?_⟩;rw[zero_add,B3,Uh,hPc];by_cases c:x.testBit i=true
  ·rw[if_pos c,if_pos δ];refine⟨_,rfl,?_,rfl⟩;rw[mZ,if_pos c];unfold nv;rw[A9];rfl
  rw[if_neg c,if_neg δ];exact⟨_,rfl,by rw[mZ,if_neg c,CH],rfl⟩
 intro acc τ H5 d pc hd;rw[hPc] at pc;obtain⟨o0,rfl,rfl,rfl⟩:=pc;rw[Jp h1 hx];exact q d _ (aB hd) hd aq
end
noncomputable abbrev cU:List Str:=["stretches","left","some","ways","k","others","ahead"]
noncomputable abbrev bF:Stmt:=top 20
theorem cX:bA cU q3_ (aj bF):=⟨rfl,rfl,rfl,ψ,rfl,ψ,ψ⟩
theorem lF:NM_ cU bF 0 "stretches" := .of ψ
theorem iI:NM_ cU bF 1 "left" := .of ψ
theorem fU:NM_ cU bF 2 "some" := .of ψ
theorem eN:NM_ cU bF 3 "ways" := .of ψ
theorem bU:NM_ cU bF 4 "k" := .of ψ
theorem iH:NM_ cU bF 5 "others" := .of ψ
theorem iG:NM_ cU bF 6 "ahead" := .of ψ
theorem oM:GI_ bF "set_of" := by decide +kernel
theorem vq:Bn "ways_by_stretch" := ⟨ψ,ψ⟩
noncomputable def Z4:Sp:=fun vs H Q _=>∃(s:V)(la:Addr)(ok:Addr->Prop)(ss:Sts)(left:List Nat),vs=[s,.ref la]/\cW ok H/\aH ok H s (.list (ss.map stD))/\H la=some (.lst (nv left))/\Lf ss left/\ss.length<=60/\left.length<=60 /\
 ∀(r:Addr)(xs:List V) H',Same H H'->H r=none->H' r=some (.lst xs)->aG (fun a=>ok a/\a≠r) H' xs ((K8 ss left).map (wyD ss left))->Q (.ref r) H'
section
variable {P:AV}{w:A6}{K:AE}{mg:Str->Option An}{base:Heap}{f:Addr}{fd:CA}{bs:List Str}
theorem Rf (hB:∀x:Str,x∈BLs->mg x=none) (CSetOf:Cal P w K mg base "set_of" 1 ["left"] qL) (F:Fun K "ways_by_stretch" "ways_by_stretch" bF f fd):dm P w K mg base CX0 2 f fd q3_ Z4:=by
 refine F.okq cX (fun vs H Q E h=>?_) (fun cdv A outer s H vs Q E hr h=>?_)
 ·obtain⟨s,la,ok,ss,left,rfl,_⟩:=h;rfl
 obtain⟨s,la,ok,ss,left,rfl,hnw,ts,el,lf,h60,ll,q⟩:=h;refine⟨_,(aD (bM fU cX.nd (bx CSetOf (hr.mono δ) oM K3 (ak (ao iI) aA rfl) rfl rfl) rfl (.inl rfl))
  (aD (bM eN cX.nd (bO aA) rfl (.inl rfl))
  (aD (iC Cb rfl (bN (ao iI)) (fC bU cX.nd (.inl rfl))
  (aD (bM iH cX.nd (aL fJ (ao fU) (aL jK au (ao bU))) rfl (.inl rfl))
  (aD (cT (bw (cB hr.bJ) (aJ aV (aJ aV (ao lF) (ao bU) (fun _ _=>rfl)) au (fun _ _=>rfl)) (aJ aV (aJ aV (ao lF) (ao bU) (fun _ _=>rfl)) au (fun _ _=>rfl)) (aO _)) (aK (dg (eX (ao eN) (b8 (ak (b8 (ak bI (ak (ao bU) aA rfl) rfl)) (ak (bO (ak (ao iH) aA rfl)) aA rfl) rfl)) rfl rfl rfl rfl rfl) rfl)) bT)
  (aK (dg (eX (ao eN) (b8 (ak (b8 (ak bI (ak (ao bU) aA rfl) rfl)) (ak (bO (ak (ao iH) aA rfl)) aA rfl) rfl)) rfl rfl rfl rfl rfl) rfl)))) (fun _=>rfl))
  (aD (iC Cb rfl (bN (qU Ug (ao iI) (vB au) vC)) (fC bU cX.nd (.inl rfl))
  (aD (bM iG cX.nd (aL Q8 (ao fU) (aL fJ (aL jK au (ao bU)) au)) rfl (.inl rfl))
  (aK (dg (eX (ao eN) (b8 (ak (b8 (ak bI (ak (ao bU) aA rfl) rfl)) (ak (bO (ak (ao iG) (ak (aL fJ (ao fU) (ao iG)) aA rfl) rfl)) aA rfl) rfl)) rfl rfl rfl rfl rfl) rfl))) (fun _=>rfl))
  (aK (aQ (ao eN))))))),?_⟩
 refine aN fun k hk=>?_;push_cast;refine⟨la,left,rfl,el,ω,fun k hk=>by have:=lf.lt k hk;omega,fun H1 s1=>?_⟩;push_cast;subst hk;refine aN fun k hk=>?_;push_cast;refine⟨aU δ,fun r hr0=>?_⟩;have hrn:H r=none:=s1.none hr0;have s2:=s1.trans (aB (o:=HO.lst []) hr0);have er2:upd H1 r (HO.lst []) r=some (HO.lst []):=aq;generalize upd H1 r (HO.lst [])=H2 at s2 er2 |-;subst hk;obtain⟨ok2,hok2⟩:∃ok2:Addr->Prop,ok2=fun a=>ok a/\a≠r:=⟨_,rfl⟩;have ok2r:∀a,ok2 a->a≠r:=fun a h=>by rw[hok2] at h;exact h.2
 have nwk:∀{H':Hp}{xs:List V},Same H H'->H' r=some (.lst xs)->cW ok2 H':=fun {H' xs} sH er H3 q s' hq=>by
  rw[hok2];exact⟨hnw H3 q (sH.trans s') hq,(aF (s' _ _ er) hq).symm⟩
 cases ts with
 | lst os es zs tss=>
  rename_i sa sxs;have el2:=s2 _ _ el
  -- one by one
  refine aN fun k hk=>?_;refine lU fun R hR=>?_;push_cast [gZ,jo,el2,jn];obtain⟨Pv,hPv⟩:∃Pv:Nat->L2.St->Hp->Prop,Pv=fun(i:Nat) σ H'=>∃(xs:List V)(o4 o5 o6:Option V),Same H H'/\H' r=some (.lst xs)/\aG ok2 H' xs (((left.take i).flatMap (oA ss)).map (wyD ss left))/\σ=[some (.ref sa),some (.ref la),some (.int ((aX left:Nat):Int)),some (.ref r),o4,o5,o6]:=⟨_,rfl⟩;refine uR hR (xs:=nv left) Pv (by rw[hPv];exact⟨[],_,_,_,s2,er2,.nil,rfl⟩) ?_ ?_ ?_
  ·intro i σ H3 _ pv;rw[hPv] at pv;obtain⟨_,_,_,_,s3,_⟩:=pv;exact SqL.of (s3 _ _ el)
  ·intro i x σ H3 hx pv;rw[hPv] at pv;obtain⟨xs,o4,o5,o6,s3,er3,t3,rfl⟩:=pv;obtain⟨k',hk',rfl⟩:∃k':Nat,left[i]?=some k'/\x=.int (k':Int):=by
    unfold nv at hx;rw[AU] at hx;obtain⟨k',h1,h2⟩:=Bz.mp hx;exact⟨k',h1,h2.symm⟩
   have mk:=A5 hk';obtain⟨p1,x1,y1⟩:=tss.stN (lf.lt _ mk);have es3:=s3 _ _ es;have y3:=s3 _ _ y1;have hil:i<left.length:=(AW.mp hk').1;have hxl:=t3.length;have hwl:=vy ss (left.take i);rw[AF] at hxl;rw[EA] at hwl;refine aN fun k2 hk2=>?_;push_cast;refine⟨⟨ω,by have:=lf.lt _ mk;omega,δ⟩,?_⟩;rw[DR lf.up mk];subst hk2;have fin:∀(xs:List V)(ds:List A3)(H4:Hp),Same H H4->H4 r=some (.lst xs)->aG ok2 H4 xs ds->xs.length<=200->ds++[wyD ss left (.wit k')]=((left.take (i+1)).flatMap (oA ss)).map (wyD ss left) ->
     uH (v5 (tV 3) (Dw (nR (Dw (nR (tC (V.str "within")) (nR (tV 4) Bh))) (nR (G5 (nR (tV 5) Bh)) Bh)))) { nx:=Pv (i+1),rt:=Q,bk:=k,ct:=Pv (i+1) } [some (.ref sa),some (.ref la),some (.int ((aX left:Nat):Int)),some (.ref r),some (.int (k':Int)),some (.int ((aX (left.filter (·≠k')):Nat):Int)),o6] H4:=by
    intro xs ds H4 s4 er4 t4 hxl4 hds;have n4:=nwk s4 er4;refine qJ (ok:=ok2) rfl er4 ω ok2r t4 (d:=wyD ss left (.wit k')) (fW n4 (aP (fW n4 (aP kJ (aP (gvV rfl (.int _)) bV)) (by show 2<=1000000;decide)) (aP (kO n4 (aP (gvV rfl (.int _)) bV) (by show 1<=1000000;decide)) bV)) (by show 2<=1000000;decide)) fun v H5 s5 t5=>?_;rw[hds] at t5;show Pv _ _ _;rw[hPv];exact⟨_,_,_,_,dH (s4.trans s5) hrn,aq,t5,rfl⟩
   have hwk:=Xq (ss:=ss) hk';refine aN fun k2 hk2=>?_;refine gQ fun kt ke hkt hke=>?_;push_cast [es3,x1,y3];by_cases c:(bW ss k').1=(bW ss k').2.1
   ·rw[if_pos c];subst hkt;have n3:=nwk s3 er3;refine qJ (ok:=ok2) rfl er3 ω ok2r t3 (d:=wyD ss left (.one k')) (fW n3 (aP (fW n3 (aP kJ (aP (gvV rfl (.int _)) bV)) (by show 2<=1000000;decide)) (aP (kO n3 (aP (gvV rfl (.int _)) bV) (by show 1<=1000000;decide)) bV)) (by show 2<=1000000;decide)) fun v H5 s5 t5=>?_;show k2 _ _;subst hk2;refine fin _ _ _ (dH (s3.trans s5) hrn) aq t5 (by rw[AK,BM];omega) ?_;rw[hwk,A9];unfold oA;rw[if_pos c,EC];rfl
   rw[if_neg c];subst hke;show k2 _ _;subst hk2;refine fin _ _ _ s3 er3 t3 ω ?_;rw[hwk,A9];unfold oA;rw[if_neg c];rfl
  intro σ H3 pv;rw[hPv] at pv;obtain⟨xs,o4,o5,o6,s3,er3,t3,rfl⟩:=pv;rw[dN,D4] at t3;show k _ _;subst hk;have el3:=s3 _ _ el;have hxl:=t3.length;have hwl:=vy ss left;rw[AF] at hxl
  -- halves
  refine aN fun k hk=>?_;refine lU fun R hR=>?_;push_cast [el3];intro p hp;rw[S5];have hpr:p≠r:=(aF er3 hp).symm;have s4:=aB (o:=HO.lst (nv (left.drop 1))) hp;have ep4:upd H3 p (HO.lst (nv (left.drop 1))) p=some (HO.lst (nv (left.drop 1))):=aq;have er4:=s4 _ _ er3;have t4:=t3.same s4;have sH4:=s3.trans s4;generalize upd H3 p (HO.lst (nv (left.drop 1)))=H4 at s4 ep4 er4 t4 sH4 |-;obtain⟨Pw,hPw⟩:∃Pv:Nat->L2.St->Hp->Prop,Pv=fun(j:Nat) σ H'=>∃(xs:List V)(o4 o5 o6:Option V),Same H H'/\H' p=some (HO.lst (nv (left.drop 1)))/\H' r=some (.lst xs)/\xs.length<=120+j/\aG ok2 H' xs ((left.flatMap (oA ss)++((left.drop 1).take j).map Wy.low).map (wyD ss left))/\σ=[some (.ref sa),some (.ref la),some (.int ((aX left:Nat):Int)),some (.ref r),o4,o5,o6]:=⟨_,rfl⟩;refine uR hR (xs:=nv (left.drop 1)) Pw (by rw[hPw];exact⟨xs,_,_,_,sH4,ep4,er4,ω,by rw[take_zero,JI,CH];exact t4,rfl⟩) ?_ ?_ ?_
  ·intro i σ H5 _ pv;rw[hPw] at pv;obtain⟨_,_,_,_,_,ep,_⟩:=pv;exact SqL.of ep
  ·intro i x σ H5 hx pv;rw[hPw] at pv;obtain⟨xs5,o4',o5',o6',s5,ep5,er5,hl5,t5,rfl⟩:=pv;obtain⟨k',hk',rfl⟩:∃k':Nat,(left.drop 1)[i]?=some k'/\x=.int (k':Int):=by
    unfold nv at hx;rw[AU] at hx;obtain⟨k',h1,h2⟩:=Bz.mp hx;exact⟨k',h1,h2.symm⟩
   have mk:=GH (A5 hk');have hil:i<(left.drop 1).length:=(AW.mp hk').1;rw[EB] at hil;refine aN fun k2 hk2=>?_;push_cast;refine⟨⟨ω,by have:=lf.lt _ mk;omega,δ⟩,?_⟩;rw[Lk lf.up];subst hk2;have n5:=nwk s5 er5;refine qJ (ok:=ok2) rfl er5 ω ok2r t5 (d:=wyD ss left (.low k')) (fW n5 (aP (fW n5 (aP kJ (aP (gvV rfl (.int _)) bV)) (by show 2<=1000000;decide)) (aP (kO n5 (aP (gvV rfl (.int _)) (aP (R9 (gvV rfl (.int _)) (gvV rfl (.int _)) (fun H Q q=>⟨_,_,rfl,rfl,by show Q (V.int (_-_)) H;rw[wz lf.up];exact q⟩)) bV)) (by show 2<=1000000;decide)) bV)) (by show 2<=1000000;decide)) fun v H6 s6 t6=>?_;show Pw _ _ _;rw[hPw];refine⟨_,_,_,_,dH (s5.trans s6) hrn,(aM hpr).trans (s6 _ _ ep5),aq,by rw[AK,BM];omega,?_,rfl⟩;have e6:left.flatMap (oA ss)++((left.drop 1).take (i+1)).map Wy.low=(left.flatMap (oA ss)++((left.drop 1).take i).map Wy.low)++[Wy.low k']:=by
    rw[take_snoc hk',A9,EC];rfl
   rw[e6,A9];exact t6
  intro σ H5 pv;rw[hPw] at pv;obtain⟨xs5,o4',o5',o6',s5,ep5,er5,hl5,t5,rfl⟩:=pv;rw[dN,D4] at t5;show k _ _;subst hk;push_cast;exact q r xs5 H5 s5 hrn er5 (t5.keep fun a o h e=>⟨by rw[hok2] at h;exact h,e⟩)
theorem sG:Bn "MOST_IN_MASK" := ⟨ψ,ψ⟩
theorem qb:Bn "MOST_IN_TABLE" := ⟨ψ,ψ⟩
theorem W6:Bn "TESTS" := ⟨ψ,ψ⟩
noncomputable abbrev jW:List Str:=["stretches","left"]
noncomputable abbrev cQ:Stmt:=top 5
theorem uW:bA jW q3_ (aj cQ):=⟨rfl,rfl,rfl,ψ,rfl,ψ,ψ⟩
theorem lH:NM_ jW cQ 0 "stretches" := .of ψ
theorem lG:NM_ jW cQ 1 "left" := .of ψ
theorem gD:Bn "numbers_across" := ⟨ψ,ψ⟩
noncomputable abbrev jc:List Str:=["stretches","left","plan","word","ahead"]
noncomputable abbrev dW:Stmt:=top 9
theorem sZ:bA jc q15_ (aj dW):=⟨rfl,rfl,rfl,ψ,rfl,ψ,ψ⟩
theorem mH:NM_ jc dW 1 "left" := .of ψ
theorem jN:NM_ jc dW 2 "plan" := .of ψ
theorem mG:NM_ jc dW 3 "word" := .of ψ
theorem qp:NM_ jc dW 4 "ahead" := .of ψ
theorem CT:GI_ dW "len" := by decide +kernel
theorem NZ:Bn "plans_in" := ⟨ψ,ψ⟩
theorem Ms (hB:∀x:Str,x∈BLs->mg x=none) (F:Fun K "numbers_across" "numbers_across" cQ f fd):dm P w K mg base CX0 1 f fd q3_ lu:=by
 refine F.okq uW (fun vs H Q E h=>?_) (fun cdv A outer s H vs Q E hr h=>?_)
 ·obtain⟨s,l,ok,ss,left,rfl,_⟩:=h;rfl
 obtain⟨s,l,ok,ss,left,rfl,ts,tl,lf,q⟩:=h;refine⟨_,(aK (aQ (aL bD (aL fJ (aJ aV (aJ aV (ao lH) (aJ aV (ao lG) (qT mj au) (fun _ _=>rfl)) (fun _ _=>rfl)) au (fun _ _=>rfl)) (aJ aV (aJ aV (ao lH) (aJ aV (ao lG) au (fun _ _=>rfl)) (fun _ _=>rfl)) au (fun _ _=>rfl))) au))),?_⟩;obtain⟨la,rfl,_,el,_⟩:=tl.left;replace el:H la=some (.lst (nv left)):=el;cases ts with
 | lst o es zs tss=>
  obtain⟨k1,e1,m1,a1⟩:=vD lf.ne;obtain⟨k0,e0,m0,a0⟩:=vG lf.ne;obtain⟨p1,x1,y1⟩:=tss.stN (lf.lt _ m1);obtain⟨p0,x0,y0⟩:=tss.stN (lf.lt _ m0);unfold bR at q;rw[e1,e0] at q;push_cast [el,a1,a0,es,x1,x0,y1,y0];exact q
theorem Hz (hB:∀x:Str,x∈BLs->mg x=none) (F:Fun K "plans_in" "plans_in" dW f fd):dm P w K mg base CX0 1 f fd q15_ JL:=by
 refine F.okq sZ (fun vs H Q E h=>?_) (fun cdv A outer s H vs Q E hr h=>?_)
 ·obtain⟨s,l,p,ok,ss,left,pl,rfl,_⟩:=h;rfl
 obtain⟨s,l,p,ok,ss,left,pl,rfl,hn,ts,tl,tp,hst,lf,q⟩:=h;refine⟨_,(aD (bM mG sZ.nd (aJ aV (ao jN) au (fun _ _=>rfl)) rfl (.inl rfl))
  (aD (cT (bw (cB hr.bJ) (ao mG) bI (aO _)) (aD (qR (NX:=jc) (kX:=(aj dW).names) ["k","plan"] [none,some 2] qp sZ.nd rfl rfl ⟨rfl,ψ,ψ,ψ,ψ⟩ rfl (bN (ao mH)) (fun _ _ _ _ _=>(bL 0 (show BQ (["k","plan"]:List Str) from by decide +kernel) rfl (C2 rfl))) (fun _ _ _ _ _=>(jh (bw pX (bh 0) (aJ aV (bh 1) au (fun _ _=>rfl)) (aO _)))) (fun _ _ _ _ _=>(bh 0)))
  (aK (aQ (bO (ak (b8 (ak (ao qp) (ak (aJ aV (ao jN) au (fun _ _=>rfl)) aA rfl) rfl)) (ak (b8 (ak (qU Ug (ao mH) (vB (bY bK CT (hB "len" d7) BH d8 (ak (ao qp) aA rfl) rfl rfl)) vC) (ak (aJ aV (ao jN) au (fun _ _=>rfl)) aA rfl) rfl)) aA rfl) rfl))))) bT)
  (aD (cT (bw (cB hr.bJ) (ao mG) bI (aO _)) (aK (aQ (bO (ak (b8 (ak (cH (NX:=jc) (kX:=(aj dW).names) ["k","plan","stretches"] [none,some 2,some 0] rfl rfl ⟨rfl,ψ,ψ,ψ,ψ⟩ rfl (bN (ao mH)) (fun _ _ _ _ _=>(bL 0 (show BQ (["k","plan","stretches"]:List Str) from by decide +kernel) rfl (C2 rfl))) (fun _ _ _ _ _=>(jh (bw (kj hr.bJ) (aJ aV (aJ aV (bh 2) (bh 0) (fun _ _=>rfl)) au (fun _ _=>rfl)) (aJ aV (bh 1) au (fun _ _=>rfl)) (aO _)))) (fun _ _ _ _ _=>(bh 0))) (ak (aJ aV (ao jN) au (fun _ _=>rfl)) aA rfl) rfl)) aA rfl)))) bT)
  (aD (cT (bw (YQ hr.un1) (ao mG) (b8 (ak bI (ak bI aA rfl) rfl)) (by with_unfolding_all rfl)) (aK (aQ (bO (ak (b8 (ak (cH (NX:=jc) (kX:=(aj dW).names) ["k","plan"] [none,some 2] rfl rfl ⟨rfl,ψ,ψ,ψ,ψ⟩ rfl (bN (ao mH)) (fun _ _ _ _ _=>(bL 0 (show BQ (["k","plan"]:List Str) from by decide +kernel) rfl (C2 rfl))) (fun _ _ _ _ _=>(jh (bw (kj hr.bJ) (bh 0) (aJ aV (bh 1) au (fun _ _=>rfl)) (aO _)))) (fun _ _ _ _ _=>(bh 0))) (ak (aJ aV (ao jN) au (fun _ _=>rfl)) aA rfl) rfl)) aA rfl)))) bT)
  (aK (aQ (bO aA))))))),?_⟩
 obtain⟨la,rfl,okl,el,ll⟩:=tl.left;replace el:H la=some (.lst (nv left)):=el;have ts0:=ts;cases ts with
 | lst os es zs tss=>
  rename_i sa xs;cases pl with
  | odd d=>cases hst
  | pick l=>
   cases tp with
   | tup o e z tt=>
    cases tt with
    | cons t1 tt=>
     cases t1;push_cast [e,rdW];refine⟨aU δ,fun t ht=>?_⟩;have s1:=aB (o:=HO.tup [V.str "is",V.str "within"]) ht;refine⟨t,["is","within"],.str "pick",ok,rfl,aq,.str _,?_⟩;rw[show([("is" : Str), "within"].any (dh (.str "pick")))=false by decide +kernel];push_cast;exact⟨aU δ,fun r hr=>q _ _ (s1.trans (aB hr)) (.lst (hn.new (lg hr).1) aq (by show 0<=1000000;decide) .nil)⟩
  | tab=>
   cases tp with
   | tup o e z tt=>
    cases tt with
    | cons t1 tt=>
     cases t1;push_cast [e,rdW];refine⟨aU δ,fun t ht=>?_⟩;have s1:=aB (o:=HO.tup [V.str "is",V.str "within"]) ht;refine⟨t,["is","within"],.str "table",ok,rfl,aq,.str _,?_⟩;rw[show([("is" : Str), "within"].any (dh (.str "table")))=false by decide +kernel];push_cast;exact⟨aU δ,fun r hr=>q _ _ (s1.trans (aB hr)) (.lst (hn.new (lg hr).1) aq (by show 0<=1000000;decide) .nil)⟩
  | one k r=>
   cases tp with
   | tup o e z tt=>
    cases tt with
    | cons t1 tt=>
     cases t1;cases tt with
     | cons t2 tt=>
      cases t2;cases tt with
      | cons t3 tt=>
       cases tt;rename_i pa x3;push_cast [e,rdW];refine⟨aU δ,fun t ht=>?_⟩;have s1:=aB (o:=HO.tup [V.str "is",V.str "within"]) ht;refine⟨t,["is","within"],.str "is",ok,rfl,aq,.str _,?_⟩;rw[show([("is" : Str), "within"].any (dh (.str "is")))=true by decide +kernel];have e1:=s1 _ _ e;have el1:=s1 _ _ el;have t31:=t3.same s1;have hn1:=hn.same s1;generalize upd H t (HO.tup [V.str "is",V.str "within"])=H1 at s1 e1 el1 t31 hn1 |-;push_cast;refine cF fun R hR=>?_;push_cast [el1];refine dU (·≠k) (fun τ=>∃o0,τ=[o0,some (.ref pa)]) hR el1 ll ⟨_,rfl⟩ ?_ ?_
       ·rintro i k' τ acc Pn hk ⟨o0,rfl⟩ h1 h2;push_cast [e1];by_cases c:k'=k
        ·subst c;rw[decide_eq_true (show((k':Nat):Int)=(k':Int) from rfl),FL,if_neg δ];exact h2 (by simp) _ ⟨_,rfl⟩
        rw[decide_eq_false (show ¬((k':Nat):Int)=(k:Int) by omega),FA,if_pos rfl];exact h1 (by simpa using c) _ ⟨_,rfl⟩
       intro d hd;have s2:=aB (o:=HO.lst (nv (left.filter (·≠k)))) hd;have e2:=s2 _ _ e1;have okd:=hn1.new hd;have t32:=t31.same s2;have ed:upd H1 d (HO.lst (nv (left.filter (·≠k)))) d=_:=aq;have hn2:=hn1.same s2;generalize upd H1 d (HO.lst (nv (left.filter (·≠k))))=H2 at s2 e2 t32 ed hn2 |-;push_cast [e2];refine⟨aU δ,fun t2 ht2=>⟨aU δ,fun r2 hr2=>?_⟩⟩;have s3:=aB (o:=HO.tup [V.ref d,x3]) ht2;have s4:=aB (o:=HO.lst [V.ref t2]) hr2;have s34:=s3.trans s4;refine q _ _ ((s1.trans s2).trans s34) (.lst (hn2.new (lg hr2).1) aq (by show 1<=1000000;decide) (.cons (.tup (hn2.new ht2) (s4 _ _ aq) (by show 2<=1000000;decide) (.cons (cD okd (s34 _ _ ed) (Be (BA _ _) ll)) (.cons (t32.same s34) .nil))) .nil))
  | wit k r=>
   cases tp with
   | tup o e z tt=>
    cases tt with
    | cons t1 tt=>
     cases t1;cases tt with
     | cons t2 tt=>
      cases t2;cases tt with
      | cons t3 tt=>
       cases tt;rename_i pa x3;push_cast [e,rdW];refine⟨aU δ,fun t ht=>?_⟩;have s1:=aB (o:=HO.tup [V.str "is",V.str "within"]) ht;refine⟨t,["is","within"],.str "within",ok,rfl,aq,.str _,?_⟩;rw[show([("is" : Str), "within"].any (dh (.str "within")))=true by decide +kernel];have e1:=s1 _ _ e;have el1:=s1 _ _ el;have t31:=t3.same s1;have hn1:=hn.same s1;generalize upd H t (HO.tup [V.str "is",V.str "within"])=H1 at s1 e1 el1 t31 hn1 |-;push_cast;refine cF fun R hR=>?_;push_cast [el1];refine dU (·≠k) (fun τ=>∃o0,τ=[o0,some (.ref pa)]) hR el1 ll ⟨_,rfl⟩ ?_ ?_
       ·rintro i k' τ acc Pn hk ⟨o0,rfl⟩ h1 h2;push_cast [e1];by_cases c:k'=k
        ·subst c;rw[decide_eq_true (show((k':Nat):Int)=(k':Int) from rfl),FL,if_neg δ];exact h2 (by simp) _ ⟨_,rfl⟩
        rw[decide_eq_false (show ¬((k':Nat):Int)=(k:Int) by omega),FA,if_pos rfl];exact h1 (by simpa using c) _ ⟨_,rfl⟩
       intro d hd;have s2:=aB (o:=HO.lst (nv (left.filter (·≠k)))) hd;have e2:=s2 _ _ e1;have okd:=hn1.new hd;have t32:=t31.same s2;have ed:upd H1 d (HO.lst (nv (left.filter (·≠k)))) d=_:=aq;have hn2:=hn1.same s2;generalize upd H1 d (HO.lst (nv (left.filter (·≠k))))=H2 at s2 e2 t32 ed hn2 |-;push_cast [e2];refine⟨aU δ,fun t2 ht2=>⟨aU δ,fun r2 hr2=>?_⟩⟩;have s3:=aB (o:=HO.tup [V.ref d,x3]) ht2;have s4:=aB (o:=HO.lst [V.ref t2]) hr2;have s34:=s3.trans s4;refine q _ _ ((s1.trans s2).trans s34) (.lst (hn2.new (lg hr2).1) aq (by show 1<=1000000;decide) (.cons (.tup (hn2.new ht2) (s4 _ _ aq) (by show 2<=1000000;decide) (.cons (cD okd (s34 _ _ ed) (Be (BA _ _) ll)) (.cons (t32.same s34) .nil))) .nil))
  | low k a b=>
   cases tp with
   | tup o e z tt=>
    cases tt with
    | cons t1 tt=>
     cases t1;cases tt with
     | cons t2 tt=>
      cases t2;cases tt with
      | cons t3 tt=>
       cases tt with
       | cons t4 tt=>
        cases tt;rename_i pa x3 x4;push_cast [e,rdW];refine cF fun R hR=>?_;push_cast [el];refine dU (· < k) (fun τ=>∃o0,τ=[o0,some (.ref pa)]) hR el ll ⟨_,rfl⟩ ?_ ?_
        ·rintro i k' τ acc Pn hk ⟨o0,rfl⟩ h1 h2;push_cast [e];by_cases c:k'<k
         ·rw[if_pos (show((k':Nat):Int)<(k:Int) by omega)];exact h1 (by simpa using c) _ ⟨_,rfl⟩
         rw[if_neg (show ¬((k':Nat):Int)<(k:Int) by omega)];exact h2 (by simpa using c) _ ⟨_,rfl⟩
        intro d hd;have s2:=aB (o:=HO.lst (nv (left.filter (· < k)))) hd;have e2:=s2 _ _ e;have okd:=hn.new hd;have t32:=t3.same s2;have t42:=t4.same s2;have el2:=s2 _ _ el;have ed:upd H d (HO.lst (nv (left.filter (· < k)))) d=_:=aq;have hn2:=hn.same s2;generalize upd H d (HO.lst (nv (left.filter (· < k))))=H2 at s2 e2 t32 t42 el2 ed hn2 |-;push_cast [e2];refine⟨aU δ,fun t5 ht5=>?_⟩;have s3:=aB (o:=HO.tup [V.ref d,x3]) ht5;have e3:=s3 _ _ e2;have el3:=s3 _ _ el2;have ed3:=s3 _ _ ed;have et5:upd H2 t5 (HO.tup [V.ref d,x3]) t5=_:=aq;have ok5:=hn2.new ht5;have hn3:=hn2.same s3;have t33:=t32.same s3;have t43:=t42.same s3;generalize upd H2 t5 (HO.tup [V.ref d,x3])=H3 at s3 e3 el3 ed3 et5 hn3 t33 t43 |-;push_cast [ed3,dN,el3];intro d6 hd6;rw[Nq lf.up];have s6:=aB (o:=HO.lst (nv (left.filter (k<=·)))) hd6;have e6:=s6 _ _ e3;have ed6:upd H3 d6 (HO.lst (nv (left.filter (k<=·)))) d6=_:=aq;have ok6:=hn3.new hd6;have hn6:=hn3.same s6;have ed36:=s6 _ _ ed3;have et56:=s6 _ _ et5;have t36:=t33.same s6;have t46:=t43.same s6;generalize upd H3 d6 (HO.lst (nv (left.filter (k<=·))))=H6 at s6 e6 ed6 hn6 ed36 et56 t36 t46 |-;push_cast [e6];refine⟨aU δ,fun t7 ht7=>⟨aU δ,fun r8 hr8=>?_⟩⟩;have s7:=aB (o:=HO.tup [V.ref d6,x4]) ht7;have s8:=aB (o:=HO.lst [V.ref t5,V.ref t7]) hr8;have s78:=s7.trans s8;refine q _ _ (((s2.trans s3).trans s6).trans s78) (.lst (hn6.new (lg hr8).1) aq (by show 2<=1000000;decide) (.cons (.tup ok5 (s78 _ _ et56) (by show 2<=1000000;decide) (.cons (cD okd (s78 _ _ ed36) (Be (BA _ _) ll)) (.cons (t36.same s78) .nil))) (.cons (.tup (hn6.new ht7) (s8 _ _ aq) (by show 2<=1000000;decide) (.cons (cD ok6 (s78 _ _ ed6) (Be (BA _ _) ll)) (.cons (t46.same s78) .nil))) .nil)))
  | msk l r=>
   cases tp with
   | tup o e z tt=>
    cases tt with
    | cons t1 tt=>
     cases t1;cases tt with
     | cons t2 tt=>
      cases t2;cases tt with
      | cons t3 tt=>
       cases tt;rename_i pa x3;push_cast [e,rdW];refine cF fun R hR=>?_;push_cast [el];refine dU (fun k=>(bW ss k).2.2≠l) (fun τ=>∃o0,τ=[o0,some (.ref pa),some (.ref sa)]) hR el ll ⟨_,rfl⟩ ?_ ?_
       ·rintro i k' τ acc Pn hk ⟨o0,rfl⟩ h1 h2;obtain⟨sk,x1,y1⟩:=tss.stN (lf.lt _ (A5 hk));push_cast [e,es,x1,y1];by_cases c:(bW ss k').2.2=l
        ·rw[decide_eq_true c,FL,if_neg δ];exact h2 (by simpa using c) _ ⟨_,rfl⟩
        rw[decide_eq_false c,FA,if_pos rfl];exact h1 (by simpa using c) _ ⟨_,rfl⟩
       intro d hd;have s2:=aB (o:=HO.lst (nv (left.filter fun k=>(bW ss k).2.2≠l))) hd;have e2:=s2 _ _ e;have okd:=hn.new hd;have t32:=t3.same s2;have ed:upd H d (HO.lst (nv (left.filter fun k=>(bW ss k).2.2≠l))) d=_:=aq;have hn2:=hn.same s2;generalize upd H d (HO.lst (nv (left.filter fun k=>(bW ss k).2.2≠l)))=H2 at s2 e2 t32 ed hn2 |-;push_cast [e2];refine⟨aU δ,fun t2 ht2=>⟨aU δ,fun r2 hr2=>?_⟩⟩;have s3:=aB (o:=HO.tup [V.ref d,x3]) ht2;have s4:=aB (o:=HO.lst [V.ref t2]) hr2;have s34:=s3.trans s4;refine q _ _ (s2.trans s34) (.lst (hn2.new (lg hr2).1) aq (by show 1<=1000000;decide) (.cons (.tup (hn2.new ht2) (s4 _ _ aq) (by show 2<=1000000;decide) (.cons (cD okd (s34 _ _ ed) (Be (BA _ _) ll)) (.cons (t32.same s34) .nil))) .nil))
noncomputable abbrev oU:List Str:=["stretches","left"]
noncomputable abbrev eU:Stmt:=top 6
theorem Bm:bA oU q3_ (aj eU):=⟨rfl,rfl,rfl,ψ,rfl,ψ,ψ⟩
theorem zm:NM_ oU eU 1 "left" := .of ψ
theorem mX:Bn "labels_left" := ⟨ψ,ψ⟩
theorem Wc (hB:∀x:Str,x∈BLs->mg x=none) (F:Fun K "labels_left" "labels_left" eU f fd):dm P w K mg base CX0 1 f fd q3_ Bj:=by
 refine F.okq Bm (fun vs H Q E h=>?_) (fun cdv A outer s H vs Q E hr h=>?_)
 ·obtain⟨s,l,ok,ss,left,rfl,_⟩:=h;rfl
 obtain⟨s,l,ok,ss,left,rfl,ts,tl,lf,q⟩:=h;refine⟨_,(aK (aQ (cH (NX:=oU) (kX:=(aj eU).names) ["k","stretches"] [none,some 0] rfl rfl ⟨rfl,ψ,ψ,ψ,ψ⟩ rfl (bN (ao zm)) (fun _ _ _ _ _=>(bL 0 (show BQ (["k","stretches"]:List Str) from by decide +kernel) rfl (C2 rfl))) (fun _ _ _ _ _=>gH) (fun _ _ _ _ _=>(aJ aV (aJ aV (bh 1) (bh 0) (fun _ _=>rfl)) au (fun _ _=>rfl)))))),?_⟩;obtain⟨la,rfl,_,el,hll⟩:=tl.left;replace el:H la=some (.lst (nv left)):=el;cases ts with
 | lst o es zs tss=>
  push_cast;refine cF fun R hR=>?_;push_cast [el];refine jB (lbl ss) (fun τ=>∃o0,τ=[o0,some (.ref _)]) hR el hll ⟨_,rfl⟩ ?_ ?_
  ·rintro i k τ acc Pn hk ⟨o0,rfl⟩ hN;obtain⟨p1,x1,y1⟩:=tss.stN (lf.lt _ (A5 hk));push_cast [es,x1,y1];exact hN _ ⟨_,rfl⟩
  intro d hd;exact q d hd
end
noncomputable abbrev Bb:List Str:=["thing"]
noncomputable abbrev fj:Stmt:=top 1
theorem Hi:bA Bb ["thing"] (aj fj):=⟨rfl,rfl,rfl,ψ,rfl,ψ,ψ⟩
theorem uK:NM_ Bb fj 0 "thing" := .of ψ
theorem yp:GI_ fj "bool" := by decide +kernel
theorem zB:GI_ fj "int" := by decide +kernel
theorem iY:GI_ fj "isinstance" := by decide +kernel
theorem Jm:Bn "is_number" := ⟨ψ,ψ⟩
noncomputable abbrev m9:List Str:=["stretches","left","label"]
noncomputable abbrev dM:Stmt:=top 7
theorem DY:bA m9 q12_ (aj dM):=⟨rfl,rfl,rfl,ψ,rfl,ψ,ψ⟩
theorem Cm:NM_ m9 dM 0 "stretches" := .of ψ
theorem rG:NM_ m9 dM 1 "left" := .of ψ
theorem Ck:NM_ m9 dM 2 "label" := .of ψ
theorem nM:GI_ dM "labels_left" := by decide +kernel
theorem yg:GI_ dM "len" := by decide +kernel
theorem Gs:Bn "parts_some" := ⟨ψ,ψ⟩
noncomputable abbrev pK:List Str:=["stretches","left","thing","word","which"]
noncomputable abbrev cV:Stmt:=top 8
theorem wB:bA pK q13_ (aj cV):=⟨rfl,rfl,rfl,ψ,rfl,ψ,ψ⟩
theorem jz:NM_ pK cV 0 "stretches" := .of ψ
theorem gO:NM_ pK cV 1 "left" := .of ψ
theorem fu:NM_ pK cV 2 "thing" := .of ψ
theorem iK:NM_ pK cV 3 "word" := .of ψ
theorem iJ:NM_ pK cV 4 "which" := .of ψ
theorem qG:GI_ cV "MOST_IN_MASK" := by decide +kernel
theorem pQ:GI_ cV "MOST_IN_TABLE" := by decide +kernel
theorem ur:GI_ cV "is_number" := by decide +kernel
theorem qF:GI_ cV "isinstance" := by decide +kernel
theorem qH:GI_ cV "labels_left" := by decide +kernel
theorem fO:GI_ cV "len" := by decide +kernel
theorem iB:GI_ cV "numbers_across" := by decide +kernel
theorem rZ:GI_ cV "parts_some" := by decide +kernel
theorem zx:GI_ cV "tuple" := by decide +kernel
theorem Te:Bn "is_step" := ⟨ψ,ψ⟩
theorem WT (left:List Nat):jQ (nv left) (some 1) none=nv (left.drop 1):=by
 unfold jQ;have e2:HT.sIx (nv left).length (nv left).length none=(nv left).length:=rfl;rw[e2];cases left with
 | nil=>rfl
 | cons a r=>
  have e1:HT.sIx (nv (a::r)).length 0 (some 1)=1:=by
   simp only[HT.sIx,dN,B6];split
   ·omega
   omega
  rw[e1];show(((nv (a::r)).drop 1).take _)=nv r;rw[Fc (by rw[EB];exact A1 _)];rfl
section
variable {P:AV}{w:A6}{K:AE}{mg:Str->Option An}{base:Heap}{f:Addr}{fd:CA}{bs:List Str}{ckMostInMask ckMostInTable:Tok}
theorem Rn (hB:∀x:Str,x∈BLs->mg x=none) (F:Fun K "is_number" "is_number" fj f fd):dm P w K mg base CX0 1 f fd ["thing"] Pk:=by
 refine F.okq Hi (fun vs H Q E h=>?_) (fun cdv A outer s H vs Q E hr h=>?_)
 ·obtain⟨v,ok,d,rfl,_⟩:=h;rfl
 obtain⟨v,ok,d,rfl,t,q⟩:=h;refine⟨_,(aK (aQ (wH (bY lX iY (hB "isinstance" gq) GL gA (ak (ao uK) (ak (El "int" zB (hB "int" xQ) boot_int yD) aA rfl) rfl) rfl rfl) (wF (Yg (bY lX iY (hB "isinstance" gq) GL gA (ak (ao uK) (ak (El "bool" yp (hB "bool" Kf) boot_bool KZ) aA rfl) rfl) rfl rfl)))))),?_⟩;cases t with
 | non=>push_cast;exact q
 | bl b=>push_cast;exact q
 | int i=>push_cast;exact q
 | str x=>push_cast;exact q
 | lst o e z t=>push_cast [e];exact q
 | tup o e z t=>push_cast [e];exact q
theorem Rk (hB:∀x:Str,x∈BLs->mg x=none) (CLabelsLeft:Cal P w K mg base "labels_left" 1 q3_ Bj) (F:Fun K "parts_some" "parts_some" dM f fd):dm P w K mg base CX0 2 f fd q12_ JH:=by
 refine F.okq DY (fun vs H Q E h=>?_) (fun cdv A outer s H vs Q E hr h=>?_)
 ·obtain⟨s,l,ok,ss,left,m,rfl,_⟩:=h;rfl
 obtain⟨s,l,ok,ss,left,m,rfl,ts,tl,lf,hl9,q⟩:=h;refine⟨_,(aK (aQ (Qt pX pX au (JW K hr.un1 (bx CLabelsLeft (hr.mono δ) nM mX (ak (ao Cm) (ak (ao rG) aA rfl) rfl) rfl rfl) (ao Ck)) (bY bK yg (hB "len" d7) BH d8 (ak (ao rG) aA rfl) rfl rfl)))),?_⟩;obtain⟨la,rfl,okl,el,ll⟩:=tl.left;replace el:H la=some (.lst (nv left)):=el;push_cast;refine⟨s,_,ok,ss,left,rfl,ts,tl,lf,fun a ha=>?_⟩;have s1:=aB (o:=HO.lst ((left.map (lbl ss)).map V.int)) ha;have e1:upd H a (HO.lst ((left.map (lbl ss)).map V.int)) a=_:=aq;generalize upd H a (HO.lst ((left.map (lbl ss)).map V.int))=H1 at s1 e1 |-;have el1:=s1 _ _ el;push_cast [el1];refine⟨⟨_,SqL.of e1⟩,_,SqL.of e1,_,.inl ⟨_,_,rfl,rfl,rfl⟩,?_⟩;have qq:=q _ s1;rw[dN];split
 ·rename_i c;rw[decide_eq_true (show 0<jb ss left m from by have:(0:Int)<((left.map (lbl ss)).count m:Nat):=c;unfold jb;omega),Kk] at qq;rw[show decide ((((left.map (lbl ss)).count m:Nat):Int)<(left.length:Int))=decide (jb ss left m<left.length) from decide_eq_decide.mpr Int.ofNat_lt];exact qq
 rename_i c;rw[decide_eq_false (show ¬0<jb ss left m from by have:¬(0:Int)<((left.map (lbl ss)).count m:Nat):=c;unfold jb;omega),FV] at qq;exact qq
theorem Mp (hB:∀x:Str,x∈BLs->mg x=none) (cgMostInMask:mg "MOST_IN_MASK" = some (.int 64 ckMostInMask)) (cgMostInTable:mg "MOST_IN_TABLE" = some (.int 200 ckMostInTable)) (CIsNumber:Cal P w K mg base "is_number" 1 ["thing"] Pk) (CNumbersAcross:Cal P w K mg base "numbers_across" 1 q3_ lu) (CLabelsLeft:Cal P w K mg base "labels_left" 1 q3_ Bj) (CPartsSome:Cal P w K mg base "parts_some" 2 q12_ JH) (F:Fun K "is_step" "is_step" cV f fd):dm P w K mg base CX0 3 f fd q13_ JG:=by
 refine F.okq wB (fun vs H Q E h=>?_) (fun cdv A outer s H vs Q E hr h=>?_)
 ·obtain⟨s,l,p,ok,ss,left,pl,rfl,_⟩:=h;rfl
 obtain⟨s,l,p,ok,ss,left,pl,rfl,ts,tl,tp,wf,lf,q⟩:=h;refine⟨_,(aD (cT (BK (zY (tE (qi (bY lX qF (hB "isinstance" gq) GL gA (ak (ao fu) (ak (El "tuple" zx (hB "tuple" rM) boot_tuple sy) aA rfl) rfl) rfl rfl) (fun _=>rfl))) (wD (tE (Hs (ao fu)))))) (aK (aQ jG)) bT)
  (aD (bM iK wB.nd (aJ aV (ao fu) au (fun _ _=>rfl)) rfl (.inl rfl))
  (aD (cT (bw (cB hr.bJ) (ao iK) bI (aO _)) (aK (aQ (wH (gG (cB hr.bJ) (bY bK fO (hB "len" d7) BH d8 (ak (ao fu) aA rfl) rfl rfl) au (aO _)) (wF (gG Aa (bx CNumbersAcross (hr.mono δ) iB gD (ak (ao jz) (ak (ao gO) aA rfl) rfl) rfl rfl) (qW (v:=V.int 200) pQ cgMostInTable ⟨_,rfl⟩ qb) (aO _)))))) bT)
  (aD (cT (BK (zY (bw pX (bY bK fO (hB "len" d7) BH d8 (ak (ao fu) aA rfl) rfl rfl) au (aO _)) (wD (tE (qi (bx CIsNumber (hr.mono δ) ur Jm (ak (aJ aV (ao fu) au (fun _ _=>rfl)) aA rfl) rfl rfl) (fun _=>rfl)))))) (aK (aQ jG)) bT)
  (aD (bM iJ wB.nd (aJ aV (ao fu) au (fun _ _=>rfl)) rfl (.inl rfl))
  (aD (cT (bw (cB hr.bJ) (ao iK) bI (aO _)) (aK (aQ (wH (gG (cB hr.bJ) (bY bK fO (hB "len" d7) BH d8 (ak (ao fu) aA rfl) rfl rfl) au (aO _)) (wF (gG (cB hr.bJ) (JW K hr.un1 (bx CLabelsLeft (hr.mono δ) qH mX (ak (ao jz) (ak (ao gO) aA rfl) rfl) rfl rfl) (ao iJ)) (bY bK fO (hB "len" d7) BH d8 (ak (ao gO) aA rfl) rfl rfl) (aO _)))))) bT)
  (aD (cT (bw (cB hr.bJ) (ao iK) bI (aO _)) (aK (aQ (wH (gG (cB hr.bJ) (bY bK fO (hB "len" d7) BH d8 (ak (ao fu) aA rfl) rfl rfl) au (aO _)) (wF (gG YS (ao iJ) (qU Ug (ao gO) (vB au) vC) (by with_unfolding_all rfl)))))) bT)
  (aD (cT (bw (kj hr.bJ) (bY bK fO (hB "len" d7) BH d8 (ak (ao fu) aA rfl) rfl rfl) au (aO _)) (aK (aQ jG)) bT)
  (aD (cT (bw (cB hr.bJ) (ao iK) bI (aO _)) (aK (aQ (wH (bx CPartsSome (hr.mono δ) rZ Gs (ak (ao jz) (ak (ao gO) (ak (ao iJ) aA rfl) rfl) rfl) rfl rfl) (wF (gG Aa (bx CNumbersAcross (hr.mono δ) iB gD (ak (ao jz) (ak (ao gO) aA rfl) rfl) rfl rfl) (qW (v:=V.int 64) qG cgMostInMask ⟨_,rfl⟩ sG) (aO _)))))) bT)
  (aD (cT (BK (zY (bw Mg (ao iJ) (ao gO) (by with_unfolding_all rfl)) (wD (bw (cB hr.bJ) (bY bK fO (hB "len" d7) BH d8 (ak (ao gO) aA rfl) rfl rfl) au (aO _))))) (aK (aQ jG)) bT)
  (aD (cT (bw (cB hr.bJ) (ao iK) bI (aO _)) (aK (aQ (gG (cB hr.bJ) (aJ aV (aJ aV (ao jz) (ao iJ) (fun _ _=>rfl)) au (fun _ _=>rfl)) (aJ aV (aJ aV (ao jz) (ao iJ) (fun _ _=>rfl)) au (fun _ _=>rfl)) (aO _)))) bT)
  (aK (aQ (gG (cB hr.bJ) (ao iK) bI (aO _))))))))))))))),?_⟩
 obtain⟨la,rfl,okl,el,ll⟩:=tl.left;replace el:H la=some (.lst (nv left)):=el;rw[Iu wf] at q;generalize pgD pl=d at tp q;refine aN fun k hk=>?_;refine gQ fun kt ke hkt hke=>?_;have kf:stepT ss left d=false->kt [some s,some (.ref la),some p,none,none] H:=fun e=>by
  subst hkt;push_cast;rw[e] at q;exact q _ (Same.refl _)
 cases tp with
 | non=>push_cast;exact kf rfl
 | bl b=>push_cast;exact kf rfl
 | int i=>push_cast;exact kf rfl
 | str x=>push_cast;exact kf rfl
 | lst o e z t=>push_cast [e];exact kf rfl
 | tup o e z tt=>
  cases tt with
  | nil=>push_cast [e];exact kf rfl
  | cons t0 tt=>
   rename_i pa x0 d0 xs ds;clear kf hkt;have hlen:=tt.length;replace q:∀H',Same H H'->Q (.bl (iV ss left d0 ds)) H':=q;unfold iV at q;push_cast [e];rw[if_neg (by simp)];subst hke;push_cast;subst hk;refine aN fun k hk=>?_;push_cast [e];subst hk;refine aN fun k hk=>?_;refine gQ fun kt ke hkt hke=>?_;push_cast;refine lV t0 ⟨_,rfl,?_⟩;cases h1:dh d0 "table" with
   | true=>
    rw[if_pos rfl];simp only[h1,↓reduceIte] at q;subst hkt;push_cast [e];cases tt with
    | nil=>
     rw[if_pos δ];exact⟨s,_,ok,ss,left,rfl,ts,tl,lf,_,rfl,q _ (Same.refl _)⟩
    | cons _ tt=>
     rw[if_neg (by simp only[B6];omega)];exact q _ (Same.refl _)
   | false=>
    simp only[h1,FI,↓reduceIte] at q;rw[if_neg δ];subst hke;push_cast;subst hk;refine aN fun k hk=>?_;refine gQ fun kt ke hkt hke=>?_;push_cast [e];have kf:(∀H',Same H H'->Q (.bl false) H')->kt [some s,some (.ref la),some (.ref pa),some x0,none] H:=fun q=>by
     subst hkt;push_cast;exact q _ (Same.refl _)
    cases tt with
    | nil=>
     rw[if_pos δ];exact kf q
    | cons t1 tt=>
     rename_i x1 d1 xs ds;replace hlen:=tt.length;rw[if_neg (by simp only[B6];omega),show atI (x0::x1::xs) 1=some x1 from Tp _ _ _];refine⟨x1,rfl,x1,ok,d1,rfl,t1,_,rfl,?_⟩;cases hn:Io d1 with
     | false=>
      rw[if_pos (show(!false)=true from rfl)];refine kf ?_;cases d1 with
      | int i=>cases hn
      | _=>exact q
     | true=>
      obtain⟨i,rfl⟩:∃i,d1=.int i:=by cases d1 <;> simp [Io] at hn;exact⟨_,rfl⟩
      cases t1;rw[if_neg δ];clear kf hkt;subst hke;push_cast;subst hk;have a1:atI (x0::V.int i::xs) 1=some (V.int i):=Tp _ _ _;refine aN fun k hk=>?_;push_cast [e,a1];subst hk;dsimp only at q;refine aN fun k hk=>?_;refine gQ fun kt ke hkt hke=>?_;push_cast;refine lV t0 ⟨_,rfl,?_⟩;cases h2:dh d0 "pick" with
      | true=>
       rw[if_pos rfl];simp only[h2,↓reduceIte] at q;subst hkt;push_cast [e];cases tt with
       | nil=>
        rw[if_pos δ];refine⟨s,_,ok,ss,left,rfl,ts,tl,lf,fun a ha=>?_⟩;have s1:=aB (o:=HO.lst ((left.map (lbl ss)).map V.int)) ha;have e1:upd H a (HO.lst ((left.map (lbl ss)).map V.int)) a=_:=aq;generalize upd H a (HO.lst ((left.map (lbl ss)).map V.int))=H1 at s1 e1 |-;have el1:=s1 _ _ el;push_cast [el1];refine⟨⟨_,SqL.of e1⟩,_,SqL.of e1,_,.inl ⟨_,_,rfl,rfl,rfl⟩,?_⟩;rw[dN,show decide ((((left.map (lbl ss)).count i:Nat):Int)=(left.length:Int))=decide (jb ss left i=left.length) from decide_eq_decide.mpr Int.ofNat_inj];exact q _ s1
       | cons _ tt=>
        rw[if_neg (by simp only[B6];omega)];exact q _ (Same.refl _)
      | false=>
       simp only[h2,FI,↓reduceIte] at q;rw[if_neg δ];subst hke;push_cast;subst hk;refine aN fun k hk=>?_;refine gQ fun kt ke hkt hke=>?_;push_cast;refine lV t0 ⟨_,rfl,?_⟩;cases h3:dh d0 "below" with
       | true=>
        rw[if_pos rfl];simp only[h3,↓reduceIte] at q;subst hkt;push_cast [e,el];by_cases c4:ds.length=2
        ·rw[if_pos ω];intro p1 hp1;rw[WT];refine⟨rfl,J2 _,?_⟩;rw[decide_eq_true c4,Kk] at q;exact q _ (aB hp1)
        rw[if_neg ω];rw[decide_eq_false c4,FV] at q;exact q _ (Same.refl _)
       | false=>
        simp only[h3,FI,↓reduceIte] at q;rw[if_neg δ];subst hke;push_cast;subst hk;refine aN fun k hk=>?_;refine gQ fun kt ke hkt hke=>?_;push_cast [e];by_cases c3:ds.length=1
        ·rw[decide_eq_true (show((xs.length+1+1:Nat):Int)=3 by omega),if_neg δ];rw[if_neg (show ¬ds.length≠1 from fun z=>z c3)] at q;subst hke;push_cast;subst hk;refine aN fun k hk=>?_;refine gQ fun kt ke hkt hke=>?_;push_cast;refine lV t0 ⟨_,rfl,?_⟩;cases h4:dh d0 "mask" with
         | true=>
          rw[if_pos rfl];simp only[h4,↓reduceIte] at q;subst hkt;push_cast;refine⟨s,_,ok,ss,left,i,rfl,ts,tl,lf,ll,fun H1 s1=>⟨_,rfl,?_⟩⟩;cases hc:(decide (0<jb ss left i)&&decide (jb ss left i<left.length)) with
          | true=>
           rw[hc,Kk] at q;rw[if_pos rfl];exact⟨s,_,ok,ss,left,rfl,ts.same s1,tl.same s1,lf,_,rfl,q _ s1⟩
          | false=>
           rw[hc,FV] at q;rw[if_neg δ];exact q _ s1
         | false=>
          simp only[h4,FI,↓reduceIte] at q;rw[if_neg δ];subst hke;push_cast;subst hk;refine aN fun k hk=>?_;refine gQ fun kt ke hkt hke=>?_;push_cast [el];refine⟨rfl,J2 _,?_⟩;have kf:(∀H',Same H H'->Q (.bl false) H')->kt [some s,some (.ref la),some (.ref pa),some x0,some (.int i)] H:=fun q=>by
           subst hkt;push_cast;exact q _ (Same.refl _)
          rw[dN];cases hc:inV (V.int i) (nv left) with
          | false=>
           rw[if_pos (show(!false)=true from rfl)];rw[if_pos (.inl hc)] at q;exact kf q
          | true=>
           rw[if_neg δ];by_cases h1l:left.length=1
           ·rw[if_pos ω];rw[if_pos (.inr h1l)] at q;exact kf q
           rw[if_neg ω];rw[if_neg (show ¬(inV (V.int i) (nv left)=false\/left.length=1) from fun z=>z.elim (fun z=>by rw[hc] at z;cases z) h1l)] at q;clear kf hkt;subst hke;push_cast;subst hk;refine aN fun k hk=>?_;refine gQ fun kt ke hkt hke=>?_;push_cast;refine lV t0 ⟨_,rfl,?_⟩;cases h5:dh d0 "is" with
           | true=>
            rw[if_pos rfl];simp only[h5,↓reduceIte] at q;subst hkt;obtain⟨k9,rfl⟩:∃k9:Nat,i=(k9:Int):=by
             rcases lt_or_le i 0 with z|z
             ·rw[vL z] at hc;cases hc
             exact EM z
            rw[Cv] at hc;rw[B3] at q;cases ts with
            | lst os es zs tss=>
             obtain⟨p1,x1,y1⟩:=tss.stN (lf.lt _ (EK.mp hc));push_cast [es,x1,y1];exact q _ (Same.refl _)
           | false=>
            simp only[h5,FI,↓reduceIte] at q;rw[if_neg δ];subst hke;push_cast;subst hk;push_cast;exact lV t0 (q _ (Same.refl _))
        rw[decide_eq_false (show ¬((xs.length+1+1:Nat):Int)=3 by omega),if_pos δ];rw[if_pos (show ds.length≠1 from c3)] at q;subst hkt;push_cast;exact q _ (Same.refl _)
end
noncomputable abbrev pN:List Str:=["stretches","thing","waiting","left","part"]
noncomputable abbrev d9:Stmt:=top 10
theorem qN:bA pN ["stretches","thing"] (aj d9):=⟨rfl,rfl,rfl,ψ,rfl,ψ,ψ⟩
theorem tY:NM_ pN d9 0 "stretches" := .of ψ
theorem Mu:NM_ pN d9 1 "thing" := .of ψ
theorem pD:NM_ pN d9 2 "waiting" := .of ψ
theorem tX:NM_ pN d9 3 "left" := .of ψ
theorem tU:NM_ pN d9 4 "part" := .of ψ
theorem yo:GI_ d9 "is_step" := by decide +kernel
theorem FP:GI_ d9 "len" := by decide +kernel
theorem CW:GI_ d9 "list" := by decide +kernel
theorem vm:GI_ d9 "plans_in" := by decide +kernel
theorem zA:GI_ d9 "range" := by decide +kernel
theorem Tf:Bn "is_plan" := ⟨ψ,ψ⟩
theorem aaA {ok OD:Addr->Prop}{H H':Hp}{lw:Addr}{xs:List V}(hn:cW ok H)(hOD:OD=fun x=>ok x/\x≠lw)(s:Same H H')(e:H' lw=some (.lst xs)):cW OD H':=by
 rw[hOD];exact fun H2 p s2 hp=>⟨hn H2 p (s.trans s2) hp,(aF (s2 _ _ e) hp).symm⟩
theorem Zh {ss:Sts}(h:0<ss.length):Lf ss (BB ss.length):=by
 refine⟨fun z=>?_,fun k hk=>by simpa using hk,Hn⟩;have e:(BB ss.length).length=0:=by rw[z];rfl
 rw[EG] at e;omega
section
variable {P:AV}{w:A6}{K:AE}{mg:Str->Option An}{base:Heap}{f:Addr}{fd:CA}{bs:List Str}
theorem Mq (hB:∀x:Str,x∈BLs->mg x=none) (CIsStep:Cal P w K mg base "is_step" 3 q13_ JG) (CPlansIn:Cal P w K mg base "plans_in" 1 q15_ JL) (F:Fun K "is_plan" "is_plan" d9 f fd):dm P w K mg base CX0 4 f fd ["stretches","thing"] zR:=by
 refine F.okq qN (fun vs H Q E h=>?_) (fun cdv A outer s H vs Q E hr h=>?_)
 ·obtain⟨s,p,ok,ss,pl,rfl,_⟩:=h;rfl
 obtain⟨s,p,ok,ss,pl,rfl,hn,ts,tp,wf,h0,h60,hsz,q⟩:=h;refine⟨_,(aD (bM pD qN.nd (bO (ak (b8 (ak (Ek rfl CW (hB "list" Cq) zA (hB "range" fM) (ak (bY bK FP (hB "len" d7) BH d8 (ak (ao tY) aA rfl) rfl rfl) aA rfl)) (ak (ao Mu) aA rfl) rfl)) aA rfl)) rfl (.inl rfl))
  (aD (Qp Cb (Hs (ao pD)) (aD (qj (U0 (ao pD)) (ou (n:=2) rfl (cI (fC tX qN.nd (.inl rfl)) (cI (fC tU qN.nd (.inl rfl)) j7 rfl) rfl) rfl rfl) rfl rfl rfl)
  (aD (cT (tE (qi (bx CIsStep (hr.mono δ) yo Te (ak (ao tY) (ak (ao tX) (ak (ao tU) aA rfl) rfl) rfl) rfl rfl) (fun _=>rfl))) (aK (aQ jG)) bT)
  (aK (dg (JV (ao pD) (bx CPlansIn (hr.mono δ) vm NZ (ak (ao tY) (ak (ao tX) (ak (ao tU) aA rfl) rfl) rfl) rfl rfl) rfl rfl rfl rfl rfl) rfl)))))
  (aK (aQ jG)))),?_⟩
 refine aN fun k hk=>?_;have ts0:=ts;cases ts with
 | lst os es zs tss=>
  rename_i sa sxs;have hsl:=tss.length;rw[AF] at hsl;push_cast [es];refine⟨⟨ω,ω⟩,aU ω,fun la hla=>⟨aU δ,fun ta hta=>⟨aU δ,fun lw hlw=>?_⟩⟩⟩;rw[show Bu 0 ((sxs.length:Int)-0).toNat=nv (BB ss.length) by
   unfold Bu nv;rw[show((sxs.length:Int)-0).toNat=ss.length by omega];refine G1 fun k _=>?_;rw[zero_add]] at hta hlw |-
  have u1:=aB (o:=HO.lst (nv (BB ss.length))) hla;have u2:=aB (o:=HO.tup [V.ref la,p]) hta;have u3:=aB (o:=HO.lst [V.ref ta]) hlw;have f1:=(u2.trans u3) _ _ (show upd H la (HO.lst (nv (BB ss.length))) la=_ from aq);have f2:=u3 _ _ (show upd (upd H la (HO.lst (nv (BB ss.length)))) ta (HO.tup [V.ref la,p]) ta=_ from aq);have f3:upd (upd (upd H la (HO.lst (nv (BB ss.length)))) ta (HO.tup [V.ref la,p])) lw (HO.lst [V.ref ta]) lw=_:=aq;have u:=(u1.trans u2).trans u3;have Hta:H ta=none:=u1.none hta;have Hlw:H lw=none:=(u1.trans u2).none hlw;have nlaw:la≠lw:=aF (u2 _ _ (show upd H la (HO.lst (nv (BB ss.length))) la=_ from aq)) hlw;have ntaw:ta≠lw:=aF (show upd (upd H la (HO.lst (nv (BB ss.length)))) ta (HO.tup [V.ref la,p]) ta=_ from aq) hlw;generalize upd (upd (upd H la (HO.lst (nv (BB ss.length)))) ta (HO.tup [V.ref la,p])) lw (HO.lst [V.ref ta])=H1 at u3 f1 f2 f3 u |-;obtain⟨OD,hOD⟩:∃OD:Addr->Prop,OD=fun x=>ok x/\x≠lw:=⟨_,rfl⟩;have up:∀a o,ok a->H a=some o->OD a/\H1 a=some o:=fun a o h e=>by
   rw[hOD];exact⟨⟨h,aF e Hlw⟩,u _ _ e⟩
  have tsO:aH OD H1 (.ref sa) (.list (ss.map stD)):=ts0.keep up;have tpO:aH OD H1 p (pgD pl):=tp.keep up;have okla:OD la:=by rw[hOD];exact⟨hn.new hla,nlaw⟩
  have okta:OD ta:=by rw[hOD];exact⟨hn.new Hta,ntaw⟩
  have tw:aG OD H1 [V.ref ta] ([(BB ss.length,pl)].map gwD):=.cons (.tup okta f2 (by show 2<=1000000;decide) (.cons (cD okla f1 (by rw[EG];omega)) (.cons tpO .nil))) .nil;subst hk;refine aN fun k hk=>?_;obtain⟨Pv,hPv⟩:∃Pv:Nat->L2.St->Hp->Prop,Pv=fun m σ H'=>∃(W:List (List Nat×Pg)) (xs:List V) (o4 o5:Option V),m=gR W/\Same H H'/\H' lw=some (.lst xs)/\aG OD H' xs (W.map gwD)/\(∀x∈W,Lf ss x.1/\WfG x.2) /\
   okG ss pl (BB ss.length)=(W.all fun x=>okG ss x.2 x.1)/\gR W<=4000/\aH OD H' (.ref sa) (.list (ss.map stD))/\σ=[some (.ref sa),some p,some (.ref lw),o4,o5]:=⟨_,rfl⟩
  refine⟨Pv,⟨gR [(BB ss.length,pl)],?_⟩,?_⟩
  ·rw[hPv];refine⟨[(BB ss.length,pl)],_,_,_,rfl,u,f3,tw,?_,?_,?_,tsO,rfl⟩
   ·intro x hx;rw[AM.mp hx];exact⟨Zh h0,wf⟩
   ·simp
   simp [gR];exact hsz
  intro m σ H2 pv;rw[hPv] at pv;obtain⟨W,xs,o4,o5,rfl,s2,elw,tW,okW,hall,hlen,tsO2,rfl⟩:=pv;have hxl:=tW.length;rw[AF] at hxl;push_cast [elw];cases hx:xs.isEmpty with
  | true=>
   have hW:W=[]:=Ha.mp (by rw[List.isEmpty_iff_length_eq_zero] at hx;omega);subst hW;push_cast;subst hk;push_cast;rw[hall] at q;exact q _ s2
  | false=>
   have hWp:0<W.length:=by
    rw[<- hxl];cases xs with
    | nil=>cases hx
    | cons a b=>simp
   obtain⟨W0,⟨left,p1⟩,rfl⟩:=pF W hWp;push_cast;refine⟨fun σ' H'=>∃m',m'<gR (W0++[(left,p1)])/\Pv m' σ' H',fun σ' H' h=>h,?_⟩;rw[A9] at tW;obtain⟨tW0,y,hy,ty⟩:=aG.dropLast tW;refine⟨y,hy,?_⟩;obtain⟨lf1,wf1⟩:=okW (left,p1) (by simp);have kk:∀(H':Hp)(o':HO) a o,OD a->H' a=some o->OD a/\upd H' lw o' a=some o:=fun H' o' a o h e=>by
    refine⟨h,?_⟩;rw[hOD] at h;rw[aM h.2];exact e
   have s3:Same H (upd H2 lw (HO.lst xs.dropLast)):=dH s2 Hlw;have ty3:=ty.keep (kk H2 (HO.lst xs.dropLast));have tW3:=tW0.keep (kk H2 (HO.lst xs.dropLast));have tsO3:=tsO2.keep (kk H2 (HO.lst xs.dropLast));have elw3:upd H2 lw (HO.lst xs.dropLast) lw=_:=aq;generalize upd H2 lw (HO.lst xs.dropLast)=H3 at s3 ty3 tW3 tsO3 elw3 |-;cases ty3 with
   | tup oy ey zy tty=>
    cases tty with
    | cons tl tty=>
     cases tty with
     | cons tpl tty=>
      cases tty;rename_i ya xl xp;push_cast [ey,DG,Kw];refine⟨_,_,_,OD,ss,left,p1,rfl,tsO3,tl,tpl,wf1,lf1,fun H4 s4=>?_⟩;cases hst:iy ss left p1 with
      | false=>
       push_cast;have hf:okG ss pl (BB ss.length)=false:=by
        rw[hall,all_append];simp only[all_cons,all_nil,Bool.and_true];rw[Er,hst,FV,FY]
       rw[hf] at q;exact q _ (s3.trans s4)
      | true=>
       have elw4:=s4 _ _ elw3;have tW4:=tW3.same s4;have hn4:cW OD H4:=aaA hn hOD (s3.trans s4) elw4;push_cast [elw4,Cu];refine⟨_,_,_,OD,ss,left,p1,rfl,hn4,tsO3.same s4,tl.same s4,tpl.same s4,hst,lf1,fun v H6 s6 t6=>?_⟩;cases t6 with
       | lst or er zr tr=>
        rename_i r zs;have elw6:=s6 _ _ elw4;push_cast [Ga,elw6,er,SJ];have hzl:=tr.length;rw[AF] at hzl;have hk2:(iz ss p1 left).length<=2:=by cases p1 <;> simp [iz]
        have hW0:=tW4.length;rw[AF] at hW0;have hWs:W0.length<=gR W0:=Sd W0;rw[pH] at hlen;refine⟨aU ω,gR (W0++iz ss p1 left),?_,?_⟩
        ·rw[pH,pH];have:=Ak ss p1 left;simp only[gR,D2,JI,sum_cons,List.sum_nil] at this |-;omega
        rw[hPv];refine⟨W0++iz ss p1 left,_,_,_,rfl,dH ((s3.trans s4).trans s6) Hlw,aq,?_,?_,?_,?_,((tsO3.same s4).same s6).keep (kk H6 _),rfl⟩
        ·rw[A9];exact((tW4.same s6).keep (kk H6 _)).append (tr.keep (kk H6 _))
        ·intro x hx;rcases CF.mp hx with z|z
         ·exact okW x (GG _ z)
         exact⟨Ir lf1 hst x z,wf1.kids x z⟩
        ·rw[hall,all_append,all_append];simp only[all_cons,all_nil,Bool.and_true];rw[Er ss p1 left,hst,Kk]
        rw[pH];have:=Ak ss p1 left;have h4:gR [(left,p1)]=jj p1:=by simp [gR]
        omega
end
noncomputable abbrev dY:List Str:=["stretches","left","across","labels","ways","label"]
noncomputable abbrev aZ:Stmt:=top 19
theorem fZ:bA dY q3_ (aj aZ):=⟨rfl,rfl,rfl,ψ,rfl,ψ,ψ⟩
theorem oJ:NM_ dY aZ 0 "stretches" := .of ψ
theorem jM:NM_ dY aZ 1 "left" := .of ψ
theorem jL:NM_ dY aZ 2 "across" := .of ψ
theorem fL:NM_ dY aZ 3 "labels" := .of ψ
theorem fK:NM_ dY aZ 4 "ways" := .of ψ
theorem oH:NM_ dY aZ 5 "label" := .of ψ
theorem lN:GI_ aZ "MOST_IN_MASK" := by decide +kernel
theorem kY:GI_ aZ "MOST_IN_TABLE" := by decide +kernel
theorem lO:GI_ aZ "labels_left" := by decide +kernel
theorem lM:GI_ aZ "len" := by decide +kernel
theorem jO:GI_ aZ "numbers_across" := by decide +kernel
theorem um:GI_ aZ "set" := by decide +kernel
theorem qx:GI_ aZ "set_of" := by decide +kernel
theorem pO:GI_ aZ "sorted" := by decide +kernel
theorem zG:Bn "ways_by_label" := ⟨ψ,ψ⟩
noncomputable def Z5:Sp:=fun vs H Q _=>∃(s:V)(la:Addr)(ok:Addr->Prop)(ss:Sts)(left:List Nat),vs=[s,.ref la]/\cW ok H/\aH ok H s (.list (ss.map stD))/\ok la/\H la=some (.lst (nv left))/\Lf ss left/\ss.length<=60/\left.length<=60 /\
 ∀(r:Addr)(xs:List V)(L:List Int) H',Same H H'->H r=none->H' r=some (.lst xs)->oV ss left L->aG (fun a=>ok a/\a≠r) H' xs ((GJ ss left L).map (wyD ss left))->xs.length<=70->Q (.ref r) H'
section
variable {P:AV}{w:A6}{K:AE}{mg:Str->Option An}{base:Heap}{f:Addr}{fd:CA}{bs:List Str}{ckMostInMask ckMostInTable:Tok}
theorem Rg (hB:∀x:Str,x∈BLs->mg x=none) (cgMostInMask:mg "MOST_IN_MASK" = some (.int 64 ckMostInMask)) (cgMostInTable:mg "MOST_IN_TABLE" = some (.int 200 ckMostInTable)) (CNumbersAcross:Cal P w K mg base "numbers_across" 1 q3_ lu) (CLabelsLeft:Cal P w K mg base "labels_left" 1 q3_ Bj) (CSetOf:Cal P w K mg base "set_of" 1 ["left"] qL) (F:Fun K "ways_by_label" "ways_by_label" aZ f fd):dm P w K mg base CX0 2 f fd q3_ Z5:=by
 refine F.okq fZ (fun vs H Q E h=>?_) (fun cdv A outer s H vs Q E hr h=>?_)
 ·obtain⟨s,la,ok,ss,left,rfl,_⟩:=h;rfl
 obtain⟨s,la,ok,ss,left,rfl,hnw,ts,okl,el,lf,h60,ll,q⟩:=h;refine⟨_,(aD (bM jL fZ.nd (bx CNumbersAcross (hr.mono δ) jO gD (ak (ao oJ) (ak (ao jM) aA rfl) rfl) rfl rfl) rfl (.inl rfl))
  (aD (bM fL fZ.nd (JT rfl pO (hB "sorted" Ad) um (hB "set" RM) (ak (bx CLabelsLeft (hr.mono δ) lO mX (ak (ao oJ) (ak (ao jM) aA rfl) rfl) rfl rfl) aA rfl)) rfl (.inl rfl))
  (aD (bM fK fZ.nd (bO aA) rfl (.inl rfl))
  (aD (cT (bw (cB hr.bJ) (bY bK lM (hB "len" d7) BH d8 (ak (ao fL) aA rfl) rfl rfl) au (aO _)) (aK (dg (eX (ao fK) (b8 (ak (b8 (ak bI (ak (aJ aV (ao fL) au (fun _ _=>rfl)) aA rfl) rfl)) (ak (bO aA) aA rfl) rfl)) rfl rfl rfl rfl rfl) rfl)) bT)
  (aD (cT (bw Aa (ao jL) (qW (v:=V.int 200) kY cgMostInTable ⟨_,rfl⟩ qb) (aO _)) (aK (dg (eX (ao fK) (b8 (ak (b8 (ak bI aA rfl)) (ak (bO aA) aA rfl) rfl)) rfl rfl rfl rfl rfl) rfl)) bT)
  (aD (cT (BK (BJ (bw Aa (ao jL) (qW (v:=V.int 64) lN cgMostInMask ⟨_,rfl⟩ sG) (aO _)) (vA (bw Ep (bY bK lM (hB "len" d7) BH d8 (ak (ao fL) aA rfl) rfl rfl) au (aO _))))) (aK (iC Cb rfl (bN (ao fL)) (fC oH fZ.nd (.inl rfl))
  (aK (dg (eX (ao fK) (b8 (ak (b8 (ak bI (ak (ao oH) aA rfl) rfl)) (ak (bO (ak (bx CSetOf (hr.mono δ) qx K3 (ak (cH (NX:=dY) (kX:=(aj aZ).names) ["k","label","stretches"] [none,some 5,some 0] rfl rfl ⟨rfl,ψ,ψ,ψ,ψ⟩ rfl (bN (ao jM)) (fun _ _ _ _ _=>(bL 0 (show BQ (["k","label","stretches"]:List Str) from by decide +kernel) rfl (C2 rfl))) (fun _ _ _ _ _=>(jh (bw (kj hr.bJ) (aJ aV (aJ aV (bh 2) (bh 0) (fun _ _=>rfl)) au (fun _ _=>rfl)) (bh 1) (aO _)))) (fun _ _ _ _ _=>(bh 0))) aA rfl) rfl rfl) aA rfl)) aA rfl) rfl)) rfl rfl rfl rfl rfl) rfl)) (fun _=>rfl))) bT)
  (aK (aQ (ao fK))))))))),?_⟩
 have tl:aH ok H (.ref la) (lJ left):=cD okl el ω;refine aN fun k hk=>?_;push_cast;refine⟨s,_,ok,ss,left,rfl,ts,tl,lf,?_⟩;push_cast;subst hk;refine aN fun k hk=>?_;push_cast [tSS];refine⟨s,_,ok,ss,left,rfl,ts,tl,lf,fun a ha=>?_⟩;have s1:=aB (o:=HO.lst ((left.map (lbl ss)).map V.int)) ha;have e1:upd H a (HO.lst ((left.map (lbl ss)).map V.int)) a=some (HO.lst ((left.map (lbl ss)).map V.int)):=aq;generalize upd H a (HO.lst ((left.map (lbl ss)).map V.int))=H1 at s1 e1 |-;refine⟨a,rfl,left.map (lbl ss),SqL.of e1,by rw[AF];omega,fun p L hp perm _=>?_⟩;have hLl:L.length<=60:=by
  have h1:=perm.length_eq;have h2:=SRT.vN (left.map (lbl ss));rw[AF] at h2;omega
 have hL:oV ss left L:=⟨perm.nodup_iff.mpr (SRT.uw _),fun l=>by
  rw[perm.mem_iff,SRT.KD,DT]⟩
 have s2:=s1.trans (aB (o:=HO.lst (L.map V.int)) hp);have ep2:upd H1 p (HO.lst (L.map V.int)) p=some (HO.lst (L.map V.int)):=aq;generalize upd H1 p (HO.lst (L.map V.int))=H2 at s2 ep2 |-;show k _ _;subst hk;refine aN fun k hk=>?_;push_cast;refine⟨aU δ,fun r hr0=>?_⟩;have hrn:H r=none:=s2.none hr0;have hpr:p≠r:=aF ep2 hr0;have s3:=s2.trans (aB (o:=HO.lst []) hr0);have ep3:=aB (o:=HO.lst []) hr0 _ _ ep2;have er3:upd H2 r (HO.lst []) r=some (HO.lst []):=aq;generalize upd H2 r (HO.lst [])=H3 at s3 ep3 er3 |-;subst hk;obtain⟨ok2,hok2⟩:∃ok2:Addr->Prop,ok2=fun a=>ok a/\a≠r:=⟨_,rfl⟩;have ok2r:∀a,ok2 a->a≠r:=fun a h=>by rw[hok2] at h;exact h.2
 have nwk:∀{H':Hp}{xs:List V},Same H H'->H' r=some (.lst xs)->cW ok2 H':=fun {H' xs} sH er H3 q s' hq=>by
  rw[hok2];exact⟨hnw H3 q (sH.trans s') hq,(aF (s' _ _ er) hq).symm⟩
 obtain⟨So,hSo⟩:∃So:List Wy->Hp->Prop,So=fun W H'=>∃xs,Same H H'/\H' p=some (.lst (L.map V.int))/\H' r=some (.lst xs)/\aG ok2 H' xs (W.map (wyD ss left)):=⟨_,rfl⟩;have put:∀(W:List Wy)(wy:Wy)(v:V)(xs:List V)(H4 H5:Hp),Same H H4->H4 p=some (.lst (L.map V.int))->Same H4 H5->aG ok2 (upd H5 r (.lst (xs++[v]))) (xs++[v]) (W.map (wyD ss left)++[wyD ss left wy])->So (W++[wy]) (upd H5 r (.lst (xs++[v]))):=fun W wy v xs H4 H5 s4 ep s5 t=>by
  rw[hSo];exact⟨_,dH (s4.trans s5) hrn,(aM hpr).trans (s5 _ _ ep),aq,by rw[A9];exact t⟩
 have so3:So [] H3:=by rw[hSo];exact⟨[],s3,ep3,er3,.nil⟩
 clear er3 hr0
 -- a pick
 refine aN fun k hk=>?_;have pk:∀H4,So (wyP L) H4->k [some s,some (.ref la),some (.int (bR ss left)),some (.ref p),some (.ref r),none] H4:=by
  intro H4 so4;subst hk
  -- a table
  refine aN fun k hk=>?_;have tb:∀H5,So (wyP L++wyT ss left) H5->k [some s,some (.ref la),some (.int (bR ss left)),some (.ref p),some (.ref r),none] H5:=by
   intro H5 so5;subst hk
   -- masks
   refine aN fun k hk=>?_;have fin:∀H6 (o:Option V),So (GJ ss left L) H6->k [some s,some (.ref la),some (.int (bR ss left)),some (.ref p),some (.ref r),o] H6:=by
    intro H6 o so6;subst hk;push_cast;rw[hSo] at so6;obtain⟨xs,s6,ep6,er6,t6⟩:=so6;have hx6:=t6.length;have hw6:=Oe ss left L;rw[AF] at hx6;exact q r xs L H6 s6 hrn er6 hL (t6.keep fun a o h e=>⟨by rw[hok2] at h;exact h,e⟩) ω
   refine gQ fun kt ke hkt hke=>?_;rw[hSo] at so5;obtain⟨xs5,s5,ep5,er5,t5⟩:=so5;push_cast [ep5];rw[AF];unfold GJ wyM at fin;by_cases c1:bR ss left<=64
   ·rw[if_pos c1];by_cases c2:1<L.length
    ·rw[if_pos ω];rw[if_pos ⟨c1,c2⟩] at fin;subst hkt;refine lU fun R hR=>?_;push_cast [gZ,jo,ep5,jn];obtain⟨Pm,hPm⟩:∃Pv:Nat->L2.St->Hp->Prop,Pv=fun(i:Nat) σ H'=>∃o:Option V,So (wyP L++wyT ss left++(L.take i).map Wy.msk) H'/\σ=[some s,some (.ref la),some (.int (bR ss left)),some (.ref p),some (.ref r),o]:=⟨_,rfl⟩;refine uR hR (xs:=L.map V.int) Pm (by rw[hPm,hSo];exact⟨_,⟨xs5,s5,ep5,er5,by rw[take_zero,JI,CH];exact t5⟩,rfl⟩) ?_ ?_ ?_
     ·intro i σ H6 _ pm;rw[hPm,hSo] at pm;obtain⟨_,⟨_,_,ep6,_⟩,_⟩:=pm;exact SqL.of ep6
     ·intro i x σ H6 hx pm;rw[hPm,hSo] at pm;obtain⟨o,⟨xs6,s6,ep6,er6,t6⟩,rfl⟩:=pm;rw[AU] at hx;obtain⟨l,hl,rfl⟩:=Bz.mp hx;have hil:i<L.length:=(AW.mp hl).1;have n6:=nwk s6 er6;have hxl:=t6.length;have hwp:(wyP L).length<=1:=by unfold wyP;split <;> simp
      have hwt:(wyT ss left).length<=1:=by unfold wyT;split <;> simp
      rw[AF,AK,AK,AF,EA] at hxl;show uH _ _ _ _;simp only[Gc,F9];refine qJ (ok:=ok2) rfl er6 ω ok2r t6 (d:=wyD ss left (.msk l)) (fW n6 (aP (fW n6 (aP kJ (aP (gvV rfl (.int _)) bV)) (by show 2<=1000000;decide)) (aP (kO n6 (aP ?_ bV) (by show 1<=1000000;decide)) bV)) (by show 2<=1000000;decide)) fun v H7 s7 t7=>?_
      ·intro H7 s7 Q7 q7;cases ts with
       | lst os es zs tss=>
        rename_i sa sxs;have sH7:=s6.trans s7;have el7:=sH7 _ _ el;have es7:=sH7 _ _ es;push_cast;refine cF fun R2 hR2=>?_;push_cast [el7];refine dU (fun k=>(bW ss k).2.2≠l) (fun τ=>∃o0,τ=[o0,some (.int l),some (.ref sa)]) hR2 el7 ω ⟨_,rfl⟩ ?_ ?_
        ·rintro i k' τ acc Pn hk' ⟨o0,rfl⟩ h1 h2;obtain⟨p1,x1,y1⟩:=(tss.same sH7).stN (lf.lt _ (A5 hk'));push_cast [es7,x1,y1];by_cases c:(bW ss k').2.2=l
         ·rw[decide_eq_true c,if_neg δ];exact h2 (by simpa using c) _ ⟨_,rfl⟩
         rw[decide_eq_false c,if_pos (show(!false)=true from rfl)];exact h1 (by simpa using c) _ ⟨_,rfl⟩
        intro d hd;refine⟨d,_,rfl,aq,Be (BA ..) ω,fun k hk=>by have:=lf.lt k (C7.mp hk).1;omega,fun H8 s8=>q7 _ H8 ((aB hd).trans s8) (.int _)⟩
      show Pm _ _ _;rw[hPm];refine⟨_,?_,rfl⟩;rw[show(L.take (i+1)).map Wy.msk=(L.take i).map Wy.msk++[Wy.msk l] by rw[take_snoc hl,A9];rfl,<- EC];exact put _ _ v xs6 H6 H7 s6 ep6 s7 t7
     intro σ H6 pm;rw[hPm] at pm;obtain⟨o,so6,rfl⟩:=pm;rw[AF,D4] at so6;exact fin _ _ so6
    rw[if_neg ω];rw[if_neg (fun z=>c2 z.2),CH] at fin;subst hke;exact fin _ _ (by rw[hSo];exact⟨xs5,s5,ep5,er5,t5⟩)
   rw[if_neg c1];rw[if_neg (fun z=>c1 z.1),CH] at fin;subst hke;exact fin _ _ (by rw[hSo];exact⟨xs5,s5,ep5,er5,t5⟩)
  refine gQ fun kt ke hkt hke=>?_;push_cast;unfold wyT at tb;by_cases c:bR ss left<=200
  ·rw[if_pos c];rw[if_pos c] at tb;subst hkt;rw[hSo] at so4;obtain⟨xs,s4,ep4,er4,t4⟩:=so4;have n4:=nwk s4 er4;have hxl:=t4.length;have hwp:(wyP L).length<=1:=by unfold wyP;split <;> simp
   rw[AF] at hxl;exact qJ (ok:=ok2) rfl er4 ω ok2r t4 (d:=wyD ss left .tab) (fW n4 (aP (fW n4 (aP kJ bV) (by show 1<=1000000;decide)) (aP (kO n4 bV (by show 0<=1000000;decide)) bV)) (by show 2<=1000000;decide)) fun v H5 s5 t5=>tb _ (put _ _ v xs H4 H5 s4 ep4 s5 t5)
  rw[if_neg c];rw[if_neg c,CH] at tb;subst hke;exact tb _ so4
 refine gQ fun kt ke hkt hke=>?_;push_cast [ep3];unfold wyP at pk;rw[AF];by_cases c:L.length=1
 ·rw[if_pos ω];rw[if_pos c] at pk;subst hkt;rw[hSo] at so3;obtain⟨xs,s3,ep3,er3,t3⟩:=so3;have n3:=nwk s3 er3;have hxl:=t3.length;rw[AF,Fs] at hxl;exact qJ (ok:=ok2) rfl er3 ω ok2r t3 (d:=wyD ss left (.pick (L.getD 0 0))) (fW n3 (aP (fW n3 (aP kJ (aP (Zu rfl ep3 ω) bV)) (by show 2<=1000000;decide)) (aP (kO n3 bV (by show 0<=1000000;decide)) bV)) (by show 2<=1000000;decide)) fun v H5 s5 t5=>pk _ (put [] _ v xs H3 H5 s3 ep3 s5 t5)
 rw[if_neg ω];rw[if_neg c] at pk;subst hke;exact pk _ so3
end
noncomputable abbrev jU:List Str:=["stretches","some","left","ways"]
noncomputable abbrev cu:Stmt:=top 21
theorem nW:bA jU ["stretches","some"] (aj cu):=⟨rfl,rfl,rfl,ψ,rfl,ψ,ψ⟩
theorem rE:NM_ jU cu 0 "stretches" := .of ψ
theorem Cg:NM_ jU cu 1 "some" := .of ψ
theorem jl:NM_ jU cu 2 "left" := .of ψ
theorem mF:NM_ jU cu 3 "ways" := .of ψ
theorem yd:GI_ cu "len" := by decide +kernel
theorem mR:GI_ cu "stretches_in" := by decide +kernel
theorem mQ:GI_ cu "ways_by_label" := by decide +kernel
theorem kW:GI_ cu "ways_by_stretch" := by decide +kernel
theorem Gq:Bn "ways_of_set" := ⟨ψ,ψ⟩
noncomputable def Xi (n:Nat):Sp:=fun vs H Q _=>∃(s:V)(x:Nat)(ok:Addr->Prop)(ss:Sts),vs=[s,.int (x:Int)]/\cW ok H/\aH ok H s (.list (ss.map stD))/\ss.length=n/\0<x/\x<2^n /\
 ∀(r:Addr)(xs:List V)(L:List Int) H',Same H H'->H r=none->H' r=some (.lst xs)->oV ss (bC n x) L->aG ok H' xs ((K9 ss (bC n x) L).map (wyD ss (bC n x)))->xs.length<=1000->Q (.ref r) H'
section
variable {P:AV}{w:A6}{K:AE}{mg:Str->Option An}{base:Heap}{f:Addr}{fd:CA}{bs:List Str}
theorem YZ {n:Nat}(hn:n<=60) (hB:∀x:Str,x∈BLs->mg x=none) (CStretchesIn:Cal P w K mg base "stretches_in" 1 ["some"] (XJ n)) (CWaysByLabel:Cal P w K mg base "ways_by_label" 2 q3_ Z5) (CWaysByStretch:Cal P w K mg base "ways_by_stretch" 2 q3_ Z4) (F:Fun K "ways_of_set" "ways_of_set" cu f fd):dm P w K mg base CX0 3 f fd ["stretches","some"] (Xi n):=by
 refine F.okq nW (fun vs H Q E h=>?_) (fun cdv A outer s H vs Q E hr h=>?_)
 ·obtain⟨s,x,ok,ss,rfl,_⟩:=h;rfl
 obtain⟨s,x,ok,ss,rfl,hnw,ts,hsn,h0,hx,q⟩:=h;refine⟨_,(aD (bM jl nW.nd (bx CStretchesIn (hr.mono δ) mR p8 (ak (ao Cg) aA rfl) rfl rfl) rfl (.inl rfl))
  (aD (bM mF nW.nd (bx CWaysByLabel (hr.mono δ) mQ zG (ak (ao rE) (ak (ao jl) aA rfl) rfl) rfl rfl) rfl (.inl rfl))
  (aD (cT (bw Ep (bY bK yd (hB "len" d7) BH d8 (ak (ao jl) aA rfl) rfl rfl) au (aO _)) (aK (dg (JV (ao mF) (bx CWaysByStretch (hr.mono δ) kW vq (ak (ao rE) (ak (ao jl) aA rfl) rfl) rfl rfl) rfl rfl rfl rfl rfl) rfl)) bT)
  (aK (aQ (ao mF)))))),?_⟩
 have lf:=iT hsn h0 hx;have hc:=mY n x;refine aN fun k hk=>?_;push_cast;refine⟨x,rfl,hx,fun la H1 s1 hla el1=>?_⟩;push_cast;subst hk;have okl:ok la:=hnw.new hla;generalize bC n x=left at *;refine aN fun k hk=>?_;push_cast;refine⟨s,la,ok,ss,left,rfl,hnw.same s1,ts.same s1,okl,el1,lf,ω,ω,fun r xs L H2 s2 hr2 er2 hL t2 hxl=>?_⟩;push_cast;subst hk;have el2:=s2 _ _ el1;have hrn:H r=none:=s1.none hr2;refine aN fun k hk=>?_;refine gQ fun kt ke hkt hke=>?_;push_cast [el2];rw[dN];have fin:∀(ys:List V) H5,Same H H5->H5 r=some (.lst ys)->aG ok H5 ys ((K9 ss left L).map (wyD ss left))->ys.length<=1000->k [some s,some (.int (x:Int)),some (.ref la),some (.ref r)] H5:=fun ys H5 s5 er5 t5 hl5=>by
  subst hk;push_cast;exact q r ys L H5 s5 hrn er5 hL t5 hl5
 unfold K9 at fin;by_cases c:1<left.length
 ·rw[if_pos ω];rw[if_pos c] at fin;subst hkt;push_cast [DG,Kw,er2,Cu];refine⟨s,la,fun a=>ok a/\a≠r,ss,left,rfl,fun H4 q4 s4 hq=>⟨hnw H4 q4 ((s1.trans s2).trans s4) hq,(aF (s4 _ _ er2) hq).symm⟩,((ts.keep fun a o h e=>⟨⟨h,aF e hrn⟩,e⟩).same s1).same s2,el2,lf,ω,ω,fun r3 ys H3 s3 hr3 er3 t3=>?_⟩;have er23:=s3 _ _ er2;show Nk r (.ref r3) H3 _;rw[Ga,er23,er3,SJ];have hyl:=t3.length;have hws:=Od ss left;rw[AF] at hyl;refine⟨XQ ω,?_⟩;have rr:r3≠r:=(aF er2 hr3).symm;have sH3:=(s1.trans s2).trans s3;exact fin (xs++ys) _ (dH sH3 hrn) aq (by
   rw[A9];exact((t2.same s3).keep fun a o h e=>⟨h.1,by rw[aM h.2];exact e⟩).append (t3.keep fun a o h e=>⟨h.1.1,by rw[aM h.1.2];exact e⟩)) (by rw[AK];omega)
 rw[if_neg ω];rw[if_neg c,CH] at fin;subst hke;exact fin xs H2 (s1.trans s2) er2 (t2.keep fun a o h e=>⟨h.1,e⟩) ω
noncomputable abbrev jV:List Str:=["stretches","sizes","left","rooms"]
noncomputable abbrev cA:Stmt:=top 13
theorem uI:bA jV q14_ (aj cA):=⟨rfl,rfl,rfl,ψ,rfl,ψ,ψ⟩
theorem Cj:NM_ jV cA 0 "stretches" := .of ψ
theorem rF:NM_ jV cA 1 "sizes" := .of ψ
theorem Ci:NM_ jV cA 2 "left" := .of ψ
theorem jm:NM_ jV cA 3 "rooms" := .of ψ
theorem uo:GI_ cA "TESTS" := by decide +kernel
theorem vg:GI_ cA "dict" := by decide +kernel
theorem kZ:GI_ cA "numbers_across" := by decide +kernel
theorem ye:GI_ cA "zip" := by decide +kernel
theorem Gr:Bn "step_rooms" := ⟨ψ,ψ⟩
noncomputable abbrev m8:List Str:=["stretches","sizes"]
noncomputable abbrev cN:Stmt:=top 22
theorem yO:bA m8 q6_ (aj cN):=⟨rfl,rfl,rfl,ψ,rfl,ψ,ψ⟩
theorem xu:NM_ m8 cN 0 "stretches" := .of ψ
theorem uq:GI_ cN "len" := by decide +kernel
theorem qz:GI_ cN "range" := by decide +kernel
theorem zH:Bn "room_charges" := ⟨ψ,ψ⟩
noncomputable abbrev jt:List Str:=["stretches","charges","some"]
noncomputable abbrev cO:Stmt:=top 23
theorem yP:bA jt q11_ (aj cO):=⟨rfl,rfl,rfl,ψ,rfl,ψ,ψ⟩
theorem xO:NM_ jt cO 0 "stretches" := .of ψ
theorem xM:NM_ jt cO 2 "some" := .of ψ
theorem mV:GI_ cO "ways_of_set" := by decide +kernel
theorem zJ:Bn "charged_ways" := ⟨ψ,ψ⟩
theorem Ri (hB:∀x:Str,x∈BLs->mg x=none) {aTests:Addr}(cgTests:mg "TESTS" = some (.ref aTests)) (ktTests:KTup K aTests ([("is" : Str),("within" : Str),("below" : Str),("mask" : Str),("table" : Str)].map V.str)) (CNumbersAcross:Cal P w K mg base "numbers_across" 1 q3_ lu) (F:Fun K "step_rooms" "step_rooms" cA f fd):dm P w K mg base CX0 2 f fd q14_ JF:=by
 refine F.okq uI (fun vs H Q E h=>?_) (fun cdv A outer s H vs Q E hr h=>?_)
 ·obtain⟨s,l,z,ok,ss,zs,left,rfl,_⟩:=h;rfl
 obtain⟨s,l,z,ok,ss,zs,left,rfl,ts,tl,lf,hz,h6,hb5,q⟩:=h;refine⟨_,(aD (bM jm uI.nd (aah rfl vg (hB "dict" Ke) ye (hB "zip" Zc) (ak (qW (v:=V.ref aTests) uo cgTests rfl W6) (ak (ao rF) aA rfl) rfl)) rfl (.inl rfl))
  (aD (aag hr.GQ (ao jm) bI (aL eE (aJ aV (ao rF) (qT mj au) (fun _ _=>rfl)) (bx CNumbersAcross (hr.mono δ) kZ gD (ak (ao Cj) (ak (ao Ci) aA rfl) rfl) rfl rfl)) (fun _ _ _=>rfl))
  (aD (aaf hr.GQ (ao jm) bI au rfl)
  (aK (aQ (ao jm)))))),?_⟩
 refine aN fun k hk=>?_;push_cast [rdA];refine⟨aTests,z,fX zs,zs.map V.int,rfl,.inl ktTests.sq,SqT.of hz,Nh ω,by show 0<5;decide,by show 5<=15;decide,fun p hp=>?_⟩;have s1:=aB (o:=HO.dK (fB [] (fX zs))) hp;have e1:upd H p (HO.dK (fB [] (fX zs))) p=_:=aq;generalize hH1:upd H p (HO.dK (fB [] (fX zs)))=H1 at s1 e1 |-;have hz1:=s1 _ _ hz;subst hk;refine aN fun k hk=>?_;push_cast [rdA];refine⟨p,V.int (zs.getD 4 0),rfl,(Je zs) ▸ uG.k (k:=Da "table") e1,?_⟩;push_cast [hz1];refine⟨_,Tz h6,s,l,ok,ss,left,rfl,ts.same s1,tl.same s1,lf,?_⟩;show zX (.int _) (.int _) _ _;rw[Bx];refine⟨_,_,rfl,rfl,.inl hb5,?_⟩;refine⟨_,_,rfl,rfl,_,Dm.k (k:=Da "table") e1 (WK zs),?_⟩;subst hk;refine aN fun k hk=>?_;push_cast [rdA];refine⟨p,_,rfl,Dm.k (k:=Da "pick") aq (Sy zs _ _),?_⟩;subst hk;push_cast;rw[Jz,<- hH1,Jz];exact q p _ (aB hp) aq
theorem HJ {n:Nat}(hn:n<=12) (hB:∀x:Str,x∈BLs->mg x=none) (CStretchesIn:Cal P w K mg base "stretches_in" 1 ["some"] (XJ n)) (CStepRooms:Cal P w K mg base "step_rooms" 2 q14_ JF) (F:Fun K "room_charges" "room_charges" cN f fd):dm P w K mg base CX0 3 f fd q6_ (wg n):=by
 refine F.okq yO (fun vs H Q E h=>?_) (fun cdv A outer s H vs Q E hr h=>?_)
 ·obtain⟨s,z,ok,ss,zs,rfl,_⟩:=h;rfl
 obtain⟨s,z,ok,ss,zs,rfl,hnw,ts,hsn,hz,h6,few,q⟩:=h;refine⟨_,(aK (aQ (aL bD (bO (ak Hu aA rfl)) (cH (NX:=m8) (kX:=(aj cN).names) ["some","stretches","sizes"] [none,some 0,some 1] rfl rfl ⟨rfl,ψ,ψ,ψ,ψ⟩ rfl (tG qz (hB "range" fM) (ak au (ak (aL jK au (bY bK uq (hB "len" d7) BH d8 (ak (ao xu) aA rfl) rfl rfl)) aA rfl) rfl) rfl rfl) (fun _ _ _ _ _=>(bL 0 (show BQ (["some","stretches","sizes"]:List Str) from by decide +kernel) rfl (C2 rfl))) (fun _ _ _ _ _=>gH) (fun _ _ _ _ _=>(bx CStepRooms (hr.mono δ) rfl Gr (ak (bh 1) (ak (bh 2) (ak (bx CStretchesIn (hr.mono δ) rfl p8 (ak (bh 0) aA rfl) rfl rfl) aA rfl) rfl) rfl) rfl rfl)))))),?_⟩;have p2:2^n<=4096:=Be (D6 δ hn) δ;have p1:=D0 n;have ts0:=ts;cases ts with
 | lst os es zs' tss=>
  rename_i sa sxs;have hsl:=tss.length;rw[AF,hsn] at hsl;push_cast [vY];intro d0 hd0;have s1:=aB (o:=HO.dK []) hd0;have e1:upd H d0 (HO.dK []) d0=some (HO.dK []):=aq;generalize upd H d0 (HO.dK [])=H1 at s1 e1 |-;refine⟨aU δ,fun l0 hl0=>?_⟩;have s2:=s1.trans (aB (o:=HO.lst [V.ref d0]) hl0);have e2:upd H1 l0 (HO.lst [V.ref d0]) l0=some (HO.lst [V.ref d0]):=aq;generalize upd H1 l0 (HO.lst [V.ref d0])=H2 at s2 e2 |-;refine cF fun R hR=>?_;have es2:=s2 _ _ es;push_cast [es2,Fv];rw[IA,hsl,B3,show((2:Int)^n)=((2^n:Nat):Int) by rw[Fm];rfl];generalize hm:2^n=m at p1 p2 |-;refine⟨⟨ω,ω,δ⟩,⟨δ,δ,ω,ω⟩,?_⟩;rw[show((m:Int)-1).toNat=m-1 by omega];obtain⟨Pc,hPc⟩:∃Pv:Nat->List V->L2.St->Hp->Prop,Pv=fun(i:Nat) acc τ H'=>∃(o0:Option V)(cds:List Addr),Same H2 H'/\acc=cds.map V.ref/\cds.length=i/\(∀(x:Nat) d,cds[x]?=some d->H' d=some (.dK (Bt zs (bR ss (bC n (x+1))))))/\τ=[o0,some (.ref sa),some (.ref z)]:=⟨_,rfl⟩;refine yu hR (aU ω) Pc (by rw[hPc];exact⟨_,[],Same.refl _,rfl,rfl,fun x d h=>by simp at h,rfl⟩) ?_ ?_ ?_
  ·intro i acc τ H5 pc;rw[hPc] at pc;obtain⟨_,cds,_,rfl,hl,_⟩:=pc;rw[AF];omega
  ·intro i acc τ H5 hi pc;rw[hPc] at pc;obtain⟨o0,cds,s5,rfl,hl,hc,rfl⟩:=pc;push_cast;rw[show(1:Int)+(i:Int)=((i+1:Nat):Int) by omega];have hi2:i+1<2^n:=ω;refine⟨i+1,rfl,hi2,fun la H6 s6 hla el6=>?_⟩;have lf:=iT hsn (show 0<i+1 by omega) hi2;have s26:=s2.trans (s5.trans s6);have hla0:H la=none:=(s2.trans s5).none hla;refine⟨.ref sa,_,z,ok,ss,zs,bC n (i+1),rfl,ts0.same s26,cD (hnw.new hla0) el6 (by have:=mY n (i+1);omega),lf,s26 _ _ hz,h6,few.at 5,fun pd H7 s7 e7=>?_⟩;rw[hPc];refine⟨_,cds++[pd],(s5.trans s6).trans s7,by rw[A9];rfl,by rw[AK,hl];rfl,fun x d hx=>?_,rfl⟩;rcases FK x cds.length with c|c
   ·rw[DF c] at hx;exact s7 _ _ (s6 _ _ (hc x d hx))
   rw[BU c] at hx;have hx0:x-cds.length=0:=by
    rcases Nat.eq_zero_or_pos (x-cds.length) with z|z
    ·exact z
    rw[FD (by rw[BM];omega)] at hx;cases hx
   rw[hx0] at hx;cases hx;rw[show x=i by omega];exact e7
  intro acc τ H5 d pc hd;rw[hPc] at pc;obtain⟨o0,cds,s5,rfl,hl,hc,rfl⟩:=pc;have s6:=aB (o:=HO.lst (cds.map V.ref)) hd;have e6:upd H5 d (HO.lst (cds.map V.ref)) d=some (HO.lst (cds.map V.ref)):=aq;have el6:=s6 _ _ (s5 _ _ e2);generalize upd H5 d (HO.lst (cds.map V.ref))=H6 at s6 e6 el6 |-;push_cast [e6,el6];refine⟨aU (by rw[AF];omega),fun r hr=>?_⟩;have sx:=s2.trans (s5.trans s6);have s7:=aB (o:=HO.lst (V.ref d0::cds.map V.ref)) hr;refine q r _ (sx.trans s7) (sx.none hr) ⟨d0::cds,aq,by rw[B6];omega,fun x e h0 hx=>?_⟩;obtain⟨y,rfl⟩:∃y,x=y+1:=⟨x-1,ω⟩;rw[E4] at hx;exact⟨_,s7 _ _ (s6 _ _ (hc y e hx)),fun p=>PN ss zs _ p⟩
theorem HN {f':lY}{n:Nat}(hn:n<=12) (hB:∀x:Str,x∈BLs->mg x=none) (CWaysOfSet:Cal P w K mg base "ways_of_set" 3 ["stretches","some"] (Xi n)) (F:Fun K "charged_ways" "charged_ways" cO f fd):dm P w K mg base CX0 4 f fd q11_ (zT f' n):=by
 refine F.okq yP (fun vs H Q E h=>?_) (fun cdv A outer s H vs Q E hr h=>?_)
 ·obtain⟨s,ca,x,ok,ss,rfl,_⟩:=h;rfl
 obtain⟨s,ca,x,ok,ss,rfl,hnw,ts,hsn,h0,hx,hch,q⟩:=h;refine⟨_,(aK (aQ (cH (NX:=jt) (kX:=(aj cO).names) ["head","parts","charges","some"] [none,none,some 1,some 2] rfl rfl ⟨rfl,ψ,ψ,ψ,ψ⟩ rfl (bN (bx CWaysOfSet (hr.mono δ) mV Gq (ak (ao xO) (ak (ao xM) aA rfl) rfl) rfl rfl)) (fun _ _ _ _ _=>(ou (n:=2) rfl (cI (bL 0 (show BQ (["head","parts","charges","some"]:List Str) from by decide +kernel) rfl (C2 rfl)) (cI (bL 1 (show BQ (["head","parts","charges","some"]:List Str) from by decide +kernel) rfl (C2 rfl)) j7 rfl) rfl) rfl rfl)) (fun _ _ _ _ _=>gH) (fun _ _ _ _ _=>(b8 (ak (aai hr.GQ (aJ aV (bh 2) (bh 3) (fun _ _=>rfl)) (aJ aV (bh 0) au (fun _ _=>rfl)) (fun _ _=>rfl)) (ak (bh 0) (ak (bh 1) aA rfl) rfl) rfl)))))),?_⟩;have lf:=iT hsn h0 hx;push_cast;refine cF fun R hR=>?_;push_cast [gZ];refine⟨s,x,ok,ss,rfl,hnw,ts,hsn,h0,hx,fun r xs L H1 s1 hr1 er1 hL t1 hx1=>?_⟩;show itK K (V.ref r) H1 R;rw[jo,er1,jn];have hmem:=RK hL lf;generalize K9 ss (bC n x) L=W at *;have hxl:=t1.length;rw[AF] at hxl;obtain⟨Pc,hPc⟩:∃Pv:Nat->List V->L2.St->Hp->Prop,Pv=fun(i:Nat) acc τ H'=>∃(o0 o1:Option V),Same H1 H'/\acc.length=i/\aG ok H' acc ((W.take i).map (chD f' ss (bC n x)))/\τ=[o0,o1,some (.ref ca),some (.int (x:Int))]:=⟨_,rfl⟩;refine ux hR (xs:=xs) (aU ω) Pc (by rw[hPc];exact⟨_,_,Same.refl _,rfl,.nil,rfl⟩) ?_ ?_ ?_ ?_
 ·intro i acc τ H2 pc;rw[hPc] at pc;obtain⟨_,_,_,hl,_⟩:=pc;omega
 ·intro i acc τ H2 pc;rw[hPc] at pc;obtain⟨_,_,s2,_⟩:=pc;exact SqL.of (s2 _ _ er1)
 ·intro i y acc τ H2 hy pc;rw[hPc] at pc;obtain⟨o0,o1,s2,hl,t2,rfl⟩:=pc;obtain⟨d,hd,td⟩:=(t1.same s2).get hy;rw[AU] at hd;obtain⟨w1,hw1,rfl⟩:=Bz.mp hd;cases td with
  | tup ot et zt tt=>
   cases tt with
   | cons th tt=>
    cases tt with
    | cons tp tt=>
     cases tt;rename_i ta xh xp;have th0:=th;have tp0:=tp;obtain⟨hs,hwd⟩:∃r',hdL w1=.str (fD (eY w1))::r':=by cases w1 <;> exact⟨_,rfl⟩
     unfold wyD at *;cases th with
     | tup oh eh zh thh=>
      rename_i ha hxs;rw[hwd] at thh;cases thh with
      | cons tw thh=>
       cases tw;obtain⟨cds,ec,lc,hc⟩:=hch.same (s1.trans s2);obtain⟨cd,hcd⟩:∃cd,cds[x]?=some cd:=⟨cds[x]'ω,AD ω⟩;obtain⟨kvs,ek,hk⟩:=hc x cd h0 hcd;have eca:atI (cds.map V.ref) (x:Int)=some (.ref cd):=dj (by rw[AU,hcd];rfl);push_cast [et,rdA,eh,ec,eca];refine⟨cd,V.int (f' (bC n x) (eY w1)),rfl,uG.k' (k:=Da (fD (eY w1))) ek (hk _),?_⟩;push_cast;refine⟨aU δ,fun p hp=>?_⟩;have s3:=aB (o:=HO.tup [V.int (f' (bC n x) (eY w1)),V.ref ha,xp]) hp;rw[hPc];refine⟨_,_,s2.trans s3,by rw[AK,hl];rfl,?_,rfl⟩;rw[take_snoc hw1,A9];exact(t2.same s3).append (.cons (.tup (hnw.new ((s1.trans s2).none hp)) aq (by show 3<=1000000;decide) (.cons (.int _) (.cons (th0.same s3) (.cons (tp0.same s3) .nil)))) .nil)
 intro acc τ H2 d pc hd;rw[hPc] at pc;obtain⟨o0,o1,s2,hl,t2,rfl⟩:=pc;rw[hxl,D4] at t2;exact q d acc W _ ((s1.trans s2).trans (aB hd)) ((s1.trans s2).none hd) aq hmem (t2.same (aB hd)) ω
end
noncomputable abbrev uF:List Str:=["ways","numbers"]
noncomputable abbrev gK:Stmt:=top 15
theorem Hj:bA uF ["ways","numbers"] (aj gK):=⟨rfl,rfl,rfl,ψ,rfl,ψ,ψ⟩
theorem Fj:NM_ uF gK 0 "ways" := .of ψ
theorem Jo:Bn "bounds_of" := ⟨ψ,ψ⟩
noncomputable abbrev iw:List Str:=["ways","numbers","plans","bounds","least","cost","head","parts"]
noncomputable abbrev cR:Stmt:=top 25
theorem ju:bA iw q16_ (aj cR):=⟨rfl,rfl,rfl,ψ,rfl,ψ,ψ⟩
theorem xJ:NM_ iw cR 0 "ways" := .of ψ
theorem Ie:NM_ iw cR 1 "numbers" := .of ψ
theorem qu:NM_ iw cR 3 "bounds" := .of ψ
theorem qt:NM_ iw cR 4 "least" := .of ψ
theorem Ib:NM_ iw cR 5 "cost" := .of ψ
theorem xH:NM_ iw cR 6 "head" := .of ψ
theorem xG:NM_ iw cR 7 "parts" := .of ψ
theorem rY:GI_ cR "bounds_of" := by decide +kernel
theorem CV:GI_ cR "min" := by decide +kernel
theorem yh:GI_ cR "tuple" := by decide +kernel
theorem N5:Bn "least_by" := ⟨ψ,ψ⟩
theorem qX (ss:Sts)(left:List Nat)(w:Wy):A3.list ((eO ss left w).map ptD)=lJ ((eO ss left w).map aX):=by
 unfold lJ;rw[JJ];rfl
section
variable {P:AV}{w:A6}{K:AE}{mg:Str->Option An}{base:Heap}{f:Addr}{fd:CA}{bs:List Str}
theorem Mr {f':lY}(hB:∀x:Str,x∈BLs->mg x=none) (F:Fun K "bounds_of" "bounds_of" gK f fd):dm P w K mg base CX0 1 f fd ["ways","numbers"] (DQ f'):=by
 refine F.okq Hj (fun vs H Q E h=>?_) (fun cdv A outer s H vs Q E hr h=>?_)
 ·obtain⟨r,na,ok,ss,left,xs,W,N,rfl,_⟩:=h;rfl
 obtain⟨r,na,ok,ss,left,xs,W,N,rfl,⟨er,t,hx,en,hlt⟩,q⟩:=h;refine⟨_,(aK (aQ (cH (NX:=uF) (kX:=(aj gK).names) ["cost","head","parts","numbers"] [none,none,none,some 1] rfl rfl ⟨rfl,ψ,ψ,ψ,ψ⟩ rfl (bN (ao Fj)) (fun _ _ _ _ _=>(ou (n:=3) rfl (cI (bL 0 (show BQ (["cost","head","parts","numbers"]:List Str) from by decide +kernel) rfl (C2 rfl)) (cI (bL 1 (show BQ (["cost","head","parts","numbers"]:List Str) from by decide +kernel) rfl (C2 rfl)) (cI (bL 2 (show BQ (["cost","head","parts","numbers"]:List Str) from by decide +kernel) rfl (C2 rfl)) j7 rfl) rfl) rfl) rfl rfl)) (fun _ _ _ _ _=>gH) (fun _ _ _ _ _=>(aL bD (bh 0) (bY (lW rfl) rfl (hB "sum" xP) boot_sum yC (ak (cH (NX:=["cost","head","parts","numbers"]) (kX:=_) ["part","numbers"] [none,some 3] rfl rfl ⟨rfl,ψ,ψ,by (intro y hy hf;repeat (first|(rcases Bi.mp hy with rfl|hy;(first|exact Or.inr rfl|exact C2 rfl|exact absurd hf δ))|exact absurd hy B2)),ψ⟩ rfl (UW K (bh 2)) (fun _ _ _ _ _=>(bL 0 (show BQ (["part","numbers"]:List Str) from by decide +kernel) rfl (C2 rfl))) (fun _ _ _ _ _=>gH) (fun _ _ _ _ _=>(aJ aV (bh 1) (bh 0) (fun _ _=>rfl)))) aA rfl) rfl rfl)))))),?_⟩
 have hxl:=t.length;rw[AF] at hxl;push_cast;refine cF fun R hR=>?_;push_cast [er];obtain⟨Pc,hPc⟩:∃Pv:Nat->List V->L2.St->Hp->Prop,Pv=fun(i:Nat) acc τ H'=>∃(o0 o1 o2:Option V),Same H H'/\acc=((W.take i).map (iU f' N ss left)).map V.int/\τ=[o0,o1,o2,some (.ref na)]:=⟨_,rfl⟩;refine ux hR (xs:=xs) (aU ω) Pc (by rw[hPc];exact⟨_,_,_,Same.refl _,rfl,rfl⟩) ?_ ?_ ?_ ?_
 ·intro i acc τ H2 pc;rw[hPc] at pc;obtain⟨_,_,_,_,rfl,_⟩:=pc;rw[AF,AF];exact JY _ _
 ·intro i acc τ H2 pc;rw[hPc] at pc;obtain⟨_,_,_,s2,_⟩:=pc;exact SqL.of (s2 _ _ er)
 ·intro i y acc τ H2 hy pc;rw[hPc] at pc;obtain⟨o0,o1,o2,s2,rfl,rfl⟩:=pc;obtain⟨d,hd,td⟩:=(t.same s2).get hy;rw[AU] at hd;obtain⟨w1,hw1,rfl⟩:=Bz.mp hd;unfold chD at td;rw[qX] at td;cases td with
  | tup ot et zt tt=>
   cases tt with
   | cons tc tt=>
    cases tt with
    | cons th tt=>
     cases tt with
     | cons tp tt=>
      cases tt;cases tc;rename_i ta xh xp;obtain⟨la,rfl,okl,el,ll⟩:=tp.left;replace el:H2 la=some (.lst (nv ((eO ss left w1).map aX))):=el;have en2:=s2 _ _ en;push_cast [et];refine cF fun R2 hR2=>?_;push_cast [el];refine jB (fun k=>N.getD k 0) (fun τ=>∃o0,τ=[o0,some (.ref na)]) hR2 el ll ⟨_,rfl⟩ ?_ ?_
      ·rintro j k' τ acc Pn hk' ⟨o0,rfl⟩ h1;have hmk:=A5 hk';obtain⟨p,hp,rfl⟩:=DT.mp hmk;have hwk:=pR (zs:=N) (i:=aX p) (hlt w1 (A5 hw1) p hp);push_cast [en2,hwk];exact h1 _ ⟨_,rfl⟩
      intro d2 hd2;have s3:=aB (o:=HO.lst ((((eO ss left w1).map aX).map fun k=>N.getD k 0).map V.int)) hd2;have e3:upd H2 d2 (HO.lst ((((eO ss left w1).map aX).map fun k=>N.getD k 0).map V.int)) d2=_:=aq;generalize upd H2 d2 (HO.lst ((((eO ss left w1).map aX).map fun k=>N.getD k 0).map V.int))=H3 at s3 e3 |-;push_cast [e3];refine⟨_,rfl,?_⟩;rw[hPc];refine⟨_,_,_,s2.trans s3,?_,rfl⟩;rw[take_snoc hw1,A9,A9,show f' left (eY w1)+(((eO ss left w1).map aX).map fun k=>N.getD k 0).sum=iU f' N ss left w1 by unfold iU;rw[JJ];rfl];rfl
 intro acc τ H2 d pc hd;rw[hPc] at pc;obtain⟨o0,o1,o2,s2,rfl,rfl⟩:=pc;rw[hxl,D4];exact q d _ (s2.trans (aB hd)) (s2.none hd) aq
theorem HD {f':lY}(hB:∀x:Str,x∈BLs->mg x=none) (CBoundsOf:Cal P w K mg base "bounds_of" 1 ["ways","numbers"] (DQ f')) (F:Fun K "least_by" "least_by" cR f fd):dm P w K mg base CX0 2 f fd q16_ (zQ f'):=by
 refine F.okq ju (fun vs H Q E h=>?_) (fun cdv A outer s H vs Q E hr h=>?_)
 ·obtain⟨r,na,pa,ok,ss,left,xs,W,N,ps,PD,rfl,_⟩:=h;rfl
 obtain⟨r,na,pa,ok,ss,left,xs,W,N,ps,PD,rfl,wa,hnw,epa,tps,hPD,hW,q⟩:=h;refine⟨_,(aD (bM qu ju.nd (bx CBoundsOf (hr.mono δ) rY Jo (ak (ao xJ) (ak (ao Ie) aA rfl) rfl) rfl rfl) rfl (.inl rfl))
  (aD (bM qt ju.nd (bY (pI rfl) CV (hB "min" tZ) boot_min uy (ak (ao qu) aA rfl) rfl rfl) rfl (.inl rfl))
  (aD (qj (aJ aV (ao xJ) (U3 hr.un1 (ao qu) (ao qt)) (fun _ _=>rfl)) (ou (n:=3) rfl (cI (fC Ib ju.nd (.inl rfl)) (cI (fC xH ju.nd (.inl rfl)) (cI (fC xG ju.nd (.inl rfl)) j7 rfl) rfl) rfl) rfl rfl) rfl rfl rfl)
  (aK (aQ (b8 (ak (ao qt) (ak (aL V4 (ao xH) (wG p7 yh (hB "tuple" rM) boot_tuple sy (ak (cH (NX:=iw) (kX:=(aj cR).names) ["part","plans"] [none,some 2] rfl rfl ⟨rfl,ψ,ψ,ψ,ψ⟩ rfl (bN (ao xG)) (fun _ _ _ _ _=>(bL 0 (show BQ (["part","plans"]:List Str) from by decide +kernel) rfl (C2 rfl))) (fun _ _ _ _ _=>gH) (fun _ _ _ _ _=>(aJ aV (bh 1) (bh 0) (fun _ _=>rfl)))) aA rfl) rfl rfl)) aA rfl) rfl))))))),?_⟩
 refine aN fun k hk=>?_;push_cast;refine⟨r,na,ok,ss,left,xs,W,N,rfl,wa,fun b H1 s1 hb eb=>?_⟩;push_cast;subst hk;refine aN fun k hk=>?_;push_cast;refine⟨_,.inl eb,fun z=>hW (Hc.mp z),fun M hM hle=>?_⟩;subst hk;refine aN fun k hk=>?_;have er1:=s1 _ _ wa.er;push_cast [er1,O3];refine⟨_,SqL.of eb,SqL.of eb,hM,fun j hj=>?_⟩;obtain⟨w1,hw1,ew1⟩:∃w1,W[j]?=some w1/\iU f' N ss left w1=M:=by
  have:=hj.1;rw[AU] at this;exact Bz.mp this
 have hx:=wa.t.length;rw[AF] at hx;have hjl:=(AW.mp hw1).1;have hxj:xs[j]?=some (xs[j]'ω):=AD ω;obtain⟨d,hd,td⟩:=(wa.t.same s1).get hxj;rw[AU,hw1] at hd;cases hd;have eat:atI xs (j:Int)=some (xs[j]'ω):=dj hxj;generalize xs[j]'ω=xj at td eat;unfold chD at td;rw[qX] at td;cases td with
 | tup ot et zt tt=>
  cases tt with
  | cons tc tt=>
   cases tt with
   | cons th tt=>
    cases tt with
    | cons tp tt=>
     cases tt;cases tc;rename_i ta xh xp;obtain⟨la,rfl,okl,el,ll⟩:=tp.left;replace el:H1 la=some (.lst (nv ((eO ss left w1).map aX))):=el;have epa1:=s1 _ _ epa;cases th with
     | tup oh eh zh thh=>
      rename_i ha hxs;push_cast [eat,et];subst hk;push_cast;refine cF fun R2 hR2=>?_;push_cast [el];have hpl:=tps.length;obtain⟨Pc,hPc⟩:∃Pv:Nat->List V->L2.St->Hp->Prop,Pv=fun(i:Nat) acc τ H'=>∃(o0:Option V),H1=H'/\acc.length=i/\aG ok H1 acc (((eO ss left w1).take i).map fun p=>PD.getD (aX p) .none)/\τ=[o0,some (.ref pa)]:=⟨_,rfl⟩;have hpt:=Em ss left w1;have hlw:=wa.lt w1 (A5 hw1);refine ux hR2 (xs:=nv ((eO ss left w1).map aX)) (aU (by rw[dN,AF];omega)) Pc (by rw[hPc];exact⟨_,rfl,rfl,.nil,rfl⟩) ?_ ?_ ?_ ?_
      ·intro i acc τ H2 pc;rw[hPc] at pc;obtain⟨_,_,hl,_⟩:=pc;omega
      ·intro i acc τ H2 pc;rw[hPc] at pc;obtain⟨_,rfl,_⟩:=pc;exact SqL.of el
      ·intro i y acc τ H2 hy pc;rw[hPc] at pc;obtain⟨o0,rfl,hl,t2,rfl⟩:=pc;unfold nv at hy;rw[AU,AU] at hy;obtain⟨k',hk',rfl⟩:=Bz.mp hy;obtain⟨p,hp,rfl⟩:=Bz.mp hk';have hlp:=hlw p (A5 hp);have hpx:ps[aX p]?=some (ps[aX p]'ω):=AD ω;obtain⟨dp,hdp,tdp⟩:=(tps.same s1).get hpx;have eap:atI ps ((aX p:Nat):Int)=some (ps[aX p]'ω):=dj hpx;generalize ps[aX p]'ω=vp at tdp eap;push_cast [epa1,eap];rw[hPc];refine⟨_,rfl,by rw[AK,hl];rfl,?_,rfl⟩;rw[take_snoc hp,A9];refine t2.append (.cons ?_ .nil);show aH ok _ vp (PD.getD (aX p) .none);rw[AN,hdp];exact tdp
      intro acc τ H2 d pc hd;rw[hPc] at pc;obtain⟨o0,rfl,hl,t2,rfl⟩:=pc;rw[dN,AF,D4] at t2;have s3:=aB (o:=HO.lst acc) hd;have e3:upd H1 d (HO.lst acc) d=_:=aq;generalize upd H1 d (HO.lst acc)=H3 at s3 e3 |-;push_cast;refine⟨acc,.inl ⟨SqL.of e3,fun l hl3=>?_⟩⟩;have s4:=aB (o:=HO.tup acc) hl3;have e4:upd H3 l (HO.tup acc) l=_:=aq;generalize upd H3 l (HO.tup acc)=H4 at s4 e4 |-;have eh4:=s4 _ _ (s3 _ _ eh);have fin:∀(v:V)(H5:Hp),Same H4 H5->aH ok H5 v (Oi ss left PD w1)->(2<=AL/\∀(p:Addr),H5 p=none->Q (V.ref p) (upd H5 p (HO.tup [V.int M,v]))):=fun v H5 s5 t5=>⟨aU δ,fun p hp=>by
       have s6:=aB (o:=HO.tup [V.int M,v]) hp;have sA:=((s1.trans s3).trans s4).trans s5;refine q _ w1 _ (sA.trans s6) (A5 hw1) (fun w' hw'=>by rw[ew1];exact hle _ (EL hw')) ?_;rw[ew1];exact .tup (hnw.new (sA.none hp)) aq (by show 2<=1000000;decide) (.cons (.int _) (.cons (t5.same s6) .nil))⟩
      have hhl:=thh.length;have hh2:=Wv w1;have hpos:0<(hdL w1).length:=by cases w1 <;> exact Nat.succ_pos _
      have hal:=t2.length;rw[AF] at hal;push_cast [eh4,e4,Uw,ZF];refine⟨fun z=>by rw[z] at hhl;exact absurd hhl (by show ¬0=_;omega),aU ω,fun hnil=>?_,fun hne p hp=>?_⟩
      ·subst hnil;refine fin _ _ (Same.refl _) ?_;unfold Oi;rw[show((eO ss left w1).map fun p=>PD.getD (aX p) A3.none)=[] from Hc.mpr (EO hal.symm),CH];exact .tup oh eh4 zh ((thh.same s3).same s4)
      have s5:=aB (o:=HO.tup (hxs++acc)) hp;exact fin _ _ s5 (.tup (hnw.new (((s1.trans s3).trans s4).none hp)) aq (by rw[AK];omega) (((thh.same (s3.trans s4)).append (t2.same (s3.trans s4))).same s5))
end
noncomputable abbrev dG:List Str:=["stretches","charges","numbers","plans","some","number","plan"]
noncomputable abbrev bB:Stmt:=top 27
theorem eF:bA dG ["stretches","charges"] (aj bB):=⟨rfl,rfl,rfl,ψ,rfl,ψ,ψ⟩
theorem u0:NM_ dG bB 0 "stretches" := .of ψ
theorem nF:NM_ dG bB 1 "charges" := .of ψ
theorem gC:NM_ dG bB 2 "numbers" := .of ψ
theorem gB:NM_ dG bB 3 "plans" := .of ψ
theorem nA:NM_ dG bB 4 "some" := .of ψ
theorem nu:NM_ dG bB 5 "number" := .of ψ
theorem nq:NM_ dG bB 6 "plan" := .of ψ
theorem j4:GI_ bB "charged_ways" := by decide +kernel
theorem nO:GI_ bB "least_by" := by decide +kernel
theorem rW:GI_ bB "len" := by decide +kernel
theorem pP:GI_ bB "range" := by decide +kernel
theorem yE:Bn "leasts_of_sets" := ⟨ψ,ψ⟩
noncomputable abbrev jX:List Str:=["stretches","sizes","numbers","plans"]
noncomputable abbrev cY:Stmt:=top 28
theorem nY:bA jX q6_ (aj cY):=⟨rfl,rfl,rfl,ψ,rfl,ψ,ψ⟩
theorem rK:NM_ jX cY 0 "stretches" := .of ψ
theorem Cp:NM_ jX cY 1 "sizes" := .of ψ
theorem rJ:NM_ jX cY 2 "numbers" := .of ψ
theorem rH:NM_ jX cY 3 "plans" := .of ψ
theorem lR:GI_ cY "leasts_of_sets" := by decide +kernel
theorem mU:GI_ cY "room_charges" := by decide +kernel
theorem Gu:Bn "least_room" := ⟨ψ,ψ⟩
theorem K4 {xs:List V}{m:Nat}{v:V}(h:xs.length=m)(h0:0<m)(e:xs[m-1]?=some v):atI xs (-1)=some v:=by
 unfold atI ixN;rw[if_neg δ,if_pos ω,show((-1:Int)+(xs.length:Nat)).toNat=m-1 by omega];exact e
theorem Xf {ss:Sts}{left:List Nat}(lf:Lf ss left):∃w,oW ss left w:=by
 match left,lf with
 | [],lf=>exact absurd rfl lf.ne
 | [a],_=>exact⟨.pick (lbl ss a),fun k hk=>by rw[AM.mp hk]⟩
 | a::b::l,_=>exact⟨.wit a,AX,by simp⟩
theorem Oh {ss:Sts}{left:List Nat}{w:Wy}{T:List Pl}(lf:Lf ss left)(hw:oW ss left w)(hT:aX left<=T.length):Oi ss left (En T) w=plD (mkP w ((eO ss left w).map fun p=>T.getD (aX p) .tab)):=by
 rw[aaD ss left w _ (AF _)];unfold Oi;rw[JJ];congr 2;refine G1 fun p hp=>?_;obtain⟨l1,l2,_⟩:=jH lf hw p hp;exact JX (nU l1.ne) ω
section
variable {P:AV}{w:A6}{K:AE}{mg:Str->Option An}{base:Heap}{f:Addr}{fd:CA}{bs:List Str}
theorem Ml {f':lY}(hf:ZL f') {n:Nat}(hn:n<=12) (hB:∀x:Str,x∈BLs->mg x=none) (CLeastBy:Cal P w K mg base "least_by" 2 q16_ (zQ f')) (CChargedWays:Cal P w K mg base "charged_ways" 4 q11_ (zT f' n)) (F:Fun K "leasts_of_sets" "leasts_of_sets" bB f fd):dm P w K mg base CX0 5 f fd ["stretches","charges"] (DP f' n):=by
 refine F.okq eF (fun vs H Q E h=>?_) (fun cdv A outer s H vs Q E hr h=>?_)
 ·obtain⟨s,ca,ok,ss,rfl,_⟩:=h;rfl
 obtain⟨s,ca,ok,ss,rfl,hnw,ts,hsn,hch,q⟩:=h;refine⟨_,(aD (bM gC eF.nd (bO (ak au aA rfl)) rfl (.inl rfl))
  (aD (bM gB eF.nd (bO (ak Yh aA rfl)) rfl (.inl rfl))
  (aD (iC Cb rfl (tG pP (hB "range" fM) (ak au (ak (bY bK rW (hB "len" d7) BH d8 (ak (ao nF) aA rfl) rfl rfl) aA rfl) rfl) rfl rfl) (fC nA eF.nd (.inl rfl))
  (aD (qj (bx CLeastBy (hr.mono δ) nO N5 (ak (bx CChargedWays (hr.mono δ) j4 zJ (ak (ao u0) (ak (ao nF) (ak (ao nA) aA rfl) rfl) rfl) rfl rfl) (ak (ao gC) (ak (ao gB) aA rfl) rfl) rfl) rfl rfl) (ou (n:=2) rfl (cI (fC nu eF.nd (.inl rfl)) (cI (fC nq eF.nd (.inl rfl)) j7 rfl) rfl) rfl rfl) rfl rfl rfl)
  (aD (dg (eX (ao gC) (ao nu) rfl rfl rfl rfl rfl) rfl)
  (aK (dg (eX (ao gB) (ao nq) rfl rfl rfl rfl rfl) rfl)))) (fun _=>rfl))
  (aK (aQ (b8 (ak (ao gC) (ak (ao gB) aA rfl) rfl))))))),?_⟩
 have p2:2^n<=4096:=Be (D6 δ hn) δ;have p1:=D0 n;refine aN fun k hk=>?_;push_cast;refine⟨aU δ,fun na hna=>?_⟩;subst hk;refine aN fun k hk=>?_;push_cast;refine⟨aU δ,fun pa hpa=>?_⟩;have s1:=aB (o:=HO.lst [V.int 0]) hna;have s2:=aB (o:=HO.lst [V.non]) hpa;have en2:=s2 _ _ (show upd H na (HO.lst [V.int 0]) na=_ from aq);have ep2:upd (upd H na (HO.lst [V.int 0])) pa (HO.lst [V.non]) pa=_:=aq;have hpn:H pa=none:=s1.none hpa;have hne:na≠pa:=aF (show upd H na (HO.lst [V.int 0]) na=_ from aq) hpa;have s12:=s1.trans s2;generalize upd (upd H na (HO.lst [V.int 0])) pa (HO.lst [V.non])=H2 at s12 en2 ep2 |-;clear s1 s2 hpa;subst hk;refine aN fun k hk=>?_;refine lU fun R hR=>?_;obtain⟨cds,ec,lc,hc⟩:=hch.same s12;push_cast [ec,Fv];rw[AF,lc];generalize hm:2^n=m at p1 p2 |-;rw[show((m:Int)-1).toNat=m-1 by omega];refine⟨ω,?_⟩;obtain⟨ok2,hok2⟩:∃ok2:Addr->Prop,ok2=fun a=>ok a/\a≠na/\a≠pa:=⟨_,rfl⟩;have nw2:∀{H':Hp}{xs ys:List V},Same H H'->H' na=some (.lst xs)->H' pa=some (.lst ys)->cW ok2 H':=fun {H' xs ys} sH e1 e2 H3 p s' hp=>by
  rw[hok2];exact⟨hnw H3 p (sH.trans s') hp,(aF (s' _ _ e1) hp).symm,(aF (s' _ _ e2) hp).symm⟩
 have ts2:aH ok2 H s (.list (ss.map stD)):=ts.keep fun a o h e=>⟨by rw[hok2];exact⟨h,aF e hna,aF e hpn⟩,e⟩;have kn:∀{H':Hp}{xs:List V}{ds:List A3}{o:HO},aG ok2 H' xs ds->aG ok2 (upd H' na o) xs ds:=fun t=>t.keep fun a o h e=>⟨h,by rw[hok2] at h;rw[aM h.2.1];exact e⟩;have kp:∀{H':Hp}{xs:List V}{ds:List A3}{o:HO},aG ok2 H' xs ds->aG ok2 (upd H' pa o) xs ds:=fun t=>t.keep fun a o h e=>⟨h,by rw[hok2] at h;rw[aM h.2.2];exact e⟩;obtain⟨Pv,hPv⟩:∃Pv:Nat->L2.St->Hp->Prop,Pv=fun(i:Nat) σ H'=>∃(N:List Int)(T:List Pl)(ps:List V)(o4 o5 o6:Option V),Same H H'/\H' na=some (.lst (N.map V.int))/\H' pa=some (.lst ps)/\aG ok2 H' ps (En T)/\Tbl f' ss n (i+1) N/\PlT f' ss n (i+1) N T/\σ=[some s,some (.ref ca),some (.ref na),some (.ref pa),o4,o5,o6]:=⟨_,rfl⟩;refine Ku hR Pv (by rw[hPv];exact⟨[0],[.tab],[.non],_,_,_,s12,en2,ep2,.cons .non .nil,Tbl.start f' ss n,PlT.start f' ss n _,rfl⟩) ?_ ?_
 ·intro i σ H3 hi pv;rw[hPv] at pv;obtain⟨N,T,ps,o4,o5,o6,s3,en3,ep3,tp3,tb,pt,rfl⟩:=pv;have him:i+1<2^n:=ω;have lf:=iT hsn (show 0<i+1 by omega) him;have hset:=jD him;refine aN fun k2 hk2=>?_;push_cast;rw[show(1:Int)+(i:Int)=((i+1:Nat):Int) by omega];refine⟨s,ca,i+1,ok2,ss,rfl,nw2 s3 en3 ep3,ts2.same s3,hsn,ω,him,hch.same s3,fun r xs W H4 s4 hr4 er4 hW t4 hx4=>?_⟩;have en4:=s4 _ _ en3;have ep4:=s4 _ _ ep3;have hTl:T.length=N.length:=by rw[pt.len,tb.len]
  have hWne:W≠[]:=fun z=>by
   obtain⟨w1,hw1⟩:=Xf lf;have:=(hW w1).mpr hw1;rw[z] at this;cases this
  refine⟨r,na,pa,ok2,ss,bC n (i+1),xs,W,N,ps,En T,rfl,⟨er4,t4,hx4,en4,fun w1 hw1 p hp=>by
   obtain⟨_,l2,_⟩:=jH lf ((hW w1).mp hw1) p hp;rw[tb.len];omega⟩,nw2 (s3.trans s4) en4 ep4,ep4,tp3.same s4,by rw[wJ,hTl],hWne,fun v w1 H5 s5 hw1 hle t5=>?_⟩
  have en5:=s5 _ _ en4;have ep5:=s5 _ _ ep4;have tp5:=(tp3.same s4).same s5;have isw:=(hW w1).mp hw1;rw[Oh lf isw (by rw[hset,pt.len];exact A1 _)] at t5;have good:=Za hf hsn him ω pt isw rfl;have tb':=tb.snoc hsn ω him (c:=iU f' N ss (bC n (i+1)) w1) ⟨⟨w1,isw,rfl⟩,fun w' hw'=>hle w' ((hW w').mpr hw')⟩;have pt':=pt.snoc tb.len good;have hTne:T≠[]:=fun z=>by have:=pt.len;rw[z] at this;cases this
  generalize mkP w1 ((eO ss (bC n (i+1)) w1).map fun p=>T.getD (aX p) .tab)=pl at *;generalize iU f' N ss (bC n (i+1)) w1=c at *;cases t5 with
  | tup ot et zt tt=>
   cases tt with
   | cons tc tt=>
    cases tt with
    | cons tpl tt=>
     cases tt;cases tc;rename_i ta vp;push_cast [et];subst hk2;refine aN fun k2 hk2=>?_;push_cast [en5];refine⟨JM (by rw[AF,tb.len];omega),?_⟩;subst hk2;have ep6:upd H5 na (HO.lst (N.map V.int++[V.int c])) pa=some (HO.lst ps):=(aM hne.symm).trans ep5;have hpl:=tp3.length;rw[wJ,pt.len] at hpl;push_cast [ep6];refine⟨JM ω,?_⟩;rw[hPv];refine⟨N++[c],T++[pl],ps++[vp],_,_,_,dH (dH ((s3.trans s4).trans s5) hna) hpn,?_,aq,?_,tb',pt',rfl⟩
     ·rw[aM hne,aq,A9];rfl
     rw[LK hTne];exact kp (kn (tp5.append (.cons tpl .nil)))
 intro σ H3 pv;rw[hPv] at pv;obtain⟨N,T,ps,o4,o5,o6,s3,en3,ep3,tp3,tb,pt,rfl⟩:=pv;show k _ _;subst hk;push_cast;refine⟨aU δ,fun t ht=>?_⟩;have s4:=aB (o:=HO.tup [V.ref na,V.ref pa]) ht;rw[show m-1+1=2^n by omega] at tb pt;exact q t na pa N T ps _ (s3.trans s4) aq (s4 _ _ en3) (s4 _ _ ep3) ((tp3.same s4).keep fun a o h e=>⟨by rw[hok2] at h;exact h.1,e⟩) tb pt
theorem BV {n:Nat}(hn:n<=12) (hn0:0<n) (hB:∀x:Str,x∈BLs->mg x=none) (CLeastsOfSets:∀ss zs,Cal P w K mg base "leasts_of_sets" 5 ["stretches","charges"] (DP (eZ ss zs) n)) (CRoomCharges:Cal P w K mg base "room_charges" 3 q6_ (wg n)) (F:Fun K "least_room" "least_room" cY f fd):dm P w K mg base CX0 6 f fd q6_ (sW n):=by
 refine F.okq nY (fun vs H Q E h=>?_) (fun cdv A outer s H vs Q E hr h=>?_)
 ·obtain⟨s,z,ok,ss,zs,rfl,_⟩:=h;rfl
 obtain⟨s,z,ok,ss,zs,rfl,hnw,ts,hsn,hz,h5,few,q⟩:=h;have CLeastsOfSets:=CLeastsOfSets ss zs;refine⟨_,(aD (qj (bx CLeastsOfSets (hr.mono δ) lR yE (ak (ao rK) (ak (bx CRoomCharges (hr.mono δ) mU zH (ak (ao rK) (ak (ao Cp) aA rfl) rfl) rfl rfl) aA rfl) rfl) rfl rfl) (ou (n:=2) rfl (cI (fC rJ nY.nd (.inl rfl)) (cI (fC rH nY.nd (.inl rfl)) j7 rfl) rfl) rfl rfl) rfl rfl rfl)
  (aK (aQ (b8 (ak (aJ aV (ao rJ) (qT mj au) (fun _ _=>rfl)) (ak (aJ aV (ao rH) (qT mj au) (fun _ _=>rfl)) aA rfl) rfl))))),?_⟩
 have p2:=D0 n;have p3:2^1<=2^n:=D6 δ hn0;refine aN fun k hk=>?_;push_cast;refine⟨s,z,ok,ss,zs,rfl,hnw,ts,hsn,hz,h5,few,fun ca H1 s1 hca hch=>?_⟩;refine⟨s,ca,ok,ss,rfl,hnw.same s1,ts.same s1,hsn,hch,fun t na pa N T ps H2 s2 et en ep tp tb pt=>?_⟩;push_cast [et];subst hk;have good:=pt.ok (2^n-1) ω ω;rw[yF,EG] at good;have hpl:=tp.length;rw[wJ,pt.len] at hpl;have hN:=tb.len;have a1:atI (N.map V.int) (-1)=some (V.int (N.getD (2^n-1) 0)):=K4 (by rw[AF];exact hN) p2 (by rw[AU,AN,AD ω];rfl);have hpx:ps[2^n-1]?=some (ps[2^n-1]'ω):=AD ω;obtain⟨dp,hdp,tdp⟩:=tp.get hpx;have a2:atI ps (-1)=some (ps[2^n-1]'ω):=K4 hpl p2 hpx;generalize ps[2^n-1]'ω=vp at tdp a2;have edp:dp=plD (T.getD (2^n-1) .tab):=by
  have:=JX (T:=T) (x:=2^n-1) ω (by rw[pt.len];omega);rw[AN,hdp] at this;exact this
 rw[edp] at tdp;push_cast [en,ep,a1,a2];refine⟨aU δ,fun p hp=>?_⟩;have s3:=aB (o:=HO.tup [V.int (N.getD (2^n-1) 0),vp]) hp;exact q _ _ N _ ((s1.trans s2).trans s3) (.tup (hnw.new ((s1.trans s2).none hp)) aq (by show 2<=1000000;decide) (.cons (.int _) (.cons (tdp.same s3) .nil))) good.1 good.2.2 good.2.1 tb
noncomputable abbrev dF:List Str:=["_law_tape_here","_law_many","_law_low","_law_labels","_law_found","_law_k","_law_far","_law_wide","_law_label"]
noncomputable abbrev bH:Stmt:=top 33
theorem cj:bA dF q1_ (aj bH):=⟨rfl,rfl,rfl,ψ,rfl,ψ,ψ⟩
theorem bZ:NM_ dF bH 0 "_law_tape_here" := .of ψ
theorem zj:NM_ dF bH 1 "_law_many" := .of ψ
theorem gn:NM_ dF bH 2 "_law_low" := .of ψ
theorem iR:NM_ dF bH 3 "_law_labels" := .of ψ
theorem gm:NM_ dF bH 4 "_law_found" := .of ψ
theorem zf:NM_ dF bH 5 "_law_k" := .of ψ
theorem pZ:NM_ dF bH 6 "_law_far" := .of ψ
theorem gj:NM_ dF bH 7 "_law_wide" := .of ψ
theorem gh:NM_ dF bH 8 "_law_label" := .of ψ
theorem bG:GI_ bH "_law_take" := by decide +kernel
theorem vf:GI_ bH "max" := by decide +kernel
theorem rT:GI_ bH "range" := by decide +kernel
theorem Dg:Bn "_law_stretches" := ⟨ψ,ψ⟩
theorem Y0 (hB:∀x:Str,x∈BLs->mg x=none) (CZTake:Cal P w K mg base "_law_take" 2 q1_ (qe 2)) (F:Fun K "_law_stretches" "_law_stretches" bH f fd):dm P w K mg base CX0 3 f fd q1_ G9:=by
 refine F.okq cj (fun vs H Q E h=>?_) (fun cdv A outer s H vs Q E hr h=>?_)
 ·obtain⟨p,m,B,rfl,_⟩:=h;rfl
 obtain⟨p,m,B,rfl,tp,hB0,hB1,hm1,hm2,q⟩:=h;refine⟨_,(aD (bM gn cj.nd (aJ aV (bO (ak au (ak (aL fJ (bx CZTake (hr.mono δ) bG dX (ak (ao bZ) (ak au aA rfl) rfl) rfl rfl) au) (ak (aL fJ (bx CZTake (hr.mono δ) bG dX (ak (ao bZ) (ak (aL tM au au) aA rfl) rfl) rfl rfl) (aL tM au au)) (ak (aL fJ au (aL jK au au)) aA rfl) rfl) rfl) rfl)) (bx CZTake (hr.mono δ) bG dX (ak (ao bZ) (ak au aA rfl) rfl) rfl rfl) (fun _ _=>rfl)) rfl (.inl rfl))
  (aD (bM iR cj.nd (aL bD au (bx CZTake (hr.mono δ) bG dX (ak (ao bZ) (ak au aA rfl) rfl) rfl rfl)) rfl (.inl rfl))
  (aD (bM gm cj.nd (bO aA) rfl (.inl rfl))
  (aD (iC Cb rfl (jw rT (hB "range" fM) (ak (ao zj) aA rfl) rfl) (fC zf cj.nd (.inl rfl))
  (aD (bM pZ cj.nd (aJ aV (bO (ak (aL tM au au) (ak (aL tM au au) aA rfl) rfl)) (bx CZTake (hr.mono δ) bG dX (ak (ao bZ) (ak au aA rfl) rfl) rfl rfl) (fun _ _=>rfl)) rfl (.inl rfl))
  (aD (bM gj cj.nd (bO (ak au (ak au (ak au (ak (aL bD au (bx CZTake (hr.mono δ) bG dX (ak (ao bZ) (ak au aA rfl) rfl) rfl rfl)) (ak (aL bD au (bx CZTake (hr.mono δ) bG dX (ak (ao bZ) (ak au aA rfl) rfl) rfl rfl)) (ak (aL bD au (bx CZTake (hr.mono δ) bG dX (ak (ao bZ) (ak (ao pZ) aA rfl) rfl) rfl rfl)) aA rfl) rfl) rfl) rfl) rfl) rfl)) rfl (.inl rfl))
  (aD (bM gj cj.nd (aJ aV (ao gj) (bY (Nx rfl) vf (hB "max" Ii) boot_max Jk (ak au (ak (aL fJ (bx CZTake (hr.mono δ) bG dX (ak (ao bZ) (ak au aA rfl) rfl) rfl rfl) au) aA rfl) rfl) rfl rfl) (fun _ _=>rfl)) rfl (.inl rfl))
  (aD (bM gh cj.nd (bx CZTake (hr.mono δ) bG dX (ak (ao bZ) (ak (ao iR) aA rfl) rfl) rfl rfl) rfl (.inl rfl))
  (aD (cT (BK (BJ (bw (YL hr.bJ) (ao gm) (bO aA) (aO _)) (vA (bw (cB hr.bJ) (aJ aV (aJ aV (ao gm) (qT mj au) (fun _ _=>rfl)) au (fun _ _=>rfl)) (ao gh) (aO _))))) (aK (bM gh cj.nd (aL iD (aL bD (aL bD (ao gh) au) (bx CZTake (hr.mono δ) bG dX (ak (ao bZ) (ak (aL fJ (ao iR) au) aA rfl) rfl) rfl rfl)) (ao iR)) rfl (.inl rfl))) bT)
  (aD (dg (eX (ao gm) (b8 (ak (ao gn) (ak (aL fJ (aL bD (ao gn) (ao gj)) au) (ak (ao gh) aA rfl) rfl) rfl)) rfl rfl rfl rfl rfl) rfl)
  (aK (bM gn cj.nd (aL bD (ao gn) (ao gj)) rfl (.inl rfl))))))))) (fun _=>rfl))
  (aK (aQ (ao gm))))))),?_⟩
 refine aN fun k hk=>?_;push_cast;refine⟨p,100,B,rfl,tp,by show B+2<=1000100;omega,δ,δ,δ,fun z=>absurd z δ,fun r1 H1 r10 r11 s1 tp1=>?_⟩;push_cast;refine⟨⟨δ,δ,δ⟩,?_⟩;refine⟨p,10^9,B+2,rfl,tp1,by show B+2+2<=1000100;omega,δ,δ,δ,fun z=>by decide,fun r2 H2 r20 r21 s2 tp2=>?_⟩;push_cast [IA];refine⟨⟨δ,δ,δ⟩,?_⟩;refine⟨⟨δ,δ,δ⟩,aU δ,fun l0 hl0=>?_⟩;have s3:=aB (o:=HO.lst [V.int 0,V.int (r1-50),V.int (r2-10^Cf 8),V.int (0-2^Cf 39)]) hl0;have tp3:=tp2.same s3;have n3:=tp2.ne hl0;have e3:upd H2 l0 (HO.lst [V.int 0,V.int (r1-50),V.int (r2-10^Cf 8),V.int (0-2^Cf 39)]) l0=_:=aq;generalize upd H2 l0 (HO.lst [V.int 0,V.int (r1-50),V.int (r2-10^Cf 8),V.int (0-2^Cf 39)])=H3 at s3 tp3 e3 |-;refine⟨p,4,B+2+2,rfl,tp3,by show B+2+2+2<=1000100;omega,δ,δ,δ,fun z=>absurd z δ,fun r4 H4 r40 r41 s4 tp4=>?_⟩;obtain⟨lo,hlo,elo⟩:=qZ (is:=[0,r1-50,r2-10^Cf 8,0-2^Cf 39]) r40 r41;replace elo:atI [V.int 0,V.int (r1-50),V.int (r2-10^Cf 8),V.int (0-2^Cf 39)] r4=some (.int lo):=elo;have e4:=s4 _ _ n3 e3;have blo:-(10^12)<=lo/\lo<=10^9:=by
  simp only[Bi,B2,or_false] at hlo;have:(10:Int)^Cf 8=100000000:=by decide
  have:(2:Int)^Cf 39=549755813888:=by decide
  rcases hlo with z|z|z|z <;> omega
 have sx4:cL p H H4:=((s1.trans s2).trans s3.x).trans s4;push_cast [e4,elo];subst hk;refine aN fun k hk=>?_;push_cast;refine⟨p,4,B+2+2+2,rfl,tp4,by show B+2+2+2+2<=1000100;omega,δ,δ,δ,fun z=>absurd z δ,fun r5 H5 r50 r51 s5 tp5=>?_⟩;push_cast;subst hk;refine aN fun k hk=>?_;push_cast;refine⟨aU δ,fun l hl=>?_⟩;have sx5:=sx4.trans s5;have hlp:l≠p:=tp5.ne hl;have Hl:H l=none:=(FQ sx5 tp5 hl).2;have s6:=aB (o:=HO.lst []) hl;have tp6:=tp5.same s6;have e6:upd H5 l (HO.lst []) l=_:=aq;generalize upd H5 l (HO.lst [])=H6 at s6 tp6 e6 |-;have sx6:=sx5.trans s6.x;subst hk;obtain⟨OD,hOD⟩:∃OD:Addr->Prop,OD=fun a=>a≠p/\a≠l:=⟨_,rfl⟩;have kd:∀{H H':Hp},cL p H H'->∀a o,OD a->H a=some o->OD a/\H' a=some o:=fun {H H'} sx a o h e=>by
  refine⟨h,sx a o ?_ e⟩;rw[hOD] at h;exact h.1
 refine aN fun k hk=>?_;refine lU fun R hR=>?_;push_cast [uN];refine⟨ω,ω,?_⟩;obtain⟨Pv,hPv⟩:∃Pv:Nat->L2.St->Hp->Prop,Pv=fun(i:Nat) σ H'=>∃(xs:List V)(ss:List (Int×Int×Int)) (lo:Int) (o5 o6 o7 o8:Option V),cL p H H'/\cG H' p (B+8+18*(i:Int))/\H' l=some (.lst xs)/\aG OD H' xs (ss.map stD)/\ss.length=i/\GD ss /\
  (∀s,ss[ss.length-1]?=some s->lo=s.2.1+1)/\(∀s,ss[0]?=some s->s.1<=10^9)/\-(10^12)<=lo/\lo<=10^9+(10^12+10)*(i:Int)/\σ=[some (.ref p),some (.int m),some (.int lo),some (.int (2+r5)),some (.ref l),o5,o6,o7,o8]:=⟨_,rfl⟩
 refine Ku hR Pv (by rw[hPv];exact⟨[],[],lo,_,_,_,_,sx6,tp6.le (by show B+2+2+2+2<=B+8+18*((0:Nat):Int);omega),e6,.nil,rfl,GD.nil,fun s h=>(by cases h),fun s h=>(by cases h),blo.1,by show lo<=10^9+(10^12+10)*((0:Nat):Int);omega,rfl⟩) ?_ ?_
 ·intro i σ H7 hi pv;rw[hPv] at pv;obtain⟨xs,ss,lo,o5,o6,o7,o8,sx7,tp7,e7,ts7,hsl,row,hlast,hfst,bl1,bl2,rfl⟩:=pv;have hi60:i<60:=ω;refine aN fun k2 hk2=>?_;push_cast;refine⟨⟨δ,δ,δ⟩,⟨δ,δ,δ⟩,aU δ,fun l1 hl1=>?_⟩;have s8:=aB (o:=HO.lst [V.int (10^Cf 9),V.int (10^Cf 12)]) hl1;have tp8:=tp7.same s8;have n8:=tp7.ne hl1;have e8:=s8 _ _ e7;have ts8:=ts7.same s8;have e81:upd H7 l1 (HO.lst [V.int (10^Cf 9),V.int (10^Cf 12)]) l1=_:=aq;generalize upd H7 l1 (HO.lst [V.int (10^Cf 9),V.int (10^Cf 12)])=H8 at s8 tp8 e8 ts8 e81 |-;have sx8:=sx7.trans s8.x;refine⟨p,2,B+8+18*(i:Int),rfl,tp8,by show B+8+18*(i:Int)+2<=1000100;omega,δ,δ,δ,fun z=>absurd z δ,fun r9 H9 r90 r91 s9 tp9=>?_⟩;obtain⟨far,hfar,efar⟩:=qZ (is:=[10^Cf 9,10^Cf 12]) r90 r91;replace efar:atI [V.int (10^Cf 9),V.int (10^Cf 12)] r9=some (.int far):=efar;have e91:=s9 _ _ n8 e81;have e9:=s9 _ _ hlp e8;have ts9:=ts8.keep (kd s9);have sx9:=sx8.trans s9;have bfar:10^9<=far/\far<=10^12:=by
   simp only[Bi,B2,or_false] at hfar;have:(10:Int)^Cf 9=1000000000:=by decide
   have:(10:Int)^Cf 12=1000000000000:=by decide
   rcases hfar with z|z <;> omega
  push_cast [e91,efar];subst hk2;refine aN fun k2 hk2=>?_;push_cast;refine⟨p,4,B+8+18*(i:Int)+2,rfl,tp9,by show B+8+18*(i:Int)+2+2<=1000100;omega,δ,δ,δ,fun z=>absurd z δ,fun u1 H10 u10 u11 s10 tp10=>?_⟩;push_cast;refine⟨p,30,B+8+18*(i:Int)+2+2,rfl,tp10,by show B+8+18*(i:Int)+2+2+2<=1000100;omega,δ,δ,δ,fun z=>absurd z δ,fun u2 H11 u20 u21 s11 tp11=>?_⟩;push_cast;refine⟨p,far,B+8+18*(i:Int)+2+2+2,rfl,tp11,by show B+8+18*(i:Int)+2+2+2+2<=1000100;omega,ω,ω,δ,fun _=>by decide,fun u3 H12 u30 u31 s12 tp12=>?_⟩;push_cast;refine⟨aU δ,fun l2 hl2=>?_⟩;have e12:=s12 _ _ hlp (s11 _ _ hlp (s10 _ _ hlp e9));have ts12:=((ts9.keep (kd s10)).keep (kd s11)).keep (kd s12);have sx12:=((sx9.trans s10).trans s11).trans s12;have s13:=aB (o:=HO.lst [V.int 1,V.int 1,V.int 1,V.int (2+u1),V.int (2+u2),V.int (1+u3)]) hl2;have tp13:=tp12.same s13;have n13:=tp12.ne hl2;have e13:=s13 _ _ e12;have ts13:=ts12.same s13;have e132:upd H12 l2 (HO.lst [V.int 1,V.int 1,V.int 1,V.int (2+u1),V.int (2+u2),V.int (1+u3)]) l2=_:=aq;generalize upd H12 l2 (HO.lst [V.int 1,V.int 1,V.int 1,V.int (2+u1),V.int (2+u2),V.int (1+u3)])=H13 at s13 tp13 e13 ts13 e132 |-;have sx13:=sx12.trans s13.x;subst hk2;refine aN fun k2 hk2=>?_;push_cast;refine⟨p,11,B+8+18*(i:Int)+2+2+2+2,rfl,tp13,by show B+8+18*(i:Int)+2+2+2+2+2<=1000100;omega,δ,δ,δ,fun z=>absurd z δ,fun u4 H14 u40 u41 s14 tp14=>?_⟩;have e14:=s14 _ _ hlp e13;have ts14:=ts13.keep (kd s14);have sx14:=sx13.trans s14;have e142:=s14 _ _ n13 e132;have bu:0<=(if u4-5>0 then u4-5 else 0)/\(if u4-5>0 then u4-5 else 0)<6:=by split <;> omega
  obtain⟨wide,hwide,ewide⟩:=qZ (is:=[1,1,1,2+u1,2+u2,1+u3]) bu.1 bu.2;replace ewide:atI [V.int 1,V.int 1,V.int 1,V.int (2+u1),V.int (2+u2),V.int (1+u3)] (if u4-5>0 then u4-5 else 0)=some (.int wide):=ewide;have bwide:1<=wide/\wide<=10^12:=by
   simp only[Bi,B2,or_false] at hwide;rcases hwide with z|z|z|z|z|z <;> omega
  push_cast [e142,ewide];subst hk2;refine aN fun k2 hk2=>?_;push_cast;refine⟨p,2+r5,B+8+18*(i:Int)+2+2+2+2+2,rfl,tp14,by show B+8+18*(i:Int)+2+2+2+2+2+2<=1000100;omega,ω,ω,δ,fun z=>absurd z ω,fun lab H15 lab0 lab1 s15 tp15=>?_⟩;have e15:=s15 _ _ hlp e14;have ts15:=ts14.keep (kd s15);have sx15:=sx14.trans s15;push_cast;subst hk2;refine aN fun k2 hk2=>?_;have rest:∀(b:Int) H16 o5 o6,0<=b->b<=9->cL p H H16->H16 l=some (.lst xs)->aG OD H16 xs (ss.map stD)->cG H16 p (B+8+18*(i:Int)+14)->k2 [some (.ref p),some (.int m),some (.int lo),some (.int (2+r5)),some (.ref l),o5,o6,some (.int wide),some (.int b)] H16:=by
   intro b H16 o5 o6 b0 b9 sx16 e16 ts16 tp16;subst hk2;refine aN fun k3 hk3=>?_;push_cast [e16];refine⟨aU δ,fun t ht=>?_⟩;have s17:=aB (o:=HO.tup [V.int lo,V.int (lo+wide-1),V.int b]) ht;have e17:=s17 _ _ e16;have tp17:=tp16.same s17;have ts17:=ts16.same s17;have nt:t≠p:=tp16.ne ht;have nl:t≠l:=(aF e16 ht).symm;have et:upd H16 t (HO.tup [V.int lo,V.int (lo+wide-1),V.int b]) t=_:=aq;generalize upd H16 t (HO.tup [V.int lo,V.int (lo+wide-1),V.int b])=H17 at s17 e17 tp17 ts17 et |-;have hxl:=ts17.length;rw[AF] at hxl;push_cast [e17];refine⟨A8 (show xs.length<1000000 by omega) (aU (A1 _)),?_⟩;have sx18:cL p H (upd H17 l (HO.lst (xs++[V.ref t]))):=Lq (sx16.trans s17.x) Hl;have tp18:cG (upd H17 l (HO.lst (xs++[V.ref t]))) p (B+8+18*(i:Int)+14):=tp17.upd hlp;have e18:upd H17 l (HO.lst (xs++[V.ref t])) l=_:=aq;have kk:∀a o,OD a->H17 a=some o->OD a/\upd H17 l (HO.lst (xs++[V.ref t])) a=some o:=fun a o h e=>by
    refine⟨h,?_⟩;rw[hOD] at h;rw[aM h.2];exact e
   have tt:aH OD H17 (.ref t) (stD (lo,lo+wide-1,b)):=.tup (by rw[hOD];exact⟨nt,nl⟩) et (by show 3<=1000000;decide) (.cons (.int _) (.cons (.int _) (.cons (.int _) .nil)));have ts18:=(ts17.keep kk).append (.cons (tt.keep kk) .nil);generalize upd H17 l (HO.lst (xs++[V.ref t]))=H18 at sx18 tp18 e18 ts18 |-;subst hk3;push_cast;rw[hPv];refine⟨_,ss++[(lo,lo+wide-1,b)],lo+wide,_,_,_,_,sx18,tp18.le (by show B+8+18*(i:Int)+14<=B+8+18*((i+1:Nat):Int);omega),e18,by rw[A9];exact ts18,by rw[AK,BM,hsl],row.snoc ω ⟨b0,b9⟩ ⟨bl1,by rw[hsl];omega⟩ hlast,fun s hs=>?_,fun s hs=>?_,ω,by show lo+wide<=10^9+(10^12+10)*((i+1:Nat):Int);omega,rfl⟩
   ·rw[AK,BM,IX,BU (A1 _),IU] at hs;cases hs;show lo+wide=lo+wide-1+1;omega
   cases ss with
   | nil=>
    cases hs;show lo<=10^9;have:i=0:=hsl.symm;subst this;omega
   | cons s0 ss0=>exact hfst s hs
  refine gQ fun kt ke hkt hke=>?_;push_cast;refine⟨aU δ,fun l3 hl3=>?_⟩;have s16:=aB (o:=HO.lst []) hl3;refine⟨_,_,xs,rfl,rfl,s16 _ _ e15,aq,?_⟩;have e16:=s16 _ _ e15;have ts16:=ts15.same s16;have sx16:=sx15.trans s16.x;have tp16:=tp15.same s16;generalize upd H15 l3 (HO.lst [])=H16 at s16 e16 ts16 sx16 tp16 |-;have hxl:=ts16.length;rw[AF] at hxl;cases hx:xs.isEmpty with
  | true=>
   push_cast;subst hke;push_cast;exact rest lab H16 _ _ lab0 ω sx16 e16 ts16 (tp16.le (by show B+8+18*(i:Int)+2+2+2+2+2+2<=_;omega))
  | false=>
   have hpos:1<=xs.length:=by
    cases xs with
    | nil=>cases hx
    | cons a b=>simp
   obtain⟨j,x,hxj,hxl2⟩:=Wo xs hpos;obtain⟨ax,sx,rfl,okx,hsx,ex⟩:=ts16.st hxj;push_cast [e16,hxl2,ex];split
   ·subst hkt;push_cast;refine⟨p,2+r5-1,B+8+18*(i:Int)+2+2+2+2+2+2,rfl,tp16,by show B+8+18*(i:Int)+2+2+2+2+2+2+2<=1000100;omega,ω,ω,δ,fun z=>absurd z ω,fun u6 H17 u60 u61 s17 tp17=>?_⟩;push_cast;refine⟨ω,?_⟩;have h1:=Fk (lab+1+u6) (show(2+r5:Int)≠0 by omega);have h2:=D9 (lab+1+u6) (show(0:Int)<2+r5 by omega);exact rest _ H17 _ _ h1 ω (sx16.trans s17) (s17 _ _ hlp e16) (ts16.keep (kd s17)) (tp17.le (by show B+8+18*(i:Int)+2+2+2+2+2+2+2<=_;omega))
   subst hke;push_cast;exact rest lab H16 _ _ lab0 ω sx16 e16 ts16 (tp16.le (by show B+8+18*(i:Int)+2+2+2+2+2+2<=_;omega))
 intro σ H7 pv;rw[hPv] at pv;obtain⟨xs,ss,lo,o5,o6,o7,o8,sx7,tp7,e7,ts7,hsl,row,hlast,hfst,bl1,bl2,rfl⟩:=pv;show k _ _;subst hk;push_cast;have hxl:=ts7.length;rw[AF] at hxl;refine q l ss H7 sx7 (tp7.le ω) (.lst hlp e7 ω (ts7.keep fun a o h e=>?_)) ω row hfst;rw[hOD] at h;exact⟨h.1,e⟩
noncomputable abbrev Jv:List Str:=["_law_stretches_here","_law_left_here"]
noncomputable abbrev nZ:Stmt:=top 35
theorem Uj:bA Jv q4_ (aj nZ):=⟨rfl,rfl,rfl,ψ,rfl,ψ,ψ⟩
theorem EY:NM_ Jv nZ 0 "_law_stretches_here" := .of ψ
theorem Ez:NM_ Jv nZ 1 "_law_left_here" := .of ψ
theorem W4:Bn "_law_span" := ⟨ψ,ψ⟩
noncomputable abbrev oO:List Str:=["_law_tape_here","_law_many","_law_most"]
noncomputable abbrev eG:Stmt:=top 34
theorem zV:bA oO q1_ (aj eG):=⟨rfl,rfl,rfl,ψ,rfl,ψ,ψ⟩
theorem Ia:NM_ oO eG 0 "_law_tape_here" := .of ψ
theorem HY:NM_ oO eG 1 "_law_many" := .of ψ
theorem HX:NM_ oO eG 2 "_law_most" := .of ψ
theorem yc:GI_ eG "_law_take" := by decide +kernel
theorem xZ:GI_ eG "range" := by decide +kernel
theorem xY:GI_ eG "tuple" := by decide +kernel
theorem NQ:Bn "_law_prices" := ⟨ψ,ψ⟩
theorem Wb (hB:∀x:Str,x∈BLs->mg x=none) (F:Fun K "_law_span" "_law_span" nZ f fd):dm P w K mg base CX0 1 f fd q4_ lu:=by
 refine F.okq Uj (fun vs H Q E h=>?_) (fun cdv A outer s H vs Q E hr h=>?_)
 ·obtain⟨s,l,ok,ss,left,rfl,_⟩:=h;rfl
 obtain⟨s,l,ok,ss,left,rfl,ts,tl,lf,q⟩:=h;refine⟨_,(aK (aQ (aL bD (aL fJ (aJ aV (aJ aV (ao EY) (aJ aV (ao Ez) (qT mj au) (fun _ _=>rfl)) (fun _ _=>rfl)) au (fun _ _=>rfl)) (aJ aV (aJ aV (ao EY) (aJ aV (ao Ez) au (fun _ _=>rfl)) (fun _ _=>rfl)) au (fun _ _=>rfl))) au))),?_⟩;obtain⟨la,rfl,_,el,_⟩:=tl.left;replace el:H la=some (.lst (nv left)):=el;cases ts with
 | lst o es zs tss=>
  obtain⟨k1,e1,m1,a1⟩:=vD lf.ne;obtain⟨k0,e0,m0,a0⟩:=vG lf.ne;obtain⟨p1,x1,y1⟩:=tss.stN (lf.lt _ m1);obtain⟨p0,x0,y0⟩:=tss.stN (lf.lt _ m0);unfold bR at q;rw[e1,e0] at q;push_cast [el,a1,a0,es,x1,x0,y1,y0];exact q
theorem Mj (hB:∀x:Str,x∈BLs->mg x=none) (CZTake:Cal P w K mg base "_law_take" 2 q1_ (qe 2)) (F:Fun K "_law_prices" "_law_prices" eG f fd):dm P w K mg base CX0 3 f fd q1_ DN:=by
 refine F.okq zV (fun vs H Q E h=>?_) (fun cdv A outer s H vs Q E hr h=>?_)
 ·obtain⟨p,B,rfl,_⟩:=h;rfl
 obtain⟨p,B,rfl,tp,hB0,hB1,q⟩:=h;refine⟨_,(aD (bM HX zV.nd (aJ aV (bO (ak au (ak au (ak au aA rfl) rfl) rfl)) (bx CZTake (hr.mono δ) yc dX (ak (ao Ia) (ak au aA rfl) rfl) rfl rfl) (fun _ _=>rfl)) rfl (.inl rfl))
  (aK (aQ (wG p7 xY (hB "tuple" rM) boot_tuple sy (ak (cH (NX:=oO) (kX:=(aj eG).names) ["_law_k","_law_tape_here","_law_most"] [none,some 0,some 2] rfl rfl ⟨rfl,ψ,ψ,ψ,ψ⟩ rfl (jw xZ (hB "range" fM) (ak (ao HY) aA rfl) rfl) (fun _ _ _ _ _=>(bL 0 (show BQ (["_law_k","_law_tape_here","_law_most"]:List Str) from by decide +kernel) rfl (C2 rfl))) (fun _ _ _ _ _=>gH) (fun _ _ _ _ _=>(aL bD au (bx CZTake (hr.mono δ) rfl dX (ak (bh 1) (ak (bh 2) aA rfl) rfl) rfl rfl)))) aA rfl) rfl rfl)))),?_⟩
 refine aN fun k hk=>?_;push_cast;refine⟨aU δ,fun l0 hl0=>?_⟩;have s3:=aB (o:=HO.lst [V.int 1,V.int 5,V.int 99]) hl0;have tp3:=tp.same s3;have n3:=tp.ne hl0;have e3:upd H l0 (HO.lst [V.int 1,V.int 5,V.int 99]) l0=_:=aq;generalize upd H l0 (HO.lst [V.int 1,V.int 5,V.int 99])=H3 at s3 tp3 e3 |-;refine⟨p,3,B,rfl,tp3,by show B+2<=1000100;omega,δ,δ,δ,fun z=>absurd z δ,fun r4 H4 r40 r41 s4 tp4=>?_⟩;obtain⟨mo,hmo,emo⟩:=qZ (is:=[1,5,99]) r40 r41;replace emo:atI [V.int 1,V.int 5,V.int 99] r4=some (.int mo):=emo;have e4:=s4 _ _ n3 e3;have bmo:1<=mo/\mo<=99:=by
  simp only[Bi,B2,or_false] at hmo;omega
 push_cast [e4,emo];subst hk;push_cast;refine cF fun R hR=>?_;push_cast [uN];refine⟨δ,δ,?_⟩;obtain⟨Pc,hPc⟩:∃Pv:Nat->List V->L2.St->Hp->Prop,Pv=fun(i:Nat) acc τ H'=>∃(o0:Option V)(zs:List Int),cL p H4 H'/\cG H' p (B+2+2*(i:Int))/\acc=zs.map V.int/\zs.length=i/\(∀z∈zs,1<=z/\z<=99)/\τ=[o0,some (.ref p),some (.int mo)]:=⟨_,rfl⟩;refine yu hR (aU δ) Pc (by rw[hPc];exact⟨none,[],cL.refl _ _,tp4.le (by show B+2<=B+2+2*0;omega),rfl,rfl,fun z hz=>absurd hz B2,rfl⟩) ?_ ?_ ?_
 ·intro i acc τ H5 pc;rw[hPc] at pc;obtain⟨_,zs,_,_,rfl,h1,_⟩:=pc;rw[AF];omega
 ·intro i acc τ H5 hi pc;rw[hPc] at pc;obtain⟨o0,zs,s5,tp5,rfl,hl5,hb5,rfl⟩:=pc;push_cast;refine⟨p,mo,_,rfl,tp5,by show B+2+2*(i:Int)+2<=1000100;omega,ω,ω,δ,fun z=>absurd z ω,fun r6 H6 r60 r61 s6 tp6=>?_⟩;push_cast;rw[hPc];refine⟨_,zs++[1+r6],s5.trans s6,tp6.le (by show B+2+2*(i:Int)+2<=B+2+2*((i+1:Nat):Int);omega),by rw[A9];rfl,by rw[AK,hl5];rfl,fun z hz=>?_,rfl⟩;rcases CF.mp hz with hz|hz
  ·exact hb5 z hz
  rw[AM.mp hz];omega
 intro acc τ H5 d pc hd;rw[hPc] at pc;obtain⟨o0,zs,s5,tp5,rfl,hl5,hb5,rfl⟩:=pc;have s6:=aB (o:=HO.lst (zs.map V.int)) hd;have tp6:=tp5.same s6;have sx6:cL p H (upd H5 d (.lst (zs.map V.int))):=((s3.x.trans s4).trans s5).trans s6.x;refine⟨d,rfl,_,.inl ⟨SqL.of aq,fun t ht=>?_⟩⟩;have s7:=aB (o:=HO.tup (zs.map V.int)) ht;obtain⟨n7,h7⟩:=FQ sx6 tp6 ht;exact q _ zs _ (sx6.trans s7.x) ((tp6.same s7).le (by show B+2+2*(6:Int)<=B+20;omega)) n7 h7 aq hl5 hb5
noncomputable abbrev iu:List Str:=["_law_stretches_here","_law_sizes","_law_left_here","_law_plan","_law_word","_law_room_here","_law_ahead","_law_behind","_law_rest"]
noncomputable abbrev dZ:Stmt:=top 43
theorem oY:bA iu q0_ (aj dZ):=⟨rfl,rfl,rfl,ψ,rfl,ψ,ψ⟩
theorem rD:NM_ iu dZ 0 "_law_stretches_here" := .of ψ
theorem lE:NM_ iu dZ 1 "_law_sizes" := .of ψ
theorem oG:NM_ iu dZ 2 "_law_left_here" := .of ψ
theorem rC:NM_ iu dZ 3 "_law_plan" := .of ψ
theorem lD:NM_ iu dZ 4 "_law_word" := .of ψ
theorem wX:NM_ iu dZ 5 "_law_room_here" := .of ψ
theorem Rx:NM_ iu dZ 6 "_law_ahead" := .of ψ
theorem Rw:NM_ iu dZ 7 "_law_behind" := .of ψ
theorem wW:NM_ iu dZ 8 "_law_rest" := .of ψ
theorem mO:GI_ dZ "_law_room" := by decide +kernel
theorem CG:GI_ dZ "_law_span" := by decide +kernel
theorem vP:Bn "_law_room" := ⟨ψ,ψ⟩
theorem Lr:dm P w K mg base CX0 2 f fd q0_ (oX 0):=by
 have no:∀vs H Q E,¬oX 0 vs H Q E:=fun vs H Q E h=>by
  obtain⟨s,l,p,z,ok,ss,zs,left,pl,_,_,_,_,_,_,_,_,_,h0,_⟩:=h;omega
 exact⟨fun vs H Q E h=>absurd h (no vs H Q E),fun A outer s H args us vs Q E _ _ _ _ h=>absurd h (no vs H Q E)⟩
theorem Rm {n:Nat}(hB:∀x:Str,x∈BLs->mg x=none) (CZSpan:Cal P w K mg base "_law_span" 1 q4_ lu) (CZRoom:Cal P w K mg base "_law_room" (n+2) q0_ (oX n)) (F:Fun K "_law_room" "_law_room" dZ f fd):dm P w K mg base CX0 (n+3) f fd q0_ (oX (n+1)):=by
 refine F.okq oY (fun vs H Q E h=>?_) (fun cdv A outer s H vs Q E hr h=>?_)
 ·obtain⟨s,l,p,z,ok,ss,zs,left,pl,rfl,_⟩:=h;rfl
 obtain⟨s,l,p,z,ok,ss,zs,left,pl,rfl,hn,ts,tl,tp,hz,h6,hb5,pok,hdep,q⟩:=h;refine⟨_,(aD (bM lD oY.nd (aJ aV (ao rC) au (fun _ _=>rfl)) rfl (.inl rfl))
  (aD (cT (bw (cB hr.bJ) (ao lD) bI (aO _)) (aK (aQ au)) bT)
  (aD (cT (bw (cB hr.bJ) (ao lD) bI (aO _)) (aK (aQ (aL bD (aJ aV (ao lE) au (fun _ _=>rfl)) (aL eE (aJ aV (ao lE) au (fun _ _=>rfl)) (bx CZSpan (hr.mono ω) CG W4 (ak (ao rD) (ak (ao oG) aA rfl) rfl) rfl rfl))))) bT)
  (aD (bM wX oY.nd (aJ aV (ao lE) (BP hr.un1 (bO (ak bI (ak bI (ak bI (ak bI aA rfl) rfl) rfl) rfl)) (ao lD)) (fun _ _=>rfl)) rfl (.inl rfl))
  (aD (cT (bw (cB hr.bJ) (ao lD) bI (aO _)) (aD (Ht (i:=6) (j:=7) rfl oY.nd rfl rfl δ rfl rfl (ak (cH (NX:=iu) (kX:=(aj dZ).names) ["_law_k","_law_plan"] [none,some 3] rfl rfl ⟨rfl,ψ,ψ,ψ,ψ⟩ rfl (bN (ao oG)) (fun _ _ _ _ _=>(bL 0 (show BQ (["_law_k","_law_plan"]:List Str) from by decide +kernel) rfl (C2 rfl))) (fun _ _ _ _ _=>(jh (bw pX (bh 0) (aJ aV (bh 1) au (fun _ _=>rfl)) (aO _)))) (fun _ _ _ _ _=>(bh 0))) (ak (cH (NX:=iu) (kX:=(aj dZ).names) ["_law_k","_law_plan"] [none,some 3] rfl rfl ⟨rfl,ψ,ψ,ψ,ψ⟩ rfl (bN (ao oG)) (fun _ _ _ _ _=>(bL 0 (show BQ (["_law_k","_law_plan"]:List Str) from by decide +kernel) rfl (C2 rfl))) (fun _ _ _ _ _=>(jh (bw Xk (bh 0) (aJ aV (bh 1) au (fun _ _=>rfl)) (aO _)))) (fun _ _ _ _ _=>(bh 0))) aA rfl) rfl) (by rfl))
  (aK (aQ (aL bD (aL bD (ao wX) (bx CZRoom (hr.mono ω) mO vP (ak (ao rD) (ak (ao lE) (ak (ao Rx) (ak (aJ aV (ao rC) au (fun _ _=>rfl)) aA rfl) rfl) rfl) rfl) rfl rfl)) (bx CZRoom (hr.mono ω) mO vP (ak (ao rD) (ak (ao lE) (ak (ao Rw) (ak (aJ aV (ao rC) au (fun _ _=>rfl)) aA rfl) rfl) rfl) rfl) rfl rfl))))) bT)
  (aD (cT (bw (cB hr.bJ) (ao lD) bI (aO _)) (aK (qR (NX:=iu) (kX:=(aj dZ).names) ["_law_k","_law_plan","_law_stretches_here"] [none,some 3,some 0] wW oY.nd rfl rfl ⟨rfl,ψ,ψ,ψ,ψ⟩ rfl (bN (ao oG)) (fun _ _ _ _ _=>(bL 0 (show BQ (["_law_k","_law_plan","_law_stretches_here"]:List Str) from by decide +kernel) rfl (C2 rfl))) (fun _ _ _ _ _=>(jh (bw (kj hr.bJ) (aJ aV (aJ aV (bh 2) (bh 0) (fun _ _=>rfl)) au (fun _ _=>rfl)) (aJ aV (bh 1) au (fun _ _=>rfl)) (aO _)))) (fun _ _ _ _ _=>(bh 0)))) (aK (qR (NX:=iu) (kX:=(aj dZ).names) ["_law_k","_law_plan"] [none,some 3] wW oY.nd rfl rfl ⟨rfl,ψ,ψ,ψ,ψ⟩ rfl (bN (ao oG)) (fun _ _ _ _ _=>(bL 0 (show BQ (["_law_k","_law_plan"]:List Str) from by decide +kernel) rfl (C2 rfl))) (fun _ _ _ _ _=>(jh (bw (kj hr.bJ) (bh 0) (aJ aV (bh 1) au (fun _ _=>rfl)) (aO _)))) (fun _ _ _ _ _=>(bh 0)))))
  (aK (aQ (aL bD (ao wX) (bx CZRoom (hr.mono ω) mO vP (ak (ao rD) (ak (ao lE) (ak (ao wW) (ak (aJ aV (ao rC) au (fun _ _=>rfl)) aA rfl) rfl) rfl) rfl) rfl rfl)))))))))),?_⟩
 have lf:=pok.lf;have ts0:=ts;have tl0:=tl;obtain⟨la,rfl,okl,el,ll⟩:=tl.left;replace el:H la=some (.lst (nv left)):=el;have z4:=pR (zs:=zs) (i:=4) ω;have z5:=pR (zs:=zs) (i:=5) ω;have z0:=pR (zs:=zs) (i:=0) ω;have z1:=pR (zs:=zs) (i:=1) ω;have z2:=pR (zs:=zs) (i:=2) ω;have z3:=pR (zs:=zs) (i:=3) ω;replace z4:atI (zs.map V.int) 4=_:=z4;replace z5:atI (zs.map V.int) 5=_:=z5;replace z0:atI (zs.map V.int) 0=_:=z0;replace z1:atI (zs.map V.int) 1=_:=z1;replace z2:atI (zs.map V.int) 2=_:=z2;replace z3:atI (zs.map V.int) 3=_:=z3;cases ts with
 | lst os es zz tss=>
  rename_i sa xs;cases pl with
  | pick l=>
   cases tp with
   | tup o e z tt=>
    cases tt with
    | cons t1 tt=>
     cases t1;push_cast [e,rdW];exact q _ (Same.refl _)
  | tab=>
   cases tp with
   | tup o e z tt=>
    cases tt with
    | cons t1 tt=>
     cases t1;push_cast [e,rdW,hz,z4,z5];refine⟨_,_,_,ss,left,rfl,ts0,tl0,lf,?_⟩;show zX (.int _) (.int _) _ _;rw[Bx];exact⟨_,_,rfl,rfl,.inl hb5,q _ (Same.refl _)⟩
  | one k r=>
   have hdep':=hdep;cases tp with
   | tup o e z' tt=>
    cases tt with
    | cons t1 tt=>
     cases t1;cases tt with
     | cons t2 tt=>
      cases t2;cases tt with
      | cons t3 tt=>
       cases tt;rename_i pa x3;push_cast [e,rdW,hz,vX];refine⟨aU δ,fun a1 ha1=>⟨sS,true,SqL.of aq,SqL.of aq,0,j8 (p:=.one k r) rfl (by show 0<4;decide),?_⟩⟩;have s1:=aB (o:=HO.lst [V.str "is",V.str "within",V.str "below",V.str "mask"]) ha1;have e1:=s1 _ _ e;have el1:=s1 _ _ el;have hz1:=s1 _ _ hz;have tS1:=ts0.same s1;have t31:=t3.same s1;have hn1:=hn.same s1;have es1:=s1 _ _ es;have tss1:=tss.same s1;generalize upd H a1 (HO.lst [V.str "is",V.str "within",V.str "below",V.str "mask"])=H1 at s1 e1 el1 hz1 tS1 t31 hn1 es1 tss1 |-;replace z0:atI (zs.map V.int) ((0:Nat):Int)=_:=z0;push_cast [hz1,z0];refine cF fun R hR=>?_;push_cast [el1];refine dU (·≠k) (fun τ=>∃o0,τ=[o0,some (.ref pa)]) hR el1 ll ⟨_,rfl⟩ ?_ ?_
       ·rintro i k' τ acc Pn hk ⟨o0,rfl⟩ h1 h2;push_cast [e1];by_cases c:k'=k
        ·subst c;rw[decide_eq_true (show((k':Nat):Int)=(k':Int) from rfl),FL,if_neg δ];exact h2 (by simp) _ ⟨_,rfl⟩
        rw[decide_eq_false (show ¬((k':Nat):Int)=(k:Int) by omega),FA,if_pos rfl];exact h1 (by simpa using c) _ ⟨_,rfl⟩
       intro d2 hd2;have s2:=aB (o:=HO.lst (nv (left.filter (·≠k)))) hd2;have e2:=s2 _ _ e1;have hz2:=s2 _ _ hz1;have okd:=hn1.new hd2;have t32:=t31.same s2;have tS2:=tS1.same s2;have ed:upd H1 d2 (HO.lst (nv (left.filter (·≠k)))) d2=_:=aq;have hn2:=hn1.same s2;generalize upd H1 d2 (HO.lst (nv (left.filter (·≠k))))=H2 at s2 e2 hz2 t32 tS2 ed hn2 |-;push_cast [e2];refine⟨_,_,_,_,ok,ss,zs,left.filter (·≠k),r,rfl,hn2,tS2,cD okd ed (Be (BA _ _) ll),t32,hz2,h6,hb5,pok.2,by have:rm r+1<n+1:=hdep;omega,fun H3 s3=>?_⟩;exact q _ ((s1.trans s2).trans s3)
  | wit k r=>
   have hdep':=hdep;cases tp with
   | tup o e z' tt=>
    cases tt with
    | cons t1 tt=>
     cases t1;cases tt with
     | cons t2 tt=>
      cases t2;cases tt with
      | cons t3 tt=>
       cases tt;rename_i pa x3;push_cast [e,rdW,hz,vX];refine⟨aU δ,fun a1 ha1=>⟨sS,true,SqL.of aq,SqL.of aq,1,j8 (p:=.wit k r) rfl (by show 1<4;decide),?_⟩⟩;have s1:=aB (o:=HO.lst [V.str "is",V.str "within",V.str "below",V.str "mask"]) ha1;have e1:=s1 _ _ e;have el1:=s1 _ _ el;have hz1:=s1 _ _ hz;have tS1:=ts0.same s1;have t31:=t3.same s1;have hn1:=hn.same s1;have es1:=s1 _ _ es;have tss1:=tss.same s1;generalize upd H a1 (HO.lst [V.str "is",V.str "within",V.str "below",V.str "mask"])=H1 at s1 e1 el1 hz1 tS1 t31 hn1 es1 tss1 |-;replace z1:atI (zs.map V.int) ((1:Nat):Int)=_:=z1;push_cast [hz1,z1];refine cF fun R hR=>?_;push_cast [el1];refine dU (·≠k) (fun τ=>∃o0,τ=[o0,some (.ref pa)]) hR el1 ll ⟨_,rfl⟩ ?_ ?_
       ·rintro i k' τ acc Pn hk ⟨o0,rfl⟩ h1 h2;push_cast [e1];by_cases c:k'=k
        ·subst c;rw[decide_eq_true (show((k':Nat):Int)=(k':Int) from rfl),FL,if_neg δ];exact h2 (by simp) _ ⟨_,rfl⟩
        rw[decide_eq_false (show ¬((k':Nat):Int)=(k:Int) by omega),FA,if_pos rfl];exact h1 (by simpa using c) _ ⟨_,rfl⟩
       intro d2 hd2;have s2:=aB (o:=HO.lst (nv (left.filter (·≠k)))) hd2;have e2:=s2 _ _ e1;have hz2:=s2 _ _ hz1;have okd:=hn1.new hd2;have t32:=t31.same s2;have tS2:=tS1.same s2;have ed:upd H1 d2 (HO.lst (nv (left.filter (·≠k)))) d2=_:=aq;have hn2:=hn1.same s2;generalize upd H1 d2 (HO.lst (nv (left.filter (·≠k))))=H2 at s2 e2 hz2 t32 tS2 ed hn2 |-;push_cast [e2];refine⟨_,_,_,_,ok,ss,zs,left.filter (·≠k),r,rfl,hn2,tS2,cD okd ed (Be (BA _ _) ll),t32,hz2,h6,hb5,pok.2,by have:rm r+1<n+1:=hdep;omega,fun H3 s3=>?_⟩;exact q _ ((s1.trans s2).trans s3)
  | msk l r=>
   have hdep':=hdep;cases tp with
   | tup o e z' tt=>
    cases tt with
    | cons t1 tt=>
     cases t1;cases tt with
     | cons t2 tt=>
      cases t2;cases tt with
      | cons t3 tt=>
       cases tt;rename_i pa x3;push_cast [e,rdW,hz,vX];refine⟨aU δ,fun a1 ha1=>⟨sS,true,SqL.of aq,SqL.of aq,3,j8 (p:=.msk l r) rfl (by show 3<4;decide),?_⟩⟩;have s1:=aB (o:=HO.lst [V.str "is",V.str "within",V.str "below",V.str "mask"]) ha1;have e1:=s1 _ _ e;have el1:=s1 _ _ el;have hz1:=s1 _ _ hz;have tS1:=ts0.same s1;have t31:=t3.same s1;have hn1:=hn.same s1;have es1:=s1 _ _ es;have tss1:=tss.same s1;generalize upd H a1 (HO.lst [V.str "is",V.str "within",V.str "below",V.str "mask"])=H1 at s1 e1 el1 hz1 tS1 t31 hn1 es1 tss1 |-;replace z3:atI (zs.map V.int) ((3:Nat):Int)=_:=z3;push_cast [hz1,z3];refine cF fun R hR=>?_;push_cast [el1];refine dU (fun k=>(bW ss k).2.2≠l) (fun τ=>∃o0,τ=[o0,some (.ref pa),some (.ref sa)]) hR el1 ll ⟨_,rfl⟩ ?_ ?_
       ·rintro i k' τ acc Pn hk ⟨o0,rfl⟩ h1 h2;obtain⟨sk,x1,y1⟩:=tss1.stN (lf.lt _ (A5 hk));push_cast [e1,es1,x1,y1];by_cases c:(bW ss k').2.2=l
        ·rw[decide_eq_true c,FL,if_neg δ];exact h2 (by simpa using c) _ ⟨_,rfl⟩
        rw[decide_eq_false c,FA,if_pos rfl];exact h1 (by simpa using c) _ ⟨_,rfl⟩
       intro d2 hd2;have s2:=aB (o:=HO.lst (nv (left.filter (fun k=>(bW ss k).2.2≠l)))) hd2;have e2:=s2 _ _ e1;have hz2:=s2 _ _ hz1;have okd:=hn1.new hd2;have t32:=t31.same s2;have tS2:=tS1.same s2;have ed:upd H1 d2 (HO.lst (nv (left.filter (fun k=>(bW ss k).2.2≠l)))) d2=_:=aq;have hn2:=hn1.same s2;generalize upd H1 d2 (HO.lst (nv (left.filter (fun k=>(bW ss k).2.2≠l))))=H2 at s2 e2 hz2 t32 tS2 ed hn2 |-;push_cast [e2];refine⟨_,_,_,_,ok,ss,zs,left.filter (fun k=>(bW ss k).2.2≠l),r,rfl,hn2,tS2,cD okd ed (Be (BA _ _) ll),t32,hz2,h6,hb5,pok.2,by have:rm r+1<n+1:=hdep;omega,fun H3 s3=>?_⟩;exact q _ ((s1.trans s2).trans s3)
  | low k a b=>
   have hdep':=hdep;cases tp with
   | tup o e z' tt=>
    cases tt with
    | cons t1 tt=>
     cases t1;cases tt with
     | cons t2 tt=>
      cases t2;cases tt with
      | cons t3 tt=>
       cases tt with
       | cons t4 tt=>
       cases tt;rename_i pa x3 x4;push_cast [e,rdW,hz,vX];refine⟨aU δ,fun a1 ha1=>⟨sS,true,SqL.of aq,SqL.of aq,2,j8 (p:=.low k a b) rfl (by show 2<4;decide),?_⟩⟩;have s1:=aB (o:=HO.lst [V.str "is",V.str "within",V.str "below",V.str "mask"]) ha1;have e1:=s1 _ _ e;have el1:=s1 _ _ el;have hz1:=s1 _ _ hz;have tS1:=ts0.same s1;have t31:=t3.same s1;have t41:=t4.same s1;have hn1:=hn.same s1;have es1:=s1 _ _ es;have tss1:=tss.same s1;generalize upd H a1 (HO.lst [V.str "is",V.str "within",V.str "below",V.str "mask"])=H1 at s1 e1 el1 hz1 tS1 t31 hn1 es1 tss1 t41 |-;replace z2:atI (zs.map V.int) ((2:Nat):Int)=_:=z2;push_cast [hz1,z2];refine cF fun R hR=>?_;push_cast [el1];refine dU (· < k) (fun τ=>∃o0,τ=[o0,some (.ref pa)]) hR el1 ll ⟨_,rfl⟩ ?_ ?_
       ·rintro i k' τ acc Pn hk ⟨o0,rfl⟩ h1 h2;push_cast [e1];by_cases c:k'<k
        ·rw[if_pos (show((k':Nat):Int)<(k:Int) by omega)];exact h1 (by simpa using c) _ ⟨_,rfl⟩
        rw[if_neg (show ¬((k':Nat):Int)<(k:Int) by omega)];exact h2 (by simpa using c) _ ⟨_,rfl⟩
       intro d2 hd2;have s2:=aB (o:=HO.lst (nv (left.filter (· < k)))) hd2;have e2:=s2 _ _ e1;have el2:=s2 _ _ el1;have hz2:=s2 _ _ hz1;have okd:=hn1.new hd2;have t32:=t31.same s2;have t42:=t41.same s2;have tS2:=tS1.same s2;have ed:upd H1 d2 (HO.lst (nv (left.filter (· < k)))) d2=_:=aq;have hn2:=hn1.same s2;generalize upd H1 d2 (HO.lst (nv (left.filter (· < k))))=H2 at s2 e2 el2 hz2 t32 t42 tS2 ed hn2 |-;refine cF fun R3 hR3=>?_;push_cast [el2];refine dU (k<=·) (fun τ=>∃o0,τ=[o0,some (.ref pa)]) hR3 el2 ll ⟨_,rfl⟩ ?_ ?_
       ·rintro i k' τ acc Pn hk ⟨o0,rfl⟩ h1 h2;push_cast [e2];by_cases c:k<=k'
        ·rw[if_pos (show(k:Int)<=((k':Nat):Int) by omega)];exact h1 (by simpa using c) _ ⟨_,rfl⟩
        rw[if_neg (show ¬(k:Int)<=((k':Nat):Int) by omega)];exact h2 (by simpa using c) _ ⟨_,rfl⟩
       intro d3 hd3;have s3:=aB (o:=HO.lst (nv (left.filter (k<=·)))) hd3;have e3:=s3 _ _ e2;have hz3:=s3 _ _ hz2;have okd3:=hn2.new hd3;have t33:=t32.same s3;have t43:=t42.same s3;have tS3:=tS2.same s3;have ed3:=s3 _ _ ed;have ee3:upd H2 d3 (HO.lst (nv (left.filter (k<=·)))) d3=_:=aq;have hn3:=hn2.same s3;generalize upd H2 d3 (HO.lst (nv (left.filter (k<=·))))=H3 at s3 e3 hz3 t33 t43 tS3 ed3 ee3 hn3 |-;have hmx:max (rm a) (rm b)+1<n+1:=hdep;push_cast [e3];refine⟨_,_,_,_,ok,ss,zs,left.filter (· < k),a,rfl,hn3,tS3,cD okd ed3 (Be (BA _ _) ll),t33,hz3,h6,hb5,pok.2.1,ω,fun H4 s4=>?_⟩;have e4:=s4 _ _ e3;push_cast [e4];refine⟨_,_,_,_,ok,ss,zs,left.filter (k<=·),b,rfl,hn3.same s4,tS3.same s4,cD okd3 (s4 _ _ ee3) (Be (BA _ _) ll),t43.same s4,s4 _ _ hz3,h6,hb5,pok.2.2,ω,fun H5 s5=>?_⟩;exact q _ ((((s1.trans s2).trans s3).trans s4).trans s5)
end
noncomputable abbrev Jw:List Str:=["_law_number","_law_many"]
noncomputable abbrev mC:Stmt:=top 36
theorem Uk:bA Jw q9_ (aj mC):=⟨rfl,rfl,rfl,ψ,rfl,ψ,ψ⟩
theorem Ry:NM_ Jw mC 1 "_law_many" := .of ψ
theorem CJ:GI_ mC "range" := by decide +kernel
theorem K1:Bn "_law_left" := ⟨ψ,ψ⟩
noncomputable abbrev Tw:List Str:=["_law_left_here"]
noncomputable abbrev qP:Stmt:=top 37
theorem XR:bA Tw ["_law_left_here"] (aj qP):=⟨rfl,rfl,rfl,ψ,rfl,ψ,ψ⟩
theorem Wi:NM_ Tw qP 0 "_law_left_here" := .of ψ
theorem M8:GI_ qP "sum" := by decide +kernel
theorem Jl:Bn "_law_set" := ⟨ψ,ψ⟩
noncomputable def vz (n:Nat):Sp:=fun vs H Q _=>∃s:Nat,vs=[.int (s:Int),.int (n:Int)]/\s<2^n/\∀p H',Same H H'->H p=none->H' p=some (.lst (nv (bC n s)))->Q (.ref p) H'
theorem Dh (x i:Nat):((x:Int)/(((2^i:Nat)):Int)%2=1)↔x.testBit i=true:=by
 rw[Nat.testBit_eq_decide_div_mod_eq,decide_eq_true_eq];omega
section
variable {P:AV}{w:A6}{K:AE}{mg:Str->Option An}{base:Heap}{f:Addr}{fd:CA}{bs:List Str}
theorem V6 (hB:∀x:Str,x∈BLs->mg x=none) (F:Fun K "_law_set" "_law_set" qP f fd):dm P w K mg base CX0 1 f fd ["_law_left_here"] qL:=by
 refine F.okq XR (fun vs H Q E h=>?_) (fun cdv A outer s H vs Q E hr h=>?_)
 ·obtain⟨l,left,rfl,_⟩:=h;rfl
 obtain⟨l,left,rfl,el,ll,lk,q⟩:=h;refine⟨_,(aK (aQ (bY (lW rfl) M8 (hB "sum" xP) boot_sum yC (ak (cH (NX:=Tw) (kX:=(aj qP).names) ["_law_k"] [none] rfl rfl ⟨rfl,ψ,ψ,ψ,ψ⟩ rfl (bN (ao Wi)) (fun _ _ _ _ _=>(bL 0 (show BQ (["_law_k"]:List Str) from by decide +kernel) rfl (C2 rfl))) (fun _ _ _ _ _=>gH) (fun _ _ _ _ _=>(aL jK au (bh 0)))) aA rfl) rfl rfl))),?_⟩;push_cast;refine cF fun R hR=>?_;push_cast [el];refine jB (fun k=>((2^k:Nat):Int)) (fun τ=>∃o0,τ=[o0]) hR el ω ⟨_,rfl⟩ ?_ ?_
 ·rintro i k' τ acc Pn hk' ⟨o0,rfl⟩ h1;have:=lk k' (A5 hk');push_cast;refine⟨⟨ω,ω,δ⟩,?_⟩;rw[IA,B3,show((2:Int)^k')=((2^k':Nat):Int) by rw[Fm];rfl];exact h1 _ ⟨_,rfl⟩
 intro d hd;have s1:=aB (o:=HO.lst ((left.map fun k=>((2^k:Nat):Int)).map V.int)) hd;have e1:upd H d (HO.lst ((left.map fun k=>((2^k:Nat):Int)).map V.int)) d=_:=aq;generalize upd H d (HO.lst ((left.map fun k=>((2^k:Nat):Int)).map V.int))=H1 at s1 e1 |-;push_cast [e1];refine⟨_,rfl,?_⟩;rw[wA];exact q _ s1
theorem Rb {n:Nat}(hn:n<=60) (hB:∀x:Str,x∈BLs->mg x=none) (F:Fun K "_law_left" "_law_left" mC f fd):dm P w K mg base CX0 1 f fd q9_ (vz n):=by
 refine F.okq Uk (fun vs H Q E h=>?_) (fun cdv A outer s H vs Q E hr h=>?_)
 ·obtain⟨s,rfl,_⟩:=h;rfl
 obtain⟨x,rfl,hx,q⟩:=h;refine⟨_,(aK (aQ (cH (NX:=Jw) (kX:=(aj mC).names) ["_law_k","_law_number"] [none,some 0] rfl rfl ⟨rfl,ψ,ψ,ψ,ψ⟩ rfl (jw CJ (hB "range" fM) (ak (ao Ry) aA rfl) rfl) (fun _ _ _ _ _=>(bL 0 (show BQ (["_law_k","_law_number"]:List Str) from by decide +kernel) rfl (C2 rfl))) (fun _ _ _ _ _=>(jh (bw (cB hr.bJ) (aL iD (aL wK (bh 1) (aL jK au (bh 0))) au) au (aO _)))) (fun _ _ _ _ _=>(bh 0))))),?_⟩;push_cast;refine cF fun R hR=>?_;push_cast [uN];refine⟨ω,ω,?_⟩;rw[B3];obtain⟨Pc,hPc⟩:∃Pv:Nat->List V->L2.St->Hp->Prop,Pv=fun(i:Nat) acc τ H'=>∃(o0:Option V),H'=H/\acc=nv (bC i x)/\τ=[o0,some (.int (x:Int))]:=⟨_,rfl⟩;refine yu hR (aU ω) Pc (by rw[hPc];exact⟨_,rfl,rfl,rfl⟩) ?_ ?_ ?_
 ·intro i acc τ H5 pc;rw[hPc] at pc;obtain⟨_,_,rfl,_⟩:=pc;rw[dN];exact Be (BA _ _) (by rw[EG];exact A1 _)
 ·intro i acc τ H5 hi pc;rw[hPc] at pc;obtain⟨o0,rfl,rfl,rfl⟩:=pc;push_cast;have hp:2^i<2^70:=Nat.pow_lt_pow_right δ ω;have hp0:=D0 i;rw[zero_add,IA,B3,show((2:Int)^i)=((2^i:Nat):Int) by rw[Fm];rfl];refine⟨⟨ω,ω,δ⟩,⟨ω,ω⟩,δ,?_⟩;rw[hPc];by_cases c:x.testBit i=true
  ·rw[if_pos ((Dh x i).mpr c)];refine⟨_,rfl,?_,rfl⟩;rw[mZ,if_pos c];unfold nv;rw[A9];rfl
  rw[if_neg (fun z=>c ((Dh x i).mp z))];refine⟨_,rfl,?_,rfl⟩;rw[mZ,if_neg c,CH]
 intro acc τ H5 d pc hd;rw[hPc] at pc;obtain⟨o0,rfl,rfl,rfl⟩:=pc;exact q d _ (aB hd) hd aq
noncomputable abbrev fV:List Str:=["_law_stretches_here","_law_left_here","_law_labels","_law_whole","_law_span_here","_law_steps_here","_law_k","_law_ahead","_law_label"]
noncomputable abbrev b7:Stmt:=top 38
theorem iW:bA fV q4_ (aj b7):=⟨rfl,rfl,rfl,ψ,rfl,ψ,ψ⟩
theorem pC:NM_ fV b7 0 "_law_stretches_here" := .of ψ
theorem gM:NM_ fV b7 1 "_law_left_here" := .of ψ
theorem jy:NM_ fV b7 2 "_law_labels" := .of ψ
theorem pB:NM_ fV b7 3 "_law_whole" := .of ψ
theorem tR:NM_ fV b7 4 "_law_span_here" := .of ψ
theorem jx:NM_ fV b7 5 "_law_steps_here" := .of ψ
theorem lB:NM_ fV b7 6 "_law_k" := .of ψ
theorem pA:NM_ fV b7 7 "_law_ahead" := .of ψ
theorem Mt:NM_ fV b7 8 "_law_label" := .of ψ
theorem mL:GI_ b7 "_law_set" := by decide +kernel
theorem uQ:GI_ b7 "int" := by decide +kernel
theorem Fy:GI_ b7 "len" := by decide +kernel
theorem uP:GI_ b7 "max" := by decide +kernel
theorem uO:GI_ b7 "min" := by decide +kernel
theorem Fx:GI_ b7 "set" := by decide +kernel
theorem xX:GI_ b7 "sorted" := by decide +kernel
theorem Gp:Bn "_law_steps" := ⟨ψ,ψ⟩
theorem Mi (hB:∀x:Str,x∈BLs->mg x=none) (CZSet:Cal P w K mg base "_law_set" 1 ["_law_left_here"] qL) (F:Fun K "_law_steps" "_law_steps" b7 f fd):dm P w K mg base CX0 2 f fd q4_ wj:=by
 refine F.okq iW (fun vs H Q E h=>?_) (fun cdv A outer s H vs Q E hr h=>?_)
 ·obtain⟨s,la,ok,ss,left,rfl,_⟩:=h;rfl
 obtain⟨s,la,ok,ss,left,rfl,hnw,ts,el,lf,h60,ll,q⟩:=h;refine⟨_,(aD (qR (NX:=fV) (kX:=(aj b7).names) ["_law_k","_law_stretches_here"] [none,some 0] jy iW.nd rfl rfl ⟨rfl,ψ,ψ,ψ,ψ⟩ rfl (bN (ao gM)) (fun _ _ _ _ _=>(bL 0 (show BQ (["_law_k","_law_stretches_here"]:List Str) from by decide +kernel) rfl (C2 rfl))) (fun _ _ _ _ _=>gH) (fun _ _ _ _ _=>(aJ aV (aJ aV (bh 1) (bh 0) (fun _ _=>rfl)) au (fun _ _=>rfl))))
  (aD (bM pB iW.nd (bx CZSet (hr.mono δ) mL Jl (ak (ao gM) aA rfl) rfl rfl) rfl (.inl rfl))
  (aD (bM tR iW.nd (aL bD (aL fJ (aJ aV (aJ aV (ao pC) (aJ aV (ao gM) (qT mj au) (fun _ _=>rfl)) (fun _ _=>rfl)) au (fun _ _=>rfl)) (aJ aV (aJ aV (ao pC) (aJ aV (ao gM) au (fun _ _=>rfl)) (fun _ _=>rfl)) au (fun _ _=>rfl))) au) rfl (.inl rfl))
  (aD (bM jx iW.nd (aL bD (aL eE (bO (ak (b8 (ak bI (ak (bO aA) aA rfl) rfl)) aA rfl)) (wG mW uQ (hB "int" xQ) boot_int yD (ak (gG (cB hr.bJ) (bY (pI rfl) uO (hB "min" tZ) boot_min uy (ak (ao jy) aA rfl) rfl rfl) (bY (Av rfl) uP (hB "max" Ii) boot_max Jk (ak (ao jy) aA rfl) rfl rfl) (aO _)) aA rfl) rfl rfl)) (aL eE (bO (ak (b8 (ak bI (ak (bO aA) aA rfl) rfl)) aA rfl)) (wG mW uQ (hB "int" xQ) boot_int yD (ak (gG Aa (ao tR) au (aO _)) aA rfl) rfl rfl))) rfl (.inl rfl))
  (aD (iC Cb rfl (bN (ao gM)) (fC lB iW.nd (.inl rfl))
  (aD (cT (bw Ep (bY bK Fy (hB "len" d7) BH d8 (ak (ao gM) aA rfl) rfl rfl) au (aO _)) (aD (dg (eX (ao jx) (b8 (ak bI (ak (bO (ak (aL fJ (ao pB) (aL jK au (ao lB))) aA rfl)) aA rfl) rfl)) rfl rfl rfl rfl rfl) rfl)
  (aK (cT (bw (cB hr.bJ) (aJ aV (aJ aV (ao pC) (ao lB) (fun _ _=>rfl)) au (fun _ _=>rfl)) (aJ aV (aJ aV (ao pC) (ao lB) (fun _ _=>rfl)) au (fun _ _=>rfl)) (aO _)) (aK (dg (eX (ao jx) (b8 (ak bI (ak (bO (ak (aL fJ (ao pB) (aL jK au (ao lB))) aA rfl)) aA rfl) rfl)) rfl rfl rfl rfl rfl) rfl)) bT))) bT)
  (aD (bM pA iW.nd (bx CZSet (hr.mono δ) mL Jl (ak (cH (NX:=fV) (kX:=(aj b7).names) ["_law_one","_law_k"] [none,some 6] rfl rfl ⟨rfl,ψ,ψ,ψ,ψ⟩ rfl (bN (ao gM)) (fun _ _ _ _ _=>(bL 0 (show BQ (["_law_one","_law_k"]:List Str) from by decide +kernel) rfl (C2 rfl))) (fun _ _ _ _ _=>(jh (bw pX (bh 0) (bh 1) (aO _)))) (fun _ _ _ _ _=>(bh 0))) aA rfl) rfl rfl) rfl (.inl rfl))
  (aK (cT (bw Ep (ao pA) au (aO _)) (aK (dg (eX (ao jx) (b8 (ak bI (ak (bO (ak (ao pA) (ak (aL fJ (ao pB) (ao pA)) aA rfl) rfl)) aA rfl) rfl)) rfl rfl rfl rfl rfl) rfl)) bT)))) (fun _=>rfl))
  (aD (iC Cb rfl (bN (JT rfl xX (hB "sorted" Ad) Fx (hB "set" RM) (ak (ao jy) aA rfl))) (fC Mt iW.nd (.inl rfl))
  (aK (cT (BK (BJ (bw Aa (ao tR) au (aO _)) (vA (bw pX (bY (pI rfl) uO (hB "min" tZ) boot_min uy (ak (ao jy) aA rfl) rfl rfl) (bY (Av rfl) uP (hB "max" Ii) boot_max Jk (ak (ao jy) aA rfl) rfl rfl) (aO _))))) (aK (dg (eX (ao jx) (b8 (ak bI (ak (bO (ak (bx CZSet (hr.mono δ) mL Jl (ak (cH (NX:=fV) (kX:=(aj b7).names) ["_law_k","_law_label","_law_stretches_here"] [none,some 8,some 0] rfl rfl ⟨rfl,ψ,ψ,ψ,ψ⟩ rfl (bN (ao gM)) (fun _ _ _ _ _=>(bL 0 (show BQ (["_law_k","_law_label","_law_stretches_here"]:List Str) from by decide +kernel) rfl (C2 rfl))) (fun _ _ _ _ _=>(jh (bw (kj hr.bJ) (aJ aV (aJ aV (bh 2) (bh 0) (fun _ _=>rfl)) au (fun _ _=>rfl)) (bh 1) (aO _)))) (fun _ _ _ _ _=>(bh 0))) aA rfl) rfl rfl) aA rfl)) aA rfl) rfl)) rfl rfl rfl rfl rfl) rfl)) bT)) (fun _=>rfl))
  (aK (aQ (ao jx))))))))),?_⟩
 cases ts with
 | lst os es zs tss=>
  rename_i sa sxs;refine aN fun k hk=>?_;push_cast;refine cF fun R hR=>?_;push_cast [el];refine jB (lbl ss) (fun τ=>∃o0,τ=[o0,some (.ref sa)]) hR el ω ⟨_,rfl⟩ ?_ ?_
  ·rintro i k' τ acc Pn hk' ⟨o0,rfl⟩ h1;obtain⟨p1,x1,y1⟩:=tss.stN (lf.lt _ (A5 hk'));push_cast [es,x1,y1];exact h1 _ ⟨_,rfl⟩
  intro lb hlb;have s1:=aB (o:=HO.lst ((left.map (lbl ss)).map V.int)) hlb;have e1:upd H lb (HO.lst ((left.map (lbl ss)).map V.int)) lb=some (HO.lst ((left.map (lbl ss)).map V.int)):=aq;generalize upd H lb (HO.lst ((left.map (lbl ss)).map V.int))=H1 at s1 e1 |-;subst hk;refine aN fun k hk=>?_;push_cast;refine⟨la,left,rfl,s1 _ _ el,ω,fun k hk=>by have:=lf.lt k hk;omega,fun H2 s2=>?_⟩;push_cast;subst hk;have sH2:=s1.trans s2;have e2:=s2 _ _ e1;refine aN fun k hk=>?_;have el2:=sH2 _ _ el;have es2:=sH2 _ _ es;obtain⟨k1,z1,m1,a1⟩:=vD lf.ne;obtain⟨k0,z0,m0,a0⟩:=vG lf.ne;obtain⟨p1,x1,y1⟩:=(tss.same sH2).stN (lf.lt _ m1);obtain⟨p0,x0,y0⟩:=(tss.same sH2).stN (lf.lt _ m0);have spn:bR ss left=(bW ss k1).2.1-(bW ss k0).1+1:=by
   unfold bR;rw[z1,z0];rfl
  push_cast [el2,a1,a0,es2,x1,x0,y1,y0];rw[<- spn];subst hk;clear el2 es2 z1 z0 m1 m0 a1 a0 x1 x0 y1 y0 spn;refine aN fun k hk=>?_;push_cast [e2];have hmp:∀{P:Prop},(left.map (lbl ss)=[]->P):=fun {P} z=>absurd (Hc.mp z) lf.ne;refine⟨aU δ,fun p hp=>⟨aU δ,fun p1 hp1=>⟨aU δ,fun p2 hp2=>?_⟩⟩⟩;have sa1:=aB (o:=HO.lst []) hp;have sa2:=aB (o:=HO.tup [V.str "pick",V.ref p]) hp1;have sa3:=aB (o:=HO.lst [V.ref p1]) hp2;have ea3:upd (upd (upd H2 p (HO.lst [])) p1 (HO.tup [V.str "pick",V.ref p])) p2 (HO.lst [V.ref p1]) p2=some (HO.lst [V.ref p1]):=aq;have tp:∀l,aH ok (upd (upd (upd H2 p (HO.lst [])) p1 (HO.tup [V.str "pick",V.ref p])) p2 (HO.lst [V.ref p1])) (.ref p1) (stW ss left (.pick l)):=fun l=>(aH.tup (hnw.new ((sH2.trans sa1).none hp1)) aq (by show 2<=1000000;decide) (.cons (.str _) (.cons ((aH.lst (hnw.new (sH2.none hp)) aq (by show 0<=1000000;decide) .nil:aH ok (upd H2 p (HO.lst [])) (.ref p) (.list [])).same sa2) .nil))).same sa3;have sH3:=sH2.trans (sa1.trans (sa2.trans sa3));have e3:=(sa1.trans (sa2.trans sa3)) _ _ e2;generalize upd (upd (upd H2 p (HO.lst [])) p1 (HO.tup [V.str "pick",V.ref p])) p2 (HO.lst [V.ref p1])=H3 at sH3 e3 ea3 tp |-;clear sa1 sa2 sa3 hp hp1 hp2;refine⟨_,.inl e3,hmp,fun mn a1 a2=>⟨_,.inl e3,hmp,fun mx a3 a4=>?_⟩⟩;have mm:MinMax ss left mn mx:=⟨a1,a2,a3,a4⟩;push_cast [ea3];have key:∀{c:Prop} [Decidable c],(0:Int)<=(if c then 1 else 0)/\(if c then (1:Int) else 0)<=1:=by intro c _;split <;> decide
  have rep:∀{c:Prop} [Decidable c] (v:V),(BC (if c then (1:Int) else 0).toNat [v]).flatten=if c then [v] else []:=by intro c _ v;split <;> rfl
  have k1:=key (c:=mn=mx);have k2:=key (c:=bR ss left<=200);rw[rep];refine⟨ω,ω,aU ω,fun q1 hq1=>⟨aU δ,fun q2 hq2=>⟨aU δ,fun q3 hq3=>⟨aU δ,fun q4 hq4=>?_⟩⟩⟩⟩;have eq1:upd H3 q1 (HO.lst (if mn=mx then [V.ref p1] else [])) q1=some (HO.lst (if mn=mx then [V.ref p1] else [])):=aq;have sb1:=aB (o:=HO.lst (if mn=mx then [V.ref p1] else [])) hq1;generalize upd H3 q1 (HO.lst (if mn=mx then [V.ref p1] else []))=H4 at sb1 eq1 hq2 hq3 hq4 |-;have sb2:=aB (o:=HO.lst []) hq2;have sb3:=aB (o:=HO.tup [V.str "table",V.ref q2]) hq3;have sb4:=aB (o:=HO.lst [V.ref q3]) hq4;have tt:aH ok (upd (upd (upd H4 q2 (HO.lst [])) q3 (HO.tup [V.str "table",V.ref q2])) q4 (HO.lst [V.ref q3])) (.ref q3) (stW ss left .tab):=(aH.tup (hnw.new (((sH3.trans sb1).trans sb2).none hq3)) aq (by show 2<=1000000;decide) (.cons (.str _) (.cons ((aH.lst (hnw.new ((sH3.trans sb1).none hq2)) aq (by show 0<=1000000;decide) .nil:aH ok (upd H4 q2 (HO.lst [])) (.ref q2) (.list [])).same sb3) .nil))).same sb4;have eq4:upd (upd (upd H4 q2 (HO.lst [])) q3 (HO.tup [V.str "table",V.ref q2])) q4 (HO.lst [V.ref q3]) q4=some (HO.lst [V.ref q3]):=aq;have sb5:=sb2.trans (sb3.trans sb4);generalize upd (upd (upd H4 q2 (HO.lst [])) q3 (HO.tup [V.str "table",V.ref q2])) q4 (HO.lst [V.ref q3])=H5 at sb5 tt eq4 |-;have eq1':=sb5 _ _ eq1;push_cast [eq4];rw[rep];refine⟨ω,ω,aU ω,fun q5 hq5=>?_⟩;have sb6:=aB (o:=HO.lst (if bR ss left<=200 then [V.ref q3] else [])) hq5;have eq5:upd H5 q5 (HO.lst (if bR ss left<=200 then [V.ref q3] else [])) q5=_:=aq;have eq6:=sb6 _ _ eq1';have tt6:=tt.same sb6;have sH6:=(sH3.trans sb1).trans (sb5.trans sb6);have tp6:=fun l=>(tp l).same (sb1.trans (sb5.trans sb6));have eb6:=(sb1.trans (sb5.trans sb6)) _ _ e3;generalize upd H5 q5 (HO.lst (if bR ss left<=200 then [V.ref q3] else []))=H6 at sH6 eq5 eq6 tt6 tp6 eb6 |-;push_cast [eq5,eq6];have t0:aG ok H6 ((if mn=mx then [V.ref p1] else [])++if bR ss left<=200 then [V.ref q3] else []) ((u5 mn mx++wyT ss left).map (stW ss left)):=by
   rw[A9];refine aG.append ?_ ?_
   ·unfold u5;split
    ·exact .cons (tp6 _) .nil
    exact .nil
   unfold wyT;split
   ·exact .cons tt6 .nil
   exact .nil
  have l0:(u5 mn mx++wyT ss left).length<=2:=by
   rw[AK];have h1:(u5 mn mx).length<=1:=by unfold u5;split <;> simp
   have h2:(wyT ss left).length<=1:=by unfold wyT;split <;> simp
   omega
  have lx0:=t0.length;rw[AF] at lx0;rw[<- AK];generalize ((if mn=mx then [V.ref p1] else [])++if bR ss left<=200 then [V.ref q3] else [])=xs0 at t0 lx0 |-;refine⟨aU ω,fun r hr0=>?_⟩;clear sb1 sb5 sb6 eq1 eq1' eq4 eq5 eq6 tt6 tp6 tt tp e3 ea3 e2 e1 a1 a2 a3 a4 k1 k2 sb2 sb3 sb4 hq1 hq2 hq3 hq4 hq5 s1 s2 sH2 sH3 hlb;have hrn:H r=none:=sH6.none hr0;have hbr:lb≠r:=aF eb6 hr0;subst hk;obtain⟨ok2,hok2⟩:∃ok2:Addr->Prop,ok2=fun a=>ok a/\a≠r:=⟨_,rfl⟩;have ok2r:∀a,ok2 a->a≠r:=fun a h=>by rw[hok2] at h;exact h.2
  have nwk:∀{H':Hp}{xs:List V},Same H H'->H' r=some (.lst xs)->cW ok2 H':=fun {H' xs} sH er H3 q s' hq=>by
   rw[hok2];exact⟨hnw H3 q (sH.trans s') hq,(aF (s' _ _ er) hq).symm⟩
  obtain⟨So,hSo⟩:∃So:List Wy->Hp->Prop,So=fun W H'=>∃xs,Same H H'/\H' lb=some (HO.lst ((left.map (lbl ss)).map V.int))/\H' r=some (.lst xs)/\xs.length=W.length/\aG ok2 H' xs (W.map (stW ss left)):=⟨_,rfl⟩;have so6:So (u5 mn mx++wyT ss left) (upd H6 r (.lst xs0)):=by
   rw[hSo];exact⟨xs0,sH6.trans (aB hr0),(aM hbr).trans eb6,aq,lx0,t0.keep fun a o h e=>⟨by rw[hok2];exact⟨h,aF e hr0⟩,by rw[aM (aF e hr0)];exact e⟩⟩
  generalize hW0:u5 mn mx++wyT ss left=W0 at *;generalize upd H6 r (.lst xs0)=H7 at so6 |-
  -- one by one
  have put:∀{W:List Wy}{σ:L2.St}{te:TE}{D:Ends}{H8:Hp}(wy:Wy),So W H8->W.length<=300->σ[5]?=some (some (.ref r))->(∀xs,Same H H8->H8 r=some (.lst xs)->Gv ok2 te σ H8 (stW ss left wy))->(∀H9,So (W++[wy]) H9->cL r H8 H9->D.nx σ H9)->uH (v5 (tV 5) te) D σ H8:=by
   intro W σ te D H8 wy so hl hσ hg hn;rw[hSo] at so;obtain⟨xs,s8,eb8,er8,lx8,t8⟩:=so;refine qJ (ok:=ok2) hσ er8 ω ok2r t8 (hg xs s8 er8) fun v H9 s9 t9=>hn _ ?_ fun b o n h=>by rw[aM n];exact s9 _ _ h
   rw[hSo];exact⟨_,dH (s8.trans s9) hrn,(aM hbr).trans (s9 _ _ eb8),aq,by rw[AK,AK,lx8];rfl,by rw[A9];exact t9⟩
  have so_el:∀{W H8},So W H8->Same H H8:=fun h=>by rw[hSo] at h;obtain⟨_,s,_⟩:=h;exact s
  have so_st:∀{W H8 H9},So W H8->Same H8 H9->So W H9:=fun h s=>by
   rw[hSo] at h |-;obtain⟨xs,s8,eb8,er8,lx8,t8⟩:=h;exact⟨xs,s8.trans s,s _ _ eb8,s _ _ er8,lx8,t8.same s⟩
  refine aN fun k hk=>?_;refine lU fun R hR=>?_;have el7:=so_el so6 _ _ el;push_cast [gZ,jo,el7,jn];obtain⟨Pv,hPv⟩:∃Pv:Nat->L2.St->Hp->Prop,Pv=fun(i:Nat) σ H'=>∃(o6 o7:Option V),So (W0++(left.take i).flatMap (nH ss left)) H'/\σ=[some (.ref sa),some (.ref la),some (.ref lb),some (.int ((aX left:Nat):Int)),some (.int (bR ss left)),some (.ref r),o6,o7,none]:=⟨_,rfl⟩;refine uR hR (xs:=nv left) Pv (by rw[hPv];exact⟨_,_,by rw[take_zero,flatMap_nil,CH];exact so6,rfl⟩) ?_ ?_ ?_
  ·intro i σ H3 _ pv;rw[hPv] at pv;obtain⟨_,_,so,_⟩:=pv;exact SqL.of (so_el so _ _ el)
  ·intro i x σ H3 hx pv;rw[hPv] at pv;obtain⟨o6,o7,so3,rfl⟩:=pv;obtain⟨k',hk',rfl⟩:∃k':Nat,left[i]?=some k'/\x=.int (k':Int):=by
    unfold nv at hx;rw[AU] at hx;obtain⟨k',h1,h2⟩:=Bz.mp hx;exact⟨k',h1,h2.symm⟩
   have mk:=A5 hk';have hil:i<left.length:=(AW.mp hk').1;have hwl:=pG ss left (left.take i);rw[EA] at hwl;have fm:(left.take (i+1)).flatMap (nH ss left)=(left.take i).flatMap (nH ss left)++nH ss left k':=by
    rw[take_snoc hk',List.flatMap_append,GS,flatMap_nil,CH]
   have hlk:=Fq ss left k';have l1:(W0++(left.take i).flatMap (nH ss left)).length<=200:=by rw[AK];omega
   have sub:∀{H8:Hp},Gv ok2 (tOp (rI0 fun i j=>V.int (i-j)) (tV 3) (tOp (rI Xe fun i j=>V.int (i*2^j.toNat)) (tC (V.int 1)) (tV 6))) [some (.ref sa),some (.ref la),some (.ref lb),some (.int ((aX left:Nat):Int)),some (.int (bR ss left)),some (.ref r),some (.int (k':Int)),o7,none] H8 (ptD (left.filter (·≠k'))):=by
    intro H8 H9 s9 Q9 q9;push_cast;refine⟨⟨ω,by have:=lf.lt _ mk;omega,δ⟩,?_⟩;rw[DR lf.up mk];exact q9 _ _ (Same.refl _) (.int _)
   show G4 _ _ _ _ _;simp only[Gc,F9];refine aN fun k2 hk2=>?_;have aft:∀(W1:List Wy) H8,So (W0++(left.take i).flatMap (nH ss left)++W1) H8->W1.length<=2->W1++(if left.filter (· < k')=[] then [] else [.low k'])=nH ss left k'->k2 [some (.ref sa),some (.ref la),some (.ref lb),some (.int ((aX left:Nat):Int)),some (.int (bR ss left)),some (.ref r),some (.int (k':Int)),o7,none] H8:=by
    intro W1 H8 so8 hl8 hW1;subst hk2;refine aN fun k2 hk2=>?_;have el8:=so_el so8 _ _ el;push_cast;refine cF fun R2 hR2=>?_;push_cast [el8];refine dU (fun j=>decide (j<k')) (fun τ=>∃o0,τ=[o0,some (.int (k':Int))]) hR2 el8 ω ⟨_,rfl⟩ ?_ ?_
    ·rintro i j τ acc Pn hj ⟨o0,rfl⟩ h1 h2;push_cast;by_cases c:j<k'
     ·rw[if_pos ω];exact h1 (decide_eq_true c) _ ⟨_,rfl⟩
     rw[if_neg ω];exact h2 (decide_eq_false c) _ ⟨_,rfl⟩
    intro d hd;refine⟨d,_,rfl,aq,Be (BA ..) ω,fun k hk=>by have:=lf.lt k (C7.mp hk).1;omega,fun H9 s9=>?_⟩;have so9:=so_st so8 ((aB hd).trans s9);push_cast;subst hk2;refine gQ fun kt ke hkt hke=>?_;push_cast;by_cases c:left.filter (· < k')=[]
    ·rw[if_pos c,CH] at hW1;have z:aX (left.filter (· < k'))=0:=by rw[c];rfl
     rw[if_neg ω];subst hke;show Pv _ _ _;rw[hPv];exact⟨_,_,by rw[fm,<- hW1,<- EC];exact so9,rfl⟩
    rw[if_neg c] at hW1;have z:=nU c;rw[if_pos ω];subst hkt;refine put (.low k') so9 (by rw[AK];omega) rfl (fun xs s8 er8=>fW (nwk s8 er8) (aP kJ (aP (kO (nwk s8 er8) (aP (gvV rfl (.int _)) (aP (R9 (gvV rfl (.int _)) (gvV rfl (.int _)) (fun H Q q=>⟨_,_,rfl,rfl,by show Q (V.int (_-_)) H;rw[wz lf.up];exact q⟩)) bV)) (by show 2<=1000000;decide)) bV)) (by show 2<=1000000;decide)) fun H10 so10 sx10=>?_;show Pv _ _ _;rw[hPv];exact⟨_,_,by rw[fm,<- hW1,<- EC,<- EC];exact so10,rfl⟩
   refine gQ fun kt ke hkt hke=>?_;have el3:=so_el so3 _ _ el;push_cast [el3];rw[dN];unfold nH at aft;by_cases c1:1<left.length
   ·rw[if_pos ω];rw[if_pos c1] at aft;subst hkt;refine aN fun k3 hk3=>?_;refine put (.wit k') so3 ω rfl (fun xs s8 er8=>fW (nwk s8 er8) (aP kJ (aP (kO (nwk s8 er8) (aP sub bV) (by show 1<=1000000;decide)) bV)) (by show 2<=1000000;decide)) fun H9 so9 _=>?_;show k3 _ _;subst hk3;refine gQ fun kt ke hkt hke=>?_;obtain⟨pk,xk,yk⟩:=(tss.same (so_el so9)).stN (lf.lt _ mk);have es9:=so_el so9 _ _ es;push_cast [es9,xk,yk];by_cases c2:(bW ss k').1=(bW ss k').2.1
    ·rw[if_pos c2];rw[if_pos c2] at aft;subst hkt;refine put (.one k') so9 (by rw[AK,BM];omega) rfl (fun xs s8 er8=>fW (nwk s8 er8) (aP kJ (aP (kO (nwk s8 er8) (aP sub bV) (by show 1<=1000000;decide)) bV)) (by show 2<=1000000;decide)) fun H10 so10 sx10=>?_;exact aft _ _ (by rw[EC] at so10;exact so10) (by simp) rfl
    rw[if_neg c2];rw[if_neg c2] at aft;subst hke;exact aft _ _ so9 (by simp) rfl
   rw[if_neg ω];rw[if_neg c1] at aft;subst hke;exact aft [] _ (by rw[CH];exact so3) (by simp) rfl
  intro σ H3 pv;rw[hPv] at pv;obtain⟨o6,o7,so3,rfl⟩:=pv;rw[dN,D4] at so3;show k _ _;subst hk;refine aN fun k hk=>?_;refine lU fun R hR=>?_;push_cast [tSS];have eb3:H3 lb=some (HO.lst ((left.map (lbl ss)).map V.int)):=by
   rw[hSo] at so3;obtain⟨_,_,h,_⟩:=so3;exact h
  refine⟨left.map (lbl ss),SqL.of eb3,by rw[AF];omega,fun p L hp perm _=>?_⟩;have hLl:L.length<=left.length:=by
   have h1:=perm.length_eq;have h2:=SRT.vN (left.map (lbl ss));rw[AF] at h2;omega
  have hL:oV ss left L:=⟨perm.nodup_iff.mpr (SRT.uw _),fun l=>by
   rw[perm.mem_iff,SRT.KD,DT]⟩
  have so4:=so_st so3 (aB (o:=HO.lst (L.map V.int)) hp);have ep4:upd H3 p (HO.lst (L.map V.int)) p=some (HO.lst (L.map V.int)):=aq;have hpr:p≠r:=fun z=>by
   rw[hSo] at so3;obtain⟨xs,_,_,h,_⟩:=so3;rw[z,h] at hp;cases hp
  generalize upd H3 p (HO.lst (L.map V.int))=H4 at so4 ep4 |-;have hw4:=pG ss left left;have hw5:=RW (mn:=mn) (mx:=mx) (Km hL lf) hLl lf;have hwm:=RL hL lf mm;unfold RX at hw5 hwm;rw[hW0] at hw5 hwm;generalize hW3:W0++left.flatMap (nH ss left)=W3 at *;have l3:W3.length<=182:=by rw[<- hW3,AK];omega
  obtain⟨cM,hcM⟩:∃c:Bool,c=decide (bR ss left<=64/\mn<mx):=⟨_,rfl⟩;have eM:Il ss left L mn mx=if cM=true then L.map Wy.msk else []:=by
   unfold Il;by_cases c:bR ss left<=64/\mn<mx
   ·rw[hcM,if_pos c,decide_eq_true c,if_pos rfl]
   rw[hcM,if_neg c,decide_eq_false c,if_neg δ]
  obtain⟨Pw,hPw⟩:∃Pv:Nat->L2.St->Hp->Prop,Pv=fun(i:Nat) σ H'=>∃(o6 o8:Option V),So (W3++if cM=true then (L.take i).map Wy.msk else []) H'/\H' p=some (HO.lst (L.map V.int))/\σ=[some (.ref sa),some (.ref la),some (.ref lb),some (.int ((aX left:Nat):Int)),some (.int (bR ss left)),some (.ref r),o6,o7,o8]:=⟨_,rfl⟩;refine uR hR (xs:=L.map V.int) Pw (by rw[hPw];exact⟨_,_,by rw[take_zero,JI,ite_self,CH];exact so4,ep4,rfl⟩) ?_ ?_ ?_
  ·intro i σ H5 _ pv;rw[hPw] at pv;obtain⟨_,_,_,ep,_⟩:=pv;exact SqL.of ep
  ·intro i x σ H5 hx pv;rw[hPw] at pv;obtain⟨o6,o8,so5,ep5,rfl⟩:=pv;rw[AU] at hx;obtain⟨l,hl,rfl⟩:=Bz.mp hx;have hil:i<L.length:=(AW.mp hl).1;show G7 _ _ _ _ _ _;simp only[Gc,F9];refine gQ fun kt ke hkt hke=>?_;push_cast;have eb5:H5 lb=some (HO.lst ((left.map (lbl ss)).map V.int)):=by
    rw[hSo] at so5;obtain⟨_,_,h,_⟩:=so5;exact h
   have no:cM=false->Pw (i+1) [some (.ref sa),some (.ref la),some (.ref lb),some (.int ((aX left:Nat):Int)),some (.int (bR ss left)),some (.ref r),o6,o7,some (.int l)] H5:=fun z=>by
    rw[hPw];rw[if_neg (by rw[z];decide)] at so5;exact⟨_,_,by rw[if_neg (by rw[z];decide)];exact so5,ep5,rfl⟩
   by_cases c1:bR ss left<=64
   ·rw[if_pos c1];refine⟨_,.inl eb5,hmp,fun mn' a1 a2=>⟨_,.inl eb5,hmp,fun mx' a3 a4=>?_⟩⟩;have e1:mn'=mn:=Int.le_antisymm (a2 _ mm.a) (mm.b _ a1);have e2:mx'=mx:=Int.le_antisymm (mm.d _ a3) (a4 _ mm.c);subst e1 e2;by_cases c2:mn'<mx'
    ·rw[if_pos c2];have hc:cM=true:=by rw[hcM];exact decide_eq_true ⟨c1,c2⟩
     rw[if_pos hc] at so5;subst hkt;refine put (.msk l) so5 (by rw[AK,AF,EA];omega) rfl (fun xs s8 er8=>fW (nwk s8 er8) (aP kJ (aP (kO (nwk s8 er8) (aP ?_ bV) (by show 1<=1000000;decide)) bV)) (by show 2<=1000000;decide)) fun H10 so10 sx10=>?_
     ·intro H7 s7 Q7 q7;have sH7:=s8.trans s7;have el7:=sH7 _ _ el;have es7:=sH7 _ _ es;push_cast;refine cF fun R2 hR2=>?_;push_cast [el7];refine dU (fun k=>(bW ss k).2.2≠l) (fun τ=>∃o0,τ=[o0,some (.int l),some (.ref sa)]) hR2 el7 ω ⟨_,rfl⟩ ?_ ?_
      ·rintro i k' τ acc Pn hk' ⟨o0,rfl⟩ h1 h2;obtain⟨p1,x1,y1⟩:=(tss.same sH7).stN (lf.lt _ (A5 hk'));push_cast [es7,x1,y1];by_cases c:(bW ss k').2.2=l
       ·rw[decide_eq_true c,if_neg δ];exact h2 (by simpa using c) _ ⟨_,rfl⟩
       rw[decide_eq_false c,if_pos (show(!false)=true from rfl)];exact h1 (by simpa using c) _ ⟨_,rfl⟩
      intro d hd;refine⟨d,_,rfl,aq,Be (BA ..) ω,fun k hk=>by have:=lf.lt k (C7.mp hk).1;omega,fun H8 s8=>q7 _ H8 ((aB hd).trans s8) (.int _)⟩
     show Pw _ _ _;rw[hPw];exact⟨_,_,by rw[if_pos hc,take_snoc hl,A9,<- EC];exact so10,sx10 _ _ hpr ep5,rfl⟩
    rw[if_neg c2];subst hke;exact no (by rw[hcM];exact decide_eq_false fun z=>c2 z.2)
   rw[if_neg c1];subst hke;exact no (by rw[hcM];exact decide_eq_false fun z=>c1 z.1)
  intro σ H5 pv;rw[hPw] at pv;obtain⟨o6',o8,so5,ep5,rfl⟩:=pv;rw[AF,D4,<- eM] at so5;show k _ _;subst hk;push_cast;rw[hSo] at so5;obtain⟨xs,s5,eb5,er5,lx5,t5⟩:=so5;exact q r xs _ H5 s5 hrn er5 hwm (t5.keep fun a o h e=>⟨by rw[hok2] at h;exact h.1,e⟩) (by rw[lx5];exact hw5)
noncomputable abbrev uV:List Str:=["_law_stretches_here","_law_scale","_law_left_here","_law_word","_law_words","_law_span_here"]
noncomputable abbrev jF:Stmt:=top 39
theorem Hh:bA uV q5_ (aj jF):=⟨rfl,rfl,rfl,ψ,rfl,ψ,ψ⟩
theorem J4:NM_ uV jF 0 "_law_stretches_here" := .of ψ
theorem vI:NM_ uV jF 1 "_law_scale" := .of ψ
theorem Cd:NM_ uV jF 2 "_law_left_here" := .of ψ
theorem vH:NM_ uV jF 3 "_law_word" := .of ψ
theorem Ca:NM_ uV jF 4 "_law_words" := .of ψ
theorem J3:NM_ uV jF 5 "_law_span_here" := .of ψ
theorem Nb:GI_ jF "int" := by decide +kernel
theorem M9:GI_ jF "sum" := by decide +kernel
theorem Tc:Bn "_law_own" := ⟨ψ,ψ⟩
theorem V7 (hB:∀x:Str,x∈BLs->mg x=none) (F:Fun K "_law_own" "_law_own" jF f fd):dm P w K mg base CX0 1 f fd q5_ (Hf uz):=by
 refine F.okq Hh (fun vs H Q E h=>?_) (fun cdv A outer s H vs Q E hr h=>?_)
 ·obtain⟨s,sc,la,ok,f,ss,left,w,rfl,_⟩:=h;rfl
 obtain⟨s,sc,la,ok,f',ss,left,wy,rfl,ts,⟨z,zs,rfl,esc,ez,h6,few⟩,el,lf,h60,ll,q⟩:=h;refine⟨_,(aD (bM Ca Hh.nd (bO (ak bI (ak bI (ak bI (ak bI (ak bI aA rfl) rfl) rfl) rfl) rfl)) rfl (.inl rfl))
  (aD (cT (bw (cB hr.bJ) (ao vH) bI (aO _)) (aK (aQ au)) bT)
  (aD (cT (bw (cB hr.bJ) (aJ aV (ao vI) au (fun _ _=>rfl)) bI (aO _)) (aK (aQ (aL eE (aJ aV (aJ aV (ao vI) au (fun _ _=>rfl)) (BP hr.un1 (ao Ca) (ao vH)) (fun _ _=>rfl)) (bY (lW rfl) M9 (hB "sum" xP) boot_sum yC (ak (cH (NX:=uV) (kX:=(aj jF).names) ["_law_k","_law_scale"] [none,some 1] rfl rfl ⟨rfl,ψ,ψ,ψ,ψ⟩ rfl (bN (ao Cd)) (fun _ _ _ _ _=>(bL 0 (show BQ (["_law_k","_law_scale"]:List Str) from by decide +kernel) rfl (C2 rfl))) (fun _ _ _ _ _=>gH) (fun _ _ _ _ _=>(aJ aV (aJ aV (bh 1) au (fun _ _=>rfl)) (bh 0) (fun _ _=>rfl)))) aA rfl) rfl rfl)))) bT)
  (aD (bM J3 Hh.nd (aL bD (aL fJ (aJ aV (aJ aV (ao J4) (aJ aV (ao Cd) (qT mj au) (fun _ _=>rfl)) (fun _ _=>rfl)) au (fun _ _=>rfl)) (aJ aV (aJ aV (ao J4) (aJ aV (ao Cd) au (fun _ _=>rfl)) (fun _ _=>rfl)) au (fun _ _=>rfl))) au) rfl (.inl rfl))
  (aK (aQ (aL bD (aJ aV (aJ aV (ao vI) au (fun _ _=>rfl)) (BP hr.un1 (ao Ca) (ao vH)) (fun _ _=>rfl)) (aL eE (aL eE (aJ aV (aJ aV (ao vI) au (fun _ _=>rfl)) au (fun _ _=>rfl)) (ao J3)) (wG mW Nb (hB "int" xQ) boot_int yD (ak (gG (cB hr.bJ) (ao vH) bI (aO _)) aA rfl) rfl rfl))))))))),?_⟩
 refine aN fun k hk=>?_;push_cast;refine⟨aU δ,fun d hd=>?_⟩;have s1:=aB (o:=HO.lst (gJ.map V.str)) hd;have e1:upd H d (HO.lst (gJ.map V.str)) d=some (HO.lst (gJ.map V.str)):=aq;change k _ (upd H d (HO.lst (gJ.map V.str)));generalize upd H d (HO.lst (gJ.map V.str))=H1 at s1 e1 |-;subst hk;refine aN fun k hk=>?_;refine gQ fun kt ke hkt hke=>?_;push_cast;by_cases c:vK (eY wy)=true
 ·have e:eY wy=.pick 0\/∃l,eY wy=.pick l:=by
   cases wy with
   | pick l=>exact .inr ⟨l,rfl⟩
   | _=>cases c
  obtain⟨l,e⟩:∃l,eY wy=.pick l:=e.elim (fun z=>⟨0,z⟩) id;rw[e] at q |-;rw[if_pos (show fD (Pl.pick l) = "pick" from rfl)];subst hkt;push_cast;exact q _ s1
 replace c:vK (eY wy)=false:=Bool.eq_false_iff.mpr c;have hne:¬fD (eY wy) = "pick" := by
  cases wy with
  | pick l=>cases c
  | tab=>exact(by decide +kernel:("table" : Str) ≠ "pick")
  | msk l=>exact(by decide +kernel:("mask" : Str) ≠ "pick")
  | one l=>exact(by decide +kernel:("is" : Str) ≠ "pick")
  | wit l=>exact(by decide +kernel:("within" : Str) ≠ "pick")
  | low l=>exact(by decide +kernel:("below" : Str) ≠ "pick")
 rw[if_neg hne];subst hke;show k _ _;subst hk;refine aN fun k hk=>?_;have esc1:=s1 _ _ esc;push_cast [esc1];rw[if_neg δ];subst hk;have ts1:=ts.same s1;have el1:=s1 _ _ el;have ez1:=s1 _ _ ez;cases ts1 with
 | lst o es zz tss=>
  obtain⟨k1,ee1,m1,a1⟩:=vD lf.ne;obtain⟨k0,ee0,m0,a0⟩:=vG lf.ne;obtain⟨p1,x1,y1⟩:=tss.stN (lf.lt _ m1);obtain⟨p0,x0,y0⟩:=tss.stN (lf.lt _ m0);refine aN fun k hk=>?_;push_cast [el1,a1,a0,es,x1,x0,y1,y0];subst hk;have hix:uc (eY wy)<5:=by cases wy <;> (simp only[eY,mkP,uc];omega)
  have hat:=pR (zs:=zs) (i:=uc (eY wy)) ω;have h5:=pR (zs:=zs) (i:=5) ω;replace h5:atI (zs.map V.int) 5=_:=h5;push_cast [esc1,ez1,e1,vX];refine⟨gJ,true,SqL.of e1,SqL.of e1,uc (eY wy),yq c,?_⟩;push_cast [hat,esc1,ez1,h5];have hq:=q _ s1;have key:eZ ss zs left (eY wy)=zs.getD (uc (eY wy)) 0+zs.getD 5 0*((bW ss k1).2.1-(bW ss k0).1+1)*(if fD (eY wy)=BD "table" then 1 else 0):=by
   have hsp:bR ss left=(bW ss k1).2.1-(bW ss k0).1+1:=by unfold bR;rw[ee1,ee0];rfl
   rw[<- hsp];cases wy with
   | pick l=>cases c
   | tab=>
    rw[if_pos (show fD (eY .tab)=BD "table" from rfl),Int.mul_one];rfl
   | msk l=>rw[if_neg (show ¬fD (eY (.msk l))=BD "table" from(by decide +kernel:¬("mask" : Str) = "table")),mul_zero,FB];rfl
   | one l=>rw[if_neg (show ¬fD (eY (.one l))=BD "table" from(by decide +kernel:¬("is" : Str) = "table")),mul_zero,FB];rfl
   | wit l=>rw[if_neg (show ¬fD (eY (.wit l))=BD "table" from(by decide +kernel:¬("within" : Str) = "table")),mul_zero,FB];rfl
   | low l=>rw[if_neg (show ¬fD (eY (.low l))=BD "table" from(by decide +kernel:¬("below" : Str) = "table")),mul_zero,FB];rfl
  rw[key] at hq;exact⟨.inl (few.at 5),.inr (by split <;> decide),hq⟩
noncomputable abbrev jT:List Str:=["_law_stretches_here","_law_scale","_law_many","_law_best_here","_law_number","_law_left_here","_law_some","_law_word","_law_sets"]
noncomputable abbrev dJ:Stmt:=top 40
theorem mz:bA jT q8_ (aj dJ):=⟨rfl,rfl,rfl,ψ,rfl,ψ,ψ⟩
theorem xq:NM_ jT dJ 0 "_law_stretches_here" := .of ψ
theorem Rz:NM_ jT dJ 1 "_law_scale" := .of ψ
theorem xg:NM_ jT dJ 2 "_law_many" := .of ψ
theorem w6:NM_ jT dJ 3 "_law_best_here" := .of ψ
theorem Fi:NM_ jT dJ 4 "_law_number" := .of ψ
theorem Fg:NM_ jT dJ 5 "_law_left_here" := .of ψ
theorem Fe:NM_ jT dJ 6 "_law_some" := .of ψ
theorem Fd:NM_ jT dJ 7 "_law_word" := .of ψ
theorem Fb:NM_ jT dJ 8 "_law_sets" := .of ψ
theorem CP:GI_ dJ "_law_left" := by decide +kernel
theorem Fz:GI_ dJ "_law_own" := by decide +kernel
theorem zu:GI_ dJ "_law_steps" := by decide +kernel
theorem IW:GI_ dJ "len" := by decide +kernel
theorem IV:GI_ dJ "min" := by decide +kernel
theorem CN:GI_ dJ "range" := by decide +kernel
theorem Iw:GI_ dJ "sum" := by decide +kernel
theorem W5:Bn "_law_best" := ⟨ψ,ψ⟩
theorem Rc {Sc:ScP}(hSc:Jt Sc) {n:Nat}(hn:n<=12) (hB:∀x:Str,x∈BLs->mg x=none) (CZLeft:Cal P w K mg base "_law_left" 1 q9_ (vz n)) (CZSteps:Cal P w K mg base "_law_steps" 2 q4_ wj) (CZOwn:Cal P w K mg base "_law_own" 1 q5_ (Hf Sc)) (F:Fun K "_law_best" "_law_best" dJ f fd):dm P w K mg base CX0 3 f fd q8_ (Hg Sc n):=by
 refine F.okq mz (fun vs H Q E h=>?_) (fun cdv A outer s H vs Q E hr h=>?_)
 ·obtain⟨s,sc,ok,f,ss,rfl,_⟩:=h;rfl
 obtain⟨s,sc,ok,f',ss,rfl,hnw,ts,hsn,hsc,q⟩:=h;refine⟨_,(aD (bM xg mz.nd (bY bK IW (hB "len" d7) BH d8 (ak (ao xq) aA rfl) rfl rfl) rfl (.inl rfl))
  (aD (bM w6 mz.nd (bO (ak au aA rfl)) rfl (.inl rfl))
  (aD (iC Cb rfl (tG CN (hB "range" fM) (ak au (ak (aL jK au (ao xg)) aA rfl) rfl) rfl rfl) (fC Fi mz.nd (.inl rfl))
  (aD (Ht (i:=5) (j:=6) rfl mz.nd rfl rfl δ rfl rfl (ak (bx CZLeft (hr.mono δ) CP K1 (ak (ao Fi) (ak (ao xg) aA rfl) rfl) rfl rfl) (ak (bO aA) aA rfl) rfl) (by rfl))
  (aD (iC Cb rfl (bN (bx CZSteps (hr.mono δ) zu Gp (ak (ao xq) (ak (ao Fg) aA rfl) rfl) rfl rfl)) (ou (n:=2) rfl (cI (fC Fd mz.nd (.inl rfl)) (cI (fC Fb mz.nd (.inl rfl)) j7 rfl) rfl) rfl rfl)
  (aK (dg (eX (ao Fe) (aL bD (bx CZOwn (hr.mono δ) Fz Tc (ak (ao xq) (ak (ao Rz) (ak (ao Fg) (ak (ao Fd) aA rfl) rfl) rfl) rfl) rfl rfl) (bY (lW rfl) Iw (hB "sum" xP) boot_sum yC (ak (cH (NX:=jT) (kX:=(aj dJ).names) ["_law_one","_law_best_here"] [none,some 3] rfl rfl ⟨rfl,ψ,ψ,ψ,ψ⟩ rfl (bN (ao Fb)) (fun _ _ _ _ _=>(bL 0 (show BQ (["_law_one","_law_best_here"]:List Str) from by decide +kernel) rfl (C2 rfl))) (fun _ _ _ _ _=>gH) (fun _ _ _ _ _=>(aJ aV (bh 1) (bh 0) (fun _ _=>rfl)))) aA rfl) rfl rfl)) rfl rfl rfl rfl rfl) rfl)) (fun _=>rfl))
  (aK (dg (eX (ao w6) (bY (pI rfl) IV (hB "min" tZ) boot_min uy (ak (ao Fe) aA rfl) rfl rfl) rfl rfl rfl rfl rfl) rfl)))) (fun _=>rfl))
  (aK (aQ (ao w6)))))),?_⟩
 have p2:2^n<=4096:=Be (D6 δ hn) δ;have p1:=D0 n;have ts0:=ts;cases ts with
 | lst os es zs tss=>
  rename_i sa sxs;have hsl:=tss.length;rw[AF,hsn] at hsl;refine aN fun k hk=>?_;push_cast [es];subst hk;refine aN fun k hk=>?_;push_cast;refine⟨aU δ,fun r hr0=>?_⟩;have s1:=aB (o:=HO.lst [V.int 0]) hr0;have er1:upd H r (HO.lst [V.int 0]) r=_:=aq;generalize upd H r (HO.lst [V.int 0])=H1 at s1 er1 |-;subst hk;refine aN fun k hk=>?_;refine lU fun R hR=>?_;push_cast [Fv];rw[hsl,IA,B3,show((2:Int)^n)=((2^n:Nat):Int) by rw[Fm];rfl];generalize hm:2^n=m at p1 p2 |-;rw[show((m:Int)-1).toNat=m-1 by omega];refine⟨⟨ω,ω,δ⟩,⟨δ,δ,ω,ω⟩,?_⟩;obtain⟨Pv,hPv⟩:∃Pv:Nat->L2.St->Hp->Prop,Pv=fun(i:Nat) σ H'=>∃(N:List Int)(o4 o5 o6 o7 o8:Option V),Same H H'/\H' r=some (.lst (N.map V.int))/\Tbl f' ss n (i+1) N/\σ=[some (.ref sa),some (.ref sc),some (.int (n:Int)),some (.ref r),o4,o5,o6,o7,o8]:=⟨_,rfl⟩;refine Ku hR Pv (by rw[hPv];exact⟨[0],_,_,_,_,_,s1,er1,Tbl.start f' ss n,by rw[hsl]⟩) ?_ ?_
  ·intro i σ H3 hi pv;rw[hPv] at pv;obtain⟨N,o4,o5,o6,o7,o8,s3,er3,tb,rfl⟩:=pv;have him:i+1<2^n:=ω;have lf:=iT hsn (show 0<i+1 by omega) him;have hset:=jD him;have hbl:=mY n (i+1);refine aN fun k2 hk2=>?_;push_cast;rw[show(1:Int)+(i:Int)=((i+1:Nat):Int) by omega];refine⟨i+1,rfl,him,fun la H4 s4 hla el4=>?_⟩;push_cast;refine⟨aU δ,fun sm hsm=>?_⟩;have s5:=aB (o:=HO.lst []) hsm;have em5:upd H4 sm (HO.lst []) sm=some (HO.lst []):=aq;have sH5:=(s3.trans s4).trans s5;have hsn0:H sm=none:=(s3.trans s4).none hsm;have el5:=s5 _ _ el4;have er5:=(s4.trans s5) _ _ er3;have hlm:la≠sm:=aF el4 hsm;have hrm:r≠sm:=aF (s4 _ _ er3) hsm;generalize upd H4 sm (HO.lst [])=H5 at sH5 em5 el5 er5 |-;subst hk2;refine aN fun k2 hk2=>?_;refine lU fun R2 hR2=>?_;obtain⟨ok2,hok2⟩:∃ok2:Addr->Prop,ok2=fun a=>ok a/\a≠sm:=⟨_,rfl⟩;have nw2:cW ok2 H5:=fun H' p s' hp=>by
    rw[hok2];exact⟨hnw H' p (sH5.trans s') hp,(aF (s' _ _ em5) hp).symm⟩
   have ts2:aH ok2 H (.ref sa) (.list (ss.map stD)):=ts0.keep fun a o h e=>⟨by rw[hok2];exact⟨h,aF e hsn0⟩,e⟩;push_cast [gZ];refine⟨_,la,ok2,ss,bC n (i+1),rfl,nw2,ts2.same sH5,el5,lf,ω,ω,fun st xs W H6 s6 hst est hW t6 hx6=>?_⟩;show itK K (V.ref st) H6 R2;rw[jo,est,jn];have hxl:=t6.length;rw[AF] at hxl;have hWne:W≠[]:=fun z=>by
    obtain⟨w1,hw1⟩:=Xf lf;have:=(hW w1).mpr hw1;rw[z] at this;cases this
   have hstm:st≠sm:=(aF em5 hst).symm;have hsB:stB (bC n (i+1)).length<=1000:=by unfold stB;split <;> omega
   have el6:=s6 _ _ el5;have er6:=s6 _ _ er5;have em6:=s6 _ _ em5;have sH6:=sH5.trans s6;clear s3 s4 s5 sH5 el4 el5 er3 er5 em5 s6 hst nw2;generalize hleft:bC n (i+1)=left at *;obtain⟨Pw,hPw⟩:∃Pv:Nat->L2.St->Hp->Prop,Pv=fun(j:Nat) σ H'=>∃(o7 o8:Option V),Same H H'/\H' r=some (.lst (N.map V.int))/\H' la=some (.lst (nv left))/\H' st=some (.lst xs)/\H' sm=some (.lst (((W.take j).map (iU f' N ss left)).map V.int))/\aG ok2 H' xs (W.map (stW ss left))/\σ=[some (.ref sa),some (.ref sc),some (.int (n:Int)),some (.ref r),some (.int ((i+1:Nat):Int)),some (.ref la),some (.ref sm),o7,o8]:=⟨_,rfl⟩;refine uR hR2 (xs:=xs) Pw (by rw[hPw];exact⟨_,_,sH6,er6,el6,est,em6,t6,rfl⟩) ?_ ?_ ?_
   ·intro j σ H7 _ pw;rw[hPw] at pw;obtain⟨_,_,_,_,_,h,_⟩:=pw;exact SqL.of h
   ·intro j y σ H7 hy pw;rw[hPw] at pw;obtain⟨o7',o8',s7,er7,el7,est7,em7,t7,rfl⟩:=pw;obtain⟨d,hd,td⟩:=t7.get hy;rw[AU] at hd;obtain⟨w1,hw1,rfl⟩:=Bz.mp hd;have isw:=(hW w1).mp (A5 hw1);unfold stW at td;rw[qX] at td;cases td with
    | tup ot et zt tt=>
     cases tt with
     | cons tc tt=>
      cases tt with
      | cons tp tt=>
       cases tt;cases tc;rename_i ta xp;obtain⟨lp,rfl,okl,elp,llp⟩:=tp.left;replace elp:H7 lp=some (.lst (nv ((eO ss left w1).map aX))):=elp;push_cast [et];refine⟨by rw[em7];trivial,_,sc,la,ok2,f',ss,left,w1,rfl,ts2.same s7,hSc _ _ _ _ _ hsc s7,el7,lf,ω,ω,fun H8 s8=>?_⟩;refine cF fun R3 hR3=>?_;have elp8:=s8 _ _ elp;have er8:=s8 _ _ er7;push_cast [elp8];refine jB (fun k=>N.getD k 0) (fun τ=>∃o0,τ=[o0,some (.ref r)]) hR3 elp8 llp ⟨_,rfl⟩ ?_ ?_
       ·rintro j k' τ acc Pn hk' ⟨o0,rfl⟩ h1;have hmk:=A5 hk';obtain⟨p,hp,rfl⟩:=DT.mp hmk;obtain⟨_,l2,_⟩:=jH lf isw p hp;have hwk:=pR (zs:=N) (i:=aX p) (by rw[tb.len];omega);push_cast [er8,hwk];exact h1 _ ⟨_,rfl⟩
       intro d2 hd2;have s9:=aB (o:=HO.lst ((((eO ss left w1).map aX).map fun k=>N.getD k 0).map V.int)) hd2;have e9:upd H8 d2 (HO.lst ((((eO ss left w1).map aX).map fun k=>N.getD k 0).map V.int)) d2=_:=aq;generalize upd H8 d2 (HO.lst ((((eO ss left w1).map aX).map fun k=>N.getD k 0).map V.int))=H9 at s9 e9 |-;have s89:=s8.trans s9;have em9:=s89 _ _ em7;push_cast [e9];refine⟨_,rfl,?_⟩;rw[show f' left (eY w1)+(((eO ss left w1).map aX).map fun k=>N.getD k 0).sum=iU f' N ss left w1 by unfold iU;rw[JJ];rfl];push_cast [em9];refine⟨JM (by rw[AF,AF,EA];omega),?_⟩;rw[hPw];refine⟨_,_,dH (s7.trans s89) hsn0,(aM hrm).trans (s89 _ _ er7),(aM hlm).trans (s89 _ _ el7),(aM hstm).trans (s89 _ _ est7),?_,(t7.same s89).keep fun a o h e=>⟨h,by rw[hok2] at h;rw[aM h.2];exact e⟩,rfl⟩;rw[aq,take_snoc hw1,A9,A9];rfl
   intro σ H7 pw;rw[hPw] at pw;obtain⟨o7',o8',s7,er7,el7,est7,em7,t7,rfl⟩:=pw;rw[hxl,D4] at em7;show k2 _ _;subst hk2;push_cast;refine⟨by rw[er7];trivial,_,.inl em7,fun z=>hWne (Hc.mp z),fun M hM hle=>?_⟩;push_cast [er7];refine⟨JM (by rw[AF,tb.len];omega),?_⟩;obtain⟨w1,hw1,eM⟩:=DT.mp hM;have tb':=tb.snoc hsn ω him (c:=M) (by
    rw[hleft];exact⟨⟨w1,(hW w1).mp hw1,eM.symm⟩,fun w' hw'=>hle _ (EL ((hW w').mpr hw'))⟩)
   rw[hPv];exact⟨N++[M],_,_,_,_,_,dH s7 hr0,by rw[aq,A9];rfl,tb',rfl⟩
  intro σ H3 pv;rw[hPv] at pv;obtain⟨N,o4,o5,o6,o7,o8,s3,er3,tb,rfl⟩:=pv;show k _ _;subst hk;push_cast;rw[show m-1+1=2^n by omega] at tb;exact q r N _ s3 hr0 er3 tb
noncomputable abbrev uE:List Str:=["_law_some","_law_more","_law_made","_law_one"]
noncomputable abbrev jg:Stmt:=top 42
theorem Bl:bA uE ["_law_some","_law_more"] (aj jg):=⟨rfl,rfl,rfl,ψ,rfl,ψ,ψ⟩
theorem Rv:NM_ uE jg 0 "_law_some" := .of ψ
theorem Ru:NM_ uE jg 1 "_law_more" := .of ψ
theorem wV:NM_ uE jg 2 "_law_made" := .of ψ
theorem Rt:NM_ uE jg 3 "_law_one" := .of ψ
theorem Fw:GI_ jg "dict" := by decide +kernel
theorem W2:Bn "_law_sums" := ⟨ψ,ψ⟩
theorem Ra (hB:∀x:Str,x∈BLs->mg x=none) (F:Fun K "_law_sums" "_law_sums" jg f fd):dm P w K mg base CX0 1 f fd ["_law_some","_law_more"] Pj:=by
 refine F.okq Bl (fun vs H Q E h=>?_) (fun cdv A outer s H vs Q E hr h=>?_)
 ·obtain⟨d,e,kvs,more,S,T,rfl,_⟩:=h;rfl
 obtain⟨d,e,kvs,more,S,T,rfl,hde,ed,ee,kS,kT,l1,l2,q⟩:=h;refine⟨_,(aD (bM wV Bl.nd Hu rfl (.inl rfl))
  (aD (iC Cb rfl (Ej (ao Rv)) (fC Rt Bl.nd (.inl rfl))
  (aK (dg (JS (ao wV) (U4 rfl Fw (hB "dict" Ke) (ak (cH (NX:=uE) (kX:=(aj jg).names) ["_law_other","_law_one"] [none,some 3] rfl rfl ⟨rfl,ψ,ψ,ψ,ψ⟩ rfl (Ej (ao Ru)) (fun _ _ _ _ _=>(bL 0 (show BQ (["_law_other","_law_one"]:List Str) from by decide +kernel) rfl (C2 rfl))) (fun _ _ _ _ _=>gH) (fun _ _ _ _ _=>(b8 (ak (aL bD (bh 1) (bh 0)) (ak jG aA rfl) rfl)))) aA rfl)) ⟨rfl,rfl,rfl,rfl⟩) rfl)) (fun _=>rfl))
  (aK (aQ (ao wV))))),?_⟩
 refine aN fun k hk=>?_;push_cast [vY];intro r hr0;have s1:=aB (o:=HO.dK []) hr0;have er1:upd H r (HO.dK []) r=_:=aq;have hdr:d≠r:=aF ed hr0;have her:e≠r:=aF ee hr0;have ed1:=s1 _ _ ed;have ee1:=s1 _ _ ee;generalize upd H r (HO.dK [])=H1 at s1 er1 ed1 ee1 |-;subst hk;refine aN fun k hk=>?_;refine lU fun R hR=>?_;push_cast [Cw];refine⟨kvs,.inl ⟨ed1,fun od=>?_⟩⟩;obtain⟨is,his,mis⟩:=kS.list;obtain⟨js,hjs,mjs⟩:=kT.list;have hkl:kvs.length=is.length:=by have:=congrArg Fh his;rwa [AF,AF] at this
 have hml:more.length=js.length:=by have:=congrArg Fh hjs;rwa [AF,AF] at this
 obtain⟨Pv,hPv⟩:∃Pv:Nat->L2.St->Hp->Prop,Pv=fun(i:Nat) σ H'=>∃(xs:List (Key×V)) (o3:Option V),H' d=some (.frz od (.dK kvs))/\(H' e=some (.dK more)\/∃oe,H' e=some (.frz oe (.dK more)))/\H' r=some (.dK xs)/\KS xs (fun c=>∃a b,a∈is.take i/\T b/\c=a+b)/\xs.length<=i*more.length/\(∀b o,b≠d->b≠e->H b=some o->H' b=some o)/\σ=[some (.ref d),some (.ref e),some (.ref r),o3]:=⟨_,rfl⟩;refine Zz hR kvs.length Pv (by
  rw[hPv];refine⟨[],_,aq,.inl ((aM hde.symm).trans ee1),(aM hdr.symm).trans er1,KS.nil.imp fun i=>⟨D7,fun⟨_,_,h,_⟩=>nomatch h⟩,EI _,fun b o h1 _ h=>(aM h1).trans (s1 _ _ h),rfl⟩) ?_ ?_ ?_ ?_
 ·intro i σ H2 hi pv;rw[hPv] at pv;obtain⟨_,_,h,_⟩:=pv;exact⟨hi,h⟩
 ·intro σ H2 pv;rw[hPv] at pv;obtain⟨_,_,h,_⟩:=pv;exact⟨A1 _,h⟩
 ·rintro i σ H2 x H3 hi pv ⟨rfl,kv,hkv,rfl⟩;rw[hPv] at pv;obtain⟨xs,o3,ed2,ee2,er2,k2,lx2,sm2,rfl⟩:=pv;obtain⟨a,ha,eka⟩:∃a,is[i]?=some a/\kv.1=B9 a:=by
   have h1:(kvs.map (·.1))[i]?=some kv.1:=by rw[AU,hkv];rfl
   rw[his,AU] at h1;obtain⟨a,h2,h3⟩:=Bz.mp h1;exact⟨a,h2,h3.symm⟩
  rw[eka];push_cast [JB,O6];refine⟨.inl ⟨_,.inl er2⟩,?_⟩;refine cF fun R2 hR2=>?_;have hrd:¬r=d:=fun z=>hdr z.symm;have go:∀oe H4,H4 e=some (.frz oe (.dK more))->H4 d=some (.frz od (.dK kvs))->H4 r=some (.dK xs)->(∀b o,b≠d->b≠e->H b=some o->H4 b=some o)->R2 (ItF oe e more) H4:=by
   intro oe H4 ee4 ed4 er4 sm4;obtain⟨Pc,hPc⟩:∃Pv:Nat->List V->L2.St->Hp->Prop,Pv=fun(j:Nat) acc τ H'=>∃(ads:List Addr)(o0:Option V),acc=ads.map V.ref/\ads.length=j/\Same H4 H'/\(∀(t:Nat) p b,ads[t]?=some p->js[t]?=some b->H' p=some (.tup [.int (a+b),.bl true]))/\τ=[o0,some (kV (B9 a))]:=⟨_,rfl⟩;refine Dc hR2 more.length (aU ω) Pc (by rw[hPc];exact⟨[],_,rfl,rfl,Same.refl _,fun t p b h=>by simp at h,rfl⟩) ?_ ?_ ?_ ?_ ?_
   ·intro j acc τ H5 pc;rw[hPc] at pc;obtain⟨ads,_,rfl,hl,_⟩:=pc;rw[AF,hl];exact A1 _
   ·intro j acc τ H5 hj pc;rw[hPc] at pc;obtain⟨_,_,_,_,s5,_⟩:=pc;exact⟨hj,s5 _ _ ee4⟩
   ·intro acc τ H5 pc;rw[hPc] at pc;obtain⟨_,_,_,_,s5,_⟩:=pc;exact⟨A1 _,s5 _ _ ee4⟩
   ·rintro j acc τ H5 x H6 hj pc ⟨rfl,kv2,hkv2,rfl⟩;rw[hPc] at pc;obtain⟨ads,o0,rfl,hl,s5,hads,rfl⟩:=pc;obtain⟨b,hb,ekb⟩:∃b,js[j]?=some b/\kv2.1=B9 b:=by
     have h1:(more.map (·.1))[j]?=some kv2.1:=by rw[AU,hkv2];rfl
     rw[hjs,AU] at h1;obtain⟨b,h2,h3⟩:=Bz.mp h1;exact⟨b,h2,h3.symm⟩
    rw[ekb];show lQ 0 (V.int b) _ _ _;push_cast [kV];refine⟨aU δ,fun p hp=>?_⟩;rw[hPc];refine⟨ads++[p],_,by rw[A9];rfl,by rw[AK,hl];rfl,s5.trans (aB hp),fun t p' b' h1 h2=>?_,rfl⟩;rcases FK t ads.length with c|c
    ·rw[DF c] at h1;exact aB hp _ _ (hads t p' b' h1 h2)
    rw[BU c] at h1;have ht0:t-ads.length=0:=by
     rcases Nat.eq_zero_or_pos (t-ads.length) with z|z
     ·exact z
     rw[FD (by rw[BM];omega)] at h1;cases h1
    rw[ht0] at h1;cases h1;rw[show t=j by omega,hb] at h2;cases h2;exact aq
   intro acc τ H5 l pc hl5;rw[hPc] at pc;obtain⟨ads,o0,rfl,hl,s5,hads,rfl⟩:=pc;have s6:=aB (o:=HO.lst (ads.map V.ref)) hl5;have sH6:=s5.trans s6;refine⟨l,rfl,js.map fun b=>((B9 (a+b):Key),V.bl true),ads,aq,by rw[AF];omega,fun t p kv3 h1 h2=>?_,aU (by rw[AF];omega),fun d1 hd1=>?_⟩
   ·rw[AU] at h2;obtain⟨b,hb,rfl⟩:=Bz.mp h2;exact s6 _ _ (hads t p b h1 hb)
   have s7:=aB (o:=HO.dK (L2.putAll [] (js.map fun b=>((B9 (a+b):Key),V.bl true)))) hd1;have sH7:=sH6.trans s7;have lp:=mK (js.map fun b=>((B9 (a+b):Key),V.bl true)) [];have kp:KS (L2.putAll [] (js.map fun b=>((B9 (a+b):Key),V.bl true))) fun c=>∃b,T b/\c=a+b:=(KS.all KS.nil (KS.of (is:=js.map (a + ·)) (by rw[JJ,JJ];rfl))).imp fun c=>⟨fun h=>by
    rcases h with h|h
    ·exact h.elim
    obtain⟨b,hb,rfl⟩:=DT.mp h;exact⟨b,(mjs b).mp hb,rfl⟩,fun⟨b,hb,e⟩=>.inr (DT.mpr ⟨b,(mjs b).mpr hb,e.symm⟩)⟩
   generalize L2.putAll [] (js.map fun b=>((B9 (a+b):Key),V.bl true))=ys at *;rw[Fs,AF] at lp;have hmi:i*more.length<=800*800:=mul_le_mul ω l2;have lq:=mK ys xs;refine⟨aF (sH6 _ _ er4) hd1,xs,sH7 _ _ er4,ys,rfl,aU ω,?_⟩;rw[hPv];refine⟨_,_,(aM hdr).trans (sH7 _ _ ed4),.inr ⟨oe,(aM her).trans (sH7 _ _ ee4)⟩,aq,(k2.all kp).imp fun c=>?_,by rw[succ_mul];omega,fun b o h1 h2 h=>?_,rfl⟩
   ·rw[take_snoc ha];constructor
    ·rintro(⟨a',b,h1,h2,h3⟩|⟨b,h2,h3⟩)
     ·exact⟨a',b,GG _ h1,h2,h3⟩
     exact⟨a,b,by simp,h2,h3⟩
    rintro⟨a',b,h1,h2,h3⟩;rcases CF.mp h1 with h1|h1
    ·exact .inl ⟨a',b,h1,h2,h3⟩
    rw[AM.mp h1] at h3;exact .inr ⟨b,h2,h3⟩
   rw[aM (aF h hr0)];exact sH7 _ _ (sm4 b o h1 h2 h)
  push_cast [Cw];rcases ee2 with ee2|⟨oe,ee2⟩
  ·exact⟨more,.inl ⟨ee2,fun oe=>go oe _ aq ((aM hde).trans ed2) ((aM her.symm).trans er2) fun b o h1 h2 h=>(aM h2).trans (sm2 b o h1 h2 h)⟩⟩
  exact⟨more,.inr ⟨oe,ee2,go oe _ ee2 ed2 er2 sm2⟩⟩
 intro σ H2 pv;rw[hPv] at pv;obtain⟨xs,o3,ed2,ee2,er2,k2,lx2,sm2,rfl⟩:=pv;show k _ _;subst hk;push_cast;rw[hkl,D4] at k2;exact q r xs H2 hr0 er2 (k2.imp fun c=>⟨fun⟨a,b,h1,h2,h3⟩=>⟨a,b,(mis a).mp h1,h2,h3⟩,fun⟨a,b,h1,h2,h3⟩=>⟨a,b,(mis a).mpr h1,h2,h3⟩⟩) lx2 sm2
end
noncomputable abbrev oR:List Str:=["_law_stretches_here","_law_scale","_law_number","_law_many","_law_left_here","_law_found","_law_word","_law_sets","_law_some","_law_one"]
noncomputable abbrev gb:Stmt:=top 41
theorem qg:bA oR q2_ (aj gb):=⟨rfl,rfl,rfl,ψ,rfl,ψ,ψ⟩
theorem Ce:NM_ oR gb 0 "_law_stretches_here" := .of ψ
theorem Kc:NM_ oR gb 1 "_law_scale" := .of ψ
theorem Wj:NM_ oR gb 2 "_law_number" := .of ψ
theorem Ka:NM_ oR gb 3 "_law_many" := .of ψ
theorem J9:NM_ oR gb 4 "_law_left_here" := .of ψ
theorem J8:NM_ oR gb 5 "_law_found" := .of ψ
theorem J7:NM_ oR gb 6 "_law_word" := .of ψ
theorem J6:NM_ oR gb 7 "_law_sets" := .of ψ
theorem vJ:NM_ oR gb 8 "_law_some" := .of ψ
theorem J5:NM_ oR gb 9 "_law_one" := .of ψ
theorem Jb:GI_ gb "_law_all" := by decide +kernel
theorem FN:GI_ gb "_law_left" := by decide +kernel
theorem Ja:GI_ gb "_law_own" := by decide +kernel
theorem CQ:GI_ gb "_law_steps" := by decide +kernel
theorem FJ:GI_ gb "_law_sums" := by decide +kernel
theorem Td:Bn "_law_all" := ⟨ψ,ψ⟩
theorem Hv {pts:List (List Nat)}{t:Nat}(h:∀p∈pts,allB p.length<=768)(ht:t<pts.length)(h2:pts.length<=2):qY (pts.take t)<=768:=by
 match pts,t,h,ht,h2 with
 | _::_,0,_,_,_=>show 1<=768;decide
 | p::_::_,1,h,_,_=>show allB p.length*1<=768;rw[mul_one];exact h p AX
 | _::_::_,t+2,_,ht,h2=>simp only[B6] at ht h2;omega
 | [_],t+1,_,ht,_=>simp only[B6,Fs] at ht;omega
theorem TQ (m:Nat):vR m<=1536:=by
 match m with
 | 0=>decide
 | 1=>decide
 | 2=>decide
 | 3=>decide
 | _+4=>exact A1 1536
theorem all_none {P:AV}{w:A6}{K:AE}{mg:Str->Option An}{base:Heap}{f:Addr}{fd:CA}{Sc:ScP}{n:Nat}:dm P w K mg base CX0 2 f fd q2_ (sX Sc n 0):=by
 have no:∀vs H Q E,¬sX Sc n 0 vs H Q E:=fun vs H Q E h=>by
  obtain⟨s,sc,x,ok,f',ss,N,_,_,_,hsn,_,h0,hx,hxm,_⟩:=h;have:=Ee.mpr (iT hsn h0 hx).ne;omega
 exact⟨fun vs H Q E h=>absurd h (no vs H Q E),fun A outer s H args us vs Q E _ _ _ _ h=>absurd h (no vs H Q E)⟩
section
variable {P:AV}{w:A6}{K:AE}{mg:Str->Option An}{base:Heap}{f:Addr}{fd:CA}{bs:List Str}
theorem V8 {Sc:ScP}(hSc:Jt Sc) {n m:Nat}(hn:n<=60) (hm:m+1<=4) (hB:∀x:Str,x∈BLs->mg x=none) (CZLeft:Cal P w K mg base "_law_left" 1 q9_ (vz n)) (CZSteps:Cal P w K mg base "_law_steps" 2 q4_ wj) (CZOwn:Cal P w K mg base "_law_own" 1 q5_ (Hf Sc)) (CZSums:Cal P w K mg base "_law_sums" 1 ["_law_some","_law_more"] Pj) (CZAll:Cal P w K mg base "_law_all" (m+2) q2_ (sX Sc n m)) (F:Fun K "_law_all" "_law_all" gb f fd):dm P w K mg base CX0 (m+3) f fd q2_ (sX Sc n (m+1)):=by
 refine F.okq qg (fun vs H Q E h=>?_) (fun cdv A outer s H vs Q E hr h=>?_)
 ·obtain⟨s,sc,x,ok,f,ss,N,rfl,_⟩:=h;rfl
 obtain⟨s,sc,x,ok,f',ss,N,rfl,hnw,ts,hsn,hsc,h0,hx,hxm,tb,q⟩:=h;refine⟨_,(aD (Ht (i:=4) (j:=5) rfl qg.nd rfl rfl δ rfl rfl (ak (bx CZLeft (hr.mono ω) FN K1 (ak (ao Wj) (ak (ao Ka) aA rfl) rfl) rfl rfl) (ak Hu aA rfl) rfl) (by rfl))
  (aD (iC Cb rfl (bN (bx CZSteps (hr.mono ω) CQ Gp (ak (ao Ce) (ak (ao J9) aA rfl) rfl) rfl rfl)) (ou (n:=2) rfl (cI (fC J7 qg.nd (.inl rfl)) (cI (fC J6 qg.nd (.inl rfl)) j7 rfl) rfl) rfl rfl)
  (aD (bM vJ qg.nd (U5 (Qq (bx CZOwn (hr.mono ω) Ja Tc (ak (ao Ce) (ak (ao Kc) (ak (ao J9) (ak (ao J7) aA rfl) rfl) rfl) rfl) rfl rfl) jG UL) rfl rfl (List.cons_ne_nil _ _) rfl) rfl (.inl rfl))
  (aD (iC Cb rfl (bN (ao J6)) (fC J5 qg.nd (.inl rfl))
  (aK (bM vJ qg.nd (bx CZSums (hr.mono ω) FJ W2 (ak (ao vJ) (ak (bx CZAll (hr.mono ω) Jb Td (ak (ao Ce) (ak (ao Kc) (ak (ao J5) (ak (ao Ka) aA rfl) rfl) rfl) rfl) rfl rfl) aA rfl) rfl) rfl rfl) rfl (.inl rfl))) (fun _=>rfl))
  (aK (dg (JS (ao J8) (ao vJ) ⟨rfl,rfl,rfl,rfl⟩) rfl)))) (fun _=>rfl))
  (aK (aQ (ao J8))))),?_⟩
 have lf:=iT hsn h0 hx;refine aN fun k hk=>?_;push_cast;refine⟨x,rfl,hx,fun la H4 s4 hla el4=>?_⟩;push_cast [vY];intro fa hfa;have s5:=aB (o:=HO.dK []) hfa;have ef5:upd H4 fa (HO.dK []) fa=some (HO.dK []):=aq;have sH5:=s4.trans s5;have hfn:H fa=none:=s4.none hfa;have el5:=s5 _ _ el4;have hlf:la≠fa:=aF el4 hfa;generalize upd H4 fa (HO.dK [])=H5 at sH5 ef5 el5 |-;subst hk;refine aN fun k hk=>?_;refine lU fun R hR=>?_;obtain⟨ok2,hok2⟩:∃ok2:Addr->Prop,ok2=fun a=>ok a/\a≠fa:=⟨_,rfl⟩;have nw2:cW ok2 H5:=fun H' p s' hp=>by
  rw[hok2];exact⟨hnw H' p (sH5.trans s') hp,(aF (s' _ _ ef5) hp).symm⟩
 have ts2:aH ok2 H s (.list (ss.map stD)):=ts.keep fun a o h e=>⟨by rw[hok2];exact⟨h,aF e hfn⟩,e⟩;have hbl:=mY n x;push_cast [gZ];refine⟨_,la,ok2,ss,bC n x,rfl,nw2,ts2.same sH5,el5,lf,ω,ω,fun st xs W H6 s6 hst est hW t6 hx6=>?_⟩;show itK K (V.ref st) H6 R;rw[jo,est,jn];have hxl:=t6.length;rw[AF] at hxl;have hstf:st≠fa:=(aF ef5 hst).symm;have el6:=s6 _ _ el5;have ef6:=s6 _ _ ef5;have sH6:=sH5.trans s6;have hset:=jD hx;have hlw:=tb.lst x h0 hx;clear s4 s5 sH5 el4 el5 ef5 s6 hst nw2;generalize hleft:bC n x=left at *;obtain⟨Pv,hPv⟩:∃Pv:Nat->L2.St->Hp->Prop,Pv=fun(j:Nat) σ H'=>∃(kvs:List (Key×V)) (S:Int->Prop) (o6 o7 o8 o9:Option V),Same H H'/\H' la=some (.lst (nv left))/\H' st=some (.lst xs)/\H' fa=some (.dK kvs)/\aG ok2 H' xs (W.map (stW ss left))/\KS kvs S/\Dp f' N ss left (W.take j) S/\kvs.length<=j*vR left.length/\σ=[some s,some (.ref sc),some (.int (x:Int)),some (.int (n:Int)),some (.ref la),some (.ref fa),o6,o7,o8,o9]:=⟨_,rfl⟩;refine uR hR (xs:=xs) Pv (by rw[hPv];exact⟨[],_,_,_,_,_,sH6,el6,est,ef6,t6,KS.nil,Dp.nil _ _ _ _,EI _,rfl⟩) ?_ ?_ ?_
 ·intro j σ H7 _ pw;rw[hPv] at pw;obtain⟨_,_,_,_,_,_,_,_,h,_⟩:=pw;exact SqL.of h
 ·intro j y σ H7 hy pw;rw[hPv] at pw;obtain⟨kvs,S,o6,o7,o8,o9,s7,el7,est7,ef7,t7,kS,aS,lk,rfl⟩:=pw;obtain⟨d,hd,td⟩:=t7.get hy;rw[AU] at hd;obtain⟨w1,hw1,rfl⟩:=Bz.mp hd;have isw:=(hW w1).mp (A5 hw1);unfold stW at td;rw[qX] at td;cases td with
  | tup ot et zt tt=>
   cases tt with
   | cons tc tt=>
    cases tt with
    | cons tp tt=>
     cases tt;cases tc;rename_i ta xp;obtain⟨lp,rfl,okl,elp,llp⟩:=tp.left;replace elp:H7 lp=some (.lst (nv ((eO ss left w1).map aX))):=elp;push_cast [et];intro d1 hd1;have s8:=aB (o:=HO.dK []) hd1;have ed8:upd H7 d1 (HO.dK []) d1=some (HO.dK []):=aq;have hd1f:d1≠fa:=(aF ef7 hd1).symm;generalize upd H7 d1 (HO.dK [])=H8 at s8 ed8 |-;refine⟨_,sc,la,ok,f',ss,left,w1,rfl,ts.same (s7.trans s8),hSc _ _ _ _ _ hsc (s7.trans s8),s8 _ _ el7,lf,ω,ω,fun H9 s9=>?_⟩;refine⟨s9 _ _ ed8,[(B9 (f' left (eY w1)),V.bl true)],rfl,by show 1<=15;decide,?_⟩;refine lU fun R2 hR2=>?_;have sd:Same H7 (upd H9 d1 (HO.dK [(B9 (f' left (eY w1)),V.bl true)])):=fun b o h=>by
      rw[aM (aF h hd1)];exact(s8.trans s9) _ _ h
     have ed10:upd H9 d1 (HO.dK [(B9 (f' left (eY w1)),V.bl true)]) d1=some (HO.dK [(B9 (f' left (eY w1)),V.bl true)]):=aq;change Ft _ (tV 7) _ (upd H9 d1 (HO.dK [(B9 (f' left (eY w1)),V.bl true)])) R2;generalize upd H9 d1 (HO.dK [(B9 (f' left (eY w1)),V.bl true)])=H10 at sd ed10 |-;have elp10:=sd _ _ elp;push_cast [gZ,jo,elp10,jn];have hpl:=Em ss left w1;obtain⟨hpb,hp768⟩:=Qx lf isw ω;have part:=jH lf isw;obtain⟨pts,hpts⟩:∃pts,pts=eO ss left w1:=⟨_,rfl⟩;rw[<- hpts] at elp10 hpl hpb hp768 part elp;obtain⟨Pi,hPi⟩:∃Pv:Nat->L2.St->Hp->Prop,Pv=fun(t:Nat) σ H'=>∃(d:Addr)(ks:List (Key×V)) (T:Int->Prop) (o9:Option V),Same H7 H'/\H7 d=none/\H' d=some (.dK ks)/\KS ks T/\nj T (f' left (eY w1)+((pts.take t).map fun p=>N.getD (aX p) 0).sum)/\ks.length<=qY (pts.take t)/\σ=[some s,some (.ref sc),some (.int (x:Int)),some (.int (n:Int)),some (.ref la),some (.ref fa),some (.str (fD (eY w1))),some (.ref lp),some (.ref d),o9]:=⟨_,rfl⟩;refine uR hR2 (xs:=nv (pts.map aX)) Pi (by rw[hPi];exact⟨d1,_,_,_,sd,hd1,ed10,KS.one _ _,⟨FB _,fun a h=>by rw[h];exact Int.le_of_eq (FB _)⟩,A1 1,rfl⟩) ?_ ?_ ?_
     ·intro t σ H11 _ pi;rw[hPi] at pi;obtain⟨_,_,_,_,h,_⟩:=pi;exact SqL.of (h _ _ elp)
     ·intro t y σ H11 hy pi;rw[hPi] at pi;obtain⟨d,ks,T,o9,s11,hdn,ed11,kT,lT,lk2,rfl⟩:=pi;obtain⟨p,hp,rfl⟩:∃p:List Nat,pts[t]?=some p/\y=.int ((aX p:Nat):Int):=by
       unfold nv at hy;rw[JJ,AU] at hy;obtain⟨p,h1,h2⟩:=Bz.mp hy;exact⟨p,h1,h2.symm⟩
      have mp:=A5 hp;obtain⟨q1,q2,q3⟩:=part p mp;have hb:bC n (aX p)=p:=Gw q1.up fun k hk=>by have:=q1.lt k hk;omega
      push_cast;have pw:=(lz p q1.up n fun k hk=>by have:=q1.lt k hk;omega).1;refine⟨_,sc,aX p,ok,f',ss,N,rfl,hnw.same (s7.trans s11),ts.same (s7.trans s11),hsn,hSc _ _ _ _ _ hsc (s7.trans s11),nU q1.ne,pw,by rw[hb];omega,tb,fun r2 k3 S3 H12 s12 hr12 er12 kS3 l3 lk3=>?_⟩;rw[hb] at lk3;have hdr:d≠r2:=aF ed11 hr12;have h768:=hp768 p mp;have htk:=Hv hp768 (AW.mp hp).1 hpl;refine⟨d,r2,ks,k3,T,S3,rfl,hdr,s12 _ _ ed11,er12,kT,kS3,ω,ω,fun r3 xs3 H13 hr13 er13 kk3 ll3 sm3=>?_⟩;rw[hPi];have sx:Same H7 H13:=fun b o h=>sm3 b o (aF h hdn) (aF (s11 _ _ h) hr12) (s12 _ _ (s11 _ _ h));refine⟨r3,xs3,_,_,sx,(s11.trans s12).none hr13,er13,kk3,?_,?_,rfl⟩
      ·rw[take_snoc hp,A9,List.sum_append,<- Int.add_assoc];show nj _ (_+(N.getD (aX p) 0+0));rw[FB];exact lT.sum l3
      rw[take_snoc hp,wI];exact Be ll3 (mul_le_mul lk2 lk3)
     intro σ H11 pi;rw[hPi] at pi;obtain⟨d,ks,T,o9,s11,hdn,ed11,kT,lT,lk2,rfl⟩:=pi;rw[dN,AF,D4] at lT lk2;push_cast [JB];have ef11:=s11 _ _ ef7;have hjW:j<W.length:=(AW.mp hw1).1;have hwB:vR left.length<=1536:=TQ _;have hstB:stB left.length<=16:=by unfold stB;split <;> omega
     have hmul:j*vR left.length<=16*1536:=mul_le_mul ω hwB;have lq:=mK ks kvs;refine⟨.inl ⟨_,.inl ef11⟩,(aF ef7 hdn),kvs,ef11,ks,ed11,aU ω,?_⟩;rw[hPv];refine⟨_,_,_,_,_,_,dH (s7.trans s11) hfn,(aM hlf).trans (s11 _ _ el7),(aM hstf).trans (s11 _ _ est7),aq,(t7.same s11).keep fun a o h e=>⟨h,by rw[hok2] at h;rw[aM h.2];exact e⟩,kS.all kT,?_,by rw[succ_mul];omega,rfl⟩;rw[take_snoc hw1];refine aS.snoc ?_;unfold iU;rw[<- hpts];exact lT
 intro σ H7 pw;rw[hPv] at pw;obtain⟨kvs,S,o6,o7,o8,o9,s7,el7,est7,ef7,t7,kS,aS,lk,rfl⟩:=pw;rw[hxl,D4] at aS;show k _ _;subst hk;push_cast;exact q fa kvs S _ s7 hfn ef7 kS (aS.least hW hlw) (Be lk (Nat.mul_le_mul_right _ hx6))
noncomputable abbrev fQ:List Str:=["_law_stretches_here","_law_sizes","_law_many","_law_stays","_law_scale","_law_found"]
noncomputable abbrev aY:Stmt:=top 44
theorem mq:bA fQ q10_ (aj aY):=⟨rfl,rfl,rfl,ψ,rfl,ψ,ψ⟩
theorem dw:NM_ fQ aY 0 "_law_stretches_here" := .of ψ
theorem kE:NM_ fQ aY 1 "_law_sizes" := .of ψ
theorem iQ:NM_ fQ aY 2 "_law_many" := .of ψ
theorem zc:NM_ fQ aY 3 "_law_stays" := .of ψ
theorem pY:NM_ fQ aY 4 "_law_scale" := .of ψ
theorem cP:NM_ fQ aY 5 "_law_found" := .of ψ
theorem uh:GI_ aY "_law_all" := by decide +kernel
theorem rR:GI_ aY "_law_best" := by decide +kernel
theorem rQ:GI_ aY "_law_room" := by decide +kernel
theorem ug:GI_ aY "bool" := by decide +kernel
theorem qw:GI_ aY "is_plan" := by decide +kernel
theorem g8:GI_ aY "isinstance" := by decide +kernel
theorem nJ:GI_ aY "least_room" := by decide +kernel
theorem nG:GI_ aY "len" := by decide +kernel
theorem lK:GI_ aY "list" := by decide +kernel
theorem vd:GI_ aY "min" := by decide +kernel
theorem rP:GI_ aY "range" := by decide +kernel
theorem rO:GI_ aY "tuple" := by decide +kernel
theorem Df:Bn "_law_told_right" := ⟨ψ,ψ⟩
theorem V9 (hB:∀x:Str,x∈BLs->mg x=none) (CLeastRoom':∀n,n<=8->0<n->Cal P w K mg base "least_room" 6 q6_ (sW n)) (CZBest':∀n,n<=8->Cal P w K mg base "_law_best" 3 q8_ (Hg uz n)) (CZAll':∀n,n<=8->Cal P w K mg base "_law_all" 6 q2_ (sX uz n 4)) (CIsPlan:Cal P w K mg base "is_plan" 4 ["stretches","thing"] zR) (CZRoom:Cal P w K mg base "_law_room" 18 q0_ (oX 16)) (F:Fun K "_law_told_right" "_law_told_right" aY f fd):dm P w K mg base CX0 19 f fd q10_ DK:=by
 refine F.okq mq (fun vs H Q E h=>?_) (fun cdv A outer s H vs Q E hr h=>?_)
 ·obtain⟨sa,z,ok,ss,zs,rfl,_⟩:=h;rfl
 obtain⟨sa,z,ok,ss,zs,rfl,hn,ts,h0,h8,ez,h6,few,q⟩:=h;have CLeastRoom:=CLeastRoom' ss.length h8 h0;have CZBest:=CZBest' ss.length h8;have CZAll:=CZAll' ss.length h8;refine⟨_,(aD (UJ (i:=2) (j:=3) (k:=4) rfl mq.nd rfl rfl rfl δ δ δ rfl rfl rfl (ak (bY bK nG (hB "len" d7) BH d8 (ak (ao dw) aA rfl) rfl rfl) (ak (wG Dd lK (hB "list" Cq) boot_list WX (ak (ao dw) aA rfl) rfl rfl) (ak (b8 (ak bI (ak (ao kE) aA rfl) rfl)) aA rfl) rfl) rfl) (by rfl))
  (aD (bM cP mq.nd (bx CLeastRoom (hr.mono δ) nJ Gu (ak (ao dw) (ak (ao kE) aA rfl) rfl) rfl rfl) rfl (.inl rfl))
  (aD (cT (BK (zY (tE (qi (bY lX g8 (hB "isinstance" gq) GL gA (ak (ao cP) (ak (El "tuple" rO (hB "tuple" rM) boot_tuple sy) aA rfl) rfl) rfl rfl) (fun _=>rfl))) (zY (bw (kj hr.bJ) (bY bK nG (hB "len" d7) BH d8 (ak (ao cP) aA rfl) rfl rfl) au (aO _)) (wD (qi (bY lX g8 (hB "isinstance" gq) GL gA (ak (aJ aV (ao cP) au (fun _ _=>rfl)) (ak (El "bool" ug (hB "bool" Kf) boot_bool KZ) aA rfl) rfl) rfl rfl) (fun _=>rfl)))))) (aK (aQ jG)) bT)
  (aD (cT (BK (zY (bw (kj hr.bJ) (aJ aV (ao cP) au (fun _ _=>rfl)) (aJ aV (bx CZBest (hr.mono δ) rR W5 (ak (ao dw) (ak (ao pY) aA rfl) rfl) rfl rfl) (qT mj au) (fun _ _=>rfl)) (aO _)) (wD (bw (V2 hr.ZV) (ao dw) (ao zc) (aO _))))) (aK (aQ jG)) bT)
  (aD (cT (BK (BJ (bw pX (ao iQ) au (aO _)) (vA (bw (kj hr.bJ) (aJ aV (ao cP) au (fun _ _=>rfl)) (bY (Jj rfl) vd (hB "min" tZ) boot_min uy (ak (bx CZAll (hr.mono δ) uh Td (ak (ao dw) (ak (ao pY) (ak (aL fJ (aL jK au (ao iQ)) au) (ak (ao iQ) aA rfl) rfl) rfl) rfl) rfl rfl) aA rfl) rfl rfl) (aO _))))) (aK (aQ jG)) bT)
  (aD (cT (bw Q6 (bx CIsPlan (hr.mono δ) qw Tf (ak (ao dw) (ak (aJ aV (ao cP) au (fun _ _=>rfl)) aA rfl) rfl) rfl rfl) jG (aO _)) (aK (aQ jG)) bT)
  (aK (aQ (gG (cB hr.bJ) (bx CZRoom (hr.mono δ) rQ vP (ak (ao dw) (ak (ao kE) (ak (Ek rfl lK (hB "list" Cq) rP (hB "range" fM) (ak (ao iQ) aA rfl)) (ak (aJ aV (ao cP) au (fun _ _=>rfl)) aA rfl) rfl) rfl) rfl) rfl rfl) (aJ aV (ao cP) au (fun _ _=>rfl)) (aO _)))))))))),?_⟩
 have ts0:=ts;cases ts with
 | lst os es zz tss=>
  rename_i sxs;have hsl:=tss.length;rw[AF] at hsl;refine aN fun k hk=>?_;push_cast [es];refine⟨sxs,.inl (SqL.of es),fun a1 ha1=>?_⟩;have s1:=aB (o:=HO.lst sxs) ha1;have e1:upd H a1 (HO.lst sxs) a1=some (HO.lst sxs):=aq;generalize upd H a1 (HO.lst sxs)=H1 at s1 e1 |-;refine⟨aU δ,fun a4 ha4=>?_⟩;have s4:=aB (o:=HO.tup [V.str "room",V.ref z]) ha4;have e4:upd H1 a4 (HO.tup [V.str "room",V.ref z]) a4=some (HO.tup [V.str "room",V.ref z]):=aq;change k _ (upd H1 a4 (HO.tup [V.str "room",V.ref z]));replace e1:=s4 _ _ e1;have sA:=s1.trans s4;generalize upd H1 a4 (HO.tup [V.str "room",V.ref z])=HA at sA e1 e4 |-;have tst:aH (fun _=>True) HA (.ref a1) (.list (ss.map stD)):=.lst trivial e1 ω ((tss.same sA).keep fun a o _ e=>⟨trivial,e⟩);subst hk;refine aN fun k hk=>?_;push_cast;refine⟨_,z,ok,ss,zs,rfl,hn.same sA,ts0.same sA,rfl,sA _ _ ez,h6,few,fun v pl N HB sB tv pv psz psum tbl=>?_⟩;obtain⟨pt,xs,rfl,ept,txs⟩:=aH.Ol tv;cases txs with
  | cons tc txs=>
   cases txs with
   | cons tp txs=>
    cases txs;cases tc;rename_i pv0;push_cast;subst hk;refine aN fun k hk=>?_;push_cast [ept];rw[if_neg (show ¬(!decide (((2:Nat):Int)=2))=true by decide)];subst hk;have sAB:=sA.trans sB;have p1:=D0 ss.length;refine aN fun k hk=>?_;push_cast [ept];refine⟨.ref sa,a4,ok,eZ ss zs,ss,rfl,hn.same sAB,ts0.same sAB,rfl,⟨z,zs,rfl,sB _ _ e4,sAB _ _ ez,h6,few⟩,fun r N' HC sC hr0 er tbl'=>?_⟩;have ept2:=sC _ _ ept;have hat:atI (N'.map V.int) (-1)=some (.int (N.getD (2^ss.length-1) 0)):=by
     rw[tbl.uniq rfl (A1 _) tbl' _ (show 2^ss.length-1<2^ss.length by omega)];have hl:=tbl'.len;obtain⟨xa,xb,rfl⟩:=pF N' ω;rw[AK,BM] at hl;rw[A9,AN,BU ω,show 2^ss.length-1-xa.length=0 by omega];exact Tj _ _
    push_cast [ept2,er,hat];have sAC:=sAB.trans sC;refine⟨ok,fun _=>True,.list (ss.map stD),ts0.same sAC,tst.same (sB.trans sC),(v9 ss).1,(v9 ss).2,false,rfl,?_⟩;rw[if_neg δ];subst hk;refine aN fun k hk=>?_;have nxt:∀HE,Same HC HE->k [some (V.ref sa),some (V.ref z),some (V.int ↑sxs.length),some (V.ref a1),some (V.ref a4),some (V.ref pt)] HE:=by
     intro HE sE;subst hk;have sAE:=sAC.trans sE;have eptE:=sE _ _ ept2;refine aN fun k hk=>?_;push_cast [eptE];have tpE:=(tp.same sC).same sE;refine⟨.ref sa,pv0,ok,ss,plG pl,rfl,hn.same sAE,ts0.same sAE,by rw[zZ];exact tpE,tK pl,h0,ω,by rw[oZ];omega,fun HF sF=>?_⟩;rw[tL,pv.okP];push_cast;subst hk;have eptF:=sF _ _ eptE;have sAF:=sAE.trans sF;push_cast [eptF];refine⟨⟨ω,ω⟩,aU ω,fun la hla=>?_⟩;rw[show((sxs.length:Int)-0).toNat=ss.length by omega,Uq];have s7:=aB (o:=HO.lst (nv (BB ss.length))) hla;have e7:upd HF la (HO.lst (nv (BB ss.length))) la=some (HO.lst (nv (BB ss.length))):=aq;have hla0:H la=none:=sAF.none hla;generalize upd HF la (HO.lst (nv (BB ss.length)))=HG at s7 e7 |-;have sAG:=sAF.trans s7;have eptG:=s7 _ _ eptF;push_cast [eptG];refine⟨.ref sa,_,pv0,z,ok,ss,zs,BB ss.length,pl,rfl,hn.same sAG,ts0.same sAG,cD (hn.new hla0) e7 (by rw[EG];omega),(tpE.same sF).same s7,sAG _ _ ez,h6,few.at 5,pv.ok,by have:=lA pl;omega,fun HI sI=>?_⟩;have eptI:=sI _ _ eptG;push_cast [eptI];rw[psum,decide_eq_true rfl];exact q _ (sAG.trans sI)
    push_cast [ept2];split
    ·rename_i c4;have hn4:ss.length<=4:=ω;refine⟨⟨ω,ω,δ⟩,?_⟩;have hb:=yF ss.length;have p2:1<2^ss.length:=Nat.one_lt_two_pow ω;refine⟨.ref sa,a4,2^ss.length-1,ok,eZ ss zs,ss,N,?_,hn.same sAC,ts0.same sAC,rfl,⟨z,zs,rfl,(sB.trans sC) _ _ e4,sAC _ _ ez,h6,few⟩,ω,ω,by rw[hb,EG];exact hn4,tbl,fun r kvs S HE sE hr er kS lS _=>?_⟩
     ·rw[hsl,IA,B3,show((2:Int)^ss.length)=((2^ss.length:Nat):Int) by rw[Fm];rfl,show(((2^ss.length:Nat):Int)-1)=((2^ss.length-1:Nat):Int) by omega]
     obtain⟨is,eis,his⟩:=kS.list;refine⟨r,rfl,kvs,er,fun z=>?_,is,eis,fun M hM hl=>?_⟩
     ·subst z;have:=(his _).mpr lS.1;cases Hc.mp eis.symm;cases this
     have h1:=lS.2 M ((his M).mp hM);have h2:=hl _ ((his _).mpr lS.1);rw[show M=N.getD (2^ss.length-1) 0 by omega,decide_eq_true rfl,if_neg δ];exact nxt _ sE
    exact nxt _ (Same.refl _)
noncomputable abbrev Dl:List Str:=["_law_script","_law_k","_law_tape_here","_law_great","_law_stretches_here","_law_some"]
noncomputable abbrev jk:Stmt:=top 45
theorem zW:bA Dl ["_law_script"] (aj jk):=⟨rfl,rfl,rfl,ψ,rfl,ψ,ψ⟩
theorem RJ:NM_ Dl jk 0 "_law_script" := .of ψ
theorem RG:NM_ Dl jk 1 "_law_k" := .of ψ
theorem xK:NM_ Dl jk 2 "_law_tape_here" := .of ψ
theorem RD:NM_ Dl jk 3 "_law_great" := .of ψ
theorem Y8:NM_ Dl jk 4 "_law_stretches_here" := .of ψ
theorem Ig:NM_ Dl jk 5 "_law_some" := .of ψ
theorem vh:GI_ jk "_law_stretches" := by decide +kernel
theorem qC:GI_ jk "_law_take" := by decide +kernel
theorem Jd:GI_ jk "_law_tape" := by decide +kernel
theorem Sq:GI_ jk "all" := by decide +kernel
theorem Sh:GI_ jk "len" := by decide +kernel
theorem Sg:GI_ jk "min" := by decide +kernel
theorem yj:GI_ jk "range" := by decide +kernel
noncomputable def JK (K:AE):Sp:=fun vs H Q _=>∃(a:Addr)(ns:List Int),vs=[.ref a]/\SqL K H a (ns.map V.int)/\ns.length<=63/\∀H',Q (.bl true) H'
noncomputable def Z1 (x:List Int):A3:=.tuple (x.map A3.int)
theorem Y4 (hB:∀x:Str,x∈BLs->mg x=none) (CZTape:Cal P w K mg base "_law_tape" 2 q7_ (Ph K)) (CZTake:Cal P w K mg base "_law_take" 2 q1_ (qe 2)) (CZStretches:Cal P w K mg base "_law_stretches" 3 q1_ G9) (CZPrices:Cal P w K mg base "_law_prices" 3 q1_ DN) (CZToldRight:Cal P w K mg base "_law_told_right" 19 q10_ DK)
  (F:Fun K "law" "law" jk f fd):dm P w K mg base CX0 20 f fd ["_law_script"] (JK K):=by
 refine F.okq zW (fun vs H Q E h=>?_) (fun cdv A outer s H vs Q E hr h=>?_)
 ·obtain⟨a,ns,rfl,_⟩:=h;rfl
 obtain⟨a,ns,rfl,hS,h63,q⟩:=h;refine⟨_,(aD (iC Cb rfl (jw yj (hB "range" fM) (ak (aL bD au (bY (Nu rfl) Sg (hB "min" tZ) boot_min uy (ak au (ak (bY jr Sh (hB "len" d7) BH d8 (ak (ao RJ) aA rfl) rfl rfl) aA rfl) rfl) rfl rfl)) aA rfl) rfl) (fC RG zW.nd (.inl rfl))
  (aD (bM xK zW.nd (bx CZTape (hr.mono δ) Jd WY (ak (ao RJ) (ak (ao RG) aA rfl) rfl) rfl rfl) rfl (.inl rfl))
  (aD (bM RD zW.nd (gG (cB hr.bJ) (bx CZTake (hr.mono δ) qC dX (ak (ao xK) (ak au aA rfl) rfl) rfl rfl) au (aO _)) rfl (.inl rfl))
  (aD (bM Y8 zW.nd (bx CZStretches (hr.mono δ) vh Dg (ak (ao xK) (ak (Qs (qi (ao RD) (fun _=>rfl)) (aL bD au (bx CZTake (hr.mono δ) qC dX (ak (ao xK) (ak au aA rfl) rfl) rfl rfl)) (aL bD au (bx CZTake (hr.mono δ) qC dX (ak (ao xK) (ak au aA rfl) rfl) rfl rfl))) aA rfl) rfl) rfl rfl) rfl (.inl rfl))
  (aD (qR (NX:=Dl) (kX:=(aj jk).names) ["_law_turn","_law_tape_here"] [none,some 2] Ig zW.nd rfl rfl ⟨rfl,ψ,ψ,ψ,ψ⟩ rfl (jw yj (hB "range" fM) (ak au aA rfl) rfl) (fun _ _ _ _ _=>(bL 0 (show BQ (["_law_turn","_law_tape_here"]:List Str) from by decide +kernel) rfl (C2 rfl))) (fun _ _ _ _ _=>gH) (fun _ _ _ _ _=>(bx CZPrices (hr.mono δ) rfl NQ (ak (bh 1) (ak au aA rfl) rfl) rfl rfl)))
  (aK (cT (tE (qi (bY (NK rfl) Sq (hB "all" Zd) PyProof.Rows.Boot.«all» ZG (ak (cH (NX:=Dl) (kX:=(aj jk).names) ["_law_sizes","_law_stretches_here"] [none,some 4] rfl rfl ⟨rfl,ψ,ψ,ψ,ψ⟩ rfl (bN (aL bD (ao Ig) (qU Ug (ao Ig) vC (vB au)))) (fun _ _ _ _ _=>(bL 0 (show BQ (["_law_sizes","_law_stretches_here"]:List Str) from by decide +kernel) rfl (C2 rfl))) (fun _ _ _ _ _=>gH) (fun _ _ _ _ _=>(bx CZToldRight (hr.mono δ) rfl Df (ak (bh 1) (ak (bh 0) aA rfl) rfl) rfl rfl))) aA rfl) rfl rfl) (fun _=>rfl))) (aK (aQ jG)) bT)))))) (fun _=>rfl))
  (aK (aQ jG))),?_⟩
 refine aN fun k hk=>?_;refine lU fun R hR=>?_;push_cast [uN];refine⟨_,.inl hS,?_⟩;rw[AF];have m6:(0:Int)<=1+(if (ns.length:Int)<3 then (ns.length:Int) else 3)/\1+(if (ns.length:Int)<3 then (ns.length:Int) else 3)<=4:=by
  split <;> omega
 refine⟨ω,ω,?_⟩;obtain⟨Pv,hPv⟩:∃Pv:Nat->L2.St->Hp->Prop,Pv=fun(i:Nat) σ H'=>Same H H'/\∃o1 o2 o3 o4 o5,σ=[some (.ref a),o1,o2,o3,o4,o5]:=⟨_,rfl⟩;refine Ku hR Pv (by rw[hPv];exact⟨Same.refl _,_,_,_,_,_,rfl⟩) ?_ ?_
 ·intro i σ H1 hi pv;rw[hPv] at pv;obtain⟨s1,o1,o2,o3,o4,o5,rfl⟩:=pv;refine aN fun k2 hk2=>?_;push_cast;refine⟨a,ns,(0:Int)+(i:Int),rfl,s1.seq hS,ω,ω,fun p H2 hp s2 tp2=>?_⟩;push_cast;have sx2:cL p H1 H2:=s2.x;subst hk2;refine aN fun k2 hk2=>?_;push_cast;refine⟨p,4,0,rfl,tp2,δ,δ,δ,δ,fun z=>absurd z δ,fun r3 H3 r30 r31 s3 tp3=>?_⟩;push_cast;subst hk2;refine aN fun k2 hk2=>?_;have nxt:∀(m:Nat)(H5:Hp),cL p H3 H5->cG H5 p 4->1<=m->m<=7->G9 [V.ref p,V.int (m:Int)] H5 (fun x H1=>k2 [some (.ref a),some (.int (0+(i:Int))),some (.ref p),some (.bl (decide (r3=0))),some x,o5] H1) E0:=by
   intro m H5 s5 tp5 hm1 hm7;refine⟨p,(m:Int),4,rfl,tp5,δ,δ,ω,ω,fun l' ss' H7 s7 tp7 tr7 hl7 hrow7 hfst=>?_⟩;have sx7:cL p H1 H7:=((sx2.trans s3).trans s5).trans s7;subst hk2;refine aN fun k2 hk2=>?_;refine cF fun R2 hR2=>?_;push_cast [uN];obtain⟨Pc,hPc⟩:∃Pv:Nat->List V->L2.St->Hp->Prop,Pv=fun(j:Nat) acc τ H'=>∃(pr:List (List Int)) (o0:Option V),cL p H7 H'/\cG H' p (3000+200*j)/\pr.length=j/\aG (·≠p) H' acc (pr.map Z1)/\(∀x∈pr,x.length=6/\Few x)/\τ=[o0,some (.ref p)]:=⟨_,rfl⟩;refine⟨δ,δ,?_⟩;refine yu (n:=2) hR2 (aU δ) Pc (by rw[hPc];exact⟨[],_,cL.refl _ _,tp7.le δ,rfl,.nil,(fun x h=>nomatch h),rfl⟩) ?_ ?_ ?_
   ·intro j acc τ H8 pc;rw[hPc] at pc;obtain⟨pr,_,_,_,hl,ht,_⟩:=pc;have:=ht.length;rw[AF] at this;omega
   ·intro j acc τ H8 hj pc;rw[hPc] at pc;obtain⟨pr,o0,s8,tp8,hl,ht,hp8,rfl⟩:=pc;push_cast;refine⟨p,3000+200*j,rfl,tp8,ω,ω,fun za zs H10 s10 tp10 nza hza eza hzl hzb=>?_⟩;rw[hPc];refine⟨pr++[zs],_,s8.trans s10,tp10.le ω,by rw[AK,hl];rfl,?_,?_,rfl⟩
    ·rw[A9];exact(ht.PL s10).append (.cons (.tup nza eza (by rw[AF];omega) (zN zs)) .nil)
    intro x hx;rcases CF.mp hx with hx|hx
    ·exact hp8 x hx
    rw[AM.mp hx];exact⟨hzl,fun z hz=>by have:=hzb z hz;omega⟩
   intro acc τ H8 d pc hd;rw[hPc] at pc;obtain⟨pr,o0,s8,tp8,hl,ht,hp8,rfl⟩:=pc;have s9:=aB (o:=HO.lst acc) hd;have e9:upd H8 d (HO.lst acc) d=some (HO.lst acc):=aq;have nd:=tp8.ne hd;generalize upd H8 d (HO.lst acc)=H9 at s9 e9 |-;have sx9:=sx7.trans (s8.trans s9.x);have ht9:=ht.same s9;have tr9:=(tr7.PL s8).same s9;have nw9:cW (·≠p) H9:=(tp8.same s9).newOk;have hal:=ht.length;rw[AF,hl] at hal;clear s8 tp8 s9 ht;subst hk2;push_cast;refine cF fun R3 hR3=>?_;push_cast [e9];intro d2 hd2;have s10:=aB (o:=HO.lst (jQ acc none (some 1))) hd2;have e10:upd H9 d2 (HO.lst (jQ acc none (some 1))) d2=some (HO.lst (jQ acc none (some 1))):=aq;have e10d:=s10 _ _ e9;generalize upd H9 d2 (HO.lst (jQ acc none (some 1)))=H10 at s10 e10 e10d |-;push_cast [e10d];have hcut:jQ acc none (some 1)=acc.take 1:=ZD acc 1 ω;rw[hcut];refine⟨aU (by rw[EA];omega),fun d3 hd3=>?_⟩;have s11:=s10.trans (aB (o:=HO.lst (acc++acc.take 1)) hd3);have e11:upd H10 d3 (HO.lst (acc++acc.take 1)) d3=some (HO.lst (acc++acc.take 1)):=aq;generalize upd H10 d3 (HO.lst (acc++acc.take 1))=H11 at s11 e11 |-;have t11:aG (·≠p) H11 (acc++acc.take 1) ((pr++pr.take 1).map Z1):=by
    rw[A9,List.map_take];exact(ht9.same s11).append ((ht9.same s11).take 1)
   have hpr:∀x∈pr++pr.take 1,x.length=6/\Few x:=fun x hx=>(CF.mp hx).elim (hp8 x) fun h=>hp8 x (List.mem_of_mem_take h);have hyl:(acc++acc.take 1).length<=4:=by rw[AK,EA];omega
   generalize pr++pr.take 1=prs at t11 hpr;generalize acc++acc.take 1=ys at e11 t11 hyl |-;obtain⟨Pi,hPi⟩:∃Pv:Nat->List V->L2.St->Hp->Prop,Pv=fun(t:Nat) acc τ H'=>∃(o0:Option V),Same H11 H'/\acc=BC t (V.bl true)/\τ=[o0,some (.ref l')]:=⟨_,rfl⟩;refine ux hR3 (xs:=ys) (aU ω) Pi (by rw[hPi];exact⟨_,Same.refl _,rfl,rfl⟩) ?_ ?_ ?_ ?_
   ·intro t acc τ H12 pi;rw[hPi] at pi;obtain⟨_,_,rfl,_⟩:=pi;rw[List.length_replicate];exact A1 _
   ·intro t acc τ H12 pi;rw[hPi] at pi;obtain⟨_,s12,_⟩:=pi;exact SqL.of (s12 _ _ e11)
   ·intro t y acc τ H12 hy pi;rw[hPi] at pi;obtain⟨o0,s12,rfl,rfl⟩:=pi;obtain⟨dd,hdd,tdd⟩:=t11.get hy;rw[AU] at hdd;obtain⟨x,hx,rfl⟩:=Bz.mp hdd;obtain⟨x1,x2⟩:=hpr x (A5 hx);obtain⟨za,zv,rfl,eza,tza⟩:=aH.Ol tdd;cases aG.ints tza;push_cast;refine⟨l',za,(·≠p),ss',x,rfl,(nw9.same s11).same s12,(tr9.same s11).same s12,ω,ω,s12 _ _ eza,x1,x2,fun H13 s13=>?_⟩;rw[hPi];exact⟨_,s12.trans s13,by rw[List.replicate_succ'],rfl⟩
   intro acc τ H12 d4 pi hd4;rw[hPi] at pi;obtain⟨o0,s12,rfl,rfl⟩:=pi;have s13:=s12.trans (aB (o:=HO.lst (BC ys.length (V.bl true))) hd4);have e13:upd H12 d4 (HO.lst (BC ys.length (V.bl true))) d4=some (HO.lst (BC ys.length (V.bl true))):=aq;generalize upd H12 d4 (HO.lst (BC ys.length (V.bl true)))=H13 at s13 e13 |-;push_cast [e13];refine⟨BC ys.length true,by rw[List.map_replicate],?_⟩;rw[show(BC ys.length true).all id=true from He.mpr fun b hb=>by rw[(List.mem_replicate.mp hb).2];rfl,if_neg δ,hPv];exact⟨s1.trans (Um (sx9.trans (s11.trans s13).x) hp),_,_,_,_,_,rfl⟩
  push_cast;split
  ·refine⟨p,3,2,rfl,tp3,δ,δ,δ,δ,fun z=>absurd z δ,fun r4 H4 r40 r41 s4 tp4=>?_⟩;push_cast;obtain⟨m,rfl⟩:=EM r40;rw[show(5:Int)+(m:Int)=((5+m:Nat):Int) by omega];exact nxt _ _ s4 tp4 ω ω
  refine⟨p,4,2,rfl,tp3,δ,δ,δ,δ,fun z=>absurd z δ,fun r4 H4 r40 r41 s4 tp4=>?_⟩;push_cast;obtain⟨m,rfl⟩:=EM r40;rw[show(1:Int)+(m:Int)=((1+m:Nat):Int) by omega];exact nxt _ _ s4 tp4 ω ω
 intro σ H1 pv;rw[hPv] at pv;obtain⟨s1,o1,o2,o3,o4,o5,rfl⟩:=pv;show k _ _;subst hk;push_cast;exact q _
end
theorem all_mk {l:PySem.W.OpenLaw}{w:A6}{K:AE}{h:Heap}{mg:Str->Option An}{fa:Addr}{f1:Addr}{od1 an1:Option Addr}{sl1:Array (Option An)}{oc1 kV1 dc1 pm1 cd1 ct1:An}{f2:Addr}{od2 an2:Option Addr}{sl2:Array (Option An)}{oc2 kV2 dc2 pm2 cd2 ct2:An}{f3:Addr}{od3 an3:Option Addr}{sl3:Array (Option An)}{oc3 kV3 dc3 pm3 cd3 ct3:An}{f4:Addr}{od4 an4:Option Addr}{sl4:Array (Option An)}{oc4 kV4 dc4 pm4 cd4 ct4:An}{f5:Addr}{od5 an5:Option Addr}{sl5:Array (Option An)}{oc5 kV5 dc5 pm5 cd5 ct5:An}{f6:Addr}{od6 an6:Option Addr}{sl6:Array (Option An)}{oc6 kV6 dc6 pm6 cd6 ct6:An}{f7:Addr}{od7 an7:Option Addr}{sl7:Array (Option An)}{oc7 kV7 dc7 pm7 cd7 ct7:An}{f8:Addr}{od8 an8:Option Addr}{sl8:Array (Option An)}{oc8 kV8 dc8 pm8 cd8 ct8:An}{f9:Addr}{od9 an9:Option Addr}{sl9:Array (Option An)}{oc9 kV9 dc9 pm9 cd9 ct9:An}{f10:Addr}{od10 an10:Option Addr}{sl10:Array (Option An)}{oc10 kV10 dc10 pm10 cd10 ct10:An}{f11:Addr}{od11 an11:Option Addr}{sl11:Array (Option An)}{oc11 kV11 dc11 pm11 cd11 ct11:An}{f12:Addr}{od12 an12:Option Addr}{sl12:Array (Option An)}{oc12 kV12 dc12 pm12 cd12 ct12:An}{f13:Addr}{od13 an13:Option Addr}{sl13:Array (Option An)}{oc13 kV13 dc13 pm13 cd13 ct13:An}{f14:Addr}{od14 an14:Option Addr}{sl14:Array (Option An)}{oc14 kV14 dc14 pm14 cd14 ct14:An}{f15:Addr}{od15 an15:Option Addr}{sl15:Array (Option An)}{oc15 kV15 dc15 pm15 cd15 ct15:An}{f16:Addr}{od16 an16:Option Addr}{sl16:Array (Option An)}{oc16 kV16 dc16 pm16 cd16 ct16:An}{f17:Addr}{od17 an17:Option Addr}{sl17:Array (Option An)}{oc17 kV17 dc17 pm17 cd17 ct17:An}{f18:Addr}{od18 an18:Option Addr}{sl18:Array (Option An)}{oc18 kV18 dc18 pm18 cd18 ct18:An}{f19:Addr}{od19 an19:Option Addr}{sl19:Array (Option An)}{oc19 kV19 dc19 pm19 cd19 ct19:An}{f20:Addr}{od20 an20:Option Addr}{sl20:Array (Option An)}{oc20 kV20 dc20 pm20 cd20 ct20:An}{f21:Addr}{od21 an21:Option Addr}{sl21:Array (Option An)}{oc21 kV21 dc21 pm21 cd21 ct21:An}{f22:Addr}{od22 an22:Option Addr}{sl22:Array (Option An)}{oc22 kV22 dc22 pm22 cd22 ct22:An}{f23:Addr}{od23 an23:Option Addr}{sl23:Array (Option An)}{oc23 kV23 dc23 pm23 cd23 ct23:An}{f24:Addr}{od24 an24:Option Addr}{sl24:Array (Option An)}{oc24 kV24 dc24 pm24 cd24 ct24:An}{f25:Addr}{od25 an25:Option Addr}{sl25:Array (Option An)}{oc25 kV25 dc25 pm25 cd25 ct25:An}{f26:Addr}{od26 an26:Option Addr}{sl26:Array (Option An)}{oc26 kV26 dc26 pm26 cd26 ct26:An}{f27:Addr}{od27 an27:Option Addr}{sl27:Array (Option An)}{oc27 kV27 dc27 pm27 cd27 ct27:An}{f28:Addr}{od28 an28:Option Addr}{sl28:Array (Option An)}{oc28 kV28 dc28 pm28 cd28 ct28:An}{f29:Addr}{od29 an29:Option Addr}{sl29:Array (Option An)}{oc29 kV29 dc29 pm29 cd29 ct29:An}{f30:Addr}{od30 an30:Option Addr}{sl30:Array (Option An)}{oc30 kV30 dc30 pm30 cd30 ct30:An}{f31:Addr}{od31 an31:Option Addr}{sl31:Array (Option An)}{oc31 kV31 dc31 pm31 cd31 ct31:An}{f32:Addr}{od32 an32:Option Addr}{sl32:Array (Option An)}{oc32 kV32 dc32 pm32 cd32 ct32:An}{f33:Addr}{od33 an33:Option Addr}{sl33:Array (Option An)}{oc33 kV33 dc33 pm33 cd33 ct33:An}{f34:Addr}{od34 an34:Option Addr}{sl34:Array (Option An)}{oc34 kV34 dc34 pm34 cd34 ct34:An}{f35:Addr}{od35 an35:Option Addr}{sl35:Array (Option An)}{oc35 kV35 dc35 pm35 cd35 ct35:An}{ckMostInMask:Tok}{ckMostInTable:Tok}{aTests:Addr}{nTests:Nat}{slTests:Array (Option An)}{kTests0 kTests1 kTests2 kTests3 kTests4:Tok}(X:K.In h) (G:h.Ns AJ mg) (hfa:mg "law" = some (.ref fa))
  (a1:nsIn K AJ "is_number" = some (some (.ref f1))) (l1:K.lookup f1=some ⟨oc1,od1,.func (fnOf "is_number" "is_number" (bf fj) (aW fj) (aj fj) .none kV1 dc1 pm1 an1 cd1 ct1),sl1⟩) (c1:CI K cd1 "is_number" = true) (k1:CB K (.ref f1)=true)
  (a2:nsIn K AJ "numbers_across" = some (some (.ref f2))) (l2:K.lookup f2=some ⟨oc2,od2,.func (fnOf "numbers_across" "numbers_across" (bf cQ) (aW cQ) (aj cQ) .none kV2 dc2 pm2 an2 cd2 ct2),sl2⟩) (c2:CI K cd2 "numbers_across" = true) (k2:CB K (.ref f2)=true)
  (a3:nsIn K AJ "labels_left" = some (some (.ref f3))) (l3:K.lookup f3=some ⟨oc3,od3,.func (fnOf "labels_left" "labels_left" (bf eU) (aW eU) (aj eU) .none kV3 dc3 pm3 an3 cd3 ct3),sl3⟩) (c3:CI K cd3 "labels_left" = true) (k3:CB K (.ref f3)=true)
  (a4:nsIn K AJ "parts_some" = some (some (.ref f4))) (l4:K.lookup f4=some ⟨oc4,od4,.func (fnOf "parts_some" "parts_some" (bf dM) (aW dM) (aj dM) .none kV4 dc4 pm4 an4 cd4 ct4),sl4⟩) (c4:CI K cd4 "parts_some" = true) (k4:CB K (.ref f4)=true)
  (a5:nsIn K AJ "is_step" = some (some (.ref f5))) (l5:K.lookup f5=some ⟨oc5,od5,.func (fnOf "is_step" "is_step" (bf cV) (aW cV) (aj cV) .none kV5 dc5 pm5 an5 cd5 ct5),sl5⟩) (c5:CI K cd5 "is_step" = true) (k5:CB K (.ref f5)=true)
  (a6:nsIn K AJ "plans_in" = some (some (.ref f6))) (l6:K.lookup f6=some ⟨oc6,od6,.func (fnOf "plans_in" "plans_in" (bf dW) (aW dW) (aj dW) .none kV6 dc6 pm6 an6 cd6 ct6),sl6⟩) (c6:CI K cd6 "plans_in" = true) (k6:CB K (.ref f6)=true)
  (a7:nsIn K AJ "is_plan" = some (some (.ref f7))) (l7:K.lookup f7=some ⟨oc7,od7,.func (fnOf "is_plan" "is_plan" (bf d9) (aW d9) (aj d9) .none kV7 dc7 pm7 an7 cd7 ct7),sl7⟩) (c7:CI K cd7 "is_plan" = true) (k7:CB K (.ref f7)=true)
  (a8:nsIn K AJ "step_rooms" = some (some (.ref f8))) (l8:K.lookup f8=some ⟨oc8,od8,.func (fnOf "step_rooms" "step_rooms" (bf cA) (aW cA) (aj cA) .none kV8 dc8 pm8 an8 cd8 ct8),sl8⟩) (c8:CI K cd8 "step_rooms" = true) (k8:CB K (.ref f8)=true)
  (a9:nsIn K AJ "bounds_of" = some (some (.ref f9))) (l9:K.lookup f9=some ⟨oc9,od9,.func (fnOf "bounds_of" "bounds_of" (bf gK) (aW gK) (aj gK) .none kV9 dc9 pm9 an9 cd9 ct9),sl9⟩) (c9:CI K cd9 "bounds_of" = true) (k9:CB K (.ref f9)=true)
  (a10:nsIn K AJ "stretches_in" = some (some (.ref f10))) (l10:K.lookup f10=some ⟨oc10,od10,.func (fnOf "stretches_in" "stretches_in" (bf cZ) (aW cZ) (aj cZ) .none kV10 dc10 pm10 an10 cd10 ct10),sl10⟩) (c10:CI K cd10 "stretches_in" = true) (k10:CB K (.ref f10)=true)
  (a11:nsIn K AJ "set_of" = some (some (.ref f11))) (l11:K.lookup f11=some ⟨oc11,od11,.func (fnOf "set_of" "set_of" (bf mD) (aW mD) (aj mD) .none kV11 dc11 pm11 an11 cd11 ct11),sl11⟩) (c11:CI K cd11 "set_of" = true) (k11:CB K (.ref f11)=true)
  (a12:nsIn K AJ "ways_by_label" = some (some (.ref f12))) (l12:K.lookup f12=some ⟨oc12,od12,.func (fnOf "ways_by_label" "ways_by_label" (bf aZ) (aW aZ) (aj aZ) .none kV12 dc12 pm12 an12 cd12 ct12),sl12⟩) (c12:CI K cd12 "ways_by_label" = true) (k12:CB K (.ref f12)=true)
  (a13:nsIn K AJ "ways_by_stretch" = some (some (.ref f13))) (l13:K.lookup f13=some ⟨oc13,od13,.func (fnOf "ways_by_stretch" "ways_by_stretch" (bf bF) (aW bF) (aj bF) .none kV13 dc13 pm13 an13 cd13 ct13),sl13⟩) (c13:CI K cd13 "ways_by_stretch" = true) (k13:CB K (.ref f13)=true)
  (a14:nsIn K AJ "ways_of_set" = some (some (.ref f14))) (l14:K.lookup f14=some ⟨oc14,od14,.func (fnOf "ways_of_set" "ways_of_set" (bf cu) (aW cu) (aj cu) .none kV14 dc14 pm14 an14 cd14 ct14),sl14⟩) (c14:CI K cd14 "ways_of_set" = true) (k14:CB K (.ref f14)=true)
  (a15:nsIn K AJ "room_charges" = some (some (.ref f15))) (l15:K.lookup f15=some ⟨oc15,od15,.func (fnOf "room_charges" "room_charges" (bf cN) (aW cN) (aj cN) .none kV15 dc15 pm15 an15 cd15 ct15),sl15⟩) (c15:CI K cd15 "room_charges" = true) (k15:CB K (.ref f15)=true)
  (a16:nsIn K AJ "charged_ways" = some (some (.ref f16))) (l16:K.lookup f16=some ⟨oc16,od16,.func (fnOf "charged_ways" "charged_ways" (bf cO) (aW cO) (aj cO) .none kV16 dc16 pm16 an16 cd16 ct16),sl16⟩) (c16:CI K cd16 "charged_ways" = true) (k16:CB K (.ref f16)=true)
  (a17:nsIn K AJ "least_by" = some (some (.ref f17))) (l17:K.lookup f17=some ⟨oc17,od17,.func (fnOf "least_by" "least_by" (bf cR) (aW cR) (aj cR) .none kV17 dc17 pm17 an17 cd17 ct17),sl17⟩) (c17:CI K cd17 "least_by" = true) (k17:CB K (.ref f17)=true)
  (a18:nsIn K AJ "leasts_of_sets" = some (some (.ref f18))) (l18:K.lookup f18=some ⟨oc18,od18,.func (fnOf "leasts_of_sets" "leasts_of_sets" (bf bB) (aW bB) (aj bB) .none kV18 dc18 pm18 an18 cd18 ct18),sl18⟩) (c18:CI K cd18 "leasts_of_sets" = true) (k18:CB K (.ref f18)=true)
  (a19:nsIn K AJ "least_room" = some (some (.ref f19))) (l19:K.lookup f19=some ⟨oc19,od19,.func (fnOf "least_room" "least_room" (bf cY) (aW cY) (aj cY) .none kV19 dc19 pm19 an19 cd19 ct19),sl19⟩) (c19:CI K cd19 "least_room" = true) (k19:CB K (.ref f19)=true)
  (a20:nsIn K AJ "_law_cell_at" = some (some (.ref f20))) (l20:K.lookup f20=some ⟨oc20,od20,.func (fnOf "_law_cell_at" "_law_cell_at" (bf gW) (aW gW) (aj gW) .none kV20 dc20 pm20 an20 cd20 ct20),sl20⟩) (c20:CI K cd20 "_law_cell_at" = true) (k20:CB K (.ref f20)=true)
  (a21:nsIn K AJ "_law_tape" = some (some (.ref f21))) (l21:K.lookup f21=some ⟨oc21,od21,.func (fnOf "_law_tape" "_law_tape" (bf je) (aW je) (aj je) .none kV21 dc21 pm21 an21 cd21 ct21),sl21⟩) (c21:CI K cd21 "_law_tape" = true) (k21:CB K (.ref f21)=true)
  (a22:nsIn K AJ "_law_take" = some (some (.ref f22))) (l22:K.lookup f22=some ⟨oc22,od22,.func (fnOf "_law_take" "_law_take" (bf jf) (aW jf) (aj jf) .none kV22 dc22 pm22 an22 cd22 ct22),sl22⟩) (c22:CI K cd22 "_law_take" = true) (k22:CB K (.ref f22)=true)
  (a23:nsIn K AJ "_law_stretches" = some (some (.ref f23))) (l23:K.lookup f23=some ⟨oc23,od23,.func (fnOf "_law_stretches" "_law_stretches" (bf bH) (aW bH) (aj bH) .none kV23 dc23 pm23 an23 cd23 ct23),sl23⟩) (c23:CI K cd23 "_law_stretches" = true) (k23:CB K (.ref f23)=true)
  (a24:nsIn K AJ "_law_prices" = some (some (.ref f24))) (l24:K.lookup f24=some ⟨oc24,od24,.func (fnOf "_law_prices" "_law_prices" (bf eG) (aW eG) (aj eG) .none kV24 dc24 pm24 an24 cd24 ct24),sl24⟩) (c24:CI K cd24 "_law_prices" = true) (k24:CB K (.ref f24)=true)
  (a25:nsIn K AJ "_law_span" = some (some (.ref f25))) (l25:K.lookup f25=some ⟨oc25,od25,.func (fnOf "_law_span" "_law_span" (bf nZ) (aW nZ) (aj nZ) .none kV25 dc25 pm25 an25 cd25 ct25),sl25⟩) (c25:CI K cd25 "_law_span" = true) (k25:CB K (.ref f25)=true)
  (a26:nsIn K AJ "_law_left" = some (some (.ref f26))) (l26:K.lookup f26=some ⟨oc26,od26,.func (fnOf "_law_left" "_law_left" (bf mC) (aW mC) (aj mC) .none kV26 dc26 pm26 an26 cd26 ct26),sl26⟩) (c26:CI K cd26 "_law_left" = true) (k26:CB K (.ref f26)=true)
  (a27:nsIn K AJ "_law_set" = some (some (.ref f27))) (l27:K.lookup f27=some ⟨oc27,od27,.func (fnOf "_law_set" "_law_set" (bf qP) (aW qP) (aj qP) .none kV27 dc27 pm27 an27 cd27 ct27),sl27⟩) (c27:CI K cd27 "_law_set" = true) (k27:CB K (.ref f27)=true)
  (a28:nsIn K AJ "_law_steps" = some (some (.ref f28))) (l28:K.lookup f28=some ⟨oc28,od28,.func (fnOf "_law_steps" "_law_steps" (bf b7) (aW b7) (aj b7) .none kV28 dc28 pm28 an28 cd28 ct28),sl28⟩) (c28:CI K cd28 "_law_steps" = true) (k28:CB K (.ref f28)=true)
  (a29:nsIn K AJ "_law_own" = some (some (.ref f29))) (l29:K.lookup f29=some ⟨oc29,od29,.func (fnOf "_law_own" "_law_own" (bf jF) (aW jF) (aj jF) .none kV29 dc29 pm29 an29 cd29 ct29),sl29⟩) (c29:CI K cd29 "_law_own" = true) (k29:CB K (.ref f29)=true)
  (a30:nsIn K AJ "_law_best" = some (some (.ref f30))) (l30:K.lookup f30=some ⟨oc30,od30,.func (fnOf "_law_best" "_law_best" (bf dJ) (aW dJ) (aj dJ) .none kV30 dc30 pm30 an30 cd30 ct30),sl30⟩) (c30:CI K cd30 "_law_best" = true) (k30:CB K (.ref f30)=true)
  (a31:nsIn K AJ "_law_all" = some (some (.ref f31))) (l31:K.lookup f31=some ⟨oc31,od31,.func (fnOf "_law_all" "_law_all" (bf gb) (aW gb) (aj gb) .none kV31 dc31 pm31 an31 cd31 ct31),sl31⟩) (c31:CI K cd31 "_law_all" = true) (k31:CB K (.ref f31)=true)
  (a32:nsIn K AJ "_law_sums" = some (some (.ref f32))) (l32:K.lookup f32=some ⟨oc32,od32,.func (fnOf "_law_sums" "_law_sums" (bf jg) (aW jg) (aj jg) .none kV32 dc32 pm32 an32 cd32 ct32),sl32⟩) (c32:CI K cd32 "_law_sums" = true) (k32:CB K (.ref f32)=true)
  (a33:nsIn K AJ "_law_room" = some (some (.ref f33))) (l33:K.lookup f33=some ⟨oc33,od33,.func (fnOf "_law_room" "_law_room" (bf dZ) (aW dZ) (aj dZ) .none kV33 dc33 pm33 an33 cd33 ct33),sl33⟩) (c33:CI K cd33 "_law_room" = true) (k33:CB K (.ref f33)=true)
  (a34:nsIn K AJ "_law_told_right" = some (some (.ref f34))) (l34:K.lookup f34=some ⟨oc34,od34,.func (fnOf "_law_told_right" "_law_told_right" (bf aY) (aW aY) (aj aY) .none kV34 dc34 pm34 an34 cd34 ct34),sl34⟩) (c34:CI K cd34 "_law_told_right" = true) (k34:CB K (.ref f34)=true)
  (a35:nsIn K AJ "law" = some (some (.ref f35))) (l35:K.lookup f35=some ⟨oc35,od35,.func (fnOf "law" "law" (bf jk) (aW jk) (aj jk) .none kV35 dc35 pm35 an35 cd35 ct35),sl35⟩) (c35:CI K cd35 "law" = true) (k35:CB K (.ref f35)=true)
  (z1:nsIn K AJ "abs" = some none)
  (z2:nsIn K AJ "all" = some none)
  (z3:nsIn K AJ "bool" = some none)
  (z4:nsIn K AJ "dict" = some none)
  (z5:nsIn K AJ "int" = some none)
  (z6:nsIn K AJ "isinstance" = some none)
  (z7:nsIn K AJ "len" = some none)
  (z8:nsIn K AJ "list" = some none)
  (z9:nsIn K AJ "max" = some none)
  (z10:nsIn K AJ "min" = some none)
  (z11:nsIn K AJ "range" = some none)
  (z12:nsIn K AJ "set" = some none)
  (z13:nsIn K AJ "sorted" = some none)
  (z14:nsIn K AJ "sum" = some none)
  (z15:nsIn K AJ "tuple" = some none)
  (z16:nsIn K AJ "zip" = some none)
  (w1:nsIn K AJ "MOST_IN_MASK" = some (some (.int 64 ckMostInMask)))
  (w2:nsIn K AJ "MOST_IN_TABLE" = some (some (.int 200 ckMostInTable)))
  (t1:nsIn K AJ "TESTS" = some (some (.ref aTests))) (u1:K.lookup aTests=some ⟨.type "tuple",none,.seq #[.str "is" kTests0,.str "within" kTests1,.str "below" kTests2,.str "mask" kTests3,.str "table" kTests4] nTests,slTests⟩) :
  ∃fd:CA,(∀(s:AC)(v:An),BindsTo s fd ⟨[v],[]⟩ [("_law_script",v)])/\∀base:Heap,K.In base->base.Ns AJ mg->dm l.prog w K mg base CX0 20 fa fd ["_law_script"] (JK K):=by
 have e:=hfa.symm.trans (mg_of X G a35);cases e;have DIsNumber:=bQ (st:=fj) (ps:=["thing"]) X G a1 l1 c1 k1 fun _ _ _ _ _ _ us hl=>by obtain⟨z0,rfl⟩:=ln1 hl;rfl
 have DNumbersAcross:=bQ (st:=cQ) (ps:=["stretches","left"]) X G a2 l2 c2 k2 fun _ _ _ _ _ _ us hl=>by obtain⟨z0,z1,rfl⟩:=ln2 hl;rfl
 have DLabelsLeft:=bQ (st:=eU) (ps:=["stretches","left"]) X G a3 l3 c3 k3 fun _ _ _ _ _ _ us hl=>by obtain⟨z0,z1,rfl⟩:=ln2 hl;rfl
 have DPartsSome:=bQ (st:=dM) (ps:=["stretches","left","label"]) X G a4 l4 c4 k4 fun _ _ _ _ _ _ us hl=>by obtain⟨z0,z1,z2,rfl⟩:=ln3 hl;rfl
 have DIsStep:=bQ (st:=cV) (ps:=["stretches","left","thing"]) X G a5 l5 c5 k5 fun _ _ _ _ _ _ us hl=>by obtain⟨z0,z1,z2,rfl⟩:=ln3 hl;rfl
 have DPlansIn:=bQ (st:=dW) (ps:=["stretches","left","plan"]) X G a6 l6 c6 k6 fun _ _ _ _ _ _ us hl=>by obtain⟨z0,z1,z2,rfl⟩:=ln3 hl;rfl
 have DIsPlan:=bQ (st:=d9) (ps:=["stretches","thing"]) X G a7 l7 c7 k7 fun _ _ _ _ _ _ us hl=>by obtain⟨z0,z1,rfl⟩:=ln2 hl;rfl
 have DStepRooms:=bQ (st:=cA) (ps:=["stretches","sizes","left"]) X G a8 l8 c8 k8 fun _ _ _ _ _ _ us hl=>by obtain⟨z0,z1,z2,rfl⟩:=ln3 hl;rfl
 have DBoundsOf:=bQ (st:=gK) (ps:=["ways","numbers"]) X G a9 l9 c9 k9 fun _ _ _ _ _ _ us hl=>by obtain⟨z0,z1,rfl⟩:=ln2 hl;rfl
 have DStretchesIn:=bQ (st:=cZ) (ps:=["some"]) X G a10 l10 c10 k10 fun _ _ _ _ _ _ us hl=>by obtain⟨z0,rfl⟩:=ln1 hl;rfl
 have DSetOf:=bQ (st:=mD) (ps:=["left"]) X G a11 l11 c11 k11 fun _ _ _ _ _ _ us hl=>by obtain⟨z0,rfl⟩:=ln1 hl;rfl
 have DWaysByLabel:=bQ (st:=aZ) (ps:=["stretches","left"]) X G a12 l12 c12 k12 fun _ _ _ _ _ _ us hl=>by obtain⟨z0,z1,rfl⟩:=ln2 hl;rfl
 have DWaysByStretch:=bQ (st:=bF) (ps:=["stretches","left"]) X G a13 l13 c13 k13 fun _ _ _ _ _ _ us hl=>by obtain⟨z0,z1,rfl⟩:=ln2 hl;rfl
 have DWaysOfSet:=bQ (st:=cu) (ps:=["stretches","some"]) X G a14 l14 c14 k14 fun _ _ _ _ _ _ us hl=>by obtain⟨z0,z1,rfl⟩:=ln2 hl;rfl
 have DRoomCharges:=bQ (st:=cN) (ps:=["stretches","sizes"]) X G a15 l15 c15 k15 fun _ _ _ _ _ _ us hl=>by obtain⟨z0,z1,rfl⟩:=ln2 hl;rfl
 have DChargedWays:=bQ (st:=cO) (ps:=["stretches","charges","some"]) X G a16 l16 c16 k16 fun _ _ _ _ _ _ us hl=>by obtain⟨z0,z1,z2,rfl⟩:=ln3 hl;rfl
 have DLeastBy:=bQ (st:=cR) (ps:=["ways","numbers","plans"]) X G a17 l17 c17 k17 fun _ _ _ _ _ _ us hl=>by obtain⟨z0,z1,z2,rfl⟩:=ln3 hl;rfl
 have DLeastsOfSets:=bQ (st:=bB) (ps:=["stretches","charges"]) X G a18 l18 c18 k18 fun _ _ _ _ _ _ us hl=>by obtain⟨z0,z1,rfl⟩:=ln2 hl;rfl
 have DLeastRoom:=bQ (st:=cY) (ps:=["stretches","sizes"]) X G a19 l19 c19 k19 fun _ _ _ _ _ _ us hl=>by obtain⟨z0,z1,rfl⟩:=ln2 hl;rfl
 have DZCellAt:=bQ (st:=gW) (ps:=["_law_script","_law_k"]) X G a20 l20 c20 k20 fun _ _ _ _ _ _ us hl=>by obtain⟨z0,z1,rfl⟩:=ln2 hl;rfl
 have DZTape:=bQ (st:=je) (ps:=["_law_script","_law_k"]) X G a21 l21 c21 k21 fun _ _ _ _ _ _ us hl=>by obtain⟨z0,z1,rfl⟩:=ln2 hl;rfl
 have DZTake:=bQ (st:=jf) (ps:=["_law_tape_here","_law_many"]) X G a22 l22 c22 k22 fun _ _ _ _ _ _ us hl=>by obtain⟨z0,z1,rfl⟩:=ln2 hl;rfl
 have DZStretches:=bQ (st:=bH) (ps:=["_law_tape_here","_law_many"]) X G a23 l23 c23 k23 fun _ _ _ _ _ _ us hl=>by obtain⟨z0,z1,rfl⟩:=ln2 hl;rfl
 have DZPrices:=bQ (st:=eG) (ps:=["_law_tape_here","_law_many"]) X G a24 l24 c24 k24 fun _ _ _ _ _ _ us hl=>by obtain⟨z0,z1,rfl⟩:=ln2 hl;rfl
 have DZSpan:=bQ (st:=nZ) (ps:=["_law_stretches_here","_law_left_here"]) X G a25 l25 c25 k25 fun _ _ _ _ _ _ us hl=>by obtain⟨z0,z1,rfl⟩:=ln2 hl;rfl
 have DZLeft:=bQ (st:=mC) (ps:=["_law_number","_law_many"]) X G a26 l26 c26 k26 fun _ _ _ _ _ _ us hl=>by obtain⟨z0,z1,rfl⟩:=ln2 hl;rfl
 have DZSet:=bQ (st:=qP) (ps:=["_law_left_here"]) X G a27 l27 c27 k27 fun _ _ _ _ _ _ us hl=>by obtain⟨z0,rfl⟩:=ln1 hl;rfl
 have DZSteps:=bQ (st:=b7) (ps:=["_law_stretches_here","_law_left_here"]) X G a28 l28 c28 k28 fun _ _ _ _ _ _ us hl=>by obtain⟨z0,z1,rfl⟩:=ln2 hl;rfl
 have DZOwn:=bQ (st:=jF) (ps:=["_law_stretches_here","_law_scale","_law_left_here","_law_word"]) X G a29 l29 c29 k29 fun _ _ _ _ _ _ us hl=>by obtain⟨z0,z1,z2,z3,rfl⟩:=ln4 hl;rfl
 have DZBest:=bQ (st:=dJ) (ps:=["_law_stretches_here","_law_scale"]) X G a30 l30 c30 k30 fun _ _ _ _ _ _ us hl=>by obtain⟨z0,z1,rfl⟩:=ln2 hl;rfl
 have DZAll:=bQ (st:=gb) (ps:=["_law_stretches_here","_law_scale","_law_number","_law_many"]) X G a31 l31 c31 k31 fun _ _ _ _ _ _ us hl=>by obtain⟨z0,z1,z2,z3,rfl⟩:=ln4 hl;rfl
 have DZSums:=bQ (st:=jg) (ps:=["_law_some","_law_more"]) X G a32 l32 c32 k32 fun _ _ _ _ _ _ us hl=>by obtain⟨z0,z1,rfl⟩:=ln2 hl;rfl
 have DZRoom:=bQ (st:=dZ) (ps:=["_law_stretches_here","_law_sizes","_law_left_here","_law_plan"]) X G a33 l33 c33 k33 fun _ _ _ _ _ _ us hl=>by obtain⟨z0,z1,z2,z3,rfl⟩:=ln4 hl;rfl
 have DZToldRight:=bQ (st:=aY) (ps:=["_law_stretches_here","_law_sizes"]) X G a34 l34 c34 k34 fun _ _ _ _ _ _ us hl=>by obtain⟨z0,z1,rfl⟩:=ln2 hl;rfl
 have DLaw:=bQ (st:=jk) (ps:=["_law_script"]) X G a35 l35 c35 k35 fun _ _ _ _ _ _ us hl=>by obtain⟨z0,rfl⟩:=ln1 hl;rfl
 have cgMostInMask:mg "MOST_IN_MASK" = some (.int 64 ckMostInMask):=mg_of X G w1;have cgMostInTable:mg "MOST_IN_TABLE" = some (.int 200 ckMostInTable):=mg_of X G w2;have cgTests:mg "TESTS" = some (.ref aTests):=mg_of X G t1;have ktTests:KTup K aTests ([("is" : Str),("within" : Str),("below" : Str),("mask" : Str),("table" : Str)].map V.str):=⟨_,_,_,u1,rfl,rfl,rfl,aU (show 5<=1000000 by decide),(.cons ⟨_,rfl⟩ (.cons ⟨_,rfl⟩ (.cons ⟨_,rfl⟩ (.cons ⟨_,rfl⟩ (.cons ⟨_,rfl⟩ .nil)))))⟩;have hB:∀x:Str,x∈BLs->mg x=none:=by
  intro x hx;replace hx:x∈(["abs","all","bool","dict","int","isinstance","len","list","max","min","range","set","sorted","sum","tuple","zip"]:List Str):=hx;simp only[Bi,B2,or_false] at hx;rcases hx with rfl|rfl|rfl|rfl|rfl|rfl|rfl|rfl|rfl|rfl|rfl|rfl|rfl|rfl|rfl|rfl
  ·exact De X G z1
  ·exact De X G z2
  ·exact De X G z3
  ·exact De X G z4
  ·exact De X G z5
  ·exact De X G z6
  ·exact De X G z7
  ·exact De X G z8
  ·exact De X G z9
  ·exact De X G z10
  ·exact De X G z11
  ·exact De X G z12
  ·exact De X G z13
  ·exact De X G z14
  ·exact De X G z15
  exact De X G z16
 refine⟨fnOf "law" "law" (bf jk) (aW jk) (aj jk) .none kV35 dc35 pm35 an35 cd35 ct35,fun s v=>.of_eq rfl,fun base kb nb=>?_⟩;have CCell:=DZCellAt.cal (Wd (P:=l.prog) (w:=w) (base:=base) hB DZCellAt.fn);have CTape:=DZTape.cal (Wa hB CCell DZTape.fn);have CTake0:=DZTake.cal (Li (P:=l.prog) (w:=w) (mg:=mg) (base:=base));have CTake1:=DZTake.cal (J1 (n:=0) hB δ CTake0 DZTake.fn);have CTake2:=DZTake.cal (J1 (n:=1) hB δ CTake1 DZTake.fn);have CSts:=DZStretches.cal (Y0 hB CTake2 DZStretches.fn);have CPrs:=DZPrices.cal (Mj hB CTake2 DZPrices.fn);have CSpan:=DZSpan.cal (Wb (P:=l.prog) (w:=w) (base:=base) hB DZSpan.fn);have CRoom:∀n,Cal l.prog w K mg base "_law_room" (n+2) q0_ (oX n):=by
  intro n
  induction n with
  | zero=>exact DZRoom.cal (Lr (P:=l.prog) (w:=w) (mg:=mg) (base:=base))
  | succ n ih=>exact DZRoom.cal (Rm hB CSpan ih DZRoom.fn)
 have CIn:=DPlansIn.cal (Hz (P:=l.prog) (w:=w) (base:=base) hB DPlansIn.fn);have CAcross:=DNumbersAcross.cal (Ms (P:=l.prog) (w:=w) (base:=base) hB DNumbersAcross.fn);have CLabs:=DLabelsLeft.cal (Wc (P:=l.prog) (w:=w) (base:=base) hB DLabelsLeft.fn);have CNum:=DIsNumber.cal (Rn (P:=l.prog) (w:=w) (base:=base) hB DIsNumber.fn);have CSome:=DPartsSome.cal (Rk hB CLabs DPartsSome.fn);have CStep:=DIsStep.cal (Mp hB cgMostInMask cgMostInTable CNum CAcross CLabs CSome DIsStep.fn);have CIsP:=DIsPlan.cal (Mq hB CStep CIn DIsPlan.fn);have CSetOf:=DSetOf.cal (Rj (P:=l.prog) (w:=w) (base:=base) hB DSetOf.fn);have CWayS:=DWaysByStretch.cal (Rf hB CSetOf DWaysByStretch.fn);have CWayL:=DWaysByLabel.cal (Rg hB cgMostInMask cgMostInTable CAcross CLabs CSetOf DWaysByLabel.fn);have CStepR:=DStepRooms.cal (Ri (P:=l.prog) (w:=w) (base:=base) hB cgTests ktTests CAcross DStepRooms.fn);have CPlan:∀n,n<=8->0<n->Cal l.prog w K mg base "least_room" 6 q6_ (sW n):=fun n hn h0=>by
  have CStrIn:=DStretchesIn.cal (Rh (n:=n) (P:=l.prog) (w:=w) (base:=base) ω hB DStretchesIn.fn);have CWys:=DWaysOfSet.cal (YZ (n:=n) ω hB CStrIn CWayL CWayS DWaysOfSet.fn);have CChg:=DRoomCharges.cal (HJ (n:=n) ω hB CStrIn CStepR DRoomCharges.fn);refine DLeastRoom.cal (BV (n:=n) ω h0 hB (fun ss zs=>?_) CChg DLeastRoom.fn);have CBnd:=DBoundsOf.cal (Mr (f':=eZ ss zs) (P:=l.prog) (w:=w) (base:=base) hB DBoundsOf.fn);exact DLeastsOfSets.cal (Ml (Le ss zs) ω hB (DLeastBy.cal (HD hB CBnd DLeastBy.fn)) (DChargedWays.cal (HN (n:=n) ω hB CWys DChargedWays.fn)) DLeastsOfSets.fn)
 have CZSet:=DZSet.cal (V6 (P:=l.prog) (w:=w) (base:=base) hB DZSet.fn);have CZSteps:=DZSteps.cal (Mi hB CZSet DZSteps.fn);have CZOwn:=DZOwn.cal (V7 (P:=l.prog) (w:=w) (base:=base) hB DZOwn.fn);have CZLeft:∀n,n<=60->Cal l.prog w K mg base "_law_left" 1 q9_ (vz n):=fun n hn=>DZLeft.cal (Rb (n:=n) (P:=l.prog) (w:=w) (base:=base) hn hB DZLeft.fn);have CZBest:∀n,n<=8->Cal l.prog w K mg base "_law_best" 3 q8_ (Hg uz n):=fun n hn=>DZBest.cal (Rc uJ ω hB (CZLeft n ω) CZSteps CZOwn DZBest.fn);have CZSums:=DZSums.cal (Ra (P:=l.prog) (w:=w) (base:=base) hB DZSums.fn);have CZAll:∀n,n<=8->∀m,m<=4->Cal l.prog w K mg base "_law_all" (m+2) q2_ (sX uz n m):=by
  intro n hn m
  induction m with
  | zero=>exact fun _=>DZAll.cal (all_none (P:=l.prog) (w:=w) (mg:=mg) (base:=base))
  | succ m ih=>exact fun h=>DZAll.cal (V8 uJ ω h hB (CZLeft n ω) CZSteps CZOwn CZSums (ih ω) DZAll.fn)
 have CTold:=DZToldRight.cal (V9 hB CPlan CZBest (fun n hn=>CZAll n hn 4 (A1 4)) CIsP (CRoom 16) DZToldRight.fn);exact Y4 hB CTape CTake2 CSts CPrs CTold DLaw.fn
theorem walk {l:PySem.W.OpenLaw}{q:AV}{loose:List Str}{XP:(Str->Option An)->Heap->Prop}{YP:A6->Heap->Prop}{d:DefRec}{K:Params->AE}(hn:l.most=some 63)(hdf:d.params.defaults=[])
  (hY:∀(w:A6)(h:Heap),YP w h->(K w.params).In h)
  (F:∀(w:A6)(mg:Str->Option An)(fa:Addr)(h:Heap),(K w.params).In h->h.Ns AJ mg->mg d.name=some (.ref fa) ->
   ∃fd:CA,(∀(s:AC)(u:An),BindsTo s fd ⟨[u],[]⟩ [("_law_script",u)])/\∀base:Heap,(K w.params).In base->base.Ns AJ mg->dm l.prog w (K w.params) mg base CX0 20 fa fd ["_law_script"] (JK (K w.params))) :
  PySem.W.WalkO q loose XP YP l.row.toRowW d [] (fun f vs=>PySem.call f vs):=
 L2.TV (n:=63) (k:=20) (x := "_law_script") (CX:=fun _=>CX0) (sp:=fun w=>JK (K w.params)) hn δ hdf ⟨rfl,δ,δ,rfl⟩ hY F (fun _ _ a ns hl _ hS=>⟨a,ns,rfl,hS,hl,fun _=>rfl⟩) fun _ _ _ _ _ z=>z
end K36
namespace PySem.W.Fast
theorem tw12306100217468447052:True:=⟨⟩
theorem tw14005166933863515352:True:=⟨⟩
theorem tw6984630777887241521:True:=⟨⟩
end PySem.W.Fast
open PySem PySem.W PyProof.Rows
set_option maxRecDepth 100000 in
set_option maxHeartbeats 0 in
theorem PySem.Challenge.cw_caseways_k36_least_room_of_all_holds : PySem.Challenge.rw_caseways_k36_least_room_of_all.Holds := by
 w_on; o_law; k_head; (case hw=>w_witness2)
 k_fill
 refine K36.walk (l:=PySem.Challenge.rw_caseways_k36_least_room_of_all) rfl rfl (fun w h Y=>PySem.W.kIn_of Y) ?F
 case F=>
  intro w mg fa h KX G hmg
  refine' K36.all_mk KX G hmg ?a1 ?l1 ?c1 ?k1 ?a2 ?l2 ?c2 ?k2 ?a3 ?l3 ?c3 ?k3 ?a4 ?l4 ?c4 ?k4 ?a5 ?l5 ?c5 ?k5 ?a6 ?l6 ?c6 ?k6 ?a7 ?l7 ?c7 ?k7 ?a8 ?l8 ?c8 ?k8 ?a9 ?l9 ?c9 ?k9 ?a10 ?l10 ?c10 ?k10 ?a11 ?l11 ?c11 ?k11 ?a12 ?l12 ?c12 ?k12 ?a13 ?l13 ?c13 ?k13 ?a14 ?l14 ?c14 ?k14 ?a15 ?l15 ?c15 ?k15 ?a16 ?l16 ?c16 ?k16 ?a17 ?l17 ?c17 ?k17 ?a18 ?l18 ?c18 ?k18 ?a19 ?l19 ?c19 ?k19 ?a20 ?l20 ?c20 ?k20 ?a21 ?l21 ?c21 ?k21 ?a22 ?l22 ?c22 ?k22 ?a23 ?l23 ?c23 ?k23 ?a24 ?l24 ?c24 ?k24 ?a25 ?l25 ?c25 ?k25 ?a26 ?l26 ?c26 ?k26 ?a27 ?l27 ?c27 ?k27 ?a28 ?l28 ?c28 ?k28 ?a29 ?l29 ?c29 ?k29 ?a30 ?l30 ?c30 ?k30 ?a31 ?l31 ?c31 ?k31 ?a32 ?l32 ?c32 ?k32 ?a33 ?l33 ?c33 ?k33 ?a34 ?l34 ?c34 ?k34 ?a35 ?l35 ?c35 ?k35 ?z1 ?z2 ?z3 ?z4 ?z5 ?z6 ?z7 ?z8 ?z9 ?z10 ?z11 ?z12 ?z13 ?z14 ?z15 ?z16 ?w1 ?w2 ?t1 ?u1
  case a1|l1|c1|k1|a2|l2|c2|k2|a3|l3|c3|k3|a4|l4|c4|k4|a5|l5|c5|k5|a6|l6|c6|k6|a7|l7|c7|k7|a8|l8|c8|k8|a9|l9|c9|k9|a10|l10|c10|k10|a11|l11|c11|k11|a12|l12|c12|k12|a13|l13|c13|k13|a14|l14|c14|k14|a15|l15|c15|k15|a16|l16|c16|k16|a17|l17|c17|k17|a18|l18|c18|k18|a19|l19|c19|k19|a20|l20|c20|k20|a21|l21|c21|k21|a22|l22|c22|k22|a23|l23|c23|k23|a24|l24|c24|k24|a25|l25|c25|k25|a26|l26|c26|k26|a27|l27|c27|k27|a28|l28|c28|k28|a29|l29|c29|k29|a30|l30|c30|k30|a31|l31|c31|k31|a32|l32|c32|k32|a33|l33|c33|k33|a34|l34|c34|k34|a35|l35|c35|k35|z1|z2|z3|z4|z5|z6|z7|z8|z9|z10|z11|z12|z13|z14|z15|z16|w1|w2|t1|u1=>k_is
#print axioms PySem.Challenge.cw_caseways_k36_least_room_of_all_holds
