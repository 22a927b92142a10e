import PyProof.Rows.All
import Wide.All
import OpenK.AllK
import Wide.FinOn
import Lean
import PyProof.EqAt
import PyProof.EqKinds
import PyProof.TupleCall
import PyProof.NeData
import PySem.Challenge.RW_caseways_k33_least_plans_of_all
local macro_rules | `(tactic| omega) => `(tactic| first | with_reducible assumption | lia | omega +splitDisjunctions)
set_option Elab.async false
set_option linter.all false
set_option maxRecDepth 100000
theorem ω {p : Prop}(h : p := by omega) : p := h
theorem δ {p : Prop}(h : p := by decide) : p := h
theorem ψ {p : Prop}(h : p := by decide +kernel) : p := h
open List (all_append all_cons all_eq_true all_map all_nil drop_zero ext_getElem flatMap_nil flatten_cons foldl_cons forIn_nil mem_range of_mem_zip set_comm sum_append sum_nil take_zero)
open Option (getD_none map_some)
open PySem.W (fnOf kitOne mg_of nsIn)
open Array (toList_push)
open Nat (le_of_eq le_succ lt_trans mod_lt mul_le_mul mul_one ne_of_gt succ_mul)
open Int (lt_or_le mul_add mul_zero zero_add)
open PySem renaming wpAny_bind → An, Value → Ap, wpAny_pure → Au, Shared → AB, wpAny → AG, Builtin → AI, starEach → AJ, sizeLine → AL, mainGlobals → AM, Program → AR, SetTable → AV, model → AW, wpAny_ite_false → AY, PyData → A1, World → Bi, Around → Bz, wpAny_holding → BD, wpAny_newObj_type → BF, boot_len → BH, wpAny_callSpecial?_slot → BS, wpAny_setField_rec → BU, wpAny_field → B3, wpAny_seqItems → B4, wpAny_call_entry → Cc, wpAny_ite_true → Ch, IsPair → Cs, wpAny_mono → CA, compareOp → CH, backTo → CU, FuncData → CY, attributeBase → C1, sysModules → C2, wpAny_typeOf → C6, mem_of_lookup → C7, wpAny_of_eq → Da, wpAny_attempt → Db, codeAny_builtin → DA, assignEach → DC, NameKind → DF, wpAny_rule → DS, rawInt → DT, wpAny_isInstance → DZ, bootBuiltins → D1, foldedSetIterable → D5, Keyword → D6, call_meets → Ee, binaryOp → Ev, swapsWithSole → EB, wpAny_pyIter_tuple → EI, holding → EM, pyNext → EO, wpAny_pyIter_list → EW, keywordEach → EX, setField → EZ, ZipApart → E3, wpAny_newTuple → E5, codeAny → Ff, wpAny_Call_Name_kw → Fh, wpAny_Call_method_late → Fk, wpAny_passesOwn → Fs, wpAny_standAt → FB, wpAny_truthy_bool → FC, assign → FE, wpAny_updateSeq_pair → FM, wpAny_askSetting → FO, cLine → FU, wpAny_onRaise → FY, Spec → F0, scanBound → F4, notedBy → F8, backToKw → F9, Scope → GG, intKind → GN, swappedStores → GO, behindInMarks → GS, bindName → GW, sliceBounds → GY, compEnvC → G0, letOwnedTupleGo → Ha, pickOrder → HI, wpAny_bindName → HK, stored → HP, sub_AttributeError → HU, wpAny_pyIter_enum → Ix, assignInOrder → IE, wpAny_comprehension_free → IG, swapsWith → II, seqItems? → IJ, updateSeq → IL, newTuple → IM, codeAny_mono → IT, typeLookup → IX, wpAny_execs_nil → JE, exec_Assign_arm → JI, again → JJ, IsZip → JO, am_miss_of_fast → JP, wpAny_loadPart' → JU, sizeLine_eq → Kb, wpAny_newFunctionEnv → Kk, field → Kn, wpAny_letGo → Kt, isSubtype_stop → Kx, wpAny_fieldsOf → KF, getItem → KM, wpAny_dictSet_pairs → K0, plainId_quiet → Ll
open PySem.Heap renaming get?_push_of_some → AA, get?_push_size → AQ, lt_size → A4, SameBut → B5, size_push → B9, get?_update_other → DH, get?_update_self → GH
open And renaming intro → AC
open PySem.W renaming Frag → AD, keepIn → CD, codeIn → CM, kia_one → De, mg_none_of → DI, findIn → HL, stepOk → HZ
open List renaming length_map → AE, getElem?_eq_getElem → AF, length_append → AH, mem_singleton → AK, getD_eq_getElem?_getD → AN, getElem?_eq_some_iff → AO, getElem?_map → AU, size_toArray → AX, mem_cons_self → A0, mem_cons → A5, map_append → A6, mem_of_getElem? → A7, length_singleton → A8, not_mem_nil → A9, mem_append_right → BB, getElem?_append_right → BC, range → BO, Nodup → BQ, mem_cons_of_mem → B1, replicate → B8, length_filter_le → Cf, length_cons → Co, append_nil → CB, map_cons → CF, mem_append → CI, getElem?_append_left → C3, mem_iff_getElem → C5, append_assoc → Dx, mem_filter → DB, mem_map → DM, forIn_cons → DV, pairwise_cons → D2, length_pos_iff → D4, take_of_length_le → D8, length_eq_one_iff → D9, take_length → ED, getElem?_eq_none → EE, filter_cons_of_pos → EJ, filter_cons_of_neg → EK, map_congr_left → EL, length_take → ET, length_drop → EU, lookup_cons → EV, contains_iff_mem → E6, mem_map_of_mem → E7, eq_nil_of_length_eq_zero → Fa, length_range → Fn, length → FF, sum_cons → FG, length_nil → FL, Perm → FS, getElem?_cons_zero → F1, getElem?_cons_succ → F2, replicate_succ → F6, filter_eq_nil_iff → GA, getElem?_toArray → GL, set_cons_zero → GU, set_cons_succ → GV, getElem_mem → G1, mem_append_left → G2, mem_of_mem_drop → Hc, map_nil → He, toArray → Hm, flatMap_cons → HH, any_cons → HM, length_eq_zero_iff → HV, map_eq_nil_iff → Ic, drop_eq_getElem_cons → Iq, pairwise_lt_range → IC, nodup_cons → IU, find?_cons → IY, length_take_le → KA, count_eq_length → KG, map_map → KO, filterMap_cons → KP, filter_eq_self → KW
open Nat renaming le_refl → AZ, lt_of_lt_of_le → Be, le_trans → BG, ne_of_lt → B2, lt_succ_self → CO, lt_succ_of_lt → C0, lt_irrefl → DD, zero_lt_succ → Ex, lt_of_sub_pos → EC, pow_le_pow_right → EF, zero_le → EN, two_pow_pos → ES, lt_or_ge → FX, sub_self → Go, add_sub_cancel → HQ, testBit_lt_two_pow → IZ, le_of_lt → JY, lt_of_le_of_lt → KB, add_le_add_right → KI
open Bool renaming false_ne_true → A3, and_eq_true → C9, false_eq_true → FV, false_and → F5, and_false → F7, eq_iff_iff → Hb, not_false → KE, not_true → Lc, true_and → Lm
open Ne renaming symm → BA
open Option renaming map_eq_some_iff → BE
open PyProof.Rows renaming callWith_type1 → BI, pendingOf → ER, Keyed → E9, assignInOrder_cons → Fc, firstMet → FA, IntsAre → FD, slot_tuple_getitem → GB, SortSt → GM, boot_isinstance → Hd, AllBare → IR, IsTup → JA, envOfC → Ki, boot_sum → KL
open PySem.SeqAt renaming EqAt → BM
open Option.some renaming inj → BN, injEq → IB
open Int renaming toNat → B0, toNat_natCast → B6, emod_lt_of_pos → EH, eq_ofNat_of_zero_le → E8, add_zero → Fu, emod_nonneg → FH, natCast_pow → FI, mul_comm → HR, one_mul → Jn
open PySem.PassesOwn renaming never → B7
open PySem.Str renaming ofString → Cb
open PySem.Data renaming fields → Cn, seq → DE, dict → F3
open Sum renaming inl → Ct, inr → D0
open PySem.Calls renaming spliced_nil → CC, spliced_cons → CL, callWith_builtin → CS, evalArgs_plain → D3
open Array renaming getElem?_toList → C4, length_toList → EA
open Or renaming inl → C8
open ForInStep renaming yield → DJ
open PySem.F renaming slot_zip_next → DL, plainAttrs_list → D7, slot_tuple_iterator_next → FK, called_set → FR, args_zip_next_1 → Gc, entry_zip_next → GI, slot_list_getattribute → IH, slot_zip_getattribute → IP, args_list_append_2 → Kj, entry_list_append → KU
open PySem.Obj renaming mapSeq → DU
open False renaming elim → EG
open True renaming intro → E4
open PySem.Code renaming quiet_builtin → Fm, builtin → Hn
open PySem.Meets renaming of_wp → Iy
open PySem.Sem renaming onRaise → IA
open PyProof.Rows.F renaming plain_set_update_loop → IQ
open PySem.Paired renaming length → K2
namespace L2
open PySem PySem.Spec PyProof.Rows
noncomputable abbrev Key:=Sum Int Str
noncomputable def Bl:Key->Ap->Bool
 | .inl k,v=>Ap.isInt k v
 | .inr x,v=>Ap.isStrOf x v
noncomputable def ab2 (w:Bi):Key->Int
 | .inl k=>hashInt k
 | .inr x=>hashStr w x
theorem dM:∀{k:Key}{v:Ap},Bl k v=true->(∃i t,k=Ct i/\v=Ap.int i t)\/(∃x t,k=D0 x/\v=Ap.str x t)
 | .inl i,v,h=>by
  obtain⟨t,e⟩:=Ap.isInt_shape (k:=i) (v:=v) h;exact .inl ⟨i,t,rfl,e⟩
 | .inr x,v,h=>by
  obtain⟨t,e⟩:=Ap.isStrOf_shape (x:=x) (v:=v) h;exact .inr ⟨x,t,rfl,e⟩
theorem Ol (i:Int)(t:Tok):Bl (.inl i) (.int i t)=true:=by simp [Bl,Ap.isInt]
theorem Oj (x:Str)(t:Tok):Bl (.inr x) (.str x t)=true:=by simp [Bl,Ap.isStrOf]
theorem aaE (a b:Int):decide ((Ct a:Key)=Ct b)=(a == b):=by
 by_cases e:a=b
 ·subst e;simp
 have h:¬(Ct a:Key)=Ct b:=fun q=>e (Ct.inj q);rw[decide_eq_false h];exact(beq_eq_false_iff_ne.mpr e).symm
theorem aaB (a b:Str):decide ((D0 a:Key)=D0 b)=decide (a=b):=by
 by_cases e:a=b
 ·subst e;simp
 have h:¬(D0 a:Key)=D0 b:=fun q=>e (D0.inj q);rw[decide_eq_false h,decide_eq_false e]
theorem aaD (a:Int)(b:Str):decide ((Ct a:Key)=D0 b)=false:=decide_eq_false (fun q=>nomatch q)
theorem aaC (a:Str)(b:Int):decide ((D0 a:Key)=Ct b)=false:=decide_eq_false (fun q=>nomatch q)
noncomputable def aP (prog:AR)(w:Bi):PySem.KeyKind prog w Key where
 is:=Bl
 hash:=ab2 w
 inj:=fun v a b ha hb=>by
  rcases dM ha with⟨i,t,rfl,rfl⟩|⟨x,t,rfl,rfl⟩
  ·rcases dM hb with⟨j,u,rfl,e⟩|⟨y,u,rfl,e⟩
   ·injection e with e1 _;rw[e1]
   exact nomatch e
  rcases dM hb with⟨j,u,rfl,e⟩|⟨y,u,rfl,e⟩
  ·exact nomatch e
  injection e with e1 _;rw[e1]
 byValue:=fun k v h=>by
  rcases dM h with⟨i,t,rfl,rfl⟩|⟨x,t,rfl,rfl⟩ <;> rfl
 pyHash:=fun hv h=>by
  rcases dM hv with⟨i,t,rfl,rfl⟩|⟨x,t,rfl,rfl⟩
  ·exact wpAny_pyHash_int h
  exact wpAny_pyHash_str h
 eqBool:=fun hu hv h=>by
  rcases dM hu with⟨i,t,rfl,rfl⟩|⟨x,t,rfl,rfl⟩
  ·rcases dM hv with⟨j,u,rfl,rfl⟩|⟨y,u,rfl,rfl⟩
   ·rw[aaE] at h;exact wpAny_eqBool_int h
   rw[aaD] at h;exact BM.int_str i t y u _ _ _ _ h
  rcases dM hv with⟨j,u,rfl,rfl⟩|⟨y,u,rfl,rfl⟩
  ·rw[aaC] at h;exact BM.str_int x t j u _ _ _ _ h
  rw[aaB] at h;exact wpAny_eqBool_str h
 «strs»:=fun k x t v h=>by
  rcases dM h with⟨i,u,rfl,e⟩|⟨y,u,rfl,e⟩
  ·exact nomatch e
  injection e with e1 _;subst e1;cases v <;> rfl
theorem Gn (prog:AR)(w:Bi)(i:Int)(t:Tok):(aP prog w).is (.inl i) (.int i t)=true:=Ol i t
theorem Gm (prog:AR)(w:Bi)(x:Str)(t:Tok):(aP prog w).is (.inr x) (.str x t)=true:=Oj x t
inductive V where
 | non|bl (b:Bool)|int (i:Int)|str (x:Str)|byt (b:Array UInt8)|flt (b:UInt64)|ref (a:Addr)|ty (n:String)
 deriving DecidableEq
noncomputable def RelV:V->Ap->Prop
 | .non,u=>u=Ap.none
 | .bl b,u=>u=Ap.bool b
 | .int i,u=>∃t,u=Ap.int i t
 | .str x,u=>∃t,u=Ap.str x t
 | .byt b,u=>∃t,u=Ap.bytes b t
 | .flt b,u=>∃t,u=Ap.float b t
 | .ref a,u=>u=Ap.ref a
 | .ty n,u=>u=Ap.type n
noncomputable abbrev Vals:List V->List Ap->Prop:=Paired RelV
theorem Vals.length {xs:List V}{us:List Ap}(r:Vals xs us):xs.length=us.length:=K2 r
theorem Vals.get:∀{xs:List V}{us:List Ap}{i:Nat}{x:V},Vals xs us->xs[i]?=some x->∃u,us[i]?=some u/\RelV x u
 | _,_,_,_,.nil,e=>by simp at e
 | _,_,0,_,.cons r _,e=>by simp at e;subst e;exact⟨_,rfl,r⟩
 | _,_,i+1,x,.cons _ t,e=>by
  obtain⟨u,h1,h2⟩:=Vals.get (i:=i) (x:=x) t (by simpa using e);exact⟨u,by simpa using h1,h2⟩
theorem Vals.set {x:V}{u:Ap}(r:RelV x u):∀{xs:List V}{us:List Ap}(i:Nat),Vals xs us->Vals (xs.set i x) (us.set i u)
 | _,_,_,.nil=>.nil
 | _,_,0,.cons _ t=>.cons r t
 | _,_,i+1,.cons q t=>.cons q (Vals.set r i t)
theorem Vals.append:∀{xs ys:List V}{us ws:List Ap},Vals xs us->Vals ys ws->Vals (xs++ys) (us++ws)
 | _,_,_,_,.nil,s=>s
 | _,_,_,_,.cons r t,s=>.cons r (Vals.append t s)
theorem Vals.take:∀{xs:List V}{us:List Ap}(n:Nat),Vals xs us->Vals (xs.take n) (us.take n)
 | _,_,0,_=>.nil
 | _,_,_+1,.nil=>.nil
 | _,_,n+1,.cons r t=>.cons r (Vals.take n t)
theorem Vals.drop:∀{xs:List V}{us:List Ap}(n:Nat),Vals xs us->Vals (xs.drop n) (us.drop n)
 | _,_,0,r=>r
 | _,_,_+1,.nil=>.nil
 | _,_,n+1,.cons _ t=>Vals.drop n t
theorem Vals.none_of:∀{xs:List V}{us:List Ap}{i:Nat},Vals xs us->xs[i]?=none->us[i]?=none:=fun {xs us i} r e=>by
 have h1:=r.length;have h2:xs.length<=i:=List.getElem?_eq_none_iff.mp e;exact List.getElem?_eq_none_iff.mpr ω
noncomputable def yZ:Option V->Option Ap->Prop
 | some v,some u=>RelV v u
 | none,none=>True
 | _,_=>False
noncomputable def KV {κ:Type}:List (κ×V)->List (κ×Ap)->Prop:=Paired fun(p:κ×V)(q:κ×Ap)=>p.1=q.1/\RelV p.2 q.2
noncomputable def kV:Key->V
 | .inl i=>.int i
 | .inr x=>.str x
inductive HO where
 /-- a list -/
 | lst (xs:List V)
 /-- a tuple (never changes) -/
 | tup (xs:List V)
 /-- a dict whose keys are ints and texts;one whose keys are tuples of ints and texts (the empty one is both) -/
 | dK (kvs:List (Key×V))|dT (kvs:List (List Key×V))
 /-- a set of ints: its members,its size -/
 | set (S:Int->Bool) (n:Nat)
 /-- an instance of the class at C,its dict at dx,its attributes -/
 | ins (C dx:Addr) (fs:List (Str×V))
 /-- the dict of the instance at x -/
 | own (x:Addr)
 /-- the dict of an exception -/
 | xd (fs:List (Str×V))
 /-- a bound method,f of x -/
 | met (f x:Addr)
 /-- a range object lo,lo+1,.. below hi -/
 | rng (lo hi:Int)
 /-- a thing that is known to the object (the script;a dict while a loop walks it): read,never written while it is so -/
 | frz (o:Obj) (u:HO)
 /-- a code object's table -/
 | tbl (ps:Array Ap)
 /-- any other thing,by what is true of its one object (a def of one's own: SetO a S n:=HO.ext fun h=>..) -/
 | ext (φ:Heap->Prop)
noncomputable abbrev Hp:=Addr->Option HO
noncomputable def upd (H:Hp)(a:Addr)(o:HO):Hp:=fun b=>if b=a then some o else H b
theorem aq {H:Hp}{a:Addr}{o:HO}:upd H a o a=some o:=by unfold upd;rw[if_pos rfl]
theorem aJ {H:Hp}{a b:Addr}{o:HO}(h:b≠a):upd H a o b=H b:=by unfold upd;rw[if_neg h]
theorem Vr {H:Hp}{a:Addr}{o u:HO}:upd (upd H a o) a u=upd H a u:=by
 funext b;unfold upd;split <;> rfl
theorem abC {H:Hp}{a b:Addr}{o u:HO}(h:H a=some o)(h':H b=some u)(d:o≠u):a≠b:=by
 intro e;subst e;rw[h] at h';exact d (BN h')
theorem aD {H:Hp}{a b:Addr}{o:HO}(h:H a=some o)(h':H b=none):a≠b:=by
 intro e;subst e;rw[h] at h';cases h'
section
variable (P:AR)(w:Bi)
noncomputable def cZ (H:Hp)(h:Heap)(a:Addr):HO->Prop
 | .lst xs=>xs.length<=AL/\∃(its:List Ap)(n:Nat),Vals xs its/\h.get? a=some { cls:=.type "list",data:=.seq its.toArray n }
 | .tup xs=>xs.length<=AL/\∃its:List Ap,Vals xs its/\JA h a its.toArray
 | .dK kvs=>kvs.length<=AL/\(a == C2)=false/\∃vs,KV kvs vs/\h.DictOf (aP P w) a vs
 | .dT kvs=>kvs.length<=AL/\(a == C2)=false/\∃xs:List (List Key×Addr×Ap),
   Paired (fun(p:List Key×V)(q:List Key×Addr×Ap)=>p.1=q.1/\H q.2.1=some (.tup (p.1.map kV))/\RelV p.2 q.2.2) kvs xs /\
   ∃o es ep,h.get? a=some o/\o.ExactDict/\o.data=.dict es ep/\es.toList=xs.map (entryOfKey (tupleKind (aP P w)))/\(xs.map (·.1)).Nodup
 | .set S n=>h.SetOf (GN P w) a S n
 | .ins C dx fs=>H dx=some (.own a)/\fs.length<=1000/\dx≠a/\h.get? a=some (PySem.W.instObj C dx) /\
   ∃mA,h.Ns1 dx mA/\(∀f,yZ (fs.lookup f) (mA f))/\PySem.Within mA (fs.map (·.1))
 | .own _=>∃o,h.get? a=some o
 | .xd fs=>∃mA,h.Ns1 a mA/\∀f,yZ (fs.lookup f) (mA f)
 | .rng lo hi=>∃t u v,h.get? a=some { cls:=.type "range",data:=.fields #[.int lo t,.int hi u,.int 1 v] }
 | .frz o u=>h.get? a=some o/\cZ H h a u
 | .tbl ps=>h.get? a=some { cls:=.none,data:=.fields ps }
 | .met f x=>h.get? a=some (PySem.W.methodObj (.ref f) (.ref x))
 | .ext φ=>φ h/\(∃o,h.get? a=some o)/\∀h1 h2:Heap,φ h1->(∀o,h1.get? a=some o->h2.get? a=some o)->φ h2
noncomputable def HOk (H:Hp)(h:Heap):Prop:=∀a o,H a=some o->cZ P w H h a o
end
section
variable {P:AR}{w:Bi}{H H':Hp}{h h':Heap}{a:Addr}{o:HO}
theorem cZ.lt (x:cZ P w H h a o):a<h.objs.size:=by
 cases o with
 | lst xs=>obtain⟨_,_,_,_,e⟩:=x;exact A4 e
 | tup xs=>obtain⟨_,_,_,p⟩:=x;exact p.lt
 | dK kvs=>obtain⟨_,_,_,_,o,_,_,e,_⟩:=x;exact A4 e
 | dT kvs=>obtain⟨_,_,_,_,o,_,_,e,_⟩:=x;exact A4 e
 | set S n=>obtain⟨o,_,_,_,e,_⟩:=x;exact A4 e
 | ins C dx fs=>obtain⟨_,_,_,e,_⟩:=x;exact A4 e
 | own y=>obtain⟨_,e⟩:=x;exact A4 e
 | xd fs=>obtain⟨_,⟨_,_,_,e,_⟩,_⟩:=x;exact A4 e
 | rng lo hi=>obtain⟨_,_,_,e⟩:=x;exact A4 e
 | frz ob u=>obtain⟨e,_⟩:=x;exact A4 e
 | tbl ps=>exact A4 (show h.get? a=some _ from x)
 | met f y=>exact A4 (show h.get? a=some _ from x)
 | ext φ=>obtain⟨_,⟨_,e⟩,_⟩:=x;exact A4 e
theorem Paired.aaw {α β:Type}{F G:α->β->Prop}:∀{l₁:List α}{l₂:List β},Paired F l₁ l₂->(∀a b,F a b->G a b)->Paired G l₁ l₂
 | _,_,.nil,_=>.nil
 | _,_,.cons r t,f=>.cons (f _ _ r) (Paired.aaw t f)
theorem cZ.stay (x:cZ P w H h a o)(k:∀b u,(b=a\/H b=some (.own a))->h.get? b=some u->h'.get? b=some u)
  (ho:∀b,H b=some (.own a)->H' b=some (.own a)) (ht:∀b xs,H b=some (.tup xs)->H' b=some (.tup xs)):cZ P w H' h' a o:=by
 induction o with
 | lst xs=>obtain⟨z,its,n,r,e⟩:=x;exact⟨z,its,n,r,k _ _ (.inl rfl) e⟩
 | tup xs=>obtain⟨z,its,r,ob,e,c⟩:=x;exact⟨z,its,r,ob,k _ _ (.inl rfl) e,c⟩
 | dK kvs=>obtain⟨z,y,vs,r,ob,es,ep,e,c⟩:=x;exact⟨z,y,vs,r,ob,es,ep,k _ _ (.inl rfl) e,c⟩
 | dT kvs=>
  obtain⟨z,y,xs,r,ob,es,ep,e,c⟩:=x;exact⟨z,y,xs,Paired.aaw r fun p q z=>⟨z.1,ht _ _ z.2.1,z.2.2⟩,ob,es,ep,k _ _ (.inl rfl) e,c⟩
 | set S n=>obtain⟨ob,es,ep,t,e,c⟩:=x;exact⟨ob,es,ep,t,k _ _ (.inl rfl) e,c⟩
 | ins C dx fs=>
  obtain⟨d,z,ne,e,mA,⟨od,es,ep,e2,c⟩,r⟩:=x;exact⟨ho _ d,z,ne,k _ _ (.inl rfl) e,mA,⟨od,es,ep,k _ _ (.inr d) e2,c⟩,r⟩
 | own y=>obtain⟨ob,e⟩:=x;exact⟨ob,k _ _ (.inl rfl) e⟩
 | xd fs=>obtain⟨mA,⟨od,es,ep,e,c⟩,r⟩:=x;exact⟨mA,⟨od,es,ep,k _ _ (.inl rfl) e,c⟩,r⟩
 | rng lo hi=>obtain⟨t,u,v,e⟩:=x;exact⟨t,u,v,k _ _ (.inl rfl) e⟩
 | frz ob u ih=>obtain⟨e,q⟩:=x;exact⟨k _ _ (.inl rfl) e,ih q⟩
 | tbl ps=>
  have e:h.get? a=some { cls:=.none,data:=.fields ps }:=x;show h'.get? a=some { cls:=.none,data:=.fields ps };exact k a _ (.inl rfl) e
 | met f y=>
  have e:h.get? a=some (PySem.W.methodObj (.ref f) (.ref y)):=x;show h'.get? a=some (PySem.W.methodObj (.ref f) (.ref y));exact k a _ (.inl rfl) e
 | ext φ=>obtain⟨p,⟨o,e⟩,st⟩:=x;exact⟨st _ _ p fun o q=>k _ _ (.inl rfl) q,⟨o,k _ _ (.inl rfl) e⟩,st⟩
theorem HOk.lt (x:HOk P w H h)(e:H a=some o):a<h.objs.size:=(x a o e).lt
theorem HOk.fresh (x:HOk P w H h)(e:h.objs.size<=a):H a=none:=by
 cases q:H a with
 | none=>rfl
 | some u=>exact absurd (Be (x.lt q) e) (DD _)
theorem HOk.kept (x:HOk P w H h)(k:∀b u,h.get? b=some u->h'.get? b=some u):HOk P w H h':=fun a o e=>
 (x a o e).stay (fun b u _ q=>k b u q) (fun _ q=>q) fun _ _ q=>q
theorem HOk.laid (x:HOk P w H h)(k:∀b u,h.get? b=some u->h'.get? b=some u)(hp:h.objs.size<=a)(new:cZ P w (upd H a o) h' a o):HOk P w (upd H a o) h':=fun b u e=>by
 have hn:=x.fresh hp;by_cases hb:b=a
 ·subst hb;rw[aq] at e;cases e;exact new
 rw[aJ hb] at e;exact(x b u e).stay (fun c v _ q=>k c v q) (fun c q=>by rw[aJ (aD q hn)];exact q) fun c xs q=>by rw[aJ (aD q hn)];exact q
end
noncomputable def Rd (H:Hp)(a:Addr)(u:HO):Prop:=H a=some u\/∃o,H a=some (.frz o u)
theorem Rd.ok {P:AR}{w:Bi}{H:Hp}{h:Heap}{a:Addr}{u:HO}(r:Rd H a u)(x:HOk P w H h):cZ P w H h a u:=by
 rcases r with r|⟨o,r⟩
 ·exact x a u r
 obtain⟨_,q⟩:=x a _ r;exact q
noncomputable def Mut:Option HO->Prop
 | some (.lst _)=>True
 | some (.dK _)=>True
 | some (.dT _)=>True
 | some (.set _ _)=>True
 | some (.ins _ _ _)=>True
 | some (.ext _)=>True
 | _=>False
section
variable {P:AR}{w:Bi}{H:Hp}{h h':Heap}{x e:Addr}{o':HO}
theorem HOk.write (ok:HOk P w H h)(mu:Mut (H x))(he:e=x\/H e=some (.own x))(k:∀b u,b≠e->h.get? b=some u->h'.get? b=some u)(heo:∃u,h'.get? e=some u)
  (new:cZ P w (upd H x o') h' x o'):HOk P w (upd H x o') h':=fun b u q=>by
 have nown:∀c y,H c=some (.own y)->c≠x:=fun c y r z=>by subst z;rw[r] at mu;exact mu
 have ntup:∀c xs,H c=some (.tup xs)->c≠x:=fun c xs r z=>by subst z;rw[r] at mu;exact mu
 by_cases hb:b=x
 ·subst hb;rw[aq] at q;cases q;exact new
 rw[aJ hb] at q;by_cases hbe:b=e
 ·have q':H b=some (.own x):=by
   rcases he with z|z
   ·exact absurd (hbe.trans z) hb
   rw[hbe];exact z
  rw[q] at q';cases q';obtain⟨v,hv⟩:=heo;exact⟨v,by rw[hbe];exact hv⟩
 refine(ok b u q).stay (fun c v hc r=>k c v ?_ r) (fun c r=>by rw[aJ (nown c b r)];exact r) fun c xs r=>by rw[aJ (ntup c xs r)];exact r
 rcases hc with rfl|hc
 ·exact hbe
 rintro rfl;rcases he with z|z
 ·exact nown c b hc z
 rw[hc] at z;cases z;exact hb rfl
end
structure Un (fs ex:List Addr)(H H':Hp)(h h':Heap):Prop where
 keep:∀b o,h.get? b=some o->H b=none->b∉fs->b∉ex->h'.get? b=some o
 slot:∀b o,h.get? b=some o->H b=none->b∈fs->b∉ex->∃sl,h'.get? b=some { o with slots:=sl }
 free:∀b o,h.get? b=some o->H b=none->b∉ex->H' b=none
 there:∀b o,h.get? b=some o->b∉ex->∃o',h'.get? b=some o'
 tups:∀b xs,H b=some (.tup xs)->H' b=some (.tup xs)
 frzs:∀b o u,H b=some (.frz o u)->H' b=some (.frz o u)
 tbls:∀b ps,H b=some (.tbl ps)->∃more,H' b=some (.tbl (ps++more))
section
variable {fs fs' ex ex':List Addr}{H H1 H2:Hp}{h h1 h2 h':Heap}{a x e:Addr}{o:HO}
theorem Un.any (u:Un fs ex H H1 h h1){b:Addr}{ob:Obj}(q:h.get? b=some ob)(n:H b=none)(hx:b∉ex):∃sl,h1.get? b=some { ob with slots:=sl }:=by
 by_cases hb:b∈fs
 ·exact u.slot b ob q n hb hx
 exact⟨ob.slots,u.keep b ob q n hb hx⟩
theorem Un.kept (k:∀b u,h.get? b=some u->h'.get? b=some u):Un fs ex H H h h':=
 ⟨fun b ob q _ _ _=>k b ob q,fun b ob q _ _ _=>⟨ob.slots,k b ob q⟩,fun _ _ _ n _=>n,fun b ob q _=>⟨ob,k b ob q⟩,fun _ _ q=>q,fun _ _ _ q=>q,fun _ ps q=>⟨#[],by rw[q];simp⟩⟩
theorem Un.refl:Un fs ex H H h h:=Un.kept fun _ _ q=>q
theorem Un.laid (k:∀b u,h.get? b=some u->h'.get? b=some u)(hp:h.objs.size<=a)(hn:H a=none):Un fs ex H (upd H a o) h h' where
 keep:=fun b u q _ _ _=>k b u q
 slot:=fun b u q _ _ _=>⟨u.slots,k b u q⟩
 free:=fun b u q n _=>by rw[aJ (B2 (Be (A4 q) hp))];exact n
 there:=fun b u q _=>⟨u,k b u q⟩
 tups:=fun b xs q=>by rw[aJ (aD q hn)];exact q
 frzs:=fun b u xs q=>by rw[aJ (aD q hn)];exact q
 tbls:=fun b ps q=>⟨#[],by rw[aJ (aD q hn),q];simp⟩
theorem Un.write (mu:Mut (H x))(he:e=x\/H e=some (.own x))(k:∀b u,b≠e->h.get? b=some u->h'.get? b=some u)(heo:∃u,h'.get? e=some u):Un fs ex H (upd H x o) h h':=by
 have hx:∀b,H b=none->b≠x:=fun b n z=>by subst z;rw[n] at mu;exact mu
 have hb:∀b,H b=none->b≠e:=fun b n z=>by
  subst z;rcases he with r|r
  ·exact hx b n r
  rw[n] at r;cases r
 have hm:∀b u,H b=some u->¬Mut (some u)->b≠x:=fun b u q nm z=>by subst z;rw[q] at mu;exact nm mu
 refine⟨fun b u q n _ _=>k b u (hb b n) q,fun b u q n _ _=>⟨u.slots,k b u (hb b n) q⟩,fun b u q n _=>by rw[aJ (hx b n)];exact n,fun b u q _=>?_,
  fun b xs q=>by rw[aJ (hm b _ q fun z=>z)];exact q,fun b u xs q=>by rw[aJ (hm b _ q fun z=>z)];exact q,fun b ps q=>⟨#[],by rw[aJ (hm b _ q fun z=>z),q];simp⟩⟩
 by_cases hbe:b=e
 ·subst hbe;exact heo
 exact⟨u,k b u hbe q⟩
end
noncomputable def trk (h:Heap)(H:Hp):List Addr:=(BO h.objs.size).filter fun a=>(H a).isSome
noncomputable def Ds (h:Heap)(H:Hp):Heap:=PySem.W.hideAll h (trk h H)
theorem Ov (h:Heap)(H:Hp):(Ds h H).objs.size=h.objs.size:=PySem.W.hideAll_size _ _
theorem Ur {h:Heap}{H:Hp}{b:Addr}{o:Obj}(e:h.get? b=some o)(n:H b=none):(Ds h H).get? b=some o:=
 PySem.W.hideAll_get _ e fun hm=>by
  have q:(H b).isSome=true:=(DB.mp hm).2;rw[n] at q;simp at q
theorem XD {h:Heap}{H:Hp}{b:Addr}{o:Obj}(e:(Ds h H).get? b=some o):h.get? b=some o/\H b=none:=by
 have e':h.get? b=some o:=PySem.W.of_hideAll (trk h H) e;refine⟨e',?_⟩;cases q:H b with
 | none=>rfl
 | some x=>
  have hm:b∈trk h H:=DB.mpr ⟨mem_range.mpr (A4 e'),by simp [q]⟩;have z:(Ds h H).get? b=none:=PySem.W.hideAll_none (trk h H) hm;rw[z] at e;cases e
structure Mod (K:AD)(mg:Str->Option Ap)(base:Heap):Prop where
 kin:K.In base
 glob:base.Ns AM mg
 blt:∃mb,base.Ns builtinsNs mb/\∀x:Str,x ≠ "__name__" -> mb x=D1 x
 nolimit:base.NoLimit
structure Cx where
 prog:AR
 w:Bi
 K:AD
 mg:Str->Option Ap
 base:Heap
 A:Bz
 N:List Str
 s₀:AB
 H₀:Hp
 env:Env
 outer:List Env
 stack:List Env
 ex:List Addr
 fn:Str->Bool
 calm:Bool
 pn:List (Addr×Obj)
 xe:Ap->AB->Prop
noncomputable def frs (l:List Env):List Addr:=l.filterMap (·.frame)
noncomputable abbrev Cx.fs (X:Cx):List Addr:=frs X.outer
noncomputable def Vis (sc:GG)(x:Str):Prop:=sc.names.lookup x=some .local\/sc.names.lookup x=some .cell\/sc.names.lookup x=some .free
noncomputable def Loc (sc:GG)(x:Str):Prop:=sc.names.lookup x=some .local\/sc.names.lookup x=some .cell
noncomputable def Look (env:Env)(h:Heap)(m:Str->Option Ap)(x:Str)(u:Ap):Prop:=
 (env.kindOf x=some .local/\m x=some u)\/((env.kindOf x=some .cell\/env.kindOf x=some .free)/\∃c,env.cells.lookup x=some c/\h.IsCell c (some u))
structure Cx.Ok (X:Cx):Prop where
 mod:Mod X.K X.mg X.base
 kind:X.env.scope.kind=.function
 glob:X.env.globals=AM
 blt:X.env.builtins=builtinsNs
 above:X.s₀.heap.objs.size<=X.env.locals
 inj:∀x y c,X.env.cells.lookup x=some c->X.env.cells.lookup y=some c->x=y
 has:∀x,(X.env.kindOf x=some .cell\/X.env.kindOf x=some .free)->∃c,X.env.cells.lookup x=some c
 cab:∀x c,X.fn x=true->X.env.cells.lookup x=some c->X.s₀.heap.objs.size<=c
 hd:X.calm=true->X.A.handled=none
 frames:X.A.frames=some X.stack
 stk:X.stack=X.outer\/(X.stack=X.env::X.outer/\X.env.frame=some X.env.locals)
 exf:∀b∈X.ex,b≠X.env.locals/\∀x c,X.env.cells.lookup x=some c->c≠b
 bs:∀b o,X.base.get? b=some o->X.s₀.heap.get? b=some o/\X.H₀ b=none
 bsz:X.base.objs.size<=X.s₀.heap.objs.size
 noex:∀b o,X.base.get? b=some o->b∉X.ex
 exfs:∀b∈X.ex,b∉X.fs
 wk:X.s₀.heap.FunFrames X.base X.outer
 frf:∀b∈X.fs,X.H₀ b=none
structure Inv (X:Cx)(pins:List (Addr×Obj))(σ:List (Option V))(H:Hp)(s:AB):Prop where
 ok:X.Ok
 os:s.os=X.s₀.os
 bare:IR s.gens
 base:Un X.fs X.ex X.H₀ H X.s₀.heap s.heap
 loc:∃m,s.heap.Ns X.env.locals m/\∀(i:Nat)(x:Str)(v:V),X.N[i]?=some x->σ[i]?=some (some v)->Vis X.env.scope x->∃u,RelV v u/\Look X.env s.heap m x u
 cell:∀x c,X.env.cells.lookup x=some c->∃v,s.heap.IsCell c v
 free:H X.env.locals=none
 freeC:∀x c,X.env.cells.lookup x=some c->H c=none
 pin:∀p∈X.pn++pins,s.heap.get? p.1=some p.2/\H p.1=none/\p.1≠X.env.locals/\p.1∉X.fs/\∀v,p.2.data≠.cell v
 hok:HOk X.prog X.w H s.heap
 len:σ.length=X.N.length
section
variable {X:Cx}{pins:List (Addr×Obj)}{σ:List (Option V)}{H H':Hp}{s:AB}{h':Heap}
theorem Cx.Ok.ab1 (ok:X.Ok){b:Addr}{o:Obj}(e:X.base.get? b=some o):b∉X.fs:=fun hb=>by
 have:=(ok.wk.mem hb).1;rw[e] at this;cases this
theorem Inv.bs (I:Inv X pins σ H s):∀b o,X.base.get? b=some o->s.heap.get? b=some o/\H b=none:=fun b o e=>
 ⟨I.base.keep b o (I.ok.bs b o e).1 (I.ok.bs b o e).2 (I.ok.ab1 e) (I.ok.noex b o e),I.base.free b o (I.ok.bs b o e).1 (I.ok.bs b o e).2 (I.ok.noex b o e)⟩
theorem Inv.bk (I:Inv X pins σ H s):∀b o,X.base.get? b=some o->s.heap.get? b=some o:=fun b o e=>(I.bs b o e).1
theorem Inv.mod (I:Inv X pins σ H s):Mod X.K X.mg X.base:=I.ok.mod
theorem Inv.kIn (I:Inv X pins σ H s):X.K.In s.heap:=I.ok.mod.kin.keeps I.bk
theorem Inv.lt (I:Inv X pins σ H s):X.env.locals<s.heap.objs.size:=let ⟨_,hn,_⟩:=I.loc;hn.lt
theorem Inv.sz (I:Inv X pins σ H s):X.s₀.heap.objs.size<=s.heap.objs.size:=BG I.ok.above (JY I.lt)
theorem Inv.XF (I:Inv X pins σ H s){a:Addr}(h:s.heap.objs.size<=a):a∉X.fs:=fun hb=>by
 obtain⟨_,o,ho,_⟩:=I.ok.wk.mem hb;exact absurd (Be (A4 ho) (BG I.sz h)) (DD _)
theorem Inv.cne (I:Inv X pins σ H s):∀x c,X.env.cells.lookup x=some c->c≠X.env.locals:=fun x c e z=>by
 obtain⟨v,o,ho,hd⟩:=I.cell x c e;obtain⟨m,⟨o',es,ep,ho',hd',_⟩,_⟩:=I.loc;rw[z,ho'] at ho;cases ho;rw[hd'] at hd;cases hd
theorem Inv.wk (I:Inv X pins σ H s):s.heap.FunFrames X.base X.outer:=by
 have all:∀(l:List Env),(∀b∈frs l,b∈X.fs)->X.s₀.heap.FunFrames X.base l->s.heap.FunFrames X.base l:=by
  intro l
  induction l with
  | nil=>intro _ _;trivial
  | cons env r ih=>
   intro hs hl;obtain⟨hk,⟨L,o,hf,hn,ho,hd⟩,hr⟩:=hl;have hL:L∈X.fs:=hs L (by unfold frs;rw[KP,hf];exact A0);obtain⟨sl,e⟩:=I.base.slot L o ho (I.ok.frf L hL) hL fun z=>I.ok.exfs L z hL;exact⟨hk,⟨L,_,hf,hn,e,hd⟩,ih (fun b hb=>hs b (by unfold frs;rw[KP,hf];exact B1 _ hb)) hr⟩
 exact all X.outer (fun _ hb=>hb) I.ok.wk
theorem Inv.stack (I:Inv X pins σ H s):s.heap.FunFrames X.base X.stack:=by
 rcases I.ok.stk with e|⟨e,hf⟩
 ·rw[e];exact I.wk
 rw[e];obtain⟨m,hn,_⟩:=I.loc;refine .cons (by rw[I.ok.kind];decide) hf hn ?_ I.wk;exact Heap.get?_none_of_le (BG I.ok.bsz I.ok.above)
theorem Inv.uq (I:Inv X pins σ H s):∀b∈frs X.stack,b∈X.env.locals::X.fs:=fun b hb=>by
 rcases I.ok.stk with e|⟨e,hf⟩
 ·rw[e] at hb;exact B1 _ hb
 rw[e] at hb;unfold frs at hb;rw[KP,hf] at hb;exact hb
theorem Inv.Kq (I:Inv X pins σ H s):∀b∈frs X.stack,H b=none:=fun b hb=>by
 rcases A5.mp (I.uq b hb) with e|hb
 ·rw[e];exact I.free
 obtain⟨_,o,ho,_⟩:=I.ok.wk.mem hb;exact I.base.free b o ho (I.ok.frf b hb) fun z=>I.ok.exfs b z hb
theorem Inv.step {g':Array GenState}{t':Nat}{d':Drawn}{ch:List Addr}(I:Inv X pins σ H s)
  (hch:∀b∈ch,(b∈X.ex\/X.s₀.heap.objs.size<=b)/\b≠X.env.locals/\(∀x c,X.env.cells.lookup x=some c->c≠b)/\∀p∈X.pn++pins,p.1≠b)
  (keep:∀b o,b≠X.env.locals->b∉X.fs->b∉ch->s.heap.get? b=some o->H b=none->h'.get? b=some o)
  (slot:∀b o,b≠X.env.locals->b∈X.fs->b∉ch->s.heap.get? b=some o->H b=none->∃sl,h'.get? b=some { o with slots:=sl }) (free:∀b o,b∉ch->s.heap.get? b=some o->H b=none->H' b=none)
  (there:∀b o,b∉ch->s.heap.get? b=some o->∃o',h'.get? b=some o')
  (tups:∀b xs,H b=some (.tup xs)->H' b=some (.tup xs)) (frzs:∀b o u,H b=some (.frz o u)->H' b=some (.frz o u)) (tbls:∀b ps,H b=some (.tbl ps)->∃more,H' b=some (.tbl (ps++more)))
  (ns:∀m,s.heap.Ns X.env.locals m->h'.Ns X.env.locals m) (hok:HOk X.prog X.w H' h') (hg:IR g') :
  Inv X pins σ H' { s with heap:=h',gens:=g',drawn:=d',toks:=t' }:=by
 have neL:∀b o,X.s₀.heap.get? b=some o->b≠X.env.locals:=fun b o e=>B2 (Be (A4 e) I.ok.above);have neC:∀b o,X.s₀.heap.get? b=some o->b∉X.ex->b∉ch:=fun b o e hx hb=>by
  rcases(hch b hb).1 with z|z
  ·exact hx z
  exact absurd (Be (A4 e) z) (DD _)
 have cellK:∀x c,X.env.cells.lookup x=some c->∀v,s.heap.IsCell c v->h'.IsCell c v:=fun x c e v ⟨o,ho,hd⟩=>by
  have nch:c∉ch:=fun z=>(hch c z).2.2.1 x c e rfl;by_cases hc:c∈X.fs
  ·obtain⟨sl,q⟩:=slot c o (I.cne x c e) hc nch ho (I.freeC x c e);exact⟨_,q,hd⟩
  exact⟨o,keep c o (I.cne x c e) hc nch ho (I.freeC x c e),hd⟩
 refine⟨I.ok,I.os,hg,⟨fun b o e n hb hx=>?_,fun b o e n hb hx=>?_,fun b o e n hx=>?_,fun b o e hx=>?_,fun b xs e=>tups b xs (I.base.tups b xs e),fun b o xs e=>frzs b o xs (I.base.frzs b o xs e),fun b ps e=>?_⟩,?_,fun x c e=>?_,?_,fun x c e=>?_,fun p hp=>?_,hok,I.len⟩
 ·exact keep b o (neL b o e) hb (neC b o e hx) (I.base.keep b o e n hb hx) (I.base.free b o e n hx)
 ·obtain⟨sl,e1⟩:=I.base.slot b o e n hb hx;obtain⟨sl',e2⟩:=slot b _ (neL b o e) hb (neC b o e hx) e1 (I.base.free b o e n hx);exact⟨sl',e2⟩
 ·obtain⟨o',e1⟩:=I.base.there b o e hx;exact free b o' (neC b o e hx) e1 (I.base.free b o e n hx)
 ·obtain⟨o',e1⟩:=I.base.there b o e hx;exact there b o' (neC b o e hx) e1
 ·obtain⟨m1,e1⟩:=I.base.tbls b ps e;obtain⟨m2,e2⟩:=tbls b _ e1;exact⟨m1++m2,by rw[e2,Array.append_assoc]⟩
 ·obtain⟨m,hn,hl⟩:=I.loc;refine⟨m,ns m hn,fun i x v e1 e2 e3=>?_⟩;obtain⟨u,r,l⟩:=hl i x v e1 e2 e3;refine⟨u,r,?_⟩;rcases l with l|⟨k,c,e,z⟩
  ·exact .inl l
  exact .inr ⟨k,c,e,cellK x c e _ z⟩
 ·obtain⟨v,z⟩:=I.cell x c e;exact⟨v,cellK x c e v z⟩
 ·obtain⟨m,⟨o,_,_,ho,_⟩,_⟩:=I.loc;exact free _ o (fun z=>(hch _ z).2.1 rfl) ho I.free
 ·obtain⟨v,o,ho,hd⟩:=I.cell x c e;exact free c o (fun z=>(hch c z).2.2.1 x c e rfl) ho (I.freeC x c e)
 obtain⟨e,n,ne,nf,d⟩:=I.pin p hp;have nch:p.1∉ch:=fun z=>(hch p.1 z).2.2.2 p hp rfl;exact⟨keep p.1 p.2 ne nf nch e n,free p.1 p.2 nch e n,ne,nf,d⟩
theorem Inv.un {t':Nat}(I:Inv X pins σ H s)(u:Un X.fs [] H H' s.heap h')(hok:HOk X.prog X.w H' h'):Inv X pins σ H' { s with heap:=h',toks:=t' }:=by
 obtain⟨m,⟨o,es,ep,ho,r⟩,_⟩:=id I.loc;obtain⟨sl,hL⟩:=u.any ho I.free (by simp);exact I.step (g':=s.gens) (d':=s.drawn) (ch:=[]) (fun _ z=>nomatch z) (fun b o _ hb _ e n=>u.keep b o e n hb (by simp)) (fun b o _ hb _ e n=>u.slot b o e n hb (by simp)) (fun b o _ e n=>u.free b o e n (by simp)) (fun b o _ e=>u.there b o e (by simp)) u.tups u.frzs u.tbls (fun m' hm=>by
  obtain⟨o',es',ep',ho',r'⟩:=hm;rw[ho] at ho';cases ho';exact⟨_,es',ep',hL,r'⟩) hok I.bare
theorem Inv.call {g':Array GenState}{t':Nat}{d':Drawn}{ch:List Addr}(I:Inv X pins σ H s)(u:Un (frs X.stack) ch H H' s.heap h')(hok:HOk X.prog X.w H' h')(hg:IR g')
  (hch:∀b∈ch,(b∈X.ex\/X.s₀.heap.objs.size<=b)/\b≠X.env.locals/\(∀x c,X.env.cells.lookup x=some c->c≠b)/\∀p∈X.pn++pins,p.1≠b) :
  Inv X pins σ H' { s with heap:=h',gens:=g',drawn:=d',toks:=t' }:=by
 obtain⟨m,⟨o,es,ep,ho,r⟩,_⟩:=id I.loc;obtain⟨sl,hL⟩:=u.any ho I.free fun z=>(hch _ z).2.1 rfl;exact I.step (ch:=ch) hch (fun b o hL hb hc e n=>u.keep b o e n (fun z=>(A5.mp (I.uq b z)).elim hL hb) hc) (fun b o _ _ hc e n=>u.any e n hc) (fun b o hc e n=>u.free b o e n hc) (fun b o hc e=>u.there b o e hc) u.tups u.frzs u.tbls (fun m' hm=>by
  obtain⟨o',es',ep',ho',r'⟩:=hm;rw[ho] at ho';cases ho';exact⟨_,es',ep',hL,r'⟩) hok hg
theorem Inv.turned {t':Nat}{it:Addr}(I:Inv X pins σ H s)(k:∀b o,b≠it->s.heap.get? b=some o->h'.get? b=some o)(hn:H it=none)(hL:it≠X.env.locals)
  (h1:it∈X.ex\/X.s₀.heap.objs.size<=it) (h2:∀x c,X.env.cells.lookup x=some c->c≠it) (h3:∀p∈X.pn++pins,p.1≠it):Inv X pins σ H { s with heap:=h',toks:=t' }:=by
 have nit:∀b u,H b=some u->b≠it:=fun b u e z=>by rw[z,hn] at e;cases e
 refine I.step (g':=s.gens) (d':=s.drawn) (ch:=[it]) (fun b hb=>?_) (fun b o _ _ hc e _=>k b o (fun z=>hc (by simp [z])) e) (fun b o _ _ hc e _=>⟨o.slots,k b o (fun z=>hc (by simp [z])) e⟩) (fun _ _ _ _ n=>n)
  (fun b o hc e=>⟨o,k b o (fun z=>hc (by simp [z])) e⟩) (fun _ _ e=>e) (fun _ _ _ e=>e) (fun b ps e=>⟨#[],by rw[e];simp⟩) (fun m hm=>?_) (fun b u e=>?_) I.bare
 ·have e:b=it:=by simpa using hb
  subst e;exact⟨h1,hL,h2,h3⟩
 ·obtain⟨o,es,ep,ho,r⟩:=hm;exact⟨o,es,ep,k _ o (BA hL) ho,r⟩
 refine(I.hok b u e).stay (fun c v hc q=>k c v ?_ q) (fun _ q=>q) fun _ _ q=>q;rcases hc with z|z
 ·rw[z];exact nit b u e
 exact nit c _ z
theorem Inv.tok (I:Inv X pins σ H s)(t:Nat):Inv X pins σ H { s with toks:=t }:=I.un (h':=s.heap) (t':=t) Un.refl I.hok
theorem Inv.kept {t':Nat}(I:Inv X pins σ H s)(k:∀b u,s.heap.get? b=some u->h'.get? b=some u):Inv X pins σ H { s with heap:=h',toks:=t' }:=I.un (Un.kept k) (I.hok.kept k)
theorem Inv.laid {a:Addr}{o:HO}{t':Nat}(I:Inv X pins σ H s)(k:∀b u,s.heap.get? b=some u->h'.get? b=some u)(hp:s.heap.objs.size<=a)(new:cZ X.prog X.w (upd H a o) h' a o) :
  Inv X pins σ (upd H a o) { s with heap:=h',toks:=t' }:=I.un (Un.laid k hp (I.hok.fresh hp)) (I.hok.laid k hp new)
theorem Inv.write {x e:Addr}{o:HO}{t':Nat}(I:Inv X pins σ H s)(mu:Mut (H x))(he:e=x\/H e=some (.own x))(k:∀b u,b≠e->s.heap.get? b=some u->h'.get? b=some u)(heo:∃u,h'.get? e=some u)
  (new:cZ X.prog X.w (upd H x o) h' x o):Inv X pins σ (upd H x o) { s with heap:=h',toks:=t' }:=I.un (Un.write mu he k heo) (I.hok.write mu he k heo new)
theorem Inv.lE {pins':List (Addr×Obj)}(I:Inv X pins σ H s)(h:∀p∈pins',s.heap.get? p.1=some p.2/\H p.1=none/\p.1≠X.env.locals/\p.1∉X.fs/\∀v,p.2.data≠.cell v):Inv X pins' σ H s:=
 ⟨I.ok,I.os,I.bare,I.base,I.loc,I.cell,I.free,I.freeC,fun p hp=>(CI.mp hp).elim (fun z=>I.pin p (G2 _ z)) (h p),I.hok,I.len⟩
theorem FQ {N:List Str}(hN:N.Nodup){i j:Nat}{x:Str}(a:N[i]?=some x)(b:N[j]?=some x):i=j:=by
 obtain⟨h1,e1⟩:=AO.mp a;obtain⟨h2,e2⟩:=AO.mp b;exact(List.getElem_inj hN).mp (e1.trans e2.symm)
theorem uo {M:Model}{A:Bz}{E:Ap->AB->Prop}{i:Nat}{x:Str}{v:V}{u:Ap}{Q:Unit->AB->Prop}(I:Inv X pins σ H s)(hN:X.N.Nodup)(hi:X.N[i]?=some x)(hx:Loc X.env.scope x)(r:RelV v u)
  (h:∀s',Inv X pins (σ.set i (some v)) H s'->(∃a,B5 a s.heap s'.heap/\(a=X.env.locals\/X.env.cells.lookup x=some a))->Q () s') (hf:X.fn x=true\/X.env.scope.names.lookup x=some .local:=by first|exact .inl rfl|exact .inr rfl|assumption):AG M A (storeName X.env x u) Q E s:=by
 obtain⟨m,hn,hl⟩:=id I.loc;have hcls:(X.env.scope.kind == .class||(X.env.scope.kind == .module&&X.env.locals != X.env.globals))=false:=by rw[I.ok.kind];rfl
 have hiσ:i<σ.length:=by rw[I.len];exact(AO.mp hi).1
 have cne:=I.cne;have tracked:∀{a:Addr}{h':Heap},(∃o,s.heap.get? a=some o/\H a=none)->B5 a s.heap h'->HOk X.prog X.w H h':=fun {a h'} ha hs b ob e=>by
  obtain⟨_,_,hfree⟩:=ha;refine(I.hok b ob e).stay (fun c w' hc q=>(hs.2 c ?_).trans q) (fun _ q=>q) fun _ _ q=>q;rintro rfl;rcases hc with rfl|hc
  ·rw[hfree] at e;cases e
  rw[hfree] at hc;cases hc
 rcases hx with hk|hk
 ·refine wpAny_storeName_local hk hn (fun h' hn' hs=>?_) hcls;obtain⟨oL,_,_,hoL,_⟩:=id hn;refine h _ ⟨I.ok,I.os,I.bare,⟨fun b o e n hb hx=>?_,fun b o e n hb hx=>?_,I.base.free,fun b o e hx=>?_,I.base.tups,I.base.frzs,I.base.tbls⟩,⟨_,hn',fun j y v' e1 e2 e3=>?_⟩,fun y c e=>?_,I.free,I.freeC,fun p hp=>?_,tracked ⟨oL,hoL,I.free⟩ hs,by simpa using I.len⟩ ⟨_,hs,.inl rfl⟩
  ·exact(hs.2 b (B2 (Be (A4 e) I.ok.above))).trans (I.base.keep b o e n hb hx)
  ·obtain⟨sl,e1⟩:=I.base.slot b o e n hb hx;exact⟨sl,(hs.2 b (B2 (Be (A4 e) I.ok.above))).trans e1⟩
  ·obtain⟨o',e1⟩:=I.base.there b o e hx;exact⟨o',(hs.2 b (B2 (Be (A4 e) I.ok.above))).trans e1⟩
  ·by_cases hj:j=i
   ·subst hj;rw[hi] at e1;cases e1;rw[List.getElem?_set_self hiσ] at e2;cases e2;exact⟨u,r,.inl ⟨hk,by simp⟩⟩
   rw[List.getElem?_set_ne (BA hj)] at e2;obtain⟨u',r',q⟩:=hl j y v' e1 e2 e3;refine⟨u',r',?_⟩;rcases q with⟨k,e⟩|⟨k,c,e,z⟩
   ·refine .inl ⟨k,?_⟩;have:y≠x:=fun e=>hj (FQ hN e1 (e ▸ hi));simp [this,e]
   exact .inr ⟨k,c,e,z.sameBut hs (cne y c e)⟩
  ·obtain⟨w',z⟩:=I.cell y c e;exact⟨w',z.sameBut hs (cne y c e)⟩
  obtain⟨e,n,ne,nf,d⟩:=I.pin p hp;exact⟨(hs.2 p.1 ne).trans e,n,ne,nf,d⟩
 have hfn:X.fn x=true:=by
  rcases hf with z|z
  ·exact z
  rw[z] at hk;cases hk
 obtain⟨c,hc⟩:=I.ok.has x (.inl hk);obtain⟨w',z⟩:=I.cell x c hc;refine wpAny_storeName_cell I.ok.kind hk hc z (fun h' hc' hs=>?_);obtain⟨oc,hoc,hocd⟩:=id z;refine h { s with heap:=h' } ⟨I.ok,I.os,I.bare,⟨fun b o e n hb hx=>?_,fun b o e n hb hx=>?_,I.base.free,fun b o e hx=>?_,I.base.tups,I.base.frzs,I.base.tbls⟩,⟨m,hn.sameBut hs (BA (cne x c hc)),fun j y v' e1 e2 e3=>?_⟩,fun y c' e=>?_,I.free,I.freeC,fun p hp=>?_,tracked ⟨oc,hoc,I.freeC x c hc⟩ hs,by simpa using I.len⟩ ⟨c,hs,.inr hc⟩
 ·exact(hs.2 b (B2 (Be (A4 e) (I.ok.cab x c hfn hc)))).trans (I.base.keep b o e n hb hx)
 ·obtain⟨sl,e1⟩:=I.base.slot b o e n hb hx;exact⟨sl,(hs.2 b (B2 (Be (A4 e) (I.ok.cab x c hfn hc)))).trans e1⟩
 ·obtain⟨o',e1⟩:=I.base.there b o e hx;exact⟨o',(hs.2 b (B2 (Be (A4 e) (I.ok.cab x c hfn hc)))).trans e1⟩
 ·by_cases hj:j=i
  ·subst hj;rw[hi] at e1;cases e1;rw[List.getElem?_set_self hiσ] at e2;cases e2;exact⟨u,r,.inr ⟨.inl hk,c,hc,hc'⟩⟩
  rw[List.getElem?_set_ne (BA hj)] at e2;obtain⟨u',r',q⟩:=hl j y v' e1 e2 e3;refine⟨u',r',?_⟩;rcases q with q|⟨k,c',e,z'⟩
  ·exact .inl q
  refine .inr ⟨k,c',e,z'.sameBut hs ?_⟩;rintro rfl;exact hj (FQ hN e1 (I.ok.inj _ _ _ e hc ▸ hi))
 ·by_cases hcc:c'=c
  ·subst hcc;exact⟨_,hc'⟩
  obtain⟨w2,z2⟩:=I.cell y c' e;exact⟨w2,z2.sameBut hs hcc⟩
 obtain⟨e,n,ne,nf,d⟩:=I.pin p hp;refine⟨(hs.2 p.1 ?_).trans e,n,ne,nf,d⟩;intro q;rw[q,hoc] at e;have q':oc=p.2:=BN e;exact d w' (by rw[<- q'];exact hocd)
theorem jV {M:Model}{A:Bz}{E:Ap->AB->Prop}{i:Nat}{x:Str}{v:V}{u:Ap}{Q:Unit->AB->Prop}(I:Inv X pins σ H s)(hN:X.N.Nodup)(hi:X.N[i]?=some x)(hx:Loc X.env.scope x)(r:RelV v u)
  (h:∀s',Inv X pins (σ.set i (some v)) H s'->Q () s') (hf:X.fn x=true\/X.env.scope.names.lookup x=some .local:=by first|exact .inl rfl|exact .inr rfl|assumption):AG M A (storeName X.env x u) Q E s:=
 uo I hN hi hx r (fun s' I' _=>h s' I') hf
theorem Inv.call' {s':AB}{ch:List Addr}(I:Inv X pins σ H s)(ho:s'.os=s.os)(u:Un (frs X.stack) ch H H' s.heap s'.heap)(hok:HOk X.prog X.w H' s'.heap)(hg:IR s'.gens)
  (hch:∀b∈ch,(b∈X.ex\/X.s₀.heap.objs.size<=b)/\b≠X.env.locals/\(∀x c,X.env.cells.lookup x=some c->c≠b)/\∀p∈X.pn++pins,p.1≠b):Inv X pins σ H' s':=by
 obtain⟨h',g',d',t',o'⟩:=s';have e:o'=s.os:=ho;subst e;exact I.call (g':=g') (t':=t') (d':=d') u hok hg hch
end
noncomputable abbrev XK:=Ap->Option Addr->Hp->Prop
noncomputable abbrev St:=List (Option V)
noncomputable abbrev VK:=V->Hp->Prop
noncomputable abbrev TE:=St->Hp->VK->Prop
noncomputable abbrev TT:=St->Hp->(Bool->Hp->Prop)->Prop
noncomputable abbrev TA:=St->Hp->(List V->Hp->Prop)->Prop
structure Ends where
 nx:St->Hp->Prop
 rt:VK
 bk:St->Hp->Prop:=fun _ _=>False
 ct:St->Hp->Prop:=fun _ _=>False
noncomputable abbrev TS:=Ends->St->Hp->Prop
noncomputable def EP (X:Cx)(pins:List (Addr×Obj))(σ:St)(Q:VK)(u:Ap)(s':AB):Prop:=∃v H',Inv X pins σ H' s'/\RelV v u/\Q v H'
noncomputable def TP (X:Cx)(pins:List (Addr×Obj))(σ:St)(Q:Bool->Hp->Prop)(b:Bool)(s':AB):Prop:=∃H',Inv X pins σ H' s'/\Q b H'
noncomputable def AP (X:Cx)(pins:List (Addr×Obj))(σ:St)(Q:List V->Hp->Prop)(us:List Ap)(s':AB):Prop:=∃vs H',Inv X pins σ H' s'/\Vals vs us/\Q vs H'
noncomputable def SP (X:Cx)(pins:List (Addr×Obj))(D:Ends)(f:Flow)(s':AB):Prop:=
 match f with
 | .next=>∃σ' H',Inv X pins σ' H' s'/\D.nx σ' H'
 | .brk=>∃σ' H',Inv X pins σ' H' s'/\D.bk σ' H'
 | .cont=>∃σ' H',Inv X pins σ' H' s'/\D.ct σ' H'
 | .ret u=>∃v σ' H',Inv X pins σ' H' s'/\RelV v u/\D.rt v H'
noncomputable def PE (X:Cx)(e:Expr)(t:TE):Prop:=
 ∀(pins:List (Addr×Obj)) (s:AB) (σ:St) (H:Hp) (Q:VK),Inv X pins σ H s->t σ H Q->AG (AW X.prog X.w) X.A (eval e X.env) (EP X pins σ Q) X.xe s
noncomputable def PT (X:Cx)(e:Expr)(t:TT):Prop:=
 ∀(pins:List (Addr×Obj)) (s:AB) (σ:St) (H:Hp) (Q:Bool->Hp->Prop),Inv X pins σ H s->t σ H Q->AG (AW X.prog X.w) X.A (isTrue e X.env (eval e X.env)) (TP X pins σ Q) X.xe s
noncomputable def PW (X:Cx)(e:Expr)(t:TT):Prop:=
 ∀(whole:Sem Ap)(pins:List (Addr×Obj)) (s:AB) (σ:St) (H:Hp) (Q:Bool->Hp->Prop),Inv X pins σ H s->t σ H Q->AG (AW X.prog X.w) X.A (isTrue e X.env whole) (TP X pins σ Q) X.xe s
theorem PW.pt {X:Cx}{e:Expr}{t:TT}(h:PW X e t):PT X e t:=h _
noncomputable def PA (X:Cx)(es:List Expr)(t:TA):Prop:=
 ∀(pos:Pos)(pins:List (Addr×Obj)) (s:AB) (σ:St) (H:Hp) (Q:List V->Hp->Prop),Inv X pins σ H s->t σ H Q->AG (AW X.prog X.w) X.A (spliced (CU pos (AJ es X.env))) (AP X pins σ Q) X.xe s
noncomputable def PS (X:Cx)(st:Stmt)(t:TS):Prop:=
 ∀(pins:List (Addr×Obj)) (s:AB) (σ:St) (H:Hp) (D:Ends),Inv X pins σ H s->t D σ H->AG (AW X.prog X.w) X.A (exec st X.env) (SP X pins D) X.xe s
noncomputable def PSs (X:Cx)(st:List Stmt)(t:TS):Prop:=
 ∀(pins:List (Addr×Obj)) (s:AB) (σ:St) (H:Hp) (D:Ends),Inv X pins σ H s->t D σ H->AG (AW X.prog X.w) X.A (execs st X.env) (SP X pins D) X.xe s
theorem thn {α:Type}{t:Sem α}{Q Q':α->AB->Prop}{M:Model}{A:Bz}{E:Ap->AB->Prop}{s:AB}(h:AG M A t Q E s)(hQ:∀a s,Q a s->Q' a s):AG M A t Q' E s:=CA h hQ fun _ _ x=>x
theorem thE {t:Sem Ap}{X:Cx}{pins:List (Addr×Obj)}{σ:St}{Q:VK}{Q':Ap->AB->Prop}{M:Model}{A:Bz}{E:Ap->AB->Prop}{s:AB}(h:AG M A t (EP X pins σ Q) E s)(hQ:∀u s x H,Inv X pins σ H s->RelV x u->Q x H->Q' u s):AG M A t Q' E s:=thn h fun u s z=>by
 obtain⟨x,H,I,r,q⟩:=z;exact hQ u s x H I r q
theorem thA {t:Sem (List Ap)}{X:Cx}{pins:List (Addr×Obj)}{σ:St}{Q:List V->Hp->Prop}{Q':List Ap->AB->Prop}{M:Model}{A:Bz}{E:Ap->AB->Prop}{s:AB}(h:AG M A t (AP X pins σ Q) E s)(hQ:∀u s x H,Inv X pins σ H s->Vals x u->Q x H->Q' u s):AG M A t Q' E s:=thn h fun u s z=>by
 obtain⟨x,H,I,r,q⟩:=z;exact hQ u s x H I r q
theorem thT {t:Sem Bool}{X:Cx}{pins:List (Addr×Obj)}{σ:St}{Q:Bool->Hp->Prop}{Q':Bool->AB->Prop}{M:Model}{A:Bz}{E:Ap->AB->Prop}{s:AB}(h:AG M A t (TP X pins σ Q) E s)(hQ:∀u s H,Inv X pins σ H s->Q u H->Q' u s):AG M A t Q' E s:=thn h fun u s z=>by
 obtain⟨H,I,q⟩:=z;exact hQ u s H I q
section
variable {X:Cx}
noncomputable def Qo (i:Nat):TE:=fun σ H Q=>∃v,σ[i]?=some (some v)/\Q v H
noncomputable def tC (v:V):TE:=fun _ H Q=>Q v H
theorem R8 {i:Nat}{x:Str}{pos:Pos}(hN:X.N[i]?=some x) (hv:Vis X.env.scope x) (hd:(x == ("__debug__" : Str))=false:=by decide) (hcd:(x == ("__classdict__" : Str))=false:=by decide):PE X (.Name x pos) (Qo i):=by
 intro pins s σ H Q I h;obtain⟨v,e,h⟩:=h;obtain⟨m,hn,hl⟩:=I.loc;obtain⟨u,r,l⟩:=hl i x v hN e hv;have fin:EP X pins σ Q u s:=⟨v,H,I,r,h⟩;rcases l with⟨hk,hm⟩|⟨hk,c,hc,hcell⟩
 ·exact wpAny_Name (wpAny_loadName_local I.ok.kind hk hn hm fin) hd
 rcases hk with hk|hk
 ·exact wpAny_Name (wpAny_loadName_cell I.ok.kind hk hc hcell fin) hd
 exact wpAny_Name (wpAny_loadName_free I.ok.kind hk hc hcell fin hcd) hd
theorem Z8 {i j pos}:PE X (.Constant (.int i) j pos) (tC (.int i)):=fun _ _ _ H _ I h=>wpAny_Constant_int ⟨.int i,H,I.tok _,⟨_,rfl⟩,h⟩
theorem abt {b j pos}:PE X (.Constant (.bool b) j pos) (tC (.bl b)):=fun _ _ _ H _ I h=>Constant_bool ⟨.bl b,H,I,rfl,h⟩
theorem Z6 {j pos}:PE X (.Constant .none j pos) (tC .non):=fun _ _ _ H _ I h=>Constant_none ⟨.non,H,I,rfl,h⟩
theorem Z2 {x j pos}:PE X (.Constant (.str x) j pos) (tC (.str x)):=fun _ _ _ H _ I h=>Calls.Constant_str ⟨.str x,H,I.tok _,⟨_,rfl⟩,h⟩
noncomputable def Gl (X:Cx)(x:Str):Prop:=X.env.kindOf x=some .globalImplicit
theorem Lw {E:Ap->AB->Prop}{pins:List (Addr×Obj)}{s:AB}{σ:St}{H:Hp}{x:Str}{u:Ap}{pos:Pos}{Q:Ap->AB->Prop}(I:Inv X pins σ H s)(hg:Gl X x)(hm:X.mg x=some u)(h:Q u s)
  (hd:(x == ("__debug__" : Str))=false:=by decide):AG (AW X.prog X.w) X.A (eval (.Name x pos) X.env) Q E s:=
 Calls.Name_function_global I.ok.kind hg (Calls.loadGlobal_global (by rw[I.ok.glob];exact I.mod.glob.keeps I.bk) hm h) hd
theorem iG {E:Ap->AB->Prop}{pins:List (Addr×Obj)}{s:AB}{σ:St}{H:Hp}{x:Str}{u:Ap}{pos:Pos}{Q:Ap->AB->Prop}(I:Inv X pins σ H s)(hg:Gl X x)(hm:X.mg x=none)(hv:D1 x=some u)(h:Q u s)
  (hn:x ≠ "__name__" := by decide) (hd:(x == ("__debug__" : Str))=false:=by decide):AG (AW X.prog X.w) X.A (eval (.Name x pos) X.env) Q E s:=by
 obtain⟨mb,h1,h2⟩:=I.mod.blt;exact Calls.Name_function_global I.ok.kind hg (Calls.loadGlobal_builtin (by rw[I.ok.glob];exact I.mod.glob.keeps I.bk) hm (by rw[I.ok.blt];exact h1.keeps I.bk) ((h2 x hn).trans hv) h) hd
theorem Xa {x:Str}{v:V}{u:Ap}{pos:Pos}(hg:Gl X x) (hm:X.mg x=some u) (r:RelV v u) (hd:(x == ("__debug__" : Str))=false:=by decide):PE X (.Name x pos) (tC v):=
 fun _ _ _ H _ I h=>Lw I hg hm ⟨v,H,I,r,h⟩ hd
theorem Xk {x:Str}{v:V}{u:Ap}{pos:Pos}(hg:Gl X x) (hm:X.mg x=none) (hv:D1 x=some u) (r:RelV v u) (hn:x ≠ "__name__" := by decide) (hd:(x == ("__debug__" : Str))=false:=by decide):PE X (.Name x pos) (tC v):=
 fun _ _ _ H _ I h=>iG I hg hm hv ⟨v,H,I,r,h⟩ hn hd
variable {a b:Expr}{ta tb:TE}{pos:Pos}
noncomputable def tB (t:TE):TT:=fun σ H Q=>t σ H fun x H1=>∃c,x=.bl c/\Q c H1
theorem ZJ {e:Expr}{t:TE}(h:PE X e t)(he:∀whole,isTrue e X.env whole=(do let v <- whole;standAt e.pos;EM [v] (truthy v)):=by intro _;rfl):PT X e (tB t):=by
 intro pins s σ H Q I hw;refine isTrue_plain (thE (h pins s σ H _ I hw) fun v s1 x H1 I1 r1 q1=>?_) (he _);obtain⟨d,rfl,q⟩:=q1;cases r1;exact FC ⟨H1,I1,q⟩
variable {tA tB':TT}{rest:List Expr}
noncomputable def VB (t u:TT):TT:=fun σ H Q=>t σ H fun c H1=>if c=true then u σ H1 Q else Q false H1
noncomputable def tOr (t u:TT):TT:=fun σ H Q=>t σ H fun c H1=>if c=true then Q true H1 else u σ H1 Q
noncomputable def Qw (t:TT):TT:=fun σ H Q=>t σ H fun c H1=>Q (!c) H1
theorem Wq (ha:PT X a tA):PW X (.BoolOp .And [a] pos) tA:=by
 intro wh pins s σ H Q I h;refine isTrue_and (thn (ha pins s σ H Q I h) fun c s1 e=>?_);cases c with
 | true=>exact isTrue_and_nil e
 | false=>exact e
theorem ZF (ha:PT X a tA):PW X (.BoolOp .Or [a] pos) tA:=by
 intro wh pins s σ H Q I h;refine isTrue_or (thn (ha pins s σ H Q I h) fun c s1 e=>?_);cases c with
 | false=>exact isTrue_or_nil e
 | true=>exact e
theorem ZG (ha:PT X a tA)(hb:PW X (.BoolOp .And (b::rest) pos) tB'):PW X (.BoolOp .And (a::b::rest) pos) (VB tA tB'):=by
 intro wh pins s σ H Q I h;refine isTrue_and (thT (ha pins s σ H _ I h) fun c s1 H1 I1 q1=>?_);cases c with
 | true=>exact hb wh pins s1 σ H1 Q I1 q1
 | false=>exact⟨H1,I1,q1⟩
theorem abh (ha:PT X a tA)(hb:PW X (.BoolOp .Or (b::rest) pos) tB'):PW X (.BoolOp .Or (a::b::rest) pos) (tOr tA tB'):=by
 intro wh pins s σ H Q I h;refine isTrue_or (thT (ha pins s σ H _ I h) fun c s1 H1 I1 q1=>?_);cases c with
 | true=>exact⟨H1,I1,q1⟩
 | false=>exact hb wh pins s1 σ H1 Q I1 q1
theorem ZL (ha:PT X a tA):PT X (.UnaryOp .Not a pos) (Qw tA):=by
 intro pins s σ H Q I h;exact isTrue_not (ha pins s σ H (fun c H1=>Q (!c) H1) I h)
noncomputable def QM (ta tb:TE):TE:=fun σ H Q=>ta σ H fun x H1=>∃c,x=.bl c/\if c=true then tb σ H1 Q else Q (.bl false) H1
noncomputable def Qv (ta:TE):TE:=fun σ H Q=>ta σ H fun x H1=>∃c,x=.bl c/\Q (.bl (!c)) H1
theorem Z4 {op}{t:TE}(h:PE X a t):PE X (.BoolOp op [a] pos) t:=fun pins s σ H Q I hw=>BoolOp_one (h pins s σ H Q I hw)
theorem aac (ha:PE X a ta)(hb:PE X (.BoolOp .And (b::rest) pos) tb):PE X (.BoolOp .And (a::b::rest) pos) (QM ta tb):=by
 intro pins s σ H Q I h;refine BoolOp_and (thE (ha pins s σ H _ I h) fun v s1 x H1 I1 r1 q1=>?_);obtain⟨c,rfl,q1⟩:=q1;cases r1;refine FC ?_;cases c with
 | true=>exact hb pins s1 σ H1 Q I1 q1
 | false=>exact⟨.bl false,H1,I1,rfl,q1⟩
theorem Z5 (ha:PE X a ta):PE X (.UnaryOp .Not a pos) (Qv ta):=by
 intro pins s σ H Q I h;refine UnaryOp_ (thE (ha pins s σ H _ I h) fun v s1 x H1 I1 r1 q1=>?_);obtain⟨c,rfl,q1⟩:=q1;cases r1;exact not_of (FC ⟨.bl (!c),H1,I1,rfl,q1⟩)
noncomputable def tIf (t:TT)(ta tb:TE):TE:=fun σ H Q=>t σ H fun c H1=>if c=true then ta σ H1 Q else tb σ H1 Q
theorem Sg {c:Expr}(hc:PT X c tA)(ha:PE X a ta)(hb:PE X b tb):PE X (.IfExp c a b pos) (tIf tA ta tb):=by
 intro pins s σ H Q I h;refine wpAny_IfExp (thT (hc pins s σ H _ I h) fun d s1 H1 I1 q1=>?_);cases d with
 | true=>exact ha pins s1 σ H1 Q I1 q1
 | false=>exact hb pins s1 σ H1 Q I1 q1
end
noncomputable def SqL (K:AD)(H:Hp)(a:Addr)(xs:List V):Prop:=
 Rd H a (.lst xs) \/
  ∃(o:Obj)(its:Array Ap)(n:Nat),K.lookup a=some o/\o.cls=.type "list" /\ o.dict=none/\o.data=.seq its n/\its.size<=AL/\Vals xs its.toList
noncomputable def SqT (K:AD)(H:Hp)(a:Addr)(xs:List V):Prop:=
 Rd H a (.tup xs) \/
  ∃(o:Obj)(its:Array Ap)(n:Nat),K.lookup a=some o/\o.cls=.type "tuple" /\ o.data=.seq its n/\its.size<=AL/\Vals xs its.toList
noncomputable def ab6:Ap->Option V
 | .none=>some .non
 | .bool b=>some (.bl b)
 | .int i _=>some (.int i)
 | .str x _=>some (.str x)
 | .bytes b _=>some (.byt b)
 | .float b _=>some (.flt b)
 | .ref a=>some (.ref a)
 | .type n=>some (.ty n)
 | _=>none
theorem RelV.abs {x:V}{u:Ap}(r:RelV x u):ab6 u=some x:=by
 cases x with
 | non=>cases r;rfl
 | bl _=>cases r;rfl
 | int _=>obtain⟨t,rfl⟩:=r;rfl
 | str _=>obtain⟨t,rfl⟩:=r;rfl
 | byt _=>obtain⟨t,rfl⟩:=r;rfl
 | flt _=>obtain⟨t,rfl⟩:=r;rfl
 | ref _=>cases r;rfl
 | ty _=>cases r;rfl
theorem RelV.inj {x y:V}{u:Ap}(r:RelV x u)(q:RelV y u):x=y:=BN (r.abs.symm.trans q.abs)
theorem Vals.inj:∀{xs ys:List V}{us:List Ap},Vals xs us->Vals ys us->xs=ys
 | _,_,_,.nil,.nil=>rfl
 | _,_,_,.cons r t,.cons r' t'=>by rw[r.inj r',Vals.inj t t']
section
variable {X:Cx}{pins:List (Addr×Obj)}{σ:St}{H:Hp}{s:AB}{a:Addr}{xs ys:List V}
theorem SqL.of {K:AD}(h:H a=some (.lst xs)):SqL K H a xs:=.inl (.inl h)
theorem SqT.of {K:AD}(h:H a=some (.tup xs)):SqT K H a xs:=.inl (.inl h)
theorem Inv.list (I:Inv X pins σ H s)(h:SqL X.K H a xs):∃its:List Ap,Vals xs its/\PlainL s.heap a its.toArray/\xs.length<=AL:=by
 rcases h with h|⟨o,its,n,hk,hc,hd,hs,hz,r⟩
 ·obtain⟨z,its,n,r,e⟩:=h.ok I.hok;exact⟨its,r,⟨_,n,e,rfl,rfl,rfl⟩,z⟩
 refine⟨its.toList,r,⟨o,n,I.kIn a o hk,hc,hd,by simpa using hs⟩,?_⟩;have e:=r.length;simp only[EA] at e;omega
theorem Inv.tuple (I:Inv X pins σ H s)(h:SqT X.K H a xs):∃its:List Ap,Vals xs its/\JA s.heap a its.toArray/\xs.length<=AL:=by
 rcases h with h|⟨o,its,n,hk,hc,hs,hz,r⟩
 ·obtain⟨z,its,r,p⟩:=h.ok I.hok;exact⟨its,r,p,z⟩
 refine⟨its.toList,r,⟨o,I.kIn a o hk,hc,n,by simpa using hs⟩,?_⟩;have e:=r.length;simp only[EA] at e;omega
theorem Inv.Gq (I:Inv X pins σ H s)(h:SqL X.K H a xs)(h':SqL X.K H a ys):xs=ys:=by
 obtain⟨its,r,⟨o,n,e,_,_,d⟩,_⟩:=I.list h;obtain⟨its',r',⟨o',n',e',_,_,d'⟩,_⟩:=I.list h';rw[e] at e';cases e';rw[d] at d';injection d' with d1 _;have:its=its':=by simpa using congrArg Array.toList d1
 subst this;exact r.inj r'
theorem Inv.p7 (I:Inv X pins σ H s)(h:SqT X.K H a xs)(h':SqT X.K H a ys):xs=ys:=by
 obtain⟨its,r,⟨o,e,_,n,d⟩,_⟩:=I.tuple h;obtain⟨its',r',⟨o',e',_,n',d'⟩,_⟩:=I.tuple h';rw[e] at e';cases e';rw[d] at d';injection d' with d1 _;have:its=its':=by simpa using congrArg Array.toList d1
 subst this;exact r.inj r'
end
noncomputable abbrev Cx.wish (X:Cx)(E:Ap->AB->Prop):Cx:={ X with xe:=E }
noncomputable abbrev Cx.nox (X:Cx):Cx:=X.wish fun _ _=>False
theorem Cx.Ok.wish {X:Cx}(ok:X.Ok)(E:Ap->AB->Prop):(X.wish E).Ok:=
 ⟨ok.mod,ok.kind,ok.glob,ok.blt,ok.above,ok.inj,ok.has,ok.cab,ok.hd,ok.frames,ok.stk,ok.exf,ok.bs,ok.bsz,ok.noex,ok.exfs,ok.wk,ok.frf⟩
theorem Cx.Ok.oO {X:Cx}{E:Ap->AB->Prop}(ok:(X.wish E).Ok):X.Ok:=
 ⟨ok.mod,ok.kind,ok.glob,ok.blt,ok.above,ok.inj,ok.has,ok.cab,ok.hd,ok.frames,ok.stk,ok.exf,ok.bs,ok.bsz,ok.noex,ok.exfs,ok.wk,ok.frf⟩
section
variable {X:Cx}{pins:List (Addr×Obj)}{σ:St}{H:Hp}{s:AB}{E:Ap->AB->Prop}
theorem Inv.wish (I:Inv X pins σ H s)(E:Ap->AB->Prop):Inv (X.wish E) pins σ H s:=⟨I.ok.wish E,I.os,I.bare,I.base,I.loc,I.cell,I.free,I.freeC,I.pin,I.hok,I.len⟩
theorem Inv.oO (I:Inv (X.wish E) pins σ H s):Inv X pins σ H s:=⟨I.ok.oO,I.os,I.bare,I.base,I.loc,I.cell,I.free,I.freeC,I.pin,I.hok,I.len⟩
theorem SP.oO {D:Ends}{f:Flow}{s':AB}(h:SP (X.wish E) pins D f s'):SP X pins D f s':=by
 cases f with
 | next=>obtain⟨σ',H',I,q⟩:=h;exact⟨σ',H',I.oO,q⟩
 | brk=>obtain⟨σ',H',I,q⟩:=h;exact⟨σ',H',I.oO,q⟩
 | cont=>obtain⟨σ',H',I,q⟩:=h;exact⟨σ',H',I.oO,q⟩
 | ret u=>obtain⟨v,σ',H',I,r,q⟩:=h;exact⟨v,σ',H',I.oO,r,q⟩
theorem PSs.nox {st:List Stmt}{t:TS}(h:PSs X.nox st t):PSs X st t:=fun pins s σ H D I hw=>
 CA (h pins s σ H D (I.wish _) hw) (fun _ _ q=>q.oO) fun _ _ z=>EG z
end
section
variable {X:Cx}{st:Stmt}{rest:List Stmt}{t u:TS}{e:Expr}{te:TE}{pos:Pos}
noncomputable def Et:TS:=fun D σ H=>D.nx σ H
noncomputable def Ig (t u:TS):TS:=fun D σ H=>t { D with nx:=u D } σ H
theorem Wv:PSs X [] Et:=fun _ _ σ H _ I h=>JE ⟨σ,H,I,h⟩
theorem RT (h1:PS X st t)(h2:PSs X rest u):PSs X (st::rest) (Ig t u):=by
 intro pins s σ H D I h;refine wpAny_execs_cons (thn (h1 pins s σ H { D with nx:=u D } I h) fun f s1 q=>?_);cases f with
 | next=>
  obtain⟨σ',H',I',q⟩:=q;exact h2 pins s1 σ' H' D I' q
 | ret v=>exact q
 | brk=>exact q
 | cont=>exact q
theorem Wu (h1:PS X st t):PSs X [st] t:=by
 intro pins s σ H D I h;refine wpAny_execs_cons (thn (h1 pins s σ H D I h) fun f s1 q=>?_);cases f with
 | next=>exact JE q
 | ret v=>exact q
 | brk=>exact q
 | cont=>exact q
theorem Inv.quiet {pins:List (Addr×Obj)}{σ:St}{H:Hp}{s:AB}(I:Inv X pins σ H s):interactive X.env=false:=by simp [interactive,I.ok.kind]
noncomputable def vq (te:TE):TS:=fun D σ H=>te σ H fun _ H1=>D.nx σ H1
theorem WD (he:PE X e te)(hs:II e none pos.line X.env=pure false:=by rfl):PS X (.Expr e pos) (vq te):=by
 intro pins s σ H D I h;exact wpAny_Expr_any (thE (he pins s σ H _ I h) fun v s1 x H1 I1 r1 q1=>⟨σ,H1,I1,q1⟩) I.quiet hs
noncomputable def Qp (te:TE):TS:=fun D σ H=>te σ H D.rt
theorem ZP (he:PE X e te):PS X (.Return (some e) pos) (Qp te):=by
 intro pins s σ H D I h;exact wpAny_Return_some (thE (he pins s σ H _ I h) fun v s1 x H1 I1 r1 q1=>⟨x,σ,H1,I1,r1,q1⟩)
noncomputable def Ij (c:TT)(t u:TS):TS:=fun D σ H=>c σ H fun b H1=>if b=true then t D σ H1 else u D σ H1
theorem abj {c:Expr}{a b:List Stmt}{tc:TT}(hc:PT X c tc)(ha:PSs X a t)(hb:PSs X b u):PS X (.If c a b pos) (Ij tc t u):=by
 intro pins s σ H D I h;refine wpAny_If (thT (hc pins s σ H _ I h) fun d s1 H1 I1 q1=>?_);cases d with
 | true=>exact ha pins s1 σ H1 D I1 q1
 | false=>exact hb pins s1 σ H1 D I1 q1
end
noncomputable abbrev TG:=V->St->Hp->(St->Hp->Prop)->Prop
noncomputable abbrev TGs:=List V->St->Hp->(St->Hp->Prop)->Prop
noncomputable def PG (X:Cx)(target:Expr)(t:TG):Prop:=
 ∀(pins:List (Addr×Obj)) (s:AB) (σ:St) (H:Hp) (v:V) (u:Ap) (Q:St->Hp->Prop),Inv X pins σ H s->RelV v u->t v σ H Q ->
  AG (AW X.prog X.w) X.A (FE target X.env u) (fun _ s'=>∃σ' H',Inv X pins σ' H' s'/\Q σ' H') X.xe s
noncomputable def PGs (X:Cx)(ts:List Expr)(t:TGs):Prop:=
 ∀(pins:List (Addr×Obj)) (s:AB) (σ:St) (H:Hp) (vs:List V) (us:List Ap) (Q:St->Hp->Prop),Inv X pins σ H s->Vals vs us->t vs σ H Q ->
  AG (AW X.prog X.w) X.A (IE ((DC ts X.env).map (·.2)) us) (fun _ s'=>∃σ' H',Inv X pins σ' H' s'/\Q σ' H') X.xe s
noncomputable abbrev YG:=V->V->V->Hp->(Hp->Prop)->Prop
noncomputable def YH (X:Cx)(t:YG):Prop:=
 ∀(pins:List (Addr×Obj)) (s:AB) (σ:St) (H:Hp) (o i v:V) (ov iv u:Ap) (Q:Hp->Prop),Inv X pins σ H s->RelV o ov->RelV i iv->RelV v u->t o i v H Q ->
  AG (AW X.prog X.w) X.A (setItem ov iv u) (fun _ s'=>∃H',Inv X pins σ H' s'/\Q H') X.xe s
section
variable {X:Cx}{pos:Pos}
noncomputable def kI (i:Nat):TG:=fun v σ H Q=>Q (σ.set i (some v)) H
theorem K1 {i:Nat}{x:Str}(hN:X.N.Nodup)(hi:X.N[i]?=some x)(hx:Loc X.env.scope x)(hf:X.fn x=true\/X.env.scope.names.lookup x=some .local:=by first|exact .inl rfl|exact .inr rfl|assumption):PG X (.Name x pos) (kI i):=by
 intro pins s σ H v u Q I r h;exact wpAny_assign_Name (jV I hN hi hx r (fun s' I'=>⟨_,H,I',h⟩) hf)
noncomputable def aaM:TGs:=fun vs σ H Q=>vs=[]/\Q σ H
noncomputable def Uv (t:TG)(u:TGs):TGs:=fun vs σ H Q=>∃v r,vs=v::r/\t v σ H fun σ' H'=>u r σ' H' Q
theorem W2:PGs X [] aaM:=by
 intro pins s σ H vs us Q I r h;obtain⟨e,h⟩:=h;subst e;cases r;exact assignInOrder_nil ⟨σ,H,I,h⟩
theorem R7 {e:Expr}{es:List Expr}{t:TG}{u:TGs}(h1:PG X e t)(h2:PGs X es u)
  (hs:(DC (e::es) X.env).map (·.2)=FE e X.env::(DC es X.env).map (·.2):=by rfl):PGs X (e::es) (Uv t u):=by
 intro pins s σ H vs us Q I r h;obtain⟨v,vr,e1,h⟩:=h;subst e1;cases r with
 | cons r rr=>
  rw[hs];refine Fc (thn (h1 pins s σ H _ _ _ I r h) fun _ s1 ⟨σ1,H1,I1,q1⟩=>?_);exact h2 pins s1 σ1 H1 _ _ Q I1 rr q1
noncomputable def ab3 (K:AD)(n:Nat)(t:TGs):TG:=fun v σ H Q=>∃a xs,v=.ref a/\SqT K H a xs/\xs.length=n/\t xs σ H Q
theorem ZX {es:List Expr}{k:Nat}{t:TGs}{n:Nat}(hc:X.calm=true)(h:PGs X es t)
  (hn:(DC es X.env).length=n:=by rfl) (hst:(DC es X.env).findIdx? (·.1)=none:=by rfl):PG X (.Tuple es k pos) (ab3 X.K n t):=by
 intro pins s σ H v u Q I r hw;obtain⟨a,xs,e1,hq,hl,hw⟩:=hw;subst e1;cases r;obtain⟨its,rv,ht,hz⟩:=I.tuple hq;refine assign_Tuple_tuple (I.ok.hd hc) ht (by simp [hn,<- hl,rv.length]) hst fun h' hx=>?_;have I1:Inv X pins σ H { s with heap:=h' }:=I.kept (t':=s.toks) fun b o e=>hx b o (B2 (A4 e)) e;exact h pins _ σ H xs _ Q I1 (by simpa using rv) hw
noncomputable def aaK (to ti:TE)(t:YG):TG:=fun v σ H Q=>to σ H fun o H1=>ti σ H1 fun i H2=>t o i v H2 fun H3=>Q σ H3
theorem Z0 {o i:Expr}{to ti:TE}{t:YG}(ho:PE X o to)(hi:PE X i ti)(hs:YH X t)
  (ha:∀v,FE (.Subscript o i pos) X.env v=(do
   let ov <- EM [v] (eval o X.env)
   let iv <- EM [v,ov] (eval i X.env)
   standAt pos
   EM [v,ov,iv] (setItem ov iv v)
   release [v,ov,iv] []):=by intro _;rfl):PG X (.Subscript o i pos) (aaK to ti t):=by
 intro pins s σ H v u Q I r h;rw[ha];refine An (BD (thE (ho pins s σ H _ I h) fun ov s1 x H1 I1 r1 q1=>?_));refine An (BD (thE (hi pins s1 σ H1 _ I1 q1) fun iv s2 y H2 I2 r2 q2=>?_));refine An (FB (An (BD (thn (hs pins s2 σ H2 x y v ov iv u _ I2 r1 r2 r q2) fun _ s3 ⟨H3,I3,q3⟩=>?_))));exact wpAny_release ⟨σ,H3,I3,q3⟩
noncomputable def vP (te:TE)(g:TG):TS:=fun D σ H=>te σ H fun x H1=>g x σ H1 D.nx
theorem ZS {tg e:Expr}{te:TE}{g:TG}(he:PE X e te)(hg:PG X tg g)(hs:EB [tg] e pos.line X.env=pure false:=by rfl)(hw:GO [tg] e X.env=pure none:=by rfl)
  (h1:(DC [tg] X.env).map (·.2)=[FE tg X.env]:=by rfl):PS X (.Assign [tg] e pos) (vP te g):=by
 intro pins s σ H D I h;refine wpAny_Assign_stores (thE (he pins s σ H _ I h) fun v s1 x H1 I1 r1 q1=>?_) hs hw;rw[h1];exact thn (hg pins s1 σ H1 x v _ I1 r1 q1) fun _ s2 q=>q
theorem ZM {i:Nat}{x:Str}{e:Expr}{te:TE}{pos':Pos}(hN:X.N.Nodup)(hi:X.N[i]?=some x)(hx:Loc X.env.scope x)(he:PE X e te)(hs:II e (some (.Name x pos')) pos.line X.env=pure false:=by rfl)(hf:X.fn x=true\/X.env.scope.names.lookup x=some .local:=by first|exact .inl rfl|exact .inr rfl|assumption) :
  PS X (.Assign [.Name x pos'] e pos) (vP te (kI i)):=by
 intro pins s σ H D I h;refine wpAny_Assign_Name (thE (he pins s σ H _ I h) fun v s1 y H1 I1 r1 q1=>?_) hs;exact jV I1 hN hi hx r1 (fun s2 I2=>⟨_,H1,I2,q1⟩) hf
noncomputable def Zf (i j:Nat)(ta:TA):TS:=fun D σ H=>ta σ H fun vs H1=>∃v w,vs=[v,w]/\D.nx ((σ.set i (some v)).set j (some w)) H1
theorem ZQ {i j:Nat}{x y:Str}{a b:Expr}{ta:TA}{px py pt:Pos}{kt k2 pt2}(hc:X.calm=true)(hN:X.N.Nodup)(hi:X.N[i]?=some x)(hj:X.N[j]?=some y)(hij:i≠j)
  (hx:X.env.scope.names.lookup x=some .local) (hy:X.env.scope.names.lookup y=some .local) (ha:PA X [a,b] ta)
  (hw:GO [.Tuple [.Name x px,.Name y py] kt pt] (.Tuple [a,b] k2 pt2) X.env=pure (some [x,y]))
  (hs:EB [.Tuple [.Name x px,.Name y py] kt pt] (.Tuple [a,b] k2 pt2) pos.line X.env=pure false:=by rfl) :
  PS X (.Assign [.Tuple [.Name x px,.Name y py] kt pt] (.Tuple [a,b] k2 pt2) pos) (Zf i j ta):=by
 intro pins s σ H D I h;rw[JI];refine An (FB ?_);rw[hs];refine An (Au ?_);rw[if_neg δ];refine An (Tuple_ (thA (ha _ pins s σ H _ I h) fun us s1 vs H1 I1 r1 q1=>?_));obtain⟨v,w,e1,q1⟩:=q1;subst e1;obtain⟨u1,u2,rfl,rv,rw'⟩:∃u1 u2,us=[u1,u2]/\RelV v u1/\RelV w u2:=by
  cases r1 with
  | cons p q=>
   cases q with
   | cons p' q'=>
    cases q';exact⟨_,_,rfl,p,p'⟩
 refine BF ?_ (by show 2<=AL;decide);have I2:Inv X pins σ H1 { s1 with heap:=s1.heap.push { cls:=.type "tuple",data:=.seq [u1,u2].toArray } }:=I1.kept (t':=s1.toks) fun b o e=>AA _ e;rw[hw];refine An (Au ?_);show AG (AW X.prog X.w) X.A (do rule "assign.swapped-stores";let items <- unpackItems (.ref s1.heap.objs.size) 2 none;IE [fun v=>GW X.env y v,fun v=>GW X.env x v] items.reverse;pure Flow.next) _ _ _;refine An (DS (An (unpackItems_tuple (items:=#[u1,u2]) (I.ok.hd hc) (JA.new s1.heap _) fun h' hx'=>?_)));have I3:=I2.kept (h':=h') (t':=s1.toks) fun b o e=>hx' b o (B2 (A4 e)) e;show AG _ _ (IE [fun v=>GW X.env y v,fun v=>GW X.env x v] [u2,u1] >>= fun _=>pure Flow.next) _ _ _;refine An (Fc (HK (jV I3 hN hj (.inl hy) rw' (fun s2 I4=>?_) (.inr hy))));refine Fc (HK (jV I4 hN hi (.inl hx) rv (fun s3 I5=>assignInOrder_nil (Au ?_)) (.inr hx)));rw[set_comm _ _ (BA hij)] at I5;exact⟨_,H1,I5,q1⟩
noncomputable def Qn (c:TT)(tb:TS):TS:=fun D σ H=>∃W:Nat->St->Hp->Prop,(∃m,W m σ H)/\∀m σ H,W m σ H ->
 c σ H fun b H1=>if b=true then ∃N:St->Hp->Prop,(∀σ' H',N σ' H'->∃m',m'<m/\W m' σ' H')/\tb { D with nx:=N,ct:=N,bk:=D.nx } σ H1 else D.nx σ H1
theorem RV {c:Expr}{body:List Stmt}{tc:TT}{tb:TS}(hp:PassesOwn (AW X.prog X.w) X.A X.env X.xe)(hc:PT X c tc)(hb:PSs X body tb):PS X (.While c body [] pos) (Qn tc tb):=by
 intro pins s σ H D I h;obtain⟨W,⟨m0,w0⟩,turn⟩:=h;refine wpAny_While (codeAny_whileLoop (fun n s'=>∃σ' H',Inv X pins σ' H' s'/\W n σ' H') ?_ m0 ⟨σ,H,I,w0⟩);rintro n s1 ⟨σ1,H1,I1,w1⟩;refine Fs hp (thT (hc pins s1 σ1 H1 _ I1 (turn n σ1 H1 w1)) fun b s2 H2 I2 q2=>?_);cases b with
 | true=>
  obtain⟨N,hN,q2⟩:=q2;rw[if_pos rfl];refine Fs hp (thn (hb pins s2 σ1 H2 _ I2 q2) fun f s3 q3=>?_);cases f with
  | next=>
   obtain⟨σ3,H3,I3,n3⟩:=q3;obtain⟨m',hm,w3⟩:=hN σ3 H3 n3;exact⟨m',hm,σ3,H3,I3,w3⟩
  | cont=>
   obtain⟨σ3,H3,I3,n3⟩:=q3;obtain⟨m',hm,w3⟩:=hN σ3 H3 n3;exact⟨m',hm,σ3,H3,I3,w3⟩
  | brk=>exact q3
  | ret v=>exact q3
 | false=>
  rw[if_neg A3];exact JE ⟨σ1,H2,I2,q2⟩
end
structure It where
 go:Nat->Hp->Prop
 yld:Nat->Hp->V->Hp->Prop
 stop:Nat->Hp->Prop
noncomputable def ug (X:Cx)(pins:List (Addr×Obj))(H:Hp)(b:Addr):Prop:=
 H b=none/\b≠X.env.locals/\b∉X.fs/\(b∈X.ex\/X.s₀.heap.objs.size<=b)/\(∀x c,X.env.cells.lookup x=some c->c≠b)/\∀p∈X.pn++pins,p.1≠b
theorem Inv.JW {X:Cx}{pins:List (Addr×Obj)}{σ:St}{H H':Hp}{s:AB}{b:Addr}(I:Inv X pins σ H s)(hb:s.heap.objs.size<=b)(hn:H' b=none):ug X pins H' b:=by
 refine⟨hn,ne_of_gt (Be I.lt hb),I.XF hb,.inr (BG I.sz hb),fun x c e z=>?_,fun p hp z=>?_⟩
 ·obtain⟨v,q⟩:=I.cell x c e;exact absurd (Be q.lt (by rw[z];exact hb)) (DD _)
 exact absurd (Be (A4 (I.pin p hp).1) (by rw[z];exact hb)) (DD _)
structure Turn (P:AR)(w:Bi)(K:AD)(tg:Expr)(J:It)(fp:List Addr)(it:Addr)(tn:Nat->Heap->Prop):Prop where
 mem:it∈fp
 obj:∀i h,tn i h->∀b∈fp,∃o,h.get? b=some o/\∀v,o.data≠.cell v
 keep:∀i h h',tn i h->(∀b∈fp,∀o,h.get? b=some o->h'.get? b=some o)->tn i h'
 item:∀(X:Cx),X.prog=P->X.w=w->X.K=K->X.calm=true->∀(i:Nat)(pins:List (Addr×Obj)) (s:AB) (σ:St) (H:Hp) (E:Ap->AB->Prop),Inv X pins σ H s->(∀b∈fp,ug X pins H b)->tn i s.heap->J.go i H ->
  AG (AW P w) X.A (EO (.ref it)) (fun r s1=>∃u,r=some u /\
   AG (AW P w) X.A (Ha tg (.ref it) u) (fun _ s2=>∃x H',Inv X pins σ H' s2/\RelV x u/\J.yld i H x H'/\tn (i+1) s2.heap/\∀b∈fp,H' b=none) E s1) E s
 done:∀(X:Cx),X.prog=P->X.w=w->X.K=K->X.calm=true->∀(i:Nat)(pins:List (Addr×Obj)) (s:AB) (σ:St) (H:Hp) (E:Ap->AB->Prop),Inv X pins σ H s->(∀b∈fp,ug X pins H b)->tn i s.heap->J.stop i H ->
  AG (AW P w) X.A (EO (.ref it)) (fun r s1=>r=none/\Inv X pins σ H s1) E s
 self:∀(A:Bz)(i:Nat)(s:AB)(Q:Ap->AB->Prop)(E:Ap->AB->Prop),tn i s.heap->Q (.ref it) s->AG (AW P w) A (pyIter (.ref it)) Q E s
noncomputable abbrev TI:=St->Hp->(It->Hp->Prop)->Prop
noncomputable def PIE (X:Cx)(pins:List (Addr×Obj))(σ:St)(tg:Expr)(R:It->Hp->Prop)(itv:Ap)(s2:AB):Prop:=
 ∃(it:Addr)(fp:List Addr)(tn:Nat->Heap->Prop)(J:It)(H':Hp),itv=.ref it/\Inv X pins σ H' s2/\Turn X.prog X.w X.K tg J fp it tn/\tn 0 s2.heap/\(∀b∈fp,ug X pins H' b)/\R J H'
noncomputable def PI (X:Cx)(tg iter:Expr)(wi:TI):Prop:=
 ∀(pins:List (Addr×Obj)) (s:AB) (σ:St) (H:Hp) (R:It->Hp->Prop),Inv X pins σ H s->wi σ H R ->
  AG (AW X.prog X.w) X.A (eval iter X.env) (fun v s1=>AG (AW X.prog X.w) X.A (pyIter v) (PIE X pins σ tg R) X.xe s1) X.xe s
theorem LQ {M:Model}{A:Bz}{E:Ap->AB->Prop}{s:AB}{tg:Expr}{it:Addr}{u:Ap}{o:Obj}{n:String}{vs:Array Ap}{Q:Unit->AB->Prop}(ho:s.heap.get? it=some o)(hc:o.cls=.type n)(hd:o.data=.fields vs)
  (hn:["enumerate","zip","dict_itemiterator","dict_reverseitemiterator","odict_iterator","itertools.zip_longest","itertools.pairwise"].contains n=false) (hQ:Q () s):AG M A (Ha tg (.ref it) u) Q E s:=by
 unfold Ha;cases tg <;> first
  | exact Au hQ
  | (cases u <;> first
    | exact Au hQ
    | (refine An (wpAny_load ho ?_)
       rw[hc,hd];show AG M A (if (["enumerate","zip","dict_itemiterator","dict_reverseitemiterator","odict_iterator","itertools.zip_longest","itertools.pairwise"].contains n&&vs[0]? == some (DT _))=true then _ else _) Q E s;rw[if_neg (by intro h;rw[hn,F5] at h;cases h)];exact Au hQ))
noncomputable def Itl (K:AD)(a:Addr):It:=
 ⟨fun i H=>∃xs x,SqL K H a xs/\xs[i]?=some x,fun i H x H'=>H'=H/\∀xs,SqL K H a xs->xs[i]?=some x,fun i H=>∃xs,SqL K H a xs/\xs.length<=i⟩
noncomputable def Itt (K:AD)(a:Addr):It:=
 ⟨fun i H=>∃xs x,SqT K H a xs/\xs[i]?=some x,fun i H x H'=>H'=H/\∀xs,SqT K H a xs->xs[i]?=some x,fun i H=>∃xs,SqT K H a xs/\xs.length<=i⟩
noncomputable def Itr (lo:Int)(n:Nat):It:=⟨fun i _=>i<n,fun i H x H'=>H'=H/\x=.int (lo+i),fun i _=>n<=i⟩
theorem M4 {P:AR}{w:Bi}{K:AD}{tg:Expr}(a it:Addr):Turn P w K tg (Itl K a) [it] it (fun i h=>h.IsListIter it a i) where
 mem:=by simp
 obj:=fun i h st b hb=>by
  have e:b=it:=by simpa using hb
  subst e;obtain⟨o,e,c,d⟩:=st;exact⟨o,e,fun v z=>by rw[d] at z;cases z⟩
 keep:=fun i h h' st k=>st.at fun o e=>k it (by simp) o e
 item:=by
  intro X hP hw hK hc i pins s σ H E I hf st hg;subst hP hw hK;obtain⟨xs,x,hq,hx⟩:=hg;obtain⟨its,rv,p,hz⟩:=I.list hq;obtain⟨u,hu,ru⟩:=rv.get hx;obtain⟨f0,f1,f2,f3,f4,f5⟩:=hf it (by simp);refine wpAny_pyNext_list_item st p.isList (x:=u) (by simpa using hu) fun h' st' sb=>?_;have I1:Inv X pins σ H { s with heap:=h' }:=I.turned (t':=s.toks) (fun b o hb e=>(sb.2 b hb).trans e) f0 f1 f3 f4 f5;obtain⟨o,e,c,d⟩:=id st';exact⟨u,rfl,LQ (s:={ s with heap:=h' }) e c d δ ⟨x,H,I1,ru,⟨rfl,fun ys hy=>by rw[I.Gq hy hq];exact hx⟩,st',fun b hb=>(hf b hb).1⟩⟩
 done:=by
  intro X hP hw hK hc i pins s σ H E I hf st hg;subst hP hw hK;obtain⟨xs,hq,hx⟩:=hg;obtain⟨its,rv,p,hz⟩:=I.list hq;obtain⟨f0,f1,f2,f3,f4,f5⟩:=hf it (by simp);have hl:=rv.length;exact wpAny_pyNext_list_end (I.ok.hd hc) st p.isList (by simp;omega) fun h' eb=>⟨rfl,I.turned (t':=s.toks) (fun b o hb e=>eb b o hb e) f0 f1 f3 f4 f5⟩
 self:=fun _ _ _ _ _ st h=>wpAny_pyIter_listiter st h
theorem HY {P:AR}{w:Bi}{K:AD}{tg:Expr}(a it:Addr):Turn P w K tg (Itt K a) [it] it (fun i h=>h.IsTupleIter it a i) where
 mem:=by simp
 obj:=fun i h st b hb=>by
  have e:b=it:=by simpa using hb
  subst e;obtain⟨o,e,c,d⟩:=st;exact⟨o,e,fun v z=>by rw[d] at z;cases z⟩
 keep:=fun i h h' st k=>st.at fun o e=>k it (by simp) o e
 item:=by
  intro X hP hw hK hc i pins s σ H E I hf st hg;subst hP hw hK;obtain⟨xs,x,hq,hx⟩:=hg;obtain⟨its,rv,p,hz⟩:=I.tuple hq;obtain⟨u,hu,ru⟩:=rv.get hx;obtain⟨f0,f1,f2,f3,f4,f5⟩:=hf it (by simp);refine wpAny_pyNext_tuple_item st (show s.heap.IsTuple a its.toArray from p) (x:=u) (by simpa using hu) fun h' st' sb=>?_;have I1:Inv X pins σ H { s with heap:=h' }:=I.turned (t':=s.toks) (fun b o hb e=>(sb.2 b hb).trans e) f0 f1 f3 f4 f5;obtain⟨o,e,c,d⟩:=id st';exact⟨u,rfl,LQ (s:={ s with heap:=h' }) e c d δ ⟨x,H,I1,ru,⟨rfl,fun ys hy=>by rw[I.p7 hy hq];exact hx⟩,st',fun b hb=>(hf b hb).1⟩⟩
 done:=by
  intro X hP hw hK hc i pins s σ H E I hf st hg;subst hP hw hK;obtain⟨xs,hq,hx⟩:=hg;obtain⟨its,rv,p,hz⟩:=I.tuple hq;obtain⟨f0,f1,f2,f3,f4,f5⟩:=hf it (by simp);have hl:=rv.length;exact wpAny_pyNext_tuple_end (I.ok.hd hc) st (show s.heap.IsTuple a its.toArray from p) (by simp;omega) fun h' eb=>⟨rfl,I.turned (t':=s.toks) (fun b o hb e=>eb b o hb e) f0 f1 f3 f4 f5⟩
 self:=fun _ _ _ _ _ st h=>wpAny_pyIter_tupleiter st h
theorem Ia {P:AR}{w:Bi}{K:AD}{tg:Expr}(it:Addr)(lo:Int)(n:Nat):Turn P w K tg (Itr lo n) [it] it (fun i h=>IsRangeIter h it (lo+(i:Nat)*1) ((n:Int)-(i:Nat)) 1) where
 mem:=by simp
 obj:=fun i h st b hb=>by
  have e:b=it:=by simpa using hb
  subst e;exact⟨_,st,fun v z=>by
   have z':Cn _=Data.cell v:=z;cases z'⟩
 keep:=fun i h h' st k=>k it (by simp) _ st
 item:=by
  intro X hP hw hK hc i pins s σ H E I hf st hg;subst hP hw hK;obtain⟨f0,f1,f2,f3,f4,f5⟩:=hf it (by simp);have W:=Walks.range (prog:=X.prog) (w:=X.w) (I.ok.hd hc) it lo 1 n;refine W.item i s _ _ hg st fun v h' tk hv st' kk=>?_;obtain⟨t,rfl⟩:=hv;have I1:Inv X pins σ H { s with heap:=h',toks:=tk }:=I.turned (fun b o hb e=>kk b o (by simpa using hb) e) f0 f1 f3 f4 f5;refine⟨_,rfl,LQ (s:={ s with heap:=h',toks:=tk }) (n := "range_iterator") st' rfl rfl δ ⟨.int (lo+i),H,I1,⟨t,?_⟩,⟨rfl,rfl⟩,st',fun b hb=>(hf b hb).1⟩⟩;rw[Int.mul_one]
 done:=by
  intro X hP hw hK hc i pins s σ H E I hf st hg;subst hP hw hK;obtain⟨f0,f1,f2,f3,f4,f5⟩:=hf it (by simp);exact wpAny_pyNext_range_end (I.ok.hd hc) st (by have:n<=i:=hg;omega) fun h' eb=>⟨rfl,I.turned (t':=s.toks) (fun b o hb e=>eb b o hb e) f0 f1 f3 f4 f5⟩
 self:=fun _ _ _ _ _ st h=>wpAny_pyIter_rangeiter st h
section
variable {X:Cx}{tg:Expr}
theorem Fp {pins:List (Addr×Obj)}{σ:St}{H:Hp}{s:AB}{R:It->Hp->Prop}{E:Ap->AB->Prop}{lo hi:Int}{t u v:Tok}{tk:Nat}(I:Inv X pins σ H s)(h1:-(2^62)<=lo)(h2:lo<2^62)(h3:-(2^62)<=hi)(h4:hi<2^62)
  (q:R (Itr lo (hi-lo).toNat) H):AG (AW X.prog X.w) X.A (pyIter (.ref s.heap.objs.size)) (PIE X pins σ tg R) E { s with heap:=s.heap.push { cls:=.type "range",data:=.fields #[.int lo t,.int hi u,.int 1 v] },toks:=tk }:=by
 refine wpAny_pyIter_range (IsRange.new ..) (small_one h1 h2 h3 h4) ?_;have I1:Inv X pins σ H { s with heap:=s.heap.push { cls:=.type "range",data:=.fields #[.int lo t,.int hi u,.int 1 v] },toks:=tk }:=I.kept fun b o e=>AA _ e;refine⟨(s.heap.push { cls:=.type "range",data:=.fields #[.int lo t,.int hi u,.int 1 v] }).objs.size,[(s.heap.push { cls:=.type "range",data:=.fields #[.int lo t,.int hi u,.int 1 v] }).objs.size],_,_,H,rfl,
  I1.kept (t':=tk) fun b o e=>AA _ e,Ia _ lo (hi-lo).toNat,?_,fun b hb=>?_,q⟩
 ·have e1:lo+((0:Nat):Int)*1=lo:=by simp
  have e2:(((hi-lo).toNat:Nat):Int)-((0:Nat):Int)=AI.Range.rangeSize lo hi 1:=by rw[rangeSize_one];split <;> omega
  show IsRangeIter _ _ (lo+((0:Nat):Int)*1) ((((hi-lo).toNat:Nat):Int)-((0:Nat):Int)) 1;rw[e1,e2];exact AQ _ rfl
 have e:b=(s.heap.push { cls:=.type "range",data:=.fields #[.int lo t,.int hi u,.int 1 v] }).objs.size:=by simpa using hb
 subst e;exact I1.JW (AZ _) (I1.hok.fresh (AZ _))
noncomputable def qO (ta:TA):TI:=fun σ H R=>ta σ H fun vs H1=>∃j:Int,vs=[.int j]/\-(2^62)<=j/\j<2^62/\R (Itr 0 j.toNat) H1
noncomputable def LK (ta:TA):TI:=fun σ H R=>ta σ H fun vs H1=>∃i j:Int,vs=[.int i,.int j]/\(-(2^62)<=i/\i<2^62/\-(2^62)<=j/\j<2^62)/\R (Itr i (j-i).toNat) H1
theorem NK {a:Expr}{ta:TA}{p pos:Pos}(hg:Gl X "range") (hm:X.mg "range" = none) (ha:PA X [a] ta) (hs:AJ [a] X.env=[(false,eval a X.env)]:=by rfl):PI X tg (.Call (.Name "range" p) [a] [] pos) (qO ta):=by
 intro pins s σ H R I h;refine Call_ (iG I hg hm boot_range (BI (thA (ha pos pins s σ H _ I h) fun us s1 vs H1 I1 r1 q1=>?_) hs rfl));obtain⟨j,e,q1,q2,q⟩:=q1;subst e;cases r1 with
 | cons r rr=>
  cases rr;obtain⟨t,rfl⟩:=r;exact call_range_1 (Fp I1 ω ω q1 q2 (by simpa using q))
theorem Nz {a b:Expr}{ta:TA}{p pos:Pos}(hg:Gl X "range") (hm:X.mg "range" = none) (ha:PA X [a,b] ta) (hs:AJ [a,b] X.env=[(false,eval a X.env),(false,eval b X.env)]:=by rfl) (hs2:AJ [b] X.env=[(false,eval b X.env)]:=by rfl) :
  PI X tg (.Call (.Name "range" p) [a,b] [] pos) (LK ta):=by
 intro pins s σ H R I h;refine Call_ (iG I hg hm boot_range (BI (thA (ha pos pins s σ H _ I h) fun us s1 vs H1 I1 r1 q1=>?_) (by rw[hs,hs2]) (by rw[hs2];rfl)));obtain⟨i,j,e,⟨q1,q2,q3,q4⟩,q⟩:=q1;subst e;cases r1 with
 | cons r rr=>
  cases rr with
  | cons r' rr=>
   cases rr;obtain⟨t,rfl⟩:=r;obtain⟨t',rfl⟩:=r';exact call_range_2 (Fp I1 q1 q2 q3 q4 q)
noncomputable def Zg (wi:TI)(g:TG)(tb:TS):TS:=fun D σ H=>wi σ H fun J H1=>∃W:Nat->Nat->St->Hp->Prop,(∃m,W 0 m σ H1)/\∀i m σ H,W i m σ H ->
 (J.stop i H/\D.nx σ H)\/(J.go i H/\∃N:St->Hp->Prop,(∀σ' H',N σ' H'->∃m',m'<m/\W (i+1) m' σ' H')/\∀x H',J.yld i H x H'->g x σ H' fun σ2 H2=>tb { D with nx:=N,ct:=N,bk:=D.nx } σ2 H2)
noncomputable def iV (fp:List Addr)(h:Heap):List (Addr×Obj):=fp.filterMap fun b=>(h.get? b).map fun o=>(b,o)
theorem kj {fp:List Addr}{h:Heap}{b:Addr}{o:Obj}(hb:b∈fp)(e:h.get? b=some o):(b,o)∈iV fp h:=List.mem_filterMap.mpr ⟨b,hb,by rw[e];rfl⟩
theorem qe {fp:List Addr}{h:Heap}{p:Addr×Obj}(hp:p∈iV fp h):p.1∈fp/\h.get? p.1=some p.2:=by
 obtain⟨b,hb,e⟩:=List.mem_filterMap.mp hp;cases q:h.get? b with
 | none=>rw[q] at e;cases e
 | some o=>
  rw[q] at e;have e':(b,o)=p:=BN e;subst e';exact⟨hb,q⟩
theorem Inv.pinned {pins:List (Addr×Obj)}{σ:St}{H:Hp}{s:AB}{fp:List Addr}(I:Inv X pins σ H s)(hf:∀b∈fp,ug X pins H b)(ho:∀b∈fp,∃o,s.heap.get? b=some o/\∀v,o.data≠.cell v):Inv X (pins++iV fp s.heap) σ H s:=
 I.lE fun p hp=>(CI.mp hp).elim (fun z=>I.pin p (BB _ z)) fun z=>by
  obtain⟨hb,e⟩:=qe z;obtain⟨f0,f1,f2,_⟩:=hf p.1 hb;obtain⟨o,e',d⟩:=ho p.1 hb;rw[e] at e';cases e';exact⟨e,f0,f1,f2,d⟩
theorem Inv.lV {pins pl:List (Addr×Obj)}{σ:St}{H:Hp}{s:AB}(I:Inv X (pins++pl) σ H s):Inv X pins σ H s:=I.lE fun p hp=>I.pin p (BB _ (G2 _ hp))
theorem ZR {iter:Expr}{body:List Stmt}{wi:TI}{g:TG}{tb:TS}{pos:Pos}(hp:PassesOwn (AW X.prog X.w) X.A X.env X.xe)(hc:X.calm=true)(hi:PI X tg iter wi)(hg:PG X tg g)(hb:PSs X body tb)
  (hs:∀x,D5 iter X.env x=pure x:=by intro _;rfl):PS X (.For tg iter body [] pos) (Zg wi g tb):=by
 intro pins s σ H D I h;refine wpAny_For (thn (hi pins s σ H _ I h) fun v s1 h1=>thn h1 fun itv s2 h2=>?_) hs;obtain⟨it,fp,tn,J,H2,e,I2,T,st2,f2,W,⟨m0,w0⟩,turn⟩:=h2;subst e
 -- what stays true of the iterator's objects through the loop
 have stat:∀{H':Hp},(∀b∈fp,H' b=none)->∀b∈fp,ug X pins H' b:=fun hn b hb=>⟨hn b hb,(f2 b hb).2⟩;refine codeAny_forLoop_any (fun n s'=>∃i σ' H',Inv X pins σ' H' s'/\tn i s'.heap/\(∀b∈fp,H' b=none)/\W i n σ' H') ?_ m0 ⟨0,σ,H2,I2,st2,fun b hb=>(f2 b hb).1,w0⟩;rintro n s3 ⟨i,σ3,H3,I3,st3,fr3,w3⟩;rcases turn i n σ3 H3 w3 with⟨stop,qn⟩|⟨go,N,hN,step⟩
 ·refine Fs hp (thn (T.done X rfl rfl rfl hc i pins s3 σ3 H3 X.xe I3 (stat fr3) st3 stop) fun r s4 ⟨hr,I4⟩=>?_);subst hr;exact JE ⟨σ3,H3,I4,qn⟩
 refine Fs hp (thn (T.item X rfl rfl rfl hc i pins s3 σ3 H3 X.xe I3 (stat fr3) st3 go) fun r s4 ⟨u,hr,h4⟩=>?_);subst hr;refine Fs hp (thn h4 fun _ s5 ⟨x,H5,I5,r5,y5,st5,fr5⟩=>?_);have I5':=I5.pinned (stat fr5) (T.obj _ _ st5);refine Fs hp (thn (hg _ s5 σ3 H5 x u _ I5' r5 (step x H5 y5)) fun _ s6 ⟨σ6,H6,I6,q6⟩=>?_);refine Fs hp (thn (hb _ s6 σ6 H6 _ I6 q6) fun f s7 q7=>?_);have JJ:∀{σ7:St}{H7:Hp},Inv X (pins++iV fp s5.heap) σ7 H7 s7->N σ7 H7->∃m,m<n/\∃i σ' H',Inv X pins σ' H' s7/\tn i s7.heap/\(∀b∈fp,H' b=none)/\W i m σ' H':=fun {σ7 H7} I7 n7=>by
  obtain⟨m',hm,w7⟩:=hN σ7 H7 n7;refine⟨m',hm,i+1,σ7,H7,I7.lV,T.keep _ _ _ st5 fun b hb o e=>(I7.pin (b,o) (BB _ (BB _ (kj hb e)))).1,fun b hb=>?_,w7⟩;obtain⟨o,e,d⟩:=T.obj _ _ st5 b hb;exact(I7.pin (b,o) (BB _ (BB _ (kj hb e)))).2.1
 cases f with
 | next=>obtain⟨σ7,H7,I7,n7⟩:=q7;exact JJ I7 n7
 | cont=>obtain⟨σ7,H7,I7,n7⟩:=q7;exact JJ I7 n7
 | brk=>obtain⟨σ7,H7,I7,q7⟩:=q7;exact⟨σ7,H7,I7.lV,q7⟩
 | ret v=>obtain⟨x7,σ7,H7,I7,r7,q7⟩:=q7;exact⟨x7,σ7,H7,I7.lV,r7,q7⟩
end
theorem Uy {K:AD}{a:Addr}{xs:List V}{g:TG}{tb:TS}{D:Ends}{σ:St}{H:Hp}(Pv:Nat->St->Hp->Prop)(h0:Pv 0 σ H)(hl:∀i σ H,i<=xs.length->Pv i σ H->SqL K H a xs)
  (hs:∀i x σ H,xs[i]?=some x->Pv i σ H->g x σ H fun σ2 H2=>tb { D with nx:=Pv (i+1),ct:=Pv (i+1),bk:=D.nx } σ2 H2) (hd:∀σ H,Pv xs.length σ H->D.nx σ H) :
  ∃W:Nat->Nat->St->Hp->Prop,(∃m,W 0 m σ H)/\∀i m σ H,W i m σ H ->
   ((Itl K a).stop i H/\D.nx σ H)\/((Itl K a).go i H/\∃N:St->Hp->Prop,(∀σ' H',N σ' H'->∃m',m'<m/\W (i+1) m' σ' H')/\∀x H',(Itl K a).yld i H x H'->g x σ H' fun σ2 H2=>tb { D with nx:=N,ct:=N,bk:=D.nx } σ2 H2):=by
 refine⟨fun i m σ H=>m=xs.length-i/\i<=xs.length/\Pv i σ H,⟨xs.length,by simp,EN _,h0⟩,?_⟩;rintro i m σ H ⟨rfl,hi,p⟩;have q:=hl i σ H hi p;by_cases hlt:i<xs.length
 ·refine .inr ⟨⟨xs,xs[i],q,by simp [hlt]⟩,Pv (i+1),fun σ' H' p'=>⟨xs.length-(i+1),ω,rfl,hlt,p'⟩,fun x H' y=>?_⟩;obtain⟨e,y⟩:=y;subst e;exact hs i x σ _ (y xs q) p
 have e:i=xs.length:=ω;subst e;exact .inl ⟨⟨xs,q,AZ _⟩,hd σ H p⟩
theorem O3 {lo:Int}{n:Nat}{g:TG}{tb:TS}{D:Ends}{σ:St}{H:Hp}(Pv:Nat->St->Hp->Prop)(h0:Pv 0 σ H)
  (hs:∀i σ H,i<n->Pv i σ H->g (.int (lo+i)) σ H fun σ2 H2=>tb { D with nx:=Pv (i+1),ct:=Pv (i+1),bk:=D.nx } σ2 H2) (hd:∀σ H,Pv n σ H->D.nx σ H) :
  ∃W:Nat->Nat->St->Hp->Prop,(∃m,W 0 m σ H)/\∀i m σ H,W i m σ H ->
   ((Itr lo n).stop i H/\D.nx σ H)\/((Itr lo n).go i H/\∃N:St->Hp->Prop,(∀σ' H',N σ' H'->∃m',m'<m/\W (i+1) m' σ' H')/\∀x H',(Itr lo n).yld i H x H'->g x σ H' fun σ2 H2=>tb { D with nx:=N,ct:=N,bk:=D.nx } σ2 H2):=by
 refine⟨fun i m σ H=>m=n-i/\i<=n/\Pv i σ H,⟨n,by simp,EN _,h0⟩,?_⟩;rintro i m σ H ⟨rfl,hi,p⟩;by_cases hlt:i<n
 ·refine .inr ⟨hlt,Pv (i+1),fun σ' H' p'=>⟨n-(i+1),ω,rfl,hlt,p'⟩,fun x H' y=>?_⟩;obtain⟨e,y⟩:=y;subst e y;exact hs i σ _ hlt p
 have e:i=n:=ω;subst e;exact .inl ⟨AZ _,hd σ H p⟩
noncomputable abbrev R2:=V->V->Hp->VK->Prop
noncomputable def OpR (X:Cx)(f:Ap->Ap->Sem Ap)(r:R2):Prop:=
 ∀(pins:List (Addr×Obj)) (s:AB) (σ:St) (H:Hp) (x y:V) (v u:Ap) (Q:VK),Inv X pins σ H s->RelV x v->RelV y u->r x y H Q ->
  AG (AW X.prog X.w) X.A (f v u) (EP X pins σ Q) X.xe s
noncomputable def UnR (X:Cx)(f:Ap->Sem Ap)(r:V->Hp->VK->Prop):Prop:=
 ∀(pins:List (Addr×Obj)) (s:AB) (σ:St) (H:Hp) (x:V) (v:Ap) (Q:VK),Inv X pins σ H s->RelV x v->r x H Q ->
  AG (AW X.prog X.w) X.A (f v) (EP X pins σ Q) X.xe s
noncomputable def fL (X:Cx)(f:Ap)(r:List V->Hp->VK->Prop):Prop:=
 ∀(pins:List (Addr×Obj)) (s:AB) (σ:St) (H:Hp) (xs:List V) (us:List Ap) (Q:VK),Inv X pins σ H s->Vals xs us->r xs H Q ->
  AG (AW X.prog X.w) X.A (call f us) (EP X pins σ Q) X.xe s
noncomputable def ab8 (X:Cx)(r:V->Hp->(Bool->Hp->Prop)->Prop):Prop:=
 ∀(pins:List (Addr×Obj)) (s:AB) (σ:St) (H:Hp) (x:V) (v:Ap) (Q:Bool->Hp->Prop),Inv X pins σ H s->RelV x v->r x H Q ->
  AG (AW X.prog X.w) X.A (truthy v) (TP X pins σ Q) X.xe s
noncomputable def tOp (r:R2)(ta tb:TE):TE:=fun σ H Q=>ta σ H fun x H1=>tb σ H1 fun y H2=>r x y H2 Q
noncomputable def tUn (r:V->Hp->VK->Prop)(ta:TE):TE:=fun σ H Q=>ta σ H fun x H1=>r x H1 Q
noncomputable def rI (C:Int->Int->Prop)(g:Int->Int->V):R2:=fun x y H Q=>∃i j,x=.int i/\y=.int j/\C i j/\Q (g i j) H
noncomputable def rI0 (g:Int->Int->V):R2:=fun x y H Q=>∃i j,x=.int i/\y=.int j/\Q (g i j) H
noncomputable def rU (g:Int->V):V->Hp->VK->Prop:=fun x H Q=>∃i,x=.int i/\Q (g i) H
section
variable {X:Cx}{a b c:Expr}{ta tb tc:TE}{pos:Pos}
theorem aaT (ha:PE X a ta)(hb:PE X b tb){pins:List (Addr×Obj)}{s:AB}{σ:St}{H:Hp}{R:V->V->Hp->Prop}(I:Inv X pins σ H s)
  (h:ta σ H fun x H1=>tb σ H1 fun y H2=>R x y H2) {Q:Ap->AB->Prop} {f:Ap->Ap->Sem Ap}
  (hf:∀v u s2 x y H2,Inv X pins σ H2 s2->RelV x v->RelV y u->R x y H2->AG (AW X.prog X.w) X.A (f v u) Q X.xe s2) :
  AG (AW X.prog X.w) X.A (eval a X.env) (fun v s₁=>AG (AW X.prog X.w) X.A (eval b X.env) (fun u s₂=>AG (AW X.prog X.w) X.A (f v u) Q X.xe s₂) X.xe s₁) X.xe s:=by
 refine thE (ha pins s σ H _ I h) fun v s1 x H1 I1 r1 q1=>?_;refine thE (hb pins s1 σ H1 _ I1 q1) fun u s2 y H2 I2 r2 q2=>?_;exact hf v u s2 x y H2 I2 r1 r2 q2
theorem abm {op:Operator}{r:R2}(ho:OpR X (Ev op) r)(ha:PE X a ta)(hb:PE X b tb):PE X (.BinOp a op b pos) (tOp r ta tb):=by
 intro pins s σ H Q I h;exact wpAny_BinOp (aaT ha hb I h fun v u s2 x y H2 I2 rx ry q=>ho pins s2 σ H2 x y v u Q I2 rx ry q)
theorem abl {op:UnaryOp}{r:V->Hp->VK->Prop}(ho:UnR X (unaryOp op) r)(ha:PE X a ta):PE X (.UnaryOp op a pos) (tUn r ta):=by
 intro pins s σ H Q I h;exact UnaryOp_ (thE (ha pins s σ H _ I h) fun v s1 x H1 I1 r1 q1=>ho pins s1 σ H1 x v Q I1 r1 q1)
theorem opI {f:Ap->Ap->Sem Ap}{C:Int->Int->Prop}{g:Int->Int->Int}
  (rule:∀(i j:Int)(t u:Tok)(s:AB)(Q:Ap->AB->Prop)(E:Ap->AB->Prop),C i j->Q (.int (g i j) s.toks) { s with toks:=s.toks+1 }->AG (AW X.prog X.w) X.A (f (.int i t) (.int j u)) Q E s) :
  OpR X f (rI C fun i j=>.int (g i j)):=by
 intro pins s σ H x y v u Q I rx ry h;obtain⟨i,j,rfl,rfl,hc,q⟩:=h;obtain⟨t,rfl⟩:=rx;obtain⟨t',rfl⟩:=ry;exact rule i j t t' s _ _ hc ⟨.int (g i j),H,I.tok _,⟨_,rfl⟩,q⟩
theorem aam {f:Ap->Ap->Sem Ap}{g:Int->Int->Int}
  (rule:∀(i j:Int)(t u:Tok)(s:AB)(Q:Ap->AB->Prop)(E:Ap->AB->Prop),Q (.int (g i j) s.toks) { s with toks:=s.toks+1 }->AG (AW X.prog X.w) X.A (f (.int i t) (.int j u)) Q E s) :
  OpR X f (rI0 fun i j=>.int (g i j)):=by
 intro pins s σ H x y v u Q I rx ry h;obtain⟨i,j,rfl,rfl,q⟩:=h;obtain⟨t,rfl⟩:=rx;obtain⟨t',rfl⟩:=ry;exact rule i j t t' s _ _ ⟨.int (g i j),H,I.tok _,⟨_,rfl⟩,q⟩
theorem Xr {f:Ap->Ap->Sem Ap}{g:Int->Int->Bool}
  (rule:∀(i j:Int)(t u:Tok)(s:AB)(Q:Ap->AB->Prop)(E:Ap->AB->Prop),Q (.bool (g i j)) s->AG (AW X.prog X.w) X.A (f (.int i t) (.int j u)) Q E s) :
  OpR X f (rI0 fun i j=>.bl (g i j)):=by
 intro pins s σ H x y v u Q I rx ry h;obtain⟨i,j,rfl,rfl,q⟩:=h;obtain⟨t,rfl⟩:=rx;obtain⟨t',rfl⟩:=ry;exact rule i j t t' s _ _ ⟨.bl (g i j),H,I,rfl,q⟩
noncomputable def YL (i j:Int):Prop:=0<=j/\j<=1000000/\i.natAbs<2^64
noncomputable def PN (i j:Int):Prop:=(-(2^64)<i/\i<2^64)\/(-(2^64)<j/\j<2^64)
theorem PN.ok {i j:Int}(h:PN i j):IntMulOk i j:=by
 rcases h with⟨h1,h2⟩|⟨h1,h2⟩
 ·exact .of_left (intBits_le_64 h1 h2)
 exact .of_right (intBits_le_64 h1 h2)
theorem HX (k:Nat):(0:Int)<=2^k:=by
 rw[two_pow_cast];exact Int.natCast_nonneg _
theorem aal:OpR X (Ev .Add) (rI0 fun i j=>.int (i+j)):=aam fun _ _ _ _ _ _ _ q=>add_int q
theorem fP:OpR X (Ev .Sub) (rI0 fun i j=>.int (i-j)):=aam fun _ _ _ _ _ _ _ q=>sub_int q
theorem aah:OpR X (Ev .Mult) (rI PN fun i j=>.int (i*j)):=opI fun _ _ _ _ _ _ _ hc q=>mul_int q hc.ok
theorem iW:OpR X (Ev .Mod) (rI (fun _ j=>0<j) fun i j=>.int (i%j)):=opI fun i j _ _ _ _ _ hc q=>by
 have h1:(0:Int)<j:=hc;exact mod_int' ω (by rw[Int.fmod_eq_emod_of_nonneg i ω];exact q)
theorem qY:OpR X (Ev .Pow) (rI YL fun i j=>.int (i^j.toNat)):=opI fun _ _ _ _ _ _ _ hc q=>pow_int_small hc.1 hc.2.1 hc.2.2 q
theorem j7:OpR X (Ev .LShift) (rI YL fun i j=>.int (i*2^j.toNat)):=opI fun _ _ _ _ _ _ _ hc q=>lshift_int_small hc.1 hc.2.1 hc.2.2 q
theorem aae:OpR X (Ev .RShift) (rI (fun _ j=>0<=j) fun i j=>.int (i/2^j.toNat)):=opI fun i j _ _ _ _ _ hc q=>
 rshift_int hc (by rw[Int.fdiv_eq_ediv_of_nonneg i (HX _)];exact q)
theorem Sx:OpR X (Ev .BitAnd) (rI0 fun i j=>.int (AI.bitAnd i j)):=aam fun _ _ _ _ _ _ _ q=>and_int q
theorem unI {f:Ap->Sem Ap}{g:Int->Int}
  (rule:∀(i:Int)(t:Tok)(s:AB)(Q:Ap->AB->Prop)(E:Ap->AB->Prop),Q (.int (g i) s.toks) { s with toks:=s.toks+1 }->AG (AW X.prog X.w) X.A (f (.int i t)) Q E s) :
  UnR X f (rU fun i=>.int (g i)):=by
 intro pins s σ H x v Q I rx h;obtain⟨i,rfl,q⟩:=h;obtain⟨t,rfl⟩:=rx;exact rule i t s _ _ ⟨.int (g i),H,I.tok _,⟨_,rfl⟩,q⟩
theorem mW:UnR X (unaryOp .USub) (rU fun i=>.int (-i)):=unI fun _ _ _ _ _ q=>neg_int q
end
noncomputable def VR:V->V->Bool
 | .non,.non=>true | .non,.int _=>true | .int _,.non=>true | .non,.bl _=>true | .bl _,.non=>true | .non,.str _=>true | .str _,.non=>true
 | .int _,.int _=>true | .bl _,.bl _=>true | .str _,.str _=>true | .byt _,.byt _=>true
 | .int _,.str _=>true | .str _,.int _=>true | .bl _,.str _=>true | .str _,.bl _=>true
 | _,_=>false
noncomputable def rEq:R2:=fun x y H Q=>VR x y=true/\Q (.bl (decide (x=y))) H
noncomputable def rNe:R2:=fun x y H Q=>VR x y=true/\Q (.bl (!decide (x=y))) H
theorem Mq {i j:Int}:decide (V.int i=V.int j)=(i == j):=by
 rw[Hb];simp
theorem U5 {i j:Bool}:decide (V.bl i=V.bl j)=(i == j):=by
 rw[Hb];simp
theorem Mp {i j:Str}:decide (V.str i=V.str j)=(i == j):=by
 rw[Hb];simp
theorem Mr {i j:Array UInt8}:decide (V.byt i=V.byt j)=(i.toList == j.toList):=by
 rw[Hb];cases i;cases j;simp
section
variable {X:Cx}{a b c:Expr}{ta tb tc:TE}{pos:Pos}
theorem cF {pins:List (Addr×Obj)}{σ:St}{H:Hp}{s:AB}{Q:VK}{k k':Bool}(I:Inv X pins σ H s)(q:Q (.bl k) H)(e:k=k'):EP X pins σ Q (.bool k') s:=by
 subst e;exact⟨.bl k,H,I,rfl,q⟩
theorem abx:OpR X (CH .Eq) rEq:=by
 intro pins s σ H x y v u Q I rx ry h;obtain⟨hs,q⟩:=h;cases x with
 | non=>
  cases rx;cases y with
  | non=>cases ry;exact PySem.EqNone.eq_none_none (cF I q (by simp))
  | bl j=>cases ry;exact PySem.EqNone.eq_none_bool (cF I q (by simp))
  | int j=>obtain⟨t',rfl⟩:=ry;exact PySem.EqNone.eq_none_int (cF I q (by simp))
  | str j=>obtain⟨t',rfl⟩:=ry;exact PySem.EqNone.eq_none_str (cF I q (by simp))
  | _=>exact absurd (show false=true from hs) A3
 | bl i=>
  cases rx;cases y with
  | non=>cases ry;exact PySem.EqNone.eq_bool_none (cF I q (by simp))
  | bl j=>cases ry;exact eq_bool (cF I q U5)
  | str j=>obtain⟨t',rfl⟩:=ry;exact PySem.EqMixed.eq_bool_str (cF I q (by simp))
  | _=>exact absurd (show false=true from hs) A3
 | int i=>
  obtain⟨t,rfl⟩:=rx;cases y with
  | non=>cases ry;exact PySem.EqNone.eq_int_none (cF I q (by simp))
  | int j=>obtain⟨t',rfl⟩:=ry;exact eq_int (cF I q Mq)
  | str j=>obtain⟨t',rfl⟩:=ry;exact PySem.EqMixed.eq_int_str (cF I q (by simp))
  | _=>exact absurd (show false=true from hs) A3
 | str i=>
  obtain⟨t,rfl⟩:=rx;cases y with
  | non=>cases ry;exact PySem.EqNone.eq_str_none (cF I q (by simp))
  | bl j=>cases ry;exact PySem.EqMixed.eq_str_bool (cF I q (by simp))
  | int j=>obtain⟨t',rfl⟩:=ry;exact PySem.EqMixed.eq_str_int (cF I q (by simp))
  | str j=>obtain⟨t',rfl⟩:=ry;exact eq_str (cF I q Mp)
  | _=>exact absurd (show false=true from hs) A3
 | byt i=>
  obtain⟨t,rfl⟩:=rx;cases y with
  | byt j=>obtain⟨t',rfl⟩:=ry;exact PySem.W.eq_bytes (cF I q Mr)
  | _=>exact absurd (show false=true from hs) A3
 | _=>cases y <;> exact absurd (show false=true from hs) A3
theorem abv:OpR X (CH .NotEq) rNe:=by
 intro pins s σ H x y v u Q I rx ry h;obtain⟨hs,q⟩:=h;cases x with
 | non=>
  cases rx;cases y with
  | non=>cases ry;exact PySem.EqNone.ne_none_none (cF I q (by simp))
  | bl j=>cases ry;exact PySem.EqNone.ne_none_bool (cF I q (by simp))
  | int j=>obtain⟨t',rfl⟩:=ry;exact PySem.EqNone.ne_none_int (cF I q (by simp))
  | str j=>obtain⟨t',rfl⟩:=ry;exact PySem.EqNone.ne_none_str (cF I q (by simp))
  | _=>exact absurd (show false=true from hs) A3
 | bl i=>
  cases rx;cases y with
  | non=>cases ry;exact PySem.EqNone.ne_bool_none (cF I q (by simp))
  | bl j=>cases ry;exact ne_bool (cF I q (congrArg not U5))
  | str j=>obtain⟨t',rfl⟩:=ry;exact PySem.EqMixed.ne_bool_str (cF I q (by simp))
  | _=>exact absurd (show false=true from hs) A3
 | int i=>
  obtain⟨t,rfl⟩:=rx;cases y with
  | non=>cases ry;exact PySem.EqNone.ne_int_none (cF I q (by simp))
  | int j=>obtain⟨t',rfl⟩:=ry;exact ne_int (cF I q (congrArg not Mq))
  | str j=>obtain⟨t',rfl⟩:=ry;exact PySem.EqMixed.ne_int_str (cF I q (by simp))
  | _=>exact absurd (show false=true from hs) A3
 | str i=>
  obtain⟨t,rfl⟩:=rx;cases y with
  | non=>cases ry;exact PySem.EqNone.ne_str_none (cF I q (by simp))
  | bl j=>cases ry;exact PySem.EqMixed.ne_str_bool (cF I q (by simp))
  | int j=>obtain⟨t',rfl⟩:=ry;exact PySem.EqMixed.ne_str_int (cF I q (by simp))
  | str j=>obtain⟨t',rfl⟩:=ry;exact ne_str (cF I q (congrArg not Mp))
  | _=>exact absurd (show false=true from hs) A3
 | byt i=>
  obtain⟨t,rfl⟩:=rx;cases y with
  | byt j=>obtain⟨t',rfl⟩:=ry;exact PySem.W.ne_bytes (cF I q (congrArg not Mr))
  | _=>exact absurd (show false=true from hs) A3
 | _=>cases y <;> exact absurd (show false=true from hs) A3
theorem qK:OpR X (CH .Lt) (rI0 fun i j=>.bl (decide (i<j))):=Xr fun _ _ _ _ _ _ _ q=>lt_int q
theorem Bd:OpR X (CH .LtE) (rI0 fun i j=>.bl (decide (i<=j))):=Xr fun _ _ _ _ _ _ _ q=>le_int q
theorem Bf:OpR X (CH .Gt) (rI0 fun i j=>.bl (decide (j<i))):=Xr fun _ _ _ _ _ _ _ q=>gt_int q
theorem abw:OpR X (CH .GtE) (rI0 fun i j=>.bl (decide (j<=i))):=Xr fun _ _ _ _ _ _ _ q=>ge_int q
theorem aQ (b:Expr){op:CmpOp}(h:op≠.In:=by decide)(h2:op≠.NotIn:=by decide):GS op b=false:=by
 have e1:(op == CmpOp.In)=false:=by cases op <;> first|rfl|exact absurd rfl h
 have e2:(op == CmpOp.NotIn)=false:=by cases op <;> first|rfl|exact absurd rfl h2
 cases b <;> simp [GS,e1,e2]
theorem Xi {op:CmpOp}{r:R2}(ho:OpR X (CH op) r)(ha:PE X a ta)(hb:PE X b tb)(hm:GS op b=false):PE X (.Compare a [op] [b] pos) (tOp r ta tb):=by
 intro pins s σ H Q I h;exact wpAny_Compare1 (aaT ha hb I h fun v u s2 x y H2 I2 rx ry q=>ho pins s2 σ H2 x y v u Q I2 rx ry q) hm
noncomputable def Es (t:TE):TT:=fun σ H Q=>t σ H fun x H'=>∃k,x=.bl k/\Q k H'
theorem Wt {op:CmpOp}{r:R2}(ho:OpR X (CH op) r)(ha:PE X a ta)(hb:PE X b tb)(hm:GS op b=false):PT X (.Compare a [op] [b] pos) (Es (tOp r ta tb)):=by
 intro pins s σ H Q I h;refine wpAny_isTrue_Compare1 (thE (ha pins s σ H _ I h) fun v s1 x H1 I1 r1 q1=>thE (hb pins s1 σ H1 _ I1 q1) fun u s2 y H2 I2 r2 q2=>
  thn (ho pins s2 σ H2 x y v u _ I2 r1 r2 q2) fun c s3 ⟨z,H3,I3,r3,k,e,q3⟩=>?_) hm
 subst e;cases r3;exact FC ⟨H3,I3,q3⟩
noncomputable def Ik (r r':R2)(ta tb tc:TE):TE:=fun σ H Q=>ta σ H fun x H1=>tb σ H1 fun y H2=>r x y H2 fun z H3=>∃k,z=.bl k /\
 (if k=true then tc σ H3 fun w' H4=>r' y w' H4 Q else Q (.bl false) H3)
theorem Sq {op op':CmpOp}{r r':R2}(ho:OpR X (CH op) r)(ho':OpR X (CH op') r')(ha:PE X a ta)(hb:PE X b tb)(hc:PE X c tc)
  (hm:lastMarks [op,op'] [b,c]=false:=by with_unfolding_all rfl):PE X (.Compare a [op,op'] [b,c] pos) (Ik r r' ta tb tc):=by
 intro pins s σ H Q I h;refine Compare_chain (thE (ha pins s σ H _ I h) fun v s1 x H1 I1 r1 q1=>chain_link (thE (hb pins s1 σ H1 _ I1 q1) fun u s2 y H2 I2 r2 q2=>
  thn (ho pins s2 σ H2 x y v u _ I2 r1 r2 q2) fun d s3 ⟨z,H3,I3,r3,k,e,q3⟩=>?_)) hm
 subst e;cases r3;refine FC ?_;cases k with
 | false=>exact ite_ff ⟨.bl false,H3,I3,rfl,q3⟩
 | true=>exact ite_tt (chain_last (thn (hc pins s3 σ H3 _ I3 q3) fun w' s4 ⟨z',H4,I4,r4,q4⟩=>ho' pins s4 σ H4 y z' u w' Q I4 r2 r4 q4))
noncomputable def ab7 (K:AD)(x:V)(H:Hp)(k:Bool):Prop:=
 match x with
 | .non=>k=false
 | .bl b=>k=b
 | .int i=>k=(i != 0)
 | .str y=>y.length<=AL/\k=((y.length:Int) != 0)
 | .byt y=>y.size<=AL/\k=((y.size:Int) != 0)
 | .ref p=>(∃xs,SqL K H p xs/\k=!xs.isEmpty)\/(∃xs,SqT K H p xs/\k=!xs.isEmpty)\/∃kvs,H p=some (.dK kvs)/\k=!kvs.isEmpty
 | _=>False
theorem JC {κ:Type}{kvs:List (κ×V)}{vs:List (κ×Ap)}(r:KV kvs vs):(!vs.isEmpty)=!kvs.isEmpty:=by
 cases r <;> rfl
theorem yC {xs:List V}{its:List Ap}(r:Vals xs its):(!its.toArray.isEmpty)=!xs.isEmpty:=by
 cases r <;> simp
theorem yw:(AL:Nat)<2^63:=by rw[Kb];decide
theorem Zc:ab8 X (fun x H Q=>∃k,ab7 X.K x H k/\Q k H):=by
 intro pins s σ H x v Q I rx h;obtain⟨k,e,q⟩:=h;have hl:=yw;have hs:AL=16777216:=Kb;cases x with
 | non=>
  cases rx;have e':k=false:=e;subst e';exact truthy_none ⟨H,I,q⟩
 | bl b=>
  cases rx;have e':k=b:=e;subst e';exact FC ⟨H,I,q⟩
 | int i=>
  obtain⟨t,rfl⟩:=rx;have e':k=(i != 0):=e;subst e';exact PySem.P.truthy_int ⟨H,I,q⟩
 | str y=>
  obtain⟨t,rfl⟩:=rx;obtain⟨hy,e'⟩:y.length<=AL/\k=((y.length:Int) != 0):=e;subst e';exact PySem.P.truthy_str ω ⟨H,I.tok _,q⟩
 | byt y=>
  obtain⟨t,rfl⟩:=rx;obtain⟨hy,e'⟩:y.size<=AL/\k=((y.size:Int) != 0):=e;subst e';exact PySem.W.truthy_bytes ω ⟨H,I.tok _,q⟩
 | ref p=>
  cases rx;have e':(∃xs,SqL X.K H p xs/\k=!xs.isEmpty)\/(∃xs,SqT X.K H p xs/\k=!xs.isEmpty)\/∃kvs,H p=some (.dK kvs)/\k=!kvs.isEmpty:=e;rcases e' with⟨xs,hx,e'⟩|⟨xs,hx,e'⟩|⟨kvs,hx,e'⟩
  ·subst e';obtain⟨its,r,pl,hz⟩:=I.list hx;have hlen:=r.length;exact wpAny_truthy_list pl.isList (by simp only[AX];omega) ⟨H,I.tok _,by rw[yC r];exact q⟩
  ·subst e';obtain⟨its,r,pl,hz⟩:=I.tuple hx;have hlen:=r.length;exact truthy_tuple pl (by simp only[AX];omega) ⟨H,I.tok _,by rw[yC r];exact q⟩
  subst e';obtain⟨hz,hS,vs,r,m⟩:kvs.length<=AL/\(p == C2)=false/\∃vs,KV kvs vs/\s.heap.DictOf (aP X.prog X.w) p vs:=I.hok p _ hx;have hlen:kvs.length=vs.length:=K2 r;exact wpAny_truthy_dict hS m ω ⟨H,I.tok _,by rw[JC r];exact q⟩
 | _=>exact(show False from e).elim
theorem vals1 {x:V}{us:List Ap}(r:Vals [x] us):∃u,us=[u]/\RelV x u:=by
 cases r with
 | cons r1 r2=>cases r2;exact⟨_,rfl,r1⟩
theorem vals2 {x y:V}{us:List Ap}(r:Vals [x,y] us):∃u w',us=[u,w']/\RelV x u/\RelV y w':=by
 cases r with
 | cons r1 r2=>
  cases r2 with
  | cons r3 r4=>cases r4;exact⟨_,_,rfl,r1,r3⟩
theorem Hh:fL X (.builtin "abs") (fun xs H Q=>∃i,xs=[.int i]/\Q (.int (if i<0 then -i else i)) H):=by
 intro pins s σ H xs us Q I r h;obtain⟨i,rfl,q⟩:=h;obtain⟨u,rfl,t,rfl⟩:=vals1 r;exact call_abs_int fun u tk=>⟨.int (if i<0 then -i else i),H,I.tok _,⟨_,rfl⟩,q⟩
theorem Pu (hc:X.calm=true):fL X (.builtin "max") (fun xs H Q=>∃i j,xs=[.int i,.int j]/\Q (.int (if j>i then j else i)) H):=by
 intro pins s σ H xs us Q I r h;obtain⟨i,j,rfl,q⟩:=h;obtain⟨u,w',rfl,⟨t,rfl⟩,⟨t',rfl⟩⟩:=vals2 r;refine max_two_ints (I.ok.hd hc) fun h' tk k=>⟨_,H,I.kept k,?_,q⟩;by_cases hj:j>i
 ·rw[if_pos hj,if_pos hj];exact⟨_,rfl⟩
 rw[if_neg hj,if_neg hj];exact⟨_,rfl⟩
theorem Pr (hc:X.calm=true):fL X (.builtin "min") (fun xs H Q=>∃i j,xs=[.int i,.int j]/\Q (.int (if j<i then j else i)) H):=by
 intro pins s σ H xs us Q I r h;obtain⟨i,j,rfl,q⟩:=h;obtain⟨u,w',rfl,⟨t,rfl⟩,⟨t',rfl⟩⟩:=vals2 r;refine min_two_ints (I.ok.hd hc) fun h' tk k=>⟨_,H,I.kept k,?_,q⟩;by_cases hj:j<i
 ·rw[if_pos hj,if_pos hj];exact⟨_,rfl⟩
 rw[if_neg hj,if_neg hj];exact⟨_,rfl⟩
theorem Bv:fL X (.type "int") (fun xs H Q=>(∃i,xs=[.int i]/\Q (.int i) H)\/∃k,xs=[.bl k]/\Q (.int (if k then 1 else 0)) H):=by
 intro pins s σ H xs us Q I r h;rcases h with⟨i,rfl,q⟩|⟨k,rfl,q⟩
 ·obtain⟨u,rfl,t,rfl⟩:=vals1 r;exact call_int_int ⟨.int i,H,I,⟨_,rfl⟩,q⟩
 obtain⟨u,rfl,r1⟩:=vals1 r;cases r1;exact call_int_bool ⟨.int (if k then 1 else 0),H,I.tok _,⟨_,rfl⟩,q⟩
end
structure aaX (h:Heap)(x dx C:Addr)(mA:Str->Option Ap):Prop where
 obj:h.get? x=some (PySem.W.instObj C dx)
 ns:h.Ns1 dx mA
 ne:dx≠x
theorem Og {h:Heap}{dx:Addr}{mA:Str->Option Ap}(n:h.Ns1 dx mA):∃od,h.get? dx=some od/\∀name,PySem.W.lookIn name od=some (mA name):=by
 obtain⟨o,es,ep,ho,hd,hk,_,hm⟩:=n;refine⟨o,ho,fun name=>?_⟩;have e:=hm name;unfold nsFind findBy at e;rw[<- Array.find?_toList] at e;unfold PySem.W.lookIn;rw[hd];dsimp only;split
 ·rename_i y q;rw[q] at e;exact congrArg some e
 rename_i q;rw[q] at e;have a:es.toList.any (·.refKey)=false:=by
  rw[List.any_eq_false];intro y hy;obtain⟨z,t,hkey⟩:=hk y (Array.mem_toList_iff.mp hy);simp [DictEntry.refKey,hkey]
 have a':¬es.toList.any (·.refKey)=true:=by rw[a];exact A3
 rw[if_neg a'];exact congrArg some e
theorem aaX.look {h:Heap}{x dx C:Addr}{mA:Str->Option Ap}(I:aaX h x dx C mA):∃od,PySem.W.InstAt h x (PySem.W.instObj C dx) C (some od)/\∀name,PySem.W.lookIn name od=some (mA name):=
 let ⟨od,ho,hl⟩:=Og I.ns
 ⟨od,⟨I.obj,rfl,rfl,ho⟩,hl⟩
theorem yZ.some_of {v:V}{o:Option Ap}(r:yZ (some v) o):∃u,o=some u/\RelV v u:=by
 cases o with
 | none=>exact(show False from r).elim
 | some u=>exact⟨u,rfl,r⟩
section
variable {P:AR}{w:Bi}{H H':Hp}{h h':Heap}{a C dx:Addr}{fs fs':List (Str×V)}
theorem Yb (hok:HOk P w H h)(e:H a=some (.ins C dx fs)):∃mA,aaX h a dx C mA/\(∀f,yZ (fs.lookup f) (mA f))/\PySem.Within mA (fs.map (·.1))/\fs.length<=1000/\H dx=some (.own a):=by
 obtain⟨d,z,ne,ob,mA,n,r,q⟩:=(show cZ P w H h a (.ins C dx fs) from hok a _ e);exact⟨mA,⟨ob,n,ne⟩,r,q,z,d⟩
end
structure Cls (K:AD)(C:Addr):Prop where
 pg:PySem.W.plainGet K C Str.empty=true
 hd:PySem.W.hasDictIn K C=true
 po:PySem.W.plainOver K C=true
 sa:HL K (.ref C) "__setattr__" = some (some (.builtin "object.__setattr__"))
theorem Cls.get {K:AD}{C:Addr}(c:Cls K C)(f:Str):PySem.W.plainGet K C f=true:=c.pg
section
variable {X:Cx}{pins:List (Addr×Obj)}{σ:St}{H:Hp}{s:AB}{A:Bz}{E:Ap->AB->Prop}{Q:Ap->AB->Prop}{c:Ap}{b:Bool}
inductive uf (K:AD)(H:Hp):V->Ap->Prop where
 | non:uf K H .non (.type "NoneType")
 | bl (x:Bool):uf K H (.bl x) (.type "bool")
 | int (i:Int):uf K H (.int i) (.type "int")
 | str (x:Str):uf K H (.str x) (.type "str")
 | flt (x:UInt64):uf K H (.flt x) (.type "float")
 | lst {a:Addr} {xs:List V} (e:H a=some (.lst xs)):uf K H (.ref a) (.type "list")
 | frz {a:Addr} {o:Obj} {xs:List V} (e:H a=some (.frz o (.lst xs))):uf K H (.ref a) (.type "list")
 | tup {a:Addr} {xs:List V} (e:H a=some (.tup xs)):uf K H (.ref a) (.type "tuple")
 | dK {a:Addr} {kvs:List (Key×V)} (e:H a=some (.dK kvs)):uf K H (.ref a) (.type "dict")
 | dT {a:Addr} {kvs:List (List Key×V)} (e:H a=some (.dT kvs)):uf K H (.ref a) (.type "dict")
 | ins {a C dx:Addr} {fs:List (Str×V)} (e:H a=some (.ins C dx fs)) (cl:Cls K C) (ha:HL K (.ref C) "__class__" = some (some (.builtin "object.__class__")))
   (hn:PySem.W.specialIn K (.builtin "object.__class__") "__get__" = some (some (.builtin "getset_descriptor.__get__"))) (htk:PySem.W.takesIn K (.builtin "object.__class__")=some true)
   (hm:PySem.W.mroIn K C (.type "object")=some true):uf K H (.ref a) (.ref C)
theorem Om {x:V}{u t:Ap}(I:Inv X pins σ H s)(rx:RelV x u)(ty:uf X.K H x t)(e:kitOne X.K t c=some b)(h:∀tk,Q (.bool b) { s with toks:=tk }) :
  AG (AW X.prog X.w) A (call (.builtin "isinstance") [u,c]) Q E s:=by
 cases ty with
 | non=>cases (show u=Ap.none from rx);exact De PySem.W.kitx_none I.kIn E4 e (fun z=>nomatch z) h
 | bl y=>cases (show u=Ap.bool y from rx);exact De PySem.W.kitx_bool I.kIn E4 e (fun z=>nomatch z) h
 | int i=>obtain⟨t,q⟩:=(show ∃t,u=Ap.int i t from rx);cases q;exact De PySem.W.kitx_int I.kIn E4 e (fun z=>nomatch z) h
 | str y=>obtain⟨t,q⟩:=(show ∃t,u=Ap.str y t from rx);cases q;exact De PySem.W.kitx_str I.kIn E4 e (fun z=>nomatch z) h
 | flt y=>obtain⟨t,q⟩:=(show ∃t,u=Ap.float y t from rx);cases q;exact De PySem.W.kitx_float I.kIn E4 e (fun z=>nomatch z) h
 | @lst a xs ea=>
  cases (show u=Ap.ref a from rx);obtain⟨_,_,n,_,h1⟩:=(show cZ X.prog X.w H s.heap a (.lst xs) from I.hok a _ ea);exact De PySem.W.kitx_list I.kIn ⟨_,h1,rfl⟩ e (fun z=>nomatch z) h
 | @frz a ob xs ea=>
  cases (show u=Ap.ref a from rx);obtain⟨_,_,_,n,_,h1⟩:=(show cZ X.prog X.w H s.heap a (.frz ob (.lst xs)) from I.hok a _ ea);exact De PySem.W.kitx_list I.kIn ⟨_,h1,rfl⟩ e (fun z=>nomatch z) h
 | @tup a xs ea=>
  cases (show u=Ap.ref a from rx);obtain⟨_,_,_,p⟩:=(show cZ X.prog X.w H s.heap a (.tup xs) from I.hok a _ ea);obtain⟨o,h1,h2,_⟩:=p;exact De PySem.W.kitx_tuple I.kIn ⟨o,h1,h2⟩ e (fun z=>nomatch z) h
 | @dK a kvs ea=>
  cases (show u=Ap.ref a from rx);obtain⟨_,_,vs,_,p⟩:=(show cZ X.prog X.w H s.heap a (.dK kvs) from I.hok a _ ea);obtain⟨o,es,ep,h1,h2,_⟩:=p;exact De PySem.W.kitx_dict I.kIn ⟨o,h1,h2.1⟩ e (fun z=>nomatch z) h
 | @dT a kvs ea=>
  cases (show u=Ap.ref a from rx);obtain⟨_,_,xs,_,o,es,ep,h1,h2,_⟩:=(show cZ X.prog X.w H s.heap a (.dT kvs) from I.hok a _ ea);exact De PySem.W.kitx_dict I.kIn ⟨o,h1,h2.1⟩ e (fun z=>nomatch z) h
 | @ins a C dx fs ea cl ha hn htk hm=>
  cases (show u=Ap.ref a from rx);obtain⟨mA,O,_⟩:=Yb I.hok ea;obtain⟨od,J,_⟩:=O.look;exact De (PySem.W.kitx_own (cl.get _) cl.hd ha hn htk hm) I.kIn J e (fun z=>nomatch z) h
end
structure jg (k:Nat)(A:Bz):Prop where
 hd:A.handled=none
 dp:A.depth+3*k+5<recursionLimit
 un:A.units+16*k+200<FU
 gd:A.guards=some []
theorem jg.mono {j k:Nat}{A:Bz}(r:jg k A)(h:j<=k):jg j A:=⟨r.hd,by have:=r.dp;omega,by have:=r.un;omega,r.gd⟩
theorem jg.deeper {k:Nat}{A:Bz}(r:jg (k+1) A)(env:Env):jg k (A.deeper env):=
 ⟨r.hd,by have:=r.dp;show A.depth+1+3*k+5<_;omega,by have:=r.un;show A.units+3+16*k+200<_;omega,r.gd⟩
theorem jg.depth {k:Nat}{A:Bz}(r:jg k A):A.depth<recursionLimit:=by have:=r.dp;omega
theorem jg.bO {k:Nat}{A:Bz}(r:jg k A):A.units<FU:=by have:=r.un;omega
noncomputable def BX:TA:=fun _ H Q=>Q [] H
noncomputable def oR (ta:TE)(tr:TA):TA:=fun σ H Q=>ta σ H fun x H1=>tr σ H1 fun xs H2=>Q (x::xs) H2
section
variable {X:Cx}{e:Expr}{es:List Expr}{te:TE}{t:TA}{pos:Pos}
theorem aad:PA X [] BX:=fun _ _ _ _ H Q I h=>CC ⟨[],H,I,.nil,h⟩
theorem Xn (ha:PE X e te)(hr:PA X es t)(hs:AJ (e::es) X.env=(false,eval e X.env)::AJ es X.env:=by rfl):PA X (e::es) (oR te t):=by
 intro pos pins s σ H Q I h;rw[hs];show AG _ _ (spliced ((false,eval e X.env)::CU pos (AJ es X.env))) _ _ s;refine CL (thE (ha pins s σ H _ I h) fun u s1 x H1 I1 r1 q1=>?_);exact thA (hr pos pins s1 σ H1 _ I1 q1) fun us s2 xs H2 I2 r2 q2=>⟨x::xs,H2,I2,.cons r1 r2,q2⟩
noncomputable def Er (t:TA):TE:=fun σ H Q=>t σ H fun xs H1=>xs.length<=AL/\∀p,H1 p=none->Q (.ref p) (upd H1 p (.tup xs))
noncomputable def Ih (t:TA):TE:=fun σ H Q=>t σ H fun xs H1=>xs.length<=AL/\∀p,H1 p=none->Q (.ref p) (upd H1 p (.lst xs))
theorem Z1 {x1}(h:PA X es t):PE X (.Tuple es x1 pos) (Er t):=by
 intro pins s σ H Q I hq;refine wpAny_Tuple_spliced (thn (h pos pins s σ H _ I hq) fun us s1 ⟨xs,H1,I1,r,z,q⟩=>⟨by rw[<- r.length];exact z,?_⟩);have hf:H1 s1.heap.objs.size=none:=I1.hok.fresh (AZ _);refine⟨.ref s1.heap.objs.size,upd H1 s1.heap.objs.size (.tup xs),I1.laid (t':=s1.toks) (fun b u e=>AA _ e) (AZ _) ?_,rfl,q _ hf⟩;exact⟨z,us,r,⟨_,AQ _ rfl,rfl,_,rfl⟩⟩
theorem Z7 (h:PA X es t):PE X (.List es pos) (Ih t):=by
 intro pins s σ H Q I hq;refine wpAny_List_spliced (thn (h pos pins s σ H _ I hq) fun us s1 ⟨xs,H1,I1,r,z,q⟩=>⟨by rw[<- r.length];exact z,?_⟩);have hf:H1 s1.heap.objs.size=none:=I1.hok.fresh (AZ _);refine⟨.ref s1.heap.objs.size,upd H1 s1.heap.objs.size (.lst xs),I1.laid (t':=s1.toks) (fun b u e=>AA _ e) (AZ _) ?_,rfl,q _ hf⟩;exact⟨z,us,0,r,AQ _ rfl⟩
end
noncomputable abbrev Sp:=List V->Hp->VK->XK->Prop
noncomputable abbrev CXT:=List Env->Hp->AB->XK->Ap->AB->Prop
structure YJ (P:AR)(w:Bi)(K:AD)(mg:Str->Option Ap)(base:Heap)(A:Bz)(outer:List Env)(s:AB)(H:Hp):Prop where
 frames:A.frames=some outer
 mod:Mod K mg base
 bs:∀b o,base.get? b=some o->s.heap.get? b=some o/\H b=none
 bsz:base.objs.size<=s.heap.objs.size
 wk:s.heap.FunFrames base outer
 frf:∀b∈frs outer,H b=none
 hok:HOk P w H s.heap
 bare:IR s.gens
noncomputable def CE (outer:List Env)(P:AR)(w:Bi)(H:Hp)(s:AB)(Q:VK)(u:Ap)(s':AB):Prop:=
 ∃v H',s'.os=s.os/\IR s'.gens/\Un (frs outer) [] H H' s.heap s'.heap/\HOk P w H' s'.heap/\RelV v u/\Q v H'
noncomputable def CR (CX:CXT)(outer:List Env)(P:AR)(w:Bi)(H:Hp)(s:AB)(Q:VK)(E:XK)(r:Result)(s':AB):Prop:=
 match r with
 | .ok (.ret u)=>CE outer P w H s Q u s'
 | .ok _=>False
 | .error e=>CX outer H s E e s'
structure dF (P:AR)(w:Bi)(K:AD)(mg:Str->Option Ap)(base:Heap)(CX:CXT)(k:Nat)(f:Addr)(fd:CY)(ps:List Str)(sp:Sp):Prop where
 len:∀vs H Q E,sp vs H Q E->vs.length=ps.length
 run:∀(A:Bz)(outer:List Env)(s:AB)(H:Hp)(args:Args)(us:List Ap)(vs:List V)(Q:VK)(E:XK),jg k A->YJ P w K mg base A outer s H->BindsTo s fd args (ps.zip us)->Vals vs us->sp vs H Q E ->
  Ff (AW P w) A (.call (.ref f) args) (CR CX outer P w H s Q E) s
section
variable {X:Cx}{pins:List (Addr×Obj)}{σ:St}{H:Hp}{s s':AB}
theorem Inv.env0 (I:Inv X pins σ H s):YJ X.prog X.w X.K X.mg X.base X.A X.stack s H:=
 ⟨I.ok.frames,I.ok.mod,I.bs,BG I.ok.bsz I.sz,I.stack,I.Kq,I.hok,I.bare⟩
theorem Inv.after {Q:VK}{u:Ap}(I:Inv X pins σ H s)(h:CE X.stack X.prog X.w H s Q u s'):EP X pins σ Q u s':=by
 obtain⟨v,H',os,bare,un,hok,r,q⟩:=h;obtain⟨hh,g,d,t,os'⟩:=s';obtain rfl:os'=s.os:=os;exact⟨v,H',I.call (h':=hh) (g':=g) (d':=d) (t':=t) (ch:=[]) un hok bare (fun b z=>absurd z (by simp)),r,q⟩
end
noncomputable def wU (sp:Sp)(dvs:List V)(E:XK)(t:TA):TE:=fun σ H Q=>t σ H fun vs H1=>sp (vs++dvs) H1 Q E
noncomputable def Binds (K:AD)(fd:CY)(ps:List Str)(ds:List Ap):Prop:=
 ∀(s:AB)(us:List Ap),K.In s.heap->(us++ds).length=ps.length->BindsTo s fd ⟨us,[]⟩ (ps.zip (us++ds))
theorem Binds.all {K:AD}{fd:CY}{ps:List Str}(h:∀us:List Ap,us.length=ps.length->bindArgs fd ⟨us,[]⟩=pure (ps.zip us)):Binds K fd ps []:=fun s us _ hl=>by
 rw[CB] at hl |-;exact .of_eq (h us hl)
noncomputable def Kf (CX:CXT)(X:Cx)(E:XK):Prop:=∀(pins:List (Addr×Obj)) (σ:St) (H:Hp) (s:AB) (e:Ap) (s':AB),Inv X pins σ H s->CX X.stack H s E e s'->X.xe e s'
section
variable {X:Cx}{CX:CXT}{k:Nat}{f C:Addr}{fd:CY}{ps:List Str}{sp:Sp}{dvs:List V}{ds:List Ap}{E:XK}{x m:Str}{p pos apos:Pos}{e o:Expr}{es:List Expr}{ta:TE}{t:TA}
theorem Zt {pins:List (Addr×Obj)}{σ:St}{H:Hp}{s:AB}{Q:VK}{us:List Ap}{vs:List V}(F:dF X.prog X.w X.K X.mg X.base CX k f fd ps sp)(hr:jg k X.A)(hb:Binds X.K fd ps ds)(hd:Vals dvs ds)(hx:Kf CX X E)
  (I:Inv X pins σ H s) (r:Vals vs us) (h:sp (vs++dvs) H Q E):AG (AW X.prog X.w) X.A (call (.ref f) us) (EP X pins σ Q) X.xe s:=by
 have r2:Vals (vs++dvs) (us++ds):=r.append hd;have hl:(us++ds).length=ps.length:=by rw[<- r2.length];exact F.len _ _ _ _ h
 refine wpAny_call (IT (F.run X.A X.stack s H ⟨us,[]⟩ (us++ds) (vs++dvs) Q E hr I.env0 (hb s us I.kIn hl) r2 h) fun r s' hq=>?_);cases r with
 | error e=>exact hx pins σ H s e s' I hq
 | ok fl=>
  cases fl with
  | ret u=>exact I.after hq
  | next=>exact EG hq
  | brk=>exact EG hq
  | cont=>exact EG hq
theorem Xj (F:dF X.prog X.w X.K X.mg X.base CX k f fd ps sp)(hr:jg k X.A)(hg:Gl X x)(hm:X.mg x=some (.ref f))(hk:CD X.K (.ref f)=true)(hb:Binds X.K fd ps ds)(hd:Vals dvs ds)(hx:Kf CX X E)
  (ha:PA X (e::es) t) (hdb:(x == ("__debug__" : Str))=false:=by decide) (he:AJ (e::es) X.env=(false,eval e X.env)::AJ es X.env:=by rfl) (hpl:(CU pos (AJ es X.env)).any (·.1)=false:=by rfl) :
  PE X (.Call (.Name x p) (e::es) [] pos) (wU sp dvs E t):=by
 intro pins s σ H Q I h;refine Fh (Lw I hg hm ?_ hdb);refine PySem.W.callWith_K (h₀:=X.base) I.ok.mod.kin hk (thA (ha pos pins s σ H _ I h) fun us s1 vs H1 I1 r q=>⟨I1.kIn,?_⟩) he hpl;exact Zt F hr hb hd hx I1 r q
end
structure bh (N P:List Str)(sc:GG):Prop where
 kind:sc.kind=.function
 co:sc.isCoroutine=false
 gen:sc.isGenerator=false
 nd:N.Nodup
 pre:N.take P.length=P
 par:∀x∈P,sc.names.lookup x=some .local\/sc.names.lookup x=some .cell
 nofree:∀y∈sc.names,y.2≠.free
theorem Bw {kindOf:Str->Option DF}{x:Str}:∀{binds:List (Str×Ap)}{m:Str->Option Ap},(∀v,(x,v)∉binds)->bindL kindOf binds m x=m x
 | [],_,_=>rfl
 | (n,v)::r,m,h=>by
  unfold bindL;rw[Bw fun w hw=>h w (B1 _ hw)];split
  ·have:x≠n:=by rintro rfl;exact h v A0
   simp [this]
  rfl
theorem BJ {kindOf:Str->Option DF}{x:Str}:∀{binds:List (Str×Ap)}{m:Str->Option Ap},(∀v,(x,v)∉binds)->bindC kindOf binds m x=m x
 | [],_,_=>rfl
 | (n,v)::r,m,h=>by
  unfold bindC;rw[BJ fun w hw=>h w (B1 _ hw)];split
  ·rfl
  have:x≠n:=by rintro rfl;exact h v A0
  simp [this]
theorem Bx {kindOf:Str->Option DF}{x:Str}{v:Ap}:∀{P:List Str}{vs:List Ap}{i:Nat}{m:Str->Option Ap},P.Nodup->P[i]?=some x->vs[i]?=some v->kindOf x=some .local ->
  bindL kindOf (P.zip vs) m x=some v
 | [],_,_,_,_,h,_,_=>by simp at h
 | _::_,[],_,_,_,_,h,_=>by simp at h
 | p::P,w::vs,0,m,nd,h1,h2,hk=>by
  simp at h1 h2;subst h1;subst h2;show bindL kindOf ((p,w)::P.zip vs) m p=_;unfold bindL;rw[Bw fun v hv=>(IU.mp nd).1 (of_mem_zip hv).1,if_pos hk];simp
 | p::P,w::vs,i+1,m,nd,h1,h2,hk=>by
  show bindL kindOf ((p,w)::P.zip vs) m x=_;unfold bindL;exact Bx (i:=i) (IU.mp nd).2 (by simpa using h1) (by simpa using h2) hk
theorem BK {kindOf:Str->Option DF}{x:Str}{v:Ap}:∀{P:List Str}{vs:List Ap}{i:Nat}{m:Str->Option Ap},P.Nodup->P[i]?=some x->vs[i]?=some v->kindOf x≠some .local ->
  bindC kindOf (P.zip vs) m x=some v
 | [],_,_,_,_,h,_,_=>by simp at h
 | _::_,[],_,_,_,_,h,_=>by simp at h
 | p::P,w::vs,0,m,nd,h1,h2,hk=>by
  simp at h1 h2;subst h1;subst h2;show bindC kindOf ((p,w)::P.zip vs) m p=_;unfold bindC;rw[BJ fun v hv=>(IU.mp nd).1 (of_mem_zip hv).1,if_neg hk];simp
 | p::P,w::vs,i+1,m,nd,h1,h2,hk=>by
  show bindC kindOf ((p,w)::P.zip vs) m x=_;unfold bindC;exact BK (i:=i) (IU.mp nd).2 (by simpa using h1) (by simpa using h2) hk
noncomputable def start (N:List Str)(vs:List V):St:=vs.map some++B8 (N.length-vs.length) none
noncomputable def J1 (CX:CXT)(P:AR)(w:Bi)(K:AD)(mg:Str->Option Ap)(base:Heap)(N:List Str)(qual:Str)(scope:GG)(f:Addr)(cd:Ap)(A:Bz)(outer:List Env)(s:AB)(H:Hp)(E:XK):Cx where
 prog:=P
 w:=w
 K:=K
 mg:=mg
 base:=base
 A:=A.deeper (Ki qual scope s.heap.objs.size f cd)
 N:=N
 s₀:=s
 H₀:=H
 env:=Ki qual scope s.heap.objs.size f cd
 outer:=outer
 stack:=Ki qual scope s.heap.objs.size f cd::outer
 ex:=[]
 calm:=true
 fn:=fun _=>true
 pn:=[]
 xe:=fun e s'=>AG (AW P w) (A.deeper (Ki qual scope s.heap.objs.size f cd)) (leaving (Ki qual scope s.heap.objs.size f cd) e) (fun _ s''=>CX outer H s E e s'') (fun e' s''=>CX outer H s E e' s'') s'
theorem Hf {sc:GG}{n:Nat}{x:Str}(h:sc.names.lookup x=some .cell):∃c,(cellsFrom n sc.names []).lookup x=some c:=by
 have q:=PySem.W.cellsFrom_some sc.names n [] (.inl h);exact Option.isSome_iff_exists.mp q
theorem Oq {CX:CXT}{P:AR}{w:Bi}{K:AD}{mg:Str->Option Ap}{base:Heap}{N ps:List Str}{qual:Str}{scope:GG}{f:Addr}{cd:Ap}{A:Bz}{outer:List Env}{s s1:AB}{H:Hp}{E:XK}{us:List Ap}{vs:List V}
  (S:bh N ps scope) (hd:A.handled=none) (e0:YJ P w K mg base A outer s H) (hl:vs.length=ps.length) (r:Vals vs us)
  (x:InCallC s s.heap.objs.size (bindL (Ki qual scope s.heap.objs.size f cd).kindOf (ps.zip us) fun _=>none) (cellsFrom (s.heap.objs.size+1) scope.names []) (bindC (Ki qual scope s.heap.objs.size f cd).kindOf (ps.zip us) fun _=>none) s1) :
  Inv (J1 CX P w K mg base N qual scope f cd A outer s H E) [] (start N vs) H s1:=by
 have hpl:ps.length<=N.length:=by have:=congrArg FF S.pre;rw[ET] at this;omega
 obtain⟨h1,tk,rfl,hk⟩:=x.done;have noA:∀b:Addr,b∉(J1 CX P w K mg base N qual scope f cd A outer s H E).ex:=fun b z=>absurd (show b∈([]:List Addr) from z) (by simp);refine⟨⟨e0.mod,S.kind,rfl,rfl,AZ _,fun y z c h1 h2=>?_,fun y hy=>?_,fun y c _ h=>?_,fun _=>hd,Bz.frames_deeper e0.frames,.inr ⟨rfl,rfl⟩,fun b z=>absurd z (noA b),e0.bs,e0.bsz,fun b _ _=>noA b,fun b z=>absurd z (noA b),e0.wk,e0.frf⟩,
  rfl,e0.bare,Un.kept hk,⟨_,x.toInCall.ns,fun i y v h1 h2 h3=>?_⟩,fun y c h=>⟨_,x.cell y c h⟩,e0.hok.fresh (AZ _),fun y c h=>?_,fun p hp=>absurd (show p∈([]:List (Addr×Obj)) from hp) (by simp),e0.hok.kept hk,?_⟩
 ·exact name_of_addr x.apart (C7 h1) (C7 h2)
 ·have hy:scope.names.lookup y=some .cell\/scope.names.lookup y=some .free:=hy;rcases hy with hy|hy
  ·exact Hf hy
  exact absurd rfl (S.nofree _ (C7 hy))
 ·exact JY (x.above y c (C7 h))
 ·have hi:i<vs.length:=by
   unfold start at h2;by_cases hi:i<vs.length
   ·exact hi
   rw[BC (by simpa using hi)] at h2;rw[List.getElem?_replicate] at h2;split at h2 <;> cases h2
  have ha:vs[i]?=some v:=by
   unfold start at h2;rw[C3 (by simpa using hi),AU] at h2;cases e:vs[i]? with
   | none=>rw[e] at h2;cases h2
   | some a=>rw[e] at h2;cases h2;rfl
  obtain⟨u,hu,rv⟩:=r.get ha;have hp:ps[i]?=some y:=by
   rw[<- S.pre,List.getElem?_take_of_lt ω];exact h1
  have ndP:ps.Nodup:=by rw[<- S.pre];exact S.nd.sublist (List.take_sublist _ _)
  refine⟨u,rv,?_⟩;rcases S.par y (A7 hp) with k|k
  ·exact .inl ⟨k,Bx ndP hp hu k⟩
  obtain⟨c,e⟩:=Hf (n:=s.heap.objs.size+1) k;refine .inr ⟨.inl k,c,e,?_⟩;have q:=x.cell y c e;rw[BK ndP hp hu (by show scope.names.lookup y≠_;rw[k];decide)] at q;exact q
 ·exact e0.hok.fresh (JY (x.above y c (C7 h)))
 unfold start;show _=N.length;rw[AH,AE,List.length_replicate];omega
theorem abK {CX:CXT}{P:AR}{w:Bi}{K:AD}{mg:Str->Option Ap}{base:Heap}{k:Nat}{f:Addr}{name qual:Str}{params:Arguments}{body:List Stmt}{scope:GG}{dV kV doc pm cdv ct oc:Ap}{an od:Option Addr}
  {osl:Array (Option Ap)} {N ps:List Str} {sp:Sp} (lk:K.lookup f=some ⟨oc,od,.func (fnOf name qual params body scope dV kV doc pm an cdv ct),osl⟩) (hcd:CM K cdv qual=true) (S:bh N ps scope)
  (len:∀vs H Q E,sp vs H Q E->vs.length=ps.length)
  (hbody:∀(A:Bz)(outer:List Env)(s:AB)(H:Hp)(vs:List V)(Q:VK)(E:XK),jg k (A.deeper (Ki qual scope s.heap.objs.size f cdv))->sp vs H Q E ->
   ∃t,PSs (J1 CX P w K mg base N qual scope f cdv A outer s H E) body t/\t { nx:=fun _ H'=>Q .non H',rt:=Q } (start N vs) H) :
  dF P w K mg base CX (k+1) f (fnOf name qual params body scope dV kV doc pm an cdv ct) ps sp:=by
 refine⟨len,fun A outer s H args us vs Q E hr e0 hb r hsp=>?_⟩;have hl:=len _ _ _ _ hsp;have KX:K.In s.heap:=e0.mod.kin.keeps fun b o e=>(e0.bs b o e).1;have lim:s.heap.NoLimit:=e0.mod.nolimit.keeps fun b o e=>(e0.bs b o e).1;have hkind:∀y∈ps.zip us,scope.names.lookup y.1=some .local\/(scope.names.lookup y.1=some .cell/\((cellsFrom (s.heap.objs.size+1) scope.names []).lookup y.1).isSome=true):=fun⟨n,v⟩ hy=>by
  rcases S.par n (of_mem_zip hy).1 with q|q
  ·exact .inl q
  exact .inr ⟨q,PySem.W.cellsFrom_some _ _ _ (.inl q)⟩
 refine codeAny_call_function hr.depth (KX _ _ lk) rfl S.co S.gen rfl (PySem.W.codeRec_of KX hcd) (hb _ _ _ _ ?_);refine wpAny_newFunctionEnv_cells S.kind hkind fun env he s1 x=>?_;subst he;refine⟨lim.keeps x.toInCall.keep,codeAny_func ?_⟩;obtain⟨t,ht,hq⟩:=hbody A outer s H vs Q E (hr.deeper _) hsp;have I:Inv (J1 CX P w K mg base N qual scope f cdv A outer s H E) [] (start N vs) H s1:=Oq S hr.hd e0 hl r x;refine CA (ht [] s1 (start N vs) H _ I hq) (fun fl s' hs=>?_) fun e s' hs=>hs;have fin:∀{σ':St}{H':Hp}{v:V}{u:Ap},Inv (J1 CX P w K mg base N qual scope f cdv A outer s H E) [] σ' H' s'->RelV v u->Q v H'->CE outer P w H s Q u s':=
  fun {σ' H' v u} J rv q=>⟨v,H',J.os,J.bare,J.base,J.hok,rv,q⟩
 cases fl with
 | ret u=>
  obtain⟨v,σ',H',J,rv,q⟩:=hs;exact fin J rv q
 | next=>
  obtain⟨σ',H',J,q⟩:=hs;exact fin (v:=V.non) (u:=Ap.none) J rfl q
 | brk=>
  obtain⟨_,_,_,q⟩:=hs;exact EG q
 | cont=>
  obtain⟨_,_,_,q⟩:=hs;exact EG q
section
variable {X:Cx}{x:Str}{p pos:Pos}{e:Expr}{es:List Expr}{t:TA}{id T:String}{r:List V->Hp->VK->Prop}
noncomputable def tCB (r:List V->Hp->VK->Prop)(t:TA):TE:=fun σ H Q=>t σ H fun vs H1=>r vs H1 Q
theorem Ss (hc:fL X (.builtin id) r) (hg:Gl X x) (hm:X.mg x=none) (hv:D1 x=some (.builtin id)) (ha:PA X (e::es) t) (hn:x ≠ "__name__" := by decide) (hdb:(x == ("__debug__" : Str))=false:=by decide)
  (he:AJ (e::es) X.env=(false,eval e X.env)::AJ es X.env:=by rfl) (hpl:(CU pos (AJ es X.env)).any (·.1)=false:=by rfl):PE X (.Call (.Name x p) (e::es) [] pos) (tCB r t):=by
 intro pins s σ H Q I h;refine Fh (iG I hg hm hv ?_ hn hdb);exact PyProof.Rows.callWith_builtin1 (thA (ha pos pins s σ H _ I h) fun us s1 vs H1 I1 r1 q1=>hc pins s1 σ H1 vs us Q I1 r1 q1) he hpl
theorem NP (hc:fL X (.type T) r) (hg:Gl X x) (hm:X.mg x=none) (hv:D1 x=some (.type T)) (ha:PA X (e::es) t) (hn:x ≠ "__name__" := by decide) (hdb:(x == ("__debug__" : Str))=false:=by decide)
  (he:AJ (e::es) X.env=(false,eval e X.env)::AJ es X.env:=by rfl) (hpl:(CU pos (AJ es X.env)).any (·.1)=false:=by rfl):PE X (.Call (.Name x p) (e::es) [] pos) (tCB r t):=by
 intro pins s σ H Q I h;refine Fh (iG I hg hm hv ?_ hn hdb);exact BI (thA (ha pos pins s σ H _ I h) fun us s1 vs H1 I1 r1 q1=>hc pins s1 σ H1 vs us Q I1 r1 q1) he hpl
end
end L2
namespace HT
open PySem PyProof.Rows
section
variable {prog:AR}{w:Bi}{A:Bz}{E:Ap->AB->Prop}{s:AB}
theorem Yu {t b:Addr}{vs ws:List Ap}{Q:Ap->AB->Prop}(ht:JA s.heap t vs.toArray)(hb:JA s.heap b ws.toArray)(hv:vs≠[])
  (h1:ws=[]->Q (.ref t) s) (h2:ws≠[]->Q (.ref s.heap.objs.size) { s with heap:=s.heap.push { cls:=.type "tuple",data:=.seq (vs++ws).toArray } })
  (hsz:vs.length+ws.length<=AL):AG (AW prog w) A (Ev .Add (.ref t) (.ref b)) Q E s:=by
 obtain⟨⟨cls,dd,data,sl⟩,ho,hc,n,hd⟩:=id ht;obtain⟨⟨cls2,dd2,data2,sl2⟩,ho2,hc2,n2,hd2⟩:=id hb;simp only at hc hd hc2 hd2;subst hc hd hc2 hd2;have e:vs.toArray++ws.toArray=(vs++ws).toArray:=by simp
 by_cases hw:ws=[]
 ·exact concat_meets ⟨_,ho,rfl⟩ ⟨_,ho2,rfl⟩ noFill_tuple_add seq_tuple_add PySem.F.slot_tuple_add PySem.F.entry_tuple_add (PySem.F.args_tuple_add_2 _ _)
   (tuple_addW1 t b vs.toArray ws.toArray n n2 dd dd2 sl sl2 (by simpa using hv) (by simp [hw])) ⟨ho,ho2,h1 hw⟩
 refine concat_meets ⟨_,ho,rfl⟩ ⟨_,ho2,rfl⟩ noFill_tuple_add seq_tuple_add PySem.F.slot_tuple_add PySem.F.entry_tuple_add (PySem.F.args_tuple_add_2 _ _)
  (tuple_addW2 t b vs.toArray ws.toArray n n2 dd dd2 sl sl2 (by simpa using hv) (by simpa using hw) (by rw[AX,AX];exact hsz)) ⟨ho,ho2,?_⟩
 rw[e];exact h2 hw
noncomputable def sIx (n d:Nat):Option Int->Nat
 | none=>d
 | some v=>if v<0 then (v+(n:Int)).toNat else min v.toNat n
theorem Zq (n d:Nat)(hd:d<=n)(o:Option Int):sIx n d o<=n:=by
 cases o with
 | none=>exact hd
 | some v=>
  show(if v<0 then (v+(n:Int)).toNat else min v.toNat n)<=n;by_cases hv:v<0
  ·rw[if_pos hv];omega
  rw[if_neg hv];exact Nat.min_le_right _ _
theorem Ms (v:Int)(n d:Nat):(if v<0 then max (v+(n:Int)) 0 else min v (n:Int))=((sIx n d (some v):Nat):Int):=by
 show(if v<0 then max (v+(n:Int)) 0 else min v (n:Int))=(((if v<0 then (v+(n:Int)).toNat else min v.toNat n):Nat):Int);by_cases hv:v<0
 ·simp only[if_pos hv];omega
 simp only[if_neg hv];omega
theorem Kd (lo hi:Option Int)(n:Nat):AI.Slice.sliceAdjust lo hi 1 (n:Int)=(((sIx n 0 lo:Nat):Int),((sIx n n hi:Nat):Int)):=by
 have h1:¬((1:Int)<0):=ω;unfold AI.Slice.sliceAdjust;simp only[h1,if_false];refine Prod.ext ?_ ?_
 ·cases lo with
  | none=>rfl
  | some v=>exact Ms v n 0
 cases hi with
 | none=>rfl
 | some v=>exact Ms v n n
theorem Je (i j:Nat):AI.Slice.slicePlaces (i:Int) (j:Int) 1=j-i:=by
 unfold AI.Slice.slicePlaces;have h1:(1:Int)>0:=ω;simp only[h1,if_true,Int.ediv_one];split <;> omega
theorem wZ {v:Ap}{o:Option Int}{Q:Option Int->AB->Prop}(p:IsPart v o)(h:Q o s):AG (AW prog w) A (AI.Slice.slicePartIndex v) Q E s:=by
 cases p with
 | none=>exact slicePart_none h
 | int i t=>exact slicePart_int h
theorem uy {sl:Addr}{vl vu:Ap}{lo hi:Option Int}{n:Nat}{Q:Int×Int×Nat->AB->Prop}(hs:s.heap.IsSliceOf sl vl vu .none)(pl:IsPart vl lo)(pu:IsPart vu hi)
  (h:Q (((sIx n 0 lo:Nat):Int),1,sIx n n hi-sIx n 0 lo) s):AG (AW prog w) A (AI.Slice.sliceApplied (.ref sl) (pure (n:Int))) Q E s:=by
 obtain⟨os,hos,hcs,hds⟩:=id hs;unfold AI.Slice.sliceApplied AI.Slice.sliceFields;refine An (An (B3 hos hds (x:=vl) rfl (An (B3 hos hds (x:=vu) rfl (An (B3 hos hds (x:=.none) rfl (Au ?_)))))));refine An (slicePart_none ?_);show AG _ _ (if ((1:Int) == 0)=true then _ else _) _ _ s;rw[if_neg δ];refine An (wZ pl (An (wZ pu (An (Au ?_)))));show AG _ _ (match AI.Slice.sliceAdjust lo hi 1 (n:Int) with|(lo,hi)=>pure (lo,(1:Int),AI.Slice.slicePlaces lo hi 1)) _ _ s
 rw[Kd lo hi n];show AG _ _ (pure (((sIx n 0 lo:Nat):Int),(1:Int),AI.Slice.slicePlaces ((sIx n 0 lo:Nat):Int) ((sIx n n hi:Nat):Int) 1)) _ _ s;rw[Je];exact Au h
theorem R4 (xs:Array Ap)(i k:Nat):((BO k).filterMap fun(m:Nat)=>xs[((i:Int)+(m:Int)*1).toNat]?).toArray=((xs.toList.drop i).take k).toArray:=by
 have e:(fun(m:Nat)=>xs[((i:Int)+(m:Int)*1).toNat]?)=fun m=>xs[i+m]?:=by
  funext m;have:((i:Int)+(m:Int)*1).toNat=i+m:=by omega
  rw[this]
 rw[e];have:=pick_run xs i k;rw[List.filterMap_map] at this;have e2:((fun x=>xs[x]?)∘fun x=>i+x)=fun m=>xs[i+m]?:=rfl;rw[e2] at this;rw[this]
theorem tH {t sl:Addr}{items:Array Ap}{vl vu:Ap}{lo hi:Option Int}{Q:Ap->AB->Prop}(ht:JA s.heap t items)(hs:s.heap.IsSliceOf sl vl vu .none)(pl:IsPart vl lo)(pu:IsPart vu hi)
  (hw:¬(sIx items.size 0 lo=0/\sIx items.size items.size hi=items.size))
  (h:Q (.ref s.heap.objs.size) { s with heap:=s.heap.push { cls:=.type "tuple",data:=.seq ((items.toList.drop (sIx items.size 0 lo)).take (sIx items.size items.size hi-sIx items.size 0 lo)).toArray } })
  (hsz:items.size<=AL):AG (AW prog w) A (KM (.ref t) (.ref sl)) Q E s:=by
 have htake:sizeOk (.seq ((items.toList.drop (sIx items.size 0 lo)).take (sIx items.size items.size hi-sIx items.size 0 lo)).toArray):=by
  show((items.toList.drop (sIx items.size 0 lo)).take (sIx items.size items.size hi-sIx items.size 0 lo)).toArray.size<=AL;rw[AX,ET,EU,EA];omega
 have hj:sIx items.size items.size hi<=items.size:=Zq _ _ (AZ _) hi;obtain⟨os,hos,hcs,hds⟩:=id hs;have hTs:s.TypeIs (.ref sl) "slice" := ⟨os,hos,hcs⟩;unfold KM
 try with_reducible refine BD ?_
 first|refine An (Au ?_)|skip
 refine An (wpAny_sequenceKey ht.typeIs δ ?_);refine An (BS (name:=Cb "__getitem__") ht.typeIs GB
  (Cc GB ht.typeIs entry_tuple_getitem ?_ (args_tuple_getitem _ _)))
 show AG _ _ (AI.Tuple.tupleItemsOf (.ref t) >>= _) _ _ s;refine An (tupleItemsOf_ ht ?_);refine An (C6 hTs ?_);rw[if_pos δ];refine An (uy hs pl pu ?_);have hno:¬((((sIx items.size 0 lo:Nat):Int) == 0&&(1:Int) == 1&&(sIx items.size items.size hi-sIx items.size 0 lo) == items.size)=true):=by
  intro q;rw[C9,C9] at q;have q1:((sIx items.size 0 lo:Nat):Int)=0:=eq_of_beq q.1.1;have q2:sIx items.size items.size hi-sIx items.size 0 lo=items.size:=eq_of_beq q.2;exact hw ⟨ω,ω⟩
 show AG _ _ (if (((sIx items.size 0 lo:Nat):Int) == 0&&(1:Int) == 1&&(sIx items.size items.size hi-sIx items.size 0 lo) == items.size)=true then _ else _) _ _ s;rw[if_neg hno,R4]
 first
  | exact An (m:=AI.Tuple.tupleExact _) (BF (Au ⟨_,rfl,Au h⟩) htake)
  | exact An (m:=AI.Tuple.tupleExact _) (BF (An (Au (Au ⟨_,rfl,Au h⟩))) htake)
  | exact An (An (m:=AI.Tuple.tupleExact _) (BF (Au (Au ⟨_,rfl,Au h⟩)) htake))
  | exact An (An (m:=AI.Tuple.tupleExact _) (BF (Au ⟨_,rfl,Au h⟩) htake))
end
end HT
namespace L2
open PySem PySem.Spec PyProof.Rows
noncomputable abbrev TO:=St->Hp->(Option Int->Hp->Prop)->Prop
noncomputable def PO (X:Cx)(e:Option Expr)(t:TO):Prop:=
 ∀(pins:List (Addr×Obj)) (s:AB) (σ:St) (H:Hp) (Q:Option Int->Hp->Prop),Inv X pins σ H s->t σ H Q ->
  AG (AW X.prog X.w) X.A (evalPart e X.env) (fun u s'=>∃o H',Inv X pins σ H' s'/\IsPart u o/\Q o H') X.xe s
noncomputable def BW:TO:=fun _ H Q=>Q none H
noncomputable def Qt (t:TE):TO:=fun σ H Q=>t σ H fun x H1=>∃i,x=.int i/\Q (some i) H1
section
variable {X:Cx}{e:Expr}{te:TE}{lo hi:Option Expr}{tl th:TO}{pos p2:Pos}
theorem WR:PO X none BW:=by
 intro pins s σ H Q I h;rw[evalPart_none];exact Au ⟨none,H,I,.none,h⟩
theorem WQ (h:PE X e te):PO X (some e) (Qt te):=by
 intro pins s σ H Q I hw;rw[evalPart_some];refine thE (h pins s σ H _ I hw) fun u s1 x H1 I1 r1 q1=>?_;obtain⟨i,rfl,q⟩:=q1;obtain⟨t,rfl⟩:=r1;exact⟨some i,H1,I1,.int i t,q⟩
noncomputable def SlR (X:Cx)(r:V->Option Int->Option Int->Hp->VK->Prop):Prop:=
 ∀(pins:List (Addr×Obj)) (s:AB) (σ:St) (H:Hp) (x:V) (v vl vu:Ap) (lo hi:Option Int) (sl:Addr) (Q:VK),Inv X pins σ H s->RelV x v->s.heap.IsSliceOf sl vl vu .none->IsPart vl lo->IsPart vu hi->r x lo hi H Q ->
  ∃T id,IX (.type T) "__getitem__" = pure (some (.builtin id))/\s.TypeIs v T/\AG (AW X.prog X.w) X.A (KM v (.ref sl)) (EP X pins σ Q) X.xe s
noncomputable def tSl (r:V->Option Int->Option Int->Hp->VK->Prop)(te:TE)(tl th:TO):TE:=fun σ H Q=>te σ H fun x H1=>tl σ H1 fun l H2=>th σ H2 fun u H3=>r x l u H3 Q
theorem R9 {r:V->Option Int->Option Int->Hp->VK->Prop}(hr:SlR X r)(he:PE X e te)(hl:PO X lo tl)(hu:PO X hi th):PE X (.Subscript e (.Slice lo hi none p2) pos) (tSl r te tl th):=by
 intro pins s σ H Q I h;refine Subscript_ (thE (he pins s σ H _ I h) fun v s1 x H1 I1 r1 q1=>?_);refine wpAny_Slice (thn (hl pins s1 σ H1 _ I1 q1) fun vl s2 ⟨l,H2,I2,pl,q2⟩=>thn (hu pins s2 σ H2 _ I2 q2) fun vu s3 ⟨u,H3,I3,pu,q3⟩=>?_);rw[evalPart_none];refine Au ?_;have I4:Inv X pins σ H3 { s3 with heap:=s3.heap.push { cls:=.type "slice",data:=.fields #[vl,vu,.none] } }:=I3.kept (t':=s3.toks) fun b ob q=>AA _ q;obtain⟨T,id,hT,ht,hg⟩:=hr pins { s3 with heap:=s3.heap.push { cls:=.type "slice",data:=.fields #[vl,vu,.none] } } σ H3 x v vl vu l u s3.heap.objs.size Q I4 r1 (Heap.IsSliceOf.new ..) pl pu q3;show AG (AW X.prog X.w) X.A (subscriptTail e (.Slice lo hi none p2) v (.ref s3.heap.objs.size)) (EP X pins σ Q) X.xe { s3 with heap:=s3.heap.push { cls:=.type "slice",data:=.fields #[vl,vu,.none] } };exact tail_any (ops:=[.ref s3.heap.objs.size,v]) ht hT hg (by with_unfolding_all rfl)
noncomputable def jz (xs:List V)(lo hi:Option Int):List V:=(xs.drop (HT.sIx xs.length 0 lo)).take (HT.sIx xs.length xs.length hi-HT.sIx xs.length 0 lo)
theorem vL (xs:List V)(lo hi:Option Int):(jz xs lo hi).length<=xs.length:=by
 unfold jz;rw[ET,EU];omega
noncomputable def abQ (K:AD):V->Option Int->Option Int->Hp->VK->Prop:=fun x lo hi H Q=>∃a xs,x=.ref a/\SqT K H a xs /\
 ¬(HT.sIx xs.length 0 lo=0/\HT.sIx xs.length xs.length hi=xs.length)/\∀p,H p=none->Q (.ref p) (upd H p (.tup (jz xs lo hi)))
theorem Zm:SlR X (abQ X.K):=by
 intro pins s σ H x v vl vu lo hi sl Q I rx hs pl pu h;obtain⟨a,xs,rfl,hx,hw,q⟩:=h;cases rx;obtain⟨its,r,ht,hz⟩:=I.tuple hx;have hlen:its.toArray.size=xs.length:=by rw[AX];exact r.length.symm
 refine⟨"tuple",_,GB.lookup,ht.typeIs,?_⟩;refine HT.tH ht hs pl pu (by rw[hlen];exact hw) ?_ (by rw[hlen];exact hz);rw[hlen];refine⟨.ref s.heap.objs.size,_,I.laid (t':=s.toks) (o:=.tup (jz xs lo hi)) (fun b ob q=>AA _ q) (AZ _) ?_,rfl,q _ (I.hok.fresh (AZ _))⟩;exact⟨BG (vL xs lo hi) hz,_,(r.drop (HT.sIx xs.length 0 lo)).take (HT.sIx xs.length xs.length hi-HT.sIx xs.length 0 lo),JA.new _ _⟩
noncomputable def abe (K:AD):R2:=fun x y H Q=>∃a b xs ys,x=.ref a/\y=.ref b/\SqT K H a xs/\SqT K H b ys/\xs≠[]/\xs.length+ys.length<=AL /\
 (ys=[]->Q (.ref a) H)/\(ys≠[]->∀p,H p=none->Q (.ref p) (upd H p (.tup (xs++ys))))
theorem Vals.CN {xs:List V}{us:List Ap}(r:Vals xs us):us=[]↔xs=[]:=by
 cases r with
 | nil=>simp
 | cons _ _=>simp
theorem Xp:OpR X (Ev .Add) (abe X.K):=by
 intro pins s σ H x y v u Q I rx ry h;obtain⟨a,b,xs,ys,rfl,rfl,ha,hb,hx,hz,q1,q2⟩:=h;cases rx;cases ry;obtain⟨its,r1,p1,_⟩:=I.tuple ha;obtain⟨its2,r2,p2,_⟩:=I.tuple hb;refine HT.Yu p1 p2 (fun z=>hx (r1.CN.mp z)) (fun z=>⟨.ref a,H,I,rfl,q1 (r2.CN.mp z)⟩) (fun z=>?_) (by rw[<- r1.length,<- r2.length];exact hz);refine⟨.ref s.heap.objs.size,_,I.laid (t':=s.toks) (o:=.tup (xs++ys)) (fun b ob q=>AA _ q) (AZ _) ?_,rfl,q2 (fun w=>z (r2.CN.mpr w)) _ (I.hok.fresh (AZ _))⟩;exact⟨by rw[AH];exact hz,_,r1.append r2,JA.new _ _⟩
end
noncomputable def ixN (n:Nat)(i:Int):Option Nat:=if 0<=i then (if i<n then some i.toNat else none) else if -(n:Int)<=i then some (i+n).toNat else none
noncomputable def atI {α:Type}(xs:List α)(i:Int):Option α:=(ixN xs.length i).bind fun j=>xs[j]?
theorem LC {n:Nat}{i:Int}{j:Nat}(h:ixN n i=some j):seqIndex? i n=some j/\j<n/\-(n:Int)<=i/\i<n:=by
 unfold ixN at h;by_cases h0:0<=i
 ·rw[if_pos h0] at h;by_cases h1:i<n
  ·rw[if_pos h1] at h;have e:i.toNat=j:=BN h;exact⟨by rw[seqIndex_of h0 h1,e],ω,ω,h1⟩
  rw[if_neg h1] at h;cases h
 rw[if_neg h0] at h;by_cases h1:-(n:Int)<=i
 ·rw[if_pos h1] at h;have e:(i+n).toNat=j:=BN h;exact⟨by rw[seqIndex_neg ω h1,e],ω,h1,ω⟩
 rw[if_neg h1] at h;cases h
theorem Mz {α:Type}{xs:List α}{i:Int}{v:α}(h:atI xs i=some v):∃j,seqIndex? i xs.length=some j/\xs[j]?=some v/\j<xs.length/\-(xs.length:Int)<=i/\i<xs.length:=by
 unfold atI at h;cases e:ixN xs.length i with
 | none=>rw[e] at h;cases h
 | some j=>
  rw[e] at h;obtain⟨h1,h2,h3,h4⟩:=LC e;exact⟨j,h1,h,h2,h3,h4⟩
theorem dI {α:Type}{xs:List α}{j:Nat}{v:α}(h:xs[j]?=some v):atI xs (j:Int)=some v:=by
 have hj:j<xs.length:=(AO.mp h).1;have e:ixN xs.length (j:Int)=some j:=by
  unfold ixN;rw[if_pos ω,if_pos ω];simp
 unfold atI;rw[e];exact h
noncomputable def MJ (b:Expr):Prop:=∀o i,subscripted b false o i=operate [o,i] (KM o i)
noncomputable def IxR (X:Cx)(r:R2):Prop:=
 ∀(value slice:Expr)(pins:List (Addr×Obj)) (s:AB) (σ:St) (H:Hp) (x y:V) (v u:Ap) (Q:VK),Inv X pins σ H s->RelV x v->RelV y u->r x y H Q ->
  subscripted slice false v u=operate [v,u] (KM v u)->AG (AW X.prog X.w) X.A (subscriptTail value slice v u) (EP X pins σ Q) X.xe s
section
variable {X:Cx}{a b:Expr}{ta tb:TE}{pos:Pos}
theorem abn {r:R2}(hr:IxR X r)(ha:PE X a ta)(hb:PE X b tb)(hs:MJ b):PE X (.Subscript a b pos) (tOp r ta tb):=by
 intro pins s σ H Q I h;exact Subscript_ (aaT ha hb I h fun v u s2 x y H2 I2 rx ry q=>hr a b pins s2 σ H2 x y v u Q I2 rx ry q (hs _ _))
noncomputable def abd (K:AD):R2:=fun x y H Q=>∃p xs i v,x=.ref p/\y=.int i/\SqL K H p xs/\atI xs i=some v/\Q v H
noncomputable def abV (K:AD):R2:=fun x y H Q=>∃p xs i v,x=.ref p/\y=.int i/\SqT K H p xs/\atI xs i=some v/\Q v H
theorem Lz:IxR X (abd X.K):=by
 intro value slice pins s σ H x y v u Q I rx ry h hs;obtain⟨p,xs,i,z,rfl,rfl,hq,he,q⟩:=h;cases rx;obtain⟨t,rfl⟩:=ry;obtain⟨its,r,pl,hz⟩:=I.list hq;obtain⟨j,h1,h2,h3,h4,h5⟩:=Mz he;obtain⟨w,ew,rw'⟩:=r.get h2;have hl:=r.length;have hn:=yw;have fin:EP X pins σ Q w s:=⟨z,H,I,rw',q⟩;by_cases h0:0<=i
 ·have hj:i.toNat=j:=by
   rw[seqIndex_of h0 h5] at h1;exact BN h1
  exact item_listR pl.isList h0 ω (by rw[hj];simpa using ew) fin hs
 have hj:(i+(its.toArray.size:Int)).toNat=j:=by
  rw[seqIndex_neg ω h4] at h1;rw[AX,<- hl];exact BN h1
 exact subscriptTail_builtinR (x:=w) pl.isList.typeIs slot_list_getitem.lookup
  (wpAny_getItem_list_neg (Q:=fun r s'=>r=w/\EP X pins σ Q r s') pl.isList ω (by rw[AX] <;> omega) ω (by rw[hj];simpa using ew) ⟨rfl,fin⟩) hs
theorem aaG:IxR X (abV X.K):=by
 intro value slice pins s σ H x y v u Q I rx ry h hs;obtain⟨p,xs,i,z,rfl,rfl,hq,he,q⟩:=h;cases rx;obtain⟨t,rfl⟩:=ry;obtain⟨its,r,pl,hz⟩:=I.tuple hq;obtain⟨j,h1,h2,h3,h4,h5⟩:=Mz he;obtain⟨w,ew,rw'⟩:=r.get h2;have hl:=r.length;have hn:=yw;have fin:EP X pins σ Q w s:=⟨z,H,I,rw',q⟩;exact subscriptTail_builtinR (x:=w) pl.typeIs slot_tuple_getitem.lookup
  (getItem_tuple (j:=j) (Q:=fun r s'=>r=w/\EP X pins σ Q r s') pl ω ω (by rw[AX,<- hl];exact h1) (by simpa using ew) ⟨rfl,fin⟩) hs
theorem Jv (its:List Ap) (n j:Nat) (u:Ap):DU (·.setIfInBounds j u) { cls:=.type "list",data:=.seq its.toArray n }={ cls:=.type "list",data:=.seq (its.set j u).toArray n }:=by
 simp [DU]
theorem Inv.lst {pins:List (Addr×Obj)}{σ:St}{H:Hp}{s:AB}{p:Addr}{xs:List V}(I:Inv X pins σ H s)(h:H p=some (.lst xs)) :
  ∃(its:List Ap)(n:Nat),Vals xs its/\s.heap.get? p=some { cls:=.type "list",data:=.seq its.toArray n }/\xs.length<=AL:=by
 obtain⟨z,its,n,r,e⟩:=I.hok p _ h;exact⟨its,n,r,e,z⟩
theorem Inv.aax {pins:List (Addr×Obj)}{σ:St}{H:Hp}{s:AB}{p:Addr}{xs ys:List V}{its its':List Ap}{n n':Nat}{f:Obj->Obj}(I:Inv X pins σ H s)(h:H p=some (.lst xs))
  (ho:s.heap.get? p=some { cls:=.type "list",data:=.seq its.toArray n }) (hf:f { cls:=.type "list",data:=.seq its.toArray n }={ cls:=.type "list",data:=.seq its'.toArray n' }) (r:Vals ys its') (hz:ys.length<=AL) (t:Nat) :
  Inv X pins σ (upd H p (.lst ys)) { s with heap:=s.heap.update p f,toks:=t }:=by
 have e:(s.heap.update p f).get? p=some { cls:=.type "list",data:=.seq its'.toArray n' }:=by
  rw[GH f ho (by rw[hf] <;> rfl),hf]
 refine I.write (x:=p) (e:=p) (by rw[h];trivial) (.inl rfl) (fun b u hb q=>(DH _ _ (BA hb)).trans q) ⟨_,e⟩ ?_;exact⟨hz,its',n',r,e⟩
noncomputable def aa9:V->V->V->Hp->(Hp->Prop)->Prop:=fun o i v H Q=>∃p xs k j,o=.ref p/\i=.int k/\H p=some (.lst xs)/\ixN xs.length k=some j/\Q (upd H p (.lst (xs.set j v)))
theorem set_list:YH X aa9:=by
 intro pins s σ H o i v ov iv u Q I ro ri rv h;obtain⟨p,xs,k,j,rfl,rfl,hp,hj,q⟩:=h;cases ro;obtain⟨t,rfl⟩:=ri;obtain⟨its,n,r,ho,hz⟩:=I.lst hp;obtain⟨h1,h2,h3,h4⟩:=LC hj;have hl:=r.length;have hn:=yw;have I':Inv X pins σ (upd H p (.lst (xs.set j v))) { s with heap:=s.heap.update p (DU (·.setIfInBounds j u)) }:=
  I.aax hp ho (Jv its n j u) (r.set rv j) (by rw[List.length_set];exact hz) s.toks
 by_cases h0:0<=k
 ·have hk:k.toNat=j:=by
   rw[seqIndex_of h0 h4] at h1;exact BN h1
  exact PySem.W.ki_setAt ho h0 ω (by rw[AX,<- hl];exact h4) (by rw[hk];exact⟨_,I',q⟩)
 have hk:(k+(its.toArray.size:Int)).toNat=j:=by
  rw[seqIndex_neg ω h3] at h1;rw[AX,<- hl];exact BN h1
 exact PySem.W.ki_setBack ho ω (by rw[AX,<- hl];exact h3) ω (by rw[hk];exact⟨_,I',q⟩)
theorem Cg (lo hi:Option Int)(n:Nat):(GY lo hi none n).1=((HT.sIx n 0 lo:Nat):Int)/\(GY lo hi none n).2.1=((HT.sIx n n hi:Nat):Int)/\(GY lo hi none n).2.2=1:=by
 refine⟨?_,?_,rfl⟩
 ·cases lo with
  | none=>simp [GY,HT.sIx]
  | some i=>
   simp only[GY,HT.sIx,getD_none,show(1:Int)>0 by decide,if_true];by_cases h:i<0
   ·simp only[h,if_true] <;> omega
   simp only[h,if_false] <;> omega
 cases hi with
 | none=>simp [GY,HT.sIx]
 | some i=>
  simp only[GY,HT.sIx,getD_none,show(1:Int)>0 by decide,if_true];by_cases h:i<0
  ·simp only[h,if_true] <;> omega
  simp only[h,if_false] <;> omega
theorem zq (its:List Ap)(lo hi:Option Int):slicePick its.toArray lo hi none=((its.drop (HT.sIx its.length 0 lo)).take (HT.sIx its.length its.length hi-HT.sIx its.length 0 lo)).toArray:=by
 obtain⟨h1,h2,h3⟩:=Cg lo hi its.toArray.size;unfold slicePick;rw[h1,h2,h3];simp only[sliceRange_one,pick_run,AX] <;> rfl
noncomputable def abR (K:AD):V->Option Int->Option Int->Hp->VK->Prop:=fun x lo hi H Q=>∃a xs,x=.ref a/\SqL K H a xs/\∀p,H p=none->Q (.ref p) (upd H p (.lst (jz xs lo hi)))
theorem VN:SlR X (abR X.K):=by
 intro pins s σ H x v vl vu lo hi sl Q I rx hs pl pu h;obtain⟨a,xs,rfl,hx,q⟩:=h;cases rx;obtain⟨its,r,ht,hz⟩:=I.list hx;have hlen:=r.length;refine⟨"list",_,slot_list_getitem.lookup,ht.isList.typeIs,?_⟩;refine wpAny_getItem_list_slice ht.isList hs pl pu .none (by simp) ?_ (by rw[AX] <;> omega)
 rw[zq,<- hlen];refine⟨.ref s.heap.objs.size,_,I.laid (t':=s.toks) (o:=.lst (jz xs lo hi)) (fun b ob q=>AA _ q) (AZ _) ?_,rfl,q _ (I.hok.fresh (AZ _))⟩;exact⟨BG (vL xs lo hi) hz,_,0,(r.drop (HT.sIx xs.length 0 lo)).take (HT.sIx xs.length xs.length hi-HT.sIx xs.length 0 lo),AQ _ rfl⟩
noncomputable def iJ:V->Bool
 | .non=>true
 | .bl _=>true
 | .int _=>true
 | .str _=>true
 | _=>false
noncomputable def eqV:V->V->Bool
 | .non,.non=>true
 | .bl a,.bl b=>a == b
 | .bl a,.int b=>(if a then 1 else 0) == b
 | .int a,.bl b=>a == (if b then 1 else 0)
 | .int a,.int b=>a == b
 | .str a,.str b=>a == b
 | _,_=>false
theorem U3 {A:Bz}{s:AB}{y x:V}{u v:Ap}(ry:RelV y u)(rx:RelV x v)(fy:iJ y=true)(fx:iJ x=true):BM A s u v (eqV y x):=by
 cases y with
 | non=>
  cases ry;cases x with
  | non=>cases rx;exact BM.same _
  | bl b=>cases rx;exact BM.none_bool b
  | int b=>obtain⟨t,rfl⟩:=rx;exact BM.none_int b t
  | str b=>obtain⟨t,rfl⟩:=rx;exact BM.none_str b t
  | _=>exact absurd (show false=true from fx) A3
 | bl a=>
  cases ry;cases x with
  | non=>cases rx;exact BM.bool_none a
  | bl b=>cases rx;exact BM.bool_bool a b
  | int b=>obtain⟨t,rfl⟩:=rx;exact BM.bool_int a b t
  | str b=>obtain⟨t,rfl⟩:=rx;exact BM.bool_str a b t
  | _=>exact absurd (show false=true from fx) A3
 | int a=>
  obtain⟨t',rfl⟩:=ry;cases x with
  | non=>cases rx;exact BM.int_none a t'
  | bl b=>cases rx;exact BM.int_bool a t' b
  | int b=>obtain⟨t,rfl⟩:=rx;exact BM.int_int a t' b t
  | str b=>obtain⟨t,rfl⟩:=rx;exact BM.int_str a t' b t
  | _=>exact absurd (show false=true from fx) A3
 | str a=>
  obtain⟨t',rfl⟩:=ry;cases x with
  | non=>cases rx;exact BM.str_none a t'
  | bl b=>cases rx;exact BM.str_bool a t' b
  | int b=>obtain⟨t,rfl⟩:=rx;exact BM.str_int a t' b t
  | str b=>obtain⟨t,rfl⟩:=rx;exact BM.str_str a t' b t
  | _=>exact absurd (show false=true from fx) A3
 | _=>exact absurd (show false=true from fy) A3
noncomputable def eqU (x:V)(u:Ap):Bool:=match u with
 | .none=>eqV .non x
 | .bool b=>eqV (.bl b) x
 | .int i _=>eqV (.int i) x
 | .str z _=>eqV (.str z) x
 | _=>false
theorem U0 {x y:V}{u:Ap}(r:RelV y u)(f:iJ y=true):eqU x u=eqV y x:=by
 cases y with
 | non=>cases r;rfl
 | bl b=>cases r;rfl
 | int i=>obtain⟨t,rfl⟩:=r;rfl
 | str z=>obtain⟨t,rfl⟩:=r;rfl
 | _=>exact absurd (show false=true from f) A3
theorem ud {x:V}:∀{xs:List V}{us:List Ap},Vals xs us->xs.all iJ=true->us.any (eqU x)=xs.any fun y=>eqV y x
 | _,_,.nil,_=>rfl
 | y::xs,u::us,.cons r t,f=>by
  rw[all_cons,C9] at f;rw[HM,HM,U0 r f.1,ud t f.2]
theorem pN {A:Bz}{s:AB}{x:V}{v:Ap}(rx:RelV x v)(fx:iJ x=true):∀{xs:List V}{us:List Ap},Vals xs us->xs.all iJ=true->∀u∈us,BM A s u v (eqU x u)
 | _,_,.nil,_=>fun u hu=>by cases hu
 | y::xs,u::us,.cons r t,f=>fun u' hu=>by
  rw[all_cons,C9] at f;rcases A5.mp hu with rfl|hu
  ·rw[U0 r f.1];exact U3 r rx f.1 fx
  exact pN rx fx t f.2 u' hu
noncomputable def inV (x:V)(xs:List V):Bool:=xs.any fun y=>eqV y x
noncomputable def rIn (K:AD)(neg:Bool):R2:=fun x y H Q=>∃p xs,y=.ref p/\(SqL K H p xs\/SqT K H p xs)/\iJ x=true/\xs.all iJ=true/\Q (.bl (if neg then !inV x xs else inV x xs)) H
theorem NQ:OpR X (CH .In) (rIn X.K false):=by
 intro pins s σ H x y v u Q I rx ry h;obtain⟨p,xs,rfl,hq,fx,fs,q⟩:=h;cases ry;rcases hq with hq|hq
 ·obtain⟨its,r,pl,hz⟩:=I.list hq;refine SeqAt.in_listAt (eqU x) pl.isList (fun w hw=>pN rx fx r fs w (by simpa using hw)) ⟨.bl _,H,I,rfl,?_⟩;rw[show its.toArray.any (eqU x)=its.any (eqU x) by simp,ud r fs];exact q
 obtain⟨its,r,pl,hz⟩:=I.tuple hq;refine SeqAt.in_tupleAt (eqU x) pl (fun w hw=>pN rx fx r fs w (by simpa using hw)) ⟨.bl _,H,I,rfl,?_⟩;rw[show its.toArray.any (eqU x)=its.any (eqU x) by simp,ud r fs];exact q
theorem CG:OpR X (CH .NotIn) (rIn X.K true):=by
 intro pins s σ H x y v u Q I rx ry h;obtain⟨p,xs,rfl,hq,fx,fs,q⟩:=h;cases ry;rcases hq with hq|hq
 ·obtain⟨its,r,pl,hz⟩:=I.list hq;refine SeqAt.notIn_listAt (eqU x) pl.isList (fun w hw=>pN rx fx r fs w (by simpa using hw)) ⟨.bl _,H,I,rfl,?_⟩;rw[show its.toArray.any (eqU x)=its.any (eqU x) by simp,ud r fs];exact q
 obtain⟨its,r,pl,hz⟩:=I.tuple hq;refine SeqAt.notIn_tupleAt (eqU x) pl (fun w hw=>pN rx fx r fs w (by simpa using hw)) ⟨.bl _,H,I,rfl,?_⟩;rw[show its.toArray.any (eqU x)=its.any (eqU x) by simp,ud r fs];exact q
theorem jH:fL X (.builtin "len") (fun xs H Q=>∃p ys,xs=[.ref p]/\(SqL X.K H p ys\/SqT X.K H p ys)/\Q (.int ys.length) H):=by
 intro pins s σ H xs us Q I r h;obtain⟨p,ys,rfl,hq,q⟩:=h;obtain⟨u,rfl,rx⟩:=vals1 r;cases rx;have hn:=yw;rcases hq with hq|hq
 ·obtain⟨its,r',pl,hz⟩:=I.list hq;have hlen:=r'.length;exact Calls.call_len_list pl.isList (by simp only[AX] <;> omega) ⟨.int ys.length,H,I.tok _,⟨s.toks+1,by rw[AX,hlen]⟩,q⟩
 obtain⟨its,r',pl,hz⟩:=I.tuple hq;have hlen:=r'.length;exact len_tuple pl (by simp only[AX] <;> omega) ⟨.int ys.length,H,I.tok _,⟨s.toks+1,by rw[AX,hlen]⟩,q⟩
theorem tY:fL X (.type "list") (fun xs H Q=>∃p ys,xs=[.ref p]/\(SqL X.K H p ys\/SqT X.K H p ys)/\∀l,H l=none->Q (.ref l) (upd H l (.lst ys))):=by
 intro pins s σ H xs us Q I r h;obtain⟨p,ys,rfl,hq,q⟩:=h;obtain⟨u,rfl,rx⟩:=vals1 r;cases rx;have fin:∀(its:List Ap),Vals ys its->ys.length<=AL->∀(h':Heap)(c':Nat),(∀b o',s.heap.get? b=some o'->h'.get? b=some o') ->
   h'.get? s.heap.objs.size=some { cls:=.type "list",dict:=none,data:=.seq its.toArray c',slots:=#[] }->EP X pins σ Q (.ref s.heap.objs.size) { s with heap:=h' }:=fun its r' hz h' c' kp e=>
  ⟨.ref s.heap.objs.size,_,I.laid (t':=s.toks) kp (AZ _) (show cZ X.prog X.w _ h' _ (.lst ys) from⟨hz,its,c',r',e⟩),rfl,q _ (I.hok.fresh (AZ _))⟩
 rcases hq with hq|hq
 ·obtain⟨its,r',pl,hz⟩:=I.list hq;have hlen:=r'.length;obtain⟨o,ho,hc,n,hd⟩:=pl.isList;exact call_list_seq p (.inl rfl) ho hc hd (fun h' c' kp e=>fin its r' hz h' c' kp e) (by simp only[AX] <;> omega)
 obtain⟨its,r',pl,hz⟩:=I.tuple hq;have hlen:=r'.length;obtain⟨o,ho,hc,n,hd⟩:=pl;exact call_list_seq p (.inr rfl) ho hc hd (fun h' c' kp e=>fin its r' hz h' c' kp e) (by simp only[AX] <;> omega)
theorem qP:fL X (.type "tuple") (fun xs H Q=>∃p ys,xs=[.ref p]/\((SqL X.K H p ys/\∀l,H l=none->Q (.ref l) (upd H l (.tup ys)))\/(SqT X.K H p ys/\Q (.ref p) H))):=by
 intro pins s σ H xs us Q I r h;obtain⟨p,ys,rfl,h⟩:=h;obtain⟨u,rfl,rx⟩:=vals1 r;cases rx;rcases h with⟨hq,q⟩|⟨hq,q⟩
 ·obtain⟨its,r',pl,hz⟩:=I.list hq;have hlen:=r'.length;refine call_tuple_list pl.isList (fun h' kp=>?_) (by simp only[AX] <;> omega)
  have I1:Inv X pins σ H { s with heap:=h' }:=I.kept (t':=s.toks) kp;have I2:Inv X pins σ (upd H h'.objs.size (.tup ys)) { s with heap:=h'.push { cls:=.type "tuple",data:=.seq its.toArray } }:=
   I1.laid (t':=s.toks) (fun b o e=>AA _ e) (AZ _) (show cZ X.prog X.w _ _ _ (.tup ys) from⟨hz,its,r',JA.new _ _⟩)
  exact⟨.ref h'.objs.size,_,I2,rfl,q _ (I1.hok.fresh (AZ _))⟩
 obtain⟨its,r',pl,hz⟩:=I.tuple hq;exact call_tuple_same pl ⟨.ref p,H,I,rfl,q⟩
noncomputable def tyV (K:AD)(T:String)(x:V)(H:Hp):Prop:=match x with
 | .str _=>T = "str"
 | .int _=>T = "int"
 | .ref p=>(T = "list" /\ ∃xs,SqL K H p xs)\/(T = "tuple" /\ ∃o,K.lookup p=some o/\o.cls=.type "tuple" /\ o.dict=none) \/
   (T = "dict" /\ ((∃kvs,H p=some (.dK kvs))\/∃kvs,H p=some (.dT kvs)))\/(T = "set" /\ ∃S n,H p=some (.set S n))
 | _=>False
theorem qT {pins:List (Addr×Obj)}{σ:St}{H:Hp}{s:AB}{T:String}{x:V}{v:Ap}(I:Inv X pins σ H s)(r:RelV x v)(ty:tyV X.K T x H) :
  s.TypeIs v T/\∀a,v=.ref a->∃ob,s.heap.get? a=some ob/\ob.dict=none:=by
 cases x with
 | str z=>
  obtain⟨t,rfl⟩:=r;cases (show T = "str" from ty);exact⟨typeIs_str s z t,fun _ e=>nomatch e⟩
 | int i=>
  obtain⟨t,rfl⟩:=r;cases (show T = "int" from ty);exact⟨typeIs_int s i t,fun _ e=>nomatch e⟩
 | ref p=>
  cases r;rcases ty with⟨rfl,xs,hq⟩|⟨rfl,o,hk,hc,hd⟩|⟨rfl,hk⟩|⟨rfl,S,n,hk⟩
  ·obtain⟨its,_,pl,_⟩:=I.list hq;refine⟨pl.isList.typeIs,fun a e=>?_⟩;cases e;obtain⟨o,n,e,c,hd,_⟩:=pl;exact⟨o,e,hd⟩
  ·refine⟨⟨o,I.kIn p o hk,hc⟩,fun a e=>?_⟩;cases e;exact⟨o,I.kIn _ o hk,hd⟩
  ·have z:∃o,s.heap.get? p=some o/\o.ExactDict:=by
    rcases hk with⟨kvs,hk⟩|⟨kvs,hk⟩
    ·obtain⟨_,_,_,_,o,_,_,e,ex,_⟩:=I.hok p _ hk;exact⟨o,e,ex⟩
    obtain⟨_,_,_,_,o,_,_,e,ex,_⟩:=I.hok p _ hk;exact⟨o,e,ex⟩
   obtain⟨o,e,ex⟩:=z;refine⟨⟨o,e,ex.1⟩,fun a e2=>?_⟩;cases e2;exact⟨o,e,ex.2.1⟩
  obtain⟨o,_,_,_,e,ex,_⟩:=I.hok p _ hk;refine⟨⟨o,e,ex.1⟩,fun a e2=>?_⟩;cases e2;exact⟨o,e,ex.2.1⟩
 | _=>exact EG ty
variable {o e:Expr}{es:List Expr}{to:TE}{t:TA}{name:Str}{apos cpos:Pos}{T id:String}{r:V->List V->Hp->VK->Prop}
end
noncomputable def MtM (X:Cx)(id:String)(r:V->List V->Hp->VK->Prop):Prop:=
 ∀(pins:List (Addr×Obj)) (s:AB) (σ:St) (H:Hp) (x:V) (xs:List V) (v:Ap) (us:List Ap) (Q:VK),Inv X pins σ H s->RelV x v->Vals xs us->r x xs H Q ->
  AG (AW X.prog X.w) X.A (call (.builtin id) (v::us)) (EP X pins σ Q) X.xe s
theorem Vals.one:∀{x:V}{us:List Ap},Vals [x] us->∃u,us=[u]/\RelV x u:=fun h=>by
 cases h with
 | cons r h=>
  cases h;exact⟨_,rfl,r⟩
theorem Vals.zero:∀{us:List Ap},Vals [] us->us=[]
 | _,.nil=>rfl
theorem Vals.dropLast {xs:List V}{us:List Ap}(h:Vals xs us):Vals xs.dropLast us.dropLast:=by
 induction h with
 | nil=>exact .nil
 | cons r t ih=>
  cases t with
  | nil=>exact .nil
  | cons q t'=>exact .cons r ih
theorem Vals.rep {xs:List V}{us:List Ap}(h:Vals xs us):∀k:Nat,Vals (B8 k xs).flatten (B8 k us).flatten
 | 0=>.nil
 | k+1=>by
  rw[F6,F6,flatten_cons,flatten_cons];exact Vals.append h (Vals.rep h k)
theorem JZ {α:Type}(l:List α):l.eraseIdx (l.length-1)=l.dropLast:=by
 induction l with
 | nil=>rfl
 | cons a r ih=>
  cases r with
  | nil=>rfl
  | cons b r=>
   have e:(a::b::r).length-1=((b::r).length-1)+1:=by
    have h1:(a::b::r).length=r.length+2:=rfl;have h2:(b::r).length=r.length+1:=rfl;omega
   rw[e,List.eraseIdx_cons_succ,ih]
   all_goals rfl
theorem foldl_rep (its:List Ap):∀(k:Nat)(acc:List Ap),
  List.foldl (fun x1 x2=>x1++x2) acc.toArray (B8 k its.toArray)=(acc++(B8 k its).flatten).toArray
 | 0,acc=>by simp
 | k+1,acc=>by
  have e:acc.toArray++its.toArray=(acc++its).toArray:=by simp
  have e2:(acc++its)++(B8 k its).flatten=acc++(B8 (k+1) its).flatten:=by
   rw[F6,flatten_cons,Dx]
  rw[<- e2,<- foldl_rep its k (acc++its),<- e,F6,foldl_cons]
section
variable {X:Cx}{pins:List (Addr×Obj)}{σ:St}{H:Hp}{s:AB}{l b:Addr}{xs ys zs:List V}
theorem Inv.aay {its its':List Ap}{n:Nat}{f:Array Ap->Array Ap}{t':Nat}(I:Inv X pins σ H s)(hH:H l=some (.lst xs))
  (e:s.heap.get? l=some { cls:=.type "list",data:=.seq its.toArray n }) (hf:f its.toArray=its'.toArray) (hv:Vals ys its') (hz:ys.length<=AL) :
  Inv X pins σ (upd H l (.lst ys)) { s with heap:=s.heap.update l (DU f),toks:=t' }:=by
 have q:=PySem.IsL.update e f;rw[hf] at q;refine I.write (x:=l) (e:=l) (by rw[hH];exact trivial) (.inl rfl) (fun b' u hb hu=>(DH s.heap (DU f) (BA hb)).trans hu) ⟨_,q⟩ ?_;exact⟨hz,its',_,hv,q⟩
theorem Inv.abF {its:List Ap}{t':Nat}(I:Inv X pins σ H s)(hv:Vals ys its)(hz:ys.length<=AL) :
  Inv X pins σ (upd H s.heap.objs.size (.lst ys)) { s with heap:=s.heap.push { cls:=.type "list",data:=.seq its.toArray },toks:=t' }:=
 I.laid (fun _ _ q=>AA _ q) (AZ _) ⟨hz,its,0,hv,AQ _ rfl⟩
theorem Inv.fresh (I:Inv X pins σ H s):H s.heap.objs.size=none:=I.hok.fresh (AZ _)
theorem Inv.Jw (I:Inv X pins σ H s) (hH:H l=some (.lst xs)):xs.length<=AL/\∃(its:List Ap)(n:Nat),Vals xs its/\xs.length=its.length/\s.heap.get? l=some { cls:=.type "list",data:=.seq its.toArray n }:=by
 obtain⟨z,its,n,r,e⟩:=I.hok l _ hH;exact⟨z,its,n,r,r.length,e⟩
theorem FP {n:Nat}(h:n<=AL):AI.List.listTooLong n=false:=by
 unfold AI.List.listTooLong;exact decide_eq_false ω
end
section
variable {X:Cx}
noncomputable def Wb:V->List V->Hp->VK->Prop:=fun x vs H Q=>∃l xs y,x=.ref l/\vs=[y]/\H l=some (.lst xs)/\xs.length<AL/\Q .non (upd H l (.lst (xs++[y])))
theorem Oe:MtM X "list.append" Wb:=by
 intro pins s σ H x vs v us Q I rx rv h;obtain⟨l,xs,y,rfl,rfl,hH,hz,q⟩:=h;cases rx;obtain⟨u,rfl,ru⟩:=rv.one;obtain⟨z,its,n,r,hl,e⟩:=I.Jw hH;refine Ee F.slot_list_append ⟨_,e,rfl⟩ KU (Kj _ _) (PySem.list_append l its.toArray n u (by rw[AX];omega)) ⟨e,?_⟩;refine⟨.non,_,I.aay (its':=its++[u]) hH e (by simp) (r.append (.cons ru .nil)) ?_,rfl,q⟩;rw[AH,A8];omega
noncomputable def V7:V->List V->Hp->VK->Prop:=fun x vs H Q=>∃l b xs zs,x=.ref l/\vs=[.ref b]/\H l=some (.lst xs)/\H b=some (.lst zs)/\xs.length+zs.length<=AL/\Q .non (upd H l (.lst (xs++zs)))
theorem Od:MtM X "list.extend" V7:=by
 intro pins s σ H x vs v us Q I rx rv h;obtain⟨l,b,xs,zs,rfl,rfl,hH,hB,hz,q⟩:=h;cases rx;obtain⟨u,rfl,ru⟩:=rv.one;cases ru;obtain⟨z,its,n,r,hl,e⟩:=I.Jw hH;obtain⟨z2,its2,n2,r2,hl2,e2⟩:=I.Jw hB;have hsz:its.toArray.size+its2.toArray.size<=AL:=by rw[AX,AX];omega
 have hlong:¬(!its.toArray.isEmpty&&AI.List.listTooLong (its.toArray.size+its2.toArray.size))=true:=by
  rw[FP hsz,F7];exact A3
 refine Ee F.slot_list_extend ⟨_,e,rfl⟩ F.entry_list_extend (F.args_list_extend_2 _ _)
  (AutoSeq1.list_extend_list_list_0 l its.toArray n b its2.toArray n2 hlong (by rw[AX];omega) ω) ⟨e,e2,?_⟩
 refine⟨.non,_,I.aay (its':=its++its2) hH e (by simp) (r.append r2) ?_,rfl,q⟩;rw[AH];omega
noncomputable def abT:V->List V->Hp->VK->Prop:=fun x vs H Q=>∃l xs y,x=.ref l/\vs=[]/\H l=some (.lst xs)/\xs[xs.length-1]?=some y/\Q y (upd H l (.lst xs.dropLast))
theorem aau:MtM X "list.pop" abT:=by
 intro pins s σ H x vs v us Q I rx rv h;obtain⟨l,xs,y,rfl,rfl,hH,hy,q⟩:=h;cases rx;have hus:=rv.zero;subst hus;obtain⟨z,its,n,r,hl,e⟩:=I.Jw hH;obtain⟨u,hu,ru⟩:=r.get hy;have hy':its.toArray[its.toArray.size-1]?=some u:=by
  show its.toArray[its.length-1]?=some u;rw[<- C4,<- hl];exact hu
 refine Ee F.slot_list_pop ⟨_,e,rfl⟩ F.entry_list_pop (F.args_list_pop_1 _) (MeetsSeq.list_pop_last l its.toArray n u hy' (by rw[AX];omega)) ⟨e,?_⟩;refine⟨y,_,I.aay (its':=its.dropLast) hH e ?_ r.dropLast ?_,ru,q⟩
 ·show its.toArray.eraseIdxIfInBounds (its.toArray.size-1)=its.dropLast.toArray;rw[AX,List.eraseIdxIfInBounds_toArray,JZ]
 rw[List.length_dropLast];omega
noncomputable def abY:R2:=fun x y H Q=>∃l b xs zs,x=.ref l/\y=.ref b/\H l=some (.lst xs)/\H b=some (.lst zs)/\xs.length+zs.length<=AL/\∀p,H p=none->Q (.ref p) (upd H p (.lst (xs++zs)))
theorem aak:OpR X (Ev .Add) abY:=by
 intro pins s σ H x y v u Q I rx ry h;obtain⟨l,b,xs,zs,rfl,rfl,hH,hB,hz,q⟩:=h;cases rx;cases ry;obtain⟨z,its,n,r,hl,e⟩:=I.Jw hH;obtain⟨z2,its2,n2,r2,hl2,e2⟩:=I.Jw hB;refine PySem.P.add_list e e2 ?_ (by rw[AX,AX];omega);have ea:its.toArray++its2.toArray=(its++its2).toArray:=by simp
 rw[ea];exact⟨.ref _,_,I.abF (t':=s.toks) (r.append r2) (by rw[AH];omega),rfl,q _ I.fresh⟩
noncomputable def abS:R2:=fun x y H Q=>∃l k xs,x=.ref l/\y=.int k/\H l=some (.lst xs)/\-(2^63)<=k/\k<2^63/\xs.length*k.toNat<=AL /\
 ∀p,H p=none->Q (.ref p) (upd H p (.lst (B8 k.toNat xs).flatten))
theorem len_rep {α:Type}(xs:List α)(k:Nat):(B8 k xs).flatten.length=k*xs.length:=by
 induction k with
 | zero=>simp
 | succ k ih=>rw[F6,flatten_cons,AH,ih,succ_mul,Nat.add_comm]
theorem aaf:OpR X (Ev .Mult) abS:=by
 intro pins s σ H x y v u Q I rx ry h;obtain⟨l,k,xs,rfl,rfl,hH,h1,h2,hz,q⟩:=h;cases rx;obtain⟨t,rfl⟩:=ry;obtain⟨z,its,n,r,hl,e⟩:=I.Jw hH;have hlen:its.toArray.size*k.toNat<=AL:=by rw[AX,<- hl];exact hz
 have hcap:¬its.toArray.size*k.toNat>(2^63-1)/8:=by
  have:(AL:Nat)<=(2^63-1)/8:=by decide
  omega
 have hfit:¬(!Builtin.List.listFitsIndex k)=true:=by
  rw[fitsIndex_both h1 h2];exact A3
 have hlong:¬AI.List.listTooLong (its.toArray.size*k.toNat)=true:=by
  rw[FP hlen];exact A3
 have hnew:List.foldl (fun x1 x2=>x1++x2) #[] (B8 (if its.toArray.isEmpty=true then 0 else k.toNat) its.toArray)=(B8 k.toNat its).flatten.toArray:=by
  have f0:∀m:Nat,List.foldl (fun x1 x2=>x1++x2) #[] (B8 m its.toArray)=(B8 m its).flatten.toArray:=fun m=>by
   have:=foldl_rep its m [];rw[List.nil_append] at this;exact this
  rw[f0];cases its with
  | nil=>simp
  | cons a r'=>rw[if_neg (by simp)]
 refine wpAny_binaryOp_repeat_ref (T := "list") (U := "int") δ ⟨_,e,rfl⟩ (fun s'=>typeIs_int s' k t) noFill_list_mul F.fills_int_mul F.slot_int_rmul repeat_list F.slot_int_index.lookup
  (Ee F.slot_int_rmul (typeIs_int s k t) F.entry_int_rmul (F.args_int_rmul_2 _ _) (int___rmul___int_list k t l its.toArray n)
   ⟨e,rfl,⟨_,e,rfl⟩,Ee F.slot_list_mul ⟨_,e,rfl⟩ F.entry_list_mul (F.args_list_mul_2 _ _) (AutoListH.list___mul___list_int_3 l its.toArray n k t hfit hcap hlong) ⟨e,?_⟩⟩)
 rw[hnew];exact⟨.ref _,_,I.abF (t':=s.toks) (r.rep k.toNat) (by rw[len_rep,Nat.mul_comm];exact hz),rfl,q _ I.fresh⟩
end
end L2
namespace Att
open PySem PySem.W PySem.Calls PyProof.Rows
theorem vX {P:Params}{h:Heap}:∀(ns:List Int)(vs:List Ap),WellAll P h vs (ns.map WData.int)->FD vs ns:=by
 intro ns
 induction ns with
 | nil=>
  intro vs w;rw[He] at w;cases w;exact .nil
 | cons n ns ih=>
  intro vs w;rw[CF] at w;cases w with
  | cons a b=>
   cases a;exact .cons _ _ (ih _ b)
theorem Nh {l:OpenLaw}{n:Nat}(hn:l.most=some n){P:Params}{h:Heap}{args:List WData}{vals:List Ap}
  (hpre:l.row.toRowW.claim.pre args=true) (hwl:WellAll P h vals args) :
  ∃a vs ns,vals=[Ap.ref a]/\args=[WData.list (ns.map WData.int)]/\h.get? a=some { cls:=.type "list",data:=.seq vs.toArray }/\FD vs ns/\ns.length<=n:=by
 have hsh:WShape.hasAll [] args [.list .int]=true:=(pre_splitW hpre).1;have hc:l.pre.holds [] { args:=args }=true:=(pre_splitW hpre).2;obtain⟨d,r,rfl,h1,h2⟩:=hasAllW_cons hsh;obtain rfl:=hasAllW_nil h2;obtain⟨xs,rfl,h3⟩:=hasW_list h1;obtain⟨ns,rfl⟩:=items_int h3;have hlen:ns.length<=n:=by
  unfold OpenLaw.pre at hc;have h4:(WTm.not (.lt (.lit (.int (n:Int))) (.len (.arg 0)))).holds [] { args:=[.list (ns.map .int)] }=true:=by
   have h4:=(holds_andW hc).1;rw[hn] at h4;exact h4
  have h5:=condW_of h4 (w_not (w_lt w_lit (w_len_list (w_arg rfl))));rw[AE] at h5;refine Nat.le_of_not_lt fun q=>?_;have q':(n:Int)<((ns.length:Nat):Int):=ω
  first
   | (rw[decide_eq_true q'] at h5;exact absurd h5 δ)
   | (simp at h5;omega)
 cases hwl with
 | cons w1 w2=>
  cases w2;cases w1 with
  | list ho hall=>exact⟨_,_,ns,rfl,rfl,ho,vX ns _ hall,hlen⟩
theorem Nu (l:OpenLaw)(args:List WData):l.row.toRowW.claim.post args (.bool true) args=true:=
 postW_of (r:=l.row.toRowW) (X:=(true == true))
  (show WShape.has [] (.bool true) .bool=true by first|rfl|decide|simp [WShape.has,WShape.arms,WShape.armsAll])
  (show(WTm.eq .res (.lit (.bool true))).value [] { args:=args,res:=some (.bool true),after:=args }=some (.bool (true == true)) from w_eq_bool (w_res rfl) w_lit) rfl
theorem Hu {l:OpenLaw}{n:Nat}{q:AR}{loose:List Str}{XP:(Str->Option Ap)->Heap->Prop}{YP:Bi->Heap->Prop}{d:DefRec}
  (hn:l.most=some n) (hdf:d.params.defaults=[])
  (call:∀(w:Bi)(s₀ s₁:AB)(mg mb:Str->Option Ap)(fa:Addr)(o:Obj)(pm cd doc:Ap)(a:Addr)(vs:List Ap)(ns:List Int),
   Ground q loose [] XP w s₀ mg mb s₁.heap->YP w s₁.heap ->
   s₁.heap.get? fa=some o->o.data=.func (docDef d.name d.params d.body d.scope pm cd doc)->s₁.heap.CodeRec cd d.name->mg d.name=some (.ref fa) ->
   s₁.heap.get? a=some { cls:=.type "list",data:=.seq vs.toArray }->FD vs ns->ns.length<=n->s₁.gens=#[] ->
   Ff (AW l.prog w) callerA (.call (.ref fa) ⟨[.ref a],[]⟩) (fun r s'=>r=.ok (.ret (.bool true))/\OldK s₁.heap s'.heap/\s'.os=s₁.os/\IR s'.gens) s₁) :
  WalkO q loose XP YP l.row.toRowW d [] (fun f vs=>PySem.call f vs):=by
 intro w s₀ s₁ mg mb G Y fa o pm cd doc dV kV ho hd hcd hD hmg hg args vals as hpre hlay hrd hwl hlo;obtain rfl:dV=.none:=Dflts.none hD hdf;obtain rfl:kV=.none:=Dflts.noKw hD;obtain⟨a,vs,ns,rfl,rfl,hobj,hints,hlen⟩:=Nh hn hpre hwl;refine enter_call (IT (call w s₀ s₁ mg mb fa o pm cd doc a vs ns G Y ho (fd_plain hd) hcd hmg hobj hints hlen hg) fun r s' hq=>?_);obtain⟨rfl,h2,h3,h4⟩:=hq;exact⟨.inl ⟨.bool true,.bool true,[],rfl,fun _=>rfl,.bool true,Nu l _,fun _=>⟨List.Pairwise.nil,fun _ hm=>(nomatch hm)⟩⟩,h2,h3,h4⟩
end Att
namespace L2
open PySem PySem.Spec PyProof.Rows
theorem Af:∀{vs:List Ap}{ns:List Int},FD vs ns->Vals (ns.map V.int) vs
 | _,_,.nil=>.nil
 | _,_,.cons n t h=>.cons ⟨t,rfl⟩ (Af h)
noncomputable def Only (H:Hp):Prop:=∀b,H b=none\/∃o xs,H b=some (.frz o (.lst xs))
theorem Uc {P:AR}{w:Bi}{K:AD}{mg mb:Str->Option Ap}{CX:CXT}{k:Nat}{fa a:Addr}{fd:CY}{x:Str}{sp:Sp}{s₁:AB}{vs:List Ap}{ns:List Int}
  (KX:K.In s₁.heap) (hns:s₁.heap.Ns AM mg) (hb:s₁.heap.Ns builtinsNs mb) (hbb:∀x:Str,x ≠ "__name__" -> mb x=D1 x) (hlim:s₁.heap.NoLimit) (hg:s₁.gens=#[])
  (ha:s₁.heap.get? a=some { cls:=.type "list",data:=.seq vs.toArray }) (hi:FD vs ns) (hl:ns.length<=AL) (hr:jg k callerA)
  (F:∀base:Heap,K.In base->base.Ns AM mg->dF P w K mg base CX k fa fd [x] sp) (hbind:∀(s:AB)(u:Ap),BindsTo s fd ⟨[u],[]⟩ [(x,u)])
  (hsp:∀H:Hp,Only H->SqL K H a (ns.map V.int)->sp [.ref a] H (fun v _=>v=.bl true) fun _ _ _=>False)
  (hCX:∀H e s',CX [] H s₁ (fun _ _ _=>False) e s'->False) :
  Ff (AW P w) callerA (.call (.ref fa) ⟨[.ref a],[]⟩) (fun r s'=>r=.ok (.ret (.bool true))/\OldK s₁.heap s'.heap/\s'.os=s₁.os/\IR s'.gens) s₁:=by
 have rv:=Af hi;have lenV:=hi.length
 -- from an abstract heap in which nothing but the script may be tracked
 have core:∀H:Hp,Only H->SqL K H a (ns.map V.int)->HOk P w H s₁.heap->(∀b,H b≠none->b=a)->(H a≠none->K.lookup a=none) ->
   Ff (AW P w) callerA (.call (.ref fa) ⟨[.ref a],[]⟩) (fun r s'=>r=.ok (.ret (.bool true))/\OldK s₁.heap s'.heap/\s'.os=s₁.os/\IR s'.gens) s₁:=by
  intro H hO hS hok hA hK;have base_of:∀{b:Addr}{o:Obj},s₁.heap.get? b=some o->H b=none->(Ds s₁.heap H).get? b=some o:=fun e n=>Ur e n;have noA:∀{b:Addr}{o:Obj}{es:Array DictEntry}{ep:Nat},s₁.heap.get? b=some o->o.data=.dict es ep->H b=none:=fun {b o es ep} e d=>by
   cases q:H b with
   | none=>rfl
   | some u=>
    have e':b=a:=hA b (by rw[q];simp);subst e';rw[ha] at e;cases e;have d':DE vs.toArray _=F3 es ep:=d;cases d'
  have nsK:∀{b:Addr}{m:Str->Option Ap},s₁.heap.Ns b m->(Ds s₁.heap H).Ns b m:=fun {b m} ⟨o,es,ep,e,d,r⟩=>⟨o,es,ep,base_of e (noA e d),d,r⟩;have hKb:K.In (Ds s₁.heap H):=fun b o e=>base_of (KX b o e) (by
   cases q:H b with
   | none=>rfl
   | some u=>
    have e':b=a:=hA b (by rw[q];simp);subst e';rw[hK (by rw[q];simp)] at e;cases e)
  have hM:Mod K mg (Ds s₁.heap H):=⟨hKb,nsK hns,⟨mb,nsK hb,hbb⟩,let ⟨mc,h1,h2⟩:=hlim;⟨mc,nsK h1,h2⟩⟩;have e0:YJ P w K mg (Ds s₁.heap H) callerA [] s₁ H:=⟨rfl,hM,fun b o e=>XD e,le_of_eq (Ov _ _),trivial,fun b hb=>absurd (show b∈([]:List Addr) from hb) (by simp),hok,.of_eq hg⟩;refine IT ((F _ hKb (nsK hns)).run callerA [] s₁ H ⟨[.ref a],[]⟩ [.ref a] [.ref a] _ _ hr e0 (hbind s₁ (.ref a)) (.cons rfl .nil) (hsp H hO hS)) fun r s' h=>?_;cases r with
  | error e=>exact(hCX H e s' h).elim
  | ok fl=>
   cases fl with
   | next=>exact EG h
   | brk=>exact EG h
   | cont=>exact EG h
   | ret u=>
    obtain⟨v,H',os,bare,un,hok',r',q⟩:=h;have q':v=.bl true:=q;subst q';obtain rfl:u=Ap.bool true:=r';refine⟨rfl,OldK.of_keep fun b o e=>?_,os,bare⟩;cases q:H b with
    | none=>exact un.keep b o e q (by intro z;exact absurd (show b∈([]:List Addr) from z) (by simp)) (by simp)
    | some u=>
     rcases hO b with z|⟨ob,xs,z⟩
     ·rw[q] at z;cases z
     have z2:=un.frzs b ob _ z;obtain⟨e1,_⟩:=hok b _ z;obtain⟨e2,_⟩:=hok' b _ z2;rw[e] at e1;cases e1;exact e2
 cases hk:K.lookup a with
 | some o=>
  -- the script is one of the module's own objects
  have e:=KX a o hk;rw[ha] at e;cases e;refine core (fun _=>none) (fun _=>.inl rfl) (.inr ⟨_,vs.toArray,_,hk,rfl,rfl,rfl,by rw[AX,lenV];exact hl,by simpa using rv⟩) (fun b u z=>by have z':(none:Option HO)=some u:=z;cases z') (fun b z=>absurd rfl z) fun z=>absurd rfl z
 | none=>
  refine core (fun b=>if b=a then some (.frz { cls:=.type "list",data:=.seq vs.toArray } (.lst (ns.map V.int))) else none) (fun b=>?_) (.inl (.inr ⟨{ cls:=.type "list",data:=.seq vs.toArray },if_pos rfl⟩)) (fun b u z=>?_) (fun b z=>?_) fun _=>hk
  ·by_cases hb:b=a
   ·exact .inr ⟨_,_,if_pos hb⟩
   exact .inl (if_neg hb)
  ·by_cases hb:b=a
   ·have z':=(if_pos hb).symm.trans z;cases z';subst hb;exact⟨ha,by rw[AE];exact hl,vs,_,rv,ha⟩
   have z':=(if_neg hb).symm.trans z;cases z'
  by_cases hb:b=a
  ·exact hb
  exact absurd (if_neg hb) z
theorem Vq {l:PySem.W.OpenLaw}{n k:Nat}{q:AR}{loose:List Str}{XP:(Str->Option Ap)->Heap->Prop}{YP:Bi->Heap->Prop}{d:DefRec}{K:Params->AD}{CX:Bi->CXT}{sp:Bi->Sp}{x:Str}
  (hn:l.most=some n) (hn2:n<=AL) (hdf:d.params.defaults=[]) (hr:jg k callerA)
  (hY:∀(w:Bi)(h:Heap),YP w h->(K w.params).In h)
  (F:∀(w:Bi)(mg:Str->Option Ap)(fa:Addr)(h:Heap),(K w.params).In h->h.Ns AM mg->mg d.name=some (.ref fa) ->
   ∃fd:CY,(∀(s:AB)(u:Ap),BindsTo s fd ⟨[u],[]⟩ [(x,u)]) /\
    ∀base:Heap,(K w.params).In base->base.Ns AM mg->dF l.prog w (K w.params) mg base (CX w) k fa fd [x] (sp w))
  (hsp:∀(w:Bi)(H:Hp)(a:Addr)(ns:List Int),ns.length<=n->Only H->SqL (K w.params) H a (ns.map V.int)->sp w [.ref a] H (fun v _=>v=.bl true) fun _ _ _=>False)
  (hCX:∀(w:Bi)(H:Hp)(s:AB)(e:Ap)(s':AB),CX w [] H s (fun _ _ _=>False) e s'->False) :
  PySem.W.WalkO q loose XP YP l.row.toRowW d [] (fun f vs=>PySem.call f vs):=by
 refine Att.Hu hn hdf fun w s₀ s₁ mg mb fa o pm cd doc a vs ns G Y ho hd hcd hmg hobj hints hlen hg=>?_;have KX:=hY w _ Y;obtain⟨fd,hb,hF⟩:=F w mg fa _ KX G.T.g hmg;exact Uc KX G.T.g G.T.b G.T.builtins G.T.nolimit hg hobj hints (BG hlen hn2) hr hF hb (fun H hO hS=>hsp w H a ns hlen hO hS) fun H e s'=>hCX w H s₁ e s'
noncomputable def aX (s:Stmt):Arguments:=match s with
 | .FunctionDef _ a _ _ _ _ _ _ _ _=>a
 | _=>{ posonlyargs:=[],args:=[],vararg:=none,kwonlyargs:=[],kw_defaults:=[],kwarg:=none,defaults:=[] }
noncomputable def aV (s:Stmt):List Stmt:=match s with
 | .FunctionDef _ _ b _ _ _ _ _ _ _=>b
 | _=>[]
noncomputable def aj (s:Stmt):GG:=match s with
 | .FunctionDef _ _ _ _ _ _ sc _ _ _=>sc
 | _=>{ kind:=.function,names:=[],isGenerator:=false,isCoroutine:=false }
noncomputable abbrev CX0:CXT:=fun _ _ _ _ _ _=>False
noncomputable abbrev E0:XK:=fun _ _ _=>False
theorem abu {X:Cx}:Kf CX0 X E0:=fun _ _ _ _ _ _ _ h=>h.elim
structure Fun (K:AD)(x qual:Str)(st:Stmt)(f:Addr)(fd:CY):Prop where
 ex:∃(oc:Ap)(od:Option Addr)(kV doc pm:Ap)(an:Option Addr)(cdv ct:Ap)(osl:Array (Option Ap)),
  fd=fnOf x qual (aX st) (aV st) (aj st) .none kV doc pm an cdv ct/\K.lookup f=some ⟨oc,od,.func fd,osl⟩/\CM K cdv qual=true
 kp:CD K (.ref f)=true
section
variable {P:AR}{w:Bi}{K:AD}{mg:Str->Option Ap}{base:Heap}
theorem Fun.ok {x qual:Str}{st:Stmt}{f:Addr}{fd:CY}{N ps:List Str}{k:Nat}{sp:Sp}(F:Fun K x qual st f fd)(S:bh N ps (aj st))(len:∀vs H Q E,sp vs H Q E->vs.length=ps.length)
  (hbody:∀(cdv:Ap)(A:Bz)(outer:List Env)(s:AB)(H:Hp)(vs:List V)(Q:VK)(E:XK),jg k (A.deeper (Ki qual (aj st) s.heap.objs.size f cdv))->sp vs H Q E ->
   ∃t,PSs (J1 CX0 P w K mg base N qual (aj st) f cdv A outer s H E).nox (aV st) t/\t { nx:=fun _ H'=>Q .non H',rt:=Q } (start N vs) H):dF P w K mg base CX0 (k+1) f fd ps sp:=by
 obtain⟨oc,od,kV,doc,pm,an,cdv,ct,osl,rfl,lk,hcd⟩:=F.ex;refine abK lk hcd S len fun A outer s H vs Q E hr hsp=>?_;obtain⟨t,h,q⟩:=hbody cdv A outer s H vs Q E hr hsp;exact⟨t,h.nox,q⟩
theorem Fun.binds {x qual:Str}{st:Stmt}{f:Addr}{fd:CY}{ps:List Str}(F:Fun K x qual st f fd)
  (h:∀(kV doc pm:Ap)(an:Option Addr)(cdv ct:Ap)(us:List Ap),us.length=ps.length->bindArgs (fnOf x qual (aX st) (aV st) (aj st) .none kV doc pm an cdv ct) ⟨us,[]⟩=pure (ps.zip us)):Binds K fd ps []:=by
 obtain⟨oc,od,kV,doc,pm,an,cdv,ct,osl,rfl,lk,hcd⟩:=F.ex;exact .all (h kV doc pm an cdv ct)
theorem Uw {x qual:Str}{st:Stmt}{f:Addr}{oc:Ap}{od an:Option Addr}{osl:Array (Option Ap)}{kV doc pm cdv ct:Ap}(l:K.lookup f=some ⟨oc,od,.func (fnOf x qual (aX st) (aV st) (aj st) .none kV doc pm an cdv ct),osl⟩)
  (c:CM K cdv qual=true) (k:CD K (.ref f)=true):Fun K x qual st f (fnOf x qual (aX st) (aV st) (aj st) .none kV doc pm an cdv ct):=⟨⟨oc,od,kV,doc,pm,an,cdv,ct,osl,rfl,l,c⟩,k⟩
end
noncomputable def Same (H H':Hp):Prop:=∀b o,H b=some o->H' b=some o
theorem Same.refl (H:Hp):Same H H:=fun _ _ h=>h
theorem Same.trans {H H1 H2:Hp}(a:Same H H1)(b:Same H1 H2):Same H H2:=fun c o h=>b c o (a c o h)
theorem Same.seq {K:AD}{H H':Hp}{a:Addr}{xs:List V}(e:Same H H')(h:SqL K H a xs):SqL K H' a xs:=by
 rcases h with(h|⟨o,h⟩)|h
 ·exact .inl (.inl (e _ _ h))
 ·exact .inl (.inr ⟨o,e _ _ h⟩)
 exact .inr h
end L2
set_option maxHeartbeats 4000000
namespace L2
open PySem PySem.Spec PyProof.Rows
theorem yU {env:Env}:∀(names:List (Str×DF)) (acc:List (Str×Addr)),
  (∀y∈names,y.2=.free->∃c,env.cells.lookup y.1=some c)->(∀x c,acc.lookup x=some c->env.cells.lookup x=some c) ->
  ∃cl,(forIn names acc fun(y:Str×DF)(r:List (Str×Addr))=>(match y with
   | (name,kind)=>if (kind == .free)=true then (do let a <- cellOf env name;pure (DJ ((name,a)::r))) else pure (DJ r):Sem (ForInStep (List (Str×Addr)))))=pure cl /\
   (∀x c,cl.lookup x=some c->env.cells.lookup x=some c)/\(∀y∈names,y.2=.free->∃c,cl.lookup y.1=some c)/\(∀x c,acc.lookup x=some c->∃c',cl.lookup x=some c')
 | [],acc,_,ha=>⟨acc,rfl,ha,fun _ h=>(nomatch h),fun x c h=>⟨c,h⟩⟩
 | (n,k)::r,acc,hf,ha=>by
  have hf':∀y∈r,y.2=.free->∃c,env.cells.lookup y.1=some c:=fun y hy=>hf y (B1 _ hy);by_cases hk:k=.free
  ·subst hk;obtain⟨c0,e0⟩:=hf (n,.free) A0 rfl;have hce:cellOf env n=pure c0:=by unfold cellOf;rw[e0]
   have ha2:∀x c,((n,c0)::acc).lookup x=some c->env.cells.lookup x=some c:=fun x c h=>by
    rw[EV] at h;cases hx:x == n with
    | true=>
     rw[hx] at h;have e1:x=n:=by simpa using hx
     rw[e1,e0];exact h
    | false=>
     rw[hx] at h;exact ha x c h
   obtain⟨cl,e,h1,h2,h3⟩:=yU r ((n,c0)::acc) hf' ha2;refine⟨cl,?_,h1,fun y hy hz=>?_,fun x c h=>?_⟩
   ·rw[DV];simp only[beq_self_eq_true,if_true,hce];exact e
   ·rcases A5.mp hy with q|q
    ·subst q;exact h3 n c0 (by simp)
    exact h2 y q hz
   cases hx:x == n with
   | true=>exact h3 x c0 (by rw[EV,hx])
   | false=>exact h3 x c (by rw[EV,hx];exact h)
  have hb:(k == DF.free)=false:=by simpa using hk
  obtain⟨cl,e,h1,h2,h3⟩:=yU r acc hf' ha;refine⟨cl,?_,h1,fun y hy hz=>?_,h3⟩
  ·rw[DV];simp only[hb,FV,if_false];exact e
  rcases A5.mp hy with q|q
  ·subst q;exact absurd hz hk
  exact h2 y q hz
theorem Ea {env:Env}{scope:GG}(hf:∀y∈scope.names,y.2=.free->∃c,env.cells.lookup y.1=some c) :
  ∃cl,closureFor scope env=pure cl/\(∀x c,cl.lookup x=some c->env.cells.lookup x=some c)/\(∀y∈scope.names,y.2=.free->∃c,cl.lookup y.1=some c):=by
 obtain⟨cl,e,h1,h2,_⟩:=yU (env:=env) scope.names [] hf (fun x c h=>by simp at h);refine⟨cl,?_,h1,h2⟩;unfold closureFor;show(forIn scope.names [] _ >>= fun r=>pure r)=_;rw[show(forIn scope.names ([]:List (Str×Addr)) fun(y:Str×DF)(r:List (Str×Addr))=>(match y with
   | (name,kind)=>if (kind == .free)=true then (do let a <- cellOf env name;pure (DJ ((name,a)::r))) else pure (DJ r):Sem (ForInStep (List (Str×Addr)))))=pure cl from e]
 rfl
section
variable {prog:AR}{w:Bi}{A:Bz}{R:Result->AB->Prop}{s:AB}
theorem Bs {elt tg iter:Expr}{ifs:List Expr}{scope:GG}{pos:Pos}{it acc:Ap}{env:Env}(J:Nat->AB->Prop)
  (turn:∀n s,J n s->AG (AW prog w) A (EO it) (fun r s1=>match r with
   | none=>R (.ok .next) s1
   | some v=>AG (AW prog w) A (Ha tg it v) (fun _ s1'=>AG (AW prog w) A (FE tg env v) (fun _ s2=>
     AG (AW prog w) A (forIn ifs true fun c r=>if r=true then do let ok <- isTrue c env (eval c env);pure (DJ ok) else pure (DJ r)) (fun ok s3=>
      if ok=true then AG (AW prog w) A (eval elt env) (fun x s4=>
       AG (AW prog w) A (call (.builtin "list.append") [acc,x]) (fun _ s5=>∃m,m<n/\J m s5) (F8 (AW prog w) A env fun e z=>R (.error e) z) s4) (F8 (AW prog w) A env fun e z=>R (.error e) z) s3
      else ∃m,m<n/\J m s3) (F8 (AW prog w) A env fun e z=>R (.error e) z) s2) (F8 (AW prog w) A env fun e z=>R (.error e) z) s1') (F8 (AW prog w) A env fun e z=>R (.error e) z) s1) (F8 (AW prog w) A env fun e z=>R (.error e) z) s)
  (n:Nat) (h:J n s):Ff (AW prog w) A (.compLoop (.ListComp elt [⟨tg,iter,ifs,0⟩] scope pos) 0 it acc env) R s:=by
 refine codeAny_loop rfl J (fun n z hJ=>?_) n h;show AG _ A ((compTurn (.ListComp elt [⟨tg,iter,ifs,0⟩] scope pos) 0 it acc env).onRaise (fun y=>do noteFrame y env;theTreesLotGoes y)) _ _ z;refine wpAny_noted ?_;rw[compTurn_list];refine An (FB (An (CA (turn n z hJ) (fun r s1 h1=>?_) fun _ _ q=>q)));cases r with
 | none=>exact Au h1
 | some v=>
  refine An (CA h1 (fun _ s1' h1'=>?_) fun _ _ q=>q);refine An (CA h1' (fun _ s2 h2=>An (CA h2 (fun ok s3 h3=>?_) fun _ _ q=>q)) fun _ _ q=>q);cases ok with
  | false=>exact Au ⟨rfl,h3⟩
  | true=>
   exact An (An (CA h3 (fun x s4 h4=>An (CA h4 (fun _ s5 h5=>Au (Au ⟨rfl,h5⟩)) fun _ _ q=>q)) fun _ _ q=>q))
end
noncomputable def jU (mp:List (Option Nat))(σ:St):St:=mp.map fun o=>match o with
 | some j=>(σ[j]?).join
 | none=>none
noncomputable def bK (X:Cx)(N:List Str)(scope:GG)(cl:List (Str×Addr))(C:Addr)(s:AB)(H:Hp)(fp:List Addr):Cx:=
 { X with N:=N,s₀:=s,H₀:=H,env:=G0 scope cl C X.env,outer:=X.stack,stack:=X.stack,ex:=fp,fn:=fun _=>false,pn:=[],xe:=fun _ _=>False }
noncomputable def qN (NX:List Str)(names:List (Str×DF)):List Str->List (Option Nat)->Bool
 | [],[]=>true
 | x::r,o::q=>(match o with
   | none=>names.lookup x == some .local
   | some j=>NX[j]? == some x&&names.lookup x == some .free)&&qN NX names r q
 | _,_=>false
theorem Bh {NX:List Str}{names:List (Str×DF)}:∀{N:List Str}{mp:List (Option Nat)}{i j:Nat}{x:Str},qN NX names N mp=true->N[i]?=some x->mp[i]?=some (some j)->NX[j]?=some x/\names.lookup x=some .free
 | [],_,i,_,_,_,h,_=>by simp at h
 | _::_,[],_,_,_,h,_,_=>by simp [qN] at h
 | y::r,o::q,0,j,x,h,h1,h2=>by
  simp at h1 h2;subst h1 h2;unfold qN at h;simp only[C9,beq_iff_eq] at h;exact h.1
 | y::r,o::q,i+1,j,x,h,h1,h2=>by
  unfold qN at h;rw[C9] at h;exact Bh (i:=i) h.2 (by simpa using h1) (by simpa using h2)
theorem Bg {NX:List Str}{names:List (Str×DF)}:∀{N:List Str}{mp:List (Option Nat)},qN NX names N mp=true->mp.length=N.length
 | [],[],_=>rfl
 | [],_::_,h=>by simp [qN] at h
 | _::_,[],h=>by simp [qN] at h
 | _::r,_::q,h=>by
  unfold qN at h;rw[C9] at h;simp [Bg h.2]
structure vO (NX:List Str)(kX:List (Str×DF))(N:List Str)(mp:List (Option Nat))(scope:GG):Prop where
 kind:scope.kind=.function
 nocell:∀y∈scope.names,y.2≠.cell
 locs:∀y∈scope.names,y.2=.local->scope.names.lookup y.1=some .local
 fre:∀y∈scope.names,y.2=.free->kX.lookup y.1=some .cell\/kX.lookup y.1=some .free
 map:qN NX scope.names N mp=true
noncomputable def PTs (X:Cx)(cs:List Expr)(t:TT):Prop:=
 ∀(pins:List (Addr×Obj)) (s:AB) (σ:St) (H:Hp) (Q:Bool->Hp->Prop),Inv X pins σ H s->t σ H Q ->
  AG (AW X.prog X.w) X.A (forIn cs true fun c r=>if r=true then do let ok <- isTrue c X.env (eval c X.env);pure (DJ ok) else pure (DJ r)) (TP X pins σ Q) X.xe s
noncomputable def Zd:TT:=fun _ H Q=>Q true H
theorem Ws {X:Cx}:PTs X [] Zd:=fun _ _ _ H _ I h=>wpAny_tests_nil ⟨H,I,h⟩
theorem Wr {X:Cx}{c:Expr}{t:TT}(h:PT X c t):PTs X [c] t:=fun pins s σ H Q I q=>wpAny_tests_one (h pins s σ H Q I q)
noncomputable def Ah (mp:List (Option Nat))(wi:TI)(g:TG)(tc:TT)(te:TE):TE:=fun σ H Q=>wi σ H fun J H1=>
 ∃W:Nat->Nat->List V->St->Hp->Prop,(∃m,W 0 m [] (jU mp σ) H1)/\∀i m acc τ H2,W i m acc τ H2 ->
  (J.stop i H2/\∀d,H2 d=none->Q (.ref d) (upd H2 d (.lst acc))) \/
  (J.go i H2/\acc.length<AL/\∃N:List V->St->Hp->Prop,(∀acc' τ' H',N acc' τ' H'->∃m',m'<m/\W (i+1) m' acc' τ' H')/\∀x H3,J.yld i H2 x H3->g x τ H3 fun τ1 H4=>tc τ1 H4 fun b H5=>
   if b=true then te τ1 H5 fun v H6=>N (acc++[v]) τ1 H6 else N acc τ1 H5)
theorem iD {env:Env}:∀{names:List (Str×DF)}{x:Str}{k:DF},(names.map fun(n,k)=>if (k == DF.free&&env.scope.kind == .function&&env.kindOf n == some .cell) then (n,DF.cell) else (n,k)).lookup x=some k ->
  names.lookup x=some k\/(k=.cell/\names.lookup x=some .free)
 | [],_,_,h=>by simp at h
 | (n,k0)::r,x,k,h=>by
  have ih:=@iD env r x k;rw[CF] at h;by_cases hc:(k0 == DF.free&&env.scope.kind == .function&&env.kindOf n == some .cell)=true
  ·simp only[hc,if_true] at h;cases hx:x == n with
   | true=>
    rw[EV,hx] at h;have hk:k0=.free:=by
     rw[C9,C9] at hc;simpa using hc.1.1
    right;refine⟨(BN h).symm,?_⟩;rw[EV,hx,hk]
   | false=>
    rw[EV,hx] at h;rw[EV,hx];exact ih h
  simp only[hc,if_false] at h;cases hx:x == n with
  | true=>
   rw[if_neg (by simp),EV,hx] at h;rw[EV,hx];exact .inl h
  | false=>
   rw[if_neg (by simp),EV,hx] at h;rw[EV,hx];exact ih h
theorem na0 {b D E:Nat}(h:b<E)(hD:E=D):b≠D:=by omega
theorem na1 {b D E C:Nat}(h:b<E)(hD:E=D)(hC:C=D+1):b≠C:=by omega
theorem na2 {C D:Nat}(hC:C=D+1):D≠C:=by omega
theorem na3 {C D E:Nat}(hD:E=D)(hC:C=D+1):E<=C:=by omega
theorem na4 {D E:Nat}(hD:E=D):E<=D:=by omega
section
variable {X:Cx}{NX N:List Str}{kX:List (Str×DF)}{mp:List (Option Nat)}{scope:GG}{pins:List (Addr×Obj)}{σ:St}{s s':AB}{H:Hp}{fp:List Addr}{cl:List (Str×Addr)}{C:Addr}
theorem DX (hkX:X.env.scope.names=kX)(S:vO NX kX N mp scope)(I:Inv X pins σ H s)(hfp:∀b∈fp,ug X pins H b)(hold:∀b∈fp,b<s.heap.objs.size)(hC:s.heap.objs.size<=C)
  (hsub:∀x c,cl.lookup x=some c->X.env.cells.lookup x=some c) (hhas:∀y∈scope.names,y.2=.free->∃c,cl.lookup y.1=some c):(bK X N scope cl C s H fp).Ok where
 mod:=I.ok.mod
 kind:=S.kind
 glob:=I.ok.glob
 blt:=I.ok.blt
 above:=hC
 inj:=fun x y c h1 h2=>I.ok.inj x y c (hsub x c h1) (hsub y c h2)
 has:=fun x h=>by
  have key:scope.names.lookup x=some .free:=by
   rcases h with h|h
   ·rcases iD (env:=X.env) (names:=scope.names) h with q|⟨_,q⟩
    ·exact absurd rfl (S.nocell _ (C7 q))
    exact q
   rcases iD (env:=X.env) (names:=scope.names) h with q|⟨q,_⟩
   ·exact q
   cases q
  exact hhas _ (C7 key) rfl
 cab:=fun x c h=>by cases h
 hd:=I.ok.hd
 frames:=I.ok.frames
 stk:=.inl rfl
 exf:=fun b hb=>⟨B2 (Be (hold b hb) hC),fun x c e=>(hfp b hb).2.2.2.2.1 x c (hsub x c e)⟩
 bs:=I.bs
 bsz:=BG I.ok.bsz I.sz
 noex:=fun b o e hb=>by
  rcases(hfp b hb).2.2.2.1 with q|q
  ·exact I.ok.noex b o e q
  exact absurd (Be (Be (A4 e) I.ok.bsz) q) (DD _)
 exfs:=fun b hb hz=>by
  obtain⟨_,h1,h2,_⟩:=hfp b hb;rcases A5.mp (I.uq b hz) with q|q
  ·exact h1 q
  exact h2 q
 wk:=I.stack
 frf:=I.Kq
theorem DY (hNX:X.N=NX)(hkX:X.env.scope.names=kX)(S:vO NX kX N mp scope)(I:Inv X pins σ H s)(hfp:∀b∈fp,ug X pins H b)(hold:∀b∈fp,b<s.heap.objs.size)(hC:s.heap.objs.size<=C)
  (hsub:∀x c,cl.lookup x=some c->X.env.cells.lookup x=some c) (hhas:∀y∈scope.names,y.2=.free->∃c,cl.lookup y.1=some c)
  (ho:s'.os=s.os) (hg:s'.gens=s.gens) (hn:∃m,s'.heap.Ns C m) (hk:∀b o,s.heap.get? b=some o->s'.heap.get? b=some o) {pl:List (Addr×Obj)}
  (hp:∀p∈pl,s'.heap.get? p.1=some p.2/\H p.1=none/\p.1≠C/\p.1∉frs X.stack/\∀v,p.2.data≠.cell v) :
  Inv (bK X N scope cl C s H fp) pl (jU mp σ) H s' where
 ok:=DX hkX S I hfp hold hC hsub hhas
 os:=ho
 bare:=by rw[hg];exact I.bare
 base:=Un.kept hk
 loc:=by
  obtain⟨m,hm⟩:=hn;refine⟨m,hm,fun i x v h1 h2 h3=>?_⟩;have h2':(mp.map fun o=>match o with|some j=>(σ[j]?).join|none=>none)[i]?=some (some v):=h2
  rw[AU] at h2';cases e:mp[i]? with
  | none=>rw[e] at h2';cases h2'
  | some o=>
   rw[e] at h2';cases o with
   | none=>cases h2'
   | some j=>
    have h4:(σ[j]?).join=some v:=by simpa using h2'
    have h5:σ[j]?=some (some v):=by
     cases q:σ[j]? with
     | none=>rw[q] at h4;cases h4
     | some z=>rw[q] at h4;rw[show z=some v from h4]
    obtain⟨g1,g2⟩:=Bh S.map h1 e;have fk:=S.fre _ (C7 g2) rfl;obtain⟨m0,_,hl⟩:=I.loc;have vis:Vis X.env.scope x:=by
     rcases fk with q|q
     ·exact .inr (.inl (by rw[hkX];exact q))
     exact .inr (.inr (by rw[hkX];exact q))
    obtain⟨u,r,l⟩:=hl j x v (by rw[hNX];exact g1) h5 vis;refine⟨u,r,.inr ?_⟩;have l':∃c,X.env.cells.lookup x=some c/\s.heap.IsCell c (some u):=by
     rcases l with⟨q,_⟩|⟨_,q⟩
     ·have q':X.env.scope.names.lookup x=some .local:=q;rw[hkX] at q';rcases fk with z|z
      ·rw[q'] at z;cases z
      rw[q'] at z;cases z
     exact q
    obtain⟨c,hc,oc,hoc,hd⟩:=l';obtain⟨c',hc'⟩:=hhas _ (C7 g2) rfl;have ec:c'=c:=by
     have:=hsub x c' hc';rw[hc] at this;exact(BN this).symm
    subst ec;refine⟨?_,c',hc',oc,hk _ _ hoc,hd⟩;rcases h3 with q|q|q
    ·rcases iD (env:=X.env) (names:=scope.names) q with z|⟨z,_⟩
     ·rw[g2] at z;cases z
     cases z
    ·exact .inl q
    exact .inr q
 cell:=fun x c e=>by
  obtain⟨v,o,h1,h2⟩:=I.cell x c (hsub x c e);exact⟨v,o,hk _ _ h1,h2⟩
 free:=I.hok.fresh hC
 freeC:=fun x c e=>I.freeC x c (hsub x c e)
 pin:=fun p hpp=>hp p (by simpa [bK] using hpp)
 hok:=I.hok.kept hk
 len:=by
  show(mp.map _).length=N.length;rw[AE];exact Bg S.map
set_option maxHeartbeats 8000000 in
theorem Xg {tg iter elt:Expr}{ifs:List Expr}{pos:Pos}{wi:TI}{g:TG}{tc:TT}{te:TE}(N:List Str)(mp:List (Option Nat))(hNX:X.N=NX)(hkX:X.env.scope.names=kX)(S:vO NX kX N mp scope)(hc:X.calm=true)
  (hi:PI X tg iter wi) (hg:∀cl C s H fp,PG (bK X N scope cl C s H fp) tg g) (ht:∀cl C s H fp,PTs (bK X N scope cl C s H fp) ifs tc) (he:∀cl C s H fp,PE (bK X N scope cl C s H fp) elt te)
  (hs:∀x,D5 iter X.env x=pure x:=by intro _;rfl):PE X (.ListComp elt [⟨tg,iter,ifs,0⟩] scope pos) (Ah mp wi g tc te):=by
 intro pins s σ H Q I h;obtain⟨cl,hcl,hsub,hhas⟩:=Ea (env:=X.env) (scope:=scope) fun y hy hf=>I.ok.has y.1 (by
  rcases S.fre y hy hf with q|q
  ·exact .inl (show X.env.scope.names.lookup y.1=_ by rw[hkX];exact q)
  exact .inr (show X.env.scope.names.lookup y.1=_ by rw[hkX];exact q))
 rw[eval_ListComp];refine IG (use:=none) rfl hs hcl S.kind S.locs ?_;refine thn (hi pins s σ H _ I h) fun v s1 h1=>thn h1 fun itv s2 h2=>?_;obtain⟨it,fp,tn,J,H2,e,I2,T,st2,f2,W,⟨m0,w0⟩,turn⟩:=h2;subst e;refine BF (Kk S.nocell (by intro y hy;simp at hy) (fun h3 hns hsb=>?_) S.kind);dsimp only at hns hsb |-;have hold:∀b∈fp,b<s2.heap.objs.size:=fun b hb=>by
  obtain⟨o,q,_⟩:=T.obj _ _ st2 b hb;exact A4 q
 generalize hD:s2.heap.objs.size=D at hns hsb;generalize hH2:s2.heap.push { cls:=.type "list",dict:=none,data:=.seq ([]:List Ap).toArray }=P2 at hns hsb |-;have hC:P2.objs.size=D+1:=by rw[<- hH2,B9,hD]
 generalize hC':P2.objs.size=C at hns hsb |-;rw[hC'] at hC;have old:∀b o,s2.heap.get? b=some o->h3.get? b=some o:=fun b o q=>by
  have hb:=A4 q;exact hsb.extBut b o (na1 hb hD hC) (AA _ (hH2 ▸ AA _ q))
 have accD:h3.get? D=some { cls:=.type "list",data:=.seq ([]:List Ap).toArray }:=
  hsb.extBut _ _ (na2 hC) (AA _ (by rw[<- hH2,<- hD];exact AQ _ rfl))
 have hfr:D∉frs X.stack:=fun z=>by
  rcases A5.mp (I2.uq D z) with q|q
  ·exact na0 I2.lt hD q.symm
  exact I2.XF (na4 hD) q
 have I0:Inv (bK X N scope cl C s2 H2 fp) [(D,{ cls:=.type "list",data:=.seq ([]:List Ap).toArray })] (jU mp σ) H2 { s2 with heap:=h3,toks:=s2.toks+([]:List (Str×Ap)).length }:=
  DY (s':={ s2 with heap:=h3,toks:=s2.toks+([]:List (Str×Ap)).length }) hNX hkX S I2 f2 hold (na3 hD hC) hsub hhas rfl rfl ⟨_,hns⟩ old fun p hp=>by
   have ep:=AK.mp hp;subst ep;exact⟨accD,I2.hok.fresh (na4 hD),na2 hC,hfr,fun v z=>by cases z⟩
 have T0:tn 0 h3:=T.keep _ _ _ st2 fun b _ o q=>old b o q;have loop:∀z:AB,z={ s2 with heap:=h3,toks:=s2.toks+([]:List (Str×Ap)).length } ->
   Ff (AW X.prog X.w) X.A (.compLoop (.ListComp elt [⟨tg,iter,ifs,0⟩] scope pos) 0 (.ref it) (.ref D) (G0 scope cl C X.env))
    (compPost (AW X.prog X.w) X.A X.xe none (EP X pins σ Q) (.ref D) C) z:=by
  rintro z rfl;have stat:∀{H':Hp}{pl:List (Addr×Obj)},(∀b∈fp,H' b=none)->(∀p∈pl,p.1=D)->∀b∈fp,ug (bK X N scope cl C s2 H2 fp) pl H' b:=fun hn hp b hb=>by
   have hb2:=hold b hb;refine⟨hn b hb,na1 hb2 hD hC,(DX hkX S I2 f2 hold (na3 hD hC) hsub hhas).exfs b hb,.inl hb,fun x c q=>(f2 b hb).2.2.2.2.1 x c (hsub x c q),fun p hpp=>?_⟩;have hpD:=hp p (by simpa [bK] using hpp);rw[hpD];exact(na0 hb2 hD).symm
  refine Bs (env:=G0 scope cl C X.env) (fun n z=>∃i acc τ H' its k,Inv (bK X N scope cl C s2 H2 fp) [(D,{ cls:=.type "list",data:=.seq (Hm its) k })] τ H' z/\tn i z.heap/\(∀b∈fp,H' b=none)/\Vals acc its/\acc.length<=AL/\W i n acc τ H')
   ?_ m0 ⟨0,[],_,H2,[],0,I0,T0,fun b hb=>(f2 b hb).1,.nil,EN _,w0⟩
  rintro n s5 ⟨i,acc,τ,H5,its,k,I5,st5,fr5,va,hz,w5⟩;rcases turn i n acc τ H5 w5 with⟨stop,qn⟩|⟨go,hz2,N9,hN9,step⟩
  ·refine thn (T.done (bK X N scope cl C s2 H2 fp) rfl rfl rfl hc i _ s5 τ H5 _ I5 (stat fr5 (by simp)) st5 stop) fun r s6 ⟨hr,I6⟩=>?_;subst hr;obtain⟨m6,hn6,_⟩:=I6.loc;refine⟨m6,hn6,fun h' sb=>?_⟩;obtain⟨dD,nD,_,_,_⟩:=I6.pin (D,_) (BB _ (AK.mpr rfl));have U:=I6.base;have nC:H5 C=none:=I6.free;have ne:∀b o,s2.heap.get? b=some o->b≠C/\b≠D:=fun b o q=>by
    exact⟨na1 (A4 q) hD hC,na0 (A4 q) hD⟩
   have keepC:∀b o,b≠C->s6.heap.get? b=some o->h'.get? b=some o:=fun b o hb q=>(sb.2 b hb).trans q;have U':Un (frs X.stack) fp H2 (upd H5 D (.lst acc)) s2.heap h':=by
    refine⟨fun b o q n1 hb hx=>keepC b o (ne b o q).1 (U.keep b o q n1 hb hx),fun b o q n1 hb hx=>?_,fun b o q n1 hx=>?_,fun b o q hx=>?_,fun b xs q=>?_,fun b o xs q=>?_,fun b ps q=>?_⟩
    ·obtain⟨sl,z⟩:=U.slot b o q n1 hb hx;exact⟨sl,keepC b _ (ne b o q).1 z⟩
    ·rw[aJ (ne b o q).2];exact U.free b o q n1 hx
    ·obtain⟨o',z⟩:=U.there b o q hx;exact⟨o',keepC b _ (ne b o q).1 z⟩
    ·have z:=U.tups b xs q;rw[aJ (aD z nD)];exact z
    ·have z:=U.frzs b o xs q;rw[aJ (aD z nD)];exact z
    obtain⟨more,z⟩:=U.tbls b ps q;exact⟨more,by rw[aJ (aD z nD)];exact z⟩
   have hok:HOk X.prog X.w (upd H5 D (.lst acc)) h':=fun b u q=>by
    by_cases hb:b=D
    ·subst hb;rw[aq] at q;cases q;exact⟨hz,its,k,va,keepC _ _ (na2 hC) dD⟩
    rw[aJ hb] at q;refine(I6.hok b u q).stay (fun c v hcc z=>keepC c v ?_ z) (fun c z=>by rw[aJ (aD z nD)];exact z) fun c xs z=>by rw[aJ (aD z nD)];exact z
    rcases hcc with z1|z1
    ·subst z1;exact aD q nC
    exact aD z1 nC
   have I7:Inv X pins σ (upd H5 D (.lst acc)) { s6 with heap:=h' }:=I2.call' (s':={ s6 with heap:=h' }) (ch:=fp) I6.os U' hok I6.bare fun b hb=>by
    obtain⟨_,a2,_,a4,a5,a6⟩:=f2 b hb;exact⟨a4,a2,a5,a6⟩
   exact⟨.ref D,_,I7,rfl,qn D nD⟩
  refine thn (T.item (bK X N scope cl C s2 H2 fp) rfl rfl rfl hc i _ s5 τ H5 _ I5 (stat fr5 (by simp)) st5 go) fun r s6 ⟨u,hr,h6⟩=>?_;subst hr;refine thn h6 fun _ s7 ⟨x,H7,I7,r7,y7,st7,fr7⟩=>?_;have I7':=I7.pinned (stat fr7 (by simp)) (T.obj _ _ st7);have no:∀{α:Type}{t:Sem α}{Q1 Q2:α->AB->Prop}{E:Ap->AB->Prop}{z:AB},AG (AW X.prog X.w) X.A t Q1 (fun _ _=>False) z->(∀a z,Q1 a z->Q2 a z)->AG (AW X.prog X.w) X.A t Q2 E z:=
   fun q f=>CA q f fun _ _ z=>z.elim
  refine no (hg cl C s2 H2 fp _ s7 τ H7 x u _ I7' r7 (step x H7 y7)) fun _ s8 ⟨τ1,H8,I8,q8⟩=>?_;refine no (ht cl C s2 H2 fp _ s8 τ1 H8 _ I8 q8) fun ok s9 ⟨H9,I9,q9⟩=>?_;have JJ:∀{H':Hp}{z:AB}{its':List Ap}{k':Nat},Inv (bK X N scope cl C s2 H2 fp) ([(D,{ cls:=.type "list",data:=.seq (Hm its') k' })]++iV fp s7.heap) τ1 H' z ->
    tn (i+1) z.heap/\(∀b∈fp,H' b=none)/\Inv (bK X N scope cl C s2 H2 fp) [(D,{ cls:=.type "list",data:=.seq (Hm its') k' })] τ1 H' z:=fun {H' z its' k'} Iz=>by
   have get:∀b∈fp,∀o,s7.heap.get? b=some o->z.heap.get? b=some o/\H' b=none:=fun b hb o q=>by
    obtain⟨a1,a2,_⟩:=Iz.pin (b,o) (BB _ (BB _ (kj hb q)));exact⟨a1,a2⟩
   refine⟨T.keep _ _ _ st7 fun b hb o q=>(get b hb o q).1,fun b hb=>?_,Iz.lV⟩;obtain⟨o,q,_⟩:=T.obj _ _ st7 b hb;exact(get b hb o q).2
  cases ok with
  | false=>
   rw[if_neg A3] at q9 |-;obtain⟨m',hm,w9⟩:=hN9 _ _ _ q9;obtain⟨a1,a2,a3⟩:=JJ I9;exact⟨m',hm,i+1,acc,τ1,H9,its,k,a3,a1,a2,va,hz,w9⟩
  | true=>
   rw[if_pos rfl] at q9 |-;refine no (he cl C s2 H2 fp _ s9 τ1 H9 _ I9 q9) fun y s10 ⟨v,H10,I10,rv,q10⟩=>?_;obtain⟨m',hm,w10⟩:=hN9 _ _ _ q10;obtain⟨a1,a2,a3⟩:=JJ I10;obtain⟨dD,nD,_,_,_⟩:=a3.pin (D,_) (BB _ (AK.mpr rfl));have hlen:=va.length;refine Ee F.slot_list_append ⟨_,dD,rfl⟩ KU (Kj _ _) (PySem.list_append D its.toArray k y (by rw[AX];omega)) ⟨dD,?_⟩;obtain⟨k',q⟩:∃k',(s10.heap.update D (DU fun a=>a.push y)).get? D=some { cls:=.type "list",data:=.seq (its++[y]).toArray k' }:=by
    have q:=PySem.IsL.update dD (fun a=>a.push y);rw[show its.toArray.push y=(its++[y]).toArray by simp] at q;exact⟨_,q⟩
   have a4:Inv (bK X N scope cl C s2 H2 fp) (iV fp s7.heap) τ1 H10 s10:=I10.lE fun p hp=>I10.pin p (BB _ (BB _ hp));have a5:Inv (bK X N scope cl C s2 H2 fp) (iV fp s7.heap) τ1 H10 { s10 with heap:=s10.heap.update D (DU fun a=>a.push y),toks:=s10.toks }:=
    a4.turned (it:=D) (fun b o hb z=>(DH _ _ (BA hb)).trans z) nD (na2 hC) (.inr (na4 hD))
     (fun x c z=>by
      obtain⟨_,o,h1,_⟩:=I2.cell x c (hsub x c z);exact na0 (A4 h1) hD) fun p hp=>by
      have hb:=(qe (by simpa [bK] using hp)).1;exact na0 (hold _ hb) hD
   obtain⟨b1,b2,b3⟩:=(show tn (i+1) (s10.heap.update D (DU fun a=>a.push y))/\(∀b∈fp,H10 b=none)/\True from
    ⟨T.keep _ _ _ a1 fun b hb o z=>(DH _ _ (na0 (hold b hb) hD).symm).trans z,a2,trivial⟩)
   refine⟨m',hm,i+1,acc++[v],τ1,H10,its++[y],k',a5.lE fun p hp=>?_,b1,b2,va.append (.cons rv .nil),by rw[AH,A8];omega,w10⟩;have ep:=AK.mp hp;subst ep;exact⟨q,nD,na2 hC,hfr,fun v z=>by cases z⟩
 have e1:{ newEnv scope C X.env.globals cl X.env.qual none .none (some X.env) X.env.builtins with scope:=relabel scope X.env }=G0 scope cl C X.env:=rfl;exact codeAny_compStart_list (loop _ rfl) (T.self _ 0 _ _ _ T0 (loop _ rfl))
end
section
variable {X:Cx}{pins:List (Addr×Obj)}{σ:St}{H:Hp}{s:AB}
theorem Inv.Qj {ch:List Addr}{h':Heap}{t':Nat}(I:Inv X pins σ H s)(hf:∀b∈ch,ug X pins H b)(k:∀b o,b∉ch->s.heap.get? b=some o->h'.get? b=some o):Inv X pins σ H { s with heap:=h',toks:=t' }:=by
 have nit:∀b u,H b=some u->b∉ch:=fun b u e z=>by rw[(hf b z).1] at e;cases e
 refine I.step (g':=s.gens) (d':=s.drawn) (ch:=ch) (fun b hb=>?_) (fun b o _ _ hc e _=>k b o hc e) (fun b o _ _ hc e _=>⟨o.slots,k b o hc e⟩) (fun _ _ _ _ n=>n)
  (fun b o hc e=>⟨o,k b o hc e⟩) (fun _ _ e=>e) (fun _ _ _ e=>e) (fun b ps e=>⟨#[],by rw[e];simp⟩) (fun m hm=>?_) (fun b u e=>?_) I.bare
 ·obtain⟨_,a2,_,a4,a5,a6⟩:=hf b hb;exact⟨a4,a2,a5,a6⟩
 ·obtain⟨o,es,ep,ho,r⟩:=hm;exact⟨o,es,ep,k _ o (fun z=>(hf _ z).2.1 rfl) ho,r⟩
 refine(I.hok b u e).stay (fun c v hc q=>k c v ?_ q) (fun _ q=>q) fun _ _ q=>q;rcases hc with z|z
 ·rw[z];exact nit b u e
 exact nit c _ z
theorem Inv.Qi {ch:List Addr}{h':Heap}{t':Nat}{p:Addr}{o:HO}(I:Inv X pins σ H s)(hf:∀b∈ch,ug X pins H b)(k:∀b o,b∉ch->s.heap.get? b=some o->h'.get? b=some o)(hp:s.heap.objs.size<=p)
  (new:cZ X.prog X.w (upd H p o) h' p o):Inv X pins σ (upd H p o) { s with heap:=h',toks:=t' }:=by
 have hn:H p=none:=I.hok.fresh hp;have nit:∀b u,H b=some u->b∉ch:=fun b u e z=>by rw[(hf b z).1] at e;cases e
 have lt:∀b u,s.heap.get? b=some u->b≠p:=fun b u e=>B2 (Be (A4 e) hp);refine I.step (g':=s.gens) (d':=s.drawn) (ch:=ch) (fun b hb=>?_) (fun b o _ _ hc e _=>k b o hc e) (fun b o _ _ hc e _=>⟨o.slots,k b o hc e⟩) (fun b o _ e n=>by rw[aJ (lt b o e)];exact n)
  (fun b o hc e=>⟨o,k b o hc e⟩) (fun b xs e=>by rw[aJ (aD e hn)];exact e) (fun b u xs e=>by rw[aJ (aD e hn)];exact e) (fun b ps e=>⟨#[],by rw[aJ (aD e hn),e];simp⟩) (fun m hm=>?_) (fun b u e=>?_) I.bare
 ·obtain⟨_,a2,_,a4,a5,a6⟩:=hf b hb;exact⟨a4,a2,a5,a6⟩
 ·obtain⟨o,es,ep,ho,r⟩:=hm;exact⟨o,es,ep,k _ o (fun z=>(hf _ z).2.1 rfl) ho,r⟩
 by_cases hb:b=p
 ·subst hb;rw[aq] at e;cases e;exact new
 rw[aJ hb] at e;refine(I.hok b u e).stay (fun c v hc q=>k c v ?_ q) (fun c q=>by rw[aJ (aD q hn)];exact q) fun c xs q=>by rw[aJ (aD q hn)];exact q
 rcases hc with z|z
 ·rw[z];exact nit b u e
 exact nit c _ z
end
noncomputable def Ite (K:AD)(a:Addr):It:=
 ⟨fun i H=>∃xs x,SqL K H a xs/\xs[i]?=some x,
  fun i H v H'=>∃p x,v=.ref p/\H p=none/\H'=upd H p (.tup [.int (i:Nat),x])/\∀xs,SqL K H a xs->xs[i]?=some x,
  fun i H=>∃xs,SqL K H a xs/\xs[i]?=none⟩
theorem M5 {P:AR}{w:Bi}{K:AD}{es:List Expr}{kk:Nat}{tpos:Pos}{e it l:Addr}(hne:e≠it) :
  Turn P w K (.Tuple es kk tpos) (Ite K l) [e,it] e (fun i h=>(∃old,IsEnum h e it ((i:Nat):Int) old)/\h.IsListIter it l i) where
 mem:=by simp
 obj:=fun i h st b hb=>by
  obtain⟨⟨old,he⟩,⟨o1,e1,c1,d1⟩⟩:=st;simp only[A5,A9,or_false] at hb;rcases hb with rfl|rfl
  ·exact⟨_,he,fun v q=>by cases q⟩
  exact⟨o1,e1,fun v q=>by rw[d1] at q;cases q⟩
 keep:=fun i h h' st k=>by
  obtain⟨⟨old,he⟩,h1⟩:=st;exact⟨⟨old,k e (by simp) _ he⟩,h1.at fun o q=>k it (by simp) o q⟩
 item:=by
  intro X hP hw hK hc i pins s σ H E I hf st hg;subst hP hw hK;obtain⟨xs,x,q1,hx⟩:=hg;obtain⟨its1,rv1,p1,hz1⟩:=I.list q1;obtain⟨u1,hu1,ru1⟩:=rv1.get hx;obtain⟨⟨old,he⟩,h1⟩:=st;refine wpAny_pyNext_enum_item he h1 p1.isList (x:=u1) (by simpa using hu1) hne fun h' a1 a2 a3 a4 hk=>?_;have new:cZ X.prog X.w (upd H s.heap.objs.size (.tup [.int (i:Nat),x])) h' s.heap.objs.size (.tup [.int (i:Nat),x]):=⟨by show 2<=AL;decide,[.int (i:Nat) s.toks,u1],.cons ⟨_,rfl⟩ (.cons ru1 .nil),_,a3,rfl,_,rfl⟩;have I1:Inv X pins σ (upd H s.heap.objs.size (.tup [.int (i:Nat),x])) { s with heap:=h',toks:=s.toks+1 }:=I.Qi (ch:=[e,it]) hf
   (fun b o hb q=>hk b o (fun z=>hb (by simp [z])) (fun z=>hb (by simp [z])) q) (AZ _) new
  have hsz:∀b,b∈[e,it]->b≠s.heap.objs.size:=fun b hb=>by
   have lt:∃o,s.heap.get? b=some o:=by
    simp only[A5,A9,or_false] at hb;rcases hb with rfl|rfl
    ·exact⟨_,he⟩
    obtain⟨o,q,_⟩:=h1;exact⟨o,q⟩
   obtain⟨o,q⟩:=lt;exact B2 (A4 q)
  refine⟨_,rfl,wpAny_letOwnedTupleGo_enum (s:={ s with heap:=h',toks:=s.toks+1 }) a1 fun h'' z2 sb=>?_⟩;have fz:=hf e (by simp);have I2:Inv X pins σ (upd H s.heap.objs.size (.tup [.int (i:Nat),x])) { s with heap:=h'',toks:=s.toks+1 }:=Inv.turned (s:={ s with heap:=h',toks:=s.toks+1 }) (it:=e) I1 (fun b o hb q=>(sb.2 b hb).trans q) (by rw[aJ (hsz e (by simp))];exact fz.1) fz.2.1 fz.2.2.2.1 fz.2.2.2.2.1 fz.2.2.2.2.2;refine⟨.ref s.heap.objs.size,_,I2,rfl,⟨_,x,rfl,I.fresh,rfl,fun xs' q=>by rw[I.Gq q q1];exact hx⟩,
   ⟨⟨_,by simpa using z2⟩,a2.extBut sb.extBut hne.symm⟩,fun b hb=>by rw[aJ (hsz b hb)];exact(hf b hb).1⟩
 done:=by
  intro X hP hw hK hc i pins s σ H E I hf st hg;subst hP hw hK;obtain⟨xs,q1,hx⟩:=hg;obtain⟨its1,rv1,p1,hz1⟩:=I.list q1;obtain⟨⟨old,he⟩,h1⟩:=st;refine wpAny_pyNext_enum_end (I.ok.hd hc) he h1 p1.isList (by simpa using rv1.none_of hx) fun h' hk=>⟨rfl,?_⟩;exact I.Qj (t':=s.toks) (ch:=[e,it]) hf (fun b o hb q=>hk b o (fun z=>hb (by simp [z])) q)
 self:=fun _ _ _ _ _ st h=>by
  obtain⟨⟨old,he⟩,_⟩:=st;exact Ix he h
section
variable {X:Cx}
noncomputable def abW (K:AD):List V->Hp->VK->Prop:=fun xs H Q=>∃x T t b,xs=[x,.ty T]/\uf K H x t/\kitOne K t (.type T)=some b/\Q (.bl b) H
theorem Vb:fL X (.builtin "isinstance") (abW X.K):=by
 intro pins s σ H xs us Q I r h;obtain⟨x,T,t,b,rfl,ty,e,q⟩:=h;cases r with
 | cons r rr=>
  cases rr with
  | cons r' rr=>
   cases rr;cases (show _=Ap.type T from r');exact Om I r ty e fun tk=>⟨.bl b,H,I.tok tk,rfl,q⟩
end
inductive Tn (H:Hp):V->String->Prop where
 | non:Tn H .non "NoneType"
 | bl (b:Bool):Tn H (.bl b) "bool"
 | int (i:Int):Tn H (.int i) "int"
 | str (x:Str):Tn H (.str x) "str"
 | lst {a:Addr} {xs:List V} (e:H a=some (.lst xs)):Tn H (.ref a) "list"
 | tup {a:Addr} {xs:List V} (e:H a=some (.tup xs)):Tn H (.ref a) "tuple"
theorem Tn.ty {K:AD}{H:Hp}{x:V}{t:String}(h:Tn H x t):uf K H x (.type t):=by
 cases h with
 | non=>exact .non
 | bl b=>exact .bl b
 | int i=>exact .int i
 | str x=>exact .str x
 | lst e=>exact .lst e
 | tup e=>exact .tup e
noncomputable def lA (t T:String):Bool:=t == T||(t == "bool" && T == "int")
noncomputable def lK:List String:=["NoneType","bool","int","str","list","tuple"]
theorem X6 (K:AD):∀t∈lK,∀T∈lK,kitOne K (.type t) (.type T)=some (lA t T):=by
 intro t ht T hT;simp only[lK,A5,A9,or_false] at ht hT;rcases ht with rfl|rfl|rfl|rfl|rfl|rfl <;> rcases hT with rfl|rfl|rfl|rfl|rfl|rfl <;> first|rfl|kernel_rfl
theorem Tn.known {H:Hp}{x:V}{t:String}(h:Tn H x t):t∈lK:=by cases h <;> decide
section
variable {X:Cx}
theorem Px:fL X (.builtin "isinstance") (fun xs H Q=>∃x T t,xs=[x,.ty T]/\Tn H x t/\T∈lK/\Q (.bl (lA t T)) H):=by
 intro pins s σ H xs us Q I r h;obtain⟨x,T,t,rfl,ty,hT,q⟩:=h;exact Vb pins s σ H _ us Q I r ⟨x,T,_,_,rfl,ty.ty,X6 X.K t ty.known T hT,q⟩
noncomputable def Y7 (i j:Int):Prop:=0<j/\j<2^70
theorem xQ:OpR X (Ev .FloorDiv) (rI Y7 fun i j=>.int (i/j)):=opI fun i j _ _ _ _ _ hc q=>by
 have h1:(0:Int)<j:=hc.1;have h2:j<2^70:=hc.2;refine floordiv_int ω (by rw[Int.fdiv_eq_ediv_of_nonneg i ω];exact q) (.inl (PyProof.noPylong_of_log2 ?_));have h3:j.natAbs≠0:=ω;have h4:j.natAbs.log2<70:=(Nat.log2_lt h3).mpr ω;omega
end
noncomputable def cB (p:Addr)(H H':Hp):Prop:=∀b o,b≠p->H b=some o->H' b=some o
theorem cB.refl (p:Addr)(H:Hp):cB p H H:=fun _ _ _ h=>h
theorem cB.trans {p:Addr}{H H1 H2:Hp}(a:cB p H H1)(b:cB p H1 H2):cB p H H2:=fun c o n h=>b c o n (a c o n h)
theorem cB.upd {p:Addr}{H:Hp}{o:HO}:cB p H (upd H p o):=fun b u n h=>by rw[aJ n];exact h
theorem Same.x {p:Addr}{H H':Hp}(h:Same H H'):cB p H H':=fun b o _ q=>h b o q
theorem aB {H:Hp}{p:Addr}{o:HO}(h:H p=none):Same H (upd H p o):=fun b u q=>by rw[aJ (aD q h)];exact q
structure Cal (P:AR)(w:Bi)(K:AD)(mg:Str->Option Ap)(base:Heap)(x:Str)(k:Nat)(ps:List Str)(sp:Sp):Prop where
 ex:∃(f:Addr)(fd:CY),dF P w K mg base CX0 k f fd ps sp/\Binds K fd ps []/\CD K (.ref f)=true/\mg x=some (.ref f)
section
variable {X:Cx}{k:Nat}{ps:List Str}{sp:Sp}{x:Str}{p pos:Pos}{e:Expr}{es:List Expr}{t:TA}
theorem Z9 (C:Cal X.prog X.w X.K X.mg X.base x k ps sp) (hr:jg k X.A) (hg:Gl X x) (ha:PA X (e::es) t) (hdb:(x == ("__debug__" : Str))=false:=by decide)
  (he:AJ (e::es) X.env=(false,eval e X.env)::AJ es X.env:=by rfl) (hpl:(CU pos (AJ es X.env)).any (·.1)=false:=by rfl):PE X (.Call (.Name x p) (e::es) [] pos) (wU sp [] E0 t):=by
 obtain⟨f,fd,F,b,kp,hm⟩:=C.ex;exact Xj F hr hg hm kp b .nil abu ha hdb he hpl
end
structure aaZ (K:AD)(mg:Str->Option Ap)(x:Str)(st:Stmt)(ps:List Str)(f:Addr)(fd:CY):Prop where
 fn:Fun K x x st f fd
 bd:Binds K fd ps []
 nm:mg x=some (.ref f)
theorem aaZ.cal {P:AR}{w:Bi}{K:AD}{mg:Str->Option Ap}{base:Heap}{x:Str}{st:Stmt}{ps:List Str}{f:Addr}{fd:CY}{k:Nat}{sp:Sp}(D:aaZ K mg x st ps f fd)(F:dF P w K mg base CX0 k f fd ps sp):Cal P w K mg base x k ps sp:=
 ⟨f,fd,F,D.bd,D.fn.kp,D.nm⟩
theorem Rk (i j:Int):VR (.int i) (.int j)=true:=rfl
theorem Rj (i j:Str):VR (.str i) (.str j)=true:=rfl
theorem abP {α:Type}(a:α)(r:List α):atI (a::r) 0=some a:=dI (j:=0) rfl
theorem Vj {α:Type}(a b:α)(r:List α):atI (a::b::r) 1=some b:=dI (j:=1) rfl
theorem abO {α:Type}(a b c:α)(r:List α):atI (a::b::c::r) 2=some c:=dI (j:=2) rfl
theorem Uk:ixN 3 0=some 0/\ixN 3 1=some 1/\ixN 3 2=some 2:=⟨δ,δ,δ⟩
theorem aN {n:Nat}(h:n<=1000000):n<=AL:=BG h δ
noncomputable def ixq (o:Option HO)(i:Int)(H:Hp)(Q:VK):Prop:=match o with
 | some (.lst xs)=>∃v,atI xs i=some v/\Q v H
 | some (.tup xs)=>∃v,atI xs i=some v/\Q v H
 | _=>False
noncomputable def stq (o:Option HO)(p:Addr)(k:Int)(v:V)(H:Hp)(Q:Hp->Prop):Prop:=match o with
 | some (.lst xs)=>∃j,ixN xs.length k=some j/\Q (upd H p (.lst (xs.set j v)))
 | _=>False
noncomputable def lnq (o:Option HO)(H:Hp)(Q:VK):Prop:=match o with
 | some (.lst ys)=>Q (.int ys.length) H
 | some (.tup ys)=>Q (.int ys.length) H
 | _=>False
noncomputable def Rw:R2:=fun x y H Q=>match x,y with
 | .ref p,.int i=>ixq (H p) i H Q
 | _,_=>False
noncomputable def Rp:V->V->V->Hp->(Hp->Prop)->Prop:=fun o i v H Q=>match o,i with
 | .ref p,.int k=>stq (H p) p k v H Q
 | _,_=>False
noncomputable def Rv:List V->Hp->VK->Prop:=fun xs H Q=>match xs with
 | [.ref p]=>lnq (H p) H Q
 | _=>False
theorem Fq (p:Addr)(i:Int)(H:Hp)(Q:VK):Rw (.ref p) (.int i) H Q=ixq (H p) i H Q:=rfl
theorem Nq (p:Addr)(k:Int)(v:V)(H:Hp)(Q:Hp->Prop):Rp (.ref p) (.int k) v H Q=stq (H p) p k v H Q:=rfl
theorem Nr (p:Addr)(H:Hp)(Q:VK):Rv [.ref p] H Q=lnq (H p) H Q:=rfl
theorem X7 (xs:List V)(i:Int)(H:Hp)(Q:VK):ixq (some (.lst xs)) i H Q=∃v,atI xs i=some v/\Q v H:=rfl
theorem VF (xs:List V)(p:Addr)(k:Int)(v:V)(H:Hp)(Q:Hp->Prop):stq (some (.lst xs)) p k v H Q=∃j,ixN xs.length k=some j/\Q (upd H p (.lst (xs.set j v))):=rfl
theorem X4 (xs:List V)(H:Hp)(Q:VK):lnq (some (.lst xs)) H Q=Q (.int xs.length) H:=rfl
theorem X3 (xs:List V)(H:Hp)(Q:VK):lnq (some (.tup xs)) H Q=Q (.int xs.length) H:=rfl
section
variable {X:Cx}
theorem aW:IxR X Rw:=by
 intro value slice pins s σ H x y v u Q I rx ry h hs;unfold Rw at h;split at h
 ·rename_i p i;unfold ixq at h;split at h
  ·rename_i xs e;obtain⟨z,hz,q⟩:=h;exact Lz value slice pins s σ H _ _ v u Q I rx ry ⟨p,xs,i,z,rfl,rfl,SqL.of e,hz,q⟩ hs
  ·rename_i xs e;obtain⟨z,hz,q⟩:=h;exact aaG value slice pins s σ H _ _ v u Q I rx ry ⟨p,xs,i,z,rfl,rfl,SqT.of e,hz,q⟩ hs
  exact h.elim
 exact h.elim
theorem Rh:YH X Rp:=by
 intro pins s σ H o i v ov iv u Q I ro ri rv h;unfold Rp at h;split at h
 ·rename_i p k;unfold stq at h;split at h
  ·rename_i xs e;obtain⟨j,hj,q⟩:=h;exact set_list pins s σ H _ _ v ov iv u Q I ro ri rv ⟨p,xs,k,j,rfl,rfl,e,hj,q⟩
  exact h.elim
 exact h.elim
theorem bM:fL X (.builtin "len") Rv:=by
 intro pins s σ H xs us Q I r h;unfold Rv at h;split at h
 ·rename_i p;unfold lnq at h;split at h
  ·rename_i ys e;exact jH pins s σ H _ us Q I r ⟨p,ys,rfl,.inl (SqL.of e),h⟩
  ·rename_i ys e;exact jH pins s σ H _ us Q I r ⟨p,ys,rfl,.inr (SqT.of e),h⟩
  exact h.elim
 exact h.elim
end
noncomputable def Rz:List V->Hp->VK->Prop:=fun xs H Q=>match xs with
 | [.int i]=>Q (.int i) H
 | [.bl k]=>Q (.int (if k then 1 else 0)) H
 | _=>False
theorem V6 (k:Bool)(H:Hp)(Q:VK):Rz [.bl k] H Q=Q (.int (if k then 1 else 0)) H:=rfl
theorem kW {X:Cx}:fL X (.type "int") Rz:=by
 intro pins s σ H xs us Q I r h;unfold Rz at h;split at h
 ·exact Bv pins s σ H _ us Q I r (.inl ⟨_,rfl,h⟩)
 ·exact Bv pins s σ H _ us Q I r (.inr ⟨_,rfl,h⟩)
 exact h.elim
theorem aO {t u:TS}{D:Ends}{σ:St}{H:Hp}(h:∀k,k=u D->t { D with nx:=k } σ H):Ig t u D σ H:=h _ rfl
theorem kJ {wi:TI}{g:TG}{tb:TS}{D:Ends}{σ:St}{H:Hp}(h:∀R:It->Hp->Prop,R=(fun J H1=>∃W:Nat->Nat->St->Hp->Prop,(∃m,W 0 m σ H1)/\∀i m σ H,W i m σ H ->
  (J.stop i H/\D.nx σ H)\/(J.go i H/\∃N:St->Hp->Prop,(∀σ' H',N σ' H'->∃m',m'<m/\W (i+1) m' σ' H')/\∀x H',J.yld i H x H'->g x σ H' fun σ2 H2=>tb { D with nx:=N,ct:=N,bk:=D.nx } σ2 H2))->wi σ H R):Zg wi g tb D σ H:=h _ rfl
theorem Ma {lo:Int}{n:Nat}{g:TG}{tb:TS}{D:Ends}{σ:St}{H:Hp}{R:It->Hp->Prop}(hR:R=(fun J H1=>∃W:Nat->Nat->St->Hp->Prop,(∃m,W 0 m σ H1)/\∀i m σ H,W i m σ H ->
  (J.stop i H/\D.nx σ H)\/(J.go i H/\∃N:St->Hp->Prop,(∀σ' H',N σ' H'->∃m',m'<m/\W (i+1) m' σ' H')/\∀x H',J.yld i H x H'->g x σ H' fun σ2 H2=>tb { D with nx:=N,ct:=N,bk:=D.nx } σ2 H2)))
  (Pv:Nat->St->Hp->Prop) (h0:Pv 0 σ H) (hs:∀i σ H,i<n->Pv i σ H->g (.int (lo+i)) σ H fun σ2 H2=>tb { D with nx:=Pv (i+1),ct:=Pv (i+1),bk:=D.nx } σ2 H2) (hd:∀σ H,Pv n σ H->D.nx σ H):R (Itr lo n) H:=by
 subst hR;exact O3 Pv h0 hs hd
theorem tX {K:AD}{a:Addr}{xs:List V}{g:TG}{tb:TS}{D:Ends}{σ:St}{H:Hp}{R:It->Hp->Prop}(hR:R=(fun J H1=>∃W:Nat->Nat->St->Hp->Prop,(∃m,W 0 m σ H1)/\∀i m σ H,W i m σ H ->
  (J.stop i H/\D.nx σ H)\/(J.go i H/\∃N:St->Hp->Prop,(∀σ' H',N σ' H'->∃m',m'<m/\W (i+1) m' σ' H')/\∀x H',J.yld i H x H'->g x σ H' fun σ2 H2=>tb { D with nx:=N,ct:=N,bk:=D.nx } σ2 H2)))
  (Pv:Nat->St->Hp->Prop) (h0:Pv 0 σ H) (hl:∀i σ H,i<=xs.length->Pv i σ H->SqL K H a xs) (hs:∀i x σ H,xs[i]?=some x->Pv i σ H->g x σ H fun σ2 H2=>tb { D with nx:=Pv (i+1),ct:=Pv (i+1),bk:=D.nx } σ2 H2) (hd:∀σ H,Pv xs.length σ H->D.nx σ H):R (Itl K a) H:=by
 subst hR;exact Uy Pv h0 hl hs hd
noncomputable def Kl (mp:List (Option Nat))(g:TG)(tc:TT)(te:TE)(σ:St)(Q:VK)(J:It)(H1:Hp):Prop:=∃W:Nat->Nat->List V->St->Hp->Prop,(∃m,W 0 m [] (jU mp σ) H1)/\∀i m acc τ H2,W i m acc τ H2 ->
  (J.stop i H2/\∀d,H2 d=none->Q (.ref d) (upd H2 d (.lst acc))) \/
  (J.go i H2/\acc.length<AL/\∃N:List V->St->Hp->Prop,(∀acc' τ' H',N acc' τ' H'->∃m',m'<m/\W (i+1) m' acc' τ' H')/\∀x H3,J.yld i H2 x H3->g x τ H3 fun τ1 H4=>tc τ1 H4 fun b H5=>
   if b=true then te τ1 H5 fun v H6=>N (acc++[v]) τ1 H6 else N acc τ1 H5)
theorem cY {mp:List (Option Nat)}{wi:TI}{g:TG}{tc:TT}{te:TE}{σ:St}{H:Hp}{Q:VK}(h:∀R:It->Hp->Prop,R=Kl mp g tc te σ Q->wi σ H R):Ah mp wi g tc te σ H Q:=h _ rfl
theorem DW {J:It}{mp:List (Option Nat)}{g:TG}{tc:TT}{te:TE}{σ:St}{H:Hp}{Q:VK}{R:It->Hp->Prop}(hR:R=Kl mp g tc te σ Q)(n:Nat)(hz:n<=AL)(Pv:Nat->List V->St->Hp->Prop)(h0:Pv 0 [] (jU mp σ) H)
  (hl:∀i acc τ H,Pv i acc τ H->acc.length<=i) (hgo:∀i acc τ H,i<n->Pv i acc τ H->J.go i H) (hst:∀acc τ H,Pv n acc τ H->J.stop n H)
  (hs:∀i acc τ H x H3,i<n->Pv i acc τ H->J.yld i H x H3->g x τ H3 fun τ1 H4=>tc τ1 H4 fun b H5=>if b=true then te τ1 H5 fun v H6=>Pv (i+1) (acc++[v]) τ1 H6 else Pv (i+1) acc τ1 H5)
  (hd:∀acc τ H d,Pv n acc τ H->H d=none->Q (.ref d) (upd H d (.lst acc))):R J H:=by
 subst hR;refine⟨fun i m acc τ H2=>m=n-i/\i<=n/\Pv i acc τ H2,⟨_,rfl,EN _,h0⟩,?_⟩;rintro i m acc τ H2 ⟨rfl,hi,p⟩;have q3:=hl i acc τ H2 p;by_cases hlt:i<n
 ·exact .inr ⟨hgo i acc τ H2 hlt p,ω,Pv (i+1),fun acc' τ' H' q=>⟨_,ω,rfl,hlt,q⟩,fun x H3 y=>hs i acc τ H2 x H3 hlt p y⟩
 have e:i=n:=ω;subst e;exact .inl ⟨hst acc τ H2 p,fun d hd'=>hd acc τ H2 d p hd'⟩
structure Nm (N:List Str)(sc:GG)(i:Nat)(x:Str):Prop where
 hN:N[i]?=some x
 hv:Loc sc x
 hd:(x == ("__debug__" : Str))=false
 hcd:(x == ("__classdict__" : Str))=false
noncomputable def abz (N:List Str) (sc:GG) (i:Nat) (x:Str):Bool:=decide (N[i]?=some x)&&(decide (sc.names.lookup x=some .local)||decide (sc.names.lookup x=some .cell)) && !(x == ("__debug__" : Str)) && !(x == ("__classdict__" : Str))
theorem Nm.of {N:List Str}{sc:GG}{i:Nat}{x:Str}(h:abz N sc i x=true):Nm N sc i x:=by
 unfold abz at h;rw[C9,C9,C9,Bool.or_eq_true] at h;obtain⟨⟨⟨h1,h2⟩,h3⟩,h4⟩:=h;exact⟨of_decide_eq_true h1,h2.elim (fun z=>.inl (of_decide_eq_true z)) (fun z=>.inr (of_decide_eq_true z)),by simpa using h3,by simpa using h4⟩
structure Bn (x:Str):Prop where
 hn:x ≠ "__name__"
 hd:(x == ("__debug__" : Str))=false
section
variable {X:Cx}{i:Nat}{x:Str}{pos pos' p:Pos}{e:Expr}{es:List Expr}{te:TE}{t:TA}{k:Nat}{ps:List Str}{sp:Sp}{id T:String}{r:List V->Hp->VK->Prop}
theorem pn (n:Nm X.N X.env.scope i x):PE X (.Name x pos) (Qo i):=R8 n.hN (n.hv.elim .inl fun z=>.inr (.inl z)) n.hd n.hcd
theorem abi (n:Nm X.N X.env.scope i x)(hN:X.N.Nodup)(he:PE X e te)(hs:II e (some (.Name x pos')) pos.line X.env=pure false:=by rfl)(hf:X.fn x=true\/X.env.scope.names.lookup x=some .local:=by exact .inl rfl) :
  PS X (.Assign [.Name x pos'] e pos) (vP te (kI i)):=ZM hN n.hN n.hv he hs hf
theorem abk (n:Nm X.N X.env.scope i x)(hN:X.N.Nodup)(hf:X.fn x=true\/X.env.scope.names.lookup x=some .local:=by exact .inl rfl):PG X (.Name x pos) (kI i):=K1 hN n.hN n.hv hf
theorem abp (C:Cal X.prog X.w X.K X.mg X.base x k ps sp)(hr:jg k X.A)(hg:Gl X x)(hdb:Bn x)(ha:PA X (e::es) t)
  (he:AJ (e::es) X.env=(false,eval e X.env)::AJ es X.env:=by rfl) (hpl:(CU pos (AJ es X.env)).any (·.1)=false:=by rfl):PE X (.Call (.Name x p) (e::es) [] pos) (wU sp [] E0 t):=
 Z9 C hr hg ha hdb.hd he hpl
theorem abq (hc:fL X (.builtin id) r)(hg:Gl X x)(hm:X.mg x=none)(hv:D1 x=some (.builtin id))(b:Bn x)(ha:PA X (e::es) t)
  (he:AJ (e::es) X.env=(false,eval e X.env)::AJ es X.env:=by rfl) (hpl:(CU pos (AJ es X.env)).any (·.1)=false:=by rfl):PE X (.Call (.Name x p) (e::es) [] pos) (tCB r t):=Ss hc hg hm hv ha b.hn b.hd he hpl
theorem abo (hc:fL X (.type T) r)(hg:Gl X x)(hm:X.mg x=none)(hv:D1 x=some (.type T))(b:Bn x)(ha:PA X (e::es) t)
  (he:AJ (e::es) X.env=(false,eval e X.env)::AJ es X.env:=by rfl) (hpl:(CU pos (AJ es X.env)).any (·.1)=false:=by rfl):PE X (.Call (.Name x p) (e::es) [] pos) (tCB r t):=NP hc hg hm hv ha b.hn b.hd he hpl
theorem abr (n:String)(hg:Gl X x)(hm:X.mg x=none)(hv:D1 x=some (.type n))(b:Bn x):PE X (.Name x pos) (tC (.ty n)):=Xk hg hm hv rfl b.hn b.hd
end
theorem d9:Bn "len" := ⟨ψ,ψ⟩
theorem Vc:Bn "abs" := ⟨ψ,ψ⟩
theorem vd:Bn "min" := ⟨ψ,ψ⟩
theorem Eb:Bn "max" := ⟨ψ,ψ⟩
theorem gO:Bn "isinstance" := ⟨ψ,ψ⟩
theorem vf:Bn "int" := ⟨ψ,ψ⟩
theorem rM:Bn "sum" := ⟨ψ,ψ⟩
theorem Mt:Bn "list" := ⟨ψ,ψ⟩
theorem tZ:Bn "tuple" := ⟨ψ,ψ⟩
theorem Mu:Bn "bool" := ⟨ψ,ψ⟩
noncomputable def tyO:Option HO->Option String
 | some (.lst _)=>some "list"
 | some (.tup _)=>some "tuple"
 | _=>none
noncomputable def tyN (x:V)(H:Hp):Option String:=match x with
 | .non=>some "NoneType"
 | .bl _=>some "bool"
 | .int _=>some "int"
 | .str _=>some "str"
 | .ref a=>tyO (H a)
 | _=>none
theorem Tn.of {x:V}{H:Hp}{t:String}(h:tyN x H=some t):Tn H x t:=by
 cases x with
 | non=>cases h;exact .non
 | bl b=>cases h;exact .bl b
 | int i=>cases h;exact .int i
 | str s=>cases h;exact .str s
 | ref a=>
  have h':tyO (H a)=some t:=h;cases e:H a with
  | none=>rw[e] at h';cases h'
  | some o=>
   rw[e] at h';cases o with
   | lst xs=>cases h';exact .lst e
   | tup xs=>cases h';exact .tup e
   | _=>cases h'
 | _=>cases h
noncomputable def Ry:List V->Hp->VK->Prop:=fun xs H Q=>match xs with
 | [x,.ty T]=>∃t,tyN x H=some t/\lK.contains T=true/\Q (.bl (lA t T)) H
 | _=>False
theorem mO {X:Cx}:fL X (.builtin "isinstance") Ry:=by
 intro pins s σ H xs us Q I r h;unfold Ry at h;split at h
 ·obtain⟨t,e,k,q⟩:=h;exact Px pins s σ H _ us Q I r ⟨_,_,t,rfl,Tn.of e,by simpa using k,q⟩
 exact h.elim
theorem Rx (x:V)(T:String)(H:Hp)(Q:VK):Ry [x,.ty T] H Q=∃t,tyN x H=some t/\lK.contains T=true/\Q (.bl (lA t T)) H:=rfl
theorem Uh:lK.contains "tuple" = true:=by decide
theorem aaF:lK.contains "int" = true:=by decide
theorem kc_bool:lK.contains "bool" = true:=by decide
theorem ty_int (i:Int) (H:Hp):tyN (.int i) H=some "int" := rfl
theorem aa2 (i:Bool) (H:Hp):tyN (.bl i) H=some "bool" := rfl
theorem ty_str (i:Str) (H:Hp):tyN (.str i) H=some "str" := rfl
theorem Zb (H:Hp):tyN .non H=some "NoneType" := rfl
theorem Za (p:Addr)(H:Hp):tyN (.ref p) H=tyO (H p):=rfl
theorem Vu (xs:List V):tyO (some (.lst xs))=some "list" := rfl
theorem Vt (xs:List V):tyO (some (.tup xs))=some "tuple" := rfl
theorem uD:lA "NoneType" "bool" = false:=by decide
theorem vR:lA "NoneType" "int" = false:=by decide
theorem rW:lA "NoneType" "tuple" = false:=by decide
theorem Cr:lA "bool" "bool" = true:=by decide
theorem Fl:lA "bool" "int" = true:=by decide
theorem zG:lA "bool" "tuple" = false:=by decide
theorem Fj:lA "int" "bool" = false:=by decide
theorem Iw:lA "int" "int" = true:=by decide
theorem Cq:lA "int" "tuple" = false:=by decide
theorem Fg:lA "str" "bool" = false:=by decide
theorem Iv:lA "str" "int" = false:=by decide
theorem Cm:lA "str" "tuple" = false:=by decide
theorem Cp:lA "list" "bool" = false:=by decide
theorem Fi:lA "list" "int" = false:=by decide
theorem zF:lA "list" "tuple" = false:=by decide
theorem zE:lA "tuple" "bool" = false:=by decide
theorem Ck:lA "tuple" "int" = false:=by decide
theorem xH:lA "tuple" "tuple" = true:=by decide
noncomputable def gtq (o:Option HO)(n:Nat)(t:TGs)(σ:St)(H:Hp)(Q:St->Hp->Prop):Prop:=match o with
 | some (.tup xs)=>xs.length=n/\t xs σ H Q
 | _=>False
noncomputable def LR (n:Nat)(t:TGs):TG:=fun v σ H Q=>match v with
 | .ref a=>gtq (H a) n t σ H Q
 | _=>False
theorem O2 (n:Nat)(t:TGs)(a:Addr)(σ:St)(H:Hp)(Q:St->Hp->Prop):LR n t (.ref a) σ H Q=gtq (H a) n t σ H Q:=rfl
theorem Yh (xs:List V)(n:Nat)(t:TGs)(σ:St)(H:Hp)(Q:St->Hp->Prop):gtq (some (.tup xs)) n t σ H Q=(xs.length=n/\t xs σ H Q):=rfl
section
variable {X:Cx}{es:List Expr}{k:Nat}{t:TGs}{n:Nat}{pos:Pos}
theorem W4 (hc:X.calm=true)(h:PGs X es t)(hn:(DC es X.env).length=n:=by rfl)(hst:(DC es X.env).findIdx? (·.1)=none:=by rfl):PG X (.Tuple es k pos) (LR n t):=by
 intro pins s σ H v u Q I r hw;unfold LR at hw;split at hw
 ·rename_i a;unfold gtq at hw;split at hw
  ·rename_i xs e;exact ZX hc h hn hst pins s σ H _ u Q I r ⟨a,xs,rfl,SqT.of e,hw.1,hw.2⟩
  exact hw.elim
 exact hw.elim
end
noncomputable def Rr:List V->Hp->VK->Prop:=fun xs H Q=>match xs with
 | [.int i,.int j]=>Q (.int (if j<i then j else i)) H
 | _=>False
noncomputable def Ru:List V->Hp->VK->Prop:=fun xs H Q=>match xs with
 | [.int i,.int j]=>Q (.int (if j>i then j else i)) H
 | _=>False
theorem Rq (i j:Int)(H:Hp)(Q:VK):Rr [.int i,.int j] H Q=Q (.int (if j<i then j else i)) H:=rfl
theorem Rt (i j:Int)(H:Hp)(Q:VK):Ru [.int i,.int j] H Q=Q (.int (if j>i then j else i)) H:=rfl
theorem Pq {X:Cx}(hc:X.calm=true):fL X (.builtin "min") Rr:=by
 intro pins s σ H xs us Q I r h;unfold Rr at h;split at h
 ·exact Pr hc pins s σ H _ us Q I r ⟨_,_,rfl,h⟩
 exact h.elim
theorem Bt {X:Cx}(hc:X.calm=true):fL X (.builtin "max") Ru:=by
 intro pins s σ H xs us Q I r h;unfold Ru at h;split at h
 ·exact Pu hc pins s σ H _ us Q I r ⟨_,_,rfl,h⟩
 exact h.elim
structure QE (X:Cx)(e:Expr)(t:TE):Prop where
 h:PE X e t
structure QT (X:Cx)(e:Expr)(t:TT):Prop where
 h:PT X e t
structure QW (X:Cx)(e:Expr)(t:TT):Prop where
 h:PW X e t
structure QA (X:Cx)(es:List Expr)(t:TA):Prop where
 h:PA X es t
structure QS (X:Cx)(st:Stmt)(t:TS):Prop where
 h:PS X st t
structure QB (X:Cx)(st:List Stmt)(t:TS):Prop where
 h:PSs X st t
structure QG (X:Cx)(e:Expr)(t:TG):Prop where
 h:PG X e t
structure QGs (X:Cx)(es:List Expr)(t:TGs):Prop where
 h:PGs X es t
structure QI (X:Cx)(tg e:Expr)(t:TI):Prop where
 h:PI X tg e t
structure QC (X:Cx)(cs:List Expr)(t:TT):Prop where
 h:PTs X cs t
section
variable {X:Cx}{i:Nat}{x:Str}{pos pos' p tpos:Pos}{e a b c o:Expr}{es rest:List Expr}{te ta tb tc to ti:TE}{tA tB':TT}{t:TA}{k n kk:Nat}{ps:List Str}{sp:Sp}{id T:String}{r:List V->Hp->VK->Prop}{st:Stmt}{sts:List Stmt}{ts us:TS}{tg iter:Expr}{wi:TI}{g:TG}{gs:TGs}
theorem ab0 (h:Nm X.N X.env.scope i x):QE X (.Name x pos) (Qo i):=⟨pn h⟩
theorem abZ (i:Nat) {x:Str}{pos:Pos}(hN:X.N[i]?=some x:=by rfl) (hv:Vis X.env.scope x:=by first|exact C8 rfl|exact Or.inr (C8 rfl)|exact Or.inr (Or.inr rfl)) (hd:(x == ("__debug__" : Str))=false:=by decide)
  (hcd:(x == ("__classdict__" : Str))=false:=by decide):QE X (.Name x pos) (Qo i):=⟨R8 hN hv hd hcd⟩
theorem au {i j pos}:QE X (.Constant (.int i) j pos) (tC (.int i)):=⟨Z8⟩
theorem j4 {b j pos}:QE X (.Constant (.bool b) j pos) (tC (.bl b)):=⟨abt⟩
theorem ZD {j pos}:QE X (.Constant .none j pos) (tC .non):=⟨Z6⟩
theorem bD {x j pos}:QE X (.Constant (.str x) j pos) (tC (.str x)):=⟨Z2⟩
theorem aM {op:Operator}{r:R2}(ho:OpR X (Ev op) r)(ha:QE X a ta)(hb:QE X b tb):QE X (.BinOp a op b pos) (tOp r ta tb):=⟨abm ho ha.h hb.h⟩
theorem sI {op:UnaryOp}{r:V->Hp->VK->Prop}(ho:UnR X (unaryOp op) r)(ha:QE X a ta):QE X (.UnaryOp op a pos) (tUn r ta):=⟨abl ho ha.h⟩
theorem ZC (ha:QE X a ta):QE X (.UnaryOp .Not a pos) (Qv ta):=⟨Z5 ha.h⟩
theorem gn {op:CmpOp}{r:R2}(ho:OpR X (CH op) r)(ha:QE X a ta)(hb:QE X b tb)(hm:GS op b=false):QE X (.Compare a [op] [b] pos) (tOp r ta tb):=⟨Xi ho ha.h hb.h hm⟩
theorem bx {op:CmpOp}{r:R2}(ho:OpR X (CH op) r)(ha:QE X a ta)(hb:QE X b tb)(hm:GS op b=false):QT X (.Compare a [op] [b] pos) (Es (tOp r ta tb)):=⟨Wt ho ha.h hb.h hm⟩
theorem RQ {op op':CmpOp}{r r':R2}(ho:OpR X (CH op) r)(ho':OpR X (CH op') r')(ha:QE X a ta)(hb:QE X b tb)(hc:QE X c tc)
  (hm:lastMarks [op,op'] [b,c]=false:=by with_unfolding_all rfl):QE X (.Compare a [op,op'] [b,c] pos) (Ik r r' ta tb tc):=⟨Sq ho ho' ha.h hb.h hc.h hm⟩
theorem xK {op}(h:QE X a ta):QE X (.BoolOp op [a] pos) ta:=⟨Z4 h.h⟩
theorem xM (ha:QE X a ta)(hb:QE X (.BoolOp .And (b::rest) pos) tb):QE X (.BoolOp .And (a::b::rest) pos) (QM ta tb):=⟨aac ha.h hb.h⟩
theorem Ba (hc:QT X c tA)(ha:QE X a ta)(hb:QE X b tb):QE X (.IfExp c a b pos) (tIf tA ta tb):=⟨Sg hc.h ha.h hb.h⟩
theorem aL {r:R2}(hr:IxR X r)(ha:QE X a ta)(hb:QE X b tb)(hs:MJ b):QE X (.Subscript a b pos) (tOp r ta tb):=⟨abn hr ha.h hb.h hs⟩
theorem bN (h:QA X es t):QE X (.List es pos) (Ih t):=⟨Z7 h.h⟩
theorem bQ {x1}(h:QA X es t):QE X (.Tuple es x1 pos) (Er t):=⟨Z1 h.h⟩
theorem aA:QA X [] BX:=⟨aad⟩
theorem ak (ha:QE X e te)(hr:QA X es t)(hs:AJ (e::es) X.env=(false,eval e X.env)::AJ es X.env:=by rfl):QA X (e::es) (oR te t):=⟨Xn ha.h hr.h hs⟩
theorem bw (C:Cal X.prog X.w X.K X.mg X.base x k ps sp)(hr:jg k X.A)(hg:Gl X x)(hdb:Bn x)(ha:QA X (e::es) t)
  (he:AJ (e::es) X.env=(false,eval e X.env)::AJ es X.env:=by rfl) (hpl:(CU pos (AJ es X.env)).any (·.1)=false:=by rfl):QE X (.Call (.Name x p) (e::es) [] pos) (wU sp [] E0 t):=⟨abp C hr hg hdb ha.h he hpl⟩
theorem bW (hc:fL X (.builtin id) r)(hg:Gl X x)(hm:X.mg x=none)(hv:D1 x=some (.builtin id))(b:Bn x)(ha:QA X (e::es) t)
  (he:AJ (e::es) X.env=(false,eval e X.env)::AJ es X.env:=by rfl) (hpl:(CU pos (AJ es X.env)).any (·.1)=false:=by rfl):QE X (.Call (.Name x p) (e::es) [] pos) (tCB r t):=⟨abq hc hg hm hv b ha.h he hpl⟩
theorem sO (hc:fL X (.type T) r)(hg:Gl X x)(hm:X.mg x=none)(hv:D1 x=some (.type T))(b:Bn x)(ha:QA X (e::es) t)
  (he:AJ (e::es) X.env=(false,eval e X.env)::AJ es X.env:=by rfl) (hpl:(CU pos (AJ es X.env)).any (·.1)=false:=by rfl):QE X (.Call (.Name x p) (e::es) [] pos) (tCB r t):=⟨abo hc hg hm hv b ha.h he hpl⟩
theorem Fw (n:String)(hg:Gl X x)(hm:X.mg x=none)(hv:D1 x=some (.type n))(b:Bn x):QE X (.Name x pos) (tC (.ty n)):=⟨abr n hg hm hv b⟩
theorem uE (ha:QT X a tA):QT X (.UnaryOp .Not a pos) (Qw tA):=⟨ZL ha.h⟩
theorem qW (h:QE X e te)(he:∀whole,isTrue e X.env whole=(do let v <- whole;standAt e.pos;EM [v] (truthy v)):=by intro _;rfl):QT X e (tB te):=⟨ZJ h.h he⟩
theorem wB (ha:QT X a tA):QW X (.BoolOp .And [a] pos) tA:=⟨Wq ha.h⟩
theorem xJ (ha:QT X a tA):QW X (.BoolOp .Or [a] pos) tA:=⟨ZF ha.h⟩
theorem Cv (ha:QT X a tA)(hb:QW X (.BoolOp .And (b::rest) pos) tB'):QW X (.BoolOp .And (a::b::rest) pos) (VB tA tB'):=⟨ZG ha.h hb.h⟩
theorem Ay (ha:QT X a tA)(hb:QW X (.BoolOp .Or (b::rest) pos) tB'):QW X (.BoolOp .Or (a::b::rest) pos) (tOr tA tB'):=⟨abh ha.h hb.h⟩
theorem Cw (h:QW X e tA):QT X e tA:=⟨h.h.pt⟩
theorem cg:QB X [] Et:=⟨Wv⟩
theorem aK (h:QS X st ts):QB X [st] ts:=⟨Wu h.h⟩
theorem aF (h:QS X st ts)(h2:QB X sts us):QB X (st::sts) (Ig ts us):=⟨RT h.h h2.h⟩
theorem aU (he:QE X e te):QS X (.Return (some e) pos) (Qp te):=⟨ZP he.h⟩
theorem dm {c:Expr}{a b:List Stmt}{tc:TT}(hc:QT X c tc)(ha:QB X a ts)(hb:QB X b us):QS X (.If c a b pos) (Ij tc ts us):=⟨abj hc.h ha.h hb.h⟩
theorem dw (he:QE X e te)(hs:II e none pos.line X.env=pure false:=by rfl):QS X (.Expr e pos) (vq te):=⟨WD he.h hs⟩
theorem bG (h:Nm X.N X.env.scope i x)(hN:X.N.Nodup)(he:QE X e te)(hs:II e (some (.Name x pos')) pos.line X.env=pure false:=by rfl)(hf:X.fn x=true\/X.env.scope.names.lookup x=some .local:=by exact .inl rfl) :
  QS X (.Assign [.Name x pos'] e pos) (vP te (kI i)):=⟨abi h hN he.h hs hf⟩
theorem pA (he:QE X e te)(hg:QG X tg g)(hs:EB [tg] e pos.line X.env=pure false:=by rfl)(hw:GO [tg] e X.env=pure none:=by rfl)
  (h1:(DC [tg] X.env).map (·.2)=[FE tg X.env]:=by rfl):QS X (.Assign [tg] e pos) (vP te g):=⟨ZS he.h hg.h hs hw h1⟩
theorem RK {i j:Nat}{x y:Str}{a b:Expr}{ta:TA}{px py pt:Pos}{kt k2 pt2}(hc:X.calm=true)(hN:X.N.Nodup)(hi:X.N[i]?=some x)(hj:X.N[j]?=some y)(hij:i≠j)
  (hx:X.env.scope.names.lookup x=some .local) (hy:X.env.scope.names.lookup y=some .local) (ha:QA X [a,b] ta)
  (hw:GO [.Tuple [.Name x px,.Name y py] kt pt] (.Tuple [a,b] k2 pt2) X.env=pure (some [x,y]))
  (hs:EB [.Tuple [.Name x px,.Name y py] kt pt] (.Tuple [a,b] k2 pt2) pos.line X.env=pure false:=by rfl) :
  QS X (.Assign [.Tuple [.Name x px,.Name y py] kt pt] (.Tuple [a,b] k2 pt2) pos) (Zf i j ta):=⟨ZQ hc hN hi hj hij hx hy ha.h hw hs⟩
theorem Ft {c:Expr}{body:List Stmt}{tc:TT}(hp:PassesOwn (AW X.prog X.w) X.A X.env X.xe)(hc:QT X c tc)(hb:QB X body ts):QS X (.While c body [] pos) (Qn tc ts):=⟨RV hp hc.h hb.h⟩
theorem gY {body:List Stmt}(hp:PassesOwn (AW X.prog X.w) X.A X.env X.xe)(hc:X.calm=true)(hi:QI X tg iter wi)(hg:QG X tg g)(hb:QB X body ts)
  (hs:∀x,D5 iter X.env x=pure x:=by intro _;rfl):QS X (.For tg iter body [] pos) (Zg wi g ts):=⟨ZR hp hc hi.h hg.h hb.h hs⟩
theorem dY (h:Nm X.N X.env.scope i x)(hN:X.N.Nodup)(hf:X.fn x=true\/X.env.scope.names.lookup x=some .local:=by exact .inl rfl):QG X (.Name x pos) (kI i):=⟨abk h hN hf⟩
theorem bR (i:Nat)(hN:X.N.Nodup)(hi:X.N[i]?=some x)(hx:Loc X.env.scope x)(hf:X.fn x=true\/X.env.scope.names.lookup x=some .local:=by first|exact .inl rfl|exact .inr rfl):QG X (.Name x pos) (kI i):=⟨K1 hN hi hx hf⟩
theorem gP:QGs X [] aaM:=⟨W2⟩
theorem bL (h1:QG X e g)(h2:QGs X es gs)(hs:(DC (e::es) X.env).map (·.2)=FE e X.env::(DC es X.env).map (·.2):=by rfl):QGs X (e::es) (Uv g gs):=⟨R7 h1.h h2.h hs⟩
theorem jy {n:Nat}(hc:X.calm=true)(h:QGs X es gs)(hn:(DC es X.env).length=n:=by rfl)(hst:(DC es X.env).findIdx? (·.1)=none:=by rfl):QG X (.Tuple es k pos) (LR n gs):=⟨W4 hc h.h hn hst⟩
theorem Vk (o:Expr)(c j)(p pos:Pos)(env:Env)(v:Ap):FE (.Subscript o (.Constant c j p) pos) env v=(do
   let ov <- EM [v] (eval o env)
   let iv <- EM [v,ov] (eval (.Constant c j p) env)
   standAt pos
   EM [v,ov,iv] (setItem ov iv v)
   release [v,ov,iv] []):=rfl
theorem Cz {c j}{t:YG}(ho:QE X o to)(hi:QE X (.Constant c j p) ti)(hs:YH X t):QG X (.Subscript o (.Constant c j p) pos) (aaK to ti t):=⟨Z0 ho.h hi.h hs (fun v=>Vk o c j p pos X.env v)⟩
theorem ig (hg:Gl X "range") (hm:X.mg "range" = none) (ha:QA X [a] t) (hs:AJ [a] X.env=[(false,eval a X.env)]:=by rfl):QI X tg (.Call (.Name "range" p) [a] [] pos) (qO t):=⟨NK hg hm ha.h hs⟩
theorem Az (hg:Gl X "range") (hm:X.mg "range" = none) (ha:QA X [a,b] t) (hs:AJ [a,b] X.env=[(false,eval a X.env),(false,eval b X.env)]:=by rfl) (hs2:AJ [b] X.env=[(false,eval b X.env)]:=by rfl):QI X tg (.Call (.Name "range" p) [a,b] [] pos) (LK t):=⟨Nz hg hm ha.h hs hs2⟩
theorem fK:QC X [] Zd:=⟨Ws⟩
theorem pC (h:QT X c tA):QC X [c] tA:=⟨Wr h.h⟩
theorem cJ {NX:List Str}{kX:List (Str×DF)}{scope:GG}{elt:Expr}{ifs:List Expr}{tc:TT}(N:List Str)(mp:List (Option Nat))(hNX:X.N=NX)(hkX:X.env.scope.names=kX)(S:vO NX kX N mp scope)(hc:X.calm=true)
  (hi:QI X tg iter wi) (hg:∀cl C s H fp,QG (bK X N scope cl C s H fp) tg g) (ht:∀cl C s H fp,QC (bK X N scope cl C s H fp) ifs tc) (he:∀cl C s H fp,QE (bK X N scope cl C s H fp) elt te)
  (hs:∀x,D5 iter X.env x=pure x:=by intro _;rfl):QE X (.ListComp elt [⟨tg,iter,ifs,0⟩] scope pos) (Ah mp wi g tc te):=
 ⟨Xg N mp hNX hkX S hc hi.h (fun cl C s H fp=>(hg cl C s H fp).h) (fun cl C s H fp=>(ht cl C s H fp).h) (fun cl C s H fp=>(he cl C s H fp).h) hs⟩
end
section
variable {P:AR}{w:Bi}{K:AD}{mg:Str->Option Ap}{base:Heap}
theorem Fun.okq {x qual:Str}{st:Stmt}{f:Addr}{fd:CY}{N ps:List Str}{k:Nat}{sp:Sp}(F:Fun K x qual st f fd)(S:bh N ps (aj st))(len:∀vs H Q E,sp vs H Q E->vs.length=ps.length)
  (hbody:∀(cdv:Ap)(A:Bz)(outer:List Env)(s:AB)(H:Hp)(vs:List V)(Q:VK)(E:XK),jg k (A.deeper (Ki qual (aj st) s.heap.objs.size f cdv))->sp vs H Q E ->
   ∃t,QB (J1 CX0 P w K mg base N qual (aj st) f cdv A outer s H E).nox (aV st) t/\t { nx:=fun _ H'=>Q .non H',rt:=Q } (L2.start N vs) H):dF P w K mg base CX0 (k+1) f fd ps sp:=
 F.ok S len fun cdv A outer s H vs Q E hr hsp=>by
  obtain⟨t,h,q⟩:=hbody cdv A outer s H vs Q E hr hsp;exact⟨t,h.h,q⟩
end
theorem Jd:∀(ns:List Int),preSum (fun i=>(ns[i]?).getD 0) ns.length=ns.sum:=by
 have key:∀(f:Nat->Int)(n:Nat),preSum f (n+1)=preSum f n+f n:=fun f n=>rfl;have key2:∀(n:Nat)(f g:Nat->Int),(∀i,i<n->f i=g i)->preSum f n=preSum g n:=by
  intro n
  induction n with
  | zero=>intros;rfl
  | succ n ih=>intro f g h;rw[key,key,ih f g fun i hi=>h i (C0 hi),h n (CO n)]
 have key3:∀(n:Nat)(f:Nat->Int),preSum f (n+1)=f 0+preSum (fun i=>f (i+1)) n:=by
  intro n
  induction n with
  | zero=>intro f;show(0:Int)+f 0=f 0+0;omega
  | succ n ih=>intro f;rw[key,ih,key];omega
 intro ns
 induction ns with
 | nil=>rfl
 | cons a r ih=>
  rw[Co,key3,FG,<- ih];rfl
noncomputable def smq (o:Option HO)(H:Hp)(Q:VK):Prop:=match o with
 | some (.lst xs)=>∃ns:List Int,xs=ns.map V.int/\Q (.int ns.sum) H
 | _=>False
noncomputable def Rn:List V->Hp->VK->Prop:=fun xs H Q=>match xs with
 | [.ref p]=>smq (H p) H Q
 | _=>False
theorem Np (p:Addr)(H:Hp)(Q:VK):Rn [.ref p] H Q=smq (H p) H Q:=rfl
theorem VH (xs:List V)(H:Hp)(Q:VK):smq (some (.lst xs)) H Q=∃ns:List Int,xs=ns.map V.int/\Q (.int ns.sum) H:=rfl
section
variable {X:Cx}
theorem jf (hc:X.calm=true):fL X (.builtin "sum") Rn:=by
 intro pins s σ H xs us Q I r h;unfold Rn at h;split at h
 ·rename_i p;unfold smq at h;split at h
  ·rename_i ys e;obtain⟨ns,rfl,q⟩:=h;cases r with
   | cons r rr=>
    cases rr;cases r;obtain⟨its,rv,pl,hz⟩:=I.list (SqL.of e);have hl:=rv.length;have lt:p<s.heap.objs.size:=by obtain⟨_,e,_⟩:=pl.isList;exact A4 e
    refine call_sum_walkG (EW pl.isList ?_);refine⟨s.heap.objs.size,[s.heap.objs.size,p],[s.heap.objs.size],its.toArray.size,_,_,fun i=>(ns[i]?).getD 0,rfl,Walks.list (A:=X.A.in1) (I.ok.hd hc) _ p (B2 lt) _,
     ⟨⟨_,AQ _ rfl,rfl,rfl⟩,pl.isList.push _⟩,?_,fun i v hP=>?_,fun h' tk t' hk=>?_⟩
    ·intro b hb;rw[B9];simp only[A5,A9,or_false] at hb;rcases hb with rfl|rfl
     ·exact CO _
     exact C0 lt
    ·have e1:its[i]?=some v:=by simpa using hP
     have hi:i<its.length:=by
      rcases FX i its.length with z|z
      ·exact z
      rw[EE z] at e1;cases e1
     have hi2:i<ns.length:=by rw[<- hl,AE] at hi;exact hi
     obtain⟨u,hu,ru⟩:=rv.get (i:=i) (x:=.int ns[i]) (by rw[AU,AF hi2];rfl);rw[e1] at hu;cases hu;obtain⟨t,rfl⟩:=ru;exact⟨t,by show _=Ap.int ((ns[i]?).getD 0) t;rw[AF hi2];rfl⟩
    have e2:its.toArray.size=ns.length:=by rw[AX,<- hl,AE]
    rw[e2,Jd];refine⟨.int _,H,I.kept fun b o e=>hk b o (fun hm=>?_) (AA _ e),⟨t',rfl⟩,q⟩;rw[AK.mp hm] at e;exact DD _ (A4 e)
  exact h.elim
 exact h.elim
noncomputable def IV (i:Int)(n:Nat):List V:=(BO n).map fun k=>V.int (i+(k:Nat))
theorem Km:∀{xs:List V}{us:List Ap},xs.length=us.length->(∀(i:Nat) x u,xs[i]?=some x->us[i]?=some u->RelV x u)->Vals xs us
 | [],[],_,_=>.nil
 | [],_::_,h,_=>by cases h
 | _::_,[],h,_=>by cases h
 | x::xs,u::us,h,f=>.cons (f 0 x u rfl rfl) (Km (by simpa using h) fun i y v h1 h2=>f (i+1) y v h1 h2)
theorem aaz:AL<=2^24:=by decide
noncomputable def adq (a b:Option HO)(H:Hp)(Q:VK):Prop:=match a,b with
 | some (.lst xs),some (.lst zs)=>xs.length+zs.length<=AL/\∀p,H p=none->Q (.ref p) (upd H p (.lst (xs++zs)))
 | _,_=>False
noncomputable def KH:R2:=fun x y H Q=>match x,y with
 | .int i,.int j=>Q (.int (i+j)) H
 | .ref p,.ref q=>adq (H p) (H q) H Q
 | _,_=>False
theorem Wd (i j:Int)(H:Hp)(Q:VK):KH (.int i) (.int j) H Q=Q (.int (i+j)) H:=rfl
theorem Wc (p q:Addr)(H:Hp)(Q:VK):KH (.ref p) (.ref q) H Q=adq (H p) (H q) H Q:=rfl
theorem aaU (xs zs:List V)(H:Hp)(Q:VK):adq (some (.lst xs)) (some (.lst zs)) H Q=(xs.length+zs.length<=AL/\∀p,H p=none->Q (.ref p) (upd H p (.lst (xs++zs)))):=rfl
theorem bH:OpR X (Ev .Add) KH:=by
 intro pins s σ H x y v u Q I rx ry h;unfold KH at h;split at h
 ·exact aal pins s σ H _ _ v u Q I rx ry ⟨_,_,rfl,rfl,h⟩
 ·rename_i p q;unfold adq at h;split at h
  ·rename_i xs zs e1 e2;exact aak pins s σ H _ _ v u Q I rx ry ⟨p,q,xs,zs,rfl,rfl,e1,e2,h.1,h.2⟩
  exact h.elim
 exact h.elim
noncomputable def eqL:List V->List V->Bool
 | [],[]=>true
 | x::xs,y::ys=>eqV x y&&eqL xs ys
 | _,_=>false
noncomputable def abB (a b:Option HO)(H:Hp)(Q:VK):Prop:=match a,b with
 | some (.lst xs),some (.lst zs)=>xs.all iJ=true/\zs.all iJ=true/\Q (.bl (!eqL xs zs)) H
 | _,_=>False
noncomputable def Zy:R2:=fun x y H Q=>match x,y with
 | .ref p,.ref q=>abB (H p) (H q) H Q
 | x,y=>rNe x y H Q
theorem Zx (i j:Int)(H:Hp)(Q:VK):Zy (.int i) (.int j) H Q=rNe (.int i) (.int j) H Q:=rfl
theorem Mi:∀(xs zs:List V),xs.length=zs.length->((BO xs.length).all fun j=>match xs[j]?,zs[j]? with|some a,some b=>eqV a b|_,_=>true)=eqL xs zs
 | [],[],_=>rfl
 | [],_::_,h=>by cases h
 | _::_,[],h=>by cases h
 | x::xs,z::zs,h=>by
  have ih:=Mi xs zs (by simpa using h);rw[Co,List.range_succ_eq_map,all_cons,all_map];show(eqV x z&&_)=(eqV x z&&eqL xs zs);rw[<- ih];rfl
theorem Mh:∀(xs zs:List V),xs.length≠zs.length->eqL xs zs=false
 | [],[],h=>absurd rfl h
 | [],_::_,_=>rfl
 | _::_,[],_=>rfl
 | x::xs,z::zs,h=>by
  show(eqV x z&&eqL xs zs)=false;rw[Mh xs zs (by simpa using h),F7]
theorem pD (hu:X.A.units<FU):OpR X (CH .NotEq) Zy:=by
 intro pins s σ H x y v u Q I rx ry h;unfold Zy at h;split at h
 ·rename_i p q;unfold abB at h;split at h
  ·rename_i xs zs e1 e2;obtain⟨f1,f2,q⟩:=h;cases rx;cases ry;obtain⟨its1,r1,pl1,hz1⟩:=I.list (SqL.of e1);obtain⟨its2,r2,pl2,hz2⟩:=I.list (SqL.of e2);have l1:=r1.length;have l2:=r2.length;by_cases hl:xs.length=zs.length
   ·refine SeqAt.RcNeAt.lists (e:=fun j=>match xs[j]?,zs[j]? with|some a,some b=>eqV a b|_,_=>true) pl1.isList pl2.isList (by simp only[AX];omega) hu (fun j h1 h2=>?_) X.prog X.w X.xe (EP X pins σ Q) ?_
    ·have j1:j<xs.length:=by simp only[AX] at h1;omega
     have j2:j<zs.length:=ω;have g1:xs[j]?=some xs[j]:=AF j1;have g2:zs[j]?=some zs[j]:=AF j2;obtain⟨u1,hu1,ru1⟩:=r1.get g1;obtain⟨u2,hu2,ru2⟩:=r2.get g2;have k1:its1.toArray[j]=u1:=by
      have:=AO.mp hu1;obtain⟨_,z⟩:=this;simpa using z
     have k2:its2.toArray[j]=u2:=by
      have:=AO.mp hu2;obtain⟨_,z⟩:=this;simpa using z
     rw[k1,k2,g1,g2];exact U3 ru1 ru2 (all_eq_true.mp f1 _ (G1 j1)) (all_eq_true.mp f2 _ (G1 j2))
    rw[show its1.toArray.size=xs.length by simp only[AX];omega,Mi xs zs hl];exact⟨.bl _,H,I,rfl,q⟩
   rw[Mh xs zs hl] at q;refine SeqAt.RcNeAt.lists_lengths pl1.isList pl2.isList (by simp only[AX,bne_iff_ne,ne_eq];omega) hu X.prog X.w X.xe (EP X pins σ Q) ⟨.bl _,H,I,rfl,q⟩
  exact h.elim
 exact abv pins s σ H _ _ v u Q I rx ry h
noncomputable def inq (neg:Bool)(o:Option HO)(x:V)(H:Hp)(Q:VK):Prop:=match o with
 | some (.lst xs)=>iJ x=true/\xs.all iJ=true/\Q (.bl (if neg then !inV x xs else inV x xs)) H
 | some (.tup xs)=>iJ x=true/\xs.all iJ=true/\Q (.bl (if neg then !inV x xs else inV x xs)) H
 | _=>False
noncomputable def RD (neg:Bool):R2:=fun x y H Q=>match y with
 | .ref p=>inq neg (H p) x H Q
 | _=>False
theorem Zz (neg:Bool)(x:V)(p:Addr)(H:Hp)(Q:VK):RD neg x (.ref p) H Q=inq neg (H p) x H Q:=rfl
theorem abH (neg:Bool)(x:V)(xs:List V)(H:Hp)(Q:VK):inq neg (some (.lst xs)) x H Q=(iJ x=true/\xs.all iJ=true/\Q (.bl (if neg then !inV x xs else inV x xs)) H):=rfl
theorem abG (neg:Bool)(x:V)(xs:List V)(H:Hp)(Q:VK):inq neg (some (.tup xs)) x H Q=(iJ x=true/\xs.all iJ=true/\Q (.bl (if neg then !inV x xs else inV x xs)) H):=rfl
theorem Um {neg:Bool}{o:Option HO}{x:V}{H:Hp}{Q:VK}{p:Addr}{K:AD}(e:H p=o)(h:inq neg o x H Q):rIn K neg x (.ref p) H Q:=by
 unfold inq at h;split at h
 ·rename_i xs;exact⟨p,xs,rfl,.inl (SqL.of e),h.1,h.2.1,h.2.2⟩
 ·rename_i xs;exact⟨p,xs,rfl,.inr (SqT.of e),h.1,h.2.1,h.2.2⟩
 exact h.elim
theorem aaj:OpR X (CH .In) (RD false):=by
 intro pins s σ H x y v u Q I rx ry h;unfold RD at h;split at h
 ·exact NQ pins s σ H _ _ v u Q I rx ry (Um rfl h)
 exact h.elim
theorem Bc:OpR X (CH .NotIn) (RD true):=by
 intro pins s σ H x y v u Q I rx ry h;unfold RD at h;split at h
 ·exact CG pins s σ H _ _ v u Q I rx ry (Um rfl h)
 exact h.elim
end
structure b7 (H:Hp)(p:Addr)(B:Int):Prop where
 ex:∃a b c:Int,H p=some (.lst [.int a,.int b,.int c])/\0<=a/\0<=b/\b<2147483629/\0<=c/\c<=B
theorem b7.same {H H':Hp}{p:Addr}{B:Int}(h:b7 H p B)(s:Same H H'):b7 H' p B:=by
 obtain⟨a,b,c,e,r⟩:=h;exact⟨a,b,c,s _ _ e,r⟩
theorem b7.le {H:Hp}{p:Addr}{B B':Int}(h:b7 H p B)(l:B<=B'):b7 H p B':=by
 obtain⟨a,b,c,e,r1,r2,r3,r4,r5⟩:=h;exact⟨a,b,c,e,r1,r2,r3,r4,ω⟩
theorem b7.ne {H:Hp}{p q:Addr}{B:Int}(h:b7 H p B)(n:H q=none):q≠p:=by
 obtain⟨a,b,c,e,_⟩:=h;exact(aD e n).symm
noncomputable def Q8 (K:AD):Sp:=fun vs H Q _=>∃(a:Addr)(ns:List Int)(k:Int),vs=[.ref a,.int k]/\SqL K H a (ns.map V.int)/\0<=k/\∀v:Int,Q (.int v) H
noncomputable def QZ (K:AD):Sp:=fun vs H Q _=>∃(a:Addr)(ns:List Int)(k:Int),vs=[.ref a,.int k]/\SqL K H a (ns.map V.int)/\0<=k/\k<=100/\∀p H',H p=none->Same H H'->b7 H' p 0->Q (.ref p) H'
noncomputable def mX (n:Nat):Sp:=fun vs H Q _=>∃(p:Addr)(m B:Int),vs=[.ref p,.int m]/\b7 H p B/\B+(n:Int)<=1000100/\0<m/\m<2^70/\1<=n/\(1000000<=m->2<=n) /\
 ∀r H',0<=r->r<m->cB p H H'->b7 H' p (B+n)->Q (.int r) H'
theorem ZV (c:Int):∃v:Int,atI [V.int 2147483587,V.int 2147483579,V.int 2147483563,V.int 2147483549,V.int 2147483543,V.int 2147483497,V.int 2147483489] (c%7)=some (.int v)/\0<v:=by
 have h1:0<=c%7:=FH _ δ;have h2:c%7<7:=EH _ δ;generalize c%7=d at h1 h2;have h3:d=0\/d=1\/d=2\/d=3\/d=4\/d=5\/d=6:=ω;rcases h3 with rfl|rfl|rfl|rfl|rfl|rfl|rfl
 ·exact⟨_,dI (j:=0) rfl,δ⟩
 ·exact⟨_,dI (j:=1) rfl,δ⟩
 ·exact⟨_,dI (j:=2) rfl,δ⟩
 ·exact⟨_,dI (j:=3) rfl,δ⟩
 ·exact⟨_,dI (j:=4) rfl,δ⟩
 ·exact⟨_,dI (j:=5) rfl,δ⟩
 exact⟨_,dI (j:=6) rfl,δ⟩
theorem Ef (X k:Nat):((X:Int)/2^k)%2=if X.testBit k then 1 else 0:=by
 have e:(X:Int)/2^k%2=((X/2^k%2:Nat):Int):=by
  rw[Int.natCast_emod,Int.natCast_ediv,FI];rfl
 rw[e,Nat.testBit_eq_decide_div_mod_eq];have:=mod_lt (X/2^k) (show 0<2 by decide);by_cases h:X/2^k%2=1
 ·simp [h]
 have h0:X/2^k%2=0:=ω;simp [h0]
theorem YD (y:Int):AI.bitAnd y 1=y%2:=by
 have:=PySem.W.kbt_mask y 1;simpa using this
theorem VP (X k:Nat):AI.bitAnd ((X:Int)/2^k) 1=if X.testBit k then 1 else 0:=by
 rw[YD,Ef]
theorem Ka (a b:Nat):AI.bitAnd (a:Int) (b:Int)=((a &&& b:Nat):Int):=by
 unfold AI.bitAnd;simp
inductive It1 where
 | one (a:Int)
 | rng (a b:Int)
 | bits (m v:Nat)
section
variable {mp:List (Option Nat)}{g:TG}{tc:TT}{te:TE}{σ:St}{H:Hp}{Q:VK}{R:It->Hp->Prop}{K:AD}
theorem u5 {lo:Int}{n:Nat}(hR:R=Kl mp g tc te σ Q)(hz:n<=AL)(Pv:Nat->List V->St->Hp->Prop)(h0:Pv 0 [] (jU mp σ) H)(hl:∀i acc τ H,Pv i acc τ H->acc.length<=i)
  (hs:∀i acc τ H,i<n->Pv i acc τ H->g (.int (lo+i)) τ H fun τ1 H4=>tc τ1 H4 fun b H5=>if b=true then te τ1 H5 fun v H6=>Pv (i+1) (acc++[v]) τ1 H6 else Pv (i+1) acc τ1 H5)
  (hd:∀acc τ H d,Pv n acc τ H->H d=none->Q (.ref d) (upd H d (.lst acc))):R (Itr lo n) H:=by
 refine DW hR n hz Pv h0 hl (fun i acc τ H hi _=>hi) (fun acc τ H _=>AZ n) (fun i acc τ H x H3 hi p y=>?_) hd;obtain⟨rfl,rfl⟩:=y;exact hs i acc τ _ hi p
theorem u9 {a:Addr}{xs:List V}(hR:R=Kl mp g tc te σ Q)(hz:xs.length<=AL)(Pv:Nat->List V->St->Hp->Prop)(h0:Pv 0 [] (jU mp σ) H)(hl:∀i acc τ H,Pv i acc τ H->acc.length<=i)
  (hq:∀i acc τ H,Pv i acc τ H->SqL K H a xs)
  (hs:∀i x acc τ H,xs[i]?=some x->Pv i acc τ H->g x τ H fun τ1 H4=>tc τ1 H4 fun b H5=>if b=true then te τ1 H5 fun v H6=>Pv (i+1) (acc++[v]) τ1 H6 else Pv (i+1) acc τ1 H5)
  (hd:∀acc τ H d,Pv xs.length acc τ H->H d=none->Q (.ref d) (upd H d (.lst acc))):R (Itl K a) H:=by
 refine DW hR xs.length hz Pv h0 hl (fun i acc τ H hi p=>⟨xs,xs[i],hq i acc τ H p,AF hi⟩) (fun acc τ H p=>⟨xs,hq _ acc τ H p,AZ _⟩) (fun i acc τ H x H3 hi p y=>?_) hd;obtain⟨rfl,hx⟩:=y;exact hs i x acc τ _ (hx xs (hq i acc τ _ p)) p
end
noncomputable def aas (l:List Nat):List V:=l.map fun k=>V.int (k:Nat)
theorem Yc (k:Nat)(l:List Nat):inV (.int (k:Nat)) (aas l)=l.contains k:=by
 unfold inV aas;rw[List.any_map]
 induction l with
 | nil=>rfl
 | cons a r ih=>
  rw[HM,List.contains_cons,ih];congr 1;show((a:Int) == (k:Int))=(k == a);rw[Hb,beq_iff_eq,beq_iff_eq];omega
section
variable {X:Cx}{pos:Pos}
noncomputable def Qu (i j k:Nat)(ta:TA):TS:=fun D σ H=>ta σ H fun vs H1=>∃u v w,vs=[u,v,w]/\D.nx (((σ.set i (some u)).set j (some v)).set k (some w)) H1
theorem Wz {i j k:Nat}{x y z:Str}{a b c:Expr}{ta:TA}{px py pz pt:Pos}{kt k2 pt2}(hc:X.calm=true)(hN:X.N.Nodup)(hi:X.N[i]?=some x)(hj:X.N[j]?=some y)(hk:X.N[k]?=some z)(hij:i≠j)(hik:i≠k)(hjk:j≠k)
  (hx:X.env.scope.names.lookup x=some .local) (hy:X.env.scope.names.lookup y=some .local) (hz:X.env.scope.names.lookup z=some .local) (ha:PA X [a,b,c] ta)
  (hw:GO [.Tuple [.Name x px,.Name y py,.Name z pz] kt pt] (.Tuple [a,b,c] k2 pt2) X.env=pure (some [x,y,z]))
  (hs:EB [.Tuple [.Name x px,.Name y py,.Name z pz] kt pt] (.Tuple [a,b,c] k2 pt2) pos.line X.env=pure false:=by rfl) :
  PS X (.Assign [.Tuple [.Name x px,.Name y py,.Name z pz] kt pt] (.Tuple [a,b,c] k2 pt2) pos) (Qu i j k ta):=by
 intro pins s σ H D I h;rw[JI];refine An (FB ?_);rw[hs];refine An (Au ?_);rw[if_neg δ];refine An (Tuple_ (thA (ha _ pins s σ H _ I h) fun us s1 vs H1 I1 r1 q1=>?_));obtain⟨u,v,w,e1,q1⟩:=q1;subst e1;obtain⟨u1,u2,u3,rfl,ru,rv,rw'⟩:∃u1 u2 u3,us=[u1,u2,u3]/\RelV u u1/\RelV v u2/\RelV w u3:=by
  cases r1 with
  | cons p q=>
   cases q with
   | cons p' q'=>
    cases q' with
    | cons p'' q''=>
     cases q'';exact⟨_,_,_,rfl,p,p',p''⟩
 refine BF ?_ (by show 3<=AL;decide);have I2:Inv X pins σ H1 { s1 with heap:=s1.heap.push { cls:=.type "tuple",data:=.seq [u1,u2,u3].toArray } }:=I1.kept (t':=s1.toks) fun b o e=>AA _ e;rw[hw];refine An (Au ?_);show AG (AW X.prog X.w) X.A (do rule "assign.swapped-stores";let items <- unpackItems (.ref s1.heap.objs.size) 3 none;IE [fun v=>GW X.env z v,fun v=>GW X.env y v,fun v=>GW X.env x v] items.reverse;pure Flow.next) _ _ _;refine An (DS (An (unpackItems_tuple (items:=#[u1,u2,u3]) (I.ok.hd hc) (JA.new s1.heap _) fun h' hx'=>?_)));have I3:=I2.kept (h':=h') (t':=s1.toks) fun b o e=>hx' b o (B2 (A4 e)) e;show AG _ _ (IE [fun v=>GW X.env z v,fun v=>GW X.env y v,fun v=>GW X.env x v] [u3,u2,u1] >>= fun _=>pure Flow.next) _ _ _;refine An (Fc (HK (jV I3 hN hk (.inl hz) rw' (fun s2 I4=>?_) (.inr hz))));refine Fc (HK (jV I4 hN hj (.inl hy) rv (fun s3 I5=>?_) (.inr hy)));refine Fc (HK (jV I5 hN hi (.inl hx) ru (fun s4 I6=>?_) (.inr hx)));refine assignInOrder_nil (Au ⟨_,H1,?_,q1⟩);have e:((σ.set k (some w)).set j (some v)).set i (some u)=((σ.set i (some u)).set j (some v)).set k (some w):=by
  rw[set_comm (some v) (some u) (BA hij),set_comm (some w) (some u) (BA hik),set_comm (some w) (some v) (BA hjk)]
 rw[<- e];exact I6
theorem Wg {i j k:Nat}{x y z:Str}{a b c:Expr}{ta:TA}{px py pz pt:Pos}{kt k2 pt2}(hc:X.calm=true)(hN:X.N.Nodup)(hi:X.N[i]?=some x)(hj:X.N[j]?=some y)(hk:X.N[k]?=some z)(hij:i≠j)(hik:i≠k)(hjk:j≠k)
  (hx:X.env.scope.names.lookup x=some .local) (hy:X.env.scope.names.lookup y=some .local) (hz:X.env.scope.names.lookup z=some .local) (ha:QA X [a,b,c] ta)
  (hw:GO [.Tuple [.Name x px,.Name y py,.Name z pz] kt pt] (.Tuple [a,b,c] k2 pt2) X.env=pure (some [x,y,z]))
  (hs:EB [.Tuple [.Name x px,.Name y py,.Name z pz] kt pt] (.Tuple [a,b,c] k2 pt2) pos.line X.env=pure false:=by rfl) :
  QS X (.Assign [.Tuple [.Name x px,.Name y py,.Name z pz] kt pt] (.Tuple [a,b,c] k2 pt2) pos) (Qu i j k ta):=⟨Wz hc hN hi hj hk hij hik hjk hx hy hz ha.h hw hs⟩
end
theorem Yj (g:TG)(gs:TGs)(x:V)(xs:List V)(σ:St)(H:Hp)(Q:St->Hp->Prop):Uv g gs (x::xs) σ H Q=g x σ H fun σ1 H1=>gs xs σ1 H1 Q:=
 propext ⟨fun⟨_,_,e,h⟩=>by cases e;exact h,fun h=>⟨x,xs,rfl,h⟩⟩
theorem aaL (σ:St)(H:Hp)(Q:St->Hp->Prop):aaM [] σ H Q=Q σ H:=propext ⟨fun h=>h.2,fun h=>⟨rfl,h⟩⟩
theorem UW {a b:Int}{P:Int->Int->Prop}:(∃v w,(a=v/\b=w)/\P v w)=P a b:=propext ⟨fun⟨_,_,⟨h1,h2⟩,h⟩=>h1 ▸ h2 ▸ h,fun h=>⟨a,b,⟨rfl,rfl⟩,h⟩⟩
theorem Ym {a b c:V}{P:V->V->V->Prop}:(∃u v w,(a=u/\b=v/\c=w)/\P u v w)=P a b c:=propext ⟨fun⟨_,_,_,⟨h1,h2,h3⟩,h⟩=>h1 ▸ h2 ▸ h3 ▸ h,fun h=>⟨a,b,c,⟨rfl,rfl,rfl⟩,h⟩⟩
theorem gM {tc:TT}{ts us:TS}{D:Ends}{σ:St}{H:Hp}(h:∀kt ke,kt=ts D->ke=us D->tc σ H fun b H1=>if b=true then kt σ H1 else ke σ H1):Ij tc ts us D σ H:=h _ _ rfl rfl
theorem V2 {p:Addr}{H H':Hp}(h:cB p H H')(e:H p=none):Same H H':=fun b o hb=>h b o (aD hb e) hb
section
variable {X:Cx}{e o:Expr}{te to:TE}{pos:Pos}
noncomputable def apq (ob:Option HO)(l:Addr)(y:V)(H:Hp)(Q:VK):Prop:=match ob with
 | some (.lst xs)=>xs.length<AL/\Q .non (upd H l (.lst (xs++[y])))
 | _=>False
noncomputable def isq (ob:Option HO):Prop:=match ob with
 | some (.lst _)=>True
 | _=>False
theorem Dp (xs:List V):isq (some (.lst xs))=True:=rfl
theorem MF (xs:List V)(l:Addr)(y:V)(H:Hp)(Q:VK):apq (some (.lst xs)) l y H Q=(xs.length<AL/\Q .non (upd H l (.lst (xs++[y])))):=rfl
noncomputable def YC (x:V)(te:TE)(σ:St)(H1:Hp)(Q:VK):Prop:=match x with
 | .ref l=>isq (H1 l)/\te σ H1 fun y H2=>apq (H2 l) l y H2 Q
 | _=>False
noncomputable def wV (to te:TE):TE:=fun σ H Q=>to σ H fun x H1=>YC x te σ H1 Q
theorem QL (to te:TE)(σ:St)(H:Hp)(Q:VK):wV to te σ H Q=to σ H fun x H1=>YC x te σ H1 Q:=rfl
theorem Hw (l:Addr)(te:TE)(σ:St)(H1:Hp)(Q:VK):YC (.ref l) te σ H1 Q=(isq (H1 l)/\te σ H1 fun y H2=>apq (H2 l) l y H2 Q):=rfl
theorem Xm {apos cpos:Pos}(ho:PE X o to)(he:PE X e te)
  (hbase:C1 o "append" X.env (eval o X.env)=eval o X.env:=by rfl)
  (hfew:((CU cpos (AJ [e] X.env)).all (fun x=>!x.1)&&(F9 cpos (EX [] X.env)).all (fun x=>x.1.isSome)
   && decide ([e].length+([]:List D6).length+(if ([]:List D6).isEmpty then 0 else 1)<30))=true:=by rfl)
  (hline:(apos.endLine == cpos.line)=true:=by rfl) (hs:AJ [e] X.env=(false,eval e X.env)::AJ [] X.env:=by rfl) (hplain:(CU cpos (AJ [] X.env)).any (·.1)=false:=by rfl) :
  PE X (.Call (.Attribute o "append" apos) [e] [] cpos) (wV to te):=by
 intro pins s σ H Q I h;refine Fk hbase hfew hline rfl (thE (ho pins s σ H _ I h) fun v s1 x H1 I1 r1 q=>?_);cases x with
 | ref l=>
  obtain⟨q1,q2⟩:=q;cases el:H1 l with
  | none=>rw[el] at q1;exact q1.elim
  | some ob=>
   cases ob with
   | lst xs=>
    obtain⟨h1,h2⟩:=qT (T := "list") I1 r1 (.inl ⟨rfl,xs,SqL.of el⟩);refine⟨"list","list.append",D7,PySem.F.slot_list_append,PySem.F.type_list_append,h1,h2,?_⟩;rw[hs];refine CS (by show(false||(CU cpos (AJ [] X.env)).any (·.1))=false;rw[hplain] <;> rfl) (D3 ?_)
    refine CL (thE (he pins s1 σ H1 _ I1 q2) fun u s2 y H2 I2 r2 q3=>CC ?_);replace q3:apq (H2 l) l y H2 Q:=q3;cases el2:H2 l with
    | none=>rw[el2] at q3;exact q3.elim
    | some ob2=>
     cases ob2 with
     | lst ys=>
      rw[el2] at q3;exact Oe pins s2 σ H2 (.ref l) [y] v [u] Q I2 r1 (.cons r2 .nil) ⟨l,ys,y,rfl,rfl,el2,q3.1,q3.2⟩
     | _=>rw[el2] at q3;exact q3.elim
   | _=>rw[el] at q1;exact q1.elim
 | _=>exact q.elim
theorem eV {apos cpos:Pos}(ho:QE X o to)(he:QE X e te)
  (hbase:C1 o "append" X.env (eval o X.env)=eval o X.env:=by rfl)
  (hfew:((CU cpos (AJ [e] X.env)).all (fun x=>!x.1)&&(F9 cpos (EX [] X.env)).all (fun x=>x.1.isSome)
   && decide ([e].length+([]:List D6).length+(if ([]:List D6).isEmpty then 0 else 1)<30))=true:=by rfl)
  (hline:(apos.endLine == cpos.line)=true:=by rfl) (hs:AJ [e] X.env=(false,eval e X.env)::AJ [] X.env:=by rfl) (hplain:(CU cpos (AJ [] X.env)).any (·.1)=false:=by rfl) :
  QE X (.Call (.Attribute o "append" apos) [e] [] cpos) (wV to te):=⟨Xm ho.h he.h hbase hfew hline hs hplain⟩
noncomputable def slq (ob:Option HO)(lo hi:Option Int)(H:Hp)(Q:VK):Prop:=match ob with
 | some (.lst xs)=>∀p,H p=none->Q (.ref p) (upd H p (.lst (jz xs lo hi)))
 | some (.tup xs)=>¬(HT.sIx xs.length 0 lo=0/\HT.sIx xs.length xs.length hi=xs.length)/\∀p,H p=none->Q (.ref p) (upd H p (.tup (jz xs lo hi)))
 | _=>False
noncomputable def Zw:V->Option Int->Option Int->Hp->VK->Prop:=fun x lo hi H Q=>match x with
 | .ref p=>slq (H p) lo hi H Q
 | _=>False
theorem Ro (p:Addr)(lo hi:Option Int)(H:Hp)(Q:VK):Zw (.ref p) lo hi H Q=slq (H p) lo hi H Q:=rfl
theorem VJ (xs:List V)(lo hi:Option Int)(H:Hp)(Q:VK):slq (some (.lst xs)) lo hi H Q=∀p,H p=none->Q (.ref p) (upd H p (.lst (jz xs lo hi))):=rfl
theorem Rc:SlR X Zw:=by
 intro pins s σ H x v vl vu lo hi sl Q I rx hs pl pu h;unfold Zw at h;split at h
 ·rename_i p;unfold slq at h;split at h
  ·rename_i xs e;exact VN pins s σ H _ v vl vu lo hi sl Q I rx hs pl pu ⟨p,xs,rfl,SqL.of e,h⟩
  ·rename_i xs e;exact Zm pins s σ H _ v vl vu lo hi sl Q I rx hs pl pu ⟨p,xs,rfl,SqT.of e,h.1,h.2⟩
  exact h.elim
 exact h.elim
structure QO (X:Cx)(e:Option Expr)(t:TO):Prop where
 h:PO X e t
theorem sy:QO X none BW:=⟨WR⟩
theorem su (h:QE X e te):QO X (some e) (Qt te):=⟨WQ h.h⟩
theorem pB {r:V->Option Int->Option Int->Hp->VK->Prop}{lo hi:Option Expr}{tl th:TO}{p2:Pos}(hr:SlR X r)(he:QE X e te)(hl:QO X lo tl)(hu:QO X hi th):QE X (.Subscript e (.Slice lo hi none p2) pos) (tSl r te tl th):=⟨R9 hr he.h hl.h hu.h⟩
noncomputable def rpq (ob:Option HO)(k:Int)(H:Hp)(Q:VK):Prop:=match ob with
 | some (.lst xs)=>-(2^63)<=k/\k<2^63/\xs.length*k.toNat<=AL/\∀p,H p=none->Q (.ref p) (upd H p (.lst (B8 k.toNat xs).flatten))
 | _=>False
noncomputable def KD:R2:=fun x y H Q=>match x,y with
 | .ref p,.int k=>rpq (H p) k H Q
 | x,y=>rI PN (fun i j=>.int (i*j)) x y H Q
theorem V4 (p:Addr)(k:Int)(H:Hp)(Q:VK):KD (.ref p) (.int k) H Q=rpq (H p) k H Q:=rfl
theorem V5 (i j:Int)(H:Hp)(Q:VK):KD (.int i) (.int j) H Q=rI PN (fun i j=>.int (i*j)) (.int i) (.int j) H Q:=rfl
theorem V3 (xs:List V)(k:Int)(H:Hp)(Q:VK):rpq (some (.lst xs)) k H Q=(-(2^63)<=k/\k<2^63/\xs.length*k.toNat<=AL/\∀p,H p=none->Q (.ref p) (upd H p (.lst (B8 k.toNat xs).flatten))):=rfl
theorem eG:OpR X (Ev .Mult) KD:=by
 intro pins s σ H x y v u Q I rx ry h;unfold KD at h;split at h
 ·rename_i p k;unfold rpq at h;split at h
  ·rename_i xs e;exact aaf pins s σ H _ _ v u Q I rx ry ⟨p,k,xs,rfl,rfl,e,h.1,h.2.1,h.2.2.1,h.2.2.2⟩
  exact h.elim
 exact aah pins s σ H _ _ v u Q I rx ry h
noncomputable def eqo (ob:Option HO)(H:Hp)(Q:VK):Prop:=match ob with
 | some (.lst _)=>Q (.bl false) H
 | some (.tup _)=>Q (.bl false) H
 | _=>False
noncomputable def RG:R2:=fun x y H Q=>match x,y with
 | .ref p,.str _=>eqo (H p) H Q
 | x,y=>rEq x y H Q
theorem V9 (i j:Int)(H:Hp)(Q:VK):RG (.int i) (.int j) H Q=rEq (.int i) (.int j) H Q:=rfl
theorem V8 (i j:Str)(H:Hp)(Q:VK):RG (.str i) (.str j) H Q=rEq (.str i) (.str j) H Q:=rfl
theorem cD (hu:X.A.units<FU):OpR X (CH .Eq) RG:=by
 intro pins s σ H x y v u Q I rx ry h;unfold RG at h;split at h
 ·rename_i p z;cases rx;obtain⟨t,rfl⟩:=ry;unfold eqo at h;split at h
  ·rename_i xs e;obtain⟨its,r,pl,hz⟩:=I.list (SqL.of e);exact SeqAt.RcAt.list_str z t pl.isList hu X.prog X.w X.xe (EP X pins σ Q) ⟨.bl false,H,I,rfl,h⟩
  ·rename_i xs e;obtain⟨its,r,pl,hz⟩:=I.tuple (SqT.of e);exact SeqAt.RcAt.tuple_str z t pl hu X.prog X.w X.xe (EP X pins σ Q) ⟨.bl false,H,I,rfl,h⟩
  exact h.elim
 exact abx pins s σ H _ _ v u Q I rx ry h
theorem sJ {x:Str}{v:V}{u:Ap}(hg:Gl X x)(hm:X.mg x=some u)(r:RelV v u)(b:Bn x):QE X (.Name x pos) (tC v):=⟨Xa hg hm r b.hd⟩
end
mutual
inductive aG (ok:Addr->Prop)(H:Hp):V->A1->Prop
 | non:aG ok H .non .none
 | bl (b:Bool):aG ok H (.bl b) (.bool b)
 | int (i:Int):aG ok H (.int i) (.int i)
 | str (x:Str):aG ok H (.str x) (.str x)
 | lst {p:Addr} {xs:List V} {ds:List A1}:ok p->H p=some (.lst xs)->xs.length<=1000000->aH ok H xs ds->aG ok H (.ref p) (.list ds)
 | tup {p:Addr} {xs:List V} {ds:List A1}:ok p->H p=some (.tup xs)->xs.length<=1000000->aH ok H xs ds->aG ok H (.ref p) (.tuple ds)
inductive aH (ok:Addr->Prop)(H:Hp):List V->List A1->Prop
 | nil:aH ok H [] []
 | cons {x:V} {d:A1} {xs:List V} {ds:List A1}:aG ok H x d->aH ok H xs ds->aH ok H (x::xs) (d::ds)
end
mutual
theorem aG.keep {ok ok':Addr->Prop}{H H':Hp}(k:∀a o,ok a->H a=some o->ok' a/\H' a=some o):∀{v:V}{d:A1},aG ok H v d->aG ok' H' v d
 | _,_,.non=>.non
 | _,_,.bl b=>.bl b
 | _,_,.int i=>.int i
 | _,_,.str x=>.str x
 | _,_,.lst o e z t=>.lst (k _ _ o e).1 (k _ _ o e).2 z (aH.keep k t)
 | _,_,.tup o e z t=>.tup (k _ _ o e).1 (k _ _ o e).2 z (aH.keep k t)
theorem aH.keep {ok ok':Addr->Prop}{H H':Hp}(k:∀a o,ok a->H a=some o->ok' a/\H' a=some o):∀{vs:List V}{ds:List A1},aH ok H vs ds->aH ok' H' vs ds
 | _,_,.nil=>.nil
 | _,_,.cons t r=>.cons (aG.keep k t) (aH.keep k r)
end
theorem aG.same {ok:Addr->Prop}{H H':Hp}{v:V}{d:A1}(t:aG ok H v d)(s:Same H H'):aG ok H' v d:=t.keep fun a o h e=>⟨h,s a o e⟩
theorem aH.same {ok:Addr->Prop}{H H':Hp}{v:List V}{d:List A1}(t:aH ok H v d)(s:Same H H'):aH ok H' v d:=t.keep fun a o h e=>⟨h,s a o e⟩
theorem aG.Ax {p:Addr}{H H':Hp}{v:V}{d:A1}(t:aG (·≠p) H v d)(s:cB p H H'):aG (·≠p) H' v d:=t.keep fun a o h e=>⟨h,s a o h e⟩
theorem aH.Ax {p:Addr}{H H':Hp}{v:List V}{d:List A1}(t:aH (·≠p) H v d)(s:cB p H H'):aH (·≠p) H' v d:=t.keep fun a o h e=>⟨h,s a o h e⟩
theorem aH.length {ok:Addr->Prop}{H:Hp}:∀{vs:List V}{ds:List A1},aH ok H vs ds->vs.length=ds.length
 | _,_,.nil=>rfl
 | _,_,.cons _ r=>by rw[Co,Co,r.length]
theorem aH.append {ok:Addr->Prop}{H:Hp}:∀{vs ws:List V}{ds es:List A1},aH ok H vs ds->aH ok H ws es->aH ok H (vs++ws) (ds++es)
 | _,_,_,_,.nil,t=>t
 | _,_,_,_,.cons h r,t=>.cons h (r.append t)
theorem aH.get {ok:Addr->Prop}{H:Hp}:∀{vs:List V}{ds:List A1}{i:Nat}{v:V},aH ok H vs ds->vs[i]?=some v->∃d,ds[i]?=some d/\aG ok H v d
 | _,_,0,_,.cons h _,e=>by cases e;exact⟨_,rfl,h⟩
 | _,_,i+1,_,.cons _ r,e=>aH.get r (i:=i) e
theorem aH.take {ok:Addr->Prop}{H:Hp}:∀{vs:List V}{ds:List A1}(n:Nat),aH ok H vs ds->aH ok H (vs.take n) (ds.take n)
 | _,_,0,_=>.nil
 | _,_,_+1,.nil=>.nil
 | _,_,n+1,.cons h r=>.cons h (r.take n)
section
variable {X:Cx}{pins:List (Addr×Obj)}{σ:St}{H:Hp}{s:AB}{ok:Addr->Prop}
mutual
theorem aG.reads (I:Inv X pins σ H s):∀{v:V}{d:A1}{u:Ap},aG ok H v d->RelV v u->∃as,Reads s.heap u d as
 | _,_,_,.non,r=>by cases r;exact⟨_,.none⟩
 | _,_,_,.bl b,r=>by cases r;exact⟨_,.bool b⟩
 | _,_,_,.int i,r=>by obtain⟨t,rfl⟩:=r;exact⟨_,.int i t⟩
 | _,_,_,.str x,r=>by obtain⟨t,rfl⟩:=r;exact⟨_,.str x t⟩
 | _,_,_,.lst o e z t,r=>by
  cases r;obtain⟨its,rv,pl,hz⟩:=I.list (SqL.of e);obtain⟨ob,h1,h2,n,h3⟩:=pl.isList;obtain⟨as,h4⟩:=aH.reads I t rv;exact⟨_,.list h1 h2 h3 (by simpa using h4)⟩
 | _,_,_,.tup o e z t,r=>by
  cases r;obtain⟨its,rv,pl,hz⟩:=I.tuple (SqT.of e);obtain⟨ob,h1,h2,n,h3⟩:=pl;obtain⟨as,h4⟩:=aH.reads I t rv;exact⟨_,.tuple h1 h2 h3 (by simpa using h4)⟩
theorem aH.reads (I:Inv X pins σ H s):∀{vs:List V}{ds:List A1}{us:List Ap},aH ok H vs ds->Vals vs us->∃as,ReadsAll s.heap us ds as
 | _,_,_,.nil,r=>by cases r;exact⟨_,.nil⟩
 | _,_,_,.cons h t,r=>by
  cases r with
  | cons r1 r2=>
   obtain⟨as,h1⟩:=aG.reads I h r1;obtain⟨bs,h2⟩:=aH.reads I t r2;exact⟨_,.cons h1 h2⟩
end
end
mutual
noncomputable def nodes:A1->Nat
 | .list ds=>1+xU ds
 | .tuple ds=>1+xU ds
 | _=>1
noncomputable def xU:List A1->Nat
 | []=>0
 | d::ds=>nodes d+xU ds
end
mutual
noncomputable def smD:A1->Bool
 | .none=>true
 | .bool _=>true
 | .int i=>decide (i.natAbs<2^50\/i.natAbs=10^20\/i.natAbs<2^55)
 | .str x=>decide ((reprText x).length<=50)
 | .list ds=>Rb ds
 | .tuple ds=>Rb ds
 | .dict _=>false
noncomputable def Rb:List A1->Bool
 | []=>true
 | d::ds=>smD d&&Rb ds
end
section
variable {X:Cx}{tg l:Expr}{tl:TE}
noncomputable def itq (K:AD)(ob:Option HO)(a:Addr)(H:Hp)(R:It->Hp->Prop):Prop:=match ob with
 | some (.lst _)=>R (Itl K a) H
 | some (.tup _)=>R (Itt K a) H
 | _=>False
noncomputable def itK (K:AD)(x:V)(H:Hp)(R:It->Hp->Prop):Prop:=match x with
 | .ref a=>itq K (H a) a H R
 | _=>False
noncomputable def Gs (K:AD)(tl:TE):TI:=fun σ H R=>tl σ H fun x H1=>itK K x H1 R
theorem iH (K:AD)(tl:TE)(σ:St)(H:Hp)(R:It->Hp->Prop):Gs K tl σ H R=tl σ H fun x H1=>itK K x H1 R:=rfl
theorem jF (K:AD)(a:Addr)(H:Hp)(R:It->Hp->Prop):itK K (.ref a) H R=itq K (H a) a H R:=rfl
theorem jE (K:AD)(xs:List V)(a:Addr)(H:Hp)(R:It->Hp->Prop):itq K (some (.lst xs)) a H R=R (Itl K a) H:=rfl
theorem WY (hl:PE X l tl):PI X tg l (Gs X.K tl):=by
 intro pins s σ H R I h;refine thn (hl pins s σ H _ I h) fun v s1 ⟨x,H1,I1,r1,q1⟩=>?_;cases x with
 | ref a=>
  replace q1:itq X.K (H1 a) a H1 R:=q1;cases r1;unfold itq at q1;split at q1
  ·rename_i xs e;obtain⟨its,rv,p,hz⟩:=I1.list (SqL.of e);refine EW p.isList ?_;refine⟨s1.heap.objs.size,[s1.heap.objs.size],_,_,H1,rfl,I1.kept (t':=s1.toks) fun b o e=>AA _ e,M4 a _,⟨_,AQ _ rfl,rfl,rfl⟩,fun b hb=>?_,q1⟩;have e:b=s1.heap.objs.size:=by simpa using hb
   subst e;exact I1.JW (AZ _) (I1.hok.fresh (AZ _))
  ·rename_i xs e;obtain⟨its,rv,p,hz⟩:=I1.tuple (SqT.of e);refine EI (show s1.heap.IsTuple a its.toArray from p) ?_;refine⟨s1.heap.objs.size,[s1.heap.objs.size],_,_,H1,rfl,I1.kept (t':=s1.toks) fun b o e=>AA _ e,HY a _,⟨_,AQ _ rfl,rfl,rfl⟩,fun b hb=>?_,q1⟩;have e:b=s1.heap.objs.size:=by simpa using hb
   subst e;exact I1.JW (AZ _) (I1.hok.fresh (AZ _))
  exact q1.elim
 | _=>exact q1.elim
theorem bY (hl:QE X l tl):QI X tg l (Gs X.K tl):=⟨WY hl.h⟩
end
noncomputable def Gv (ok:Addr->Prop)(t:TE)(σ:St)(H0:Hp)(d:A1):Prop:=∀H,Same H0 H->∀Q:VK,(∀v H',Same H H'->aG ok H' v d->Q v H')->t σ H Q
noncomputable def GvA (ok:Addr->Prop)(t:TA)(σ:St)(H0:Hp)(ds:List A1):Prop:=∀H,Same H0 H->∀Q:List V->Hp->Prop,(∀vs H',Same H H'->aH ok H' vs ds->Q vs H')->t σ H Q
noncomputable def cQ (ok:Addr->Prop)(H0:Hp):Prop:=∀H p,Same H0 H->H p=none->ok p
theorem Te {H0:Hp}{p:Addr}{o:HO}(h:H0 p=some o):cQ (·≠p) H0:=fun H q s hq=>(aD (s _ _ h) hq).symm
theorem cQ.same {ok:Addr->Prop}{H0 H1:Hp}(n:cQ ok H0)(s:Same H0 H1):cQ ok H1:=fun H p s2 h=>n H p (s.trans s2) h
section
variable {ok:Addr->Prop}{σ:St}{H0:Hp}{ta tb:TE}{tr:TA}{d e:A1}{ds es:List A1}
theorem lM {x:Str}:Gv ok (tC (.str x)) σ H0 (.str x):=fun H _ Q q=>q _ _ (Same.refl _) (.str x)
theorem b8:GvA ok BX σ H0 []:=fun H _ Q q=>q _ _ (Same.refl _) .nil
theorem aR (h:Gv ok ta σ H0 d)(h2:GvA ok tr σ H0 ds):GvA ok (oR ta tr) σ H0 (d::ds):=fun H s Q q=>
 h H s _ fun v H1 s1 t1=>h2 H1 (s.trans s1) _ fun vs H2 s2 t2=>q _ _ (s1.trans s2) (.cons (t1.same s2) t2)
theorem gq (n:cQ ok H0)(h:GvA ok tr σ H0 ds)(hl:ds.length<=1000000):Gv ok (Er tr) σ H0 (.tuple ds):=fun H s Q q=>
 h H s _ fun vs H1 s1 t1=>⟨aN (by rw[t1.length];exact hl),fun p hp=>q _ _ (s1.trans (aB hp)) (.tup (n H1 p (s.trans s1) hp) aq (by rw[t1.length];exact hl) (t1.same (aB hp)))⟩
theorem lN (n:cQ ok H0)(h:GvA ok tr σ H0 ds)(hl:ds.length<=1000000):Gv ok (Ih tr) σ H0 (.list ds):=fun H s Q q=>
 h H s _ fun vs H1 s1 t1=>⟨aN (by rw[t1.length];exact hl),fun p hp=>q _ _ (s1.trans (aB hp)) (.lst (n H1 p (s.trans s1) hp) aq (by rw[t1.length];exact hl) (t1.same (aB hp)))⟩
theorem Us {r:R2}{i j k:Int}(h:Gv ok ta σ H0 (.int i))(h2:Gv ok tb σ H0 (.int j))(hr:∀H Q,Q (.int k) H->r (.int i) (.int j) H Q):Gv ok (tOp r ta tb) σ H0 (.int k):=fun H s Q q=>
 h H s _ fun v H1 s1 t1=>by
  cases t1;exact h2 H1 (s.trans s1) _ fun w H2 s2 t2=>by
   cases t2;exact hr _ _ (q _ _ (s1.trans s2) (.int k))
end
noncomputable def JB:A1->Bool
 | .int _=>true
 | _=>false
noncomputable def Q5:Sp:=fun vs H Q _=>∃v ok d,vs=[v]/\aG ok H v d/\Q (.bl (JB d)) H
section
variable {X:Cx}{NX N:List Str}{kX:List (Str×DF)}{mp:List (Option Nat)}{scope:GG}
set_option maxHeartbeats 8000000 in
theorem Wx {tg iter elt:Expr}{ifs:List Expr}{pos pos' pos2:Pos}{wi:TI}{g:TG}{tc:TT}{te:TE}{i:Nat}{x:Str}(N:List Str)(mp:List (Option Nat))(hn:Nm X.N X.env.scope i x)(hNd:X.N.Nodup)(hNX:X.N=NX)(hkX:X.env.scope.names=kX)(S:vO NX kX N mp scope)(hc:X.calm=true)
  (hi:PI X tg iter wi) (hg:∀cl C s H fp,PG (bK X N scope cl C s H fp) tg g) (ht:∀cl C s H fp,PTs (bK X N scope cl C s H fp) ifs tc) (he:∀cl C s H fp,PE (bK X N scope cl C s H fp) elt te)
  (hf:X.fn x=true\/X.env.scope.names.lookup x=some .local:=by exact .inl rfl)
  (hsw:EB [.Name x pos'] (.ListComp elt [⟨tg,iter,ifs,0⟩] scope pos) pos2.line X.env=pure true:=by rfl)
  (h1:(DC [.Name x pos'] X.env).map (·.2)=[FE (.Name x pos') X.env]:=by rfl)
  (hs:∀x,D5 iter X.env x=pure x:=by intro _;rfl):PS X (.Assign [.Name x pos'] (.ListComp elt [⟨tg,iter,ifs,0⟩] scope pos) pos2) (vP (Ah mp wi g tc te) (kI i)):=by
 intro pins s σ H Dn I h;rw[JI];refine An (FB ?_);rw[hsw];refine An (Au ?_);rw[if_pos rfl,h1];replace h:Ah mp wi g tc te σ H (fun v H1=>Dn.nx (σ.set i (some v)) H1):=h;obtain⟨cl,hcl,hsub,hhas⟩:=Ea (env:=X.env) (scope:=scope) fun y hy hf=>I.ok.has y.1 (by
  rcases S.fre y hy hf with q|q
  ·exact .inl (show X.env.scope.names.lookup y.1=_ by rw[hkX];exact q)
  exact .inr (show X.env.scope.names.lookup y.1=_ by rw[hkX];exact q))
 generalize hQ:(fun(v:V)(H1:Hp)=>Dn.nx (σ.set i (some v)) H1)=Q at h
 let QQ:Ap->AB->Prop:=fun _ s'=>∃τ H',Inv X pins τ H' s'/\Dn.nx τ H'
 refine An (An (thn (Q:=QQ) (IG (e:=.ListComp elt [⟨tg,iter,ifs,0⟩] scope pos) (use:=some fun v=>assignAll v [FE (.Name x pos') X.env]) rfl hs hcl S.kind S.locs ?_) fun _ s' ⟨τ,H',I',q'⟩=>Au (Au ⟨τ,H',I',q'⟩)));refine thn (hi pins s σ H _ I h) fun v s1 h1=>thn h1 fun itv s2 h2=>?_;obtain⟨it,fp,tn,J,H2,e,I2,T,st2,f2,W,⟨m0,w0⟩,turn⟩:=h2;subst e;refine BF (Kk S.nocell (by intro y hy;simp at hy) (fun h3 hns hsb=>?_) S.kind);dsimp only at hns hsb |-;have hold:∀b∈fp,b<s2.heap.objs.size:=fun b hb=>by
  obtain⟨o,q,_⟩:=T.obj _ _ st2 b hb;exact A4 q
 generalize hD:s2.heap.objs.size=D at hns hsb;generalize hH2:s2.heap.push { cls:=.type "list",dict:=none,data:=.seq ([]:List Ap).toArray }=P2 at hns hsb |-;have hC:P2.objs.size=D+1:=by rw[<- hH2,B9,hD]
 generalize hC':P2.objs.size=C at hns hsb |-;rw[hC'] at hC;have old:∀b o,s2.heap.get? b=some o->h3.get? b=some o:=fun b o q=>by
  have hb:=A4 q;exact hsb.extBut b o (na1 hb hD hC) (AA _ (hH2 ▸ AA _ q))
 have accD:h3.get? D=some { cls:=.type "list",data:=.seq ([]:List Ap).toArray }:=
  hsb.extBut _ _ (na2 hC) (AA _ (by rw[<- hH2,<- hD];exact AQ _ rfl))
 have hfr:D∉frs X.stack:=fun z=>by
  rcases A5.mp (I2.uq D z) with q|q
  ·exact na0 I2.lt hD q.symm
  exact I2.XF (na4 hD) q
 have I0:Inv (bK X N scope cl C s2 H2 fp) [(D,{ cls:=.type "list",data:=.seq ([]:List Ap).toArray })] (jU mp σ) H2 { s2 with heap:=h3,toks:=s2.toks+([]:List (Str×Ap)).length }:=
  DY (s':={ s2 with heap:=h3,toks:=s2.toks+([]:List (Str×Ap)).length }) hNX hkX S I2 f2 hold (na3 hD hC) hsub hhas rfl rfl ⟨_,hns⟩ old fun p hp=>by
   have ep:=AK.mp hp;subst ep;exact⟨accD,I2.hok.fresh (na4 hD),na2 hC,hfr,fun v z=>by cases z⟩
 have T0:tn 0 h3:=T.keep _ _ _ st2 fun b _ o q=>old b o q;have loop:∀z:AB,z={ s2 with heap:=h3,toks:=s2.toks+([]:List (Str×Ap)).length } ->
   Ff (AW X.prog X.w) X.A (.compLoop (.ListComp elt [⟨tg,iter,ifs,0⟩] scope pos) 0 (.ref it) (.ref D) (G0 scope cl C X.env))
    (compPost (AW X.prog X.w) X.A X.xe (some fun v=>assignAll v [FE (.Name x pos') X.env]) QQ (.ref D) C) z:=by
  rintro z rfl;have stat:∀{H':Hp}{pl:List (Addr×Obj)},(∀b∈fp,H' b=none)->(∀p∈pl,p.1=D)->∀b∈fp,ug (bK X N scope cl C s2 H2 fp) pl H' b:=fun hn hp b hb=>by
   have hb2:=hold b hb;refine⟨hn b hb,na1 hb2 hD hC,(DX hkX S I2 f2 hold (na3 hD hC) hsub hhas).exfs b hb,.inl hb,fun x c q=>(f2 b hb).2.2.2.2.1 x c (hsub x c q),fun p hpp=>?_⟩;have hpD:=hp p (by simpa [bK] using hpp);rw[hpD];exact(na0 hb2 hD).symm
  refine Bs (env:=G0 scope cl C X.env) (fun n z=>∃i acc τ H' its k,Inv (bK X N scope cl C s2 H2 fp) [(D,{ cls:=.type "list",data:=.seq (Hm its) k })] τ H' z/\tn i z.heap/\(∀b∈fp,H' b=none)/\Vals acc its/\acc.length<=AL/\W i n acc τ H')
   ?_ m0 ⟨0,[],_,H2,[],0,I0,T0,fun b hb=>(f2 b hb).1,.nil,EN _,w0⟩
  rintro n s5 ⟨i,acc,τ,H5,its,k,I5,st5,fr5,va,hz,w5⟩;rcases turn i n acc τ H5 w5 with⟨stop,qn⟩|⟨go,hz2,N9,hN9,step⟩
  ·refine thn (T.done (bK X N scope cl C s2 H2 fp) rfl rfl rfl hc i _ s5 τ H5 _ I5 (stat fr5 (by simp)) st5 stop) fun r s6 ⟨hr,I6⟩=>?_;subst hr;obtain⟨m6,hn6,_⟩:=I6.loc;obtain⟨dD,nD,_,_,_⟩:=I6.pin (D,_) (BB _ (AK.mpr rfl));have U:=I6.base;have nC:H5 C=none:=I6.free;have ne:∀b o,s2.heap.get? b=some o->b≠C/\b≠D:=fun b o q=>by
    exact⟨na1 (A4 q) hD hC,na0 (A4 q) hD⟩
   have key:∀h',B5 C s6.heap h'->Inv X pins σ (upd H5 D (.lst acc)) { s6 with heap:=h' }:=fun h' sb=>by
    have keepC:∀b o,b≠C->s6.heap.get? b=some o->h'.get? b=some o:=fun b o hb q=>(sb.2 b hb).trans q;have U':Un (frs X.stack) fp H2 (upd H5 D (.lst acc)) s2.heap h':=by
     refine⟨fun b o q n1 hb hx=>keepC b o (ne b o q).1 (U.keep b o q n1 hb hx),fun b o q n1 hb hx=>?_,fun b o q n1 hx=>?_,fun b o q hx=>?_,fun b xs q=>?_,fun b o xs q=>?_,fun b ps q=>?_⟩
     ·obtain⟨sl,z⟩:=U.slot b o q n1 hb hx;exact⟨sl,keepC b _ (ne b o q).1 z⟩
     ·rw[aJ (ne b o q).2];exact U.free b o q n1 hx
     ·obtain⟨o',z⟩:=U.there b o q hx;exact⟨o',keepC b _ (ne b o q).1 z⟩
     ·have z:=U.tups b xs q;rw[aJ (aD z nD)];exact z
     ·have z:=U.frzs b o xs q;rw[aJ (aD z nD)];exact z
     obtain⟨more,z⟩:=U.tbls b ps q;exact⟨more,by rw[aJ (aD z nD)];exact z⟩
    have hok:HOk X.prog X.w (upd H5 D (.lst acc)) h':=fun b u q=>by
     by_cases hb:b=D
     ·subst hb;rw[aq] at q;cases q;exact⟨hz,its,k,va,keepC _ _ (na2 hC) dD⟩
     rw[aJ hb] at q;refine(I6.hok b u q).stay (fun c v hcc z=>keepC c v ?_ z) (fun c z=>by rw[aJ (aD z nD)];exact z) fun c xs z=>by rw[aJ (aD z nD)];exact z
     rcases hcc with z1|z1
     ·subst z1;exact aD q nC
     exact aD z1 nC
    have I7:Inv X pins σ (upd H5 D (.lst acc)) { s6 with heap:=h' }:=I2.call' (s':={ s6 with heap:=h' }) (ch:=fp) I6.os U' hok I6.bare fun b hb=>by
     obtain⟨_,a2,_,a4,a5,a6⟩:=f2 b hb;exact⟨a4,a2,a5,a6⟩
    exact I7
   have I7:Inv X pins σ (upd H5 D (.lst acc)) s6:=key s6.heap (B5.refl _ _);have lC:X.env.locals≠C:=na1 I2.lt hD hC;have cC:∀y c,X.env.cells.lookup y=some c->c≠C:=fun y c z=>by
    obtain⟨_,o,h1,_⟩:=I2.cell y c z;exact na1 (A4 h1) hD hC
   show AG _ _ (FE (.Name x pos') X.env (.ref D)) _ _ s6;refine wpAny_assign_Name (uo (v:=.ref D) I7 hNd hn.hN hn.hv rfl (fun s7 I8 ⟨a,sa,ha⟩=>?_) hf);have aC:a≠C:=by
    rcases ha with rfl|ha
    ·exact lC
    exact cC _ _ ha
   obtain⟨o6,es6,ep6,g1,g2,g3,g4⟩:=hn6;refine⟨m6,⟨o6,es6,ep6,(sa.2 C (BA aC)).trans g1,g2,g3,g4⟩,fun h' sb=>?_⟩;have q9:=qn D nD;rw[<- hQ] at q9;refine⟨_,_,I8.turned (it:=C) (t':=s7.toks) (fun b o hb q=>(sb.2 b hb).trans q) ?_ (BA lC) (.inr (BG I2.sz (na3 hD hC))) cC (fun p hp=>?_),q9⟩
   ·rw[aJ (BA (na2 hC))];exact nC
   obtain⟨h1,_⟩:=I2.pin p hp;exact na1 (A4 h1) hD hC
  refine thn (T.item (bK X N scope cl C s2 H2 fp) rfl rfl rfl hc i _ s5 τ H5 _ I5 (stat fr5 (by simp)) st5 go) fun r s6 ⟨u,hr,h6⟩=>?_;subst hr;refine thn h6 fun _ s7 ⟨x,H7,I7,r7,y7,st7,fr7⟩=>?_;have I7':=I7.pinned (stat fr7 (by simp)) (T.obj _ _ st7);have no:∀{α:Type}{t:Sem α}{Q1 Q2:α->AB->Prop}{E:Ap->AB->Prop}{z:AB},AG (AW X.prog X.w) X.A t Q1 (fun _ _=>False) z->(∀a z,Q1 a z->Q2 a z)->AG (AW X.prog X.w) X.A t Q2 E z:=
   fun q f=>CA q f fun _ _ z=>z.elim
  refine no (hg cl C s2 H2 fp _ s7 τ H7 x u _ I7' r7 (step x H7 y7)) fun _ s8 ⟨τ1,H8,I8,q8⟩=>?_;refine no (ht cl C s2 H2 fp _ s8 τ1 H8 _ I8 q8) fun ok s9 ⟨H9,I9,q9⟩=>?_;have JJ:∀{H':Hp}{z:AB}{its':List Ap}{k':Nat},Inv (bK X N scope cl C s2 H2 fp) ([(D,{ cls:=.type "list",data:=.seq (Hm its') k' })]++iV fp s7.heap) τ1 H' z ->
    tn (i+1) z.heap/\(∀b∈fp,H' b=none)/\Inv (bK X N scope cl C s2 H2 fp) [(D,{ cls:=.type "list",data:=.seq (Hm its') k' })] τ1 H' z:=fun {H' z its' k'} Iz=>by
   have get:∀b∈fp,∀o,s7.heap.get? b=some o->z.heap.get? b=some o/\H' b=none:=fun b hb o q=>by
    obtain⟨a1,a2,_⟩:=Iz.pin (b,o) (BB _ (BB _ (kj hb q)));exact⟨a1,a2⟩
   refine⟨T.keep _ _ _ st7 fun b hb o q=>(get b hb o q).1,fun b hb=>?_,Iz.lV⟩;obtain⟨o,q,_⟩:=T.obj _ _ st7 b hb;exact(get b hb o q).2
  cases ok with
  | false=>
   rw[if_neg A3] at q9 |-;obtain⟨m',hm,w9⟩:=hN9 _ _ _ q9;obtain⟨a1,a2,a3⟩:=JJ I9;exact⟨m',hm,i+1,acc,τ1,H9,its,k,a3,a1,a2,va,hz,w9⟩
  | true=>
   rw[if_pos rfl] at q9 |-;refine no (he cl C s2 H2 fp _ s9 τ1 H9 _ I9 q9) fun y s10 ⟨v,H10,I10,rv,q10⟩=>?_;obtain⟨m',hm,w10⟩:=hN9 _ _ _ q10;obtain⟨a1,a2,a3⟩:=JJ I10;obtain⟨dD,nD,_,_,_⟩:=a3.pin (D,_) (BB _ (AK.mpr rfl));have hlen:=va.length;refine Ee F.slot_list_append ⟨_,dD,rfl⟩ KU (Kj _ _) (PySem.list_append D its.toArray k y (by rw[AX];omega)) ⟨dD,?_⟩;obtain⟨k',q⟩:∃k',(s10.heap.update D (DU fun a=>a.push y)).get? D=some { cls:=.type "list",data:=.seq (its++[y]).toArray k' }:=by
    have q:=PySem.IsL.update dD (fun a=>a.push y);rw[show its.toArray.push y=(its++[y]).toArray by simp] at q;exact⟨_,q⟩
   have a4:Inv (bK X N scope cl C s2 H2 fp) (iV fp s7.heap) τ1 H10 s10:=I10.lE fun p hp=>I10.pin p (BB _ (BB _ hp));have a5:Inv (bK X N scope cl C s2 H2 fp) (iV fp s7.heap) τ1 H10 { s10 with heap:=s10.heap.update D (DU fun a=>a.push y),toks:=s10.toks }:=
    a4.turned (it:=D) (fun b o hb z=>(DH _ _ (BA hb)).trans z) nD (na2 hC) (.inr (na4 hD))
     (fun x c z=>by
      obtain⟨_,o,h1,_⟩:=I2.cell x c (hsub x c z);exact na0 (A4 h1) hD) fun p hp=>by
      have hb:=(qe (by simpa [bK] using hp)).1;exact na0 (hold _ hb) hD
   obtain⟨b1,b2,b3⟩:=(show tn (i+1) (s10.heap.update D (DU fun a=>a.push y))/\(∀b∈fp,H10 b=none)/\True from
    ⟨T.keep _ _ _ a1 fun b hb o z=>(DH _ _ (na0 (hold b hb) hD).symm).trans z,a2,trivial⟩)
   refine⟨m',hm,i+1,acc++[v],τ1,H10,its++[y],k',a5.lE fun p hp=>?_,b1,b2,va.append (.cons rv .nil),by rw[AH,A8];omega,w10⟩;have ep:=AK.mp hp;subst ep;exact⟨q,nD,na2 hC,hfr,fun v z=>by cases z⟩
 have e1:{ newEnv scope C X.env.globals cl X.env.qual none .none (some X.env) X.env.builtins with scope:=relabel scope X.env }=G0 scope cl C X.env:=rfl;exact codeAny_compStart_list (loop _ rfl) (T.self _ 0 _ _ _ T0 (loop _ rfl))
theorem Cy {tg iter elt:Expr}{ifs:List Expr}{pos pos' pos2:Pos}{wi:TI}{g:TG}{tc:TT}{te:TE}{i:Nat}{x:Str}(N:List Str)(mp:List (Option Nat))(hn:Nm X.N X.env.scope i x)(hNd:X.N.Nodup)(hNX:X.N=NX)(hkX:X.env.scope.names=kX)(S:vO NX kX N mp scope)(hc:X.calm=true)
  (hi:QI X tg iter wi) (hg:∀cl C s H fp,QG (bK X N scope cl C s H fp) tg g) (ht:∀cl C s H fp,QC (bK X N scope cl C s H fp) ifs tc) (he:∀cl C s H fp,QE (bK X N scope cl C s H fp) elt te)
  (hf:X.fn x=true\/X.env.scope.names.lookup x=some .local:=by exact .inl rfl)
  (hsw:EB [.Name x pos'] (.ListComp elt [⟨tg,iter,ifs,0⟩] scope pos) pos2.line X.env=pure true:=by rfl)
  (h1:(DC [.Name x pos'] X.env).map (·.2)=[FE (.Name x pos') X.env]:=by rfl)
  (hs:∀x,D5 iter X.env x=pure x:=by intro _;rfl):QS X (.Assign [.Name x pos'] (.ListComp elt [⟨tg,iter,ifs,0⟩] scope pos) pos2) (vP (Ah mp wi g tc te) (kI i)):=
 ⟨Wx N mp hn hNd hNX hkX S hc hi.h (fun cl C s H fp=>(hg cl C s H fp).h) (fun cl C s H fp=>(ht cl C s H fp).h) (fun cl C s H fp=>(he cl C s H fp).h) hf hsw h1 hs⟩
end
section
variable {mp:List (Option Nat)}{g:TG}{te:TE}{σ:St}{H:Hp}{Q:VK}{R:It->Hp->Prop}{K:AD}{a:Addr}{xs:List V}{ds:List A1}{ok:Addr->Prop}
theorem take_snoc {α:Type}{l:List α}{i:Nat}{x:α}(h:l[i]?=some x):l.take (i+1)=l.take i++[x]:=by
 rw[List.take_add_one,h];rfl
end
noncomputable def dH (d:A1)(z:Str):Bool:=match d with
 | .str x=>decide (x=z)
 | _=>false
theorem mL {ok:Addr->Prop}{H:Hp}{x:V}{d:A1}{z:Str}{Q:VK}(t:aG ok H x d)(q:Q (.bl (dH d z)) H):RG x (.str z) H Q:=by
 cases t with
 | non=>exact⟨rfl,q⟩
 | bl b=>exact⟨rfl,q⟩
 | int i=>exact⟨rfl,q⟩
 | str y=>exact⟨rfl,by rw[show decide (V.str y=V.str z)=decide (y=z) by simp];exact q⟩
 | lst o e z t=>show eqo _ _ _;rw[e];exact q
 | tup o e z t=>show eqo _ _ _;rw[e];exact q
theorem yR {p c:Addr}{H Hk:Hp}{B:Int}(s:cB p H Hk)(t:b7 Hk p B)(h:Hk c=none):c≠p/\H c=none:=by
 have n:=t.ne h;refine⟨n,?_⟩;cases e:H c with
 | none=>rfl
 | some o=>rw[s _ _ n e] at h;cases h
theorem Nj {p c:Addr}{H H':Hp}{o:HO}(s:cB p H H')(h:H c=none):cB p H (upd H' c o):=fun b u n e=>by
 rw[aJ (aD e h)];exact s b u n e
theorem b7.upd {H:Hp}{p c:Addr}{B:Int}{o:HO}(t:b7 H p B)(n:c≠p):b7 (upd H c o) p B:=by
 obtain⟨a,b,c',e,r⟩:=t;exact⟨a,b,c',by rw[aJ (BA n)];exact e,r⟩
theorem Hv {α:Type}(l:List α)(x:α):atI (l++[x]) (-1)=some x:=by
 unfold atI ixN;rw[if_neg δ,if_pos (by rw[AH,A8];omega)];show(l++[x])[_]?=some x;rw[BC (by rw[AH,A8];omega)];rw[show(-1+((l++[x]).length:Int)).toNat-l.length=0 by rw[AH,A8];omega];rfl
theorem jg.aa1 {k:Nat}{A:Bz}(r:jg k A):A.units+200<FU:=by have:=r.un;omega
theorem jQ {α:Type}(l:List α)(h:0<l.length):∃a b,l=a++[b]:=by
 induction l with
 | nil=>cases h
 | cons x r ih=>
  cases r with
  | nil=>exact⟨[],x,rfl⟩
  | cons y r=>
   obtain⟨a,b,e⟩:=ih (by simp);exact⟨x::a,b,by rw[e];rfl⟩
theorem X8 {n:Nat}{i:Int}(h0:0<=i)(h:i<n):ixN n i=some i.toNat:=by
 unfold ixN;rw[if_pos h0,if_pos h]
theorem b7.newOk {H:Hp}{p:Addr}{B:Int}(t:b7 H p B):cQ (·≠p) H:=by
 obtain⟨a,b,c,e,_⟩:=t;exact Te e
theorem O8 (t:Addr) (items:Array Ap):Meets (AI.«enumerate.__new__» { pos:=[Ap.type "enumerate",Ap.ref t] }) fun _ R s=>
  s.heap.IsTuple t items/\R (.ok (.ret (.ref (s.heap.objs.size+1)))) { s with heap:=(s.heap.push { cls:=.type "tuple_iterator",data:=.fields #[.ref t,.int 0 0] }).push { cls:=.type "enumerate",data:=.fields #[.none,.bool false,.ref s.heap.objs.size,DT 0,.none,.none] } }:=by
 refine Iy fun prog w A R s h=>?_;obtain⟨ht,hR⟩:=h;unfold AI.«enumerate.__new__» AI.SmallTypes.newClass;refine An (An (Au (AY rfl (An (Da sub_enumerate (AY rfl (Au (Ch rfl (An ?_)))))))));unfold AI.SmallTypes.calledThroughType;refine An (wpAny_stack_any fun st=>Au ?_);have fin:AG (AW prog w) A.in1 (do
   let it <- pyIter (Ap.ref t)
   let r <- AI.SmallTypes.newRecord (Ap.type "enumerate") (AI.SmallTypes.ownedTupleFields++[it,DT 0,Ap.none,Ap.none])
   ret r) (fun fin s'=>∃v,fin=Fin.done (Flow.ret v)/\R (Except.ok (Flow.ret v)) s') (fun e s'=>R (Except.error e) s') s:=by
  refine An (EI ht ?_);show AG _ _ (newObj (.type "enumerate") (.fields #[.none,.bool false,.ref s.heap.objs.size,DT 0,.none,.none]) >>= fun r=>ret r) _ _ _;refine An (BF ?_);refine Au ⟨_,rfl,?_⟩;have e:(s.heap.push { cls:=Ap.type "tuple_iterator",data:=Cn #[Ap.ref t,Ap.int 0 0] }).objs.size=s.heap.objs.size+1:=B9 ..;rw[e];exact hR
 dsimp only;split
 ·split
  ·exact An (Au fin)
  exact An (Au fin)
 split
 ·exact An (Au fin)
 exact An (Au fin)
theorem eN {prog:AR}{w:Bi}{A:Bz}{E:Ap->AB->Prop}{s:AB}{it t:Addr}{i:Nat}{items:Array Ap}{x:Ap}{Q:Ap->AB->Prop}(hit:s.heap.IsTupleIter it t i)(ht:s.heap.IsTuple t items)(hx:items[i]?=some x)
  (hQ:∀h',h'.IsTupleIter it t (i+1)->B5 it s.heap h'->Q x { s with heap:=h' }):AG (AW prog w) A (AI.SmallTypes.nextOf (Ap.ref it)) Q E s:=by
 obtain⟨o,ho,hc,hd⟩:=id hit;obtain⟨ol,hol,hcl,nl,hdl⟩:=ht;unfold AI.SmallTypes.nextOf;refine An (BS hit.typeIs FK (Cc FK hit.typeIs F.entry_tuple_iterator_next ?_ (F.args_tuple_iterator_next_1 _)));refine An (Au (An (B3 ho hd (i:=0) rfl ?_)));refine AY rfl (An (B3 ho hd (i:=1) rfl ?_));refine An (B4 hol hdl ?_);show AG _ _ (match items[(i:Int).toNat]? with
  | some x=>(do EZ (.ref it) 1 (DT ((i:Int)+1));ret x)
  | none=>_) _ _ _
 rw[B6,hx];refine An (wpAny_setField ho hd (CO 1) (Au ⟨x,rfl,Au (hQ _ ?_ ?_)⟩))
 ·refine⟨_,GH _ ho (Obj.isFreed_of_fields (Obj.data_mapFields hd _)),(Obj.cls_mapFields o _).trans hc,?_⟩;rw[Obj.data_mapFields hd];rfl
 exact B5.update s.heap it _
theorem gb {prog:AR}{w:Bi}{A:Bz}{E:Ap->AB->Prop}{s:AB}{it t:Addr}{i:Nat}{items:Array Ap}{Q:Ap->AB->Prop}(hh:A.handled=none)(hit:s.heap.IsTupleIter it t i)(ht:s.heap.IsTuple t items)(hx:items[i]?=none)
  (hE:∀h' e,Heap.ExtBut it s.heap h'->(∃o,h'.get? e=some o/\o.cls=Ap.type "StopIteration")->E (.ref e) { s with heap:=h' }):AG (AW prog w) A (AI.SmallTypes.nextOf (Ap.ref it)) Q E s:=by
 obtain⟨o,ho,hc,hd⟩:=id hit;obtain⟨ol,hol,hcl,nl,hdl⟩:=ht;unfold AI.SmallTypes.nextOf;refine An (BS hit.typeIs FK (Cc FK hit.typeIs F.entry_tuple_iterator_next ?_ (F.args_tuple_iterator_next_1 _)));refine An (Au (An (B3 ho hd (i:=0) rfl ?_)));refine AY rfl (An (B3 ho hd (i:=1) rfl ?_));refine An (B4 hol hdl ?_);show AG _ _ (match items[(i:Int).toNat]? with
  | some x=>_
  | none=>(do rule (toString "tuple_iterator.__next__" ++ toString ".end");EZ (.ref it) 0 .none;AI.SmallTypes.stopIteration)) _ _ _
 rw[B6,hx];refine An (DS (An (wpAny_setField ho hd (Ex 1) ?_)));unfold AI.SmallTypes.stopIteration newExc;refine An (An (BF ?_));refine An (Da (a:=.none) rfl ?_);refine BF ?_;refine wpAny_raiseNew_none hh (hE _ _ ?_ ?_)
 ·exact fun b ob hb e=>AA _ (AA _ ((DH _ _ (BA hb)).trans e))
 exact⟨_,AQ _ rfl,rfl⟩
theorem vK {prog:AR}{w:Bi}{A:Bz}(hh:A.handled=none)(it t:Addr)(hne:t≠it)(items:Array Ap):Draws prog w A it [it,t] items.size (fun i v=>items[i]?=some v) fun i h=>h.IsTupleIter it t i/\h.IsTuple t items where
 live:=fun _ _ st=>by
  obtain⟨⟨o,ho,_⟩,_⟩:=st;exact⟨o,ho⟩
 frame:=fun _ _ _ st hk=>by
  obtain⟨h1,⟨o,e,r⟩⟩:=st;exact⟨h1.at fun o e=>hk it (by simp) o e,o,hk t (by simp) o e,r⟩
 item:=fun i s Q E hi st hQ=>by
  have e:items[i]?=some items[i]:=by simp [hi]
  refine eN st.1 st.2 e fun h' h1 sb=>hQ _ _ s.toks e ⟨h1,?_⟩ sb;obtain⟨o,g,r⟩:=st.2;exact⟨o,(sb.2 t hne).trans g,r⟩
 done:=fun s Q E st hE=>gb hh st.1 st.2 (by simp) hE
noncomputable def Iet (K:AD)(a:Addr):It:=
 ⟨fun i H=>∃xs x,SqT K H a xs/\xs[i]?=some x,
  fun i H v H'=>∃p x,v=.ref p/\H p=none/\H'=upd H p (.tup [.int (i:Nat),x])/\∀xs,SqT K H a xs->xs[i]?=some x,
  fun i H=>∃xs,SqT K H a xs/\xs.length=i⟩
theorem Ie {P:AR}{w:Bi}{K:AD}{es:List Expr}{kk:Nat}{tpos:Pos}{e it l:Addr}(hne:e≠it) :
  Turn P w K (.Tuple es kk tpos) (Iet K l) [e,it] e (fun i h=>(∃old,IsEnum h e it ((i:Nat):Int) old)/\h.IsTupleIter it l i) where
 mem:=by simp
 obj:=fun i h st b hb=>by
  obtain⟨⟨old,he⟩,⟨o1,e1,c1,d1⟩⟩:=st;simp only[A5,A9,or_false] at hb;rcases hb with rfl|rfl
  ·exact⟨_,he,fun v q=>by cases q⟩
  exact⟨o1,e1,fun v q=>by rw[d1] at q;cases q⟩
 keep:=fun i h h' st k=>by
  obtain⟨⟨old,he⟩,h1⟩:=st;exact⟨⟨old,k e (by simp) _ he⟩,h1.at fun o q=>k it (by simp) o q⟩
 item:=by
  intro X hP hw hK hc i pins s σ H E I hf st hg;subst hP hw hK;obtain⟨xs,x,q1,hx⟩:=hg;obtain⟨its1,rv1,p1,hz1⟩:=I.tuple q1;obtain⟨u1,hu1,ru1⟩:=rv1.get hx;obtain⟨⟨old,he⟩,h1⟩:=st;have hel:e≠l:=fun z=>by
   obtain⟨ol,g1,g2,_⟩:=p1;rw[<- z,he] at g1;cases g1;injection g2 with g2;exact absurd g2 δ
  have hil:l≠it:=fun z=>by
   obtain⟨ol,g1,g2,_⟩:=p1;obtain⟨oi,g3,g4,_⟩:=h1;rw[z,g3] at g1;cases g1;rw[g4] at g2;injection g2 with g2;exact absurd g2 δ
  have hsz1:i<its1.toArray.size:=by
   obtain⟨z,_⟩:=AO.mp hu1;simpa using z
  refine wpAny_pyNext_enum_itemD (vK (A:=X.A.in1) (I.ok.hd hc) it l hil its1.toArray) he ⟨h1,p1⟩ hsz1 hne (by simp [hne,hel]) fun x1 h' tk hP a1 a2 a3 a4 hk=>?_;have ex:x1=u1:=by
   have hP':its1[i]?=some x1:=by simpa using hP
   rw[hu1] at hP';exact(BN hP').symm
  subst ex;obtain⟨a2,_⟩:=a2;have new:cZ X.prog X.w (upd H s.heap.objs.size (.tup [.int (i:Nat),x])) h' s.heap.objs.size (.tup [.int (i:Nat),x]):=⟨by show 2<=AL;decide,[.int (i:Nat) tk,x1],.cons ⟨_,rfl⟩ (.cons ru1 .nil),_,a3,rfl,_,rfl⟩;have I1:Inv X pins σ (upd H s.heap.objs.size (.tup [.int (i:Nat),x])) { s with heap:=h',toks:=tk+1 }:=I.Qi (ch:=[e,it]) hf
   (fun b o hb q=>hk b o (fun z=>hb (by simp [z])) (fun z=>hb (by simp [z])) q) (AZ _) new
  have hsz:∀b,b∈[e,it]->b≠s.heap.objs.size:=fun b hb=>by
   have lt:∃o,s.heap.get? b=some o:=by
    simp only[A5,A9,or_false] at hb;rcases hb with rfl|rfl
    ·exact⟨_,he⟩
    obtain⟨o,q,_⟩:=h1;exact⟨o,q⟩
   obtain⟨o,q⟩:=lt;exact B2 (A4 q)
  refine⟨_,rfl,wpAny_letOwnedTupleGo_enum (s:={ s with heap:=h',toks:=tk+1 }) a1 fun h'' z2 sb=>?_⟩;have fz:=hf e (by simp);have I2:Inv X pins σ (upd H s.heap.objs.size (.tup [.int (i:Nat),x])) { s with heap:=h'',toks:=tk+1 }:=Inv.turned (s:={ s with heap:=h',toks:=tk+1 }) (it:=e) I1 (fun b o hb q=>(sb.2 b hb).trans q) (by rw[aJ (hsz e (by simp))];exact fz.1) fz.2.1 fz.2.2.2.1 fz.2.2.2.2.1 fz.2.2.2.2.2;refine⟨.ref s.heap.objs.size,_,I2,rfl,⟨_,x,rfl,I.fresh,rfl,fun xs' q=>by rw[I.p7 q q1];exact hx⟩,
   ⟨⟨_,by simpa using z2⟩,a2.extBut sb.extBut hne.symm⟩,fun b hb=>by rw[aJ (hsz b hb)];exact(hf b hb).1⟩
 done:=by
  intro X hP hw hK hc i pins s σ H E I hf st hg;subst hP hw hK;obtain⟨xs,q1,hx⟩:=hg;obtain⟨its1,rv1,p1,hz1⟩:=I.tuple q1;obtain⟨⟨old,he⟩,h1⟩:=st;have hil:l≠it:=fun z=>by
   obtain⟨ol,g1,g2,_⟩:=p1;obtain⟨oi,g3,g4,_⟩:=h1;rw[z,g3] at g1;cases g1;rw[g4] at g2;injection g2 with g2;exact absurd g2 δ
  have hl1:=rv1.length;have hsi:its1.toArray.size=i:=by rw[AX];omega
  refine wpAny_pyNext_enum_endD (vK (A:=X.A.in1) (I.ok.hd hc) it l hil its1.toArray) he (by rw[hsi];exact⟨h1,p1⟩) fun h' hk=>⟨rfl,?_⟩;exact I.Qj (t':=s.toks) (ch:=[e,it]) hf (fun b o hb q=>hk b o (fun z=>hb (by simp [z])) q)
 self:=fun _ _ _ _ _ st h=>by
  obtain⟨⟨old,he⟩,_⟩:=st;exact Ix he h
noncomputable def ieq (K:AD)(ob:Option HO)(a:Addr)(H:Hp)(R:It->Hp->Prop):Prop:=match ob with
 | some (.lst _)=>R (Ite K a) H
 | some (.tup _)=>R (Iet K a) H
 | _=>False
noncomputable def ieK (K:AD)(vs:List V)(H:Hp)(R:It->Hp->Prop):Prop:=match vs with
 | [.ref a]=>ieq K (H a) a H R
 | _=>False
noncomputable def JD (K:AD)(ta:TA):TI:=fun σ H R=>ta σ H fun vs H1=>ieK K vs H1 R
theorem Ou (K:AD)(ta:TA)(σ:St)(H:Hp)(R:It->Hp->Prop):JD K ta σ H R=ta σ H fun vs H1=>ieK K vs H1 R:=rfl
theorem Ye (K:AD)(a:Addr)(H:Hp)(R:It->Hp->Prop):ieK K [.ref a] H R=ieq K (H a) a H R:=rfl
theorem Yd (K:AD)(xs:List V)(a:Addr)(H:Hp)(R:It->Hp->Prop):ieq K (some (.lst xs)) a H R=R (Ite K a) H:=rfl
section
variable {X:Cx}
theorem R6 {es:List Expr}{kk:Nat}{tpos:Pos}{a:Expr}{ta:TA}{p pos:Pos}(hg:Gl X "enumerate") (hm:X.mg "enumerate" = none) (ha:PA X [a] ta) (hs:AJ [a] X.env=[(false,eval a X.env)]:=by rfl) :
  PI X (.Tuple es kk tpos) (.Call (.Name "enumerate" p) [a] [] pos) (JD X.K ta):=by
 intro pins s σ H R I h;refine Call_ (iG I hg hm PyProof.Rows.Boot.«enumerate» (BI (thA (ha pos pins s σ H _ I h) fun us s1 vs H1 I1 r1 q1=>?_) hs rfl));replace q1:ieK X.K vs H1 R:=q1;unfold ieK at q1;split at q1
 ·rename_i l1;cases r1 with
  | cons r rr=>
   cases rr;cases r;unfold ieq at q1;split at q1
   ·rename_i xs e;obtain⟨its1,rv1,p1,hz1⟩:=I1.list (SqL.of e);refine call_enumerate_list p1.isList fun h' b1 b2 b3 hk=>?_;refine Ix (s:={ s1 with heap:=h' }) b1 ?_;have I2:Inv X pins σ H1 { s1 with heap:=h' }:=I1.kept (t':=s1.toks) hk;refine⟨_,_,_,_,H1,rfl,I2,M5 (ne_of_gt (CO _)),⟨⟨_,b1⟩,b2⟩,fun b hb=>?_,q1⟩;have hle:s1.heap.objs.size<=b:=by
     simp only[A5,A9,or_false] at hb;rcases hb with rfl|rfl <;> simp
    exact I1.JW hle (I1.hok.fresh hle)
   ·rename_i xs e;obtain⟨its1,rv1,p1,hz1⟩:=I1.tuple (SqT.of e);refine callType_new F.called_enumerate δ (F.typeCall_enumerate_1 _) (F.newCall_enumerate_1 _) (fun obj=>F.args_object_init_2 obj _) F.entry_enumerate_new (O8 l1 its1.toArray) ⟨p1,?_⟩;have hz:(s1.heap.push { cls:=Ap.type "tuple_iterator",data:=Cn #[Ap.ref l1,Ap.int 0 0] }).objs.size=s1.heap.objs.size+1:=B9 ..;have b1:((s1.heap.push { cls:=Ap.type "tuple_iterator",data:=Cn #[Ap.ref l1,Ap.int 0 0] }).push { cls:=Ap.type "enumerate",data:=Cn #[Ap.none,Ap.bool false,Ap.ref s1.heap.objs.size,DT 0,Ap.none,Ap.none] }).get? (s1.heap.objs.size+1)=some { cls:=Ap.type "enumerate",data:=Cn #[Ap.none,Ap.bool false,Ap.ref s1.heap.objs.size,DT 0,Ap.none,Ap.none] }:=by
     rw[<- hz];exact AQ _ rfl
    have b2:((s1.heap.push { cls:=Ap.type "tuple_iterator",data:=Cn #[Ap.ref l1,Ap.int 0 0] }).push { cls:=Ap.type "enumerate",data:=Cn #[Ap.none,Ap.bool false,Ap.ref s1.heap.objs.size,DT 0,Ap.none,Ap.none] }).IsTupleIter s1.heap.objs.size l1 0:=
     ⟨_,AA _ (AQ _ rfl),rfl,rfl⟩
    have hk:∀b o,s1.heap.get? b=some o->((s1.heap.push { cls:=Ap.type "tuple_iterator",data:=Cn #[Ap.ref l1,Ap.int 0 0] }).push { cls:=Ap.type "enumerate",data:=Cn #[Ap.none,Ap.bool false,Ap.ref s1.heap.objs.size,DT 0,Ap.none,Ap.none] }).get? b=some o:=fun b o z=>AA _ (AA _ z);refine⟨⟨_,b1,rfl⟩,?_⟩;generalize (s1.heap.push { cls:=Ap.type "tuple_iterator",data:=Cn #[Ap.ref l1,Ap.int 0 0] }).push { cls:=Ap.type "enumerate",data:=Cn #[Ap.none,Ap.bool false,Ap.ref s1.heap.objs.size,DT 0,Ap.none,Ap.none] }=h' at b1 b2 hk;refine Ix (s:={ s1 with heap:=h' }) b1 ?_;have I2:Inv X pins σ H1 { s1 with heap:=h' }:=I1.kept (t':=s1.toks) hk;refine⟨_,_,_,_,H1,rfl,I2,Ie (ne_of_gt (CO _)),⟨⟨_,b1⟩,b2⟩,fun b hb=>?_,q1⟩;have hle:s1.heap.objs.size<=b:=by
     simp only[A5,A9,or_false] at hb;rcases hb with rfl|rfl <;> simp
    exact I1.JW hle (I1.hok.fresh hle)
   exact q1.elim
 exact q1.elim
theorem RM {es:List Expr}{kk:Nat}{tpos:Pos}{a:Expr}{ta:TA}{p pos:Pos}(hg:Gl X "enumerate") (hm:X.mg "enumerate" = none) (ha:QA X [a] ta) (hs:AJ [a] X.env=[(false,eval a X.env)]:=by rfl) :
  QI X (.Tuple es kk tpos) (.Call (.Name "enumerate" p) [a] [] pos) (JD X.K ta):=⟨R6 hg hm ha.h hs⟩
end
theorem Uz {J:It}{g:TG}{tb:TS}{D:Ends}{σ:St}{H:Hp}{R:It->Hp->Prop}(hR:R=(fun J H1=>∃W:Nat->Nat->St->Hp->Prop,(∃m,W 0 m σ H1)/\∀i m σ H,W i m σ H ->
  (J.stop i H/\D.nx σ H)\/(J.go i H/\∃N:St->Hp->Prop,(∀σ' H',N σ' H'->∃m',m'<m/\W (i+1) m' σ' H')/\∀x H',J.yld i H x H'->g x σ H' fun σ2 H2=>tb { D with nx:=N,ct:=N,bk:=D.nx } σ2 H2)))
  (n:Nat) (Pv:Nat->St->Hp->Prop) (h0:Pv 0 σ H) (hgo:∀i σ H,i<n->Pv i σ H->J.go i H) (hst:∀σ H,Pv n σ H->J.stop n H)
  (hs:∀i σ H x H3,i<n->Pv i σ H->J.yld i H x H3->g x σ H3 fun σ2 H2=>tb { D with nx:=Pv (i+1),ct:=Pv (i+1),bk:=D.nx } σ2 H2) (hd:∀σ H,Pv n σ H->D.nx σ H):R J H:=by
 subst hR;refine⟨fun i m σ H2=>m=n-i/\i<=n/\Pv i σ H2,⟨_,rfl,EN _,h0⟩,?_⟩;rintro i m σ H2 ⟨rfl,hi,p⟩;by_cases hlt:i<n
 ·exact .inr ⟨hgo i σ H2 hlt p,Pv (i+1),fun σ' H' q=>⟨_,ω,rfl,hlt,q⟩,fun x H3 y=>hs i σ H2 x H3 hlt p y⟩
 have e:i=n:=ω;subst e;exact .inl ⟨hst σ H2 p,hd σ H2 p⟩
section
variable {X:Cx}{e o:Expr}{te to:TE}{pos:Pos}
noncomputable def exq (ob oc:Option HO)(l:Addr)(H:Hp)(Q:VK):Prop:=match ob,oc with
 | some (.lst xs),some (.lst zs)=>xs.length+zs.length<=AL/\Q .non (upd H l (.lst (xs++zs)))
 | _,_=>False
noncomputable def O7 (l:Addr)(y:V)(H:Hp)(Q:VK):Prop:=match y with
 | .ref b=>exq (H l) (H b) l H Q
 | _=>False
noncomputable def exK (x:V)(te:TE)(σ:St)(H1:Hp)(Q:VK):Prop:=match x with
 | .ref l=>isq (H1 l)/\te σ H1 fun y H2=>O7 l y H2 Q
 | _=>False
noncomputable def Qz (to te:TE):TE:=fun σ H Q=>to σ H fun x H1=>exK x te σ H1 Q
theorem Eu (to te:TE)(σ:St)(H:Hp)(Q:VK):Qz to te σ H Q=to σ H fun x H1=>exK x te σ H1 Q:=rfl
theorem Mg (l:Addr)(te:TE)(σ:St)(H1:Hp)(Q:VK):exK (.ref l) te σ H1 Q=(isq (H1 l)/\te σ H1 fun y H2=>O7 l y H2 Q):=rfl
theorem GX (l b:Addr)(H:Hp)(Q:VK):O7 l (.ref b) H Q=exq (H l) (H b) l H Q:=rfl
theorem UL (xs zs:List V)(l:Addr)(H:Hp)(Q:VK):exq (some (.lst xs)) (some (.lst zs)) l H Q=(xs.length+zs.length<=AL/\Q .non (upd H l (.lst (xs++zs)))):=rfl
theorem Xb {apos cpos:Pos}(ho:PE X o to)(he:PE X e te)
  (hbase:C1 o "extend" X.env (eval o X.env)=eval o X.env:=by rfl)
  (hfew:((CU cpos (AJ [e] X.env)).all (fun x=>!x.1)&&(F9 cpos (EX [] X.env)).all (fun x=>x.1.isSome)
   && decide ([e].length+([]:List D6).length+(if ([]:List D6).isEmpty then 0 else 1)<30))=true:=by rfl)
  (hline:(apos.endLine == cpos.line)=true:=by rfl) (hs:AJ [e] X.env=(false,eval e X.env)::AJ [] X.env:=by rfl) (hplain:(CU cpos (AJ [] X.env)).any (·.1)=false:=by rfl) :
  PE X (.Call (.Attribute o "extend" apos) [e] [] cpos) (Qz to te):=by
 intro pins s σ H Q I h;refine Fk hbase hfew hline rfl (thE (ho pins s σ H _ I h) fun v s1 x H1 I1 r1 q=>?_);cases x with
 | ref l=>
  obtain⟨q1,q2⟩:=q;cases el:H1 l with
  | none=>rw[el] at q1;exact q1.elim
  | some ob=>
   cases ob with
   | lst xs=>
    obtain⟨h1,h2⟩:=qT (T := "list") I1 r1 (.inl ⟨rfl,xs,SqL.of el⟩);refine⟨"list","list.extend",D7,PySem.F.slot_list_extend,PySem.F.type_list_extend,h1,h2,?_⟩;rw[hs];refine CS (by show(false||(CU cpos (AJ [] X.env)).any (·.1))=false;rw[hplain] <;> rfl) (D3 ?_)
    refine CL (thE (he pins s1 σ H1 _ I1 q2) fun u s2 y H2 I2 r2 q3=>CC ?_);replace q3:O7 l y H2 Q:=q3;unfold O7 at q3;split at q3
    ·rename_i b;unfold exq at q3;split at q3
     ·rename_i ys zs e1 e2;exact Od pins s2 σ H2 (.ref l) [.ref b] v [u] Q I2 r1 (.cons r2 .nil) ⟨l,b,ys,zs,rfl,rfl,e1,e2,q3.1,q3.2⟩
     exact q3.elim
    exact q3.elim
   | _=>rw[el] at q1;exact q1.elim
 | _=>exact q.elim
theorem KR {apos cpos:Pos}(ho:QE X o to)(he:QE X e te)
  (hbase:C1 o "extend" X.env (eval o X.env)=eval o X.env:=by rfl)
  (hfew:((CU cpos (AJ [e] X.env)).all (fun x=>!x.1)&&(F9 cpos (EX [] X.env)).all (fun x=>x.1.isSome)
   && decide ([e].length+([]:List D6).length+(if ([]:List D6).isEmpty then 0 else 1)<30))=true:=by rfl)
  (hline:(apos.endLine == cpos.line)=true:=by rfl) (hs:AJ [e] X.env=(false,eval e X.env)::AJ [] X.env:=by rfl) (hplain:(CU cpos (AJ [] X.env)).any (·.1)=false:=by rfl) :
  QE X (.Call (.Attribute o "extend" apos) [e] [] cpos) (Qz to te):=⟨Xb ho.h he.h hbase hfew hline hs hplain⟩
end
mutual
noncomputable def szD (a:Nat):A1->Prop
 | .none=>True
 | .bool _=>True
 | .int i=>i.natAbs<=10^20*2^a
 | .str x=>x.length<=30+a/\∀c∈x.cps.toList,c<16^8
 | .list ds=>ds.length<=210*5^a/\QV a ds
 | .tuple ds=>ds.length<=210*5^a/\QV a ds
 | .dict _=>False
noncomputable def QV (a:Nat):List A1->Prop
 | []=>True
 | d::ds=>szD a d/\QV a ds
end
theorem pR {k:Nat}:∀{ds:List A1},(∀d∈ds,d.depth<=k)->A1.depthAll ds<=k
 | [],_=>EN _
 | x::ds,h=>by
  rw[A1.depthAll.eq_2];have h1:=h x A0;have h2:=pR fun d hd=>h d (B1 _ hd);omega
noncomputable def ctq (a b:Option HO)(pa:Addr)(H:Hp)(Q:VK):Prop:=match a,b with
 | some (.tup xs),some (.tup ys)=>xs≠[]/\xs.length+ys.length<=AL/\(ys=[]->Q (.ref pa) H)/\(ys≠[]->∀p,H p=none->Q (.ref p) (upd H p (.tup (xs++ys))))
 | _,_=>False
noncomputable def RJ:R2:=fun x y H Q=>match x,y with
 | .ref p,.ref q=>ctq (H p) (H q) p H Q
 | _,_=>False
theorem Wa (p q:Addr)(H:Hp)(Q:VK):RJ (.ref p) (.ref q) H Q=ctq (H p) (H q) p H Q:=rfl
theorem aaR (xs ys:List V)(pa:Addr)(H:Hp)(Q:VK):ctq (some (.tup xs)) (some (.tup ys)) pa H Q=(xs≠[]/\xs.length+ys.length<=AL/\(ys=[]->Q (.ref pa) H)/\(ys≠[]->∀p,H p=none->Q (.ref p) (upd H p (.tup (xs++ys))))):=rfl
theorem Xq {X:Cx}:OpR X (Ev .Add) RJ:=by
 intro pins s σ H x y v u Q I rx ry h;unfold RJ at h;split at h
 ·rename_i p q;unfold ctq at h;split at h
  ·rename_i xs ys e1 e2;exact Xp pins s σ H _ _ v u Q I rx ry ⟨p,q,xs,ys,rfl,rfl,SqT.of e1,SqT.of e2,h.1,h.2.1,h.2.2.1,h.2.2.2⟩
  exact h.elim
 exact h.elim
inductive Eg (H:Hp):List V->List (List Nat)->Prop
 | nil:Eg H [] []
 | cons {t:Addr} {p:List Nat} {vs:List V} {ps:List (List Nat)}:H t=some (.tup (aas p))->Eg H vs ps->Eg H (.ref t::vs) (p::ps)
theorem Zn {n:Nat}(h:n<=100000):n<=AL:=BG h δ
theorem dR {H H':Hp}{l:Addr}{o:HO}(s:Same H H')(h:H l=none):Same H (upd H' l o):=fun b u e=>by
 rw[aJ (aD e h)];exact s b u e
structure Odd1 (d:A1):Prop where
 sz:szD 0 d
 nd:nodes d<=4
 dp:d.depth<=1
theorem cQ.new {ok:Addr->Prop}{H:Hp}(n:cQ ok H){q:Addr}(h:H q=none):ok q:=n H q (Same.refl _) h
structure Sm3 (a:Nat)(d:A1):Prop where
 sz:szD (a+1) d
 nd:nodes d<=20
 dp:d.depth<=2
theorem X5 {α:Type}(xs:List α)(h:1<=xs.length):∃(i:Nat)(x:α),xs[i]?=some x/\atI xs (-1)=some x:=by
 have h1:xs.length-1<xs.length:=ω;refine⟨xs.length-1,xs[xs.length-1],AF h1,?_⟩;unfold atI ixN;rw[if_neg δ,if_pos ω];show xs[_]?=_;rw[show(-1+(xs.length:Int)).toNat=xs.length-1 by omega];exact AF h1
section
variable {X:Cx}{a:Expr}{ta:TE}
noncomputable def trq (ob:Option HO)(H:Hp)(Q:Bool->Hp->Prop):Prop:=match ob with
 | some (.lst xs)=>Q (!xs.isEmpty) H
 | some (.tup xs)=>Q (!xs.isEmpty) H
 | _=>False
noncomputable def M6 (x:V)(H:Hp)(Q:Bool->Hp->Prop):Prop:=match x with
 | .ref p=>trq (H p) H Q
 | .bl b=>Q b H
 | .int i=>Q (i != 0) H
 | .non=>Q false H
 | _=>False
noncomputable def Ze (te:TE):TT:=fun σ H Q=>te σ H fun x H1=>M6 x H1 Q
theorem Vz (te:TE)(σ:St)(H:Hp)(Q:Bool->Hp->Prop):Ze te σ H Q=te σ H fun x H1=>M6 x H1 Q:=rfl
theorem Qk (p:Addr)(H:Hp)(Q:Bool->Hp->Prop):M6 (.ref p) H Q=trq (H p) H Q:=rfl
theorem Qm (i:Int)(H:Hp)(Q:Bool->Hp->Prop):M6 (.int i) H Q=Q (i != 0) H:=rfl
theorem Vw (b:Bool)(H:Hp)(Q:Bool->Hp->Prop):M6 (.bl b) H Q=Q b H:=rfl
theorem Ql (H:Hp)(Q:Bool->Hp->Prop):M6 .non H Q=Q false H:=rfl
theorem Vy (xs:List V)(H:Hp)(Q:Bool->Hp->Prop):trq (some (.lst xs)) H Q=Q (!xs.isEmpty) H:=rfl
theorem Vx (xs:List V)(H:Hp)(Q:Bool->Hp->Prop):trq (some (.tup xs)) H Q=Q (!xs.isEmpty) H:=rfl
theorem ZK (ha:PE X a ta)(he:∀whole,isTrue a X.env whole=(do let v <- whole;standAt a.pos;EM [v] (truthy v))):PT X a (Ze ta):=by
 intro pins s σ H Q I h;refine isTrue_plain (thE (ha pins s σ H _ I h) fun v s1 x H1 I1 r1 q1=>Zc pins s1 σ H1 x v Q I1 r1 ?_) (he _);cases x with
 | ref p=>
  replace q1:trq (H1 p) H1 Q:=q1;unfold trq at q1;split at q1
  ·rename_i xs e;exact⟨_,.inl ⟨xs,SqL.of e,rfl⟩,q1⟩
  ·rename_i xs e;exact⟨_,.inr (.inl ⟨xs,SqT.of e,rfl⟩),q1⟩
  exact q1.elim
 | bl b=>exact⟨_,rfl,q1⟩
 | int i=>exact⟨_,rfl,q1⟩
 | non=>exact⟨_,rfl,q1⟩
 | _=>exact(show False from q1).elim
theorem Ja (h:QE X a ta)(he:∀whole,isTrue a X.env whole=(do let v <- whole;standAt a.pos;EM [v] (truthy v)):=by intro _;rfl):QT X a (Ze ta):=⟨ZK h.h he⟩
noncomputable def abU:R2:=fun x y H Q=>∃p q xs,x=.ref p/\y=.ref q/\H p=some (.lst xs)/\H q=some (.lst [])/\Q (.bl (!xs.isEmpty)) H
theorem aag (hu:X.A.units<FU):OpR X (CH .NotEq) abU:=by
 intro pins s σ H x y v u Q I rx ry h;obtain⟨p,q,xs,rfl,rfl,e1,e2,qq⟩:=h;cases rx;cases ry;obtain⟨its1,r1,pl1,hz1⟩:=I.list (SqL.of e1);obtain⟨its2,r2,pl2,hz2⟩:=I.list (SqL.of e2);cases r2;cases xs with
 | nil=>
  cases r1;exact SeqAt.RcNeAt.lists (e:=fun _=>true) pl1.isList pl2.isList rfl hu (fun j h1 h2=>absurd h2 (Nat.not_lt_zero _)) X.prog X.w X.xe (EP X pins σ Q) ⟨.bl false,H,I,rfl,qq⟩
 | cons a b=>
  cases r1;exact SeqAt.RcNeAt.lists_lengths pl1.isList pl2.isList (by simp) hu X.prog X.w X.xe (EP X pins σ Q) ⟨.bl true,H,I,rfl,qq⟩
end
noncomputable def stD (s:Int×Int×Int):A1:=.tuple [.int s.1,.int s.2.1,.int s.2.2]
theorem aG.st {ok:Addr->Prop}{H:Hp}{x:V}{s:Int×Int×Int}(t:aG ok H x (stD s)):∃a,x=.ref a/\ok a/\H a=some (.tup [.int s.1,.int s.2.1,.int s.2.2]):=by
 cases t with
 | tup o e z ts=>
  rename_i p xs;refine⟨p,rfl,o,?_⟩;cases ts with
  | cons t1 ts=>
   cases t1;cases ts with
   | cons t2 ts=>
    cases t2;cases ts with
    | cons t3 ts=>
     cases t3;cases ts;exact e
theorem aH.st {ok:Addr->Prop}{H:Hp}{xs:List V}{ss:List (Int×Int×Int)}{i:Nat}{x:V}(t:aH ok H xs (ss.map stD))(h:xs[i]?=some x):∃a s,x=.ref a/\ok a/\ss[i]?=some s/\H a=some (.tup [.int s.1,.int s.2.1,.int s.2.2]):=by
 obtain⟨d,hd,td⟩:=t.get h;rw[AU] at hd;cases hs:ss[i]? with
 | none=>rw[hs] at hd;cases hd
 | some s=>
  rw[hs] at hd;cases hd;obtain⟨a,h1,h2,h3⟩:=td.st;exact⟨a,s,h1,h2,rfl,h3⟩
theorem lZ {is:List Int}{r:Int}(h0:0<=r)(h:r<is.length):∃i,i∈is/\atI (is.map V.int) r=some (.int i):=by
 have h1:r.toNat<is.length:=ω;refine⟨is[r.toNat],G1 h1,?_⟩;unfold atI;rw[X8 h0 (by rw[AE];omega)];show(is.map V.int)[r.toNat]?=_;rw[AU,AF h1];rfl
structure qH (ss:List (Int×Int×Int)):Prop where
 lh:∀(i:Nat) s,ss[i]?=some s->s.1<=s.2.1/\0<=s.2.2/\s.2.2<=9
 nx:∀(i:Nat) s t,ss[i]?=some s->ss[i+1]?=some t->t.1=s.2.1+1
 bd:∀(i:Nat) s,ss[i]?=some s->-(10^12)<=s.1/\s.2.1<=10^9+(10^12+10)*(i+1)
theorem qH.nil:qH []:=⟨fun i s h=>(by cases h),fun i s t h=>(by cases h),fun i s h=>(by cases h)⟩
theorem qH.snoc {ss:List (Int×Int×Int)}(h:qH ss){lo hi b:Int}(h1:lo<=hi)(h2:0<=b/\b<=9)(h3:-(10^12)<=lo/\hi<=10^9+(10^12+10)*(ss.length+1))(h4:∀s,ss[ss.length-1]?=some s->lo=s.2.1+1):qH (ss++[(lo,hi,b)]):=by
 have get:∀(i:Nat) s,(ss++[(lo,hi,b)])[i]?=some s->(i<ss.length/\ss[i]?=some s)\/(i=ss.length/\s=(lo,hi,b)):=fun i s e=>by
  rcases FX i ss.length with z|z
  ·rw[C3 z] at e;exact .inl ⟨z,e⟩
  rw[BC z] at e;cases hk:i-ss.length with
  | zero=>rw[hk] at e;cases e;exact .inr ⟨ω,rfl⟩
  | succ k=>rw[hk] at e;cases e
 refine⟨fun i s e=>?_,fun i s t e1 e2=>?_,fun i s e=>?_⟩
 ·rcases get i s e with⟨z,e⟩|⟨z,rfl⟩
  ·exact h.lh i s e
  exact⟨h1,h2.1,h2.2⟩
 ·rcases get i s e1 with⟨z,e1⟩|⟨z,rfl⟩
  ·rcases get (i+1) t e2 with⟨z2,e2⟩|⟨z2,rfl⟩
   ·exact h.nx i s t e1 e2
   exact h4 s (by rw[show ss.length-1=i by omega];exact e1)
  rcases get (i+1) t e2 with⟨z2,e2⟩|⟨z2,rfl⟩ <;> omega
 rcases get i s e with⟨z,e⟩|⟨z,rfl⟩
 ·exact h.bd i s e
 rw[z];exact h3
section
variable {κ:Type}[DecidableEq κ]
noncomputable def jt (kvs:List (κ×V))(k:κ):Option V:=(kvs.find? fun kv=>decide (kv.1=k)).map (·.2)
noncomputable def putK (kvs:List (κ×V))(k:κ)(v:V):List (κ×V):=
 if (kvs.any fun kv=>decide (kv.1=k))=true then kvs.map (fun kv=>if kv.1=k then (kv.1,v) else kv) else kvs++[(k,v)]
theorem En {k:κ}:jt ([]:List (κ×V)) k=none:=rfl
theorem fM {p:κ×V}{r:List (κ×V)}{k:κ}(e:p.1=k):jt (p::r) k=some p.2:=by simp [jt,IY,e]
theorem fO {p:κ×V}{r:List (κ×V)}{k:κ}(e:¬p.1=k):jt (p::r) k=jt r k:=by simp [jt,IY,e]
theorem rP (k:κ):∀kvs:List (κ×V),(kvs.any fun kv=>decide (kv.1=k))=(jt kvs k).isSome
 | []=>rfl
 | p::r=>by
  rw[HM];by_cases e:p.1=k
  ·simp only[fM e,decide_eq_true e,Bool.true_or,Option.isSome_some]
  rw[fO e,decide_eq_false e,Bool.false_or];exact rP k r
theorem Eo (k j:κ)(y:V):∀kvs:List (κ×V),jt (kvs.map fun kv=>if kv.1=k then (kv.1,y) else kv) j=(jt kvs j).map fun x=>if j=k then y else x
 | []=>rfl
 | p::r=>by
  have ih:=Eo k j y r;rw[CF];by_cases h:p.1=k
  ·rw[if_pos h];by_cases e:p.1=j
   ·rw[fM (p:=(p.1,y)) e,fM e,map_some,if_pos (e.symm.trans h)]
   rw[fO (p:=(p.1,y)) e,fO e,ih]
  rw[if_neg h];by_cases e:p.1=j
  ·rw[fM (p:=p) e,fM e,map_some,if_neg (fun z=>h (e.trans z))]
  rw[fO (p:=p) e,fO e,ih]
theorem Ag (k j:κ)(y:V):∀kvs:List (κ×V),jt kvs k=none->jt (kvs++[(k,y)]) j=if j=k then some y else jt kvs j
 | [],_=>by
  by_cases e:k=j
  ·rw[if_pos e.symm];exact fM (p:=(k,y)) e
  rw[if_neg (fun z=>e z.symm)];exact fO (p:=(k,y)) e
 | p::r,hn=>by
  rw[List.cons_append];have hk:¬p.1=k:=fun z=>by rw[fM z] at hn;cases hn
  rw[fO hk] at hn;have ih:=Ag k j y r hn;by_cases e:p.1=j
  ·rw[fM e,fM e,if_neg (fun z=>hk (e.trans z))]
  rw[fO e,fO e,ih]
theorem Em (kvs:List (κ×V))(k j:κ)(y:V):jt (putK kvs k y) j=if j=k then some y else jt kvs j:=by
 unfold putK;by_cases a:(kvs.any fun kv=>decide (kv.1=k))=true
 ·rw[if_pos a,Eo];rw[rP] at a;by_cases e:j=k
  ·obtain⟨x,hx⟩:=Option.isSome_iff_exists.mp a;rw[if_pos e,e,hx,map_some,if_pos rfl]
  rw[if_neg e];cases jt kvs j with
  | none=>rfl
  | some x=>rw[map_some,if_neg e]
 rw[if_neg a];refine Ag k j y kvs ?_;rw[rP] at a;cases q:jt kvs k with
 | none=>rfl
 | some x=>rw[q] at a;exact(a rfl).elim
theorem iy (kvs:List (κ×V))(k:κ)(v:V):(putK kvs k v).length<=kvs.length+1:=by
 unfold putK;split
 ·rw[AE];omega
 rw[AH,Co,FL];omega
theorem yZ.Oo {o:Option V}{u:Option Ap}(r:yZ o u):o.isSome=u.isSome:=by
 cases o with
 | none=>cases u with
  | none=>rfl
  | some _=>exact(show False from r).elim
 | some _=>cases u with
  | none=>exact(show False from r).elim
  | some _=>rfl
theorem KV.val {kvs:List (κ×V)}{vs:List (κ×Ap)}(r:KV kvs vs)(k:κ):yZ (jt kvs k) (valueAt vs k):=by
 unfold KV at r
 induction r with
 | nil=>exact E4
 | @cons p q ps qs h t ih=>
  obtain⟨h1,h2⟩:=h;by_cases e:p.1=k
  ·have e':q.1=k:=h1.symm.trans e;have b:valueAt (q::qs) k=some q.2:=by simp [valueAt,IY,e']
   rw[fM e,b];exact h2
  have e':¬q.1=k:=fun z=>e (h1.trans z);have b:valueAt (q::qs) k=valueAt qs k:=by simp [valueAt,IY,e']
  rw[fO e,b];exact ih
theorem KV.any {kvs:List (κ×V)}{vs:List (κ×Ap)}(r:KV kvs vs)(k:κ):(kvs.any fun kv=>decide (kv.1=k))=vs.any fun kv=>decide (kv.1=k):=by
 unfold KV at r
 induction r with
 | nil=>rfl
 | cons h t ih=>rw[HM,HM,ih,h.1]
theorem KV.repl {kvs:List (κ×V)}{vs:List (κ×Ap)}(r:KV kvs vs)(k:κ){y:V}{u:Ap}(ry:RelV y u) :
  KV (kvs.map fun kv=>if kv.1=k then (kv.1,y) else kv) (vs.map fun kv=>if kv.1=k then (kv.1,u) else kv):=by
 unfold KV at r |-
 induction r with
 | nil=>exact .nil
 | @cons p q ps qs h t ih=>
  rw[CF,CF];refine .cons ?_ ih;obtain⟨h1,h2⟩:=h;by_cases e:p.1=k
  ·rw[if_pos e,if_pos (h1.symm.trans e)];exact⟨h1,ry⟩
  rw[if_neg e,if_neg (fun z=>e (h1.trans z))];exact⟨h1,h2⟩
theorem KV.put {kvs:List (κ×V)}{vs:List (κ×Ap)}(r:KV kvs vs)(k:κ){y:V}{u:Ap}(ry:RelV y u):KV (putK kvs k y) (HP vs k u):=by
 unfold putK HP;rw[r.any k];by_cases e:(vs.any fun kv=>decide (kv.1=k))=true
 ·rw[if_pos e,if_pos e];exact r.repl k ry
 rw[if_neg e,if_neg e];exact Paired.snoc r ⟨rfl,ry⟩
theorem KV.keys {kvs:List (κ×V)}{vs:List (κ×Ap)}(r:KV kvs vs):kvs.map (·.1)=vs.map (·.1):=by
 unfold KV at r
 induction r with
 | nil=>rfl
 | cons h t ih=>rw[CF,CF,ih,h.1]
theorem KV.length {kvs:List (κ×V)}{vs:List (κ×Ap)}(r:KV kvs vs):kvs.length=vs.length:=K2 r
end
theorem yx {P:AR}{w:Bi}{k:Key}{u:Ap}(r:RelV (kV k) u):(aP P w).is k u=true:=by
 cases k with
 | inl i=>obtain⟨t,e⟩:=(show ∃t,u=Ap.int i t from r);subst e;exact Gn P w i t
 | inr x=>obtain⟨t,e⟩:=(show ∃t,u=Ap.str x t from r);subst e;exact Gm P w x t
theorem Bm {P:AR}{w:Bi}:∀{ks:List Key}{us:List Ap},Vals (ks.map kV) us->ItemsAre (aP P w) ks us
 | [],_,r=>by rw[He] at r;cases r;exact .nil
 | k::ks,_,r=>by
  rw[CF] at r;cases r with
  | cons h t=>exact .cons (yx h) (Bm t)
noncomputable abbrev KT (H:Hp):List (List Key×V)->List (List Key×Addr×Ap)->Prop:=Paired fun p q=>p.1=q.1/\H q.2.1=some (.tup (p.1.map kV))/\RelV p.2 q.2.2
theorem KT.val {H:Hp}{kvs:List (List Key×V)}{xs:List (List Key×Addr×Ap)}(r:KT H kvs xs)(k:List Key):yZ (jt kvs k) ((atKey xs k).map (·.2)):=by
 induction r with
 | nil=>exact E4
 | @cons p q ps qs h t ih=>
  obtain⟨h1,_,h2⟩:=h;by_cases e:p.1=k
  ·have e':q.1=k:=h1.symm.trans e;have b:atKey (q::qs) k=some q.2:=by simp [atKey,IY,e']
   rw[fM e,b];exact h2
  have e':¬q.1=k:=fun z=>e (h1.trans z);have b:atKey (q::qs) k=atKey qs k:=by simp [atKey,IY,e']
  rw[fO e,b];exact ih
theorem KT.repl {H:Hp}{kvs:List (List Key×V)}{xs:List (List Key×Addr×Ap)}(r:KT H kvs xs)(k:List Key){y:V}{u:Ap}(ry:RelV y u) :
  KT H (kvs.map fun kv=>if kv.1=k then (kv.1,y) else kv) (xs.map (putAt k u)):=by
 induction r with
 | nil=>exact .nil
 | @cons p q ps qs h t ih=>
  rw[CF,CF];refine .cons ?_ ih;obtain⟨h1,h2,h3⟩:=h;unfold putAt;by_cases e:p.1=k
  ·rw[if_pos e,if_pos (h1.symm.trans e)];exact⟨h1,h2,ry⟩
  rw[if_neg e,if_neg (fun z=>e (h1.trans z))];exact⟨h1,h2,h3⟩
theorem KT.put {H:Hp}{kvs:List (List Key×V)}{xs:List (List Key×Addr×Ap)}(r:KT H kvs xs)(k:List Key){b:Addr}{y:V}{u:Ap}(hb:H b=some (.tup (k.map kV)))(ry:RelV y u) :
  KT H (putK kvs k y) (storedH xs k b u):=by
 have e:(kvs.any fun kv=>decide (kv.1=k))=(atKey xs k).isSome:=by
  rw[rP,(r.val k).Oo,Option.isSome_map]
 unfold putK storedH;rw[e];by_cases q:(atKey xs k).isSome=true
 ·rw[if_pos q,if_pos q];exact r.repl k ry
 rw[if_neg q,if_neg q];exact Paired.snoc r ⟨rfl,hb,ry⟩
theorem KT.keeps {H H':Hp}{kvs:List (List Key×V)}{xs:List (List Key×Addr×Ap)}(r:KT H kvs xs)(ht:∀b ys,H b=some (.tup ys)->H' b=some (.tup ys)):KT H' kvs xs:=
 Paired.aaw r fun _ _ z=>⟨z.1,ht _ _ z.2.1,z.2.2⟩
section
variable {P:AR}{w:Bi}{H:Hp}{h:Heap}{a:Addr}
theorem YX {u:HO}(ok:HOk P w H h)(e:Rd H a u):cZ P w H h a u:=e.ok ok
theorem G6 {kvs:List (Key×V)}(ok:HOk P w H h)(e:Rd H a (.dK kvs)):kvs.length<=AL/\(a == C2)=false/\∃vs,KV kvs vs/\h.DictOf (aP P w) a vs:=
 show cZ P w H h a (.dK kvs) from YX ok e
theorem Br {kvs:List (Key×V)}(ok:HOk P w H h)(e:H a=some (.dK kvs)):kvs.length<=AL/\(a == C2)=false/\∃vs,KV kvs vs/\h.DictOf (aP P w) a vs:=G6 ok (.inl e)
theorem Jz {ks:List Key}(ok:HOk P w H h)(e:H a=some (.tup (ks.map kV))):(tupleKind (aP P w)).is h ks a:=by
 obtain⟨_,its,r,o,h1,h2,n,h3⟩:=(show cZ P w H h a (.tup (ks.map kV)) from ok a _ e);exact⟨o,its.toArray,n,h1,h2,h3,by simpa using Bm r⟩
theorem Mj {kvs:List (List Key×V)}(ok:HOk P w H h)(e:Rd H a (.dT kvs)):kvs.length<=AL/\(a == C2)=false /\
  ∃xs,KT H kvs xs/\h.DictOfH (tupleKind (aP P w)) a xs:=by
 obtain⟨z,y,xs,r,o,es,ep,h1,h2,h3,h4,h5⟩:=(show cZ P w H h a (.dT kvs) from YX ok e);refine⟨z,y,xs,r,o,es,ep,h1,h2,h3,h4,fun x hx=>?_,h5⟩;have all:∀{l:List (List Key×V)}{m:List (List Key×Addr×Ap)},KT H l m->∀x∈m,(tupleKind (aP P w)).is h x.1 x.2.1:=by
  intro l m q
  induction q with
  | nil=>intro x hx;exact nomatch hx
  | @cons p q ps qs hq t ih=>
   intro x hx;rcases A5.mp hx with e|hx
   ·subst e;exact Jz ok (by rw[<- hq.1];exact hq.2.1)
   exact ih x hx
 exact all r x hx
theorem abM {kvs:List (List Key×V)}(ok:HOk P w H h)(e:H a=some (.dT kvs)):kvs.length<=AL/\(a == C2)=false /\
  ∃xs,KT H kvs xs/\h.DictOfH (tupleKind (aP P w)) a xs:=Mj ok (.inl e)
end
noncomputable def zf (H:Hp)(a:Addr)(y:V)(r:Option V):Prop:=
 (∃kvs k,Rd H a (.dK kvs)/\y=kV k/\r=jt kvs k)\/∃kvs k b,Rd H a (.dT kvs)/\y=.ref b/\H b=some (.tup (k.map kV))/\r=jt kvs k
noncomputable def PK (H:Hp)(a:Addr)(y v:V)(H':Hp):Prop:=
 (∃kvs k,H a=some (.dK kvs)/\y=kV k/\kvs.length<AL/\H'=upd H a (.dK (putK kvs k v))) \/
 ∃kvs k b,H a=some (.dT kvs)/\y=.ref b/\H b=some (.tup (k.map kV))/\kvs.length<AL/\H'=upd H a (.dT (putK kvs k v))
theorem zf.k {H:Hp}{a:Addr}{kvs:List (Key×V)}{k:Key}(e:H a=some (.dK kvs)):zf H a (kV k) (jt kvs k):=.inl ⟨kvs,k,.inl e,rfl,rfl⟩
theorem PK.k {H:Hp}{a:Addr}{kvs:List (Key×V)}{k:Key}{v:V}(e:H a=some (.dK kvs))(hl:kvs.length<AL):PK H a (kV k) v (upd H a (.dK (putK kvs k v))):=.inl ⟨kvs,k,e,rfl,hl,rfl⟩
section
variable {X:Cx}{pins:List (Addr×Obj)}{σ:St}{H:Hp}{s:AB}{a:Addr}{y v:V}{u r:Ap}{o:Option V}{A:Bz}{E:Ap->AB->Prop}
theorem Inv.big (I:Inv X pins σ H s):C2<s.heap.objs.size:=by
 have h:AM<s.heap.objs.size:=(I.mod.glob.keeps I.bk).lt;exact lt_trans δ h
theorem Pb {Q:Ap->AB->Prop}(hu:A.units+1<FU)(I:Inv X pins σ H s)(g:zf H a y (some v))(ry:RelV y u)(h:∀w' s',Inv X pins σ H s'->RelV v w'->Q w' s') :
  AG (AW X.prog X.w) A (KM (.ref a) u) Q E s:=by
 rcases g with⟨kvs,k,e,ey,l⟩|⟨kvs,k,b,e,ey,eb,l⟩
 ·subst ey;obtain⟨z,hd,vs,rel,dd⟩:=G6 I.hok e;obtain⟨w',hw,rw'⟩:=yZ.some_of (v:=v) (o:=valueAt vs k) (by rw[l];exact rel.val k);exact wpAny_getItem_of (yx ry) dd.mapOf hw (h w' _ (I.tok _) rw')
 subst ey;cases (show u=Ap.ref b from ry);obtain⟨z,hd,xs,rel,dd⟩:=Mj I.hok e;obtain⟨w',hw,rw'⟩:=yZ.some_of (v:=v) (o:=(atKey xs k).map (·.2)) (by rw[l];exact rel.val k);obtain⟨p,hp,hp2⟩:=BE.mp hw;refine wpAny_getItem_heap (tupleKind_room_in1 hu) (Jz I.hok eb) dd hp ?_;rw[hp2];exact h w' _ (I.tok _) rw'
theorem wK {h':Heap}{t':Nat}{ob:HO}(I:Inv X pins σ H s)(mu:Mut (H a))(hs:B5 a s.heap h')(he:∃q,h'.get? a=some q)(new:cZ X.prog X.w (upd H a ob) h' a ob) :
  Inv X pins σ (upd H a ob) { s with heap:=h',toks:=t' }:=
 I.write (x:=a) (e:=a) mu (.inl rfl) (fun b q hb z=>(hs.2 b hb).trans z) he new
theorem uZ {P:AR}{w:Bi}{H':Hp}{h':Heap}{kvs:List (Key×V)}{vs:List (Key×Ap)}(z:kvs.length<=AL)(hd:(a == C2)=false)(rel:KV kvs vs)(dd:h'.DictOf (aP P w) a vs) :
  cZ P w H' h' a (.dK kvs):=⟨z,hd,vs,rel,dd⟩
theorem Pa {H':Hp}{Q:Unit->AB->Prop}(hu:A.units+1<FU)(I:Inv X pins σ H s)(g:PK H a y v H')(ry:RelV y u)(rv:RelV v r)(h:∀s',Inv X pins σ H' s'->Q () s') :
  AG (AW X.prog X.w) A (setItem (.ref a) u r) Q E s:=by
 rcases g with⟨kvs,k,e,ey,l,eH⟩|⟨kvs,k,b,e,ey,eb,l,eH⟩
 ·subst ey eH;obtain⟨z,hd,vs,rel,dd⟩:=Br I.hok e;have hz:vs.length<=AL:=by rw[<- rel.length];exact z
  have hl:(putK kvs k v).length<=AL:=by have:=iy kvs k v;omega
  refine wpAny_setItem_pairs (hsz:=hz) (yx ry) dd fun h' dd' hs=>h _ ?_;have he:∃q,h'.get? a=some q:=let ⟨q,_,_,hq,_⟩:=dd';⟨q,hq⟩;exact wK I (by rw[e];exact E4) hs he (uZ hl hd (rel.put k rv) dd')
 subst ey eH;cases (show u=Ap.ref b from ry);obtain⟨z,hd,xs,rel,dd⟩:=abM I.hok e;have hz:xs.length<=AL:=by rw[<- K2 rel];exact z
 have hl:(putK kvs k v).length<=AL:=by have:=iy kvs k v;omega
 refine wpAny_setItem_heap (hsz:=hz) (tupleKind_room_in1 hu) (Jz I.hok eb) dd fun h' dd' hs=>h _ ?_;obtain⟨q,es,ep,hq,h2,h3,h4,_,h5⟩:=dd';refine wK I (by rw[e];exact E4) hs ⟨q,hq⟩ ⟨hl,hd,_,(rel.put k eb rv).keeps fun c ys ec=>?_,q,es,ep,hq,h2,h3,h4,h5⟩;rw[aJ (abC ec e (fun z=>nomatch z))];exact ec
end
noncomputable def aaY (i:Expr):Prop:=∀ov iv,subscripted i false ov iv=operate [ov,iv] (KM ov iv)
theorem VD {prog:AR}{w:Bi}{A:Bz}{E:Ap->AB->Prop}{s:AB}{env:Env}{value slice:Expr}{pos:Pos}{T id:String}{Q:Ap->AB->Prop}
  (hl:IX (.type T) "__getitem__" = pure (some (.builtin id))) (hs:aaY slice)
  (h:AG (AW prog w) A (eval value env) (fun o s₁=>AG (AW prog w) A (eval slice env) (fun i s₂=>s₂.TypeIs o T/\AG (AW prog w) A (KM o i) Q E s₂) E s₁) E s) :
  AG (AW prog w) A (eval (.Subscript value slice pos) env) Q E s:=by
 refine Subscript_ (CA h (fun o s₁ h₁=>CA h₁ (fun i s₂ h₂=>?_) fun _ _ x=>x) fun _ _ x=>x);obtain⟨hT,h₂⟩:=h₂;unfold subscriptTail;refine An ?_;rw[getitemInPython_of_ne hT.not_modules];refine An (wpAny_specialOf hT hl ?_);have fin:AG (AW prog w) A (subscripted slice false o i) (fun r s₃=>AG (AW prog w) A (letTemporaryGo value o r >>= fun _=>pure r) Q E s₃) E s₂:=by
  rw[hs o i];exact wpAny_operating (CA h₂ (fun r s₃ h₃=>An (wpAny_letTemporaryGo (Au h₃))) fun _ _ x=>x)
 first
  | exact Au (An fin)
  | exact An (Au (An fin))
  | exact An fin
theorem G7 {X:Cx}{pins:List (Addr×Obj)}{σ:St}{H:Hp}{s:AB}{a:Addr}{y:V}{o:Option V}(I:Inv X pins σ H s) (g:zf H a y o):s.TypeIs (.ref a) "dict" := by
 rcases g with⟨kvs,k,e,_,_⟩|⟨kvs,k,b,e,_,_,_⟩
 ·obtain⟨_,_,vs,_,dd⟩:=G6 I.hok e;exact dd.typeIs
 obtain⟨_,_,xs,_,dd⟩:=Mj I.hok e;exact dd.typeIs
noncomputable def aa4 (td ty:TE):TE:=fun σ H Q=>td σ H fun x H1=>ty σ H1 fun y H2=>∃a v,x=.ref a/\zf H2 a y (some v)/\Q v H2
noncomputable def aa8 (td ty tv:TE):TS:=fun D σ H=>tv σ H fun v H1=>td σ H1 fun x H2=>ty σ H2 fun y H3=>∃a H4,x=.ref a/\PK H3 a y v H4/\D.nx σ H4
section
variable {X:Cx}{o i e value:Expr}{pos pos' tpos:Pos}{td ty tv:TE}
theorem Xf (hu:X.A.units+1<FU)(ho:PE X o td)(hi:PE X i ty)(hs:aaY i):PE X (.Subscript o i pos) (aa4 td ty):=by
 intro pins s σ H Q I h;refine VD PySem.F.slot_dict_getitem.lookup hs (thE (ho pins s σ H _ I h) fun u s1 x H1 I1 rx q1=>thn (hi pins s1 σ H1 _ I1 q1) fun iv s2 ⟨y,H2,I2,ry,a,v,ex,g,q2⟩=>?_);subst ex;obtain rfl:u=Ap.ref a:=rx;exact⟨G7 I2 g,Pb hu I2 g ry fun w' s3 I3 rw'=>⟨v,H2,I3,rw',q2⟩⟩
theorem WK (hu:X.A.units+1<FU)(ho:PE X o td)(hi:PE X i ty)(hv:PE X value tv)(hs:II value (some (.Subscript o i pos')) pos.line X.env=pure false) :
  PS X (.Assign [.Subscript o i pos'] value pos) (aa8 td ty tv):=by
 intro pins s σ H D I h;refine wpAny_Assign_Subscript (thE (hv pins s σ H _ I h) fun r s1 v H1 I1 rv q1=>thE (ho pins s1 σ H1 _ I1 q1) fun u s2 x H2 I2 rx q2=>thn (hi pins s2 σ H2 _ I2 q2) fun iv s3 ⟨y,H3,I3,ry,a,H4,ex,g,q3⟩=>?_) hs;subst ex;obtain rfl:u=Ap.ref a:=rx;exact Pa hu I3 g ry rv fun s4 I4=>⟨σ,H4,I4,q3⟩
end
theorem pQ {P:AR}{w:Bi}{H:Hp}(h:Heap) (hb:C2<h.objs.size):cZ P w H (h.push { cls:=.type "dict",data:=.dict #[] }) h.objs.size (.dK []):=
 ⟨EN _,beq_eq_false_iff_ne.mpr (BA (B2 hb)),[],.nil,Heap.DictOf.new h⟩
noncomputable def BZ:TE:=fun _ H Q=>∀p,H p=none->Q (.ref p) (upd H p (.dK []))
section
variable {X:Cx}{pos:Pos}
theorem Sh:PE X (.Dict [] [] pos) BZ:=fun pins s σ H Q I h=>
 wpAny_Dict_empty ⟨.ref s.heap.objs.size,_,I.laid (a:=s.heap.objs.size) (o:=.dK []) (t':=s.toks) (fun _ _ q=>AA _ q) (AZ _) (pQ s.heap I.big),rfl,h _ (I.hok.fresh (AZ _))⟩
end
noncomputable def wR:List (TE×TE)->St->Hp->(List (V×V)->Hp->Prop)->Prop
 | [],_,H,Q=>Q [] H
 | (tk,tv)::r,σ,H,Q=>tk σ H fun x H1=>tv σ H1 fun y H2=>wR r σ H2 fun ps H3=>Q ((x,y)::ps) H3
noncomputable abbrev VV:List (V×V)->List (Ap×Ap)->Prop:=Paired fun p q=>RelV p.1 q.1/\RelV p.2 q.2
noncomputable def PPs (X:Cx)(pos:Pos)(keys:List (Option Expr))(values:List Expr)(trs:List (TE×TE)):Prop:=
 ∀(pins:List (Addr×Obj)) (s:AB) (σ:St) (H:Hp) (Q:List (V×V)->Hp->Prop),Inv X pins σ H s->wR trs σ H Q ->
  AG (AW X.prog X.w) X.A (evalPairs (pairTrees keys values X.env pos)) (fun vs s'=>∃ps H',Inv X pins σ H' s'/\VV ps vs/\Q ps H') X.xe s
theorem WL {X:Cx}{pos:Pos}:PPs X pos [] [] []:=fun pins s σ H Q I h=>pairTrees_nil_walk ⟨[],H,I,.nil,h⟩
theorem RZ {X:Cx}{pos:Pos}{k v:Expr}{ks:List (Option Expr)}{vs:List Expr}{tk tv:TE}{trs:List (TE×TE)}(hk:PE X k tk)(hv:PE X v tv)(hr:PPs X pos ks vs trs) :
  PPs X pos (some k::ks) (v::vs) ((tk,tv)::trs):=fun pins s σ H Q I h=>
 pairTrees_cons_walk (thE (hk pins s σ H _ I h) fun u s1 x H1 I1 rx q1=>thE (hv pins s1 σ H1 _ I1 q1) fun w2 s2 y H2 I2 ry q2=>
  thn (hr pins s2 σ H2 _ I2 q2) fun ws s3 ⟨ps,H3,I3,rel,q3⟩=>⟨(x,y)::ps,H3,I3,.cons ⟨rx,ry⟩ rel,q3⟩)
noncomputable def cP (kvs more:List (Key×V)):List (Key×V):=more.foldl (fun acc kv=>putK acc kv.1 kv.2) kvs
theorem KV.merge:∀{more:List (Key×V)}{rs:List (Key×Ap)}{kvs:List (Key×V)}{vs:List (Key×Ap)},KV more rs->KV kvs vs->KV (cP kvs more) (merged vs rs):=by
 intro more rs kvs vs r;unfold KV at r
 induction r generalizing kvs vs with
 | nil=>intro q;exact q
 | @cons p q ps qs h t ih=>
  intro r0;have e:KV (putK kvs p.1 p.2) (HP vs q.1 q.2):=by
   have:=r0.put p.1 h.2;rw[<- h.1];exact this
  exact ih e
theorem gK:∀(more kvs:List (Key×V)),(cP kvs more).length<=kvs.length+more.length
 | [],kvs=>by show kvs.length<=kvs.length+0;omega
 | p::r,kvs=>by
  have h1:=gK r (putK kvs p.1 p.2);have h2:=iy kvs p.1 p.2;show(cP (putK kvs p.1 p.2) r).length<=_;rw[Co];omega
theorem yV {P:AR}{w:Bi}:∀{kvs:List (Key×V)}{ws:List (Ap×Ap)},VV (kvs.map fun kv=>(kV kv.1,kv.2)) ws->∃rs,Carries (aP P w) ws rs/\KV kvs rs
 | [],_,r=>by rw[He] at r;cases r;exact⟨[],E4,.nil⟩
 | p::kvs,_,r=>by
  rw[CF] at r;cases r with
  | @cons a b as bs h t=>
   obtain⟨rs,c,q⟩:=yV (P:=P) (w:=w) t;obtain⟨b1,b2⟩:=b;exact⟨(p.1,b2)::rs,⟨yx h.1,rfl,c⟩,.cons ⟨rfl,h.2⟩ q⟩
noncomputable def QD (trs:List (TE×TE)):TE:=fun σ H Q=>∀p,H p=none->wR trs σ (upd H p (.dK [])) fun ps H2=>H2 p=some (.dK [])/\∃kvs:List (Key×V),ps=kvs.map (fun kv=>(kV kv.1,kv.2))/\kvs.length<=15/\Q (.ref p) (upd H2 p (.dK (cP [] kvs)))
theorem Xe {X:Cx}{pos:Pos}{keys:List (Option Expr)}{values:List Expr}{trs:List (TE×TE)}(h:PPs X pos keys values trs)(hall:keys.all (·.isSome)=true)(hl:keys.length=values.length)(h0:keys≠[])
  (h15:keys.length<=15):PE X (.Dict keys values pos) (QD trs):=by
 intro pins s σ H Q I q;have hn:=I.hok.fresh (AZ s.heap.objs.size);have I1:=I.laid (a:=s.heap.objs.size) (o:=.dK []) (h':=s.heap.push { cls:=.type "dict",data:=.dict #[] }) (t':=s.toks) (fun _ _ q=>AA _ q) (AZ _) (pQ s.heap I.big);refine wpAny_Dict_walk (knd:=aP X.prog X.w) hall hl h0 h15 (thn (h pins _ σ _ _ I1 (q _ hn)) fun ws s2 ⟨ps,H2,I2,rel,e,kvs,ep,lk,q2⟩=>?_);subst ep;obtain⟨rs,c,rk⟩:=yV (P:=X.prog) (w:=X.w) rel;obtain⟨z,hd,vs0,r0,dd⟩:=Br I2.hok e;cases r0;refine⟨rs,c,dd,fun h' dd' hs=>⟨.ref s.heap.objs.size,_,?_,rfl,q2⟩⟩;have hz:(cP [] kvs).length<=AL:=by
  have h1:=gK kvs [];rw[FL] at h1;rw[Kb];omega
 have he:∃q,h'.get? s.heap.objs.size=some q:=let ⟨q,_,_,hq,_⟩:=dd';⟨q,hq⟩;exact wK I2 (by rw[e];exact E4) hs he (uZ hz hd (rk.merge .nil) dd')
structure M1 (X:Cx)(o:Expr)(m:Str)(apos:Pos)(e:Expr)(cpos:Pos):Prop where
 base:C1 o m X.env (eval o X.env)=eval o X.env
 few:((CU cpos (AJ [e] X.env)).all (fun x=>!x.1)&&(F9 cpos (EX [] X.env)).all (fun x=>x.1.isSome)
  && decide (([e]:List Expr).length+([]:List D6).length+(if ([]:List D6).isEmpty then 0 else 1)<30))=true
 line:(apos.endLine == cpos.line)=true
 trees:CU cpos (AJ [e] X.env)=[(false,eval e X.env)]
noncomputable def IsD (H:Hp)(a:Addr):Prop:=(∃kvs,Rd H a (.dK kvs))\/∃kvs,Rd H a (.dT kvs)
theorem aaI {X:Cx}{pins:List (Addr×Obj)}{σ:St}{H:Hp}{s:AB}{a:Addr}(I:Inv X pins σ H s)(d:IsD H a) :
  s.TypeIs (.ref a) "dict" /\ (∀b,Ap.ref a=.ref b->∃ob,s.heap.get? b=some ob/\ob.dict=none)/\(a == C2)=false:=by
 rcases d with⟨kvs,e⟩|⟨kvs,e⟩
 ·obtain⟨_,hd,vs,_,dd⟩:=G6 I.hok e;refine⟨dd.typeIs,fun b q=>?_,hd⟩;cases q;obtain⟨ob,_,_,h1,h2,_⟩:=dd;exact⟨ob,h1,h2.2.1⟩
 obtain⟨_,hd,xs,_,dd⟩:=Mj I.hok e;refine⟨dd.typeIs,fun b q=>?_,hd⟩;cases q;obtain⟨ob,_,_,h1,h2,_⟩:=dd;exact⟨ob,h1,h2.2.1⟩
theorem jg.HW {k:Nat}{A:Bz}(r:jg k A):A.units+1<FU:=by have:=r.un;omega
theorem jg.un1 {k:Nat}{A:Bz}(r:jg k A):A.in1.units<FU:=by
 have:=r.un;show A.units+1<FU;omega
section
variable {X:Cx}{pos:Pos}
structure QPs (X:Cx)(pos:Pos)(keys:List (Option Expr))(values:List Expr)(trs:List (TE×TE)):Prop where
 h:PPs X pos keys values trs
theorem Wh:QPs X pos [] [] []:=⟨WL⟩
theorem RL {k v:Expr}{ks:List (Option Expr)}{vs:List Expr}{tk tv:TE}{trs:List (TE×TE)}(hk:QE X k tk)(hv:QE X v tv)(hr:QPs X pos ks vs trs):QPs X pos (some k::ks) (v::vs) ((tk,tv)::trs):=⟨RZ hk.h hv.h hr.h⟩
theorem Wn {keys:List (Option Expr)}{values:List Expr}{trs:List (TE×TE)}(h:QPs X pos keys values trs)(hall:keys.all (·.isSome)=true)(hl:keys.length=values.length)(h0:keys≠[])(h15:Nat.ble keys.length 15=true):QE X (.Dict keys values pos) (QD trs):=⟨Xe h.h hall hl h0 (Nat.le_of_ble_eq_true h15)⟩
noncomputable def abX:R2:=fun x y H Q=>∃(p:Addr)(ws:List Str)(d:A1)(ok:Addr->Prop),y=.ref p/\H p=some (.tup (ws.map V.str))/\aG ok H x d/\Q (.bl (ws.any (dH d))) H
theorem aai (hu:X.A.in1.units<FU):OpR X (CH .In) abX:=by
 intro pins s σ H x y v u Q I rx ry h;obtain⟨p,ws,d,ok,rfl,e,t,q⟩:=h;cases ry;obtain⟨its,r,pl,hz⟩:=I.tuple (SqT.of e);have key:∀u∈its,∃y t,u=Ap.str y t:=fun u hu=>by
  obtain⟨j,hj,ej⟩:=C5.mp hu;have hl:=r.length;have hx:(ws.map V.str)[j]?=some (ws.map V.str)[j]:=AF ω;obtain⟨u',hu',ru⟩:=r.get hx;rw[AF hj,ej] at hu';cases hu';rw[List.getElem_map] at ru;obtain⟨t,e⟩:=ru;exact⟨_,t,e⟩
 let g:Ap->Bool:=fun u=>match u with | .str y _=>dH d y|_=>false
 refine SeqAt.in_tupleAt g pl (fun w hw=>?_) ⟨.bl _,H,I,rfl,?_⟩
 ·obtain⟨y,t',rfl⟩:=key w (by simpa using hw);cases t with
  | non=>cases rx;exact BM.str_none y t'
  | bl b=>cases rx;exact BM.str_bool y t' b
  | int i=>obtain⟨t2,rfl⟩:=rx;exact BM.str_int y t' i t2
  | str z=>
   obtain⟨t2,rfl⟩:=rx;have h2:=BM.str_str (A:=X.A.in1) (s:=s) y t' z t2;have e3:(y == z)=dH (.str z) y:=by
    show(y == z)=decide (z=y);rw[Bool.beq_eq_decide_eq];exact decide_eq_decide.mpr ⟨Eq.symm,Eq.symm⟩
   rw[e3] at h2;exact h2
  | lst o e1 z1 ts=>
   cases rx;obtain⟨its1,r1,pl1,hz1⟩:=I.list (SqL.of e1);exact BM.str_list y t' pl1.isList hu
  | tup o e1 z1 ts=>
   cases rx;obtain⟨its1,r1,pl1,hz1⟩:=I.tuple (SqT.of e1);exact BM.str_tuple y t' pl1 hu
 have:∀(ws:List Str)(its:List Ap),Vals (ws.map V.str) its->its.any g=ws.any (dH d):=by
  intro ws
  induction ws with
  | nil=>intro its r;cases r;rfl
  | cons a ws ih=>
   intro its r;cases r with
   | cons r1 r2=>
    obtain⟨t1,rfl⟩:=r1;rw[HM,HM,ih _ r2]
 rw[show its.toArray.any g=its.any g by simp,this ws its r];exact q
end
theorem aH.ints {ok:Addr->Prop}{H:Hp}:∀{xs:List V}{is:List Int},aH ok H xs (is.map A1.int)->xs=is.map V.int
 | _,[],.nil=>rfl
 | _,i::is,.cons h r=>by
  cases h;rw[r.ints];rfl
theorem jR {d:A1}{z:Str}(h:dH d z=true):d=.str z:=by
 cases d with
 | str w=>
  have:w=z:=of_decide_eq_true (show decide (w=z)=true from h);rw[this]
 | _=>exact absurd h A3
theorem FN:(("is" : Str) = "below")=False:=eq_false ψ
theorem Jl:(("is" : Str) = "mask")=False:=eq_false ψ
theorem vU:(("within" : Str) = "below")=False:=eq_false ψ
theorem xR:(("within" : Str) = "mask")=False:=eq_false ψ
theorem zL:(("mask" : Str) = "below")=False:=eq_false ψ
theorem zK:(("pick" : Str) = "below")=False:=eq_false ψ
theorem CK:(("pick" : Str) = "mask")=False:=eq_false ψ
theorem zJ:(("pick" : Str) = "table")=False:=eq_false ψ
theorem xT:(("table" : Str) = "below")=False:=eq_false ψ
theorem zH:(("table" : Str) = "mask")=False:=eq_false ψ
noncomputable def rdW:=AC @FN (AC @Jl (AC @vU (AC @xR (AC @zL (AC @zK (AC @CK (AC @zJ (AC @xT @zH))))))))
theorem abJ {K:AD}{a:Addr}{xs:List V}{g:TG}{tb:TS}{D:Ends}{σ:St}{H:Hp}{R:It->Hp->Prop}(hR:R=(fun J H1=>∃W:Nat->Nat->St->Hp->Prop,(∃m,W 0 m σ H1)/\∀i m σ H,W i m σ H ->
  (J.stop i H/\D.nx σ H)\/(J.go i H/\∃N:St->Hp->Prop,(∀σ' H',N σ' H'->∃m',m'<m/\W (i+1) m' σ' H')/\∀x H',J.yld i H x H'->g x σ H' fun σ2 H2=>tb { D with nx:=N,ct:=N,bk:=D.nx } σ2 H2)))
  (Pv:Nat->St->Hp->Prop) (h0:Pv 0 σ H) (hl:∀i σ H,Pv i σ H->H a=some (.lst xs))
  (hs:∀(i:Nat) x σ H p,xs[i]?=some x->Pv i σ H->H p=none->g (.ref p) σ (upd H p (.tup [.int (i:Nat),x])) fun σ2 H2=>tb { D with nx:=Pv (i+1),ct:=Pv (i+1),bk:=D.nx } σ2 H2) (hd:∀σ H,Pv xs.length σ H->D.nx σ H):R (Ite K a) H:=by
 refine Uz hR xs.length Pv h0 (fun i σ H hi p=>?_) (fun σ H p=>?_) (fun i σ H x H3 hi p y=>?_) hd
 ·exact⟨xs,_,SqL.of (hl i σ H p),AF hi⟩
 ·exact⟨xs,SqL.of (hl _ σ H p),EE (AZ _)⟩
 obtain⟨q,x1,rfl,hq,rfl,hx⟩:=y;exact hs i x1 σ H q (hx _ (SqL.of (hl i σ H p))) p hq
theorem lU {H:Hp}{l p:Addr}{o:HO}(h:upd H l o p=none):H p=none/\p≠l:=by
 have hp:p≠l:=fun z=>by rw[z,aq] at h;cases h
 rw[aJ hp] at h;exact⟨h,hp⟩
theorem Same.none {H H':Hp}(s:Same H H'){p:Addr}(h:H' p=none):H p=none:=by
 cases e:H p with
 | none=>rfl
 | some o=>rw[s _ _ e] at h;cases h
mutual
noncomputable def szB:A1->Bool
 | .none=>true
 | .bool _=>true
 | .int i=>decide (i.natAbs<=10^20)
 | .str x=>decide (x.length<=30)&&x.cps.toList.all fun c=>decide (c<16^8)
 | .list ds=>decide (ds.length<=210)&&Zj ds
 | .tuple ds=>decide (ds.length<=210)&&Zj ds
 | .dict _=>false
noncomputable def Zj:List A1->Bool
 | []=>true
 | d::ds=>szB d&&Zj ds
end
theorem wM {prog:AR}{w:Bi}{A:Bz}{E:Ap->AB->Prop}{s:AB}{z TI TO i1 i2 l1 l2:Addr}{k1 k2:Nat}{xs ys:Array Ap}{x y a b:Ap}{Q:Ap->AB->Prop}(D:E3 z TI TO i1 i2 l1 l2)(hz:JO s.heap z TI TO Ap.none)(hTI:Cs s.heap TI (Ap.ref i1) (Ap.ref i2))(hTO:Cs s.heap TO a b)
  (h1:s.heap.IsTupleIter i1 l1 k1) (h2:s.heap.IsTupleIter i2 l2 k2) (hl1:s.heap.IsTuple l1 xs) (hl2:s.heap.IsTuple l2 ys) (hx:xs[k1]?=some x) (hy:ys[k2]?=some y)
  (hQ:∀h':Heap,JO h' z TI TO (DT s.heap.objs.size)->Cs h' TO x y->h'.IsTupleIter i1 l1 (k1+1)->h'.IsTupleIter i2 l2 (k2+1)->Cs h' s.heap.objs.size x y->h'.objs.size=s.heap.objs.size+1->(∀c o,c≠z->c≠TO->c≠i1->c≠i2->s.heap.get? c=some o->h'.get? c=some o)->Q (Ap.ref s.heap.objs.size) { s with heap:=h' }) :
  AG (AW prog w) A (AI.«zip.__next__» { pos:=[Ap.ref z] }) (fun fin s'=>∃v,fin=Fin.done (Flow.ret v)/\Q v s') E s:=by
 show AG _ _ (Kn (Ap.ref z) 2 >>= _) _ _ _;refine An (B3 hz rfl rfl ?_);show AG _ _ (Kn (Ap.ref z) 3 >>= _) _ _ _;refine An (B3 hz rfl rfl ?_);refine An (B4 hTI rfl ?_);show AG _ _ (AI.SmallTypes.ownedTupleIsFree (Ap.ref z) >>= _) _ _ _;refine An ?_;show AG _ _ (Kn (Ap.ref z) 0 >>= _) _ _ _;refine An (B3 hz rfl rfl (Au ?_));show AG _ _ (rule _ >>= _) _ _ _;refine An (DS (An (B3 hz rfl rfl ?_)));show AG _ _ (EZ (Ap.ref z) 0 Ap.ellipsis >>= _) _ _ _;refine An (BU hz (EC (Ex 4)) fun h₁ hz₁ hs₁=>?_);have old1:∀c o,c≠z->s.heap.get? c=some o->h₁.get? c=some o:=fun c o hc e=>(hs₁.2 c hc).trans e;have h1a:h₁.IsTupleIter i1 l1 k1:=h1.at fun o e=>old1 i1 o D.i1z e;have h2a:h₁.IsTupleIter i2 l2 k2:=h2.at fun o e=>old1 i2 o D.i2z e;have tup:∀{h:Heap}{l:Addr}{vs:Array Ap},s.heap.IsTuple l vs->(∀o,s.heap.get? l=some o->h.get? l=some o)->h.IsTuple l vs:=fun⟨o,e,r⟩ k=>⟨o,k o e,r⟩;refine An ?_;show AG _ _ (forIn [(Ap.ref i1,0),(Ap.ref i2,1)] (none,()) _) _ _ _;rw[DV];refine An ?_;show AG _ _ ((IA (AI.SmallTypes.nextOf (Ap.ref i1) >>= fun v=>pure (some v)) (fun _=>EZ (Ap.ref z) 0 Ap.none)) >>= _) _ _ _;refine An (FY (An (eN (s:={ s with heap:=h₁ }) h1a (tup hl1 fun o e=>old1 l1 o D.l1z e) hx fun h₂ h1b sb₂=>Au ?_)));have old2:∀c o,c≠z->c≠i1->s.heap.get? c=some o->h₂.get? c=some o:=fun c o hc hc1 e=>(sb₂.2 c hc1).trans (old1 c o hc e);have hTO2:Cs h₂ TO a b:=old2 TO _ D.TOz D.TOi1 hTO;show AG _ _ (IJ (Ap.ref TO) >>= _) _ _ _;refine An (B4 (s:={ s with heap:=h₂ }) hTO2 rfl ?_);show AG _ _ (IL TO _ >>= _) _ _ _;refine An (FM (s:={ s with heap:=h₂ }) hTO2 fun h₃ g₃ sb₃=>?_);refine An (Kt (Au ?_));show AG _ _ (forIn [(Ap.ref i2,1)] (none,()) _) _ _ _;rw[DV];refine An ?_;have old3:∀c o,c≠z->c≠i1->c≠TO->s.heap.get? c=some o->h₃.get? c=some o:=fun c o hc hc1 hc2 e=>(sb₃.2 c hc2).trans (old2 c o hc hc1 e);have h2c:h₃.IsTupleIter i2 l2 k2:=h2.at fun o e=>old3 i2 o D.i2z (BA D.i12) (BA D.TOi2) e;have g₃':Cs h₃ TO x b:=g₃;show AG _ _ ((IA (AI.SmallTypes.nextOf (Ap.ref i2) >>= fun v=>pure (some v)) (fun _=>EZ (Ap.ref z) 0 Ap.none)) >>= _) _ _ _;refine An (FY (An (eN (s:={ s with heap:=h₃ }) h2c (tup hl2 fun o e=>old3 l2 o D.l2z D.l2i1 D.l2TO e) hy fun h₄ h2d sb₄=>Au ?_)));have hTO4:Cs h₄ TO x b:=(sb₄.2 TO D.TOi2).trans g₃';show AG _ _ (IJ (Ap.ref TO) >>= _) _ _ _;refine An (B4 (s:={ s with heap:=h₄ }) hTO4 rfl ?_);show AG _ _ (IL TO _ >>= _) _ _ _
 refine An (FM (s:={ s with heap:=h₄ }) hTO4 fun h₅ g₅ sb₅=>?_);refine An (Kt (Au ?_));have g₅':Cs h₅ TO x y:=g₅;show AG _ _ (forIn [] (none,()) _) _ _ _;rw[forIn_nil];refine Au ?_;show AG _ _ (IJ (Ap.ref TO) >>= _) _ _ _;refine An (B4 (s:={ s with heap:=h₅ }) g₅' rfl ?_);show AG _ _ (IM [x,y] >>= _) _ _ _;refine An (E5 ?_ (by show 2<=AL;decide));have sz:h₅.objs.size=s.heap.objs.size:=by
  rw[sb₅.1,sb₄.1,sb₃.1,sb₂.1,hs₁.1]
 have z5:h₅.get? z=_:=(sb₅.2 z (BA D.TOz)).trans ((sb₄.2 z (BA D.i2z)).trans ((sb₃.2 z (BA D.TOz)).trans ((sb₂.2 z (BA D.i1z)).trans hz₁)));have z6:(h₅.push { cls:=Ap.type "tuple",data:=DE #[x,y] }).get? z=_:=AA _ z5;refine An ?_;show AG _ _ (EZ (Ap.ref z) 0 (DT h₅.objs.size) >>= fun _=>EZ (Ap.ref z) 1 (Ap.bool false)) _ _ _;refine An (BU (s:={ s with heap:=h₅.push { cls:=Ap.type "tuple",data:=DE #[x,y] } }) z6 (EC (Ex 4)) fun h₇ hz₇ hs₇=>?_);refine BU (s:={ s with heap:=h₇ }) hz₇ (EC (Ex 3)) fun h₈ hz₈ hs₈=>?_;have nzs:s.heap.objs.size≠z:=fun q=>by
  have:=A4 hz;rw[<- q] at this;exact DD _ this
 have old6:∀c o,h₅.get? c=some o->(h₅.push { cls:=Ap.type "tuple",data:=DE #[x,y] }).get? c=some o:=fun c o e=>AA _ e;have old8:∀c o,c≠z->h₅.get? c=some o->h₈.get? c=some o:=fun c o hc e=>(hs₈.2 c hc).trans ((hs₇.2 c hc).trans (old6 c o e));have new8:h₈.get? s.heap.objs.size=some { cls:=Ap.type "tuple",data:=DE #[x,y] }:=by
  refine(hs₈.2 _ nzs).trans ((hs₇.2 _ nzs).trans ?_);show(h₅.push { cls:=Ap.type "tuple",data:=DE #[x,y] }).get? s.heap.objs.size=_;rw[<- sz];exact AQ _ rfl
 refine Au ⟨_,rfl,?_⟩;rw[show(({ s with heap:=h₅ }:AB).heap.objs.size)=s.heap.objs.size from sz];refine hQ h₈ ?_ ?_ ?_ ?_ new8 ?_ ?_
 ·rw[sz] at hz₈;exact hz₈
 ·exact old8 TO _ D.TOz g₅'
 ·refine h1b.at fun o e=>old8 i1 o D.i1z ?_;exact(sb₅.2 i1 (BA D.TOi1)).trans ((sb₄.2 i1 D.i12).trans ((sb₃.2 i1 (BA D.TOi1)).trans e))
 ·refine h2d.at fun o e=>old8 i2 o D.i2z ?_;exact(sb₅.2 i2 (BA D.TOi2)).trans e
 ·rw[hs₈.1,hs₇.1];show(h₅.push { cls:=Ap.type "tuple",data:=DE #[x,y] }).objs.size=_;rw[B9,sz]
 intro c o hc1 hc2 hc3 hc4 e;exact old8 c o hc1 ((sb₅.2 c hc2).trans ((sb₄.2 c hc4).trans (old3 c o hc1 hc3 hc2 e)))
theorem mU {prog:AR}{w:Bi}{A:Bz}{E:Ap->AB->Prop}{s:AB}{z TI TO i1 i2 l1 l2:Addr}{k1 k2:Nat}{xs ys:Array Ap}{x y a b:Ap}{Q:Option Ap->AB->Prop}(D:E3 z TI TO i1 i2 l1 l2)(hz:JO s.heap z TI TO Ap.none)(hTI:Cs s.heap TI (Ap.ref i1) (Ap.ref i2))(hTO:Cs s.heap TO a b)
  (h1:s.heap.IsTupleIter i1 l1 k1) (h2:s.heap.IsTupleIter i2 l2 k2) (hl1:s.heap.IsTuple l1 xs) (hl2:s.heap.IsTuple l2 ys) (hx:xs[k1]?=some x) (hy:ys[k2]?=some y)
  (hQ:∀h':Heap,JO h' z TI TO (DT s.heap.objs.size)->Cs h' TO x y->h'.IsTupleIter i1 l1 (k1+1)->h'.IsTupleIter i2 l2 (k2+1)->Cs h' s.heap.objs.size x y->h'.objs.size=s.heap.objs.size+1->(∀c o,c≠z->c≠TO->c≠i1->c≠i2->s.heap.get? c=some o->h'.get? c=some o)->Q (some (Ap.ref s.heap.objs.size)) { s with heap:=h' }) :
  AG (AW prog w) A (EO (Ap.ref z)) Q E s:=by
 have hT:∃o,s.heap.get? z=some o/\o.cls=Ap.type "zip" := ⟨_,hz,rfl⟩;exact An (Db (BS hT DL (Cc DL hT GI
  (wM D hz hTI hTO h1 h2 hl1 hl2 hx hy fun h' a1 a2 a3 a4 a5 a6 a7=>Au (hQ h' a1 a2 a3 a4 a5 a6 a7)) (Gc (Ap.ref z)))))
theorem zj {prog:AR}{w:Bi}{A:Bz}{E:Ap->AB->Prop}{s:AB}{z TI TO i1 i2 l1 l2:Addr}{k1 k2:Nat}{xs ys:Array Ap}{a b:Ap}{Q:PySem.Fin->AB->Prop}(hh:A.handled=none)(D:E3 z TI TO i1 i2 l1 l2)(hz:JO s.heap z TI TO Ap.none)(hTI:Cs s.heap TI (Ap.ref i1) (Ap.ref i2))(hTO:Cs s.heap TO a b)
  (h1:s.heap.IsTupleIter i1 l1 k1) (h2:s.heap.IsTupleIter i2 l2 k2) (hl1:s.heap.IsTuple l1 xs) (hl2:s.heap.IsTuple l2 ys) (hend:xs[k1]?=none\/ys[k2]?=none)
  (hE:∀(h':Heap)(e:Addr),(∀c o,c≠z->c≠TO->c≠i1->c≠i2->s.heap.get? c=some o->h'.get? c=some o)->(∃o,h'.get? e=some o/\o.cls=Ap.type "StopIteration")->E (Ap.ref e) { s with heap:=h' }) :
  AG (AW prog w) A (AI.«zip.__next__» { pos:=[Ap.ref z] }) Q E s:=by
 show AG _ _ (Kn (Ap.ref z) 2 >>= _) _ _ _;refine An (B3 hz rfl rfl ?_);show AG _ _ (Kn (Ap.ref z) 3 >>= _) _ _ _;refine An (B3 hz rfl rfl ?_);refine An (B4 hTI rfl ?_);show AG _ _ (AI.SmallTypes.ownedTupleIsFree (Ap.ref z) >>= _) _ _ _;refine An ?_;show AG _ _ (Kn (Ap.ref z) 0 >>= _) _ _ _;refine An (B3 hz rfl rfl (Au ?_));show AG _ _ (rule _ >>= _) _ _ _;refine An (DS (An (B3 hz rfl rfl ?_)));show AG _ _ (EZ (Ap.ref z) 0 Ap.ellipsis >>= _) _ _ _;refine An (BU hz (EC (Ex 4)) fun h₁ hz₁ hs₁=>?_);have old1:∀c o,c≠z->s.heap.get? c=some o->h₁.get? c=some o:=fun c o hc e=>(hs₁.2 c hc).trans e;have h1a:h₁.IsTupleIter i1 l1 k1:=h1.at fun o e=>old1 i1 o D.i1z e;have tup:∀{h:Heap}{l:Addr}{vs:Array Ap},s.heap.IsTuple l vs->(∀o,s.heap.get? l=some o->h.get? l=some o)->h.IsTuple l vs:=fun⟨o,e,r⟩ k=>⟨o,k o e,r⟩;have out:∀{h:Heap}{e:Addr}{vs:Array Ap},h.get? z=some { cls:=Ap.type "zip",data:=Cn vs }->0<vs.size->(∀c o,c≠z->c≠TO->c≠i1->c≠i2->s.heap.get? c=some o->h.get? c=some o)->(∃o,h.get? e=some o/\o.cls=Ap.type "StopIteration") ->
   AG (AW prog w) A (EZ (Ap.ref z) 0 Ap.none) (fun _ s''=>E (Ap.ref e) s'') E { s with heap:=h }:=fun {h e vs} ez hv hk he=>by
  refine BU (s:={ s with heap:=h }) ez hv fun h' _ hs=>hE h' e (fun c o c1 c2 c3 c4 g=>(hs.2 c c1).trans (hk c o c1 c2 c3 c4 g)) ?_;obtain⟨o,ho,hc⟩:=he;refine⟨o,(hs.2 e fun q=>?_).trans ho,hc⟩;rw[q,ez] at ho;cases ho;injection hc with hc;exact absurd hc δ
 refine An ?_;show AG _ _ (forIn [(Ap.ref i1,0),(Ap.ref i2,1)] (none,()) _) _ _ _;rw[DV];refine An ?_;show AG _ _ ((IA (AI.SmallTypes.nextOf (Ap.ref i1) >>= fun v=>pure (some v)) (fun _=>EZ (Ap.ref z) 0 Ap.none)) >>= _) _ _ _;cases hx:xs[k1]? with
 | none=>
  refine An (FY (An (gb (s:={ s with heap:=h₁ }) hh h1a (tup hl1 fun o e=>old1 l1 o D.l1z e) hx fun h₂ e ext he=>?_)));exact out (h:=h₂) (ext z _ (BA D.i1z) hz₁) (EC (Ex 4)) (fun c o c1 c2 c3 c4 g=>ext c o c3 (old1 c o c1 g)) he
 | some x=>
  have hy:ys[k2]?=none:=by
   rcases hend with q|q
   ·rw[hx] at q;cases q
   exact q
  refine An (FY (An (eN (s:={ s with heap:=h₁ }) h1a (tup hl1 fun o e=>old1 l1 o D.l1z e) hx fun h₂ h1b sb₂=>Au ?_)));have old2:∀c o,c≠z->c≠i1->s.heap.get? c=some o->h₂.get? c=some o:=fun c o hc hc1 e=>(sb₂.2 c hc1).trans (old1 c o hc e);have hTO2:Cs h₂ TO a b:=old2 TO _ D.TOz D.TOi1 hTO;show AG _ _ (IJ (Ap.ref TO) >>= _) _ _ _;refine An (B4 (s:={ s with heap:=h₂ }) hTO2 rfl ?_);show AG _ _ (IL TO _ >>= _) _ _ _;refine An (FM (s:={ s with heap:=h₂ }) hTO2 fun h₃ g₃ sb₃=>?_);refine An (Kt (Au ?_));show AG _ _ (forIn [(Ap.ref i2,1)] (none,()) _) _ _ _;rw[DV];refine An ?_;have old3:∀c o,c≠z->c≠i1->c≠TO->s.heap.get? c=some o->h₃.get? c=some o:=fun c o hc hc1 hc2 e=>(sb₃.2 c hc2).trans (old2 c o hc hc1 e);have h2c:h₃.IsTupleIter i2 l2 k2:=h2.at fun o e=>old3 i2 o D.i2z (BA D.i12) (BA D.TOi2) e;have z3:h₃.get? z=_:=(sb₃.2 z (BA D.TOz)).trans ((sb₂.2 z (BA D.i1z)).trans hz₁);show AG _ _ ((IA (AI.SmallTypes.nextOf (Ap.ref i2) >>= fun v=>pure (some v)) (fun _=>EZ (Ap.ref z) 0 Ap.none)) >>= _) _ _ _;refine An (FY (An (gb (s:={ s with heap:=h₃ }) hh h2c (tup hl2 fun o e=>old3 l2 o D.l2z D.l2i1 D.l2TO e) hy fun h₄ e ext he=>?_)));exact out (h:=h₄) (ext z _ (BA D.i2z) z3) (EC (Ex 4)) (fun c o c1 c2 c3 c4 g=>ext c o c4 (old3 c o c1 c3 c2 g)) he
theorem oH {prog:AR}{w:Bi}{A:Bz}{E:Ap->AB->Prop}{s:AB}{z TI TO i1 i2 l1 l2:Addr}{k1 k2:Nat}{xs ys:Array Ap}{a b:Ap}{Q:Option Ap->AB->Prop}(hh:A.handled=none)(D:E3 z TI TO i1 i2 l1 l2)(hz:JO s.heap z TI TO Ap.none)(hTI:Cs s.heap TI (Ap.ref i1) (Ap.ref i2))(hTO:Cs s.heap TO a b)
  (h1:s.heap.IsTupleIter i1 l1 k1) (h2:s.heap.IsTupleIter i2 l2 k2) (hl1:s.heap.IsTuple l1 xs) (hl2:s.heap.IsTuple l2 ys) (hend:xs[k1]?=none\/ys[k2]?=none)
  (hQ:∀h':Heap,(∀c o,c≠z->c≠TO->c≠i1->c≠i2->s.heap.get? c=some o->h'.get? c=some o)->Q none { s with heap:=h' }):AG (AW prog w) A (EO (Ap.ref z)) Q E s:=by
 have hT:∃o,s.heap.get? z=some o/\o.cls=Ap.type "zip" := ⟨_,hz,rfl⟩;exact An (Db (BS hT DL (Cc DL hT GI
  (zj hh D hz hTI hTO h1 h2 hl1 hl2 hend fun h' e hk he=>by
   obtain⟨o,ho,hc⟩:=he;exact An (DZ ⟨o,ho,hc⟩ Kx (Au (hQ h' hk)))) (Gc (Ap.ref z)))))
noncomputable def tz1 (h:Heap) (l1:Addr):Heap:=h.push { cls:=Ap.type "tuple_iterator",data:=Cn #[Ap.ref l1,Ap.int 0 0] }
noncomputable def tz2 (h:Heap) (l1 l2:Addr):Heap:=(tz1 h l1).push { cls:=Ap.type "tuple_iterator",data:=Cn #[Ap.ref l2,Ap.int 0 0] }
noncomputable def tz3 (h:Heap) (l1 l2:Addr):Heap:=(tz2 h l1 l2).push { cls:=Ap.type "tuple",data:=DE #[Ap.ref h.objs.size,Ap.ref (tz1 h l1).objs.size] }
noncomputable def tz4 (h:Heap) (l1 l2:Addr):Heap:=(tz3 h l1 l2).push { cls:=Ap.type "tuple",data:=DE #[Ap.none,Ap.none] }
noncomputable def tz5 (h:Heap) (l1 l2:Addr):Heap:=(tz4 h l1 l2).push { cls:=Ap.type "zip",data:=Cn #[Ap.none,Ap.bool false,Ap.bool false,Ap.ref (tz2 h l1 l2).objs.size,Ap.ref (tz3 h l1 l2).objs.size] }
theorem P0 (l1 l2:Addr) (xs ys:Array Ap):Meets (AI.«zip.__new__» { pos:=[Ap.type "zip",Ap.ref l1,Ap.ref l2] }) fun _ R s=>
  s.heap.IsTuple l1 xs/\s.heap.IsTuple l2 ys/\R (.ok (.ret (.ref (tz4 s.heap l1 l2).objs.size))) { s with heap:=tz5 s.heap l1 l2 }:=by
 refine Iy fun prog w A R s h=>?_;obtain⟨ht1,ht2,hR⟩:=h;unfold AI.«zip.__new__» AI.SmallTypes.newClass;refine An (An (Au (AY rfl (An (Da sub_zip (AY rfl (Au ?_)))))));show AG _ _ (AI.SmallTypes.iterAll [Ap.ref l1,Ap.ref l2] >>= _) _ _ _;refine An ?_;unfold AI.SmallTypes.iterAll;refine An ?_;rw[DV];refine An (An (BD (EI ht1 (Au ?_))));show AG _ _ (forIn [Ap.ref l2] #[Ap.ref s.heap.objs.size] _) _ _ _;rw[DV];have ht2':(tz1 s.heap l1).IsTuple l2 ys:=by
  obtain⟨o,e,r⟩:=ht2;exact⟨o,AA _ e,r⟩
 refine An (An (BD (EI (s:={ s with heap:=tz1 s.heap l1 }) ht2' (Au ?_))));show AG _ _ (forIn [] #[Ap.ref s.heap.objs.size,Ap.ref (tz1 s.heap l1).objs.size] _) _ _ _;rw[forIn_nil];refine Au (Au ?_);show AG _ _ (IM [Ap.ref s.heap.objs.size,Ap.ref (tz1 s.heap l1).objs.size] >>= _) _ _ { s with heap:=tz2 s.heap l1 l2 };refine An (E5 ?_ (by show 2<=AL;decide));show AG _ _ (IM [Ap.none,Ap.none] >>= _) _ _ { s with heap:=tz3 s.heap l1 l2 };refine An (E5 ?_ (by show 2<=AL;decide));show AG _ _ (newObj (.type "zip") (.fields #[.none,.bool false,.bool false,.ref (tz2 s.heap l1 l2).objs.size,.ref (tz3 s.heap l1 l2).objs.size]) >>= fun r=>ret r) _ _ { s with heap:=tz4 s.heap l1 l2 };refine An (BF ?_);exact Au ⟨_,rfl,hR⟩
theorem vM {prog:AR}{w:Bi}{A:Bz}{E:Ap->AB->Prop}{s:AB}{l1 l2:Addr}{xs ys:Array Ap}{Q:Ap->AB->Prop}(hl1:s.heap.IsTuple l1 xs)(hl2:s.heap.IsTuple l2 ys)
  (h:∀h':Heap,JO h' (s.heap.objs.size+4) (s.heap.objs.size+2) (s.heap.objs.size+3) Ap.none->Cs h' (s.heap.objs.size+2) (Ap.ref s.heap.objs.size) (Ap.ref (s.heap.objs.size+1))->Cs h' (s.heap.objs.size+3) Ap.none Ap.none->h'.IsTupleIter s.heap.objs.size l1 0->h'.IsTupleIter (s.heap.objs.size+1) l2 0 ->
   h'.objs.size=s.heap.objs.size+5->(∀c o,s.heap.get? c=some o->h'.get? c=some o)->Q (Ap.ref (s.heap.objs.size+4)) { s with heap:=h' }):AG (AW prog w) A (call (Ap.type "zip") [Ap.ref l1,Ap.ref l2]) Q E s:=by
 refine callType_new F.called_zip δ (F.typeCall_zip_2 _ _) (F.newCall_zip_2 _ _) (fun obj=>F.args_object_init_3 obj _ _) F.entry_zip_new (P0 l1 l2 xs ys) ⟨hl1,hl2,?_⟩;have z1:(tz1 s.heap l1).objs.size=s.heap.objs.size+1:=B9 ..;have z2:(tz2 s.heap l1 l2).objs.size=s.heap.objs.size+2:=(B9 ..).trans (by rw[z1]);have z3:(tz3 s.heap l1 l2).objs.size=s.heap.objs.size+3:=(B9 ..).trans (by rw[z2]);have z4:(tz4 s.heap l1 l2).objs.size=s.heap.objs.size+4:=(B9 ..).trans (by rw[z3]);have z5:(tz5 s.heap l1 l2).objs.size=s.heap.objs.size+5:=(B9 ..).trans (by rw[z4]);have g5:(tz5 s.heap l1 l2).get? (tz4 s.heap l1 l2).objs.size=_:=AQ _ rfl;have g4:(tz5 s.heap l1 l2).get? (tz3 s.heap l1 l2).objs.size=_:=AA _ (AQ _ rfl);have g3:(tz5 s.heap l1 l2).get? (tz2 s.heap l1 l2).objs.size=_:=AA _ (AA _ (AQ _ rfl));have g2:(tz5 s.heap l1 l2).get? (tz1 s.heap l1).objs.size=_:=AA _ (AA _ (AA _ (AQ _ rfl)));have g1:(tz5 s.heap l1 l2).get? s.heap.objs.size=_:=AA _ (AA _ (AA _ (AA _ (AQ _ rfl))));have hk:∀c o,s.heap.get? c=some o->(tz5 s.heap l1 l2).get? c=some o:=fun c o e=>AA _ (AA _ (AA _ (AA _ (AA _ e))));rw[z4,z2,z3] at g5;rw[z3] at g4;rw[z2,z1] at g3;rw[z1] at g2;rw[z4];generalize tz5 s.heap l1 l2=h' at z5 g5 g4 g3 g2 g1 hk;exact⟨⟨_,g5,rfl⟩,h h' g5 g3 g4 ⟨_,g1,rfl,rfl⟩ ⟨_,g2,rfl,rfl⟩ z5 hk⟩
noncomputable def Itu (K:AD)(a b:Addr):It:=
 ⟨fun i H=>∃xs ys x y,SqT K H a xs/\SqT K H b ys/\xs[i]?=some x/\ys[i]?=some y,
  fun i H v H'=>∃p x y,v=.ref p/\H p=none/\H'=upd H p (.tup [x,y])/\(∀xs,SqT K H a xs->xs[i]?=some x)/\∀ys,SqT K H b ys->ys[i]?=some y,
  fun i H=>∃xs ys,SqT K H a xs/\SqT K H b ys/\(xs[i]?=none\/ys[i]?=none)⟩
theorem MT {P:AR}{w:Bi}{K:AD}{es:List Expr}{kk:Nat}{tpos:Pos}{z TI TO i1 i2 l1 l2:Addr}(D:E3 z TI TO i1 i2 l1 l2) :
  Turn P w K (.Tuple es kk tpos) (Itu K l1 l2) [z,TI,TO,i1,i2] z (fun i h=>JO h z TI TO .none/\Cs h TI (.ref i1) (.ref i2)/\(∃a b,Cs h TO a b)/\h.IsTupleIter i1 l1 i/\h.IsTupleIter i2 l2 i) where
 mem:=by simp
 obj:=fun i h st b hb=>by
  obtain⟨hz,hTI,⟨a,b',hTO⟩,⟨o1,e1,c1,d1⟩,⟨o2,e2,c2,d2⟩⟩:=st;simp only[A5,A9,or_false] at hb;rcases hb with rfl|rfl|rfl|rfl|rfl
  ·exact⟨_,hz,fun v q=>by cases q⟩
  ·exact⟨_,hTI,fun v q=>by cases q⟩
  ·exact⟨_,hTO,fun v q=>by cases q⟩
  ·exact⟨o1,e1,fun v q=>by rw[d1] at q;cases q⟩
  exact⟨o2,e2,fun v q=>by rw[d2] at q;cases q⟩
 keep:=fun i h h' st k=>by
  obtain⟨hz,hTI,⟨a,b',hTO⟩,h1,h2⟩:=st;exact⟨k z (by simp) _ hz,k TI (by simp) _ hTI,⟨a,b',k TO (by simp) _ hTO⟩,h1.at fun o e=>k i1 (by simp) o e,h2.at fun o e=>k i2 (by simp) o e⟩
 item:=by
  intro X hP hw hK hc i pins s σ H E I hf st hg;subst hP hw hK;obtain⟨xs,ys,x,y,q1,q2,hx,hy⟩:=hg;obtain⟨its1,rv1,p1,hz1⟩:=I.tuple q1;obtain⟨its2,rv2,p2,hz2⟩:=I.tuple q2;obtain⟨u1,hu1,ru1⟩:=rv1.get hx;obtain⟨u2,hu2,ru2⟩:=rv2.get hy;obtain⟨hz,hTI,⟨a,b',hTO⟩,h1,h2⟩:=st;refine mU D hz hTI hTO h1 h2 p1 p2 (x:=u1) (y:=u2) (by simpa using hu1) (by simpa using hu2) fun h' a1 a2 a3 a4 a5 a6 hk=>?_;have new:cZ X.prog X.w (upd H s.heap.objs.size (.tup [x,y])) h' s.heap.objs.size (.tup [x,y]):=⟨by show 2<=AL;decide,[u1,u2],.cons ru1 (.cons ru2 .nil),_,a5,rfl,_,rfl⟩;have I1:Inv X pins σ (upd H s.heap.objs.size (.tup [x,y])) { s with heap:=h' }:=I.Qi (t':=s.toks) (ch:=[z,TO,i1,i2]) (fun b hb=>hf b (by
   simp only[A5,A9,or_false] at hb |-;rcases hb with r|r|r|r <;> simp [r]))
   (fun b o hb e=>hk b o (fun q=>hb (by simp [q])) (fun q=>hb (by simp [q])) (fun q=>hb (by simp [q])) (fun q=>hb (by simp [q])) e) (AZ _) new
  have hTI':Cs h' TI (.ref i1) (.ref i2):=hk _ _ D.TIz D.TITO D.TIi1 D.TIi2 hTI;have hsz:∀b,b∈[z,TI,TO,i1,i2]->b≠s.heap.objs.size:=fun b hb=>by
   obtain⟨_,_,hlt,_⟩:=hf b hb;have lt:∃o,s.heap.get? b=some o:=by
    simp only[A5,A9,or_false] at hb;rcases hb with rfl|rfl|rfl|rfl|rfl
    ·exact⟨_,hz⟩
    ·exact⟨_,hTI⟩
    ·exact⟨_,hTO⟩
    ·obtain⟨o,e,_⟩:=h1;exact⟨o,e⟩
    obtain⟨o,e,_⟩:=h2;exact⟨o,e⟩
   obtain⟨o,e⟩:=lt;exact B2 (A4 e)
  refine⟨_,rfl,wpAny_letOwnedTupleGo_zip (s:={ s with heap:=h' }) a1 fun h'' z2 sb=>?_⟩;have fz:=hf z (by simp);have I2:Inv X pins σ (upd H s.heap.objs.size (.tup [x,y])) { s with heap:=h'' }:=Inv.turned (s:={ s with heap:=h' }) (it:=z) (t':=s.toks) I1 (fun b o hb e=>(sb.2 b hb).trans e) (by rw[aJ (hsz z (by simp))];exact fz.1) fz.2.1 fz.2.2.2.1 fz.2.2.2.2.1 fz.2.2.2.2.2;refine⟨.ref s.heap.objs.size,_,I2,rfl,⟨_,x,y,rfl,I.fresh,rfl,fun xs' q=>by rw[I.p7 q q1];exact hx,fun ys' q=>by rw[I.p7 q q2];exact hy⟩,
   ⟨z2,(sb.2 _ D.TIz).trans hTI',⟨_,_,(sb.2 _ D.TOz).trans a2⟩,a3.extBut sb.extBut D.i1z,a4.extBut sb.extBut D.i2z⟩,fun b hb=>by rw[aJ (hsz b hb)];exact(hf b hb).1⟩
 done:=by
  intro X hP hw hK hc i pins s σ H E I hf st hg;subst hP hw hK;obtain⟨xs,ys,q1,q2,hx⟩:=hg;obtain⟨its1,rv1,p1,hz1⟩:=I.tuple q1;obtain⟨its2,rv2,p2,hz2⟩:=I.tuple q2;obtain⟨hz,hTI,⟨a,b',hTO⟩,h1,h2⟩:=st;have hend:its1.toArray[i]?=none\/its2.toArray[i]?=none:=by
   rcases hx with r|r
   ·exact .inl (by simpa using rv1.none_of r)
   exact .inr (by simpa using rv2.none_of r)
  refine oH (I.ok.hd hc) D hz hTI hTO h1 h2 p1 p2 hend fun h' hk=>⟨rfl,?_⟩;exact I.Qj (t':=s.toks) (ch:=[z,TO,i1,i2]) (fun b hb=>hf b (by
   simp only[A5,A9,or_false] at hb |-;rcases hb with r|r|r|r <;> simp [r]))
   (fun b o hb e=>hk b o (fun q=>hb (by simp [q])) (fun q=>hb (by simp [q])) (fun q=>hb (by simp [q])) (fun q=>hb (by simp [q])) e)
 self:=fun _ _ _ _ _ st h=>wpAny_pyIter_zip st.1 h
inductive RowC where
 | one (n t:Int)
 | rng (a b t:Int)
 | low (n t:Int)
 | msk (lo wd bits t:Int)
 | tab (lo:Int) (gs:List Int)
 | pik (l:Int)
noncomputable def scV:A1->Option V
 | .int i=>some (.int i)
 | .str z=>some (.str z)
 | _=>none
theorem aG.sc {ok:Addr->Prop}{H:Hp}{x v:V}{d:A1}(t:aG ok H x d)(h:scV d=some v):x=v:=by
 cases t with
 | int i=>exact BN h
 | str z=>exact BN h
 | _=>cases h
theorem aH.sc {ok:Addr->Prop}{H:Hp}:∀{xs vs:List V}{ds:List A1},aH ok H xs ds->ds.map scV=vs.map some->xs=vs
 | _,[],_,.nil,_=>rfl
 | _,v::vs,_,.nil,h=>by cases h
 | _,[],_,.cons _ _,h=>by cases h
 | _,v::vs,_,.cons t ts,h=>by
  rw[CF,CF] at h;injection h with h1 h2;rw[t.sc h1,ts.sc h2]
theorem aH.uncons {ok:Addr->Prop}{H:Hp}{xs:List V}{d:A1}{ds:List A1}(t:aH ok H xs (d::ds)):∃x r,xs=x::r/\aG ok H x d/\aH ok H r ds:=by
 cases t with
 | cons h r=>exact⟨_,_,rfl,h,r⟩
theorem aG.tupOf {ok:Addr->Prop}{H:Hp}{x:V}{ds:List A1}(t:aG ok H x (.tuple ds)):∃p xs,x=.ref p/\H p=some (.tup xs)/\aH ok H xs ds:=by
 cases t with
 | tup o e z ts=>exact⟨_,_,rfl,e,ts⟩
theorem Oh (pre:List Int)(j:Int):atI ((pre++[j]).map V.int) (-1)=some (V.int j):=by
 unfold atI ixN;rw[if_neg δ,if_pos (by rw[AE,AH,A8];omega)];show((pre++[j]).map V.int)[_]?=_;rw[show(-1+(((pre++[j]).map V.int).length:Int)).toNat=pre.length by rw[AE,AH,A8];omega,AU,BC (AZ _),Go];rfl
section
variable {X:Cx}{e o:Expr}{te to:TE}{pos:Pos}
noncomputable def ppq (ob:Option HO)(l:Addr)(H:Hp)(Q:VK):Prop:=match ob with
 | some (.lst xs)=>∃y,xs[xs.length-1]?=some y/\Q y (upd H l (.lst xs.dropLast))
 | _=>False
noncomputable def ppK (x:V)(H:Hp)(Q:VK):Prop:=match x with
 | .ref l=>ppq (H l) l H Q
 | _=>False
noncomputable def Qs (to:TE):TE:=fun σ H Q=>to σ H fun x H1=>ppK x H1 Q
theorem Qq (to:TE)(σ:St)(H:Hp)(Q:VK):Qs to σ H Q=to σ H fun x H1=>ppK x H1 Q:=rfl
theorem WN (l:Addr)(H:Hp)(Q:VK):ppK (.ref l) H Q=ppq (H l) l H Q:=rfl
theorem WM (xs:List V)(l:Addr)(H:Hp)(Q:VK):ppq (some (.lst xs)) l H Q=∃y,xs[xs.length-1]?=some y/\Q y (upd H l (.lst xs.dropLast)):=rfl
theorem W7 {apos cpos:Pos}(ho:PE X o to) (hbase:C1 o "pop" X.env (eval o X.env)=eval o X.env:=by rfl) (hline:(apos.endLine == cpos.line)=true:=by rfl) :
  PE X (.Call (.Attribute o "pop" apos) [] [] cpos) (Qs to):=by
 intro pins s σ H Q I h;refine wpAny_Call_method0_late hbase hline (thE (ho pins s σ H _ I h) fun v s1 x H1 I1 r1 q=>?_);cases x with
 | ref l=>
  replace q:ppq (H1 l) l H1 Q:=q;cases el:H1 l with
  | none=>rw[el] at q;exact q.elim
  | some ob=>
   cases ob with
   | lst xs=>
    rw[el] at q;obtain⟨y,hy,q⟩:=q;obtain⟨h1,h2⟩:=qT (T := "list") I1 r1 (.inl ⟨rfl,xs,SqL.of el⟩);exact⟨"list","list.pop",D7,PySem.F.slot_list_pop,PySem.F.type_list_pop,h1,h2,CS rfl (PySem.evalArgs_none (aau pins s1 σ H1 (.ref l) [] v [] Q I1 r1 .nil ⟨l,xs,y,rfl,rfl,el,hy,q⟩))⟩
   | _=>rw[el] at q;exact q.elim
 | _=>exact q.elim
theorem Wk {apos cpos:Pos}(ho:QE X o to) (hbase:C1 o "pop" X.env (eval o X.env)=eval o X.env:=by rfl) (hline:(apos.endLine == cpos.line)=true:=by rfl) :
  QE X (.Call (.Attribute o "pop" apos) [] [] cpos) (Qs to):=⟨W7 ho.h hbase hline⟩
noncomputable def ints1 (H:Hp)(p:Addr)(is:List Int):Prop:=H p=some (.lst (is.map V.int))\/H p=some (.tup (is.map V.int))
theorem gU {is:List Int}{its:List Ap}(r:Vals (is.map V.int) its)(i:Nat)(v:Ap)(h:its.toArray[i]?=some v):∃t,v=Ap.int (is.getD i 0) t:=by
 have hl:=r.length;rw[AE] at hl;have hi:i<its.length:=by
  rcases FX i its.length with z|z
  ·exact z
  rw[GL,EE z] at h;cases h
 have hx:(is.map V.int)[i]?=some (V.int (is.getD i 0)):=by
  rw[AU,AF ω,AN,AF ω];rfl
 obtain⟨u,hu,ru⟩:=r.get hx;rw[GL,hu] at h;cases h;exact ru
theorem qu (hc:X.calm=true):fL X (.builtin "min") (fun xs H Q=>∃p is,xs=[.ref p]/\ints1 H p is/\is≠[]/\∀M,M∈is->(∀a∈is,M<=a)->Q (.int M) H):=by
 intro pins s σ H xs us Q I r h;obtain⟨p,is,rfl,hp,hne,q⟩:=h;obtain⟨u,rfl,rv⟩:=vals1 r;cases rv;have hpos:0<is.length:=D4.mpr hne;have fin:∀{its:List Ap}(rvs:Vals (is.map V.int) its) (v:Ap) (h':Heap) (tk:Nat),its.toArray[argBest (fun i j=>decide (is.getD i 0<is.getD j 0)) (its.toArray.size-1)]?=some v->Inv X pins σ H { s with heap:=h',toks:=tk }->EP X pins σ Q v { s with heap:=h',toks:=tk }:=fun {its} rvs v h' tk hv I3=>by
  have hl:=rvs.length;rw[AE] at hl;obtain⟨t,rfl⟩:=gU rvs _ v hv;have hb:=argBest_lt (fun i=>is.getD i 0) (its.toArray.size-1);rw[AX] at hb |-;refine⟨.int _,H,I3,⟨_,rfl⟩,q _ ?_ ?_⟩
  ·rw[AN,AF ω];exact G1 _
  intro a ha;obtain⟨j,hj,e⟩:=C5.mp ha;have:=hb.2 j ω;rw[show is.getD j 0=a by rw[AN,AF hj];exact e] at this;exact this
 have kept:∀{ob:Obj}{h':Heap}{tk:Nat},(∀(b:Addr)(o:Obj),¬b∈[s.heap.objs.size]->(s.heap.push ob).get? b=some o->h'.get? b=some o)->Inv X pins σ H { s with heap:=h',toks:=tk }:=fun {ob h' tk} hk=>
  I.kept (t':=tk) fun b o e=>hk b o (fun z=>B2 (A4 e) (AK.mp z)) (AA _ e)
 rcases hp with hp|hp
 ·obtain⟨its,rvs,pl,hz⟩:=I.list (SqL.of hp);have hl:=rvs.length;rw[AE] at hl;have pl':s.heap.IsList p its.toArray:=pl.isList;have hlt:p<s.heap.objs.size:=by obtain⟨_,e,_⟩:=pl';exact A4 e
  refine call_min_walk (EW pl' ?_);refine⟨s.heap.objs.size,_,_,_,_,_,_,rfl,Walks.list (A:=X.A.in1) (I.ok.hd hc) s.heap.objs.size p (B2 hlt) its.toArray,?_,fun b hb=>?_,?_,CmpOf.ints_lt (fun i=>is.getD i 0) fun i v hv=>gU rvs i v hv,fun v h' tk hv hk=>fin rvs v h' tk hv (kept hk)⟩
  ·obtain⟨ob,e,r⟩:=pl';exact⟨⟨_,AQ _ rfl,rfl,rfl⟩,ob,AA _ e,r⟩
  ·rw[B9];simp only[A5,A9,or_false] at hb;rcases hb with rfl|rfl
   ·exact CO _
   exact C0 hlt
  rw[AX];omega
 obtain⟨its,rvs,pl,hz⟩:=I.tuple (SqT.of hp);have hl:=rvs.length;rw[AE] at hl;have pl':s.heap.IsTuple p its.toArray:=pl;have hlt:p<s.heap.objs.size:=by obtain⟨_,e,_⟩:=pl';exact A4 e
 refine call_min_walk (EI pl' ?_);refine⟨s.heap.objs.size,_,_,_,_,_,_,rfl,Walks.tuple (A:=X.A.in1) (I.ok.hd hc) s.heap.objs.size p (B2 hlt) its.toArray,?_,fun b hb=>?_,?_,CmpOf.ints_lt (fun i=>is.getD i 0) fun i v hv=>gU rvs i v hv,fun v h' tk hv hk=>fin rvs v h' tk hv (kept hk)⟩
 ·obtain⟨ob,e,r⟩:=pl';exact⟨⟨_,AQ _ rfl,rfl,rfl⟩,ob,AA _ e,r⟩
 ·rw[B9];simp only[A5,A9,or_false] at hb;rcases hb with rfl|rfl
  ·exact CO _
  exact C0 hlt
 rw[AX];omega
theorem Bu (hc:X.calm=true):fL X (.builtin "max") (fun xs H Q=>∃p is,xs=[.ref p]/\ints1 H p is/\is≠[]/\∀M,M∈is->(∀a∈is,a<=M)->Q (.int M) H):=by
 intro pins s σ H xs us Q I r h;obtain⟨p,is,rfl,hp,hne,q⟩:=h;obtain⟨u,rfl,rv⟩:=vals1 r;cases rv;have hpos:0<is.length:=D4.mpr hne;have fin:∀{its:List Ap}(rvs:Vals (is.map V.int) its) (v:Ap) (h':Heap) (tk:Nat),its.toArray[argBest (fun i j=>decide (is.getD i 0>is.getD j 0)) (its.toArray.size-1)]?=some v->Inv X pins σ H { s with heap:=h',toks:=tk }->EP X pins σ Q v { s with heap:=h',toks:=tk }:=fun {its} rvs v h' tk hv I3=>by
  have hl:=rvs.length;rw[AE] at hl;obtain⟨t,rfl⟩:=gU rvs _ v hv;have hb:=argBest_gt (fun i=>is.getD i 0) (its.toArray.size-1);rw[AX] at hb |-;refine⟨.int _,H,I3,⟨_,rfl⟩,q _ ?_ ?_⟩
  ·rw[AN,AF ω];exact G1 _
  intro a ha;obtain⟨j,hj,e⟩:=C5.mp ha;have:=hb.2 j ω;rw[show is.getD j 0=a by rw[AN,AF hj];exact e] at this;exact this
 have kept:∀{ob:Obj}{h':Heap}{tk:Nat},(∀(b:Addr)(o:Obj),¬b∈[s.heap.objs.size]->(s.heap.push ob).get? b=some o->h'.get? b=some o)->Inv X pins σ H { s with heap:=h',toks:=tk }:=fun {ob h' tk} hk=>
  I.kept (t':=tk) fun b o e=>hk b o (fun z=>B2 (A4 e) (AK.mp z)) (AA _ e)
 rcases hp with hp|hp
 ·obtain⟨its,rvs,pl,hz⟩:=I.list (SqL.of hp);have hl:=rvs.length;rw[AE] at hl;have pl':s.heap.IsList p its.toArray:=pl.isList;have hlt:p<s.heap.objs.size:=by obtain⟨_,e,_⟩:=pl';exact A4 e
  refine call_max_walk (EW pl' ?_);refine⟨s.heap.objs.size,_,_,_,_,_,_,rfl,Walks.list (A:=X.A.in1) (I.ok.hd hc) s.heap.objs.size p (B2 hlt) its.toArray,?_,fun b hb=>?_,?_,CmpOf.ints_gt (fun i=>is.getD i 0) fun i v hv=>gU rvs i v hv,fun v h' tk hv hk=>fin rvs v h' tk hv (kept hk)⟩
  ·obtain⟨ob,e,r⟩:=pl';exact⟨⟨_,AQ _ rfl,rfl,rfl⟩,ob,AA _ e,r⟩
  ·rw[B9];simp only[A5,A9,or_false] at hb;rcases hb with rfl|rfl
   ·exact CO _
   exact C0 hlt
  rw[AX];omega
 obtain⟨its,rvs,pl,hz⟩:=I.tuple (SqT.of hp);have hl:=rvs.length;rw[AE] at hl;have pl':s.heap.IsTuple p its.toArray:=pl;have hlt:p<s.heap.objs.size:=by obtain⟨_,e,_⟩:=pl';exact A4 e
 refine call_max_walk (EI pl' ?_);refine⟨s.heap.objs.size,_,_,_,_,_,_,rfl,Walks.tuple (A:=X.A.in1) (I.ok.hd hc) s.heap.objs.size p (B2 hlt) its.toArray,?_,fun b hb=>?_,?_,CmpOf.ints_gt (fun i=>is.getD i 0) fun i v hv=>gU rvs i v hv,fun v h' tk hv hk=>fin rvs v h' tk hv (kept hk)⟩
 ·obtain⟨ob,e,r⟩:=pl';exact⟨⟨_,AQ _ rfl,rfl,rfl⟩,ob,AA _ e,r⟩
 ·rw[B9];simp only[A5,A9,or_false] at hb;rcases hb with rfl|rfl
  ·exact CO _
  exact C0 hlt
 rw[AX];omega
noncomputable def Ii (ta:TA):TE:=fun σ H Q=>ta σ H fun vs H1=>∃j:Int,vs=[.int j]/\(-(2^62)<=j/\j<2^62)/\(j-0).toNat<=AL/\∀p,H1 p=none->Q (.ref p) (upd H1 p (.lst (IV 0 (j-0).toNat)))
theorem Sd {a:Expr}{ta:TA}{p p2 pos pos2:Pos}(hc:X.calm=true) (hgl:Gl X "list") (hml:X.mg "list" = none) (hg:Gl X "range") (hm:X.mg "range" = none) (ha:PA X [a] ta)
  (hs:AJ [a] X.env=[(false,eval a X.env)]:=by rfl)
  (he:AJ [.Call (.Name "range" p2) [a] [] pos2] X.env=[(false,eval (.Call (.Name "range" p2) [a] [] pos2) X.env)]:=by rfl) :
  PE X (.Call (.Name "list" p) [.Call (.Name "range" p2) [a] [] pos2] [] pos) (Ii ta):=by
 intro pins s σ H Q I h;refine Fh (iG I hgl hml boot_list ?_ δ δ);refine BI ?_ he rfl;rw[he];show AG _ _ (spliced ((false,eval (.Call (.Name "range" p2) [a] [] pos2) X.env)::[])) _ _ s;refine CL ?_;refine Call_ (iG I hg hm boot_range (BI (thA (ha pos2 pins s σ H _ I h) fun us s1 vs H1 I1 r1 q1=>?_) hs rfl));obtain⟨j,e,⟨q3,q4⟩,hz,q⟩:=q1;have q1:(-(2^62):Int)<=0:=by decide
 have q2:(0:Int)<2^62:=by decide
 subst e;cases r1 with
 | cons r' rr=>
  cases rr;obtain⟨t',rfl⟩:=r';refine call_range_1 (CC ?_);refine call_list_range (n:=(j-0).toNat) (I1.ok.hd hc) (IsRange.new ..) (small_one q1 q2 q3 q4) (by rw[rangeSize_one];split <;> omega) (BG hz aaz) fun h' tk acc' c' kp e it=>?_
  have I2:Inv X pins σ H1 { s1 with heap:=s1.heap.push { cls:=.type "range",data:=.fields #[.int 0 s1.toks,.int j t',.int 1 (s1.toks+1)] },toks:=s1.toks+1+1 }:=I1.kept fun b o e=>AA _ e;have hf:H1 (s1.heap.push { cls:=.type "range",data:=.fields #[.int 0 s1.toks,.int j t',.int 1 (s1.toks+1)] }).objs.size=none:=I2.hok.fresh (AZ _);refine⟨.ref _,_,I2.laid (t':=tk) kp (AZ _) (show cZ X.prog X.w _ h' _ (.lst (IV 0 (j-0).toNat)) from⟨?_,acc'.toList,c',?_,by simpa using e⟩),rfl,q _ hf⟩
  ·simpa [IV] using hz
  obtain⟨it1,it2⟩:=it;refine Km (by simp [IV,it1]) fun k x u h1 h2=>?_;have h2':acc'[k]?=some u:=by simpa using h2
  obtain⟨t9,rfl⟩:=it2 k u h2';unfold IV at h1;rw[AU] at h1;have hk:k<(j-0).toNat:=by
   rcases FX k (j-0).toNat with z|z
   ·exact z
   rw[EE (by simpa using z)] at h1;cases h1
  rw[List.getElem?_range hk] at h1;cases h1;exact⟨t9,by rw[Int.mul_one]⟩
theorem RN {a:Expr}{ta:TA}{p p2 pos pos2:Pos}(hc:X.calm=true) (hgl:Gl X "list") (hml:X.mg "list" = none) (hg:Gl X "range") (hm:X.mg "range" = none) (ha:QA X [a] ta)
  (hs:AJ [a] X.env=[(false,eval a X.env)]:=by rfl)
  (he:AJ [.Call (.Name "range" p2) [a] [] pos2] X.env=[(false,eval (.Call (.Name "range" p2) [a] [] pos2) X.env)]:=by rfl) :
  QE X (.Call (.Name "list" p) [.Call (.Name "range" p2) [a] [] pos2] [] pos) (Ii ta):=⟨Sd hc hgl hml hg hm ha.h hs he⟩
noncomputable def DP (ws:List Str)(w:Str)(j:Nat):Prop:=ws[j]?=some w/\∀m,m<j->ws[m]?≠some w
end
theorem BR (l:Addr)(items:Array Ap)(x:Ap)(e:Ap->Bool)(j:Nat)(hj:j<items.size)(h1:e items[j]=true)(h2:∀m (hm:m<items.size),m<j->e items[m]=false) :
  Meets (AI.«tuple.index» { pos:=[Ap.ref l,x] }) fun A R s=>s.heap.IsTuple l items/\(∀y,y∈items->BM A.in1 s y x (e y))/\R (.ok (.ret (.int j s.toks))) { s with toks:=s.toks+1 }:=by
 refine Iy fun prog w A R s h=>?_;obtain⟨⟨o,ho,hc,n,hd⟩,heq,hR⟩:=h;unfold AI.«tuple.index» selfAndSome;refine An (An (Da (a:=()) rfl ?_));refine An (Da (a:=()) rfl (Au ?_));unfold AI.Tuple.tupleItemsOf;refine An (An (B4 ho hd (Au ?_)));refine An (Au ?_);refine An (Au ?_);refine An ?_;rw[Std.Legacy.Range.forIn_eq_forIn_range'];have hsz:[:min items.size items.size].size=items.size:=by simp [Std.Legacy.Range.size]
 rw[hsz];refine wpAny_forIn_list _ (fun rest b s'=>b=(none,())/\s'=s/\∃i,rest=List.range' i (items.size-i)/\i<=j) _ ?_ ?_ _ _ ⟨rfl,rfl,0,rfl,EN _⟩
 ·rintro i rest b s' ⟨rfl,rfl,i0,hrest,hij⟩;obtain⟨k,hk⟩:∃k,items.size-i0=k+1:=⟨items.size-i0-1,ω⟩;rw[hk,List.range'_succ] at hrest;cases hrest;have hi:i<items.size:=ω;have he:items[i]?=some items[i]:=Array.getElem?_eq_getElem hi;simp only[he];refine An (heq _ (Array.getElem_mem hi) _ _ _ _ ?_);by_cases hj2:i=j
  ·subst hj2;rw[h1,if_pos rfl];refine An ?_;unfold retInt;refine An (wpAny_mkInt ?_);exact Au (Au (Au ⟨_,rfl,hR⟩))
  rw[h2 i hi ω,if_neg δ];exact Au ⟨rfl,rfl,i+1,by rw[show items.size-(i+1)=k by omega],ω⟩
 rintro b s' ⟨rfl,rfl,i,hrest,hij⟩;obtain⟨k,hk⟩:∃k,items.size-i=k+1:=⟨items.size-i-1,ω⟩;rw[hk,List.range'_succ] at hrest;cases hrest
section
variable {X:Cx}{e o:Expr}{te to:TE}{pos:Pos}
noncomputable def KTup (K:AD) (p:Addr) (xs:List V):Prop:=∃(o:Obj)(its:Array Ap)(n:Nat),K.lookup p=some o/\o.cls=.type "tuple" /\ o.dict=none/\o.data=.seq its n/\its.size<=AL/\Vals xs its.toList
theorem KTup.sq {K:AD}{p:Addr}{xs:List V}{H:Hp}(h:KTup K p xs):SqT K H p xs:=by
 obtain⟨o,its,n,h1,h2,_,h3,h4,h5⟩:=h;exact .inr ⟨o,its,n,h1,h2,h3,h4,h5⟩
noncomputable def SqB (b:Bool)(K:AD)(H:Hp)(p:Addr)(xs:List V):Prop:=match b with
 | true=>SqL K H p xs
 | false=>KTup K p xs
noncomputable def Qy (K:AD)(to te:TE):TE:=fun σ H Q=>to σ H fun x H1=>∃(p:Addr)(ws:List Str)(b:Bool),x=.ref p/\SqB b K H1 p (ws.map V.str)/\te σ H1 fun y H2=>∃w j,y=.str w/\SqB b K H2 p (ws.map V.str)/\DP ws w j/\Q (.int (j:Nat)) H2
theorem mV {ws:List Str}{its:List Ap}(r:Vals (ws.map V.str) its){i:Nat}{v:Ap}(h:its[i]?=some v):∃w t,ws[i]?=some w/\v=Ap.str w t:=by
 have hl:=r.length;rw[AE] at hl;have hi:=(AO.mp h).1;have hx:(ws.map V.str)[i]?=some (V.str ws[i]):=by rw[AU,AF ω];rfl
 obtain⟨u,hu,ru⟩:=r.get hx;rw[hu] at h;cases h;obtain⟨t,rfl⟩:=ru;exact⟨ws[i],t,AF ω,rfl⟩
theorem W9 {apos cpos:Pos}(hu:X.A.in1.units<FU)(ho:PE X o to)(he:PE X e te)
  (hbase:C1 o "index" X.env (eval o X.env)=eval o X.env:=by rfl)
  (hfew:((CU cpos (AJ [e] X.env)).all (fun x=>!x.1)&&(F9 cpos (EX [] X.env)).all (fun x=>x.1.isSome)
   && decide ([e].length+([]:List D6).length+(if ([]:List D6).isEmpty then 0 else 1)<30))=true:=by rfl)
  (hline:(apos.endLine == cpos.line)=true:=by rfl) (hs:AJ [e] X.env=(false,eval e X.env)::AJ [] X.env:=by rfl) (hplain:(CU cpos (AJ [] X.env)).any (·.1)=false:=by rfl) :
  PE X (.Call (.Attribute o "index" apos) [e] [] cpos) (Qy X.K to te):=by
 intro pins s σ H Q I h;refine Fk hbase hfew hline rfl (thE (ho pins s σ H _ I h) fun v s1 x H1 I1 r1 q=>?_);obtain⟨p,ws,b,rfl,hq,q⟩:=q;have key:∀{its:List Ap}{w:Str}{j:Nat}{u:Ap}{s2:AB},Vals (ws.map V.str) its->DP ws w j->RelV (.str w) u->∃(g:Ap->Bool)(hj:j<its.toArray.size),g its.toArray[j]=true/\(∀m (hm:m<its.toArray.size),m<j->g its.toArray[m]=false)/\∀y,y∈its.toArray->BM X.A.in1 s2 y u (g y):=fun {its w j u s2} rv hf ru=>by
  obtain⟨t,rfl⟩:=ru;have hl:=rv.length;rw[AE] at hl;have hj:j<its.length:=by have:=(AO.mp hf.1).1;omega
  refine⟨fun y=>match y with | .str z _=>z == w|_=>false,by simpa using hj,?_,fun m hm hmj=>?_,fun y hy=>?_⟩
  ·obtain⟨w',t',h1,h2⟩:=mV rv (AF hj);rw[hf.1] at h1;cases h1;have:its.toArray[j]=Ap.str w t':=by simpa using h2
   rw[this];simp
  ·have hm':m<its.length:=by simpa using hm
   obtain⟨w',t',h1,h2⟩:=mV rv (AF hm');have:its.toArray[m]=Ap.str w' t':=by simpa using h2
   rw[this];have hne:w'≠w:=fun z=>hf.2 m hmj (by rw[h1,z]);simpa using hne
  have hy':y∈its:=by simpa using hy
  obtain⟨m,hm,em⟩:=C5.mp hy';obtain⟨w',t',h1,h2⟩:=mV rv (AF hm);rw[em] at h2;rw[h2];exact BM.str_str w' t' w t
 cases b with
 | true=>
  obtain⟨h1,h2⟩:=qT (T := "list") I1 r1 (.inl ⟨rfl,_,hq⟩);refine⟨"list","list.index",D7,PySem.F.slot_list_index,PySem.F.type_list_index,h1,h2,?_⟩;rw[hs];refine CS (by show(false||(CU cpos (AJ [] X.env)).any (·.1))=false;rw[hplain] <;> rfl) (D3 ?_)
  refine CL (thn (he pins s1 σ H1 _ I1 q) fun u s2 ⟨y,H2,I2,r2,w,j,ey,hq2,hf,q3⟩=>CC ?_);subst ey;cases r1;obtain⟨its,rv,pl,hz⟩:=I2.list hq2;obtain⟨g,hj,g1,g2,g3⟩:=key (s2:=s2) rv hf r2;obtain⟨ob,n,eo,ec,ed,es⟩:=pl;cases ob with
  | mk cls dict data slots=>
   cases ec;cases es;have hj2:((j:Nat):Int)<2^63-1:=by
    rw[AX] at hj;have hl:=rv.length;have:=Kb;omega
   refine Ee F.slot_list_index ⟨_,eo,rfl⟩ F.entry_list_index (F.args_list_index_2 _ _) (SeqAt.list_indexAt p its.toArray n _ _ u g j hj hj2 g1 g2) ⟨eo,g3,?_⟩;exact⟨.int (j:Nat),H2,I2.tok _,⟨_,rfl⟩,q3⟩
 | false=>
  obtain⟨h1,h2⟩:=qT (T := "tuple") I1 r1 (.inr (.inl ⟨rfl,by obtain⟨o,_,_,k1,k2,k3,_⟩:=hq;exact⟨o,k1,k2,k3⟩⟩));refine⟨"tuple","tuple.index",PySem.F.plainAttrs_tuple,PySem.F.slot_tuple_index,PySem.F.type_tuple_index,h1,h2,?_⟩;rw[hs];refine CS (by show(false||(CU cpos (AJ [] X.env)).any (·.1))=false;rw[hplain] <;> rfl) (D3 ?_)
  refine CL (thn (he pins s1 σ H1 _ I1 q) fun u s2 ⟨y,H2,I2,r2,w,j,ey,hq2,hf,q3⟩=>CC ?_);subst ey;cases r1;obtain⟨its,rv,pl,hz⟩:=I2.tuple (KTup.sq hq2);obtain⟨g,hj,g1,g2,g3⟩:=key (s2:=s2) rv hf r2;have pl':s2.heap.IsTuple p its.toArray:=pl;obtain⟨ob,eo,ec,n,ed⟩:=id pl';refine Ee F.slot_tuple_index ⟨_,eo,ec⟩ F.entry_tuple_index (F.args_tuple_index_2 _ _) (BR p its.toArray u g j hj g1 g2) ⟨pl',g3,?_⟩;exact⟨.int (j:Nat),H2,I2.tok _,⟨_,rfl⟩,q3⟩
theorem KQ {apos cpos:Pos}(hu:X.A.in1.units<FU)(ho:QE X o to)(he:QE X e te)
  (hbase:C1 o "index" X.env (eval o X.env)=eval o X.env:=by rfl)
  (hfew:((CU cpos (AJ [e] X.env)).all (fun x=>!x.1)&&(F9 cpos (EX [] X.env)).all (fun x=>x.1.isSome)
   && decide ([e].length+([]:List D6).length+(if ([]:List D6).isEmpty then 0 else 1)<30))=true:=by rfl)
  (hline:(apos.endLine == cpos.line)=true:=by rfl) (hs:AJ [e] X.env=(false,eval e X.env)::AJ [] X.env:=by rfl) (hplain:(CU cpos (AJ [] X.env)).any (·.1)=false:=by rfl) :
  QE X (.Call (.Attribute o "index" apos) [e] [] cpos) (Qy X.K to te):=⟨W9 hu ho.h he.h hbase hfew hline hs hplain⟩
end
inductive Pl where
 | pick (l:Int)
 | one (k:Nat) (r:Pl)
 | wit (k:Nat) (r:Pl)
 | low (k:Nat) (a b:Pl)
 | msk (l:Int) (r:Pl)
 | tab
noncomputable def plD:Pl->A1
 | .pick l=>.tuple [.str "pick",.int l]
 | .one k r=>.tuple [.str "is",.int (k:Int),plD r]
 | .wit k r=>.tuple [.str "within",.int (k:Int),plD r]
 | .low k a b=>.tuple [.str "below",.int (k:Int),plD a,plD b]
 | .msk l r=>.tuple [.str "mask",.int l,plD r]
 | .tab=>.tuple [.str "table"]
noncomputable def bU:Pl->Nat
 | .pick _=>1
 | .one _ r=>bU r+1
 | .wit _ r=>bU r+1
 | .low _ a b=>bU a+bU b+1
 | .msk _ r=>bU r+1
 | .tab=>1
noncomputable abbrev Sts:=List (Int×Int×Int)
noncomputable def bV (ss:Sts)(k:Nat):Int×Int×Int:=ss.getD k (0,0,0)
structure Lf (ss:Sts)(left:List Nat):Prop where
 ne:left≠[]
 lt:∀k∈left,k<ss.length
 up:left.Pairwise (· < ·)
noncomputable def kids (ss:Sts):Pl->List Nat->List (List Nat×Pl)
 | .pick _,_=>[]
 | .tab,_=>[]
 | .one k r,left=>[(left.filter (·≠k),r)]
 | .wit k r,left=>[(left.filter (·≠k),r)]
 | .low k a b,left=>[(left.filter (· < k),a),(left.filter (k<=·),b)]
 | .msk l r,left=>[(left.filter fun k=>(bV ss k).2.2≠l,r)]
noncomputable def Ae (ss:Sts):Pl->List Nat->Prop
 | .pick _,left=>Lf ss left
 | .tab,left=>Lf ss left
 | .one k r,left=>Lf ss left/\Ae ss r (left.filter (·≠k))
 | .wit k r,left=>Lf ss left/\Ae ss r (left.filter (·≠k))
 | .low k a b,left=>Lf ss left/\Ae ss a (left.filter (· < k))/\Ae ss b (left.filter (k<=·))
 | .msk l r,left=>Lf ss left/\Ae ss r (left.filter fun k=>(bV ss k).2.2≠l)
theorem Ae.lf {ss:Sts}{p:Pl}{left:List Nat}(h:Ae ss p left):Lf ss left:=by
 cases p with
 | pick l=>exact h
 | tab=>exact h
 | one k r=>exact h.1
 | wit k r=>exact h.1
 | low k a b=>exact h.1
 | msk l r=>exact h.1
noncomputable def oU (ss:Sts)(f:List Nat->Pl->Int):Pl->List Nat->Int
 | .pick l,left=>f left (.pick l)
 | .tab,left=>f left .tab
 | .one k r,left=>f left (.one k r)+oU ss f r (left.filter (·≠k))
 | .wit k r,left=>f left (.wit k r)+oU ss f r (left.filter (·≠k))
 | .low k a b,left=>f left (.low k a b)+oU ss f a (left.filter (· < k))+oU ss f b (left.filter (k<=·))
 | .msk l r,left=>f left (.msk l r)+oU ss f r (left.filter fun k=>(bV ss k).2.2≠l)
noncomputable def oE (left:List Nat):A1:=.list (left.map fun(k:Nat)=>.int (k:Int))
noncomputable def cG (ss:Sts)(left:List Nat):Int:=(bV ss (left.getLast?.getD 0)).2.1-(bV ss (left.head?.getD 0)).1+1
noncomputable def wX:Sp:=fun vs H Q _=>∃(s l:V)(ok:Addr->Prop)(ss:Sts)(left:List Nat),vs=[s,l]/\aG ok H s (.list (ss.map stD))/\aG ok H l (oE left)/\Lf ss left/\Q (.int (cG ss left)) H
theorem jG {k:Nat}:∀{left:List Nat},left.Pairwise (· < ·)->left.drop (left.filter (· < k)).length=left.filter (k<=·)
 | [],_=>rfl
 | a::left,h=>by
  rw[D2] at h;by_cases ha:a<k
  ·rw[EJ (by simpa using ha),EK (by simpa using ha),Co,List.drop_succ_cons];exact jG h.2
  have h1:left.filter (· < k)=[]:=GA.mpr fun b hb=>by have:=h.1 b hb;simp;omega
  have h2:left.filter (k<=·)=left:=KW.mpr fun b hb=>by have:=h.1 b hb;simp;omega
  rw[EK (by simpa using ha),h1,EJ (by simp;omega),h2];rfl
theorem XJ {ok:Addr->Prop}{H:Hp}(left:List Nat):aH ok H (left.map fun(k:Nat)=>V.int (k:Int)) (left.map fun(k:Nat)=>A1.int (k:Int)):=by
 induction left with
 | nil=>exact .nil
 | cons a l ih=>exact .cons (.int _) ih
theorem aH.nats {ok:Addr->Prop}{H:Hp}:∀{xs:List V}{left:List Nat},aH ok H xs (left.map fun(k:Nat)=>A1.int (k:Int))->xs=left.map fun(k:Nat)=>V.int (k:Int)
 | _,[],.nil=>rfl
 | _,a::l,.cons h r=>by
  cases h;rw[r.nats];rfl
theorem aG.left {ok:Addr->Prop}{H:Hp}{x:V}{left:List Nat}(t:aG ok H x (oE left)):∃a,x=.ref a/\ok a/\H a=some (.lst (left.map fun(k:Nat)=>V.int (k:Int)))/\left.length<=1000000:=by
 cases t with
 | lst o e z ts=>
  rw[ts.nats] at e z;rw[AE] at z;exact⟨_,rfl,o,e,z⟩
theorem QX {ss:Sts}{k:Nat}(h:k<ss.length):ss[k]?=some (bV ss k):=by
 unfold bV;rw[AN,AF h];rfl
theorem aH.stN {ok:Addr->Prop}{H:Hp}{xs:List V}{ss:Sts}(t:aH ok H xs (ss.map stD)){k:Nat}(h:k<ss.length):∃a,atI xs (k:Int)=some (.ref a)/\H a=some (.tup [.int (bV ss k).1,.int (bV ss k).2.1,.int (bV ss k).2.2]):=by
 have hl:=t.length;rw[AE] at hl;have hx:xs[k]?=some xs[k]:=AF ω;obtain⟨a,s,h1,_,h2,h3⟩:=t.st hx;rw[QX h] at h2;cases h2;refine⟨a,?_,h3⟩;rw[<- h1];exact dI hx
noncomputable def nv (left:List Nat):List V:=left.map fun(k:Nat)=>V.int (k:Int)
theorem dZ (left:List Nat):(nv left).length=left.length:=by unfold nv;rw[AE]
theorem Td {left:List Nat}{i:Nat}{x:V}(h:(nv left)[i]?=some x):∃k,left[i]?=some k/\x=.int (k:Int):=by
 unfold nv at h;rw[AU] at h;cases e:left[i]? with
 | none=>rw[e] at h;cases h
 | some k=>rw[e] at h;cases h;exact⟨k,rfl,rfl⟩
theorem K6 {left:List Nat}(h:left≠[]):∃k,left.getLast?=some k/\k∈left/\atI (nv left) (-1)=some (.int (k:Int)):=by
 obtain⟨a,b,rfl⟩:=jQ left (D4.mpr h);refine⟨b,by simp,by simp,?_⟩;have:=Oh (a.map fun(k:Nat)=>(k:Int)) (b:Int);unfold nv;rw[show((a++[b]).map fun(k:Nat)=>V.int (k:Int))=((a.map fun(k:Nat)=>(k:Int))++[(b:Int)]).map V.int by simp];exact this
theorem K7 {left:List Nat}(h:left≠[]):∃k,left.head?=some k/\k∈left/\atI (nv left) 0=some (.int (k:Int)):=by
 cases left with
 | nil=>exact absurd rfl h
 | cons a l=>exact⟨a,rfl,A0,dI (j:=0) (show(nv (a::l))[0]?=_ from rfl)⟩
theorem Bq {left:List Nat}{P:Nat->Bool}{i k:Nat}(h:left[i]?=some k):(left.take (i+1)).filter P=(left.take i).filter P++(if P k=true then [k] else []):=by
 rw[take_snoc h,List.filter_append];cases hp:P k with
 | true=>rw[EJ hp];rfl
 | false=>rw[EK (by rw[hp];decide)];rfl
theorem aar (a b:List Nat):nv (a++b)=nv a++nv b:=by unfold nv;rw[A6]
theorem fW {ok:Addr->Prop}{H:Hp}{a:Addr}{left:List Nat}(h:ok a)(e:H a=some (.lst (nv left)))(hl:left.length<=1000000):aG ok H (.ref a) (oE left):=.lst h e (by rw[dZ];exact hl) (XJ left)
theorem je {K:AD}{mp:List (Option Nat)}{g:TG}{tc:TT}{te:TE}{σ:St}{H:Hp}{Q:VK}{R:It->Hp->Prop}{a:Addr}{left:List Nat}(P:Nat->Bool)(okT:St->Prop)(hR:R=Kl mp g tc te σ Q)(e:H a=some (.lst (nv left)))(hz:left.length<=1000000)(h0:okT (jU mp σ))
  (hs:∀(i k:Nat) τ (acc:List V) (Pn:List V->St->Hp->Prop),left[i]?=some k->okT τ->(P k=true->∀τ1,okT τ1->Pn (acc++[V.int (k:Int)]) τ1 H)->(P k=false->∀τ1,okT τ1->Pn acc τ1 H)->g (.int (k:Int)) τ H fun τ1 H4=>tc τ1 H4 fun b H5=>if b=true then te τ1 H5 fun v H6=>Pn (acc++[v]) τ1 H6 else Pn acc τ1 H5)
  (hd:∀d,H d=none->Q (.ref d) (upd H d (.lst (nv (left.filter P))))):R (Itl K a) H:=by
 refine u9 hR (xs:=nv left) (aN (by rw[dZ];exact hz)) (fun i acc τ H'=>H'=H/\acc=nv ((left.take i).filter P)/\okT τ) ⟨rfl,rfl,h0⟩ ?_ ?_ ?_ ?_
 ·rintro i acc τ H' ⟨_,rfl,_⟩;rw[dZ];exact BG (Cf _ _) (KA _ _)
 ·rintro i acc τ H' ⟨rfl,_,_⟩;exact SqL.of e
 ·rintro i x acc τ H' hx ⟨rfl,rfl,ht⟩;obtain⟨k,hk,rfl⟩:=Td hx;refine hs i k τ _ (fun acc τ H1=>H1=H'/\acc=nv ((left.take (i+1)).filter P)/\okT τ) hk ht (fun hp τ1 h1=>⟨rfl,?_,h1⟩) (fun hp τ1 h1=>⟨rfl,?_,h1⟩)
  ·rw[Bq hk,aar,if_pos hp];rfl
  rw[Bq hk,if_neg (by rw[hp];decide),CB]
 rintro acc τ H' d ⟨rfl,rfl,_⟩ hdn;rw[D8 (by rw[dZ];exact AZ _)];exact hd d hdn
theorem U8 (xs:List V)(n:Nat)(h:n<=xs.length):jz xs (some (n:Int)) none=xs.drop n:=by
 unfold jz;have e1:HT.sIx xs.length 0 (some (n:Int))=n:=by
  simp only[HT.sIx];split
  ·omega
  omega
 have e2:HT.sIx xs.length xs.length none=xs.length:=by simp [HT.sIx]
 rw[e1,e2];exact D8 (by rw[EU];exact AZ _)
theorem Ph {left:List Nat}{k:Nat}(h:left.Pairwise (· < ·)):jz (nv left) (some ((left.filter (· < k)).length:Int)) none=nv (left.filter (k<=·)):=by
 rw[U8 _ _ (by rw[dZ];exact Cf _ _),<- jG h];unfold nv;rw[List.map_drop]
theorem aH.dropLast {ok:Addr->Prop}{H:Hp}{xs:List V}{ds:List A1}{d:A1}(t:aH ok H xs (ds++[d])):aH ok H xs.dropLast ds/\∃y,xs[xs.length-1]?=some y/\aG ok H y d:=by
 have hl:=t.length;rw[AH,A8] at hl;constructor
 ·have:=t.take ds.length;rw[List.take_left,show xs.take ds.length=xs.dropLast by rw[List.dropLast_eq_take,hl,HQ]] at this;exact this
 have hx:xs[xs.length-1]?=some xs[xs.length-1]:=AF ω;obtain⟨d',hd,td⟩:=t.get hx;rw[hl,HQ,BC (AZ _),Go] at hd;cases hd;exact⟨_,hx,td⟩
noncomputable def jB:Pl->Str
 | .pick _ => "pick"
 | .one _ _ => "is"
 | .wit _ _ => "within"
 | .low _ _ _ => "below"
 | .msk _ _ => "mask"
 | .tab => "table"
noncomputable def vY:Pl->Nat
 | .pick _=>0
 | .one _ _=>0
 | .wit _ _=>1
 | .low _ _ _=>2
 | .msk _ _=>3
 | .tab=>4
noncomputable def wH:Pl->Bool
 | .pick _=>true
 | _=>false
noncomputable def gZ:List Str:=["is","within","below","mask","table"]
theorem JX {p:Pl}(h:wH p=false):DP gZ (jB p) (vY p):=by
 cases p with
 | pick l=>cases h
 | one k r=>exact⟨rfl,fun m hm=>absurd hm (Nat.not_lt_zero _)⟩
 | wit k r=>exact⟨rfl,fun m hm=>by
   have:m=0:=by simp only[vY] at hm;omega
   subst this;exact(by decide +kernel:(some ("is" : Str))≠some "within")⟩
 | low k a b=>exact⟨rfl,fun m hm=>by
   have:m=0\/m=1:=by simp only[vY] at hm;omega
   rcases this with rfl|rfl
   ·exact(by decide +kernel:(some ("is" : Str))≠some "below")
   exact(by decide +kernel:(some ("within" : Str))≠some "below")⟩
 | msk l r=>exact⟨rfl,fun m hm=>by
   have:m=0\/m=1\/m=2:=by simp only[vY] at hm;omega
   rcases this with rfl|rfl|rfl
   ·exact(by decide +kernel:(some ("is" : Str))≠some "mask")
   ·exact(by decide +kernel:(some ("within" : Str))≠some "mask")
   exact(by decide +kernel:(some ("below" : Str))≠some "mask")⟩
 | tab=>exact⟨rfl,fun m hm=>by
   have:m=0\/m=1\/m=2\/m=3:=by simp only[vY] at hm;omega
   rcases this with rfl|rfl|rfl|rfl
   ·exact(by decide +kernel:(some ("is" : Str))≠some "table")
   ·exact(by decide +kernel:(some ("within" : Str))≠some "table")
   ·exact(by decide +kernel:(some ("below" : Str))≠some "table")
   exact(by decide +kernel:(some ("mask" : Str))≠some "table")⟩
theorem Ej {zs:List Int}{i:Nat}(h:i<zs.length):atI (zs.map V.int) (i:Int)=some (.int (zs.getD i 0)):=by
 refine dI ?_;rw[AU,AF h,AN,AF h];rfl
theorem iB {K:AD}{mp:List (Option Nat)}{g:TG}{tc:TT}{te:TE}{σ:St}{H:Hp}{Q:VK}{R:It->Hp->Prop}{a:Addr}{left:List Nat}(fI:Nat->Int)(okT:St->Prop)(hR:R=Kl mp g tc te σ Q)(e:H a=some (.lst (nv left)))(hz:left.length<=1000000)(h0:okT (jU mp σ))
  (hs:∀(i k:Nat) τ (acc:List V) (Pn:List V->St->Hp->Prop),left[i]?=some k->okT τ->(∀τ1,okT τ1->Pn (acc++[V.int (fI k)]) τ1 H)->g (.int (k:Int)) τ H fun τ1 H4=>tc τ1 H4 fun b H5=>if b=true then te τ1 H5 fun v H6=>Pn (acc++[v]) τ1 H6 else Pn acc τ1 H5)
  (hd:∀d,H d=none->Q (.ref d) (upd H d (.lst ((left.map fI).map V.int)))):R (Itl K a) H:=by
 refine u9 hR (xs:=nv left) (aN (by rw[dZ];exact hz)) (fun i acc τ H'=>H'=H/\acc=((left.take i).map fI).map V.int/\okT τ) ⟨rfl,rfl,h0⟩ ?_ ?_ ?_ ?_
 ·rintro i acc τ H' ⟨_,rfl,_⟩;rw[AE,AE];exact KA _ _
 ·rintro i acc τ H' ⟨rfl,_,_⟩;exact SqL.of e
 ·rintro i x acc τ H' hx ⟨rfl,rfl,ht⟩;obtain⟨k,hk,rfl⟩:=Td hx;refine hs i k τ _ (fun acc τ H1=>H1=H'/\acc=((left.take (i+1)).map fI).map V.int/\okT τ) hk ht (fun τ1 h1=>⟨rfl,?_,h1⟩);rw[take_snoc hk,A6,A6];rfl
 rintro acc τ H' d ⟨rfl,rfl,_⟩ hdn;rw[D8 (by rw[dZ];exact AZ _)];exact hd d hdn
theorem K8 (l:List Nat):(nv l).all iJ=true:=by
 unfold nv;rw[all_map,all_eq_true];intro x _;rfl
section
variable {X:Cx}{e o:Expr}{te to:TE}{pos:Pos}
noncomputable def ab5 (xs:List V)(y:V)(n:Nat):Prop:=(∃(is:List Int)(i:Int),xs=is.map V.int/\y=.int i/\n=is.count i)\/(∃(ws:List Str)(w:Str),xs=ws.map V.str/\y=.str w/\n=ws.count w)
noncomputable def YS (K:AD)(to te:TE):TE:=fun σ H Q=>to σ H fun x H1=>∃(p:Addr),x=.ref p/\(∃xs,SqL K H1 p xs)/\te σ H1 fun y H2=>∃(xs:List V)(n:Nat),SqL K H2 p xs/\ab5 xs y n/\Q (.int (n:Nat)) H2
theorem HN {ws:List Int}{its:List Ap}(r:Vals (ws.map V.int) its){i:Nat}{v:Ap}(h:its[i]?=some v):∃w t,ws[i]?=some w/\v=Ap.int w t:=by
 have hl:=r.length;rw[AE] at hl;have hi:=(AO.mp h).1;have hx:(ws.map V.int)[i]?=some (V.int ws[i]):=by rw[AU,AF ω];rfl
 obtain⟨u,hu,ru⟩:=r.get hx;rw[hu] at h;cases h;obtain⟨t,rfl⟩:=ru;exact⟨ws[i],t,AF ω,rfl⟩
noncomputable def isI (w:Int):Ap->Bool
 | .int z _=>z == w
 | _=>false
noncomputable def isS (w:Str):Ap->Bool
 | .str z _=>z == w
 | _=>false
theorem cnt_ints (w:Int):∀{is:List Int}{its:List Ap},Vals (is.map V.int) its->its.countP (isI w)=is.count w
 | [],_,.nil=>rfl
 | i::is,_,.cons r rs=>by
  obtain⟨t,rfl⟩:=r;rw[List.countP_cons,List.count_cons,cnt_ints w rs];rfl
theorem cnt_strs (w:Str):∀{is:List Str}{its:List Ap},Vals (is.map V.str) its->its.countP (isS w)=is.count w
 | [],_,.nil=>rfl
 | i::is,_,.cons r rs=>by
  obtain⟨t,rfl⟩:=r;rw[List.countP_cons,List.count_cons,cnt_strs w rs];rfl
theorem Xh {apos cpos:Pos}(hu:X.A.in1.units<FU)(ho:PE X o to)(he:PE X e te)
  (hbase:C1 o "count" X.env (eval o X.env)=eval o X.env:=by rfl)
  (hfew:((CU cpos (AJ [e] X.env)).all (fun x=>!x.1)&&(F9 cpos (EX [] X.env)).all (fun x=>x.1.isSome)
   && decide ([e].length+([]:List D6).length+(if ([]:List D6).isEmpty then 0 else 1)<30))=true:=by rfl)
  (hline:(apos.endLine == cpos.line)=true:=by rfl) (hs:AJ [e] X.env=(false,eval e X.env)::AJ [] X.env:=by rfl) (hplain:(CU cpos (AJ [] X.env)).any (·.1)=false:=by rfl) :
  PE X (.Call (.Attribute o "count" apos) [e] [] cpos) (YS X.K to te):=by
 intro pins s σ H Q I h;refine Fk hbase hfew hline rfl (thE (ho pins s σ H _ I h) fun v s1 x H1 I1 r1 q=>?_);obtain⟨p,rfl,⟨xs0,hq⟩,q⟩:=q;obtain⟨h1,h2⟩:=qT (T := "list") I1 r1 (.inl ⟨rfl,_,hq⟩);refine⟨"list","list.count",D7,PySem.F.slot_list_count,PySem.F.type_list_count,h1,h2,?_⟩;rw[hs];refine CS (by show(false||(CU cpos (AJ [] X.env)).any (·.1))=false;rw[hplain] <;> rfl) (D3 ?_)
 refine CL (thn (he pins s1 σ H1 _ I1 q) fun u s2 ⟨y,H2,I2,r2,xs,n,hq2,hc,q3⟩=>CC ?_);cases r1;obtain⟨its,rv,pl,hz⟩:=I2.list hq2;obtain⟨ob,nn,eo,ec,ed,es⟩:=pl;cases ob with
 | mk cls dict data slots=>
  cases ec;cases es;rcases hc with⟨is,i,rfl,rfl,rfl⟩|⟨ws,w,rfl,rfl,rfl⟩
  ·obtain⟨t,rfl⟩:=r2;refine Ee F.slot_list_count ⟨_,eo,rfl⟩ F.entry_list_count (F.args_list_count_2 _ _) (SeqAt.list_countAt p its.toArray nn _ _ _ (isI i)) ⟨eo,fun y hy=>?_,?_⟩
   ·have hy':y∈its:=by simpa using hy
    obtain⟨m,hm,em⟩:=C5.mp hy';obtain⟨w',t',h1,h2⟩:=HN rv (AF hm);rw[em] at h2;rw[h2];exact BM.int_int w' t' i t
   rw[show its.toArray.toList=its from rfl,cnt_ints i rv];exact⟨.int (is.count i:Nat),H2,I2.tok _,⟨_,rfl⟩,q3⟩
  obtain⟨t,rfl⟩:=r2;refine Ee F.slot_list_count ⟨_,eo,rfl⟩ F.entry_list_count (F.args_list_count_2 _ _) (SeqAt.list_countAt p its.toArray nn _ _ _ (isS w)) ⟨eo,fun y hy=>?_,?_⟩
  ·have hy':y∈its:=by simpa using hy
   obtain⟨m,hm,em⟩:=C5.mp hy';obtain⟨w',t',h1,h2⟩:=mV rv (AF hm);rw[em] at h2;rw[h2];exact BM.str_str w' t' w t
  rw[show its.toArray.toList=its from rfl,cnt_strs w rv];exact⟨.int (ws.count w:Nat),H2,I2.tok _,⟨_,rfl⟩,q3⟩
theorem KY (K:AD){apos cpos:Pos}(hu:X.A.in1.units<FU)(ho:QE X o to)(he:QE X e te)(hK:X.K=K:=by rfl)
  (hbase:C1 o "count" X.env (eval o X.env)=eval o X.env:=by rfl)
  (hfew:((CU cpos (AJ [e] X.env)).all (fun x=>!x.1)&&(F9 cpos (EX [] X.env)).all (fun x=>x.1.isSome)
   && decide ([e].length+([]:List D6).length+(if ([]:List D6).isEmpty then 0 else 1)<30))=true:=by rfl)
  (hline:(apos.endLine == cpos.line)=true:=by rfl) (hs:AJ [e] X.env=(false,eval e X.env)::AJ [] X.env:=by rfl) (hplain:(CU cpos (AJ [] X.env)).any (·.1)=false:=by rfl) :
  QE X (.Call (.Attribute o "count" apos) [e] [] cpos) (YS K to te):=by
 subst hK;exact⟨Xh hu ho.h he.h hbase hfew hline hs hplain⟩
end
theorem Wj (K:AD){X:Cx}{tg l:Expr}{tl:TE}(hl:QE X l tl)(hK:X.K=K:=by rfl):QI X tg l (Gs K tl):=by
 subst hK;exact bY hl
noncomputable def sumK (ws:List Int)(left:List Nat):Int:=(left.map fun k=>ws.getD k 0).sum
noncomputable def cN (ws zs:List Int)(left:List Nat):Pl->Int
 | .pick _=>0
 | p=>zs.getD (vY p) 0*sumK ws left
theorem Jm {ws zs:List Int}{left:List Nat}{p:Pl}(h:wH p=false):cN ws zs left p=zs.getD (vY p) 0*sumK ws left:=by
 cases p with
 | pick l=>cases h
 | _=>rfl
noncomputable def Few (zs:List Int):Prop:=∀z∈zs,-(2^40)<z/\z<2^40
theorem Few.at {zs:List Int}(h:Few zs)(i:Nat):-(2^64)<zs.getD i 0/\zs.getD i 0<2^64:=by
 rw[AN];cases e:zs[i]? with
 | none=>exact⟨δ,δ⟩
 | some z=>
  have:=h z (A7 e);exact⟨by show -(2^64)<z;omega,by show z<2^64;omega⟩
noncomputable def Q6:Sp:=fun vs H Q _=>∃(s p:V)(wa z:Addr)(ok:Addr->Prop)(ss:Sts)(ws zs:List Int)(pl:Pl),vs=[s,.ref wa,.ref z,p]/\cQ ok H/\aG ok H s (.list (ss.map stD))/\aG ok H p (plD pl)/\H wa=some (.lst (ws.map V.int))/\ws.length=ss.length/\H z=some (.tup (zs.map V.int))/\zs.length=5/\Few zs/\ss.length<=60/\bU pl<=4000/\Ae ss pl (BO ss.length) /\
 ∀H',Same H H'->Q (.int (oU ss (cN ws zs) pl (BO ss.length))) H'
noncomputable def fG (ss:Sts)(k:Nat):Pl->List Nat
 | .pick _=>[]
 | .tab=>[4]
 | .one j r=>0::(if k=j then [] else fG ss k r)
 | .wit j r=>1::(if k=j then [] else fG ss k r)
 | .low j a b=>2::(if k<j then fG ss k a else fG ss k b)
 | .msk l r=>3::(if (bV ss k).2.2=l then [] else fG ss k r)
noncomputable def qz (zs:List Int)(w:List Nat):Int:=(w.map fun i=>zs.getD i 0).sum
theorem mj (zs:List Int)(i:Nat)(w:List Nat):qz zs (i::w)=zs.getD i 0+qz zs w:=by
 unfold qz;rw[CF,FG]
theorem p8 (P:Nat->Bool)(f:Nat->Int):∀left:List Nat,((left.filter P).map f).sum=(left.map fun k=>if P k=true then f k else 0).sum
 | []=>rfl
 | a::left=>by
  rw[CF,FG,<- p8 P f left];cases h:P a with
  | true=>rw[EJ h,CF,FG,if_pos rfl]
  | false=>rw[EK (by rw[h];decide),if_neg δ,zero_add]
theorem lX (f g:Nat->Int):∀left:List Nat,(left.map f).sum+(left.map g).sum=(left.map fun k=>f k+g k).sum
 | []=>rfl
 | a::left=>by
  rw[CF,CF,CF,FG,FG,FG,<- lX f g left];omega
theorem jL (c:Int)(f:Nat->Int):∀left:List Nat,c*(left.map f).sum=(left.map fun k=>c*f k).sum
 | []=>mul_zero c
 | a::left=>by
  rw[CF,CF,FG,FG,<- jL c f left,mul_add]
noncomputable def G8 (ss:Sts)(ws zs:List Int)(pl:Pl)(left:List Nat):Int:=(left.map fun k=>ws.getD k 0*qz zs (fG ss k pl)).sum
theorem jT (ss:Sts)(ws zs:List Int):∀(pl:Pl)(left:List Nat),oU ss (cN ws zs) pl left=G8 ss ws zs pl left
 | .pick l,left=>by
  show(0:Int)=(left.map fun k=>ws.getD k 0*0).sum
  induction left with
  | nil=>rfl
  | cons a left ih=>rw[CF,FG,<- ih,mul_zero,Fu]
 | .tab,left=>by
  show zs.getD 4 0*sumK ws left=(left.map fun k=>ws.getD k 0*(zs.getD 4 0+0)).sum;unfold sumK;rw[jL];congr 1;apply EL;intro k _;rw[Fu,HR]
 | .one j r,left=>by
  show zs.getD 0 0*sumK ws left+oU ss (cN ws zs) r (left.filter (·≠j))=_;rw[jT ss ws zs r];unfold sumK G8;rw[jL,p8,lX];congr 1;apply EL;intro k _;show _=ws.getD k 0*qz zs (0::(if k=j then [] else fG ss k r));rw[mj,mul_add];by_cases h:k=j
  ·rw[if_pos h,if_neg (by simpa using h),show qz zs []=0 from rfl,mul_zero,HR]
  rw[if_neg h,if_pos (by simpa using h),HR (zs.getD 0 0)]
 | .wit j r,left=>by
  show zs.getD 1 0*sumK ws left+oU ss (cN ws zs) r (left.filter (·≠j))=_;rw[jT ss ws zs r];unfold sumK G8;rw[jL,p8,lX];congr 1;apply EL;intro k _;show _=ws.getD k 0*qz zs (1::(if k=j then [] else fG ss k r));rw[mj,mul_add];by_cases h:k=j
  ·rw[if_pos h,if_neg (by simpa using h),show qz zs []=0 from rfl,mul_zero,HR]
  rw[if_neg h,if_pos (by simpa using h),HR (zs.getD 1 0)]
 | .msk l r,left=>by
  show zs.getD 3 0*sumK ws left+oU ss (cN ws zs) r (left.filter fun k=>(bV ss k).2.2≠l)=_;rw[jT ss ws zs r];unfold sumK G8;rw[jL,p8,lX];congr 1;apply EL;intro k _;show _=ws.getD k 0*qz zs (3::(if (bV ss k).2.2=l then [] else fG ss k r));rw[mj,mul_add];by_cases h:(bV ss k).2.2=l
  ·rw[if_pos h,if_neg (by simpa using h),show qz zs []=0 from rfl,mul_zero,HR]
  rw[if_neg h,if_pos (by simpa using h),HR (zs.getD 3 0)]
 | .low j a b,left=>by
  show zs.getD 2 0*sumK ws left+oU ss (cN ws zs) a (left.filter (· < j))+oU ss (cN ws zs) b (left.filter (j<=·))=_;rw[jT ss ws zs a,jT ss ws zs b];unfold sumK G8;rw[jL,p8,p8,lX,lX];congr 1;apply EL;intro k _;show _=ws.getD k 0*qz zs (2::(if k<j then fG ss k a else fG ss k b));rw[mj,mul_add];by_cases h:k<j
  ·rw[if_pos h,if_pos (by simpa using h),if_neg (by simp;omega),HR (zs.getD 2 0),Fu]
  rw[if_neg h,if_neg (by simpa using h),if_pos (by simp;omega),HR (zs.getD 2 0),Fu]
noncomputable def cL (i:Nat):Str:=gZ.getD i ""
noncomputable def YW:Sp:=fun vs H Q _=>∃(s p:V)(k:Nat)(ok:Addr->Prop)(ss:Sts)(pl:Pl)(left:List Nat),vs=[s,p,.int (k:Int)]/\cQ ok H/\aG ok H s (.list (ss.map stD))/\aG ok H p (plD pl)/\Ae ss pl left/\k<ss.length/\bU pl<=4000 /\
 ∀(a:Addr) H',Same H H'->ok a->H a=none->H' a=some (.lst ((fG ss k pl).map fun i=>V.str (cL i)))->Q (.ref a) H'
noncomputable def Al:Sp:=fun vs H Q _=>∃(p:Addr)(B:Int),vs=[.ref p,.int 5]/\b7 H p B/\0<=B/\B<=900000 /\
 ∀(t:Addr)(zs:List Int) H',cB p H H'->b7 H' p (B+20)->t≠p->H t=none->H' t=some (.tup (zs.map V.int))->zs.length=5->(∀z∈zs,1<=z/\z<=99)->Q (.ref t) H'
noncomputable def Aj:Sp:=fun vs H Q _=>∃(p:Addr)(m:Nat)(B:Int),vs=[.ref p,.int (m:Int)]/\b7 H p B/\0<=B/\B<=900000/\m<=60 /\
 ∀(l:Addr)(ws:List Int) H',cB p H H'->b7 H' p (B+130)->l≠p->H l=none->H' l=some (.lst (ws.map V.int))->ws.length=m->(∀z∈ws,0<=z/\z<=1000000)->Q (.ref l) H'
noncomputable def lbl (ss:Sts)(k:Nat):Int:=(bV ss k).2.2
noncomputable def ur (ss:Sts):Pl->List Nat->List (List Nat×Pl)
 | .pick l,left=>[(left,.pick l)]
 | .tab,left=>[(left,.tab)]
 | .one k r,left=>(left,.one k r)::ur ss r (left.filter (·≠k))
 | .wit k r,left=>(left,.wit k r)::ur ss r (left.filter (·≠k))
 | .low k a b,left=>(left,.low k a b)::(ur ss b (left.filter (k<=·))++ur ss a (left.filter (· < k)))
 | .msk l r,left=>(left,.msk l r)::ur ss r (left.filter fun k=>(bV ss k).2.2≠l)
noncomputable def VL (ss:Sts)(left:List Nat):Pl->Prop
 | .pick l=>∀k∈left,lbl ss k=l
 | .tab=>cG ss left<=200
 | .one k _=>k∈left/\(bV ss k).1=(bV ss k).2.1
 | .wit k _=>k∈left
 | .low k _ _=>k∈left
 | .msk l _=>cG ss left<=64/\∃k∈left,lbl ss k=l
noncomputable def PlV (ss:Sts):Pl->List Nat->Prop
 | .pick l,left=>Lf ss left/\VL ss left (.pick l)
 | .tab,left=>Lf ss left/\VL ss left .tab
 | .one k r,left=>(Lf ss left/\VL ss left (.one k r))/\PlV ss r (left.filter (·≠k))
 | .wit k r,left=>(Lf ss left/\VL ss left (.wit k r))/\PlV ss r (left.filter (·≠k))
 | .low k a b,left=>(Lf ss left/\VL ss left (.low k a b))/\PlV ss a (left.filter (· < k))/\PlV ss b (left.filter (k<=·))
 | .msk l r,left=>(Lf ss left/\VL ss left (.msk l r))/\PlV ss r (left.filter fun k=>(bV ss k).2.2≠l)
theorem PlV.ok {ss:Sts}:∀{p:Pl}{left:List Nat},PlV ss p left->Ae ss p left
 | .pick l,left,h=>h.1
 | .tab,left,h=>h.1
 | .one k r,left,h=>⟨h.1.1,PlV.ok h.2⟩
 | .wit k r,left,h=>⟨h.1.1,PlV.ok h.2⟩
 | .msk k r,left,h=>⟨h.1.1,PlV.ok h.2⟩
 | .low k a b,left,h=>⟨h.1.1,PlV.ok h.2.1,PlV.ok h.2.2⟩
noncomputable def qw:Pl->Nat->List (Nat×Nat)
 | .pick _,_=>[]
 | .tab,_=>[]
 | .one _ r,p=>qw r (p+1)
 | .wit _ r,p=>qw r (p+1)
 | .msk _ r,p=>qw r (p+1)
 | .low _ a b,p=>qw b (p+1)++(p,p+1+bU b)::qw a (p+1+bU b)
noncomputable def aaN:List Pl->List Nat->Nat->List (Nat×Nat)
 | [],_,_=>[]
 | c::rest,T,p=>qw c p++(match T with | []=>[]|t::T'=>match rest with | []=>[]|_::_=>(t,p+bU c)::aaN rest T' (p+bU c))
theorem uh (ss:Sts)(k:Nat):∀(pl:Pl),∀i∈fG ss k pl,i<5
 | .pick _,i,h=>absurd h A9
 | .tab,i,h=>by rw[AK.mp h];decide
 | .one j r,i,h=>by
  rcases A5.mp h with h|h
  ·omega
  by_cases c:k=j
  ·rw[if_pos c] at h;exact absurd h A9
  rw[if_neg c] at h;exact uh ss k r i h
 | .wit j r,i,h=>by
  rcases A5.mp h with h|h
  ·omega
  by_cases c:k=j
  ·rw[if_pos c] at h;exact absurd h A9
  rw[if_neg c] at h;exact uh ss k r i h
 | .msk l r,i,h=>by
  rcases A5.mp h with h|h
  ·omega
  by_cases c:(bV ss k).2.2=l
  ·rw[if_pos c] at h;exact absurd h A9
  rw[if_neg c] at h;exact uh ss k r i h
 | .low j a b,i,h=>by
  rcases A5.mp h with h|h
  ·omega
  by_cases c:k<j
  ·rw[if_pos c] at h;exact uh ss k a i h
  rw[if_neg c] at h;exact uh ss k b i h
theorem Va {K:AD}{mp:List (Option Nat)}{g:TG}{tc:TT}{te:TE}{σ:St}{H:Hp}{Q:VK}{R:It->Hp->Prop}{a:Addr}{w:List Nat}(fI:Nat->Int)(okT:St->Prop)(hR:R=Kl mp g tc te σ Q)(e:H a=some (.lst (w.map fun i=>V.str (cL i))))(hz:w.length<=1000000)(h0:okT (jU mp σ))
  (hs:∀(i:Nat)(z:Nat) τ (acc:List V) (Pn:List V->St->Hp->Prop),w[i]?=some z->okT τ->(∀τ1,okT τ1->Pn (acc++[V.int (fI z)]) τ1 H)->g (.str (cL z)) τ H fun τ1 H4=>tc τ1 H4 fun b H5=>if b=true then te τ1 H5 fun v H6=>Pn (acc++[v]) τ1 H6 else Pn acc τ1 H5)
  (hd:∀d,H d=none->Q (.ref d) (upd H d (.lst ((w.map fI).map V.int)))):R (Itl K a) H:=by
 refine u9 hR (xs:=w.map fun i=>V.str (cL i)) (aN (by rw[AE];exact hz)) (fun i acc τ H'=>H'=H/\acc=((w.take i).map fI).map V.int/\okT τ) ⟨rfl,rfl,h0⟩ ?_ ?_ ?_ ?_
 ·rintro i acc τ H' ⟨_,rfl,_⟩;rw[AE,AE];exact KA _ _
 ·rintro i acc τ H' ⟨rfl,_,_⟩;exact SqL.of e
 ·rintro i x acc τ H' hx ⟨rfl,rfl,ht⟩;rw[AU] at hx;cases hk:w[i]? with
  | none=>rw[hk] at hx;cases hx
  | some z=>
   rw[hk] at hx;cases hx;refine hs i z τ _ (fun acc τ H1=>H1=H'/\acc=((w.take (i+1)).map fI).map V.int/\okT τ) hk ht (fun τ1 h1=>⟨rfl,?_,h1⟩);rw[take_snoc hk,A6,A6];rfl
 rintro acc τ H' d ⟨rfl,rfl,_⟩ hdn;rw[D8 (by rw[AE];exact AZ _)];exact hd d hdn
theorem p6 (ss:Sts)(k:Nat):∀pl:Pl,(fG ss k pl).length<=bU pl
 | .pick _=>EN _
 | .tab=>AZ _
 | .one j r=>by
  have:=p6 ss k r;show(0::(if k=j then [] else fG ss k r)).length<=bU r+1;split <;> simp <;> omega
 | .wit j r=>by
  have:=p6 ss k r;show(1::(if k=j then [] else fG ss k r)).length<=bU r+1;split <;> simp <;> omega
 | .msk l r=>by
  have:=p6 ss k r;show(3::(if (bV ss k).2.2=l then [] else fG ss k r)).length<=bU r+1;split <;> simp <;> omega
 | .low j a b=>by
  have:=p6 ss k a;have:=p6 ss k b;show(2::(if k<j then fG ss k a else fG ss k b)).length<=bU a+bU b+1;split <;> simp <;> omega
theorem aaQ (xs:List V)(n:Nat)(h:n<=xs.length):jz xs none (some (n:Int))=xs.take n:=by
 unfold jz;have e1:HT.sIx xs.length 0 none=0:=by simp [HT.sIx]
 have e2:HT.sIx xs.length xs.length (some (n:Int))=n:=by
  simp only[HT.sIx];split
  ·omega
  omega
 rw[e1,e2];rfl
theorem Ek:IX (Ap.type "zip") (Cb "keys")=pure none:=JP (by rfl)
theorem wL:IX (Ap.type "zip") (Cb "__getattr__")=pure none:=JP (by rfl)
theorem uP (a:Addr) (vs:Array Ap) (u:Tok):Meets (AI.«object.__getattribute__» { pos:=[Ap.ref a,Ap.str (Cb "keys") u] }) fun A R s=>
  s.heap.get? a=some { cls:=Ap.type "zip",data:=Cn vs }/\raisesAttr (Ap.ref a) (Cb "keys") A R s:=by
 refine Iy fun prog w A R s hs=>?_;obtain⟨hp,g,d,tk,os⟩:=s;obtain⟨hx,hr⟩:=hs;have hT:(⟨hp,g,d,tk,os⟩:AB).TypeIs (Ap.ref a) "zip" := ⟨_,hx,rfl⟩;unfold AI.«object.__getattribute__» slotArgs;refine An (AY rfl (AY rfl (Au ?_)));refine An ?_;show AG _ _ (pure (Cb "keys")) _ _ _;refine Au ?_;refine An (C6 hT ?_);refine An ?_;unfold AI.ObjectAttr.find;refine An (Da Ek ?_);refine An ?_;show AG _ _ (pure none) _ _ _;refine Au (An ?_);show AG _ _ (pure none) _ _ _;refine Au ?_;show AG _ _ (AI.ObjectAttr.ownThenClass (Ap.ref a) (Cb "keys") none none) _ _ _;unfold AI.ObjectAttr.ownThenClass;refine An ?_;unfold AI.ObjectAttr.inOwnDict;refine An ?_;unfold AI.ObjectAttr.ownDict;refine An (JU hx ?_);show AG _ _ (instanceDict a false) _ _ _;unfold instanceDict;refine An (JU hx (Ch rfl (Au ?_)));show AG _ _ (pure none) _ _ _;refine Au ?_;show AG _ _ (AI.ObjectAttr.copiedAttributeGuard (Cb "keys") (Ap.ref a) >>= _) _ _ _;refine An ?_;unfold AI.ObjectAttr.copiedAttributeGuard;refine AY δ (Au ?_);show AG _ _ (rule _ >>= _) _ _ _;refine An (DS (Au ?_));refine AY rfl ?_;refine AY rfl ?_;show AG _ _ (typeNameOfCut 100 (Ap.ref a) >>= _) _ _ _;refine An ?_;show AG _ _ (shownTypeOf (Ap.ref a) >>= _) _ _ _;refine An ?_;show AG _ _ (typeOf (Ap.ref a) >>= _) _ _ _;refine An (C6 hT ?_);refine AY rfl (Au ?_);show AG _ _ (pure _) _ _ _;refine Au ?_;exact wpAny_raiseAttrError hr.1 hr.2 (attrMsg_fits δ δ)
theorem DQ:entryFor table "zip.__getattribute__" = some AI.«object.__getattribute__»:=entryFor_alias (id' := "object.__getattribute__") (by rfl) ψ ψ (by rfl)
theorem zm {prog:AR}{w:Bi}{A:Bz}{E:Ap->AB->Prop}{s:AB}{a:Addr}{vs:Array Ap}{Q:Option Ap->AB->Prop}(hh:A.handled=none) (hx:s.heap.get? a=some { cls:=Ap.type "zip",data:=Cn vs })
  (h:∀(h':Heap)(tk:Nat),(∀c o,s.heap.get? c=some o->h'.get? c=some o)->Q none { s with heap:=h',toks:=tk }):AG (AW prog w) A (getAttr? (Ap.ref a) (Cb "keys")) Q E s:=by
 obtain⟨hp,g,d,tk,os⟩:=s;have hT:∀tk,(⟨hp,g,d,tk,os⟩:AB).TypeIs (Ap.ref a) "zip" := fun _=>⟨_,hx,rfl⟩;unfold getAttr? mkText;refine An (An (wpAny_fresh' (Au ?_)));unfold getAttrBy?;refine An (Db ?_);unfold getAttrBy;refine BD (An (C6 (hT _) ?_));refine An (Da IP.lookup ?_);show AG _ _ (ite _ _ _) _ _ _;refine AY rfl ?_;unfold getAttrByItsOwn hookBefore;refine An (AY rfl (Au ?_));refine An (Db (BD ?_));unfold callGetattribute;refine AY rfl ?_;unfold boundAndCalled;refine An (Da (IP.bind (Ap.ref a)) ?_);refine Ee IP (hT _) DQ (F.args_zip_getattribute_2 _ _) (uP a vs _) ⟨hx,hh,fun h' tk' e ne=>?_⟩;obtain⟨t,u,he⟩:=ne.there;have hTe:(⟨h',g,d,tk',os⟩:AB).TypeIs (Ap.ref e) "AttributeError" := ⟨_,he,rfl⟩;unfold getattributeRaised;refine An (DZ hTe HU (Ch rfl ?_));unfold hookBehind;refine An (AY rfl (Da wL ?_));show AG _ _ (throw (Ap.ref e) >>= _) _ _ _;refine An (wpAny_throw ?_);show AG _ _ (isInstance (Ap.ref e) (Ap.type "AttributeError") >>= _) _ _ _;refine An (DZ hTe HU (Ch rfl (Au ?_)));exact h h' tk' fun c o e=>ne.keeps c o e
noncomputable def Wlk (h:Heap)(i l:Addr)(k:Nat)(xs:Array Ap):Prop:=(h.IsTupleIter i l k/\h.IsTuple l xs)\/(h.IsListIter i l k/\h.IsList l xs)
theorem Wlk.keep {h h':Heap}{i l:Addr}{k:Nat}{xs:Array Ap}(I:Wlk h i l k xs)(ki:∀o,h.get? i=some o->h'.get? i=some o)(kl:∀o,h.get? l=some o->h'.get? l=some o):Wlk h' i l k xs:=by
 rcases I with⟨a,o,e,r⟩|⟨a,o,e,r⟩
 ·exact .inl ⟨a.at ki,o,kl o e,r⟩
 exact .inr ⟨a.at ki,o,kl o e,r⟩
theorem Wlk.item {prog:AR}{w:Bi}{A:Bz}{E:Ap->AB->Prop}{s:AB}{i l:Addr}{k:Nat}{xs:Array Ap}{x:Ap}{Q:Ap->AB->Prop}(I:Wlk s.heap i l k xs)(hl:l≠i)(hx:xs[k]?=some x)
  (hQ:∀h',Wlk h' i l (k+1) xs->B5 i s.heap h'->Q x { s with heap:=h' }):AG (AW prog w) A (AI.SmallTypes.nextOf (Ap.ref i)) Q E s:=by
 rcases I with⟨a,b⟩|⟨a,b⟩
 ·refine eN a b hx fun h' h1 sb=>hQ h' (.inl ⟨h1,?_⟩) sb;obtain⟨o,e,r⟩:=b;exact⟨o,(sb.2 l hl).trans e,r⟩
 refine wpAny_nextOf_list_item a b hx fun h' h1 sb=>hQ h' (.inr ⟨h1,?_⟩) sb;obtain⟨o,e,r⟩:=b;exact⟨o,(sb.2 l hl).trans e,r⟩
theorem Wlk.last {prog:AR}{w:Bi}{A:Bz}{E:Ap->AB->Prop}{s:AB}{i l:Addr}{k:Nat}{xs:Array Ap}{Q:Ap->AB->Prop}(hh:A.handled=none)(I:Wlk s.heap i l k xs)(hx:xs[k]?=none)
  (hE:∀h' e,Heap.ExtBut i s.heap h'->(∃o,h'.get? e=some o/\o.cls=Ap.type "StopIteration")->E (.ref e) { s with heap:=h' }):AG (AW prog w) A (AI.SmallTypes.nextOf (Ap.ref i)) Q E s:=by
 rcases I with⟨a,b⟩|⟨a,b⟩
 ·exact gb hh a b hx hE
 exact wpAny_nextOf_list_end hh a b hx hE
theorem Qe {M:Model}{A:Bz}{E:Ap->AB->Prop}{s:AB}{a:Addr}{Q:Option Obj->AB->Prop}(h:Q (s.heap.get? a) s):AG M A (loadIfAlive a) Q E s:=by
 intro Γ p hΓ;show Sem.wp M Γ (Sem.loadIfAlive a Sem.pure) _ _ p s;rw[Sem.wp_loadIfAlive];exact h
@[reducible] def lz (h:Heap) (z TI TO a:Addr) (b:Bool):Prop:=h.get? z=some { cls:=Ap.type "zip",data:=Cn #[DT a,Ap.bool b,Ap.bool false,Ap.ref TI,Ap.ref TO] }
theorem GQ {prog:AR}{w:Bi}{A:Bz}{E:Ap->AB->Prop}{s:AB}{z TI TO a:Addr}{b:Bool}{o:Obj}{Q:Bool->AB->Prop}(hz:lz s.heap z TI TO a b)(ha:s.heap.get? a=some o)
  (hQ:∀h',lz h' z TI TO a true->B5 z s.heap h'->Q false { s with heap:=h' }):AG (AW prog w) A (AI.SmallTypes.ownedTupleIsFree (Ap.ref z)) Q E s:=by
 unfold AI.SmallTypes.ownedTupleIsFree;refine An (B3 hz rfl rfl ?_);show AG _ _ (loadIfAlive ((a:Int).toNat) >>= _) _ _ _;refine An (Qe ?_);rw[show((a:Int).toNat)=a from B6 a,ha];refine AY rfl ?_;refine An (B3 hz rfl rfl ?_);cases b with
 | true=>
  refine AY rfl (Au ?_);exact hQ s.heap hz ⟨rfl,fun _ _=>rfl⟩
 | false=>
  refine Ch rfl ?_;refine An (BU hz (EC (Ex 3)) fun h' hz' hs'=>Au ?_);exact hQ h' hz' hs'
theorem Vo {prog:AR}{w:Bi}{A:Bz}{E:Ap->AB->Prop}{s:AB}{z TI TO i1 i2 l1 l2 a:Addr}{ob:Bool}{k1 k2:Nat}{xs ys:Array Ap}{x y:Ap}{o:Obj}{Q:Ap->AB->Prop}(D:E3 z TI TO i1 i2 l1 l2)(hz:lz s.heap z TI TO a ob)(ha:s.heap.get? a=some o)(hTI:Cs s.heap TI (Ap.ref i1) (Ap.ref i2))
  (h1:Wlk s.heap i1 l1 k1 xs) (h2:Wlk s.heap i2 l2 k2 ys) (hx:xs[k1]?=some x) (hy:ys[k2]?=some y)
  (hQ:∀h':Heap,lz h' z TI TO a true->Wlk h' i1 l1 (k1+1) xs->Wlk h' i2 l2 (k2+1) ys->Cs h' s.heap.objs.size x y->h'.objs.size=s.heap.objs.size+1->(∀c o,c≠z->c≠i1->c≠i2->s.heap.get? c=some o->h'.get? c=some o)->Q (Ap.ref s.heap.objs.size) { s with heap:=h' }) :
  AG (AW prog w) A (AI.«zip.__next__» { pos:=[Ap.ref z] }) (fun fin s'=>∃v,fin=Fin.done (Flow.ret v)/\Q v s') E s:=by
 show AG _ _ (Kn (Ap.ref z) 2 >>= _) _ _ _;refine An (B3 hz rfl rfl ?_);show AG _ _ (Kn (Ap.ref z) 3 >>= _) _ _ _;refine An (B3 hz rfl rfl ?_);refine An (B4 hTI rfl ?_);show AG _ _ (AI.SmallTypes.ownedTupleIsFree (Ap.ref z) >>= _) _ _ _;refine An (GQ hz ha fun h₁ hz₁ hs₁=>?_);refine AY rfl ?_;have old1:∀c o,c≠z->s.heap.get? c=some o->h₁.get? c=some o:=fun c o hc e=>(hs₁.2 c hc).trans e;have h1a:=h1.keep (h':=h₁) (fun o e=>old1 i1 o D.i1z e) (fun o e=>old1 l1 o D.l1z e);show AG _ _ (forIn #[Ap.ref i1,Ap.ref i2] (none,#[]) _ >>= _) _ _ _;refine An ?_;rw[<- Array.forIn_toList];show AG _ _ (forIn [Ap.ref i1,Ap.ref i2] (none,#[]) _) _ _ _;rw[DV];refine An ?_;show AG _ _ (EM [] (AI.SmallTypes.nextOf (Ap.ref i1) >>= fun v=>pure (some v)) >>= _) _ _ _;refine An (BD (An (h1a.item (s:={ s with heap:=h₁ }) D.l1i1 hx fun h₂ h1b sb₂=>Au ?_)));have old2:∀c o,c≠z->c≠i1->s.heap.get? c=some o->h₂.get? c=some o:=fun c o hc hc1 e=>(sb₂.2 c hc1).trans (old1 c o hc e);refine Au ?_;show AG _ _ (forIn [Ap.ref i2] (none,#[x]) _) _ _ _;rw[DV];refine An ?_;have h2a:=h2.keep (h':=h₂) (fun o e=>old2 i2 o D.i2z (BA D.i12) e) (fun o e=>old2 l2 o D.l2z D.l2i1 e);show AG _ _ (EM [x] (AI.SmallTypes.nextOf (Ap.ref i2) >>= fun v=>pure (some v)) >>= _) _ _ _;refine An (BD (An (h2a.item (s:={ s with heap:=h₂ }) D.l2i2 hy fun h₃ h2b sb₃=>Au ?_)));have old3:∀c o,c≠z->c≠i1->c≠i2->s.heap.get? c=some o->h₃.get? c=some o:=fun c o hc hc1 hc2 e=>(sb₃.2 c hc2).trans (old2 c o hc hc1 e);refine Au ?_;show AG _ _ (forIn [] (none,#[x,y]) _) _ _ _;rw[forIn_nil];refine Au ?_;show AG _ _ (IM [x,y] >>= _) _ _ _;refine An (E5 ?_ (by show 2<=AL;decide));have sz:h₃.objs.size=s.heap.objs.size:=by rw[sb₃.1,sb₂.1,hs₁.1]
 have old4:∀c o,h₃.get? c=some o->(h₃.push { cls:=Ap.type "tuple",data:=DE #[x,y] }).get? c=some o:=fun c o e=>AA _ e;refine Au ⟨_,rfl,?_⟩;rw[show(({ s with heap:=h₃ }:AB).heap.objs.size)=s.heap.objs.size from sz];refine hQ (h₃.push { cls:=Ap.type "tuple",data:=DE #[x,y] }) ?_ ?_ ?_ ?_ ?_ fun c o hc1 hc2 hc3 e=>old4 c o (old3 c o hc1 hc2 hc3 e)
 ·exact old4 z _ ((sb₃.2 z (BA D.i2z)).trans ((sb₂.2 z (BA D.i1z)).trans hz₁))
 ·exact h1b.keep (fun o e=>old4 i1 o ((sb₃.2 i1 D.i12).trans e)) (fun o e=>old4 l1 o ((sb₃.2 l1 D.l1i2).trans e))
 ·exact h2b.keep (fun o e=>old4 i2 o e) (fun o e=>old4 l2 o e)
 ·show(h₃.push { cls:=Ap.type "tuple",data:=DE #[x,y] }).get? s.heap.objs.size=_;rw[<- sz];exact AQ _ rfl
 rw[B9,sz]
theorem Y8 {prog:AR}{w:Bi}{A:Bz}{E:Ap->AB->Prop}{s:AB}{z TI TO i1 i2 l1 l2 a:Addr}{ob:Bool}{k1:Nat}{xs:Array Ap}{o:Obj}{Q:PySem.Fin->AB->Prop}(hh:A.handled=none)(D:E3 z TI TO i1 i2 l1 l2)(hz:lz s.heap z TI TO a ob)(ha:s.heap.get? a=some o)(hTI:Cs s.heap TI (Ap.ref i1) (Ap.ref i2))
  (h1:Wlk s.heap i1 l1 k1 xs) (hx:xs[k1]?=none)
  (hE:∀(h':Heap)(e:Addr),(∀c o,c≠z->c≠i1->s.heap.get? c=some o->h'.get? c=some o)->(∃o,h'.get? e=some o/\o.cls=Ap.type "StopIteration")->E (Ap.ref e) { s with heap:=h' }) :
  AG (AW prog w) A (AI.«zip.__next__» { pos:=[Ap.ref z] }) Q E s:=by
 show AG _ _ (Kn (Ap.ref z) 2 >>= _) _ _ _;refine An (B3 hz rfl rfl ?_);show AG _ _ (Kn (Ap.ref z) 3 >>= _) _ _ _;refine An (B3 hz rfl rfl ?_);refine An (B4 hTI rfl ?_);show AG _ _ (AI.SmallTypes.ownedTupleIsFree (Ap.ref z) >>= _) _ _ _;refine An (GQ hz ha fun h₁ hz₁ hs₁=>?_);refine AY rfl ?_;have old1:∀c o,c≠z->s.heap.get? c=some o->h₁.get? c=some o:=fun c o hc e=>(hs₁.2 c hc).trans e;have h1a:=h1.keep (h':=h₁) (fun o e=>old1 i1 o D.i1z e) (fun o e=>old1 l1 o D.l1z e);show AG _ _ (forIn #[Ap.ref i1,Ap.ref i2] (none,#[]) _ >>= _) _ _ _;refine An ?_;rw[<- Array.forIn_toList];show AG _ _ (forIn [Ap.ref i1,Ap.ref i2] (none,#[]) _) _ _ _;rw[DV];refine An ?_;show AG _ _ (EM [] (AI.SmallTypes.nextOf (Ap.ref i1) >>= fun v=>pure (some v)) >>= _) _ _ _;refine An (BD (An (Wlk.last (s:={ s with heap:=h₁ }) hh h1a hx fun h₂ e ext he=>?_)));exact hE h₂ e (fun c o c1 c2 g=>ext c o c2 (old1 c o c1 g)) he
theorem PX {prog:AR}{w:Bi}{A:Bz}{E:Ap->AB->Prop}{s:AB}{z TI TO i1 i2 l1 l2:Addr}{k1 k2:Nat}{xs ys:Array Ap}{x y a b:Ap}{Q:Ap->AB->Prop}(D:E3 z TI TO i1 i2 l1 l2)(hz:JO s.heap z TI TO Ap.none)(hTI:Cs s.heap TI (Ap.ref i1) (Ap.ref i2))(hTO:Cs s.heap TO a b)
  (h1:Wlk s.heap i1 l1 k1 xs) (h2:Wlk s.heap i2 l2 k2 ys) (hx:xs[k1]?=some x) (hy:ys[k2]?=some y)
  (hQ:∀h':Heap,lz h' z TI TO s.heap.objs.size false->Wlk h' i1 l1 (k1+1) xs->Wlk h' i2 l2 (k2+1) ys->Cs h' s.heap.objs.size x y->h'.objs.size=s.heap.objs.size+1->(∀c o,c≠z->c≠TO->c≠i1->c≠i2->s.heap.get? c=some o->h'.get? c=some o)->Q (Ap.ref s.heap.objs.size) { s with heap:=h' }) :
  AG (AW prog w) A (AI.«zip.__next__» { pos:=[Ap.ref z] }) (fun fin s'=>∃v,fin=Fin.done (Flow.ret v)/\Q v s') E s:=by
 show AG _ _ (Kn (Ap.ref z) 2 >>= _) _ _ _;refine An (B3 hz rfl rfl ?_);show AG _ _ (Kn (Ap.ref z) 3 >>= _) _ _ _;refine An (B3 hz rfl rfl ?_);refine An (B4 hTI rfl ?_);show AG _ _ (AI.SmallTypes.ownedTupleIsFree (Ap.ref z) >>= _) _ _ _;refine An ?_;show AG _ _ (Kn (Ap.ref z) 0 >>= _) _ _ _;refine An (B3 hz rfl rfl (Au ?_));show AG _ _ (rule _ >>= _) _ _ _;refine An (DS (An (B3 hz rfl rfl ?_)));show AG _ _ (EZ (Ap.ref z) 0 Ap.ellipsis >>= _) _ _ _;refine An (BU hz (EC (Ex 4)) fun h₁ hz₁ hs₁=>?_);have old1:∀c o,c≠z->s.heap.get? c=some o->h₁.get? c=some o:=fun c o hc e=>(hs₁.2 c hc).trans e;have h1a:=h1.keep (h':=h₁) (fun o e=>old1 i1 o D.i1z e) (fun o e=>old1 l1 o D.l1z e);refine An ?_;show AG _ _ (forIn [(Ap.ref i1,0),(Ap.ref i2,1)] (none,()) _) _ _ _;rw[DV];refine An ?_;show AG _ _ ((IA (AI.SmallTypes.nextOf (Ap.ref i1) >>= fun v=>pure (some v)) (fun _=>EZ (Ap.ref z) 0 Ap.none)) >>= _) _ _ _;refine An (FY (An (h1a.item (s:={ s with heap:=h₁ }) D.l1i1 hx fun h₂ h1b sb₂=>Au ?_)));have old2:∀c o,c≠z->c≠i1->s.heap.get? c=some o->h₂.get? c=some o:=fun c o hc hc1 e=>(sb₂.2 c hc1).trans (old1 c o hc e);have hTO2:Cs h₂ TO a b:=old2 TO _ D.TOz D.TOi1 hTO;show AG _ _ (IJ (Ap.ref TO) >>= _) _ _ _;refine An (B4 (s:={ s with heap:=h₂ }) hTO2 rfl ?_);show AG _ _ (IL TO _ >>= _) _ _ _;refine An (FM (s:={ s with heap:=h₂ }) hTO2 fun h₃ g₃ sb₃=>?_);refine An (Kt (Au ?_));show AG _ _ (forIn [(Ap.ref i2,1)] (none,()) _) _ _ _;rw[DV];refine An ?_;have old3:∀c o,c≠z->c≠i1->c≠TO->s.heap.get? c=some o->h₃.get? c=some o:=fun c o hc hc1 hc2 e=>(sb₃.2 c hc2).trans (old2 c o hc hc1 e);have h2c:=h2.keep (h':=h₃) (fun o e=>old3 i2 o D.i2z (BA D.i12) (BA D.TOi2) e) (fun o e=>old3 l2 o D.l2z D.l2i1 D.l2TO e);have g₃':Cs h₃ TO x b:=g₃;show AG _ _ ((IA (AI.SmallTypes.nextOf (Ap.ref i2) >>= fun v=>pure (some v)) (fun _=>EZ (Ap.ref z) 0 Ap.none)) >>= _) _ _ _;refine An (FY (An (h2c.item (s:={ s with heap:=h₃ }) D.l2i2 hy fun h₄ h2d sb₄=>Au ?_)));have hTO4:Cs h₄ TO x b:=(sb₄.2 TO D.TOi2).trans g₃';show AG _ _ (IJ (Ap.ref TO) >>= _) _ _ _;refine An (B4 (s:={ s with heap:=h₄ }) hTO4 rfl ?_);show AG _ _ (IL TO _ >>= _) _ _ _;refine An (FM (s:={ s with heap:=h₄ }) hTO4 fun h₅ g₅ sb₅=>?_);refine An (Kt (Au ?_));have g₅':Cs h₅ TO x y:=g₅;show AG _ _ (forIn [] (none,()) _) _ _ _;rw[forIn_nil];refine Au ?_;show AG _ _ (IJ (Ap.ref TO) >>= _) _ _ _
 refine An (B4 (s:={ s with heap:=h₅ }) g₅' rfl ?_);show AG _ _ (IM [x,y] >>= _) _ _ _;refine An (E5 ?_ (by show 2<=AL;decide));have sz:h₅.objs.size=s.heap.objs.size:=by
  rw[sb₅.1,sb₄.1,sb₃.1,sb₂.1,hs₁.1]
 have z5:h₅.get? z=_:=(sb₅.2 z (BA D.TOz)).trans ((sb₄.2 z (BA D.i2z)).trans ((sb₃.2 z (BA D.TOz)).trans ((sb₂.2 z (BA D.i1z)).trans hz₁)));have z6:(h₅.push { cls:=Ap.type "tuple",data:=DE #[x,y] }).get? z=_:=AA _ z5;refine An ?_;show AG _ _ (EZ (Ap.ref z) 0 (DT h₅.objs.size) >>= fun _=>EZ (Ap.ref z) 1 (Ap.bool false)) _ _ _;refine An (BU (s:={ s with heap:=h₅.push { cls:=Ap.type "tuple",data:=DE #[x,y] } }) z6 (EC (Ex 4)) fun h₇ hz₇ hs₇=>?_);refine BU (s:={ s with heap:=h₇ }) hz₇ (EC (Ex 3)) fun h₈ hz₈ hs₈=>?_;have nzs:s.heap.objs.size≠z:=fun q=>by
  have:=A4 hz;rw[<- q] at this;exact DD _ this
 have old6:∀c o,h₅.get? c=some o->(h₅.push { cls:=Ap.type "tuple",data:=DE #[x,y] }).get? c=some o:=fun c o e=>AA _ e;have old8:∀c o,c≠z->h₅.get? c=some o->h₈.get? c=some o:=fun c o hc e=>(hs₈.2 c hc).trans ((hs₇.2 c hc).trans (old6 c o e));have new8:h₈.get? s.heap.objs.size=some { cls:=Ap.type "tuple",data:=DE #[x,y] }:=by
  refine(hs₈.2 _ nzs).trans ((hs₇.2 _ nzs).trans ?_);show(h₅.push { cls:=Ap.type "tuple",data:=DE #[x,y] }).get? s.heap.objs.size=_;rw[<- sz];exact AQ _ rfl
 refine Au ⟨_,rfl,?_⟩;rw[show(({ s with heap:=h₅ }:AB).heap.objs.size)=s.heap.objs.size from sz];refine hQ h₈ ?_ ?_ ?_ new8 ?_ ?_
 ·rw[sz] at hz₈;exact hz₈
 ·exact h1b.keep (fun o e=>old8 i1 o D.i1z ((sb₅.2 i1 (BA D.TOi1)).trans ((sb₄.2 i1 D.i12).trans ((sb₃.2 i1 (BA D.TOi1)).trans e)))) (fun o e=>old8 l1 o D.l1z ((sb₅.2 l1 D.l1TO).trans ((sb₄.2 l1 D.l1i2).trans ((sb₃.2 l1 D.l1TO).trans e))))
 ·exact h2d.keep (fun o e=>old8 i2 o D.i2z ((sb₅.2 i2 (BA D.TOi2)).trans e)) (fun o e=>old8 l2 o D.l2z ((sb₅.2 l2 D.l2TO).trans e))
 ·rw[hs₈.1,hs₇.1];show(h₅.push { cls:=Ap.type "tuple",data:=DE #[x,y] }).objs.size=_;rw[B9,sz]
 intro c o hc1 hc2 hc3 hc4 e;exact old8 c o hc1 ((sb₅.2 c hc2).trans ((sb₄.2 c hc4).trans (old3 c o hc1 hc3 hc2 e)))
theorem R0 {prog:AR}{w:Bi}{A:Bz}{E:Ap->AB->Prop}{s:AB}{z TI TO i1 i2 l1 l2:Addr}{k1 k2:Nat}{xs ys:Array Ap}{x y a b:Ap}{Q:Option Ap->AB->Prop}(D:E3 z TI TO i1 i2 l1 l2)(hz:JO s.heap z TI TO Ap.none)(hTI:Cs s.heap TI (Ap.ref i1) (Ap.ref i2))(hTO:Cs s.heap TO a b)
  (h1:Wlk s.heap i1 l1 k1 xs) (h2:Wlk s.heap i2 l2 k2 ys) (hx:xs[k1]?=some x) (hy:ys[k2]?=some y)
  (hQ:∀h':Heap,lz h' z TI TO s.heap.objs.size false->Wlk h' i1 l1 (k1+1) xs->Wlk h' i2 l2 (k2+1) ys->Cs h' s.heap.objs.size x y->h'.objs.size=s.heap.objs.size+1->(∀c o,c≠z->c≠TO->c≠i1->c≠i2->s.heap.get? c=some o->h'.get? c=some o)->Q (some (Ap.ref s.heap.objs.size)) { s with heap:=h' }) :
  AG (AW prog w) A (EO (Ap.ref z)) Q E s:=by
 have hT:∃o,s.heap.get? z=some o/\o.cls=Ap.type "zip" := ⟨_,hz,rfl⟩;exact An (Db (BS hT DL (Cc DL hT GI
  (PX D hz hTI hTO h1 h2 hx hy fun h' a1 a2 a3 a4 a5 a6=>Au (hQ h' a1 a2 a3 a4 a5 a6)) (Gc (Ap.ref z)))))
theorem WT {prog:AR}{w:Bi}{A:Bz}{E:Ap->AB->Prop}{s:AB}{z TI TO i1 i2 l1 l2 a:Addr}{ob:Bool}{k1 k2:Nat}{xs ys:Array Ap}{x y:Ap}{o:Obj}{Q:Option Ap->AB->Prop}(D:E3 z TI TO i1 i2 l1 l2)(hz:lz s.heap z TI TO a ob)(ha:s.heap.get? a=some o)(hTI:Cs s.heap TI (Ap.ref i1) (Ap.ref i2))
  (h1:Wlk s.heap i1 l1 k1 xs) (h2:Wlk s.heap i2 l2 k2 ys) (hx:xs[k1]?=some x) (hy:ys[k2]?=some y)
  (hQ:∀h':Heap,lz h' z TI TO a true->Wlk h' i1 l1 (k1+1) xs->Wlk h' i2 l2 (k2+1) ys->Cs h' s.heap.objs.size x y->h'.objs.size=s.heap.objs.size+1->(∀c o,c≠z->c≠i1->c≠i2->s.heap.get? c=some o->h'.get? c=some o)->Q (some (Ap.ref s.heap.objs.size)) { s with heap:=h' }) :
  AG (AW prog w) A (EO (Ap.ref z)) Q E s:=by
 have hT:∃o,s.heap.get? z=some o/\o.cls=Ap.type "zip" := ⟨_,hz,rfl⟩;exact An (Db (BS hT DL (Cc DL hT GI
  (Vo D hz ha hTI h1 h2 hx hy fun h' a1 a2 a3 a4 a5 a6=>Au (hQ h' a1 a2 a3 a4 a5 a6)) (Gc (Ap.ref z)))))
theorem ZW {prog:AR}{w:Bi}{A:Bz}{E:Ap->AB->Prop}{s:AB}{z TI TO i1 i2 l1 l2 a:Addr}{ob:Bool}{k1:Nat}{xs:Array Ap}{o:Obj}{Q:Option Ap->AB->Prop}(hh:A.handled=none)(D:E3 z TI TO i1 i2 l1 l2)(hz:lz s.heap z TI TO a ob)(ha:s.heap.get? a=some o)(hTI:Cs s.heap TI (Ap.ref i1) (Ap.ref i2))
  (h1:Wlk s.heap i1 l1 k1 xs) (hx:xs[k1]?=none)
  (hQ:∀h':Heap,(∀c o,c≠z->c≠i1->s.heap.get? c=some o->h'.get? c=some o)->Q none { s with heap:=h' }):AG (AW prog w) A (EO (Ap.ref z)) Q E s:=by
 have hT:∃o,s.heap.get? z=some o/\o.cls=Ap.type "zip" := ⟨_,hz,rfl⟩;exact An (Db (BS hT DL (Cc DL hT GI
  (Y8 hh D hz ha hTI h1 hx fun h' e hk he=>by
   obtain⟨o,ho,hc⟩:=he;exact An (DZ ⟨o,ho,hc⟩ Kx (Au (hQ h' hk)))) (Gc (Ap.ref z)))))
theorem fZ:entryFor table "dict.update.loop" = some AI.«dict.update.loop»:=entryFor_of_tree (by rfl)
theorem um {K:Type}[DecidableEq K](kvs:List (K×Ap))(k:K)(v:Ap):(HP kvs k v).length<=kvs.length+1:=by
 unfold HP;split
 ·rw[AE];omega
 rw[AH];simp
theorem K4 {prog:AR}{w:Bi}{A:Bz}{E:Ap->AB->Prop}{s:AB}{d p:Addr}{kvs:List (Key×Ap)}{k:Key}{u v:Ap}{hd:Ap->Sem (List Ap)}{el:List Ap->Sem Unit}{Q:Unit->AB->Prop}(hp:Cs s.heap p u v)(hk:(aP prog w).is k u=true)(hd':s.heap.DictOf (aP prog w) d kvs)(hz:kvs.length<=AL)
  (hQ:∀h',h'.DictOf (aP prog w) d (HP kvs k v)->B5 d s.heap h'->Q () { s with heap:=h',toks:=s.toks+1 }) :
  AG (AW prog w) A (EM [Ap.ref p] (do
   let pair <- (AI.Dict.pairItems (Ap.ref p)).tryCatch hd
   match pair with
    | [k,v]=>EM [k,v] (dictSet d k v)
    | l=>el l)) Q E s:=by
 refine BD (An ?_);refine wpAny_tryCatch ?_;unfold AI.Dict.pairItems;refine An (C6 (T := "tuple") ⟨_,hp,rfl⟩ (Ch rfl ?_));refine An (B4 hp rfl (Au ?_));show AG _ _ (EM [u,v] (dictSet d u v)) _ _ _;exact BD (K0 hk hd' hQ hz)
structure aaW (prog:AR)(w:Bi)(rs:List (Key×Ap))(xs ys:Array Ap):Prop where
 at_:∀(j:Nat) kv,rs[j]?=some kv->∃u,xs[j]?=some u/\(aP prog w).is kv.1 u=true/\ys[j]?=some kv.2
 end_:xs[rs.length]?=none
theorem Ep {prog:AR}{w:Bi}{A:Bz}{R:Result->AB->Prop}{z TI TO i1 i2 l1 l2 a d:Addr}{rs:List (Key×Ap)}{xs ys:Array Ap}(hh:A.handled=none)(D:E3 z TI TO i1 i2 l1 l2)(S:aaW prog w rs xs ys)(dz:d≠z)(dTI:d≠TI)(d1:d≠i1)(d2:d≠i2)(dl1:d≠l1)(dl2:d≠l2) :
  ∀(m i:Nat)(s:AB)(ob:Bool)(kvs:List (Key×Ap)),rs.length-i=m->i<=rs.length->lz s.heap z TI TO a ob->(∃o,s.heap.get? a=some o)->a≠z->a≠i1->a≠i2->a≠d->Cs s.heap TI (Ap.ref i1) (Ap.ref i2)->Wlk s.heap i1 l1 i xs->Wlk s.heap i2 l2 i ys->s.heap.DictOf (aP prog w) d kvs->kvs.length+m<=AL ->
   (∀(h':Heap)(t':Nat),h'.DictOf (aP prog w) d (merged kvs (rs.drop i))->(∀c o,c≠z->c≠i1->c≠i2->c≠d->s.heap.get? c=some o->h'.get? c=some o)->R (.ok (.ret .none)) { s with heap:=h',toks:=t' }) ->
   Ff (AW prog w) A (Hn "dict.update.loop" { pos:=[Ap.ref d,Ap.ref z,DT i,Ap.none] }) R s
 | 0,i,s,ob,kvs,hm,hi,hz,⟨oa,ha⟩,az,a1,a2,ad,hTI,h1,h2,hd,hl,hR=>by
  have hi':i=rs.length:=ω;subst hi';refine DA fZ ?_;show AG _ _ (EO (Ap.ref z) >>= _) _ _ _;refine An (ZW (A:=A.under _) hh D hz ha hTI h1 S.end_ fun h' hk=>?_);show AG _ _ (AI.Dict.addKeywords d [] >>= _) _ _ _;refine An ?_;show AG _ _ (pure ()) _ _ _;refine Au (Au ?_);refine hR h' s.toks ?_ fun c o c1 c2 c3 c4 e=>hk c o c1 c2 e;rw[List.drop_length];obtain⟨o,es,ep,e,r⟩:=hd;exact⟨o,es,ep,hk d o dz d1 e,r⟩
 | m+1,i,s,ob,kvs,hm,hi,hz,⟨oa,ha⟩,az,a1,a2,ad,hTI,h1,h2,hd,hl,hR=>by
  have hlt:i<rs.length:=ω;have hrs:rs[i]?=some rs[i]:=AF hlt;obtain⟨u,hx,hk,hy⟩:=S.at_ i _ hrs;refine DA fZ ?_;show AG _ _ (EO (Ap.ref z) >>= _) _ _ _;refine An (WT D hz ha hTI h1 h2 hx hy fun h' z1 w1 w2 pr sz old=>?_);have hd':h'.DictOf (aP prog w) d kvs:=by
   obtain⟨o,es,ep,e,r⟩:=hd;exact⟨o,es,ep,old d o dz d1 d2 e,r⟩
  refine An (K4 (s:={ s with heap:=h' }) pr hk hd' ω fun h'' hd'' sb=>?_);refine Au ⟨Fm _ ψ,?_⟩;show Ff _ _ (Hn "dict.update.loop" { pos:=[Ap.ref d,Ap.ref z,DT ((i:Int)+1),Ap.none] }) _ _;rw[show((i:Int)+1)=((i+1:Nat):Int) by omega];have old2:∀c o,c≠z->c≠i1->c≠i2->c≠d->s.heap.get? c=some o->h''.get? c=some o:=fun c o c1 c2 c3 c4 e=>(sb.2 c c4).trans (old c o c1 c2 c3 e);refine Ep hh D S dz dTI d1 d2 dl1 dl2 m (i+1) _ true (HP kvs rs[i].1 rs[i].2) ω ω ((sb.2 z (BA dz)).trans z1) ⟨oa,old2 a oa az a1 a2 ad ha⟩ az a1 a2 ad (old2 TI _ D.TIz D.TIi1 D.TIi2 (BA dTI) hTI) (w1.keep (fun o e=>(sb.2 i1 (BA d1)).trans e) (fun o e=>(sb.2 l1 (BA dl1)).trans e)) (w2.keep (fun o e=>(sb.2 i2 (BA d2)).trans e) (fun o e=>(sb.2 l2 (BA dl2)).trans e)) hd'' (by have:=um kvs rs[i].1 rs[i].2;omega) fun h3 t3 hd3 old3=>?_;refine hR h3 t3 ?_ fun c o c1 c2 c3 c4 e=>old3 c o c1 c2 c3 c4 (old2 c o c1 c2 c3 c4 e);rw[Iq hlt];exact hd3
theorem Vs {prog:AR}{w:Bi}{A:Bz}{R:Result->AB->Prop}{z TI TO i1 i2 l1 l2 d:Addr}{rs:List (Key×Ap)}{xs ys:Array Ap}{b1 b2:Ap}{s:AB}(hh:A.handled=none)(D:E3 z TI TO i1 i2 l1 l2)(S:aaW prog w rs xs ys)(dz:d≠z)(dTI:d≠TI)(dTO:d≠TO)(d1:d≠i1)(d2:d≠i2)(dl1:d≠l1)(dl2:d≠l2)(hn:0<rs.length)(hl:rs.length<=AL)
  (hz:JO s.heap z TI TO Ap.none) (hTI:Cs s.heap TI (Ap.ref i1) (Ap.ref i2)) (hTO:Cs s.heap TO b1 b2) (h1:Wlk s.heap i1 l1 0 xs) (h2:Wlk s.heap i2 l2 0 ys) (hd:s.heap.DictOf (aP prog w) d [])
  (hR:∀(h':Heap)(t':Nat),h'.DictOf (aP prog w) d (merged [] rs)->(∀c o,c≠z->c≠TO->c≠i1->c≠i2->c≠d->s.heap.get? c=some o->h'.get? c=some o)->R (.ok (.ret .none)) { s with heap:=h',toks:=t' }) :
  Ff (AW prog w) A (Hn "dict.update.loop" { pos:=[Ap.ref d,Ap.ref z,DT 0,Ap.none] }) R s:=by
 have hrs:rs[0]?=some rs[0]:=AF hn;obtain⟨u,hx,hk,hy⟩:=S.at_ 0 _ hrs;have fr:∀{c:Addr}{o:Obj},s.heap.get? c=some o->s.heap.objs.size≠c:=fun {c o} e q=>by
  have:=A4 e;rw[<- q] at this;exact DD _ this
 have g1:∃o,s.heap.get? i1=some o:=by rcases h1 with⟨⟨o,e,_⟩,_⟩|⟨⟨o,e,_⟩,_⟩ <;> exact⟨o,e⟩
 have g2:∃o,s.heap.get? i2=some o:=by rcases h2 with⟨⟨o,e,_⟩,_⟩|⟨⟨o,e,_⟩,_⟩ <;> exact⟨o,e⟩
 obtain⟨o1,e1⟩:=g1;obtain⟨o2,e2⟩:=g2;have gd:∃o,s.heap.get? d=some o:=by obtain⟨o,_,_,e,_⟩:=hd;exact⟨o,e⟩
 obtain⟨od,ed⟩:=gd;refine DA fZ ?_;show AG _ _ (EO (Ap.ref z) >>= _) _ _ _;refine An (R0 D hz hTI hTO h1 h2 hx hy fun h' z1 w1 w2 pr sz old=>?_);have hd':h'.DictOf (aP prog w) d []:=by
  obtain⟨o,es,ep,e,r⟩:=hd;exact⟨o,es,ep,old d o dz dTO d1 d2 e,r⟩
 refine An (K4 (s:={ s with heap:=h' }) pr hk hd' (EN _) fun h'' hd'' sb=>?_);refine Au ⟨Fm _ ψ,?_⟩;show Ff _ _ (Hn "dict.update.loop" { pos:=[Ap.ref d,Ap.ref z,DT ((1:Nat):Int),Ap.none] }) _ _;have old2:∀c o,c≠z->c≠TO->c≠i1->c≠i2->c≠d->s.heap.get? c=some o->h''.get? c=some o:=fun c o c1 c5 c2 c3 c4 e=>(sb.2 c c4).trans (old c o c1 c5 c2 c3 e);refine Ep (a:=s.heap.objs.size) hh D S dz dTI d1 d2 dl1 dl2 (rs.length-1) 1 _ false (HP [] rs[0].1 rs[0].2) rfl hn ((sb.2 z (BA dz)).trans z1) ⟨_,(sb.2 _ (fr ed)).trans pr⟩ (fr hz) (fr e1) (fr e2) (fr ed) (old2 TI _ D.TIz D.TITO D.TIi1 D.TIi2 (BA dTI) hTI) (w1.keep (fun o e=>(sb.2 i1 (BA d1)).trans e) (fun o e=>(sb.2 l1 (BA dl1)).trans e)) (w2.keep (fun o e=>(sb.2 i2 (BA d2)).trans e) (fun o e=>(sb.2 l2 (BA dl2)).trans e)) hd'' (by have:=um [] rs[0].1 rs[0].2;simp only[FL] at this;omega) fun h3 t3 hd3 old3=>?_;refine hR h3 t3 ?_ fun c o c1 c5 c2 c3 c4 e=>old3 c o c1 c2 c3 c4 (old2 c o c1 c5 c2 c3 c4 e);have hm:merged [] rs=merged (HP [] rs[0].1 rs[0].2) (rs.drop 1):=by
  have:=Iq hn;rw[drop_zero] at this
  conv=>lhs;rw[this]
  rfl
 rw[hm];exact hd3
theorem zZ {prog:AR}{w:Bi}{A:Bz}{E:Ap->AB->Prop}{s:AB}{z TI TO i1 i2 l1 l2:Addr}{rs:List (Key×Ap)}{xs ys:Array Ap}{b1 b2:Ap}{Q:Ap->AB->Prop}(hh:A.handled=none)(D:E3 z TI TO i1 i2 l1 l2)(S:aaW prog w rs xs ys)(hn:0<rs.length)(hl:rs.length<=AL)(hb:C2<s.heap.objs.size)
  (hz:JO s.heap z TI TO Ap.none) (hTI:Cs s.heap TI (Ap.ref i1) (Ap.ref i2)) (hTO:Cs s.heap TO b1 b2) (h1:Wlk s.heap i1 l1 0 xs) (h2:Wlk s.heap i2 l2 0 ys)
  (hQ:∀(h':Heap)(t':Nat),h'.DictOf (aP prog w) s.heap.objs.size (merged [] rs)->(∀c o,c≠z->c≠TO->c≠i1->c≠i2->s.heap.get? c=some o->h'.get? c=some o)->Q (.ref s.heap.objs.size) { s with heap:=h',toks:=t' }) :
  AG (AW prog w) A (call (Ap.type "dict") [Ap.ref z]) Q E s:=by
 have fr:∀{c:Addr}{o:Obj},s.heap.get? c=some o->s.heap.objs.size≠c:=fun {c o} e q=>by
  have:=A4 e;rw[<- q] at this;exact DD _ this
 have g1:∃o,s.heap.get? i1=some o:=by rcases h1 with⟨⟨o,e,_⟩,_⟩|⟨⟨o,e,_⟩,_⟩ <;> exact⟨o,e⟩
 have g2:∃o,s.heap.get? i2=some o:=by rcases h2 with⟨⟨o,e,_⟩,_⟩|⟨⟨o,e,_⟩,_⟩ <;> exact⟨o,e⟩
 have k1:∃o,s.heap.get? l1=some o:=by rcases h1 with⟨_,⟨o,e,_⟩⟩|⟨_,⟨o,e,_⟩⟩ <;> exact⟨o,e⟩
 have k2:∃o,s.heap.get? l2=some o:=by rcases h2 with⟨_,⟨o,e,_⟩⟩|⟨_,⟨o,e,_⟩⟩ <;> exact⟨o,e⟩
 obtain⟨o1,e1⟩:=g1;obtain⟨o2,e2⟩:=g2;obtain⟨q1,f1⟩:=k1;obtain⟨q2,f2⟩:=k2;refine callType_codes F.kt_called_dict (F.kt_typeCall_dict_1 _) F.entry_dict_init (kt_code_dict_new _ (Q₁:=fun obj s₁=>obj=Ap.ref s.heap.objs.size/\s₁={ s with heap:=s.heap.push { cls:=Ap.type "dict",data:=F3 #[] } }) ⟨rfl,rfl⟩) fun obj s₁ q=>?_;obtain⟨rfl,rfl⟩:=q;have gd:(s.heap.push { cls:=Ap.type "dict",data:=F3 #[] }).get? s.heap.objs.size=some { cls:=Ap.type "dict",data:=F3 #[] }:=AQ _ rfl;have up:∀c o,s.heap.get? c=some o->(s.heap.push { cls:=Ap.type "dict",data:=F3 #[] }).get? c=some o:=fun c o e=>AA _ e;refine⟨⟨_,gd,rfl⟩,F.args_dict_init_2 _ _,?_⟩;unfold AI.«dict.__init__» AI.Dict.selfAndRest AI.Dict.notOrdered;refine An (An (Ch ψ ?_));refine An (C6 (T := "dict") ⟨_,gd,rfl⟩ (AY rfl (Au ?_)));show AG _ _ (AI.Dict.addrOf (Ap.ref s.heap.objs.size) >>= _) _ _ _;refine An ?_;show AG _ _ (pure s.heap.objs.size) _ _ _;refine Au (Au ?_);show AG _ _ (AI.Dict.updateFrom "dict.__init__" s.heap.objs.size (Ap.ref z) [] Ap.none) _ _ _;unfold AI.Dict.updateFrom;refine An (C6 (T := "zip") ⟨_,up z _ hz,rfl⟩ (Ch rfl ?_));refine An (zm (A:=A.in1.in1) hh (up z _ hz) fun h' tk kp=>?_);refine Ch rfl ?_;refine An (DS ?_);have up2:∀c o,s.heap.get? c=some o->h'.get? c=some o:=fun c o e=>kp c o (up c o e);refine An (wpAny_pyIter_zip (up2 z _ hz) (Au ⟨Fm _ ψ,?_⟩));have hd0:h'.DictOf (aP prog w) s.heap.objs.size []:=by
  obtain⟨_,_,vs,kv,o,es,ep,e,r⟩:=pQ (P:=prog) (w:=w) (H:=fun _=>none) s.heap hb;cases kv;exact⟨o,es,ep,kp _ o e,r⟩
 refine Vs (A:=A.in1) hh D S (fr hz) (fr hTI) (fr hTO) (fr e1) (fr e2) (fr f1) (fr f2) hn hl (up2 z _ hz) (up2 TI _ hTI) (up2 TO _ hTO) (h1.keep (fun o e=>up2 i1 o e) (fun o e=>up2 l1 o e)) (h2.keep (fun o e=>up2 i2 o e) (fun o e=>up2 l2 o e)) hd0 fun h3 t3 d3 old3=>?_;exact⟨rfl,hQ h3 t3 d3 fun c o c1 c2 c3 c4 e=>old3 c o c1 c2 c3 c4 (BA (fr e)) (up2 c o e)⟩
noncomputable def mz1 (h:Heap) (l1:Addr):Heap:=h.push { cls:=Ap.type "list_iterator",data:=Cn #[Ap.ref l1,Ap.int 0 0] }
noncomputable def mz2 (h:Heap) (l1 l2:Addr):Heap:=(mz1 h l1).push { cls:=Ap.type "tuple_iterator",data:=Cn #[Ap.ref l2,Ap.int 0 0] }
noncomputable def mz3 (h:Heap) (l1 l2:Addr):Heap:=(mz2 h l1 l2).push { cls:=Ap.type "tuple",data:=DE #[Ap.ref h.objs.size,Ap.ref (mz1 h l1).objs.size] }
noncomputable def mz4 (h:Heap) (l1 l2:Addr):Heap:=(mz3 h l1 l2).push { cls:=Ap.type "tuple",data:=DE #[Ap.none,Ap.none] }
noncomputable def mz5 (h:Heap) (l1 l2:Addr):Heap:=(mz4 h l1 l2).push { cls:=Ap.type "zip",data:=Cn #[Ap.none,Ap.bool false,Ap.bool false,Ap.ref (mz2 h l1 l2).objs.size,Ap.ref (mz3 h l1 l2).objs.size] }
theorem Qa (l1 l2:Addr) (xs ys:Array Ap):Meets (AI.«zip.__new__» { pos:=[Ap.type "zip",Ap.ref l1,Ap.ref l2] }) fun _ R s=>
  s.heap.IsList l1 xs/\s.heap.IsTuple l2 ys/\R (.ok (.ret (.ref (mz4 s.heap l1 l2).objs.size))) { s with heap:=mz5 s.heap l1 l2 }:=by
 refine Iy fun prog w A R s h=>?_;obtain⟨ht1,ht2,hR⟩:=h;unfold AI.«zip.__new__» AI.SmallTypes.newClass;refine An (An (Au (AY rfl (An (Da sub_zip (AY rfl (Au ?_)))))));show AG _ _ (AI.SmallTypes.iterAll [Ap.ref l1,Ap.ref l2] >>= _) _ _ _;refine An ?_;unfold AI.SmallTypes.iterAll;refine An ?_;rw[DV];refine An (An (BD (EW ht1 (Au ?_))));show AG _ _ (forIn [Ap.ref l2] #[Ap.ref s.heap.objs.size] _) _ _ _;rw[DV];have ht2':(mz1 s.heap l1).IsTuple l2 ys:=by
  obtain⟨o,e,r⟩:=ht2;exact⟨o,AA _ e,r⟩
 refine An (An (BD (EI (s:={ s with heap:=mz1 s.heap l1 }) ht2' (Au ?_))));show AG _ _ (forIn [] #[Ap.ref s.heap.objs.size,Ap.ref (mz1 s.heap l1).objs.size] _) _ _ _;rw[forIn_nil];refine Au (Au ?_);show AG _ _ (IM [Ap.ref s.heap.objs.size,Ap.ref (mz1 s.heap l1).objs.size] >>= _) _ _ { s with heap:=mz2 s.heap l1 l2 };refine An (E5 ?_ (by show 2<=AL;decide));show AG _ _ (IM [Ap.none,Ap.none] >>= _) _ _ { s with heap:=mz3 s.heap l1 l2 };refine An (E5 ?_ (by show 2<=AL;decide));show AG _ _ (newObj (.type "zip") (.fields #[.none,.bool false,.bool false,.ref (mz2 s.heap l1 l2).objs.size,.ref (mz3 s.heap l1 l2).objs.size]) >>= fun r=>ret r) _ _ { s with heap:=mz4 s.heap l1 l2 };refine An (BF ?_);exact Au ⟨_,rfl,hR⟩
theorem Hg {prog:AR}{w:Bi}{A:Bz}{E:Ap->AB->Prop}{s:AB}{l1 l2:Addr}{xs ys:Array Ap}{Q:Ap->AB->Prop}(hl1:s.heap.IsList l1 xs)(hl2:s.heap.IsTuple l2 ys)
  (h:∀h':Heap,JO h' (s.heap.objs.size+4) (s.heap.objs.size+2) (s.heap.objs.size+3) Ap.none->Cs h' (s.heap.objs.size+2) (Ap.ref s.heap.objs.size) (Ap.ref (s.heap.objs.size+1))->Cs h' (s.heap.objs.size+3) Ap.none Ap.none->h'.IsListIter s.heap.objs.size l1 0->h'.IsTupleIter (s.heap.objs.size+1) l2 0 ->
   h'.objs.size=s.heap.objs.size+5->(∀c o,s.heap.get? c=some o->h'.get? c=some o)->Q (Ap.ref (s.heap.objs.size+4)) { s with heap:=h' }):AG (AW prog w) A (call (Ap.type "zip") [Ap.ref l1,Ap.ref l2]) Q E s:=by
 refine callType_new F.called_zip δ (F.typeCall_zip_2 _ _) (F.newCall_zip_2 _ _) (fun obj=>F.args_object_init_3 obj _ _) F.entry_zip_new (Qa l1 l2 xs ys) ⟨hl1,hl2,?_⟩;have z1:(mz1 s.heap l1).objs.size=s.heap.objs.size+1:=B9 ..;have z2:(mz2 s.heap l1 l2).objs.size=s.heap.objs.size+2:=(B9 ..).trans (by rw[z1]);have z3:(mz3 s.heap l1 l2).objs.size=s.heap.objs.size+3:=(B9 ..).trans (by rw[z2]);have z4:(mz4 s.heap l1 l2).objs.size=s.heap.objs.size+4:=(B9 ..).trans (by rw[z3]);have z5:(mz5 s.heap l1 l2).objs.size=s.heap.objs.size+5:=(B9 ..).trans (by rw[z4]);have g5:(mz5 s.heap l1 l2).get? (mz4 s.heap l1 l2).objs.size=_:=AQ _ rfl;have g4:(mz5 s.heap l1 l2).get? (mz3 s.heap l1 l2).objs.size=_:=AA _ (AQ _ rfl);have g3:(mz5 s.heap l1 l2).get? (mz2 s.heap l1 l2).objs.size=_:=AA _ (AA _ (AQ _ rfl));have g2:(mz5 s.heap l1 l2).get? (mz1 s.heap l1).objs.size=_:=AA _ (AA _ (AA _ (AQ _ rfl)));have g1:(mz5 s.heap l1 l2).get? s.heap.objs.size=_:=AA _ (AA _ (AA _ (AA _ (AQ _ rfl))));have hk:∀c o,s.heap.get? c=some o->(mz5 s.heap l1 l2).get? c=some o:=fun c o e=>AA _ (AA _ (AA _ (AA _ (AA _ e))));rw[z4,z2,z3] at g5;rw[z3] at g4;rw[z2,z1] at g3;rw[z1] at g2;rw[z4];generalize mz5 s.heap l1 l2=h' at z5 g5 g4 g3 g2 g1 hk;exact⟨⟨_,g5,rfl⟩,h h' g5 g3 g4 ⟨_,g1,rfl,rfl⟩ ⟨_,g2,rfl,rfl⟩ z5 hk⟩
theorem Ly {P:AR}{w:Bi}:∀{kvs:List (Key×V)}{its1 its2:List Ap}{ys:List V},Vals (kvs.map fun kv=>kV kv.1) its1->Vals ys its2->ys.take kvs.length=kvs.map (·.2) ->
  ∃rs,KV kvs rs/\rs.length=kvs.length/\its1.length=kvs.length/\∀(j:Nat) kv,rs[j]?=some kv->∃u,its1[j]?=some u/\(aP P w).is kv.1 u=true/\its2[j]?=some kv.2
 | [],its1,its2,ys,h1,h2,h3=>by
  cases h1;exact⟨[],.nil,rfl,rfl,fun j kv e=>by simp at e⟩
 | kv::kvs,its1,its2,ys,h1,h2,h3=>by
  cases h1 with
  | cons r1 t1=>
   rename_i u us;cases h2 with
   | nil=>simp at h3
   | cons r2 t2=>
    rename_i y v ys' vs;simp only[Co,List.take_succ_cons,CF,List.cons.injEq] at h3;obtain⟨rs,k1,k2,k4,k3⟩:=Ly (P:=P) (w:=w) t1 t2 h3.2;refine⟨(kv.1,v)::rs,.cons ⟨rfl,by rw[<- h3.1];exact r2⟩ k1,by simp [k2],by simp [k4],fun j q e=>?_⟩;cases j with
    | zero=>
     simp only[F1,IB] at e;subst e;exact⟨u,by simp,yx r1,by simp⟩
    | succ j=>
     rw[F2] at e;obtain⟨u',e1,e2,e3⟩:=k3 j q e;exact⟨u',by simpa using e1,e2,by simpa using e3⟩
noncomputable def aa3 (K:AD)(ta:TA):TE:=fun σ H Q=>ta σ H fun vs H1=>∃(a b:Addr)(kvs:List (Key×V)) (ys:List V),vs=[.ref a,.ref b]/\(SqT K H1 a (kvs.map fun kv=>kV kv.1)\/SqL K H1 a (kvs.map fun kv=>kV kv.1))/\SqT K H1 b ys/\ys.take kvs.length=kvs.map (·.2)/\0<kvs.length/\kvs.length<=15/\∀p,H1 p=none->Q (.ref p) (upd H1 p (.dK (cP [] kvs)))
section
variable {X:Cx}
theorem Xc {a b:Expr}{ta:TA}{p p2 pos pos2:Pos}(hc:X.calm=true) (hgl:Gl X "dict") (hml:X.mg "dict" = none) (hg:Gl X "zip") (hm:X.mg "zip" = none) (ha:PA X [a,b] ta)
  (hs:AJ [a,b] X.env=[(false,eval a X.env),(false,eval b X.env)]:=by rfl) (hs2:AJ [b] X.env=[(false,eval b X.env)]:=by rfl)
  (he:AJ [.Call (.Name "zip" p2) [a,b] [] pos2] X.env=[(false,eval (.Call (.Name "zip" p2) [a,b] [] pos2) X.env)]:=by rfl) :
  PE X (.Call (.Name "dict" p) [.Call (.Name "zip" p2) [a,b] [] pos2] [] pos) (aa3 X.K ta):=by
 intro pins s σ H Q I h;refine Fh (iG I hgl hml boot_dict ?_ δ δ);refine BI ?_ he rfl;rw[he];show AG _ _ (spliced ((false,eval (.Call (.Name "zip" p2) [a,b] [] pos2) X.env)::[])) _ _ s;refine CL ?_;refine Call_ (iG I hg hm boot_zip (BI (thA (ha pos2 pins s σ H _ I h) fun us s1 vs H1 I1 r1 q1=>?_) (by rw[hs,hs2]) (by rw[hs2];rfl)));obtain⟨l1,l2,kvs,ys,rfl,sq1,sq2,htk,hn,hl,q⟩:=q1;cases r1 with
 | cons r rr=>
  cases rr with
  | cons r' rr=>
   cases rr;cases r;cases r';have apart:l1<s1.heap.objs.size->l2<s1.heap.objs.size->E3 (s1.heap.objs.size+4) (s1.heap.objs.size+2) (s1.heap.objs.size+3) s1.heap.objs.size (s1.heap.objs.size+1) l1 l2:=by
    generalize s1.heap.objs.size=n;intro lt1 lt2;have lt1':@LT.lt Nat _ l1 n:=lt1;have lt2':@LT.lt Nat _ l2 n:=lt2;constructor <;> (intro(z:@Eq Nat _ _);omega)
   obtain⟨its2,rv2,p2',hz2⟩:=I1.tuple sq2;have lt2:l2<s1.heap.objs.size:=by obtain⟨_,e,_⟩:=p2';exact A4 e
   have fin:∀(its1:List Ap)(h':Heap),Vals (kvs.map fun kv=>kV kv.1) its1->l1<s1.heap.objs.size->JO h' (s1.heap.objs.size+4) (s1.heap.objs.size+2) (s1.heap.objs.size+3) Ap.none->Cs h' (s1.heap.objs.size+2) (Ap.ref s1.heap.objs.size) (Ap.ref (s1.heap.objs.size+1))->Cs h' (s1.heap.objs.size+3) Ap.none Ap.none->Wlk h' s1.heap.objs.size l1 0 its1.toArray->Wlk h' (s1.heap.objs.size+1) l2 0 its2.toArray->h'.objs.size=s1.heap.objs.size+5->(∀c o,s1.heap.get? c=some o->h'.get? c=some o) ->
     AG (AW X.prog X.w) X.A (call (Ap.type "dict") [Ap.ref (s1.heap.objs.size+4)]) (EP X pins σ Q) X.xe { s1 with heap:=h' }:=fun its1 h' rv1 lt1 b1 b2 b3 b4 b5 b6 hk=>by
    obtain⟨rs,k1,k2,k4,k3⟩:=Ly (P:=X.prog) (w:=X.w) rv1 rv2 htk;have I2:Inv X pins σ H1 { s1 with heap:=h' }:=I1.kept (t':=s1.toks) hk;refine zZ (s:={ s1 with heap:=h' }) (rs:=rs) (xs:=its1.toArray) (ys:=its2.toArray) (I1.ok.hd hc) (apart lt1 lt2) ⟨fun j kv e=>?_,?_⟩ ω (BG (by omega:rs.length<=15) δ) I2.big b1 b2 b3 b4 b5 fun h3 t3 d3 old3=>?_
    ·obtain⟨u,e1,e2,e3⟩:=k3 j kv e;exact⟨u,by simpa using e1,e2,by simpa using e3⟩
    ·simp [k2,k4]
    have hp:H1 h'.objs.size=none:=I2.hok.fresh (AZ _);have le5:s1.heap.objs.size<=h'.objs.size:=by rw[b6];exact Nat.le_add_right _ _
    have kp3:∀c o,s1.heap.get? c=some o->h3.get? c=some o:=fun c o e=>by
     have lt:=A4 e;refine old3 c o ?_ ?_ ?_ ?_ (hk c o e) <;> (intro(z:@Eq Nat _ _);have lt':@LT.lt Nat _ c s1.heap.objs.size:=lt;omega)
    refine⟨.ref h'.objs.size,_,I1.laid (t':=t3) kp3 le5 (uZ ?_ ?_ (KV.merge k1 .nil) d3),rfl,q _ hp⟩
    ·have:=gK kvs [];simp only[FL] at this;exact BG (by omega:(cP [] kvs).length<=15) δ
    have:=I1.big;have ne:h'.objs.size≠C2:=by
     intro(z:@Eq Nat _ _);have t1:@LT.lt Nat _ C2 s1.heap.objs.size:=this;have t2:@LE.le Nat _ s1.heap.objs.size h'.objs.size:=le5;omega
    exact beq_false_of_ne ne
   rcases sq1 with sq1|sq1
   ·obtain⟨its1,rv1,p1',hz1⟩:=I1.tuple sq1;have lt1:l1<s1.heap.objs.size:=by obtain⟨_,e,_⟩:=p1';exact A4 e
    refine vM p1' p2' fun h' b1 b2 b3 b4 b5 b6 hk=>CC ?_;refine fin its1 h' rv1 lt1 b1 b2 b3 (.inl ⟨b4,?_⟩) (.inl ⟨b5,?_⟩) b6 hk
    ·obtain⟨o,e,r⟩:=p1';exact⟨o,hk _ o e,r⟩
    obtain⟨o,e,r⟩:=p2';exact⟨o,hk _ o e,r⟩
   obtain⟨its1,rv1,p1',hz1⟩:=I1.list sq1;have p1'':=p1'.isList;have lt1:l1<s1.heap.objs.size:=by obtain⟨_,e,_⟩:=p1'';exact A4 e
   refine Hg p1'' p2' fun h' b1 b2 b3 b4 b5 b6 hk=>CC ?_;refine fin its1 h' rv1 lt1 b1 b2 b3 (.inr ⟨b4,?_⟩) (.inl ⟨b5,?_⟩) b6 hk
   ·obtain⟨o,e,r⟩:=p1'';exact⟨o,hk _ o e,r⟩
   obtain⟨o,e,r⟩:=p2';exact⟨o,hk _ o e,r⟩
end
noncomputable def dzQ (K:AD)(vs:List V)(H1:Hp)(Q:VK):Prop:=∃(a b:Addr)(kvs:List (Key×V)) (ys:List V),vs=[.ref a,.ref b]/\(SqT K H1 a (kvs.map fun kv=>kV kv.1)\/SqL K H1 a (kvs.map fun kv=>kV kv.1))/\SqT K H1 b ys/\ys.take kvs.length=kvs.map (·.2)/\0<kvs.length/\kvs.length<=15/\∀p,H1 p=none->Q (.ref p) (upd H1 p (.dK (cP [] kvs)))
noncomputable def tDZ (K:AD)(ta:TA):TE:=fun σ H Q=>ta σ H fun vs H1=>dzQ K vs H1 Q
theorem Zh (K:AD)(ta:TA)(σ:St)(H:Hp)(Q:VK):tDZ K ta σ H Q=ta σ H fun vs H1=>dzQ K vs H1 Q:=rfl
noncomputable def dgQ (x y:V)(H:Hp)(Q:VK):Prop:=∃a v,x=.ref a/\zf H a y (some v)/\Q v H
noncomputable def tDG (td ty:TE):TE:=fun σ H Q=>td σ H fun x H1=>ty σ H1 fun y H2=>dgQ x y H2 Q
theorem Zi (td ty:TE)(σ:St)(H:Hp)(Q:VK):tDG td ty σ H Q=td σ H fun x H1=>ty σ H1 fun y H2=>dgQ x y H2 Q:=rfl
noncomputable def dpQ (x y v:V)(H:Hp)(R:Hp->Prop):Prop:=∃a H4,x=.ref a/\PK H a y v H4/\R H4
noncomputable def sDP (td ty tv:TE):TS:=fun D σ H=>tv σ H fun v H1=>td σ H1 fun x H2=>ty σ H2 fun y H3=>dpQ x y v H3 fun H4=>D.nx σ H4
theorem Zr (td ty tv:TE)(D:Ends)(σ:St)(H:Hp):sDP td ty tv D σ H=tv σ H fun v H1=>td σ H1 fun x H2=>ty σ H2 fun y H3=>dpQ x y v H3 fun H4=>D.nx σ H4:=rfl
section
variable {X:Cx}{o i e value:Expr}{pos pos' tpos:Pos}{td ty tv:TE}
theorem abg {a b:Expr}{ta:TA}{p p2 pos pos2:Pos}(hc:X.calm=true) (hgl:Gl X "dict") (hml:X.mg "dict" = none) (hg:Gl X "zip") (hm:X.mg "zip" = none) (ha:QA X [a,b] ta)
  (hs:AJ [a,b] X.env=[(false,eval a X.env),(false,eval b X.env)]:=by rfl) (hs2:AJ [b] X.env=[(false,eval b X.env)]:=by rfl)
  (he:AJ [.Call (.Name "zip" p2) [a,b] [] pos2] X.env=[(false,eval (.Call (.Name "zip" p2) [a,b] [] pos2) X.env)]:=by rfl) :
  QE X (.Call (.Name "dict" p) [.Call (.Name "zip" p2) [a,b] [] pos2] [] pos) (tDZ X.K ta):=⟨Xc hc hgl hml hg hm ha.h hs hs2 he⟩
theorem YZ (hu:X.A.units+1<FU)(ho:QE X o td)(hi:QE X i ty)(hs:aaY i):QE X (.Subscript o i pos) (tDG td ty):=⟨Xf hu ho.h hi.h hs⟩
theorem abf (hu:X.A.units+1<FU)(ho:QE X o td)(hi:QE X i ty)(hv:QE X value tv)(hs:II value (some (.Subscript o i pos')) pos.line X.env=pure false) :
  QS X (.Assign [.Subscript o i pos'] value pos) (sDP td ty tv):=⟨WK hu ho.h hi.h hv.h hs⟩
end
noncomputable def rdA:=AC @Zh (AC @Zi @Zr)
noncomputable def fY (zs:List Int):List (Key×V):=[(D0 "is",V.int (zs.getD 0 0)),(D0 "within",V.int (zs.getD 1 0)),(D0 "below",V.int (zs.getD 2 0)),(D0 "mask",V.int (zs.getD 3 0)),(D0 "table",V.int (zs.getD 4 0))]
theorem UJ (zs:List Int):(fY zs).length=5:=rfl
theorem O4 {zs:List Int}(h:5<=zs.length):(zs.map V.int).take (fY zs).length=(fY zs).map (·.2):=by
 match zs,h with
 | a::b::c::d::e::_,_=>rfl
theorem Yk (zs:List Int):(cP [] (fY zs)).length<AL:=by
 have:=gK (fY zs) [];rw[UJ,FL] at this;exact KB this δ
theorem kne {a b:Str}(h:a≠b):¬(D0 a:Key)=D0 b:=fun e=>h (D0.inj e)
noncomputable def YK (P:AR)(w:Bi)(o:Obj)(vs:List (Key×Ap)):Prop:=∃es ep,o.ExactDict/\o.data=F3 es ep/\PySem.KeysOf (aP P w) es/\Pairs (aP P w) es.toList vs/\(List.map (fun x=>x.fst) vs).Nodup
theorem YK.at {P:AR}{w:Bi}{o:Obj}{vs:List (Key×Ap)}{h:Heap}{a:Addr}(d:YK P w o vs)(e:h.get? a=some o):h.DictOf (aP P w) a vs:=by
 obtain⟨es,ep,r⟩:=d;exact⟨o,es,ep,e,r⟩
theorem U4 {P:AR}{w:Bi}{h:Heap}(hb:C2<h.objs.size):YK P w { cls:=.type "dict",data:=.dict #[] } []:=by
 obtain⟨_,_,vs,kv,o,es,ep,e,r⟩:=pQ (P:=P) (w:=w) (H:=fun _=>none) h hb;cases kv;have e2:(h.push { cls:=.type "dict",data:=.dict #[] }).get? h.objs.size=some { cls:=.type "dict",data:=.dict #[] }:=AQ _ rfl;rw[e2] at e;cases e;exact⟨es,ep,r⟩
section
variable {prog:AR}{w:Bi}{A:Bz}{R:Result->AB->Prop}{s:AB}
theorem J2 {kx vx tg iter:Expr}{ifs:List Expr}{scope:GG}{pos:Pos}{it:Ap}{D:Addr}{env:Env}(J:Nat->AB->Prop)
  (turn:∀n s,J n s->AG (AW prog w) A (EO it) (fun r s1=>match r with
   | none=>R (.ok .next) s1
   | some v=>AG (AW prog w) A (Ha tg it v) (fun _ s1'=>AG (AW prog w) A (FE tg env v) (fun _ s2=>
     AG (AW prog w) A (forIn ifs true fun c r=>if r=true then do let ok <- isTrue c env (eval c env);pure (DJ ok) else pure (DJ r)) (fun ok s3=>
      if ok=true then AG (AW prog w) A (eval kx env) (fun x s4=>AG (AW prog w) A (eval vx env) (fun y s4'=>
       AG (AW prog w) A (dictSet D x y) (fun _ s5=>∃m,m<n/\J m s5) (F8 (AW prog w) A env fun e z=>R (.error e) z) s4') (F8 (AW prog w) A env fun e z=>R (.error e) z) s4) (F8 (AW prog w) A env fun e z=>R (.error e) z) s3
      else ∃m,m<n/\J m s3) (F8 (AW prog w) A env fun e z=>R (.error e) z) s2) (F8 (AW prog w) A env fun e z=>R (.error e) z) s1') (F8 (AW prog w) A env fun e z=>R (.error e) z) s1) (F8 (AW prog w) A env fun e z=>R (.error e) z) s)
  (n:Nat) (h:J n s):Ff (AW prog w) A (.compLoop (.DictComp kx vx [⟨tg,iter,ifs,0⟩] scope pos) 0 it (.ref D) env) R s:=by
 refine codeAny_loop rfl J (fun n z hJ=>?_) n h;show AG _ A ((compTurn (.DictComp kx vx [⟨tg,iter,ifs,0⟩] scope pos) 0 it (.ref D) env).onRaise (fun y=>do noteFrame y env;theTreesLotGoes y)) _ _ z;refine wpAny_noted ?_;rw[compTurn_dict];refine An (FB (An (CA (turn n z hJ) (fun r s1 h1=>?_) fun _ _ q=>q)));cases r with
 | none=>exact Au h1
 | some v=>
  refine An (CA h1 (fun _ s1' h1'=>?_) fun _ _ q=>q);refine An (CA h1' (fun _ s2 h2=>An (CA h2 (fun ok s3 h3=>?_) fun _ _ q=>q)) fun _ _ q=>q);cases ok with
  | false=>exact Au ⟨rfl,h3⟩
  | true=>
   exact An (An (CA h3 (fun x s4 h4=>An (BD (CA h4 (fun y s4' h4'=>An (FB (BD (CA h4' (fun _ s5 h5=>Au ⟨rfl,h5⟩) fun _ _ q=>q)))) fun _ _ q=>q))) fun _ _ q=>q))
end
noncomputable def kvQ (kx:V)(R:Key->Prop):Prop:=∃k,kx=kV k/\R k
noncomputable def Ca (mp:List (Option Nat))(wi:TI)(g:TG)(tc:TT)(tk tv:TE):TE:=fun σ H Q=>wi σ H fun J H1=>
 ∃W:Nat->Nat->List (Key×V)->St->Hp->Prop,(∃m,W 0 m [] (jU mp σ) H1)/\∀i m acc τ H2,W i m acc τ H2 ->
  (J.stop i H2/\∀d,H2 d=none->Q (.ref d) (upd H2 d (.dK acc))) \/
  (J.go i H2/\acc.length<AL/\∃N:List (Key×V)->St->Hp->Prop,(∀acc' τ' H',N acc' τ' H'->∃m',m'<m/\W (i+1) m' acc' τ' H')/\∀x H3,J.yld i H2 x H3->g x τ H3 fun τ1 H4=>tc τ1 H4 fun b H5=>
   if b=true then tk τ1 H5 fun kv H6=>tv τ1 H6 fun v H7=>kvQ kv fun k=>N (putK acc k v) τ1 H7 else N acc τ1 H5)
section
variable {X:Cx}{NX N:List Str}{kX:List (Str×DF)}{mp:List (Option Nat)}{scope:GG}
set_option maxHeartbeats 8000000 in
theorem Ww {tg iter kx vx:Expr}{ifs:List Expr}{pos pos' pos2:Pos}{wi:TI}{g:TG}{tc:TT}{tk tv:TE}{i:Nat}{x:Str}(N:List Str)(mp:List (Option Nat))(hn:Nm X.N X.env.scope i x)(hNd:X.N.Nodup)(hNX:X.N=NX)(hkX:X.env.scope.names=kX)(S:vO NX kX N mp scope)(hc:X.calm=true)
  (hi:PI X tg iter wi) (hg:∀cl C s H fp,PG (bK X N scope cl C s H fp) tg g) (ht:∀cl C s H fp,PTs (bK X N scope cl C s H fp) ifs tc) (hek:∀cl C s H fp,PE (bK X N scope cl C s H fp) kx tk) (hev:∀cl C s H fp,PE (bK X N scope cl C s H fp) vx tv)
  (hf:X.fn x=true\/X.env.scope.names.lookup x=some .local:=by exact .inl rfl)
  (hsw:EB [.Name x pos'] (.DictComp kx vx [⟨tg,iter,ifs,0⟩] scope pos) pos2.line X.env=pure true:=by rfl)
  (h1:(DC [.Name x pos'] X.env).map (·.2)=[FE (.Name x pos') X.env]:=by rfl)
  (hs:∀x,D5 iter X.env x=pure x:=by intro _;rfl):PS X (.Assign [.Name x pos'] (.DictComp kx vx [⟨tg,iter,ifs,0⟩] scope pos) pos2) (vP (Ca mp wi g tc tk tv) (kI i)):=by
 intro pins s σ H Dn I h;rw[JI];refine An (FB ?_);rw[hsw];refine An (Au ?_);rw[if_pos rfl,h1];replace h:Ca mp wi g tc tk tv σ H (fun v H1=>Dn.nx (σ.set i (some v)) H1):=h;obtain⟨cl,hcl,hsub,hhas⟩:=Ea (env:=X.env) (scope:=scope) fun y hy hf=>I.ok.has y.1 (by
  rcases S.fre y hy hf with q|q
  ·exact .inl (show X.env.scope.names.lookup y.1=_ by rw[hkX];exact q)
  exact .inr (show X.env.scope.names.lookup y.1=_ by rw[hkX];exact q))
 generalize hQ:(fun(v:V)(H1:Hp)=>Dn.nx (σ.set i (some v)) H1)=Q at h
 let QQ:Ap->AB->Prop:=fun _ s'=>∃τ H',Inv X pins τ H' s'/\Dn.nx τ H'
 refine An (An (thn (Q:=QQ) (IG (e:=.DictComp kx vx [⟨tg,iter,ifs,0⟩] scope pos) (use:=some fun v=>assignAll v [FE (.Name x pos') X.env]) rfl hs hcl S.kind S.locs ?_) fun _ s' ⟨τ,H',I',q'⟩=>Au (Au ⟨τ,H',I',q'⟩)));refine thn (hi pins s σ H _ I h) fun v s1 h1=>thn h1 fun itv s2 h2=>?_;obtain⟨it,fp,tn,J,H2,e,I2,T,st2,f2,W,⟨m0,w0⟩,turn⟩:=h2;subst e;refine BF (Kk S.nocell (by intro y hy;simp at hy) (fun h3 hns hsb=>?_) S.kind);dsimp only at hns hsb |-;have hold:∀b∈fp,b<s2.heap.objs.size:=fun b hb=>by
  obtain⟨o,q,_⟩:=T.obj _ _ st2 b hb;exact A4 q
 generalize hD:s2.heap.objs.size=D at hns hsb;generalize hH2:s2.heap.push { cls:=.type "dict",dict:=none,data:=.dict #[] }=P2 at hns hsb |-;have hC:P2.objs.size=D+1:=by rw[<- hH2,B9,hD]
 generalize hC':P2.objs.size=C at hns hsb |-;rw[hC'] at hC;have old:∀b o,s2.heap.get? b=some o->h3.get? b=some o:=fun b o q=>by
  have hb:=A4 q;exact hsb.extBut b o (na1 hb hD hC) (AA _ (hH2 ▸ AA _ q))
 have accD:h3.get? D=some { cls:=.type "dict",data:=.dict #[] }:=
  hsb.extBut _ _ (na2 hC) (AA _ (by rw[<- hH2,<- hD];exact AQ _ rfl))
 have hfr:D∉frs X.stack:=fun z=>by
  rcases A5.mp (I2.uq D z) with q|q
  ·exact na0 I2.lt hD q.symm
  exact I2.XF (na4 hD) q
 have I0:Inv (bK X N scope cl C s2 H2 fp) [(D,{ cls:=.type "dict",data:=.dict #[] })] (jU mp σ) H2 { s2 with heap:=h3,toks:=s2.toks+([]:List (Str×Ap)).length }:=
  DY (s':={ s2 with heap:=h3,toks:=s2.toks+([]:List (Str×Ap)).length }) hNX hkX S I2 f2 hold (na3 hD hC) hsub hhas rfl rfl ⟨_,hns⟩ old fun p hp=>by
   have ep:=AK.mp hp;subst ep;exact⟨accD,I2.hok.fresh (na4 hD),na2 hC,hfr,fun v z=>by cases z⟩
 have hsys:(D == C2)=false:=by
  have t1:@LT.lt Nat _ C2 s2.heap.objs.size:=I2.big;have t2:@Eq Nat s2.heap.objs.size D:=hD;exact beq_false_of_ne (by intro(z:@Eq Nat _ _);omega)
 have T0:tn 0 h3:=T.keep _ _ _ st2 fun b _ o q=>old b o q;have loop:∀z:AB,z={ s2 with heap:=h3,toks:=s2.toks+([]:List (Str×Ap)).length } ->
   Ff (AW X.prog X.w) X.A (.compLoop (.DictComp kx vx [⟨tg,iter,ifs,0⟩] scope pos) 0 (.ref it) (.ref D) (G0 scope cl C X.env))
    (compPost (AW X.prog X.w) X.A X.xe (some fun v=>assignAll v [FE (.Name x pos') X.env]) QQ (.ref D) C) z:=by
  rintro z rfl;have stat:∀{H':Hp}{pl:List (Addr×Obj)},(∀b∈fp,H' b=none)->(∀p∈pl,p.1=D)->∀b∈fp,ug (bK X N scope cl C s2 H2 fp) pl H' b:=fun hn hp b hb=>by
   have hb2:=hold b hb;refine⟨hn b hb,na1 hb2 hD hC,(DX hkX S I2 f2 hold (na3 hD hC) hsub hhas).exfs b hb,.inl hb,fun x c q=>(f2 b hb).2.2.2.2.1 x c (hsub x c q),fun p hpp=>?_⟩;have hpD:=hp p (by simpa [bK] using hpp);rw[hpD];exact(na0 hb2 hD).symm
  refine J2 (env:=G0 scope cl C X.env) (fun n z=>∃i acc τ H' o vs,Inv (bK X N scope cl C s2 H2 fp) [(D,o)] τ H' z/\YK X.prog X.w o vs/\tn i z.heap/\(∀b∈fp,H' b=none)/\KV acc vs/\acc.length<=AL/\W i n acc τ H')
   ?_ m0 ⟨0,[],_,H2,_,[],I0,U4 I2.big,T0,fun b hb=>(f2 b hb).1,.nil,EN _,w0⟩
  rintro n s5 ⟨i,acc,τ,H5,ob,vs,I5,dob,st5,fr5,va,hz,w5⟩;rcases turn i n acc τ H5 w5 with⟨stop,qn⟩|⟨go,hz2,N9,hN9,step⟩
  ·refine thn (T.done (bK X N scope cl C s2 H2 fp) rfl rfl rfl hc i _ s5 τ H5 _ I5 (stat fr5 (by simp)) st5 stop) fun r s6 ⟨hr,I6⟩=>?_;subst hr;obtain⟨m6,hn6,_⟩:=I6.loc;obtain⟨dD,nD,_,_,_⟩:=I6.pin (D,_) (BB _ (AK.mpr rfl));have U:=I6.base;have nC:H5 C=none:=I6.free;have ne:∀b o,s2.heap.get? b=some o->b≠C/\b≠D:=fun b o q=>by
    exact⟨na1 (A4 q) hD hC,na0 (A4 q) hD⟩
   have key:∀h',B5 C s6.heap h'->Inv X pins σ (upd H5 D (.dK acc)) { s6 with heap:=h' }:=fun h' sb=>by
    have keepC:∀b o,b≠C->s6.heap.get? b=some o->h'.get? b=some o:=fun b o hb q=>(sb.2 b hb).trans q;have U':Un (frs X.stack) fp H2 (upd H5 D (.dK acc)) s2.heap h':=by
     refine⟨fun b o q n1 hb hx=>keepC b o (ne b o q).1 (U.keep b o q n1 hb hx),fun b o q n1 hb hx=>?_,fun b o q n1 hx=>?_,fun b o q hx=>?_,fun b xs q=>?_,fun b o xs q=>?_,fun b ps q=>?_⟩
     ·obtain⟨sl,z⟩:=U.slot b o q n1 hb hx;exact⟨sl,keepC b _ (ne b o q).1 z⟩
     ·rw[aJ (ne b o q).2];exact U.free b o q n1 hx
     ·obtain⟨o',z⟩:=U.there b o q hx;exact⟨o',keepC b _ (ne b o q).1 z⟩
     ·have z:=U.tups b xs q;rw[aJ (aD z nD)];exact z
     ·have z:=U.frzs b o xs q;rw[aJ (aD z nD)];exact z
     obtain⟨more,z⟩:=U.tbls b ps q;exact⟨more,by rw[aJ (aD z nD)];exact z⟩
    have hok:HOk X.prog X.w (upd H5 D (.dK acc)) h':=fun b u q=>by
     by_cases hb:b=D
     ·subst hb;rw[aq] at q;cases q;exact uZ hz hsys va (dob.at (keepC _ _ (na2 hC) dD))
     rw[aJ hb] at q;refine(I6.hok b u q).stay (fun c v hcc z=>keepC c v ?_ z) (fun c z=>by rw[aJ (aD z nD)];exact z) fun c xs z=>by rw[aJ (aD z nD)];exact z
     rcases hcc with z1|z1
     ·subst z1;exact aD q nC
     exact aD z1 nC
    have I7:Inv X pins σ (upd H5 D (.dK acc)) { s6 with heap:=h' }:=I2.call' (s':={ s6 with heap:=h' }) (ch:=fp) I6.os U' hok I6.bare fun b hb=>by
     obtain⟨_,a2,_,a4,a5,a6⟩:=f2 b hb;exact⟨a4,a2,a5,a6⟩
    exact I7
   have I7:Inv X pins σ (upd H5 D (.dK acc)) s6:=key s6.heap (B5.refl _ _);have lC:X.env.locals≠C:=na1 I2.lt hD hC;have cC:∀y c,X.env.cells.lookup y=some c->c≠C:=fun y c z=>by
    obtain⟨_,o,h1,_⟩:=I2.cell y c z;exact na1 (A4 h1) hD hC
   show AG _ _ (FE (.Name x pos') X.env (.ref D)) _ _ s6;refine wpAny_assign_Name (uo (v:=.ref D) I7 hNd hn.hN hn.hv rfl (fun s7 I8 ⟨a,sa,ha⟩=>?_) hf);have aC:a≠C:=by
    rcases ha with rfl|ha
    ·exact lC
    exact cC _ _ ha
   obtain⟨o6,es6,ep6,g1,g2,g3,g4⟩:=hn6;refine⟨m6,⟨o6,es6,ep6,(sa.2 C (BA aC)).trans g1,g2,g3,g4⟩,fun h' sb=>?_⟩;have q9:=qn D nD;rw[<- hQ] at q9;refine⟨_,_,I8.turned (it:=C) (t':=s7.toks) (fun b o hb q=>(sb.2 b hb).trans q) ?_ (BA lC) (.inr (BG I2.sz (na3 hD hC))) cC (fun p hp=>?_),q9⟩
   ·rw[aJ (BA (na2 hC))];exact nC
   obtain⟨h1,_⟩:=I2.pin p hp;exact na1 (A4 h1) hD hC
  refine thn (T.item (bK X N scope cl C s2 H2 fp) rfl rfl rfl hc i _ s5 τ H5 _ I5 (stat fr5 (by simp)) st5 go) fun r s6 ⟨u,hr,h6⟩=>?_;subst hr;refine thn h6 fun _ s7 ⟨x,H7,I7,r7,y7,st7,fr7⟩=>?_;have I7':=I7.pinned (stat fr7 (by simp)) (T.obj _ _ st7);have no:∀{α:Type}{t:Sem α}{Q1 Q2:α->AB->Prop}{E:Ap->AB->Prop}{z:AB},AG (AW X.prog X.w) X.A t Q1 (fun _ _=>False) z->(∀a z,Q1 a z->Q2 a z)->AG (AW X.prog X.w) X.A t Q2 E z:=
   fun q f=>CA q f fun _ _ z=>z.elim
  refine no (hg cl C s2 H2 fp _ s7 τ H7 x u _ I7' r7 (step x H7 y7)) fun _ s8 ⟨τ1,H8,I8,q8⟩=>?_;refine no (ht cl C s2 H2 fp _ s8 τ1 H8 _ I8 q8) fun ok s9 ⟨H9,I9,q9⟩=>?_;have JJ:∀{H':Hp}{z:AB}{o':Obj},Inv (bK X N scope cl C s2 H2 fp) ([(D,o')]++iV fp s7.heap) τ1 H' z ->
    tn (i+1) z.heap/\(∀b∈fp,H' b=none)/\Inv (bK X N scope cl C s2 H2 fp) [(D,o')] τ1 H' z:=fun {H' z o'} Iz=>by
   have get:∀b∈fp,∀o,s7.heap.get? b=some o->z.heap.get? b=some o/\H' b=none:=fun b hb o q=>by
    obtain⟨a1,a2,_⟩:=Iz.pin (b,o) (BB _ (BB _ (kj hb q)));exact⟨a1,a2⟩
   refine⟨T.keep _ _ _ st7 fun b hb o q=>(get b hb o q).1,fun b hb=>?_,Iz.lV⟩;obtain⟨o,q,_⟩:=T.obj _ _ st7 b hb;exact(get b hb o q).2
  cases ok with
  | false=>
   rw[if_neg A3] at q9 |-;obtain⟨m',hm,w9⟩:=hN9 _ _ _ q9;obtain⟨a1,a2,a3⟩:=JJ I9;exact⟨m',hm,i+1,acc,τ1,H9,ob,vs,a3,dob,a1,a2,va,hz,w9⟩
  | true=>
   rw[if_pos rfl] at q9 |-;refine no (hek cl C s2 H2 fp _ s9 τ1 H9 _ I9 q9) fun uk s10 ⟨xk,H10,I10,rk,q10⟩=>?_;refine no (hev cl C s2 H2 fp _ s10 τ1 H10 _ I10 q10) fun y s11 ⟨v,H11,I11,rv,kk,ek,q11⟩=>?_;subst ek;obtain⟨m',hm,w11⟩:=hN9 _ _ _ q11;obtain⟨a1,a2,a3⟩:=JJ I11;obtain⟨dD,nD,_,_,_⟩:=a3.pin (D,_) (BB _ (AK.mpr rfl));have hlen:=va.length;refine K0 (knd:=aP X.prog X.w) (yx rk) (dob.at dD) (fun h' dd sb=>?_) (by rw[<- hlen];omega);obtain⟨o',es',ep',g1,g2⟩:=dd;have a4:Inv (bK X N scope cl C s2 H2 fp) (iV fp s7.heap) τ1 H11 s11:=I11.lE fun p hp=>I11.pin p (BB _ (BB _ hp));have a5:Inv (bK X N scope cl C s2 H2 fp) (iV fp s7.heap) τ1 H11 { s11 with heap:=h',toks:=s11.toks+1 }:=
    a4.turned (it:=D) (fun b o hb z=>(sb.2 b hb).trans z) nD (na2 hC) (.inr (na4 hD))
     (fun x c z=>by
      obtain⟨_,o,h1,_⟩:=I2.cell x c (hsub x c z);exact na0 (A4 h1) hD) fun p hp=>by
      have hb:=(qe (by simpa [bK] using hp)).1;exact na0 (hold _ hb) hD
   have b1:tn (i+1) h':=T.keep _ _ _ a1 fun b hb o z=>(sb.2 b (na0 (hold b hb) hD)).trans z;have hpl:=iy acc kk v;refine⟨m',hm,i+1,putK acc kk v,τ1,H11,o',HP vs kk y,a5.lE fun p hp=>?_,⟨es',ep',g2⟩,b1,a2,va.put kk rv,ω,w11⟩;have ep:=AK.mp hp;subst ep;exact⟨g1,nD,na2 hC,hfr,fun v z=>by rw[g2.2.1] at z;cases z⟩
 have e1:{ newEnv scope C X.env.globals cl X.env.qual none .none (some X.env) X.env.builtins with scope:=relabel scope X.env }=G0 scope cl C X.env:=rfl;exact codeAny_compStart_dict (loop _ rfl) (T.self _ 0 _ _ _ T0 (loop _ rfl))
theorem Wf {tg iter kx vx:Expr}{ifs:List Expr}{pos pos' pos2:Pos}{wi:TI}{g:TG}{tc:TT}{tk tv:TE}{i:Nat}{x:Str}(N:List Str)(mp:List (Option Nat))(hn:Nm X.N X.env.scope i x)(hNd:X.N.Nodup)(hNX:X.N=NX)(hkX:X.env.scope.names=kX)(S:vO NX kX N mp scope)(hc:X.calm=true)
  (hi:QI X tg iter wi) (hg:∀cl C s H fp,QG (bK X N scope cl C s H fp) tg g) (ht:∀cl C s H fp,QC (bK X N scope cl C s H fp) ifs tc) (hek:∀cl C s H fp,QE (bK X N scope cl C s H fp) kx tk) (hev:∀cl C s H fp,QE (bK X N scope cl C s H fp) vx tv)
  (hf:X.fn x=true\/X.env.scope.names.lookup x=some .local:=by exact .inl rfl)
  (hsw:EB [.Name x pos'] (.DictComp kx vx [⟨tg,iter,ifs,0⟩] scope pos) pos2.line X.env=pure true:=by rfl)
  (h1:(DC [.Name x pos'] X.env).map (·.2)=[FE (.Name x pos') X.env]:=by rfl)
  (hs:∀x,D5 iter X.env x=pure x:=by intro _;rfl):QS X (.Assign [.Name x pos'] (.DictComp kx vx [⟨tg,iter,ifs,0⟩] scope pos) pos2) (vP (Ca mp wi g tc tk tv) (kI i)):=
 ⟨Ww N mp hn hNd hNX hkX S hc hi.h (fun cl C s H fp=>(hg cl C s H fp).h) (fun cl C s H fp=>(ht cl C s H fp).h) (fun cl C s H fp=>(hek cl C s H fp).h) (fun cl C s H fp=>(hev cl C s H fp).h) hf hsw h1 hs⟩
end
noncomputable def zsQ (K:AD)(vs:List V)(H:Hp)(R:It->Hp->Prop):Prop:=∃a b xs ys,vs=[.ref a,.ref b]/\SqT K H a xs/\SqT K H b ys/\R (Itu K a b) H
noncomputable def Uq (K:AD)(ta:TA):TI:=fun σ H R=>ta σ H fun vs H1=>zsQ K vs H1 R
theorem Uo (K:AD)(ta:TA)(σ:St)(H:Hp)(R:It->Hp->Prop):Uq K ta σ H R=ta σ H fun vs H1=>zsQ K vs H1 R:=rfl
section
variable {X:Cx}
theorem WX {es:List Expr}{kk:Nat}{tpos:Pos}{a b:Expr}{ta:TA}{p pos:Pos}(hg:Gl X "zip") (hm:X.mg "zip" = none) (ha:PA X [a,b] ta) (hs:AJ [a,b] X.env=[(false,eval a X.env),(false,eval b X.env)]:=by rfl) (hs2:AJ [b] X.env=[(false,eval b X.env)]:=by rfl) :
  PI X (.Tuple es kk tpos) (.Call (.Name "zip" p) [a,b] [] pos) (Uq X.K ta):=by
 intro pins s σ H R I h;refine Call_ (iG I hg hm boot_zip (BI (thA (ha pos pins s σ H _ I h) fun us s1 vs H1 I1 r1 q1=>?_) (by rw[hs,hs2]) (by rw[hs2];rfl)));obtain⟨l1,l2,xs,ys,rfl,e1,e2,q⟩:=q1;cases r1 with
 | cons r rr=>
  cases rr with
  | cons r' rr=>
   cases rr;cases r;cases r';have apart:l1<s1.heap.objs.size->l2<s1.heap.objs.size->E3 (s1.heap.objs.size+4) (s1.heap.objs.size+2) (s1.heap.objs.size+3) s1.heap.objs.size (s1.heap.objs.size+1) l1 l2:=by
    generalize s1.heap.objs.size=n;intro lt1 lt2;have lt1':@LT.lt Nat _ l1 n:=lt1;have lt2':@LT.lt Nat _ l2 n:=lt2;constructor <;> (intro(z:@Eq Nat _ _);omega)
   have fp:∀b∈[s1.heap.objs.size+4,s1.heap.objs.size+2,s1.heap.objs.size+3,s1.heap.objs.size,s1.heap.objs.size+1],ug X pins H1 b:=fun b hb=>by
    have hle:s1.heap.objs.size<=b:=by
     simp only[A5,A9,or_false] at hb;rcases hb with rfl|rfl|rfl|rfl|rfl <;> simp
    exact I1.JW hle (I1.hok.fresh hle)
   obtain⟨its1,rv1,p1,hz1⟩:=I1.tuple e1;obtain⟨its2,rv2,p2,hz2⟩:=I1.tuple e2;have lt1:l1<s1.heap.objs.size:=by obtain⟨_,e,_⟩:=p1;exact A4 e
   have lt2:l2<s1.heap.objs.size:=by obtain⟨_,e,_⟩:=p2;exact A4 e
   refine vM p1 p2 fun h' b1 b2 b3 b4 b5 b6 hk=>?_;refine wpAny_pyIter_zip (s:={ s1 with heap:=h' }) b1 ?_;exact⟨_,_,_,_,H1,rfl,I1.kept (t':=s1.toks) hk,MT (apart lt1 lt2),⟨b1,b2,⟨_,_,b3⟩,b4,b5⟩,fp,q⟩
theorem Wi {es:List Expr}{kk:Nat}{tpos:Pos}{a b:Expr}{t:TA}{p pos:Pos}(hg:Gl X "zip") (hm:X.mg "zip" = none) (ha:QA X [a,b] t) (hs:AJ [a,b] X.env=[(false,eval a X.env),(false,eval b X.env)]:=by rfl) (hs2:AJ [b] X.env=[(false,eval b X.env)]:=by rfl):QI X (.Tuple es kk tpos) (.Call (.Name "zip" p) [a,b] [] pos) (Uq X.K t):=⟨WX hg hm ha.h hs hs2⟩
end
theorem SqT.same {K:AD}{H H':Hp}{a:Addr}{xs:List V}(h:SqT K H a xs)(s:Same H H'):SqT K H' a xs:=by
 rcases h with h|h
 ·rcases h with h|⟨o,h⟩
  ·exact .inl (.inl (s _ _ h))
  exact .inl (.inr ⟨o,s _ _ h⟩)
 exact .inr h
noncomputable def Y6 (mp:List (Option Nat))(g:TG)(tc:TT)(tk tv:TE)(σ:St)(Q:VK)(J:It)(H1:Hp):Prop:=
 ∃W:Nat->Nat->List (Key×V)->St->Hp->Prop,(∃m,W 0 m [] (jU mp σ) H1)/\∀i m acc τ H2,W i m acc τ H2 ->
  (J.stop i H2/\∀d,H2 d=none->Q (.ref d) (upd H2 d (.dK acc))) \/
  (J.go i H2/\acc.length<AL/\∃N:List (Key×V)->St->Hp->Prop,(∀acc' τ' H',N acc' τ' H'->∃m',m'<m/\W (i+1) m' acc' τ' H')/\∀x H3,J.yld i H2 x H3->g x τ H3 fun τ1 H4=>tc τ1 H4 fun b H5=>
   if b=true then tk τ1 H5 fun kv H6=>tv τ1 H6 fun v H7=>kvQ kv fun k=>N (putK acc k v) τ1 H7 else N acc τ1 H5)
theorem Ys {mp:List (Option Nat)}{wi:TI}{g:TG}{tc:TT}{tk tv:TE}{σ:St}{H:Hp}{Q:VK}(h:∀R:It->Hp->Prop,R=Y6 mp g tc tk tv σ Q->wi σ H R):Ca mp wi g tc tk tv σ H Q:=h _ rfl
theorem Ju (kvs:List (Key×V))(kv:Key×V):cP [] (kvs++[kv])=putK (cP [] kvs) kv.1 kv.2:=by
 unfold cP;rw[List.foldl_append];rfl
theorem Yr {K:AD}{mp:List (Option Nat)}{g:TG}{tc:TT}{tk tv:TE}{σ:St}{H:Hp}{Q:VK}{R:It->Hp->Prop}{a b:Addr}{ys:List V}{kvs:List (Key×V)}(okT:St->Prop)(hR:R=Y6 mp g tc tk tv σ Q)(ea:SqT K H a (kvs.map fun kv=>kV kv.1))(eb:SqT K H b ys)(hl:kvs.length<=ys.length)(hz:kvs.length<=15)(h0:okT (jU mp σ))
  (hs:∀(i:Nat) kv y τ H' p (Nx:List (Key×V)->St->Hp->Prop),kvs[i]?=some kv->ys[i]?=some y->Same H H'->okT τ->H' p=none->(∀τ1 H1,Same H H1->okT τ1->Nx (putK (cP [] (kvs.take i)) kv.1 kv.2) τ1 H1) ->
   g (.ref p) τ (upd H' p (.tup [kV kv.1,y])) fun τ1 H4=>tc τ1 H4 fun bb H5=>if bb=true then tk τ1 H5 fun kx H6=>tv τ1 H6 fun v H7=>kvQ kx fun k=>Nx (putK (cP [] (kvs.take i)) k v) τ1 H7 else Nx (cP [] (kvs.take i)) τ1 H5)
  (hd:∀d H',Same H H'->H' d=none->Q (.ref d) (upd H' d (.dK (cP [] kvs)))):R (Itu K a b) H:=by
 rw[hR];refine⟨fun i m acc τ H'=>m+i=kvs.length/\Same H H'/\okT τ/\acc=cP [] (kvs.take i),⟨kvs.length,ω,Same.refl _,h0,rfl⟩,?_⟩;rintro i m acc τ H2 ⟨hm,s2,ot,rfl⟩;cases m with
 | zero=>
  refine .inl ⟨⟨_,ys,ea.same s2,eb.same s2,.inl (EE (by rw[AE];omega))⟩,fun d hd'=>?_⟩;rw[D8 ω];exact hd d H2 s2 hd'
 | succ m=>
  have hi:i<kvs.length:=ω;have hy:i<ys.length:=ω;have hk:kvs[i]?=some kvs[i]:=AF hi;have hx:(kvs.map fun kv=>kV kv.1)[i]?=some (kV kvs[i].1):=by rw[AU,hk];rfl
  refine .inr ⟨⟨_,ys,_,_,ea.same s2,eb.same s2,hx,AF hy⟩,?_,fun acc' τ' H'=>acc'=cP [] (kvs.take (i+1))/\Same H H'/\okT τ',fun acc' τ' H' ⟨e,s',o'⟩=>⟨m,ω,ω,s',o',e⟩,?_⟩
  ·have:=gK (kvs.take i) [];rw[FL] at this;have h2:(kvs.take i).length<=15:=by rw[ET];omega
   exact KB (by omega:_<=15) δ
  rintro x H3 ⟨p,x1,y1,rfl,hp,rfl,g1,g2⟩;have e1:=g1 _ (ea.same s2);rw[hx] at e1;cases e1;have e2:=g2 _ (eb.same s2);refine hs i kvs[i] y1 τ H2 p (fun acc' τ' H'=>acc'=cP [] (kvs.take (i+1))/\Same H H'/\okT τ') hk e2 s2 ot hp fun τ1 H1 s1 o1=>⟨?_,s1,o1⟩;rw[List.take_add_one,hk];exact(Ju _ _).symm
noncomputable def DR (zs:List Int) (t:Int):List (Key×V):=putK (cP [] (fY (zs.map (· * t)))) (D0 "pick") (V.int 0)
theorem Yl {zs:List Int}{i:Nat}{kv:Key×V}(h:(fY zs)[i]?=some kv):kv.2=V.int (zs.getD i 0):=by
 match i,h with
 | 0,h=>cases h;rfl
 | 1,h=>cases h;rfl
 | 2,h=>cases h;rfl
 | 3,h=>cases h;rfl
 | 4,h=>cases h;rfl
 | n+5,h=>simp [fY] at h
theorem Gu (zs:List Int)(t:Int)(i:Nat):(zs.map (· * t)).getD i 0=zs.getD i 0*t:=by
 rw[AN,AN,AU];cases zs[i]? with
 | none=>simp
 | some z=>rfl
noncomputable def Ks:Sp:=fun vs H Q _=>∃(l:V)(wa z:Addr)(ok:Addr->Prop)(ws zs:List Int)(left:List Nat),vs=[.ref wa,.ref z,l]/\aG ok H l (oE left)/\(∀k∈left,k<ws.length)/\H wa=some (.lst (ws.map V.int))/\H z=some (.tup (zs.map V.int))/\zs.length=5/\Few zs /\
 ∀p H',Same H H'->H' p=some (.dK (DR zs (sumK ws left)))->Q (.ref p) H'
theorem U9 (ws zs:List Int)(left:List Nat)(p:Pl):jt (DR zs (sumK ws left)) (D0 (jB p))=some (V.int (cN ws zs left p)):=by
 unfold DR cP fY;simp only[foldl_cons,List.foldl_nil,Em,En,Gu];cases p with
 | pick l=>
  rw[show jB (.pick l)=("pick" : Str) from rfl];rw[if_pos rfl];rfl
 | one k r=>
  rw[show jB (.one k r)=("is" : Str) from rfl];rw[if_neg (kne (a := "is") (b := "pick") ψ),if_neg (kne (a := "is") (b := "table") ψ),if_neg (kne (a := "is") (b := "mask") ψ),if_neg (kne (a := "is") (b := "below") ψ),if_neg (kne (a := "is") (b := "within") ψ),if_pos rfl];rfl
 | wit k r=>
  rw[show jB (.wit k r)=("within" : Str) from rfl];rw[if_neg (kne (a := "within") (b := "pick") ψ),if_neg (kne (a := "within") (b := "table") ψ),if_neg (kne (a := "within") (b := "mask") ψ),if_neg (kne (a := "within") (b := "below") ψ),if_pos rfl];rfl
 | low k a b=>
  rw[show jB (.low k a b)=("below" : Str) from rfl];rw[if_neg (kne (a := "below") (b := "pick") ψ),if_neg (kne (a := "below") (b := "table") ψ),if_neg (kne (a := "below") (b := "mask") ψ),if_pos rfl];rfl
 | msk l r=>
  rw[show jB (.msk l r)=("mask" : Str) from rfl];rw[if_neg (kne (a := "mask") (b := "pick") ψ),if_neg (kne (a := "mask") (b := "table") ψ),if_pos rfl];rfl
 | tab=>
  rw[show jB .tab=("table" : Str) from rfl];rw[if_neg (kne (a := "table") (b := "pick") ψ),if_pos rfl];rfl
theorem UG {zs:List Int}{i:Nat}(h:i<5):jt (cP [] (fY zs)) (D0 (cL i))=some (V.int (zs.getD i 0)):=by
 unfold cP fY;simp only[foldl_cons,List.foldl_nil,Em,En]
 match i,h with
 | 0,_=>
  rw[show cL 0=("is" : Str) from rfl];rw[if_neg (kne (a := "is") (b := "table") ψ),if_neg (kne (a := "is") (b := "mask") ψ),if_neg (kne (a := "is") (b := "below") ψ),if_neg (kne (a := "is") (b := "within") ψ),if_pos rfl]
 | 1,_=>
  rw[show cL 1=("within" : Str) from rfl];rw[if_neg (kne (a := "within") (b := "table") ψ),if_neg (kne (a := "within") (b := "mask") ψ),if_neg (kne (a := "within") (b := "below") ψ),if_pos rfl]
 | 2,_=>
  rw[show cL 2=("below" : Str) from rfl];rw[if_neg (kne (a := "below") (b := "table") ψ),if_neg (kne (a := "below") (b := "mask") ψ),if_pos rfl]
 | 3,_=>
  rw[show cL 3=("mask" : Str) from rfl];rw[if_neg (kne (a := "mask") (b := "table") ψ),if_pos rfl]
 | 4,_=>
  rw[show cL 4=("table" : Str) from rfl];rw[if_pos rfl]
theorem aaO {zs:List Int}(few:Few zs)(i:Nat):-(2^40)<=zs.getD i 0/\zs.getD i 0<=2^40:=by
 rw[AN];cases e:zs[i]? with
 | none=>exact⟨δ,δ⟩
 | some z=>
  have:=few z (A7 e);exact⟨by show -(2^40)<=z;omega,by show z<=2^40;omega⟩
theorem K3 {zs:List Int}(few:Few zs):∀w:List Nat,-(2^40*(w.length:Int))<=qz zs w/\qz zs w<=2^40*(w.length:Int)
 | []=>by
  show -(2^40*(0:Int))<=0/\(0:Int)<=2^40*0;omega
 | i::w=>by
  have ih:=K3 few w;have h:=aaO few i;rw[mj,Co];have e:((w.length+1:Nat):Int)=(w.length:Int)+1:=ω;rw[e];omega
noncomputable def pk (c:Int×Int):List Int:=[c.1,c.2]
noncomputable def slc (ws:List Int)(i j:Nat):List Int:=(ws.drop i).take (j-i)
inductive Tr:List Int->Int->Prop
 | leaf (w:Int):Tr [w] 0
 | node {a b:List Int} {x y:Int}:Tr a x->Tr b y->Tr (a++b) ((a++b).sum+(x+y))
inductive PTr (ss:Sts)(ws:List Int):Nat->Nat->Pl->Int->Prop
 | leaf {i:Nat}:i<ss.length->PTr ss ws i (i+1) (.pick (bV ss i).2.2) 0
 | node {i k j:Nat} {a b:Pl} {x y:Int}:i<k->k<j->PTr ss ws i k a x->PTr ss ws k j b y->PTr ss ws i j (.low k a b) ((slc ws i j).sum+(x+y))
noncomputable def key2 (a b:Int):List Key:=[Ct a,Ct b]
theorem Ky {n:Nat}(h:n<=1000000):n<AL:=KB h δ
open PySem.W (Frag clsIn findIn takerIn InstAt looks_clsIn looks_findIn looks_takesIn Looks check_slot looks_mroIn mroIn set_plain osa_eq)
open Builtin Builtin.ObjectAttr
noncomputable def vbm:List Ap:=[.type "ValueError",.type "Exception",.type "BaseException",.type "object"]
open PySem.W (Frag clsIn findIn takerIn InstAt looks_clsIn looks_findIn looks_takesIn Looks check_slot looks_mroIn mroIn handedIn handedOut_of)
structure XCls (K:AD)(C D N fI:Addr):Prop where
 obj:∃nm q bs sn sub ab col dd k0 k1 k2 k3 k5,K.lookup C=some (excClassObj nm q C N bs (.ref D::vbm) true sn sub ab col dd k0 k1 k2 k3 k5 "ValueError.__new__")
 tail:PySem.W.tailIn K vbm (.ref D::vbm)=true
 nsok:PySem.W.nsOkIn K N=true
 init:nsIn K N "__init__" = some (some (.ref fI))
 set:HL K (.ref C) "__setattr__" = some (some (.builtin "object.__setattr__"))
 ga:HL K (.ref C) "__getattribute__" = some (some (.builtin "BaseException.__getattribute__"))
 gk:HL K (.ref C) "__getattr__" = some none
noncomputable abbrev TJ:=St->Hp->(Hp->Prop)->Prop
open PySem.W (Frag clsIn findIn takerIn InstAt looks_clsIn looks_findIn looks_takesIn looks_specialIn specialIn takesIn Looks check_slot looks_mroIn mroIn handedIn handedOut_of class_get KitX)
open Builtin
mutual
noncomputable def noL:A1->Bool
 | .list _=>false
 | .tuple ds=>aby ds
 | _=>true
noncomputable def aby:List A1->Bool
 | []=>true
 | d::ds=>noL d&&aby ds
end
theorem lW {ok:Addr->Prop}{H:Hp}:∀gs:List Int,aH ok H (gs.map V.int) (gs.map A1.int)
 | []=>.nil
 | g::gs=>.cons (.int g) (lW gs)
section
variable {X:Cx}{o e i:Expr}{to te td ty:TE}{pos:Pos}
theorem RP {pos:Pos}:QE X (.Dict [] [] pos) BZ:=⟨Sh⟩
theorem Y0 {P:AR}{w:Bi}{k:Key}{u:Ap}(h:(aP P w).is k u=true):RelV (kV k) u:=by
 rcases dM h with⟨i,t,rfl,rfl⟩|⟨x,t,rfl,rfl⟩
 ·exact⟨t,rfl⟩
 exact⟨t,rfl⟩
end
noncomputable def aaH:Pl->Bool
 | .pick _=>true
 | .tab=>true
 | _=>false
noncomputable def abL (ss:Sts)(C:List (List Nat×Pl)):List (List Nat×Pl):=(C.map fun x=>ur ss x.2 x.1).flatten
noncomputable def Ua (S:List (List Nat×Pl)):Nat->Bool
 | 0=>false
 | i+1=>match S[i]? with
  | some x=>aaH x.2
  | none=>false
structure AhSt (ss:Sts)(S:List (List Nat×Pl))(tot:List (Nat×Nat))(i:Nat)(C:List (List Nat×Pl))(T:List Nat)(done:List (Nat×Nat)):Prop where
 fl:S.drop i=abL ss C
 no:Ua S i=false->T.length+1=C.length/\tot=done++aaN (C.map (·.2)) T i
 yes:Ua S i=true->T.length=C.length/\((C=[]/\tot=done)\/∃t T',T=t::T'/\tot=done++(t,i)::aaN (C.map (·.2)) T' i)
theorem aG.BV {ok:Addr->Prop}{H:Hp}{x:V}{ds:List A1}(t:aG ok H x (.tuple ds)):∃p xs,x=.ref p/\H p=some (.tup xs)/\aH ok H xs ds:=by
 cases t with
 | tup o e z ts=>exact⟨_,_,rfl,e,ts⟩
noncomputable def Ce:Sp:=fun vs H Q _=>∃(s l:V)(ok:Addr->Prop)(ss:Sts)(left:List Nat),vs=[s,l]/\aG ok H s (.list (ss.map stD))/\aG ok H l (oE left)/\Lf ss left /\
 ∀(a:Addr),H a=none->Q (.ref a) (upd H a (.lst ((left.map (lbl ss)).map V.int)))
noncomputable def Il:Sp:=fun vs H Q _=>∃(p:Addr)(m B:Int),vs=[.ref p,.int m]/\b7 H p B/\0<=B/\B<=900000/\1<=m/\m<=60 /\
 ∀(l:Addr)(ss:Sts) H',cB p H H'->b7 H' p (B+2000)->aG (·≠p) H' (.ref l) (.list (ss.map stD))->(ss.length:Int)=m->qH ss->(∀s,ss[0]?=some s->s.1<=10^9)->Q (.ref l) H'
noncomputable def Ak:Sp:=fun vs H Q _=>∃(p l:Addr)(B:Int)(ss:Sts),vs=[.ref p,.ref l]/\b7 H p B/\0<=B/\B<=900000/\aG (·≠p) H (.ref l) (.list (ss.map stD))/\ss≠[]/\qH ss/\(∀s,ss[0]?=some s->s.1<=10^9) /\
 ∀(l':Addr)(ss':Sts) H',cB p H H'->b7 H' p (B+4)->aG (·≠p) H' (.ref l') (.list (ss'.map stD))->ss'.length=ss.length->qH ss'->Q (.ref l') H'
theorem qH.pre {a b:Sts}(h:qH (a++b)):qH a:=by
 have get:∀(i:Nat) s,a[i]?=some s->(a++b)[i]?=some s:=fun i s e=>by
  rw[C3 (AO.mp e).1];exact e
 exact⟨fun i s e=>h.lh i s (get i s e),fun i s t e f=>h.nx i s t (get i s e) (get _ t f),fun i s e=>h.bd i s (get i s e)⟩
theorem qH.Ug {a:Sts}{lo hi b hi':Int}(h:qH (a++[(lo,hi,b)]))(h1:lo<=hi')(h2:hi'<=10^9+(10^12+10)*(a.length+1)):qH (a++[(lo,hi',b)]):=by
 have e:(a++[(lo,hi,b)])[a.length]?=some (lo,hi,b):=by rw[BC (AZ _),Go];rfl
 refine h.pre.snoc h1 (h.lh _ _ e).2 ⟨(h.bd _ _ e).1,h2⟩ fun s hs=>?_;have hl:=(AO.mp hs).1;exact h.nx (a.length-1) s (lo,hi,b) (by rw[C3 hl];exact hs) (by rw[show a.length-1+1=a.length by omega];exact e)
theorem U7 (xs:List V):jz xs none (some (-1))=xs.dropLast:=by
 unfold jz;have e1:HT.sIx xs.length 0 none=0:=by simp [HT.sIx]
 have e2:HT.sIx xs.length xs.length (some (-1))=xs.length-1:=by
  simp only[HT.sIx];split
  ·omega
  omega
 rw[e1,e2,drop_zero,Nat.sub_zero,List.dropLast_eq_take]
section
variable {X:Cx}{e o:Expr}{te to:TE}{pos:Pos}
theorem Sw:OpR X (CH .IsNot) (fun x y H Q=>∃a b,x=.bl a/\y=.bl b/\Q (.bl (!decide (a=b))) H):=by
 intro pins s σ H x y v u Q I rx ry h;obtain⟨a,b,rfl,rfl,q⟩:=h;cases rx;cases ry;cases a <;> cases b <;> exact Au ⟨.bl _,H,I,rfl,q⟩
noncomputable def abb:R2:=fun x y H Q=>∃(ok ok':Addr->Prop)(d:A1),aG ok H x d/\aG ok' H y d/\d.canLay0=true/\d.depth<=100/\Q (.bl false) H
theorem Xo (hu:X.A.units+200<FU):OpR X (CH .NotEq) abb:=by
 intro pins s σ H x y v u Q I rx ry h;obtain⟨ok,ok',d,t1,t2,hc,hd,q⟩:=h;obtain⟨as,ra⟩:=t1.reads I rx;obtain⟨bs,rb⟩:=t2.reads I ry;refine SeqAt.rcNeAt_reads ra rb hc hc (by rw[Nat.min_self];omega) X.prog X.w X.xe (EP X pins σ Q) ⟨.bl false,H,I,?_,q⟩;rw[SeqAt.eqv_refl d hc];rfl
end
theorem zf.k' {H:Hp}{a:Addr}{kvs:List (Key×V)}{k:Key}{v:V}(e:H a=some (.dK kvs))(hv:jt kvs k=some v):zf H a (kV k) (some v):=by
 rw[<- hv];exact zf.k e
theorem ln1 {α:Type}{us:List α}(h:us.length=1):∃a,us=[a]:=by
 cases us with
 | nil=>cases h
 | cons a r=>
  cases r with
  | nil=>exact⟨a,rfl⟩
  | cons b r=>cases h
theorem ln2 {α:Type}{us:List α}(h:us.length=2):∃a0 a1,us=[a0,a1]:=by
 cases us with
 | nil=>cases h
 | cons a0 r=>
  obtain⟨a1,rfl⟩:=ln1 (Nat.succ.inj h);exact⟨a0,a1,rfl⟩
theorem ln3 {α:Type}{us:List α}(h:us.length=3):∃a0 a1 a2,us=[a0,a1,a2]:=by
 cases us with
 | nil=>cases h
 | cons a0 r=>
  obtain⟨a1,a2,rfl⟩:=ln2 (Nat.succ.inj h);exact⟨a0,a1,a2,rfl⟩
theorem ln4 {α:Type}{us:List α}(h:us.length=4):∃a0 a1 a2 a3,us=[a0,a1,a2,a3]:=by
 cases us with
 | nil=>cases h
 | cons a0 r=>
  obtain⟨a1,a2,a3,rfl⟩:=ln3 (Nat.succ.inj h);exact⟨a0,a1,a2,a3,rfl⟩
noncomputable def tV (i:Nat):TE:=fun σ H Q=>match σ[i]? with
 | some (some x)=>Q x H
 | _=>False
theorem YQ {i:Nat}{σ:St}{H:Hp}{Q:VK}(h:tV i σ H Q):Qo i σ H Q:=by
 unfold tV at h;split at h
 ·rename_i x e;exact⟨x,e,h⟩
 exact h.elim
section
variable {X:Cx}{i:Nat}{x:Str}{pos:Pos}
theorem ao (h:Nm X.N X.env.scope i x):QE X (.Name x pos) (tV i):=⟨fun pins s σ H Q I q=>(ab0 h).h pins s σ H Q I (YQ q)⟩
theorem bA (i:Nat) {x:Str}{pos:Pos}(hN:X.N[i]?=some x:=by rfl) (hv:Vis X.env.scope x:=by first|exact C8 rfl|exact Or.inr (C8 rfl)|exact Or.inr (Or.inr rfl)) (hd:(x == ("__debug__" : Str))=false:=by decide)
  (hcd:(x == ("__classdict__" : Str))=false:=by decide):QE X (.Name x pos) (tV i):=⟨fun pins s σ H Q I q=>(abZ i hN hv hd hcd).h pins s σ H Q I (YQ q)⟩
end
noncomputable def atq (o:Option V)(H:Hp)(Q:VK):Prop:=∃v,o=some v/\Q v H
theorem Vi (v:V)(H:Hp)(Q:VK):atq (some v) H Q=Q v H:=propext ⟨fun⟨_,e,h⟩=>by cases e;exact h,fun h=>⟨v,rfl,h⟩⟩
theorem Uj (xs:List V)(i:Int)(H:Hp)(Q:VK):ixq (some (.lst xs)) i H Q=atq (atI xs i) H Q:=rfl
theorem Ui (xs:List V)(i:Int)(H:Hp)(Q:VK):ixq (some (.tup xs)) i H Q=atq (atI xs i) H Q:=rfl
theorem aaP {b:Bool}{P:Bool->Prop}:(∃k,V.bl b=V.bl k/\P k)=P b:=propext ⟨fun⟨_,e,h⟩=>by cases e;exact h,fun h=>⟨b,rfl,h⟩⟩
theorem Yp {a:Int}{P:Int->Prop}:(∃k,V.int a=V.int k/\P k)=P a:=propext ⟨fun⟨_,e,h⟩=>by cases e;exact h,fun h=>⟨a,rfl,h⟩⟩
theorem Yo {a b:Int}{P:Int->Int->Prop}:(∃i j,V.int a=V.int i/\V.int b=V.int j/\P i j)=P a b:=propext ⟨fun⟨_,_,e,f,h⟩=>by cases e;cases f;exact h,fun h=>⟨a,b,rfl,rfl,h⟩⟩
theorem Yn {a b:V}{P:V->V->Prop}:(∃i j,[a,b]=[i,j]/\P i j)=P a b:=propext ⟨fun⟨_,_,e,h⟩=>by cases e;exact h,fun h=>⟨a,b,rfl,h⟩⟩
theorem abN {α:Type}(a b c d:α)(l:List α):atI (a::b::c::d::l) 3=some d:=dI (j:=3) rfl
noncomputable def ry0:=AC @Ig.eq_1 (AC @Ij.eq_1 (AC @Es.eq_1 (AC @tOp.eq_1 (AC @rI.eq_1 (AC @rI0.eq_1 (AC @rU.eq_1 (AC @tUn.eq_1 (AC @tC.eq_1 (AC @Qp.eq_1 (AC @Et.eq_1 (AC @wU.eq_1 (AC @oR.eq_1 (AC @BX.eq_1 (AC @tCB.eq_1 (AC @tIf.eq_1 (AC @Qw.eq_1 (AC @tB.eq_1 (AC @QM.eq_1 (AC @Qv.eq_1 (AC @Ih.eq_1 (AC @Er.eq_1 (AC @vP.eq_1 (AC @kI.eq_1 (AC @aaK.eq_1 (AC @O2 (AC @Yh (AC @Rq (AC @Rt (AC @Zd.eq_1 (AC @Yj @aaL))))))))))))))))))))))))))))))
noncomputable def ry1:=AC @Fq (AC @Nq (AC @Nr (AC @V6 (AC @Uj (AC @Ui (AC @VF (AC @X4 (AC @X3 (AC Uk.1 (AC Uk.2.1 (AC Uk.2.2 (AC @abP (AC @Vj (AC @abO (AC @aq (AC @Rx (AC @Uh (AC @aaF (AC @kc_bool (AC @ty_int (AC @aa2 (AC @ty_str (AC @Zb (AC @Za (AC @Vu (AC @Vt (AC @uD (AC @vR (AC @rW (AC @Cr @Fl))))))))))))))))))))))))))))))
noncomputable def ry2:=AC @zG (AC @Fj (AC @Iw (AC @Cq (AC @Fg (AC @Iv (AC @Cm (AC @Cp (AC @Fi (AC @zF (AC @zE (AC @Ck (AC @xH (AC @Lc (AC @KE (AC @FV (AC @decide_true (AC @vq.eq_1 (AC @rEq.eq_1 (AC @rNe.eq_1 @Wd)))))))))))))))))))
noncomputable def ry3:=AC @Wc (AC @aaU (AC @Zx (AC @Zz (AC @abH (AC @abG (AC @Np (AC @VH (AC @Zf.eq_1 (AC @Ik.eq_1 (AC @Rk (AC @Rj (AC @PN.eq_1 (AC @YL.eq_1 (AC @Y7.eq_1 (AC @L2.start.eq_1 (AC @CF.{0,0} (AC @He.{0,0} (AC @Co.{0} (AC @FL.{0} (AC @List.cons_append.{0} (AC @List.nil_append.{0} (AC @F6.{0} (AC @List.replicate_zero.{0} (AC @CB.{0} (AC @F1.{0} @F2.{0})))))))))))))))))))))))))
noncomputable def ry4:=AC @GU.{0} (AC @GV.{0} (AC @Go (AC @IB.{0} (AC @exists_eq_left'.{1} (AC @UW (AC @Ym (AC @Qu.eq_1 (AC @V.int.injEq (AC @V.str.injEq (AC @V.ref.injEq (AC @List.cons.injEq.{0} (AC @and_true (AC @true_and (AC @exists_and_left.{1} (AC @decide_eq_true_eq (AC @QL (AC @Hw (AC @Dp (AC @MF (AC @Ro (AC @VJ (AC @tSl.eq_1 (AC @BW.eq_1 (AC @Qt.eq_1 @V4))))))))))))))))))))))))
noncomputable def ry5:=AC @V5 (AC @V3 (AC @V9 (AC @V8 (AC @iH (AC @jF (AC @jE (AC @Vz (AC @Qk (AC @Qm (AC @Vw (AC @Ql (AC @Vy (AC @Vx (AC @QD.eq_1 (AC @wR.eq_1 (AC @wR.eq_2 (AC @Qq (AC @WN (AC @WM @Ii.eq_1)))))))))))))))))))
noncomputable def ry6:=AC @abN (AC @Vi (AC @aaP (AC @Yp (AC @Yo @Yn))))
noncomputable def rdy:=AC ry0 (AC ry1 (AC ry2 (AC ry3 (AC ry4 (AC ry5 (AC ry6 @tV.eq_1))))))
theorem bT {K:AD}{h:Heap}{mg:Str->Option Ap}{x:Str}{st:Stmt}{ps:List Str}{f:Addr}{oc:Ap}{od an:Option Addr}{osl:Array (Option Ap)}{kV doc pm cdv ct:Ap}(X:K.In h)(G:h.Ns AM mg)(a:nsIn K AM x=some (some (.ref f)))
  (l:K.lookup f=some ⟨oc,od,.func (fnOf x x (aX st) (aV st) (aj st) .none kV doc pm an cdv ct),osl⟩) (c:CM K cdv x=true) (k:CD K (.ref f)=true)
  (hb:∀(kV doc pm:Ap)(an:Option Addr)(cdv ct:Ap)(us:List Ap),us.length=ps.length->bindArgs (fnOf x x (aX st) (aV st) (aj st) .none kV doc pm an cdv ct) ⟨us,[]⟩=pure (ps.zip us)):aaZ K mg x st ps f (fnOf x x (aX st) (aV st) (aj st) .none kV doc pm an cdv ct):=
 ⟨Uw (st:=st) l c k,(Uw (st:=st) l c k).binds hb,mg_of X G a⟩
end L2
set_option maxHeartbeats 4100000
namespace SRT
open PySem PyProof.Rows
noncomputable def Ris (xs:Array Nat):Prop:=xs.toList.Pairwise (· < ·)
theorem Ris.lt {xs:Array Nat}(h:Ris xs){i k x y:Nat}(hx:xs[i]?=some x)(hy:xs[k]?=some y)(hik:i<k):x<y:=by
 rw[<- C4] at hx hy;obtain⟨h1,rfl⟩:=AO.mp hx;obtain⟨h2,rfl⟩:=AO.mp hy;exact List.pairwise_iff_getElem.mp h i k h1 h2 hik
theorem Yi {xs:Array Nat}(hr:Ris xs)(j:Nat):∀fuel lo hi,hi-lo<=fuel->lo<=hi->hi<=xs.size->(∀i x,xs[i]?=some x->i<lo->x<j)->(∀i x,xs[i]?=some x->hi<=i->j<=x) ->
  (∀i x,xs[i]?=some x->(i<AV.below.go xs j fuel lo hi↔x<j))/\AV.below.go xs j fuel lo hi<=xs.size:=by
 intro fuel
 induction fuel with
 | zero=>
  intro lo hi h1 h2 h3 h4 h5;have e:hi=lo:=ω;subst e;refine⟨fun i x hx=>⟨fun hl=>h4 i x hx hl,fun hl=>?_⟩,h3⟩;show i<hi;refine Nat.lt_of_not_le fun hle=>?_;have:=h5 i x hx hle;omega
 | succ fuel ih=>
  intro lo hi h1 h2 h3 h4 h5;show(∀i x,xs[i]?=some x->(i<(if lo<hi then if xs.getD ((lo+hi)/2) j<j then AV.below.go xs j fuel ((lo+hi)/2+1) hi else AV.below.go xs j fuel lo ((lo+hi)/2) else lo)↔x<j))/\(if lo<hi then if xs.getD ((lo+hi)/2) j<j then AV.below.go xs j fuel ((lo+hi)/2+1) hi else AV.below.go xs j fuel lo ((lo+hi)/2) else lo)<=xs.size;by_cases hl:lo<hi
  ·rw[if_pos hl];have hm:(lo+hi)/2<xs.size:=ω;have hg:xs[(lo+hi)/2]?=some xs[(lo+hi)/2]:=by simp [hm]
   have hd:xs.getD ((lo+hi)/2) j=xs[(lo+hi)/2]:=by simp [Array.getD,hm]
   rw[hd];by_cases hc:xs[(lo+hi)/2]<j
   ·rw[if_pos hc];refine ih _ _ ω ω h3 (fun i x hx hi'=>?_) h5;by_cases e:i=(lo+hi)/2
    ·subst e;rw[hg] at hx;cases hx;exact hc
    exact lt_trans (hr.lt hx hg ω) hc
   rw[if_neg hc];refine ih _ _ ω ω ω h4 (fun i x hx hi'=>?_);by_cases e:i=(lo+hi)/2
   ·subst e;rw[hg] at hx;cases hx;omega
   have:=hr.lt hg hx ω;omega
  rw[if_neg hl];have e:hi=lo:=ω;subst e;refine⟨fun i x hx=>⟨fun hl=>h4 i x hx hl,fun hl=>?_⟩,h3⟩;refine Nat.lt_of_not_le fun hle=>?_;have:=h5 i x hx hle;omega
theorem rN {xs:Array Nat}(hr:Ris xs)(j:Nat):(∀i x,xs[i]?=some x->(i<AV.below xs j↔x<j))/\AV.below xs j<=xs.size:=by
 unfold AV.below;refine Yi hr j _ _ _ ω ω (AZ _) (fun _ _ _ h=>absurd h ω) fun i x hx hi=>?_;have:=(Array.getElem?_eq_some_iff.mp hx).1;omega
theorem Ht {xs:Array Nat}(hr:Ris xs){j:Nat}(hn:xs[AV.below xs j]?≠some j):∀x∈xs.toList,x≠j:=by
 intro x hx e;subst e;obtain⟨i,hi,e⟩:=C5.mp hx;have hg:xs[i]?=some x:=by rw[<- C4,AF hi,e]
 have hs:=rN hr x;have h1:=(hs.1 i x hg);have h2:AV.below xs x<=i:=by
  refine Nat.le_of_not_lt fun h=>?_;exact DD _ (h1.mp h)
 rcases FX (AV.below xs x) i with h|h
 ·have hi':i<xs.size:=by simpa using hi
  have hb:AV.below xs x<xs.size:=ω;have hgb:xs[AV.below xs x]?=some xs[AV.below xs x]:=by simp [hb]
  have l1:=hr.lt hgb hg h;have:=(hs.1 _ _ hgb).mpr l1;omega
 have e:AV.below xs x=i:=ω;rw[e] at hn;exact hn hg
theorem zR {α:Type}(xs:Array α)(p:Nat)(x:α):(AV.insertAt xs p x).toList=xs.toList.take p++x::xs.toList.drop p:=by
 unfold AV.insertAt;simp [Array.toList_extract,List.extract,D8]
theorem IW {xs:Array Nat}(hr:Ris xs){j:Nat}(hn:xs[AV.below xs j]?≠some j):Ris (AV.insertAt xs (AV.below xs j) j):=by
 have hs:=rN hr j;have hne:=Ht hr hn;show(AV.insertAt xs (AV.below xs j) j).toList.Pairwise (· < ·);rw[zR];have hx:xs.toList.Pairwise (· < ·):=hr;rw[List.pairwise_append,D2];refine⟨hx.sublist (List.take_sublist _ _),⟨fun y hy=>?_,hx.sublist (List.drop_sublist _ _)⟩,fun a ha b hb=>?_⟩
 ·obtain⟨i,hi,e⟩:=C5.mp hy;rw[List.getElem_drop] at e;have hl:AV.below xs j+i<xs.toList.length:=by rw[EU] at hi;omega
  have hg:xs[AV.below xs j+i]?=some y:=by rw[<- C4,AF hl,e]
  have h1:=hs.1 _ _ hg;have h2:=hne y (Hc hy);have:¬(y<j):=fun h=>by have:=h1.mpr h;omega
  omega
 have l1:a<j:=by
  obtain⟨i,hi,e⟩:=C5.mp ha;rw[List.getElem_take] at e;have hl:i<AV.below xs j/\i<xs.toList.length:=by rw[ET] at hi;omega
  have hg:xs[i]?=some a:=by rw[<- C4,AF hl.2,e]
  exact(hs.1 _ _ hg).mp hl.1
 rcases A5.mp hb with rfl|hb
 ·exact l1
 obtain⟨i,hi,e⟩:=C5.mp hb;rw[List.getElem_drop] at e;have hl:AV.below xs j+i<xs.toList.length:=by rw[EU] at hi;omega
 have hg:xs[AV.below xs j+i]?=some b:=by rw[<- C4,AF hl,e]
 have h1:=hs.1 _ _ hg;have:¬(b<j):=fun h=>by have:=h1.mpr h;omega
 omega
noncomputable def TOk (b:Bool)(t:AV):Prop:=Ris t.place/\t.dummies=#[]/\t.led=b
theorem M8 {b:Bool}{t:AV}(h:TOk b t)(p:Bool):TOk b { t with plain:=p }:=h
theorem Nk (n:Nat):Ris (Array.range n):=by
 show(Array.range n).toList.Pairwise (· < ·);rw[Array.toList_range];exact IC
theorem lD {b:Bool}{t:AV}(h:TOk b t)(n:Nat):TOk b (t.standIn n):=⟨Nk n,rfl,h.2.2⟩
theorem zp {b:Bool}{t:AV}(h:TOk b t)(n:Nat):TOk b (t.orStandIn n):=by
 unfold AV.orStandIn;split
 ·exact h
 exact lD h n
theorem M9 (f m:Nat)(b:Bool):TOk b (AV.fresh f m b):=⟨List.Pairwise.nil,rfl,rfl⟩
theorem Jc {t:AV}(hd:t.dummies=#[]){f:Nat->Int}{h:Int}(hf:∀i,(f i == h)=false):∀(fuel:Nat)(p:AV.Probe),p.dummy=none ->
  ∀m,AV.probe.go t f h fuel p=some m->∃j,m=.empty j none/\t.place[AV.below t.place j]?≠some j:=by
 intro fuel
 induction fuel with
 | zero=>intro p _ m e;exact absurd e (by simp [AV.probe.go])
 | succ fuel ih=>
  intro p hp m e;unfold AV.probe.go at e;have hnd:∀j,AV.has t.dummies j=false:=fun j=>by rw[hd];simp [AV.has]
  have hadv:∀q:AV.Probe,q.dummy=none->(t.advance q).dummy=none:=fun q hq=>by
   unfold AV.advance;split
   ·exact hq
   exact hq
  split at e
  ·rename_i hs;cases e;refine⟨p.j,by rw[hp],fun hc=>?_⟩;unfold AV.slot at hs;simp [hc] at hs
  ·rename_i hs;unfold AV.slot at hs;dsimp only at hs;split at hs
   ·cases hs
   rw[hnd] at hs;simp at hs
  rw[hf,if_neg (by simp)] at e;exact ih _ (hadv _ hp) m e
theorem GR {t:AV}(hd:t.dummies=#[]){h:Int}{j:Nat}{b:Bool}(e:t.freeSlot h=some (j,b)):t.place[AV.below t.place j]?≠some j:=by
 unfold AV.freeSlot AV.probe at e;split at e
 ·rename_i j' d hp;obtain⟨j2,e2,hn⟩:=Jc hd (f:=fun _=>h+1) (h:=h) (fun i=>by simp;omega) _ _ rfl _ hp;cases e2;simp at e;rw[<- e.1];exact hn
 cases e
theorem Jx {b:Bool}{t:AV}(ht:TOk b t)(es:Array (Int×Ap))(h:Int)(x:Ap):TOk b (layNew t es h x).2.1:=by
 unfold layNew;split
 ·rename_i slot wd hs;have hn:=GR ht.2.1 hs;refine zp ?_ _;unfold AV.put;refine⟨IW ht.1 hn,?_,ht.2.2⟩;show(if AV.has t.dummies slot=true then AV.eraseAt t.dummies (AV.below t.dummies slot) else t.dummies)=#[];rw[ht.2.1];rfl
 exact lD ht _
theorem Cu {b:Bool}{t:AV}(ht:TOk b t)(es:Array (Int×Ap))(n:Nat):TOk b (relayAll t es n).2.1:=by
 unfold relayAll;split
 ·rename_i t' order hr;dsimp only;split
  ·unfold AV.relaid AV.laid at hr;cases ho:AV.layClean (AV.sizeAbove n-1) (es.map (·.1)) with
   | none=>rw[ho] at hr;cases hr
   | some owner=>
    rw[ho] at hr;simp only[Option.bind_eq_bind,Option.bind_some,Option.pure_def,IB,Prod.mk.injEq] at hr;obtain⟨rfl,-⟩:=hr;refine⟨?_,rfl,ht.2.2⟩;show(List.map _ _).toArray.toList.Pairwise (· < ·);rw[List.toList_toArray,List.pairwise_map,List.pairwise_filterMap];refine IC.imp fun {a c} hac p hp q hq=>?_;simp only[BE] at hp hq;obtain⟨_,_,rfl⟩:=hp;obtain⟨_,_,rfl⟩:=hq;exact hac
  exact lD ht _
 exact lD ht _
end SRT
namespace SRT
open PySem PyProof.Rows
section
variable {prog:AR}{w:Bi}{K:Type}[DecidableEq K]
noncomputable def SetT (knd:KeyKind prog w K)(b:Bool)(h:Heap)(a:Addr)(S:K->Bool)(n:Nat):Prop:=
 ∃o es ep t,h.get? a=some o/\o.ExactSet/\o.data=.set es ep t/\(ElemsOf knd es.toList/\(∀k,S k=true ↔ ∃e∈es.toList,knd.is k e.2=true)/\es.size<F4)/\t.fits es.size=true/\es.size=n/\TOk b t
variable {knd:KeyKind prog w K}{A:Bz}{E:Ap->AB->Prop}{s:AB}{b:Bool}
theorem SetT.get {h h':Heap}{a:Addr}{S:K->Bool}{n:Nat}(hS:SetT knd b h a S n)(hk:∀o,h.get? a=some o->h'.get? a=some o):SetT knd b h' a S n:=
 let ⟨o,es,ep,t,ho,r⟩:=hS;⟨o,es,ep,t,hk o ho,r⟩
theorem SetT.congr {h:Heap}{a:Addr}{S S':K->Bool}{n n':Nat}(hS:SetT knd b h a S n)(e:∀k,S k=S' k)(en:n=n'):SetT knd b h a S' n':=by
 have:S=S':=funext e;subst this;subst en;exact hS
theorem Av {h:Heap}{a:Addr}{o:Obj}{es:Array (Int×Ap)}{ep:Nat}{t:AV}(ho:h.get? a=some o)(hex:o.ExactSet)(hd:o.data=.set es ep t)
  {es':Array (Int×Ap)} {t':AV} {S':K->Bool} (hel:ElemsOf knd es'.toList/\(∀k,S' k=true ↔ ∃e∈es'.toList,knd.is k e.2=true)/\es'.size<F4) (hf:t'.fits es'.size=true) (ht:TOk b t') :
  (h.update a (Obj.putSet es' t')).get? a=some { o with data:=.set es' (ep+1) t' }/\SetT knd b (h.update a (Obj.putSet es' t')) a S' es'.size:=by
 have hg:(h.update a (Obj.putSet es' t')).get? a=some { o with data:=.set es' (ep+1) t' }:=by
  have q:=GH (Obj.putSet es' t') ho (by rw[putSet_of es' t' hd];rfl);rw[putSet_of es' t' hd] at q;exact q
 exact⟨hg,_,es',ep+1,t',hg,hex,rfl,hel,hf,rfl,ht⟩
theorem Hx {g:Bool->Sem Unit}(hg:∀(c:Bool)(s₁:AB)(Q':Unit->AB->Prop),Q' () s₁->AG (AW prog w) A (g c) Q' E s₁)
  {a:Addr} {o:Obj} {es:Array (Int×Ap)} {ep:Nat} {t:AV} (ho:s.heap.get? a=some o) (hex:o.ExactSet) (hd:o.data=.set es ep t)
  {es1:Array (Int×Ap)} {t2:AV} {S':K->Bool} (hel:ElemsOf knd es1.toList/\(∀k,S' k=true ↔ ∃e∈es1.toList,knd.is k e.2=true)/\es1.size<F4)
  (hf:t2.fits es1.size=true) (ht:TOk b t2) {wd:Bool} {R:Option Bool->AB->Prop}
  (h:∀h',B5 a s.heap h'->SetT knd b h' a S' es1.size->R (some true) { s with heap:=h' }) :
  AG (AW prog w) A (storeSet a es1 t2 >>= fun _=>if (!wd&&t2.tooFull)=true then (g (relayAll t2 es1 (AV.grown es1.size)).2.2 >>= fun _=>storeSet a (relayAll t2 es1 (AV.grown es1.size)).1 (relayAll t2 es1 (AV.grown es1.size)).2.1 >>= fun _=>pure (some true)) else pure (some true)) R E s:=by
 refine An (wpAny_storeSet_of ho hd ?_ (fits_of_scanBound hel.2.2));obtain⟨ho1,hS1⟩:=Av (knd:=knd) ho hex hd hel hf ht;have hsb1:=B5.update s.heap a (Obj.putSet es1 t2);by_cases hc:(!wd&&t2.tooFull)=true
 ·rw[if_pos hc];have hp:=relayAll_perm t2 es1 (AV.grown es1.size);have hfr:=relayAll_fits t2 es1 (AV.grown es1.size);have htr:=Cu ht es1 (AV.grown es1.size);generalize relayAll t2 es1 (AV.grown es1.size)=Rl at hp hfr htr |-;obtain⟨es2,t3,gv⟩:=Rl;dsimp only at hp hfr htr |-;have hsz:es2.size=es1.size:=by rw[<- EA,hp.length_eq,EA]
  have hel2:ElemsOf knd es2.toList/\(∀k,S' k=true ↔ ∃e∈es2.toList,knd.is k e.2=true)/\es2.size<F4:=
   ⟨hel.1.perm hp,fun k=>(hel.2.1 k).trans ⟨fun⟨e,he,q⟩=>⟨e,hp.mem_iff.mpr he,q⟩,fun⟨e,he,q⟩=>⟨e,hp.mem_iff.mp he,q⟩⟩,by rw[hsz];exact hel.2.2⟩
  refine An (hg _ _ _ (An (wpAny_storeSet_of ho1 rfl ?_ (fits_of_scanBound hel2.2.2))));obtain⟨_,hS2⟩:=Av (knd:=knd) ho1 hex rfl hel2 hfr htr;rw[hsz] at hS2;exact Au (h _ (hsb1.trans (B5.update _ a _)) hS2)
 rw[if_neg hc];exact Au (h _ hsb1 hS1)
theorem Rg {a:Addr}{S:K->Bool}{n:Nat}{k:K}{x:Ap}{Q:Bool->AB->Prop}(hkey:knd.is k x=true)(hsc:x.scannable=true)(hS:SetT knd b s.heap a S n)(hroom:n+1<F4)
  (h:∀h',B5 a s.heap h'->SetT knd b h' a (fun k'=>S k'||decide (k'=k)) (if S k then n else n+1)->Q (!S k) { s with heap:=h' }) :
  AG (AW prog w) A (setAddHashed a x (knd.hash k)) Q E s:=by
 obtain⟨o,es,ep,t,ho,hex,hd,hel,hf,hn,ht⟩:=hS;unfold setAddHashed setAddHashedIn;refine BD (An (wpAny_setState_of ho hd hf ?_));dsimp only;rw[byScan_of hsc hel.2.2 hel.1,if_pos rfl];unfold setAddByScan;refine An (An (DS (An (wpAny_setScan_of hkey ho hd hf hel.1 ?_))));cases hr:List.findIdx? (fun e=>knd.is k e.2) es.toList with
 | some j=>
  dsimp only;obtain⟨hj,hpj,_⟩:=List.findIdx?_eq_some_iff_getElem.mp hr;have hSk:S k=true:=(hel.2.1 k).mpr ⟨es.toList[j],G1 hj,hpj⟩;refine Au (Au ?_);have q:=h s.heap (B5.refl a s.heap) ⟨o,es,ep,t,ho,hex,hd,⟨hel.1,fun k'=>by
   rw[Bool.or_eq_true,decide_eq_true_eq,<- hel.2.1 k'];exact⟨fun hk=>hk.elim id (fun e=>e ▸ hSk),.inl⟩,hel.2.2⟩,hf,by rw[hSk];exact hn,ht⟩
  rw[hSk] at q;exact q
 | none=>
  dsimp only;have hSk:S k=false:=by
   cases hk:S k with
   | false=>rfl
   | true=>
    obtain⟨e,he,hp⟩:=(hel.2.1 k).mp hk;have q:=List.findIdx?_eq_none_iff.mp hr e he;rw[hp] at q;exact Bool.noConfusion q
  have hgw:∀(c:Bool){s₁:AB}{Q':Unit->AB->Prop},Q' () s₁->AG (AW prog w) A (match c with|true=>rule "set.scan.the-table-gave-way" | false=>pure ()) Q' E s₁:=
   fun c s₁ Q' hq=>by cases c <;> first|exact Au hq|exact DS hq
  have hperm:=layNew_perm t es (knd.hash k) x;have hfits:=layNew_fits t es (knd.hash k) x;have htok:=Jx ht es (knd.hash k) x;generalize layNew t es (knd.hash k) x=L at hperm hfits htok |-;obtain⟨es1,t1,wd,gv⟩:=L;dsimp only at hperm hfits htok |-;rw[toList_push] at hperm;have hsz1:es1.size=n+1:=by rw[<- EA,hperm.length_eq,AH,EA,hn];rfl
  have hel1:ElemsOf knd es1.toList/\(∀k',(S k'||decide (k'=k))=true ↔ ∃e∈es1.toList,knd.is k' e.2=true)/\es1.size<F4:=
   ⟨(hel.1.push hkey hsc).perm hperm,mem_push_iff hkey hel.2.1 hperm,by rw[hsz1];exact hroom⟩
  have hend:∀h',B5 a s.heap h'->SetT knd b h' a (fun k'=>S k'||decide (k'=k)) es1.size->Q true { s with heap:=h' }:=by
   intro h' hsb hS';have q:=h h' hsb;rw[hSk] at q;rw[hsz1] at hS';exact q hS'
  refine An (hgw _ ?_);by_cases hpl:t1.plain=true
  ·rw[if_pos hpl,hashByValue_scannable 8 hsc];refine An (Au ?_);refine Hx (b:=b) ?_ ho hex hd hel1 (t2:=if plainKind x=true then t1 else { t1 with plain:=false }) ?_ ?_ ?_
   ·intro c s₁ Q' hq;cases c <;> first|exact Au hq|exact DS hq
   ·split
    ·exact hfits
    exact AV.fits_plain_off hfits
   ·split
    ·exact htok
    exact M8 htok false
   intro h' hsb hS';dsimp only;exact Au (hend h' hsb hS')
  rw[if_neg hpl];refine An (Au ?_);refine Hx (b:=b) ?_ ho hex hd hel1 hfits htok ?_
  ·intro c s₁ Q' hq;cases c <;> first|exact Au hq|exact DS hq
  intro h' hsb hS';dsimp only;exact Au (hend h' hsb hS')
end
end SRT
namespace SRT
open PySem PyProof.Rows
noncomputable abbrev bt (w:Bi):Bool:=w.params.followText "set-order"
section
variable {prog:AR}{w:Bi}{A:Bz}{R:Result->AB->Prop}{I:Addr}{fp wr:List Addr}{G:Array GenState->Array GenState->Prop}{n:Nat}{P:Nat->Ap->Prop}{St:Nat->AB->Prop}{b:Bool}
theorem Qh (W:WalksS prog w A.in1 I fp wr G n P St)(S:Addr)(hSf:S∉fp)(val:Nat->Int)(hval:∀i v,P i v->∃t,v=.int (val i) t)(hb:n+1<F4) :
  ∀(k i:Nat)(s:AB),n-i=k->i<=n->St i s->SetT (GN prog w) b s.heap S (fun k'=>(FA val i).any (· == k')) (FA val i).length ->
   (∀s',Moved (S::wr) G s s'->SetT (GN prog w) b s'.heap S (fun k'=>(FA val n).any (· == k')) (FA val n).length->R (.ok (.ret .none)) s') ->
   Ff (AW prog w) A (.builtin "set.update.loop" ⟨[.ref S,.ref I],[]⟩) R s:=by
 have hSw:S∉wr:=fun h=>hSf (W.sub _ h);have hsub:∀c∈wr,c∈S::wr:=fun c hc=>B1 _ hc;intro k
 induction k with
 | zero=>
  intro i s hk hi hst hS hR;have hin:i=n:=ω;subst hin;refine DA F.entry_set_update_loop ?_;rw[Bz.under_plainId IQ _];show AG _ A.in1 (EO (.ref I) >>= _) _ _ s;refine An (W.done s _ _ hst fun s' hm=>?_);show AG _ A.in1 (ret Ap.none) _ _ s';exact Au (hR s' (hm.mono hsub) (hS.get fun o e=>hm.heap S _ hSw e))
 | succ k ih=>
  intro i s hk hi hst hS hR;have hlt:i<n:=ω;refine DA F.entry_set_update_loop ?_;rw[Bz.under_plainId IQ _];show AG _ A.in1 (EO (.ref I) >>= _) _ _ s;refine An (W.item i s _ _ hlt hst fun v s' hP hst' hm=>?_);obtain⟨t,rfl⟩:=hval i v hP;have hS':=hS.get fun o e=>hm.heap S _ hSw e;show AG _ A.in1 (EM [Ap.int (val i) t] (setAdd S (.int (val i) t)) >>= _) _ _ s';refine An (BD ?_);unfold setAdd;refine BD (An ((GN prog w).pyHash (k:=val i) (intKind_is _ _ _ _) ?_));have hroom:(FA val i).length+1<F4:=by have:=firstMet_length_le val i;omega
  refine Rg (knd:=GN prog w) (s:={ s' with toks:=s'.toks+1 }) (intKind_is _ _ _ _) rfl hS' hroom fun h' hsb hS2=>?_;have hSi:SetT (GN prog w) b h' S (fun k'=>(FA val (i+1)).any (· == k')) (FA val (i+1)).length:=
   hS2.congr (fun k'=>by rw[firstMet_succ,step_any]) (by rw[firstMet_succ,step_length])
  refine Au ⟨Ll IQ _,ih (i+1) _ ω hlt (W.frame _ s' _ _ hst' (le_succ _) fun c hc o e=>?_) hSi fun s'' hm'' hS''=>?_⟩
  ·rw[hsb.2 c (fun h:c=S=>hSf (by rw[<- h];exact hc))];exact e
  refine hR s'' (Moved.trans W.gtrans ((hm.mono hsub).then_heap (le_succ _) fun c o hc e=>?_) hm'') hS'';rw[hsb.2 c (fun h:c=S=>hc (by rw[h];exact A0))];exact e
end
noncomputable abbrev zu (w:Bi):Obj:={ cls:=.type "set",dict:=none,data:=.set #[] 0 (.fresh 0 0 (!bt w)) }
section
variable {prog:AR}{w:Bi}{A:Bz}{E:Ap->AB->Prop}{s:AB}
theorem Pj (a:Ap){Q₁:Ap->AB->Prop}(h:Q₁ (.ref s.heap.objs.size) { s with heap:=s.heap.push (zu w) }) :
  Ff (AW prog w) A (.call (.builtin "set.__new__") ⟨[.type "set",a],[]⟩) (wants Q₁ E) s:=by
 refine codeAny_of_tree (show AG _ A.in1 (checkBuiltinCall "set.__new__" ⟨[.type "set",a],[]⟩ >>= fun _=>JJ (.builtin "set.__new__" ⟨[.type "set",a],[]⟩)) _ _ s from ?_);refine An (Da (F.newCall_set_1 a) (Au ⟨Ll F.plain_set_new _,DA F.entry_set_new ?_⟩));rw[Bz.under_plainId F.plain_set_new _];unfold AI.«set.__new__» AI.Frozenset.newClass;have hsub:=sub_set_self;obtain⟨hp,g,d,tk,os⟩:=s;dsimp only
 wp_walk
 refine FO (Au ?_);dsimp only;simp only[newObj];exact An (wpAny_alloc (Au (Au h)))
set_option maxHeartbeats 3200000 in
theorem Pk {l:Addr}{items:Array Ap}{ns:List Int}{Q:Ap->AB->Prop}(hh:A.handled=none)(hl:s.heap.IsList l items)(hi:FD items.toList ns)(hb:items.size+1<F4)
  (h:∀(h':Heap)(tk:Nat),SetT (GN prog w) (!bt w) h' s.heap.objs.size (fun k'=>(FA (fun i=>ns.getD i 0) items.size).any (· == k')) (FA (fun i=>ns.getD i 0) items.size).length ->
   (∀c o,c<s.heap.objs.size->s.heap.get? c=some o->h'.get? c=some o)->Q (.ref s.heap.objs.size) { s with heap:=h',toks:=tk }) :
  AG (AW prog w) A (call (.type "set") [.ref l]) Q E s:=by
 obtain⟨c,tl,hmro⟩:=FR.mro;have hmade:=FR.made;have hsub:=FR.sub;refine wpAny_call (codeAny_of_tree (show AG _ _ (callAny (.type "set") _) _ _ _ from Au ⟨Fm _ ψ,DA F.entry_type_call ?_⟩));rw[Bz.under_plain (weight_type_call_type "set" [.ref l] []) rfl];have h1:=FR.notType;have h2:=FR.canCreate;have hct:=F.typeCall_set_1 (.ref l)
 repeat (any_goals (first|assumption|wp_step))
 refine IT (Pj (.ref l) (E:=E) (Q₁:=fun obj s₁=>obj=.ref s.heap.objs.size/\s₁={ s with heap:=s.heap.push (zu w) }) ⟨rfl,rfl⟩) fun r s₁ hr=>?_;cases r with
 | error e=>exact hr
 | ok fl=>
  cases fl with
  | ret obj=>
   obtain⟨rfl,rfl⟩:=hr;have hS:(s.heap.push (zu w)).get? s.heap.objs.size=some (zu w):=AQ _ rfl;have hT:AB.TypeIs { s with heap:=s.heap.push (zu w) } (.ref s.heap.objs.size) "set" := ⟨_,hS,rfl⟩;have hli:=FR.init.lookup;have hbi:=FR.init.bind (.ref s.heap.objs.size)
   repeat (any_goals (first|assumption|wp_step))
   refine IT (codeAny_call_builtin (R:=wants (fun r s₂=>r=.none/\∃h' tk,s₂={ s with heap:=h',toks:=tk } /\
     SetT (GN prog w) (!bt w) h' s.heap.objs.size (fun k'=>(FA (fun i=>ns.getD i 0) items.size).any (· == k')) (FA (fun i=>ns.getD i 0) items.size).length /\
     (∀c o,c<s.heap.objs.size->s.heap.get? c=some o->h'.get? c=some o)) E) FR.init.plain F.entry_set_init (check_set_init_1 hT ?_)) fun r₂ s₂ hr₂=>?_
   ·obtain⟨ol,hol,hcl,nl,hdl⟩:=hl;obtain⟨ocls,odict,odata,oslots⟩:=ol;simp only at hcl hdl;subst hcl;subst hdl;have hol':(s.heap.push (zu w)).get? l=some { cls:=.type "list",dict:=odict,data:=.seq items nl,slots:=oslots }:=AA _ hol;have hsls:=F.sub_list_set;have hslf:=F.sub_list_frozenset;have hne:(Ap.type "list" == Ap.type "dict")=false:=by decide
    have hl1:(s.heap.push (zu w)).IsList l items:=⟨_,hol',rfl,nl,rfl⟩;unfold AI.«set.__init__» noKeywords AI.Frozenset.updateFrom;generalize hPI:pyIter=PI
    wp_walk
    subst hPI;refine EW hl1 (An (wpAny_runValue ?_));have hlS:l<s.heap.objs.size:=A4 hol;have hh3:A.in1.in1.in1.handled=none:=by simp [hh]
    have hneI:l≠(s.heap.push (zu w)).objs.size:=by
     rw[B9];exact B2 (C0 hlS)
    have hSf:s.heap.objs.size∉[(s.heap.push (zu w)).objs.size,l]:=by
     rw[B9];simp only[A5,AK,A9,or_false,not_or];exact⟨B2 (CO _),ne_of_gt hlS⟩
    have hval:∀(i:Nat)(v:Ap),items[i]?=some v->∃t,v=.int ((fun i=>ns.getD i 0) i) t:=fun i v hv=>FD.int_at hi i v (by rw[C4];exact hv);refine Qh (b:=!bt w) ((Walks.list hh3 _ l hneI items).toS) s.heap.objs.size hSf (fun i=>ns.getD i 0) hval hb (items.size-0) 0 _ ω (EN _)
     ⟨⟨_,AQ _ rfl,rfl,rfl⟩,(hl1.push _)⟩ ?hS0 ?hR
    case hS0=>exact⟨_,#[],0,_,AA _ hS,⟨rfl,rfl,rfl⟩,rfl,⟨fun e he=>by simp at he,fun k=>by simp [firstMet_zero],δ⟩,by rfl,rfl,M9 _ _ _⟩
    case hR=>
     intro s' hm hS';obtain⟨h',g',d',tk',os'⟩:=s';have eg:g'=s.gens:=hm.gens;have ed:d'=s.drawn:=hm.drawn;have eo:os'=s.os:=hm.os;subst eg;subst ed;subst eo;show AG _ _ _ _ _ _;refine Au (show AG _ _ (ret Ap.none) _ _ _ from Au ⟨rfl,h',tk',rfl,hS',fun c o hc e=>?_⟩);have hc1:c≠s.heap.objs.size:=B2 hc;have hc2:c≠(s.heap.push (zu w)).objs.size:=by
      rw[B9];exact B2 (C0 hc)
     exact hm.heap c o (by simp only[A5,AK,A9,or_false,not_or];exact⟨hc1,hc2⟩) (AA _ (AA _ e))
   cases r₂ with
   | error e=>exact hr₂
   | ok fl₂=>
    cases fl₂ with
    | ret r=>
     obtain⟨rfl,h',tk,rfl,hS',hk'⟩:=hr₂
     repeat (any_goals (first|assumption|wp_step))
     exact h _ _ hS' hk'
    | _=>exact hr₂.elim
  | _=>exact hr.elim
end
end SRT
namespace SRT
open PySem PyProof.Rows
theorem qX {α:Type}:∀{l:List α}{i:Nat}(h:i<l.length),(l[i]::l.eraseIdx i).Perm l
 | x::l,0,_=>FS.refl _
 | x::l,i+1,h=>by
  have h':i<l.length:=by simpa using h
  show(l[i]::x::l.eraseIdx i).Perm (x::l);exact(FS.swap _ _ _).trans (FS.cons _ (qX h'))
section
variable {prog:AR}{w:Bi}{A:Bz}{E:Ap->AB->Prop}
theorem wp_choose {s:AB}{src:Source}{n:Nat}{Q:Nat->AB->Prop}(hn:n≠0)(h:∀k d,k<n->Q k { s with drawn:=d }):AG (AW prog w) A (choose src n) Q E s:=
 fun _ _ _=>⟨hn,h _ _ (mod_lt _ (Nat.pos_of_ne_zero hn))⟩
theorem Yq {α:Type}:∀(n:Nat)(xs:List α)(s:AB){Q:List α->AB->Prop},xs.length=n->(∀ys d,ys.Perm xs->Q ys { s with drawn:=d })->AG (AW prog w) A (drawOrder n xs) Q E s:=by
 intro n
 induction n with
 | zero=>
  intro xs s Q hl h;have e:xs=[]:=HV.mp hl;subst e;exact Au (h [] s.drawn (FS.refl _))
 | succ n ih=>
  intro xs s Q hl h;cases xs with
  | nil=>cases hl
  | cons x xs=>
   unfold drawOrder;refine An (wp_choose (by simp) fun i d hi=>?_);have hg:(x::xs)[i]?=some (x::xs)[i]:=AF hi;rw[hg];dsimp only;refine An (ih _ _ (by rw[List.length_eraseIdx,if_pos hi];simpa using hl) fun ys d' hp=>Au (h _ d' ?_));exact(FS.cons _ hp).trans (qX hi)
end
theorem WW {α:Type}(next:Nat->Nat):∀(fuel k:Nat)(left:List α)(out:Array α),left.length=fuel->(HI.go next fuel k left out).toList.Perm (out.toList++left):=by
 intro fuel
 induction fuel with
 | zero=>
  intro k left out hl;have e:left=[]:=HV.mp hl;subst e;show out.toList.Perm _;rw[CB]
 | succ fuel ih=>
  intro k left out hl;unfold HI.go;have hi:next k%left.length<left.length:=mod_lt _ ω;rw[AF hi];dsimp only;refine(ih (k+1) _ _ (by rw[List.length_eraseIdx,if_pos hi];omega)).trans ?_;rw[toList_push,Dx];exact FS.append_left _ (qX hi)
theorem Ny {α:Type}(next:Nat->Nat)(xs:Array α):(HI next xs).toList.Perm xs.toList:=by
 have:=WW next xs.size 0 xs.toList #[] (by simp);simpa [HI] using this
noncomputable def iK (h:Heap)(S:Addr)(es:Array (Int×Ap))(ep:Nat)(t:AV):Prop:=∃o,h.get? S=some o/\o.ExactSet/\o.data=.set es ep t
noncomputable def gw (h:Heap)(I:Addr)(first:Ap)(i:Nat)(S:Addr)(n ep:Nat):Prop:=
 h.get? I=some { cls:=.type "set_iterator",dict:=none,data:=.fields #[first,.int i 0,.ref S,.int n 0,.int ep 0],slots:=#[] }
theorem iK.get {h h':Heap}{S:Addr}{es:Array (Int×Ap)}{ep:Nat}{t:AV}(hS:iK h S es ep t)(hk:∀o,h.get? S=some o->h'.get? S=some o):iK h' S es ep t:=
 let ⟨o,ho,r⟩:=hS;⟨o,hk o ho,r⟩
section
variable {prog:AR}{w:Bi}{A:Bz}{E:Ap->AB->Prop}{s:AB}{S:Addr}{es:Array (Int×Ap)}{ep:Nat}{t:AV}
theorem oV {Q:(Array (Int×Ap)×Nat×AV)->AB->Prop}(hS:iK s.heap S es ep t)(hf:t.fits es.size=true)(h:Q (es,ep,t) s):AG (AW prog w) A (setState S) Q E s:=
 let ⟨_,ho,_,hd⟩:=hS;wpAny_setState_of ho hd hf h
theorem below_at {xs:Array Nat}(hr:Ris xs){i:Nat}(hi:i<=xs.size):AV.below xs (if i=0 then 0 else xs.getD (i-1) 0+1)=i:=by
 have hs:=rN hr (if i=0 then 0 else xs.getD (i-1) 0+1);generalize hb:AV.below xs (if i=0 then 0 else xs.getD (i-1) 0+1)=b at hs;by_cases h0:i=0
 ·subst h0;simp only[↓reduceIte] at hs;rcases Nat.eq_zero_or_pos b with h|h
  ·exact h
  have hl:0<xs.size:=ω;have hg:xs[0]?=some xs[0]:=by simp [hl]
  have:=(hs.1 0 _ hg).mp h;omega
 rw[if_neg h0] at hs;have hl:i-1<xs.size:=ω;have hg:xs[i-1]?=some xs[i-1]:=by simp [hl]
 have hd:xs.getD (i-1) 0=xs[i-1]:=by simp [Array.getD,hl]
 rw[hd] at hs;have h1:i-1<b:=(hs.1 _ _ hg).mpr ω;rcases FX i b with h|h
 ·have hl2:i<xs.size:=ω;have hg2:xs[i]?=some xs[i]:=by simp [hl2]
  have h2:=(hs.1 _ _ hg2).mp h;have h3:=hr.lt hg hg2 ω;omega
 omega
theorem XH (hf:t.fits es.size=true)(ht:TOk (!bt w) t)(hd:bt w=true\/(!t.plain&&decide (es.size>1))=false) :
  ∃(vs:List Ap)(sl:Nat->Nat),sl 0=0/\vs.Perm (es.toList.map (·.2))/\∀(i:Nat)(s:AB)(A:Bz)(E:Ap->AB->Prop)(Q:Option (Ap×Nat)->AB->Prop),i<=vs.length->iK s.heap S es ep t ->
   Q (vs[i]?.map fun x=>(x,sl (i+1))) s->AG (AW prog w) A (setNext S (sl i) i ep) Q E s:=by
 by_cases hb:bt w=true
 ·refine⟨(HI (w.params.setOrder S ep) es).toList.map (·.2),fun _=>0,rfl,(Ny _ es).map _,fun i s A E Q hi hS h=>?_⟩;unfold setNext;refine An (oV hS hf ?_);dsimp only;unfold setsByText;refine An (An (FO (Au ?_)));show AG _ _ (if bt w=true then _ else _) _ _ _;rw[if_pos hb,if_neg (by simp)];unfold setWalk;refine An (An (oV hS hf ?_));dsimp only;unfold setsByText;refine An (An (FO (Au ?_)));show AG _ _ (if bt w=true then _ else _) _ _ _;rw[if_pos hb];refine An (FO (Au (Au ?_)));have e:((HI (w.params.setOrder S ep) es)[i]?).map (fun e=>(e.2,0))=(((HI (w.params.setOrder S ep) es).toList.map (·.2))[i]?).map fun x=>(x,0):=by
   rw[AU,Option.map_map,C4];rfl
  show Q (((HI (w.params.setOrder S ep) es)[i]?).map (fun e=>(e.2,0))) s;rw[e];exact h
 have hb':bt w=false:=by simpa using hb
 have hdr:=hd.resolve_left hb;have hps:t.place.size=es.size:=by
  have:=hf;unfold AV.fits at this;simp only[C9,beq_iff_eq] at this;exact this.1
 refine⟨es.toList.map (·.2),fun i=>if i=0 then 0 else t.place.getD (i-1) 0+1,rfl,FS.refl _,fun i s A E Q hi hS h=>?_⟩;unfold setNext;refine An (oV hS hf ?_);dsimp only;unfold setsByText;refine An (An (FO (Au ?_)));show AG _ _ (if bt w=true then _ else _) _ _ _;rw[if_neg hb];show AG _ _ (if (!t.plain&&decide (es.size>1))=true then _ else _) _ _ _;rw[if_neg (by rw[hdr];simp)];refine An ?_;show AG _ _ (if (!t.led && !es.isEmpty)=true then _ else _) _ _ _;have hled:t.led=true:=by rw[ht.2.2,hb'];rfl
 rw[if_neg (by rw[hled];simp)];refine Au (Au ?_);have hi':i<=es.size:=by simpa using hi
 rw[below_at ht.1 (by rw[hps];exact hi')];rcases FX i es.size with hlt|hge
 ·have g1:es[i]?=some es[i]:=by simp [hlt]
  have g2:t.place[i]?=some t.place[i]:=by simp [hps,hlt]
  have g3:(es.toList.map (·.2))[i]?=some es[i].2:=by rw[AU,C4,g1];rfl
  rw[g1,g2];rw[g3] at h;have g4:t.place.getD i 0=t.place[i]'(by rw[hps];exact hlt):=by simp [Array.getD,hps,hlt]
  simp only[map_some,Nat.add_one_ne_zero,if_false,HQ,g4] at h;exact h
 have g1:es[i]?=none:=by simp [hge]
 have g3:(es.toList.map (·.2))[i]?=none:=by rw[AU,C4,g1];rfl
 rw[g1];rw[g3] at h;exact h
end
end SRT
namespace SRT
open PySem PyProof.Rows
theorem G4:entryFor table "set.__iter__" = some AI.«frozenset.__iter__»:=entryFor_alias (id' := "frozenset.__iter__") (by kernel_rfl) rfl ψ (by kernel_rfl)
theorem dU:Slot "set_iterator" "__next__" "set_iterator.__next__" :=
 .of (owner := "set_iterator") (n := "__next__") (by rw[typeLookup_type,builtinLookup_eq_fast];kernel_rfl) ψ ψ ψ (by first|exact .inl ψ|exact .inr ψ) (by rw[isSubtype_type];kernel_rfl)
theorem wY:Slot "set_iterator" "__iter__" "set_iterator.__iter__" :=
 .of (owner := "set_iterator") (n := "__iter__") (by rw[typeLookup_type,builtinLookup_eq_fast];kernel_rfl) ψ ψ ψ (by first|exact .inl ψ|exact .inr ψ) (by rw[isSubtype_type];kernel_rfl)
theorem lG:entryFor table "set_iterator.__next__" = some AI.«set_iterator.__next__»:=entryFor_of_tree (by kernel_rfl)
theorem G3:entryFor table "set_iterator.__iter__" = some AI.«dict_keyiterator.__iter__»:=entryFor_alias (id' := "dict_keyiterator.__iter__") (by kernel_rfl) rfl ψ (by kernel_rfl)
theorem nP (a:Ap):argsOk "set_iterator.__next__" ⟨[a],[]⟩:=by unfold argsOk;kernel_rfl
theorem Kc (a:Ap):argsOk "set_iterator.__iter__" ⟨[a],[]⟩:=by unfold argsOk;kernel_rfl
section
variable {prog:AR}{w:Bi}{A:Bz}{E:Ap->AB->Prop}{s:AB}{S I:Addr}{es:Array (Int×Ap)}{ep:Nat}{t:AV}
theorem gw.ty {h:AB}{first:Ap}{i n:Nat}(hI:gw h.heap I first i S n ep):h.TypeIs (.ref I) "set_iterator" := ⟨_,hI,rfl⟩
theorem gw.get {h h':Heap}{first:Ap}{i n:Nat}(hI:gw h I first i S n ep)(hk:∀o,h.get? I=some o->h'.get? I=some o):gw h' I first i S n ep:=hk _ hI
theorem kO {Q:Array (Int×Ap)->AB->Prop}(hS:iK s.heap S es ep t)(hf:t.fits es.size=true)(h:Q es s):AG (AW prog w) A (setEntries S) Q E s:=
 let ⟨_,ho,_,hd⟩:=hS;wpAny_setEntries_of ho hd hf h
theorem GZ {Q:Nat->AB->Prop}(hS:iK s.heap S es ep t)(hf:t.fits es.size=true)(h:Q ep s):AG (AW prog w) A (setEpoch S) Q E s:=
 let ⟨_,ho,_,hd⟩:=hS;wpAny_setEpoch_of ho hd hf h
theorem Kp (hh:A.handled=none) {s:AB}{P:Fin->AB->Prop}{E':Ap->AB->Prop}(h:∀(h':Heap)(e:Ap),(∀c o,s.heap.get? c=some o->h'.get? c=some o)->AB.TypeIs { s with heap:=h' } e "StopIteration" -> E' e { s with heap:=h' }) :
  AG (AW prog w) A (newExc (.type "StopIteration") [] >>= fun e=>(raiseNew e:Sem Fin)) P E' s:=by
 refine An ?_;simp only[newExc,IM];refine An (BF (An (m:=firstArgMember _ _) (Da (a:=Ap.none) (by first|rfl|(simp only[firstArgMember];rfl)) ?_)) (by size_fits))
 refine BF ?_ (by size_fits);simp only[raiseNew];refine An (wpAny_handled ?_);rw[hh];refine An (Au (wpAny_throw (h _ (.ref _) (fun c o e=>AA _ (AA _ e)) ⟨_,AQ _ rfl,rfl⟩)))
theorem next_item {n i:Nat}{first:Nat}{v:Ap}{sl:Nat}{Q:Option Ap->AB->Prop}(hI:gw s.heap I (.int first 0) i S es.size ep)(hS:iK s.heap S es ep t)(hf:t.fits es.size=true)
  (hn:∀(s:AB)(A:Bz)(E:Ap->AB->Prop)(Q:Option (Ap×Nat)->AB->Prop),iK s.heap S es ep t->Q (some (v,sl)) s->AG (AW prog w) A (setNext S first i ep) Q E s)
  (hne:S≠I) (hQ:∀h',gw h' I (.int sl 0) (i+1) S es.size ep->B5 I s.heap h'->Q (some v) { s with heap:=h' }):AG (AW prog w) A (EO (.ref I)) Q E s:=by
 unfold EO;refine An (Db (BS (name:=Cb "__next__") hI.ty dU (Cc dU hI.ty lG ?_ (nP _))));show AG _ _ (fieldsOf (.ref I) >>= _) _ _ s;refine An (KF hI rfl ?_);refine An (kO hS hf ?_);rw[if_neg (by simp)];dsimp only;refine An (hn s _ _ _ hS ?_);dsimp only;refine An (BU hI (by simp) fun h1 g1 b1=>?_);refine An (BU (s:={ s with heap:=h1 }) g1 (by simp) fun h2 g2 b2=>?_);exact Au ⟨_,rfl,Au (hQ h2 g2 (b1.trans b2))⟩
end
end SRT
namespace SRT
open PySem PyProof.Rows
section
variable {prog:AR}{w:Bi}{A:Bz}{E:Ap->AB->Prop}{s:AB}{S I T:Addr}{es:Array (Int×Ap)}{ep:Nat}{t:AV}
theorem Fo {a:Addr}{h h' h'':Heap}(b:B5 a h h')(k:∀c o,h'.get? c=some o->h''.get? c=some o)(c:Addr)(o:Obj)(hc:c≠a)(e:h.get? c=some o):h''.get? c=some o:=k c o (b.extBut c o hc e)
theorem next_end {i first:Nat}{Q:Option Ap->AB->Prop}(hh:A.handled=none)(hI:gw s.heap I (.int first 0) i S es.size ep)(hS:iK s.heap S es ep t)(hf:t.fits es.size=true)
  (hn:∀(s:AB)(A:Bz)(E:Ap->AB->Prop)(Q:Option (Ap×Nat)->AB->Prop),iK s.heap S es ep t->Q none s->AG (AW prog w) A (setNext S first i ep) Q E s)
  (hQ:∀h',(∀c o,c≠I->s.heap.get? c=some o->h'.get? c=some o)->Q none { s with heap:=h' }):AG (AW prog w) A (EO (.ref I)) Q E s:=by
 unfold EO;refine An (Db (BS (name:=Cb "__next__") hI.ty dU (Cc dU hI.ty lG ?_ (nP _))));show AG _ _ (fieldsOf (.ref I) >>= _) _ _ s;refine An (KF hI rfl (An (kO hS hf ?_)));rw[if_neg (by simp)];dsimp only;refine An (hn s _ _ _ hS ?_);dsimp only;refine An (BU hI (by simp) fun h1 g1 b1=>?_);refine Kp (s:={ s with heap:=h1 }) (by simpa using hh) fun h2 e k2 ty=>An (DZ ty Kx (Au (hQ h2 fun c o hc x=>Fo b1 k2 c o hc x)))
noncomputable def TupAt (h:Heap) (T:Addr) (ds:List Nat):Prop:=h.get? T=some { cls:=.type "tuple",data:=.seq (ds.map fun(i:Nat)=>DT i).toArray }
theorem J0 {i d:Nat}{ds:List Nat}{v:Ap}{Q:Option Ap->AB->Prop}(hI:gw s.heap I (.ref T) i S es.size ep)(hS:iK s.heap S es ep t)(hT:TupAt s.heap T ds)(hf:t.fits es.size=true)
  (hd:ds[i]?=some d) (hv:(es[d]?).map (·.2)=some v) (hne:S≠I)
  (hQ:∀h',gw h' I (.ref T) (i+1) S es.size ep->B5 I s.heap h'->Q (some v) { s with heap:=h' }):AG (AW prog w) A (EO (.ref I)) Q E s:=by
 unfold EO;refine An (Db (BS (name:=Cb "__next__") hI.ty dU (Cc dU hI.ty lG ?_ (nP _))));show AG _ _ (fieldsOf (.ref I) >>= _) _ _ s;refine An (KF hI rfl (An (kO hS hf ?_)));rw[if_neg (by simp)];dsimp only;refine An (B4 hT rfl ?_);dsimp only;have hg:(ds.map fun(i:Nat)=>DT i).toArray[(i:Int).toNat]?=some (.int (d:Int) 0):=by
  rw[B6,GL,AU,hd];rfl
 rw[hg];dsimp only;unfold setNextDrawn;refine An (An (oV hS hf ?_));dsimp only;rw[if_neg (by simp)];obtain⟨⟨hh,x⟩,he,rfl⟩:=BE.mp hv;rw[B6,he];dsimp only;refine Au ?_;refine An (BU hI (by simp) fun h1 g1 b1=>?_);exact Au ⟨_,rfl,Au (hQ h1 g1 b1)⟩
theorem O9 {i:Nat}{ds:List Nat}{Q:Option Ap->AB->Prop}(hh:A.handled=none)(hI:gw s.heap I (.ref T) i S es.size ep)(hS:iK s.heap S es ep t)(hT:TupAt s.heap T ds)(hf:t.fits es.size=true)
  (hd:ds[i]?=none) (hQ:∀h',(∀c o,c≠I->s.heap.get? c=some o->h'.get? c=some o)->Q none { s with heap:=h' }):AG (AW prog w) A (EO (.ref I)) Q E s:=by
 unfold EO;refine An (Db (BS (name:=Cb "__next__") hI.ty dU (Cc dU hI.ty lG ?_ (nP _))));show AG _ _ (fieldsOf (.ref I) >>= _) _ _ s;refine An (KF hI rfl (An (kO hS hf ?_)));rw[if_neg (by simp)];dsimp only;refine An (B4 hT rfl ?_);dsimp only;have hg:(ds.map fun(i:Nat)=>DT i).toArray[(i:Int).toNat]?=none:=by
  rw[B6,GL,AU,hd];rfl
 rw[hg];dsimp only;refine An (BU hI (by simp) fun h1 g1 b1=>?_);refine An (BU (s:={ s with heap:=h1 }) g1 (by simp) fun h2 g2 b2=>?_);refine Kp (s:={ s with heap:=h2 }) (by simpa using hh) fun h3 e k3 ty=>An (DZ ty Kx (Au (hQ h3 fun c o hc x=>Fo (b1.trans b2) k3 c o hc x)))
theorem Kz {first:Ap}{i n:Nat}{Q:Ap->AB->Prop}(hI:gw s.heap I first i S n ep)(h:Q (.ref I) s):AG (AW prog w) A (pyIter (.ref I)) Q E s:=by
 refine wpAny_pyIter_slot hI.ty wY (Cc wY hI.ty G3 ?_ (Kc _));show AG _ _ (ret (.ref I)) _ _ s;exact Au ⟨_,rfl, "set_iterator",_,hI.ty,dU.lookup,h⟩
theorem Rf {Q:Ap->AB->Prop}(hh:A.handled=none)(hS:iK s.heap S es ep t)(hf:t.fits es.size=true)(ht:TOk (!bt w) t)(hz:es.size<=AL)
  (h:∀(s':AB)(I:Addr)(fp:List Addr)(vs:List Ap)(St:Nat->AB->Prop),(∀c o,s.heap.get? c=some o->s'.heap.get? c=some o)->s'.gens=s.gens->s'.os=s.os->s'.toks=s.toks->vs.Perm (es.toList.map (·.2))->I=s'.heap.objs.size-1->s.heap.objs.size<=I->I<s'.heap.objs.size ->
   (∀A':Bz,A'.handled=none->WalksS prog w A' I fp [I] (fun a b=>b=a) vs.length (fun i v=>vs[i]?=some v) St)->St 0 s'->(∀b∈fp,b<s'.heap.objs.size/\(b=S\/s.heap.objs.size<=b))->Q (.ref I) s') :
  AG (AW prog w) A (pyIter (.ref S)) Q E s:=by
 obtain⟨o,ho,hx,hd⟩:=id hS;have hty:s.TypeIs (.ref S) "set" := ⟨o,ho,hx.1⟩;have lt:S<s.heap.objs.size:=A4 ho;refine wpAny_pyIter_slot hty F.slot_set_iter (Cc F.slot_set_iter hty G4 ?_ (F.args_set_iter_1 _));unfold AI.«frozenset.__iter__»;show AG _ _ (AI.Frozenset.sizeOf S >>= _) _ _ s;unfold AI.Frozenset.sizeOf;refine An (An (kO hS hf (Au ?_)));unfold setDrawn setsByText;refine An (An (oV hS hf ?_));dsimp only;refine An (An (FO (Au (Au ?_))));show AG _ _ (if (!bt w&&(!t.plain&&decide (es.size>1)))=true then _ else _) _ _ _;have arith:∀{n m:Nat},m=n+1->n=m-1:=by intros;omega
 by_cases hc:(!bt w&&(!t.plain&&decide (es.size>1)))=true
 ·rw[if_pos hc];refine An (Yq es.size (BO es.size) _ (Fn) fun ds d hp=>?_);have hdl:ds.length=es.size:=by rw[hp.length_eq,Fn]
  refine An (E5 ?_ (by rw[AE,hdl];exact hz));have hS1:iK (s.heap.push { cls:=.type "tuple",data:=.seq (ds.map fun(i:Nat)=>DT i).toArray }) S es ep t:=hS.get fun o e=>AA _ e;have hT1:TupAt (s.heap.push { cls:=.type "tuple",data:=.seq (ds.map fun(i:Nat)=>DT i).toArray }) s.heap.objs.size ds:=AQ _ rfl;have hz1:(s.heap.push { cls:=.type "tuple",data:=.seq (ds.map fun(i:Nat)=>DT i).toArray }).objs.size=s.heap.objs.size+1:=B9 ..;have hk1:∀c o,s.heap.get? c=some o->(s.heap.push { cls:=.type "tuple",data:=.seq (ds.map fun(i:Nat)=>DT i).toArray }).get? c=some o:=fun c o e=>AA _ e;generalize s.heap.push { cls:=.type "tuple",data:=.seq (ds.map fun(i:Nat)=>DT i).toArray }=h1 at hS1 hT1 hz1 hk1 |-;refine An (GZ (s:={ s with drawn:=d,heap:=h1 }) hS1 hf (An (BF ?_)));have hI:gw (h1.push { cls:=.type "set_iterator",data:=.fields #[.ref s.heap.objs.size,.int (0:Nat) 0,.ref S,.int (es.size:Nat) 0,.int (ep:Nat) 0] }) h1.objs.size (.ref s.heap.objs.size) 0 S es.size ep:=AQ _ rfl;refine Au ⟨_,rfl, "set_iterator",_,⟨_,hI,rfl⟩,dU.lookup,?_⟩;have hz2:(h1.push { cls:=.type "set_iterator",data:=.fields #[.ref s.heap.objs.size,.int (0:Nat) 0,.ref S,.int (es.size:Nat) 0,.int (ep:Nat) 0] }).objs.size=h1.objs.size+1:=B9 ..;have hk2:∀c o,h1.get? c=some o->(h1.push { cls:=.type "set_iterator",data:=.fields #[.ref s.heap.objs.size,.int (0:Nat) 0,.ref S,.int (es.size:Nat) 0,.int (ep:Nat) 0] }).get? c=some o:=fun c o e=>AA _ e;show Q (.ref h1.objs.size) { s with drawn:=d,heap:=h1.push { cls:=.type "set_iterator",data:=.fields #[.ref s.heap.objs.size,.int (0:Nat) 0,.ref S,.int (es.size:Nat) 0,.int (ep:Nat) 0] } };generalize h1.push { cls:=.type "set_iterator",data:=.fields #[.ref s.heap.objs.size,.int (0:Nat) 0,.ref S,.int (es.size:Nat) 0,.int (ep:Nat) 0] }=h2 at hI hz2 hk2 |-;have n1:S≠h1.objs.size:=by rw[hz1];exact B2 (C0 lt)
  have n2:s.heap.objs.size≠h1.objs.size:=by rw[hz1];exact B2 (CO _)
  have hmem:∀i d:Nat,ds[i]?=some d->∃x:Ap,(es[d]?).map (fun(e:Int×Ap)=>e.2)=some x/\(ds.map fun d=>(es.toList.map (·.2)).getD d .none)[i]?=some x:=by
   intro i d hi;have:d<es.size:=by have:=hp.mem_iff.mp (A7 hi);simpa using this
   refine⟨es[d].2,by simp [this],?_⟩;rw[AU,hi];simp [this]
  refine h { s with drawn:=d,heap:=h2 } h1.objs.size [h1.objs.size,S,s.heap.objs.size] (ds.map fun d=>(es.toList.map (·.2)).getD d .none)
   (fun i s'=>gw s'.heap h1.objs.size (.ref s.heap.objs.size) i S es.size ep/\iK s'.heap S es ep t/\TupAt s'.heap s.heap.objs.size ds)
   (fun c o e=>hk2 c o (hk1 c o e)) rfl rfl rfl ?_ (arith hz2) (by rw[hz1];exact le_succ _) (by show h1.objs.size<h2.objs.size;rw[hz2];exact CO _) (fun A' hh'=>?_) ⟨hI,hS1.get (hk2 S),hk2 _ _ hT1⟩ ?_
  ·have e:(BO es.size).map (fun d=>(es.toList.map (·.2)).getD d .none)=es.toList.map (·.2):=by
    refine ext_getElem (by simp) fun i h1 h2=>?_;simp at h1 h2;simp [h2]
   exact(hp.map fun d=>(es.toList.map fun(x:Int×Ap)=>x.2).getD d Ap.none).trans (FS.of_eq e)
  ·have hlen:(ds.map fun d=>(es.toList.map (·.2)).getD d .none).length=ds.length:=AE _;exact {
    sub:=fun b hb=>by simp at hb;simp [hb]
    grefl:=fun _=>rfl
    gtrans:=fun a b c e f=>f.trans e
    frame:=fun i s1 h' tk st _ hk=>⟨st.1.get fun o e=>hk _ (by simp) o e,st.2.1.get fun o e=>hk _ (by simp) o e,hk _ (by simp) _ st.2.2⟩
    item:=fun i s1 Q1 E1 hi st hQ1=>by
     rw[hlen] at hi;obtain⟨x,e1,e2⟩:=hmem i ds[i] (AF hi);refine J0 st.1 st.2.1 st.2.2 hf (AF hi) e1 n1 fun h' i' b'=>?_;exact hQ1 x { s1 with heap:=h' } e2 ⟨i',st.2.1.get fun o e=>b'.extBut _ o n1 e,b'.extBut _ _ n2 st.2.2⟩ ⟨fun b o hb e=>b'.extBut b o (fun z=>hb (by simp [z])) e,rfl,rfl,rfl,AZ _⟩
    done:=fun s1 Q1 E1 st hQ1=>by
     refine O9 hh' st.1 st.2.1 st.2.2 hf (by rw[hlen];simp) fun h' k'=>?_;exact hQ1 { s1 with heap:=h' } ⟨fun b o hb e=>k' b o (fun z=>hb (by simp [z])) e,rfl,rfl,rfl,AZ _⟩
    self:=fun i s1 Q1 E1 st hQ1=>Kz st.1 hQ1 }
  intro b hb;show b<h2.objs.size/\_;have l0:=C0 lt;simp only[A5,A9,or_false] at hb;rw[hz2,hz1];rcases hb with rfl|rfl|rfl
  ·rw[hz1];exact⟨CO _,.inr (le_succ _)⟩
  ·exact⟨C0 l0,.inl rfl⟩
  exact⟨C0 (CO _),.inr (AZ _)⟩
 rw[if_neg hc];obtain⟨vs,sl,sl0,hp,hn⟩:=XH (prog:=prog) (w:=w) (S:=S) (ep:=ep) hf ht (by
  cases hb:bt w with
  | true=>exact .inl rfl
  | false=>rw[hb] at hc;exact .inr (by simpa using hc))
 refine An (Au (An (GZ hS hf (An (BF ?_)))));have hI:gw (s.heap.push { cls:=.type "set_iterator",data:=.fields #[.int (0:Nat) 0,.int (0:Nat) 0,.ref S,.int (es.size:Nat) 0,.int (ep:Nat) 0] }) s.heap.objs.size (.int (sl 0) 0) 0 S es.size ep:=by rw[sl0];exact AQ _ rfl
 refine Au ⟨_,rfl, "set_iterator",_,⟨_,hI,rfl⟩,dU.lookup,?_⟩;have hz2:(s.heap.push { cls:=.type "set_iterator",data:=.fields #[.int (0:Nat) 0,.int (0:Nat) 0,.ref S,.int (es.size:Nat) 0,.int (ep:Nat) 0] }).objs.size=s.heap.objs.size+1:=B9 ..;have hk2:∀c o,s.heap.get? c=some o->(s.heap.push { cls:=.type "set_iterator",data:=.fields #[.int (0:Nat) 0,.int (0:Nat) 0,.ref S,.int (es.size:Nat) 0,.int (ep:Nat) 0] }).get? c=some o:=fun c o e=>AA _ e;show Q (.ref s.heap.objs.size) { s with heap:=s.heap.push { cls:=.type "set_iterator",data:=.fields #[.int (0:Nat) 0,.int (0:Nat) 0,.ref S,.int (es.size:Nat) 0,.int (ep:Nat) 0] } };generalize s.heap.push { cls:=.type "set_iterator",data:=.fields #[.int (0:Nat) 0,.int (0:Nat) 0,.ref S,.int (es.size:Nat) 0,.int (ep:Nat) 0] }=h2 at hI hz2 hk2 |-;have n1:S≠s.heap.objs.size:=B2 lt;refine h { s with heap:=h2 } s.heap.objs.size [s.heap.objs.size,S] vs (fun i s'=>gw s'.heap s.heap.objs.size (.int (sl i) 0) i S es.size ep/\iK s'.heap S es ep t)
  (fun c o e=>hk2 c o e) rfl rfl rfl hp (arith hz2) (AZ _) (by show s.heap.objs.size<h2.objs.size;rw[hz2];exact CO _) (fun A' hh'=>?_) ⟨hI,hS.get (hk2 S)⟩ ?_
 ·exact {
   sub:=fun b hb=>by simp at hb;simp [hb]
   grefl:=fun _=>rfl
   gtrans:=fun a b c e f=>f.trans e
   frame:=fun i s1 h' tk st _ hk=>⟨st.1.get fun o e=>hk _ (by simp) o e,st.2.get fun o e=>hk _ (by simp) o e⟩
   item:=fun i s1 Q1 E1 hi st hQ1=>by
    have hv:vs[i]?=some vs[i]:=AF hi;refine next_item (n:=0) st.1 st.2 hf (v:=vs[i]) (sl:=sl (i+1)) (fun s2 A2 E2 Q2 st2 hQ2=>hn i s2 A2 E2 Q2 (JY hi) st2 (by rw[hv];exact hQ2)) n1 fun h' i' b'=>?_;exact hQ1 vs[i] { s1 with heap:=h' } hv ⟨i',st.2.get fun o e=>b'.extBut _ o n1 e⟩ ⟨fun b o hb e=>b'.extBut b o (fun z=>hb (by simp [z])) e,rfl,rfl,rfl,AZ _⟩
   done:=fun s1 Q1 E1 st hQ1=>by
    have hv:vs[vs.length]?=none:=by simp
    refine next_end hh' st.1 st.2 hf (fun s2 A2 E2 Q2 st2 hQ2=>hn vs.length s2 A2 E2 Q2 (AZ _) st2 (by rw[hv];exact hQ2)) fun h' k'=>?_;exact hQ1 { s1 with heap:=h' } ⟨fun b o hb e=>k' b o (fun z=>hb (by simp [z])) e,rfl,rfl,rfl,AZ _⟩
   self:=fun i s1 Q1 E1 st hQ1=>Kz st.1 hQ1 }
 intro b hb;show b<h2.objs.size/\_;rw[hz2];simp only[A5,A9,or_false] at hb;rcases hb with rfl|rfl
 ·exact⟨CO _,.inr (AZ _)⟩
 exact⟨C0 lt,.inl rfl⟩
end
end SRT
namespace SRT
open PySem PyProof.Rows
noncomputable def gallopF:Bool->E9->Array E9->Nat->Nat->Nat->StateT GM Sem (Option Nat):=sortPriv% PySem.Builtin.gallop
noncomputable def mergeLoF:Array E9->Array E9->StateT GM Sem (Array E9):=sortPriv% PySem.Builtin.mergeLo
noncomputable def mergeHiF:Array E9->Array E9->StateT GM Sem (Array E9):=sortPriv% PySem.Builtin.mergeHi
noncomputable def IK (p:E9):Prop:=∃n t,p.1=.int n t
noncomputable def BP (xs:Array E9):Prop:=∀(i:Nat) p,xs[i]?=some p->IK p
end SRT
namespace SRT
open PySem PyProof.Rows
noncomputable abbrev withG (st:GM)(g:Nat):GM:=GM.mk' (kindOf st) (arrOf st) (ER st) g (failedOf st)
section
variable {prog:AR}{w:Bi}{s:AB}{A:Bz}{E:Ap->AB->Prop}
noncomputable def Zu (a b out:Array E9)(i j:Nat):List E9:=out.toList++(a.toList.drop i++b.toList.drop j)
noncomputable def LoI (a b out:Array E9)(i j:Nat):Prop:=(Zu a b out i j).Perm (a.toList++b.toList)/\i+1<a.size/\j<b.size
noncomputable def RetI (a b:Array E9)(c:Option (Array E9)):Prop:=∃r,c=some r/\r.toList.Perm (a.toList++b.toList)
end
end SRT
namespace SRT
open PySem PyProof.Rows
section
variable {prog:AR}{w:Bi}{s:AB}{A:Bz}{E:Ap->AB->Prop}
noncomputable def Zv (a b out:Array E9)(i j:Nat):List E9:=(a.toList.take i++b.toList.take j)++out.toList
noncomputable def HiI (a b out:Array E9)(i j:Nat):Prop:=(Zv a b out i j).Perm (a.toList++b.toList)/\0<i/\1<j/\i<=a.size/\j<=b.size
end
end SRT
namespace SRT
open PySem PyProof.Rows
noncomputable def Chain:List (Nat×Nat×Nat)->Nat->Nat->Prop
 | [],a,b=>a=b
 | (p,n,_)::t,a,b=>p=a/\1<=n/\Chain t (a+n) b
theorem Chain.le:∀{l:List (Nat×Nat×Nat)}{a b:Nat},Chain l a b->a<=b
 | [],_,_,h=>le_of_eq h
 | (_,n,_)::_,a,_,⟨_,_,h⟩=>BG (Nat.le_add_right a n) h.le
theorem Chain.two:∀{pre post:List (Nat×Nat×Nat)}{sa na w sb nb v a b:Nat},Chain (pre++(sa,na,w)::(sb,nb,v)::post) a b ->
  sb=sa+na/\1<=na/\1<=nb/\sb+nb<=b/\Chain (pre++(sa,na+nb,w)::post) a b
 | [],post,sa,na,w,sb,nb,v,a,b,⟨h1,h2,h3,h4,h5⟩=>by
  have:=h5.le;refine⟨ω,h2,h4,ω,h1,ω,?_⟩;rw[<- Nat.add_assoc];exact h5
 | (_,_,_)::pre,post,sa,na,w,sb,nb,v,a,b,⟨h1,h2,h3⟩=>by
  obtain⟨k1,k2,k3,k4,k5⟩:=Chain.two h3;exact⟨k1,k2,k3,k4,h1,h2,k5⟩
theorem Chain.snoc:∀{l:List (Nat×Nat×Nat)}{a b n w:Nat},Chain l a b->1<=n->Chain (l++[(b,n,w)]) a (b+n)
 | [],a,b,n,w,h,h1=>by cases h;exact⟨rfl,h1,rfl⟩
 | (_,_,_)::t,a,b,n,w,⟨k1,k2,k3⟩,h1=>⟨k1,k2,k3.snoc h1⟩
theorem Chain.Rm:∀{l:List (Nat×Nat×Nat)}{a b p n w v:Nat},Chain (l++[(p,n,w)]) a b->Chain (l++[(p,n,v)]) a b
 | [],a,b,p,n,w,v,h=>h
 | (_,_,_)::t,a,b,p,n,w,v,⟨k1,k2,k3⟩=>⟨k1,k2,k3.Rm⟩
theorem BP.perm {a b:Array E9}(h:BP a)(hp:b.toList.Perm a.toList):BP b:=by
 intro i p hi;have h1:p∈b.toList:=by rw[<- C4] at hi;exact A7 hi
 obtain⟨j,hj⟩:=List.getElem?_of_mem (hp.mem_iff.mp h1);exact h j p (by rw[<- C4];exact hj)
theorem BP.ext {a:Array E9}(h:BP a)(x y:Nat):BP (a.extract x y):=by
 intro i p hi;rw[Array.getElem?_extract] at hi;split at hi
 ·exact h _ p hi
 cases hi
section
variable {prog:AR}{w:Bi}{s:AB}{A:Bz}{E:Ap->AB->Prop}{a₀:Array E9}
structure MB (a₀:Array E9)(st:GM):Prop where
 kind:kindOf st=oneType'
 perm:(arrOf st).toList.Perm a₀.toList
 fail:failedOf st=none
theorem MB.size {st:GM}(h:MB a₀ st):(arrOf st).size=a₀.size:=by simpa using h.perm.length_eq
end
end SRT
namespace SRT
open PySem PyProof.Rows
section
variable {prog:AR}{w:Bi}{s:AB}{A:Bz}{E:Ap->AB->Prop}{a₀:Array E9}{pd:Array (Nat×Nat×Nat)}
noncomputable def MP (a₀:Array E9)(pd:Array (Nat×Nat×Nat))(st:GM):Prop:=MB a₀ st/\ER st=pd
theorem MP.set {st:GM}{xs:Array E9}(h:MP a₀ pd st)(hp:xs.Perm (arrOf st)):MP a₀ pd (setArr st xs):=
 ⟨⟨h.1.kind,(Array.perm_iff_toList_perm.mp hp).trans h.1.perm,h.1.fail⟩,h.2⟩
end
end SRT
namespace SRT
open PySem PyProof.Rows
section
variable {prog:AR}{w:Bi}{s:AB}{A:Bz}{E:Ap->AB->Prop}{a₀:Array E9}{pd:Array (Nat×Nat×Nat)}
noncomputable def MC (a₀:Array E9)(hi:Nat)(st:GM):Prop:=MB a₀ st/\Chain (ER st).toList 0 hi
theorem VG:∀(l:List (Nat×Nat×Nat)),l≠[]->∃t p n v,l=t++[(p,n,v)]
 | l,h=>⟨l.dropLast,(l.getLast h).1,(l.getLast h).2.1,(l.getLast h).2.2,(List.dropLast_concat_getLast h).symm⟩
theorem vD {α:Type}(f:α->α)(x:α):∀t:List α,(t++[x]).modify t.length f=t++[f x]
 | []=>rfl
 | y::t=>congrArg (y :: ·) (vD f x t)
theorem MC.Rm {st:GM}{hi pw:Nat}(h:MC a₀ hi st):MC a₀ hi (setPending st ((ER st).modify ((ER st).size-1) fun(x,len,_)=>(x,len,pw))):=by
 refine⟨⟨h.1.kind,h.1.perm,h.1.fail⟩,?_⟩;show Chain ((ER st).modify ((ER st).size-1) fun(x,len,_)=>(x,len,pw)).toList 0 hi;have hc:=h.2;by_cases he:(ER st).toList=[]
 ·have:ER st=#[]:=by simpa using he
  rw[this] at hc |-;simpa using hc
 obtain⟨t,p,n,v,e⟩:=VG _ he;have e2:ER st=(t++[(p,n,v)]).toArray:=by rw[<- e]
 rw[e] at hc;rw[e2];have:((t++[(p,n,v)]).toArray.modify ((t++[(p,n,v)]).toArray.size-1) fun(x,len,_)=>(x,len,pw)).toList=t++[(p,n,pw)]:=by
  simp [vD]
 rw[this];exact hc.Rm
theorem MC.push {st:GM}{lo n:Nat}(h:MC a₀ lo st)(h1:1<=n):MC a₀ (lo+n) (setPending st ((ER st).push (lo,n,0))):=by
 refine⟨⟨h.1.kind,h.1.perm,h.1.fail⟩,?_⟩;show Chain ((ER st).push (lo,n,0)).toList 0 (lo+n);rw[toList_push];exact h.2.snoc h1
theorem MC.of {st st':GM}{lo:Nat}(h:MC a₀ lo st)(h':MP a₀ (ER st) st'):MC a₀ lo st':=⟨h'.1,by rw[h'.2];exact h.2⟩
end
end SRT
namespace SRT
open PySem PyProof.Rows
end SRT
namespace SRT
open PySem PyProof.Rows
theorem Ot {vs xs:List Ap}(hp:xs.Perm vs):∀{ns:List Int},FD vs ns->∃ns',FD xs ns'/\ns'.Perm ns:=by
 induction hp with
 | nil=>intro ns h;exact⟨ns,h,FS.refl _⟩
 | cons x _ ih=>
  intro ns h;cases h with
  | cons n t h=>
   obtain⟨ns',h1,h2⟩:=ih h;exact⟨n::ns',.cons n t h1,h2.cons n⟩
 | swap x y l=>
  intro ns h;cases h with
  | cons n t h=>
   cases h with
   | cons m u h=>exact⟨m::n::_,.cons m u (.cons n t h),FS.swap _ _ _⟩
 | trans _ _ ih1 ih2=>
  intro ns h;obtain⟨n1,a1,b1⟩:=ih2 h;obtain⟨n2,a2,b2⟩:=ih1 a1;exact⟨n2,a2,b2.trans b1⟩
theorem qJ {α:Type}[DecidableEq α]:∀{l ks:List α},l.Nodup->(∀x∈l,x∈ks)->ks.length=l.length->ks.Perm l
 | [],ks,_,_,h=>by rw[HV.mp h]
 | x::l,ks,hn,hs,hl=>by
  obtain⟨h1,h2⟩:=IU.mp hn;have hx:x∈ks:=hs x (A0 ..);refine(List.perm_cons_erase hx).trans (FS.cons _ (qJ h2 (fun y hy=>?_) ?_))
  ·have:y≠x:=fun e=>h1 (e ▸ hy);exact(List.mem_erase_of_ne this).mpr (hs y (B1 _ hy))
  rw[List.length_erase_of_mem hx,hl];rfl
theorem pP (val:Nat->Int):∀i,(FA val i).Nodup
 | 0=>List.nodup_nil
 | i+1=>by
  rw[firstMet_succ];unfold step_dedup;have ih:=pP val i;split
  ·exact ih
  rename_i h;rw[List.nodup_append];refine⟨ih,by simp,fun a ha b hb e=>?_⟩;simp only[AK] at hb;exact h (List.any_eq_true.mpr ⟨a,ha,by simp [e,hb]⟩)
noncomputable def ded (ns:List Int):List Int:=FA (fun i=>ns.getD i 0) ns.length
theorem u0 (ns:List Int):(ded ns).Nodup:=pP _ _
theorem wJ (ns:List Int):(ded ns).length<=ns.length:=firstMet_length_le _ _
theorem Ml {ns:List Int}{k:Int}:k∈ded ns↔k∈ns:=by
 have e:=firstMet_any (fun i=>ns.getD i 0) ns.length k;have hr:(BO ns.length).map (fun i=>ns.getD i 0)=ns:=by
  refine ext_getElem (by simp) fun i h1 h2=>?_;simp at h1 h2;simp [h2]
 rw[hr] at e;have a1:∀l:List Int,l.any (· == k)=true↔k∈l:=fun l=>by simp
 rw[<- a1,<- a1];unfold ded;rw[e]
section
variable {prog:AR}{w:Bi}{A:Bz}{E:Ap->AB->Prop}{s:AB}{S:Addr}{es:Array (Int×Ap)}{ep:Nat}{t:AV}
theorem yS:∀{l:List (Int×Ap)},ElemsOf (GN prog w) l->∃ks:List Int,FD (l.map (·.2)) ks/\∀k,k∈ks ↔ ∃e∈l,(GN prog w).is k e.2=true
 | [],_=>⟨[],.nil,fun k=>by simp⟩
 | (h,v)::l,he=>by
  obtain⟨⟨k,hk,_⟩,_⟩:=he.head;obtain⟨tk,e⟩:=Ap.isInt_shape hk;dsimp only at e hk;subst e;obtain⟨ks,h1,h2⟩:=yS he.tail;refine⟨k::ks,.cons k tk h1,fun j=>?_⟩;rw[A5,h2];constructor
  ·rintro(rfl|⟨e,a,b⟩)
   ·exact⟨_,A0 ..,hk⟩
   exact⟨e,B1 _ a,b⟩
  rintro⟨e,a,b⟩;rcases A5.mp a with rfl|a
  ·exact .inl ((GN prog w).inj _ _ _ b hk)
  exact .inr ⟨e,a,b⟩
theorem Ul {vs:List Ap}{acc:Array Ap}(h:ItemsOf (fun i v=>vs[i]?=some v) acc vs.length):acc.toList=vs:=by
 refine ext_getElem (by simpa using h.1) fun i h1 h2=>?_;have:vs[i]?=some acc[i]:=h.2 i acc[i] (by simp);rw[AF h2] at this;simpa using this.symm
theorem G9 {Q:List Ap->AB->Prop}(hh:A.handled=none)(hS:iK s.heap S es ep t)(hf:t.fits es.size=true)(ht:TOk (!bt w) t)(hz:es.size<=AL)
  (hQ:∀(s':AB)(vs:List Ap),vs.Perm (es.toList.map (·.2))->(∀c o,s.heap.get? c=some o->s'.heap.get? c=some o)->s'.gens=s.gens->s'.os=s.os->s.heap.objs.size<=s'.heap.objs.size->Q vs s') :
  AG (AW prog w) A (collect (.ref S)) Q E s:=by
 obtain⟨o,ho,hx,hd⟩:=id hS;have hty:s.TypeIs (.ref S) "set" := ⟨o,ho,hx.1⟩;have lt:S<s.heap.objs.size:=A4 ho;unfold collect;refine An (wpAny_runValue (DA F.entry_proto_collect ?_));rw[Bz.under_plainId F.plain_proto_collect _];show AG _ A.in1 (newList [] >>= fun l=>JJ (.builtin "list.__iadd__" ⟨[l,.ref S],[]⟩)) _ _ s;refine An (BF ?_);refine Au ⟨Ll F.plain_list_iadd _,DA F.entry_list_iadd ?_⟩;rw[Bz.under_plainId F.plain_list_iadd _];have hS1:iK (s.heap.push { cls:=.type "list",data:=.seq ([]:List Ap).toArray }) S es ep t:=hS.get fun o e=>AA _ e;have hL1:(s.heap.push { cls:=.type "list",data:=.seq ([]:List Ap).toArray }).get? s.heap.objs.size=some { cls:=.type "list",data:=.seq ([]:List Ap).toArray }:=AQ _ rfl;have hk1:∀c o,s.heap.get? c=some o->(s.heap.push { cls:=.type "list",data:=.seq ([]:List Ap).toArray }).get? c=some o:=fun c o e=>AA _ e;have hty1:AB.TypeIs { s with heap:=s.heap.push { cls:=.type "list",data:=.seq ([]:List Ap).toArray } } (.ref S) "set" := ⟨o,hk1 _ _ ho,hx.1⟩;generalize s.heap.push { cls:=.type "list",data:=.seq ([]:List Ap).toArray }=h1 at hS1 hL1 hk1 hty1 |-;have ne1:s.heap.objs.size≠S:=ne_of_gt lt;show AG _ A.in1 (AI.List.listExtendWith (.ref s.heap.objs.size) (.ref S) (.ref s.heap.objs.size)) _ _ _;unfold AI.List.listExtendWith;refine An (C6 hty1 ?_);have q1:AI.List.listSameRef (.ref s.heap.objs.size) (.ref S)=false:=by simp [AI.List.listSameRef,ne1]
 rw[if_neg (by rw[q1];decide)];refine An (Rf (s:={ s with heap:=h1 }) hh hS1 hf ht hz fun s2 I fp vs St hk2 hg2 ho2 ht2 hp hI hle hlt W st0 hfp=>?_);have hty2:s2.TypeIs (.ref S) "set" := ⟨o,hk2 _ _ (hk1 _ _ ho),hx.1⟩;refine An (BD ?_);unfold AI.List.listLengthHint;refine An (wpAny_specialOf hty2 F.slot_set_len.lookup ?_)
 (generalize hid:("set.__len__" : String)=id0;(fail_if_success (clear hid id0));wp_delta;rw[show splitId id0=some ("set","__len__") from by subst hid;decide +kernel];subst hid)
 refine An (DZ (b:=true) hty2 sub_set_self ?_);refine AY rfl (Ch ψ (An (C6 hty2 (Au ?_))));rw[if_pos δ];have hSf:s.heap.objs.size∉fp:=fun z=>by
  have l1:s.heap.objs.size<h1.objs.size:=A4 hL1;rcases(hfp _ z).2 with e|e
  ·exact ne1 e
  exact DD _ (Be l1 e)
 have hL2:=hk2 _ _ hL1;refine An (DS (An ?_));show AG _ A.in1 (IL s.heap.objs.size (·.push .none) >>= fun _=>IL s.heap.objs.size (·.pop)) _ _ _;refine An (wpAny_updateSeq hL2 rfl ?_);have hL3:=GH (DU (·.push Ap.none)) hL2 rfl;refine wpAny_updateSeq hL3 rfl ?_;have hL4:=GH (DU (·.pop)) hL3 rfl;have oth:∀b o,b≠s.heap.objs.size->s2.heap.get? b=some o->((s2.heap.update s.heap.objs.size (DU (·.push Ap.none))).update s.heap.objs.size (DU (·.pop))).get? b=some o:=
  fun b o hb e=>(DH _ _ (BA hb)).trans ((DH _ _ (BA hb)).trans e)
 have W1:=W A.in1 (by simpa using hh);refine Au ⟨Ll F.plain_extend_loop _,codeAny_extend_loopS W1 (by rw[hp.length_eq,AE,EA];exact hz) _ hSf _ vs.length 0 _ _ _ rfl (EN _)
  (W1.frame 0 s2 _ s2.toks st0 (AZ _) fun b hb o e=>oth b o (fun z=>hSf (z ▸ hb)) e) hL4 (ItemsOf.nil _) fun s' acc' c' hm hS' hacc=>?_⟩
 show AG _ A (load s.heap.objs.size >>= _) _ _ s';refine An (wpAny_load hS' (Au ?_));rw[Ul hacc];have l2:s.heap.objs.size<s'.heap.objs.size:=A4 hS';refine hQ s' vs hp (fun c o e=>?_) (hm.gens.trans hg2) (hm.os.trans ho2) (JY l2);have lc:c<s.heap.objs.size:=A4 e;have nI:c≠I:=fun z=>by
  have l3:s.heap.objs.size<h1.objs.size:=A4 hL1;have l4:h1.objs.size<=I:=hle;rw[z] at lc;exact DD _ (Be (lt_trans lc l3) l4)
 exact hm.heap c o (by simp only[A5,A9,or_false,not_or];exact⟨B2 lc,nI⟩) (oth c o (B2 lc) (hk2 _ _ (hk1 _ _ e)))
theorem Ra {l:List Int}{Q:Ap->AB->Prop}(hh:A.handled=none)(hS:SetT (GN prog w) (!bt w) s.heap S (fun k'=>l.any (· == k')) l.length)(hnd:l.Nodup)(h64:l.length<64)
  (h:∀(s':AB)(L:Addr)(xs:List Ap)(ns':List Int)(k:Nat),s'.heap.get? L=some (seqObj "list" xs.toArray k)->FD xs ns'->ns'.Perm l->(l.length<64->ns'.Pairwise (·<=·)) ->
   (∀c o,s.heap.get? c=some o->s'.heap.get? c=some o)->s'.gens=s.gens->s'.os=s.os->s.heap.objs.size<=L->Q (.ref L) s'):AG (AW prog w) A (call (.builtin "sorted") [.ref S]) Q E s:=by
 obtain⟨o,es,ep,t,ho,hex,hd,⟨hel,hmem,hb⟩,hf,hn,ht⟩:=hS;have hz:es.size<=AL:=fits_of_scanBound hb;obtain⟨ks,hks,hkm⟩:=yS hel;have hkp:ks.Perm l:=qJ hnd (fun x hx=>(hkm x).mpr ((hmem x).mp (by simpa using hx))) (by rw[<- hn,<- EA,<- FD.length hks,AE]);refine Calls.call_function_entry kind_sorted plain_sorted entry_sorted (args_sorted1 (.ref S)) ?_;unfold AI.«sorted»;refine An (m:=checkCount "sorted" 1 1 _) (Au (An (G9 (by simpa using hh) ⟨o,ho,hex,hd⟩ hf ht hz fun s1 vs hp hk1 hg1 ho1 hl1=>An (wpAny_newList ?_ ?_))))
 ·obtain⟨ms,hms,hmp⟩:=Ot hp hks;have hvl:vs.length=l.length:=by rw[FD.length hms,hmp.length_eq,hkp.length_eq]
  have hL:(s1.heap.push (seqObj "list" vs.toArray 0)).get? s1.heap.objs.size=some (seqObj "list" vs.toArray 0):=AQ _ rfl;show AG (AW prog w) A.in1 _ _ E { s1 with heap:=s1.heap.push (seqObj "list" vs.toArray 0) };refine An (BD (Cc slot_list_sort ⟨_,hL,rfl⟩ entry_list_sort (list_sort_tree hL hms ?_ fun xs ns' a1 a2 a3=>⟨_,rfl,Au ⟨_,rfl,?_⟩⟩) (args_list_sort _)))
  ·rw[hvl];exact h64
  obtain⟨e,he⟩:=sortedHeap_at (out:=xs) hL;refine h _ _ xs.toList ns' e (by simpa using he) a1 (a2.trans (hmp.trans hkp)) (fun _=>a3) (fun c o x=>?_) hg1 ho1 hl1;have lc:c<s1.heap.objs.size:=A4 (hk1 c o x);show(sortedHeap _ _ _ _).get? c=some o;rw[sortedHeap_old (B2 lc) (by rw[size_push'];exact C0 lc)];exact AA _ (hk1 c o x)
 rw[hp.length_eq,AE,EA];exact hz
end
end SRT
set_option maxHeartbeats 4000000
namespace L2
open PySem PySem.Spec PyProof.Rows
theorem wQ:∀{xs:List Int}{us:List Ap},Vals (xs.map V.int) us->FD us xs
 | [],_,h=>by cases h;exact .nil
 | x::xs,_,h=>by
  cases h with
  | cons r h=>
   obtain⟨t,rfl⟩:=r;exact .cons x t (wQ h)
theorem Bo:∀{us:List Ap}{xs:List Int},FD us xs->Vals (xs.map V.int) us
 | _,_,.nil=>.nil
 | _,_,.cons n t h=>.cons ⟨t,rfl⟩ (Bo h)
noncomputable def tSS (K:AD)(ta:TA):TE:=fun σ H Q=>ta σ H fun vs H1=>∃(l:Addr)(xs:List Int),vs=[.ref l]/\SqL K H1 l (xs.map V.int)/\xs.length<64 /\
 ∀(p:Addr)(ys:List Int),H1 p=none->ys.Perm (SRT.ded xs)->((SRT.ded xs).length<64->ys.Pairwise (·<=·))->Q (.ref p) (upd H1 p (.lst (ys.map V.int)))
section
variable {X:Cx}{pins:List (Addr×Obj)}{s:AB}{σ:St}{H:Hp}
theorem Inv.drawn (I:Inv X pins σ H s)(d:Drawn):Inv X pins σ H { s with drawn:=d }:=
 I.step (g':=s.gens) (d':=d) (t':=s.toks) (h':=s.heap) (ch:=[]) (fun _ z=>nomatch z) (fun b o _ _ _ e _=>e) (fun b o _ _ _ e _=>⟨o.slots,e⟩) (fun _ _ _ _ n=>n) (fun b o _ e=>⟨o,e⟩) (fun _ _ e=>e) (fun _ _ _ e=>e) (fun b ps e=>⟨#[],by rw[e];simp⟩) (fun _ h=>h) I.hok I.bare
theorem W6 {a:Expr}{ta:TA}{p p2 pos pos2:Pos}(hc:X.calm=true) (hgl:Gl X "sorted") (hml:X.mg "sorted" = none) (hg:Gl X "set") (hm:X.mg "set" = none) (ha:PA X [a] ta)
  (hs:AJ [a] X.env=[(false,eval a X.env)]:=by rfl)
  (he:AJ [.Call (.Name "set" p2) [a] [] pos2] X.env=[(false,eval (.Call (.Name "set" p2) [a] [] pos2) X.env)]:=by rfl) :
  PE X (.Call (.Name "sorted" p) [.Call (.Name "set" p2) [a] [] pos2] [] pos) (tSS X.K ta):=by
 intro pins s σ H Q I h;refine Fh (iG I hgl hml PyProof.Rows.boot_sorted ?_ δ δ);refine PyProof.Rows.callWith_builtin1 ?_ he rfl;rw[he];show AG _ _ (spliced ((false,eval (.Call (.Name "set" p2) [a] [] pos2) X.env)::[])) _ _ s;refine CL ?_;refine Call_ (iG I hg hm PyProof.Rows.boot_set (BI (thA (ha pos2 pins s σ H _ I h) fun us s1 vs H1 I1 r1 q1=>?_) hs rfl));obtain⟨l,xs,rfl,sq,hn,q⟩:=q1;cases r1 with
 | cons r rr=>
  cases rr;cases r;obtain⟨its,rv,pl,hz⟩:=I1.list sq;have hI:=wQ rv;have hlen:its.length=xs.length:=FD.length hI;refine SRT.Pk (I1.ok.hd hc) pl.isList (by simpa using hI) (by simp [hlen,F4];omega) fun h2 t2 hS hk=>CC ?_;have eq:FA (fun i=>xs.getD i 0) its.toArray.size=SRT.ded xs:=by unfold SRT.ded;rw[AX,hlen]
  rw[eq] at hS;have hk2:∀c o,s1.heap.get? c=some o->h2.get? c=some o:=fun c o e=>hk c o (A4 e) e;refine SRT.Ra (s:={ s1 with heap:=h2,toks:=t2 }) (I1.ok.hd hc) hS (SRT.u0 xs) (KB (SRT.wJ xs) hn) fun s3 L ys ns k gL iL pL oL k3 g3 o3 l3=>?_;have le:s1.heap.objs.size<=L:=by
   obtain⟨o,_,_,_,e,_⟩:=hS;exact BG (JY (A4 e)) l3
  have hf:H1 L=none:=I1.hok.fresh le;obtain⟨h3,g3',d3,t3,o3'⟩:=s3;cases g3;cases o3;have hl:ns.length<=AL:=by
   rw[pL.length_eq];exact BG (SRT.wJ xs) (BG (JY hn) δ)
  refine⟨.ref L,_,((I1.drawn d3).laid (t':=t3) (h':=h3) (fun c o e=>k3 c o (hk2 c o e)) le (show cZ X.prog X.w _ h3 _ (.lst (ns.map V.int)) from⟨by simpa using hl,ys,k,Bo iL,gL⟩)),rfl,q L ns hf pL oL⟩
theorem KN {a:Expr}{ta:TA}{p p2 pos pos2:Pos}(hc:X.calm=true) (hgl:Gl X "sorted") (hml:X.mg "sorted" = none) (hg:Gl X "set") (hm:X.mg "set" = none) (ha:QA X [a] ta)
  (hs:AJ [a] X.env=[(false,eval a X.env)]:=by rfl)
  (he:AJ [.Call (.Name "set" p2) [a] [] pos2] X.env=[(false,eval (.Call (.Name "set" p2) [a] [] pos2) X.env)]:=by rfl) :
  QE X (.Call (.Name "sorted" p) [.Call (.Name "set" p2) [a] [] pos2] [] pos) (tSS X.K ta):=⟨W6 hc hgl hml hg hm ha.h hs he⟩
end
noncomputable def aY:List Nat->Nat
 | []=>0
 | k::l=>2^k+aY l
noncomputable def bC (n s:Nat):List Nat:=(BO n).filter fun k=>s.testBit k
theorem Fd:∀(l m:List Nat),aY (l++m)=aY l+aY m
 | [],m=>(Nat.zero_add _).symm
 | k::l,m=>by
  show 2^k+aY (l++m)=2^k+aY l+aY m;rw[Fd l m];omega
theorem snoc_ind {P:List Nat->Prop}(h0:P [])(h1:∀l m,P l->P (l++[m])):∀l,P l:=by
 intro l;have:∀(n:Nat)(l:List Nat),l.length=n->P l:=by
  intro n
  induction n with
  | zero=>intro l h;rw[Fa h];exact h0
  | succ n ih=>
   intro l h;obtain⟨a,b,rfl⟩:=jQ l ω;refine h1 a b (ih a ?_);rw[AH,A8] at h;omega
 exact this l.length l rfl
theorem lY:∀l:List Nat,l.Pairwise (· < ·)->∀n,(∀k∈l,k<n)->aY l<2^n/\∀j,(aY l).testBit j=decide (j∈l):=by
 refine snoc_ind ?_ ?_
 ·intro _ n _;exact⟨ES n,fun j=>by show Nat.testBit 0 j=_;rw[Nat.zero_testBit];simp⟩
 intro l m ih hp n hl;obtain⟨p1,_,p3⟩:=List.pairwise_append.mp hp;have hm:∀k∈l,k<m:=fun k hk=>p3 k hk m (AK.mpr rfl);obtain⟨i1,i2⟩:=ih p1 m hm;have hmn:=hl m (by simp);have e:aY (l++[m])=2^m+aY l:=by
  rw[Fd];show aY l+(2^m+0)=_;omega
 have hlt:2^m+aY l<2^(m+1):=by rw[Nat.pow_succ];omega
 rw[e];refine⟨Be hlt (EF δ hmn),fun j=>?_⟩;rcases Nat.lt_trichotomy j m with c|c|c
 ·rw[Nat.testBit_two_pow_add_gt c,i2 j];have:j≠m:=by omega
  simp [this]
 ·subst c;rw[Nat.testBit_two_pow_add_eq,i2 j];have:j∉l:=fun z=>DD _ (hm j z);simp [this]
 rw[IZ (Be hlt (EF δ c))];have h1:j≠m:=ω;have h2:j∉l:=fun z=>by have:=hm j z;omega
 simp [h1,h2]
theorem rZ:∀{a b:List Nat},a.Pairwise (· < ·)->b.Pairwise (· < ·)->(∀x,x∈a↔x∈b)->a=b
 | [],[],_,_,_=>rfl
 | [],y::b,_,_,h=>absurd ((h y).mpr A0) A9
 | x::a,[],_,_,h=>absurd ((h x).mp A0) A9
 | x::a,y::b,ha,hb,h=>by
  obtain⟨a1,a2⟩:=D2.mp ha;obtain⟨b1,b2⟩:=D2.mp hb;have e:x=y:=by
   rcases A5.mp ((h x).mp A0) with z|z
   ·exact z
   rcases A5.mp ((h y).mpr A0) with w|w
   ·exact w.symm
   have:=b1 x z;have:=a1 y w;omega
  subst e;congr 1;refine rZ a2 b2 fun z=>?_;constructor
  ·intro m;rcases A5.mp ((h z).mp (B1 _ m)) with w|w
   ·have:=a1 z m;omega
   exact w
  intro m;rcases A5.mp ((h z).mpr (B1 _ m)) with w|w
  ·have:=b1 z m;omega
  exact w
theorem kY (n s:Nat):(bC n s).Pairwise (· < ·):=IC.filter _
theorem gj {n s k:Nat}:k∈bC n s↔k<n/\s.testBit k=true:=by
 unfold bC;rw[DB,mem_range]
theorem Hs {l:List Nat}(hp:l.Pairwise (· < ·)){n:Nat}(hl:∀k∈l,k<n):bC n (aY l)=l:=by
 refine rZ (kY _ _) hp fun x=>?_;rw[gj,(lY l hp n hl).2 x,decide_eq_true_eq];exact⟨fun z=>z.2,fun z=>⟨hl x z,z⟩⟩
theorem jW {n s:Nat}(h:s<2^n):aY (bC n s)=s:=by
 have hb:=(lY (bC n s) (kY n s) n fun k hk=>(gj.mp hk).1).2;refine Nat.eq_of_testBit_eq fun j=>?_;rw[hb j];by_cases c:j<n
 ·cases e:s.testBit j with
  | true=>exact decide_eq_true (gj.mpr ⟨c,e⟩)
  | false=>exact decide_eq_false fun z=>by rw[(gj.mp z).2] at e;cases e
 rw[IZ (Be h (EF δ ω))];exact decide_eq_false fun z=>c (gj.mp z).1
theorem jX (p:Nat->Bool):∀l:List Nat,aY (l.filter p)+aY (l.filter fun k=>!p k)=aY l
 | []=>rfl
 | k::l=>by
  have ih:=jX p l;cases h:p k with
  | true=>
   rw[EJ (by rw[h]),EK (by rw[h];decide)];show 2^k+_+_=2^k+aY l;omega
  | false=>
   rw[EK (by rw[h];decide),EJ (by rw[h];rfl)];show _+(2^k+_)=2^k+aY l;omega
theorem Fb {l:List Nat}(hp:l.Pairwise (· < ·)){k:Nat}(hk:k∈l):aY (l.filter (·≠k))+2^k=aY l:=by
 have e:(l.filter fun j=>!(decide (j≠k)))=[k]:=by
  refine rZ (hp.filter _) (List.pairwise_singleton _ _) fun x=>?_;rw[DB,AK];constructor
  ·intro z;have:=z.2;simpa using this
  intro z;subst z;exact⟨hk,by simp⟩
 have h:=jX (fun j=>decide (j≠k)) l;rw[e] at h;exact h
theorem oW:∀{l:List Nat},l≠[]->0<aY l
 | [],h=>absurd rfl h
 | k::l,_=>by
  have:=ES k;show 0<2^k+aY l;omega
theorem Ri {l:List Nat}(hp:l.Pairwise (· < ·))(k:Nat):aY l &&& (2^k-1)=aY (l.filter (· < k)):=by
 have bound:∀x∈l,x<aY l+1:=fun x hx=>by
  have h1:=Fb hp hx;have:=@Nat.lt_two_pow_self x;omega
 have b1:=(lY l hp _ bound).2;have b2:=(lY (l.filter (· < k)) (hp.filter _) _ fun x hx=>bound x (DB.mp hx).1).2;refine Nat.eq_of_testBit_eq fun j=>?_;rw[Nat.testBit_and,Nat.testBit_two_pow_sub_one,b1 j,b2 j];by_cases c1:j∈l <;> by_cases c2:j<k <;> simp [c1,c2]
theorem xg:∀l:List Nat,(l.map fun k=>((2^k:Nat):Int)).sum=(aY l:Nat)
 | []=>rfl
 | k::l=>by
  rw[CF,FG,xg l];show _=((2^k+aY l:Nat):Int);omega
theorem Vh {x n:Nat}(h:x<2^n):x<2^AI.Int.intBits (x:Int)/\AI.Int.intBits (x:Int)<=n:=by
 unfold AI.Int.intBits;by_cases c:x=0
 ·subst c;exact⟨δ,by simp⟩
 rw[if_neg (by simp;omega),Int.natAbs_natCast];exact⟨Nat.lt_log2_self,(Nat.log2_lt c).mpr h⟩
theorem J9 {n m s:Nat}(h1:s<2^n)(h2:s<2^m):bC n s=bC m s:=by
 refine rZ (kY _ _) (kY _ _) fun k=>?_;rw[gj,gj];have no:∀{a},s<2^a->s.testBit k=true->k<a:=fun {a} h z=>by
  rcases FX k a with c|c
  ·exact c
  rw[IZ (Be h (EF δ c))] at z;cases z
 exact⟨fun z=>⟨no h2 z.2,z.2⟩,fun z=>⟨no h1 z.2,z.2⟩⟩
theorem nO (n s:Nat):bC (n+1) s=bC n s++(if s.testBit n=true then [n] else []):=by
 unfold bC;rw[List.range_succ,List.filter_append];congr 1;by_cases c:s.testBit n=true
 ·rw[if_pos c,EJ (by simpa using c)];rfl
 rw[if_neg c,EK (by simpa using c)];rfl
noncomputable def blK (x:V)(H:Hp)(Q:VK):Prop:=match x with
 | .int i=>Q (.int (AI.Int.intBits i:Nat)) H
 | _=>False
noncomputable def QK (to:TE):TE:=fun σ H Q=>to σ H fun x H1=>blK x H1 Q
theorem QJ (to:TE)(σ:St)(H:Hp)(Q:VK):QK to σ H Q=to σ H fun x H1=>blK x H1 Q:=rfl
theorem YB (i:Int)(H:Hp)(Q:VK):blK (.int i) H Q=Q (.int (AI.Int.intBits i:Nat)) H:=rfl
section
variable {X:Cx}{o:Expr}{to:TE}
theorem Xl {apos cpos:Pos}(ho:PE X o to) (hbase:C1 o "bit_length" X.env (eval o X.env)=eval o X.env:=by rfl) (hline:(apos.endLine == cpos.line)=true:=by rfl) :
  PE X (.Call (.Attribute o "bit_length" apos) [] [] cpos) (QK to):=by
 intro pins s σ H Q I h;refine wpAny_Call_method0_late hbase hline (thE (ho pins s σ H _ I h) fun v s1 x H1 I1 r1 q=>?_);cases x with
 | int i=>
  replace q:Q (.int (AI.Int.intBits i:Nat)) H1:=q;obtain⟨t,rfl⟩:=r1;have c:AG (AW X.prog X.w) X.A (call (.builtin "int.bit_length") [.int i t]) (EP X pins σ Q) X.xe s1:=
   call_givesAt (P:=fun _=>True) F.slot_int_bit_length (typeIs_int s1 i t) F.entry_int_bit_length (F.args_int_bit_length_1 _) (PySem.AutoIntG2.int_bit_length_int_0 i t).at trivial
    (show EP X pins σ Q _ _ from⟨.int _,H1,I1.tok _,⟨_,rfl⟩,q⟩)
  exact⟨"int","int.bit_length",F.plainAttrs_int,F.slot_int_bit_length,F.type_int_bit_length,typeIs_int s1 i t,(fun a (e:Ap.int i t=.ref a)=>nomatch e),CS rfl (PySem.evalArgs_none c)⟩
 | _=>exact q.elim
theorem Wo {apos cpos:Pos}(ho:QE X o to) (hbase:C1 o "bit_length" X.env (eval o X.env)=eval o X.env:=by rfl) (hline:(apos.endLine == cpos.line)=true:=by rfl) :
  QE X (.Call (.Attribute o "bit_length" apos) [] [] cpos) (QK to):=⟨Xl ho.h hbase hline⟩
end
inductive Wy where
 | pick (l:Int)
 | tab
 | msk (l:Int)
 | one (k:Nat)
 | wit (k:Nat)
 | low (k:Nat)
noncomputable def hdL:Wy->List A1
 | .pick l=>[.str "pick",.int l]
 | .tab=>[.str "table"]
 | .msk l=>[.str "mask",.int l]
 | .one k=>[.str "is",.int (k:Int)]
 | .wit k=>[.str "within",.int (k:Int)]
 | .low k=>[.str "below",.int (k:Int)]
noncomputable def fB (ss:Sts)(left:List Nat):Wy->List (List Nat)
 | .pick _=>[]
 | .tab=>[]
 | .msk l=>[left.filter fun k=>(bV ss k).2.2≠l]
 | .one k=>[left.filter (·≠k)]
 | .wit k=>[left.filter (·≠k)]
 | .low k=>[left.filter (· < k),left.filter (k<=·)]
noncomputable def ptD (p:List Nat):A1:=.int ((aY p:Nat):Int)
noncomputable def wyD (ss:Sts)(left:List Nat)(w:Wy):A1:=.tuple [.tuple (hdL w),.list ((fB ss left w).map ptD)]
noncomputable def pF (ss:Sts)(k:Nat):List Wy:=if (bV ss k).1=(bV ss k).2.1 then [.one k,.wit k] else [.wit k]
noncomputable def MK (ss:Sts)(left:List Nat):List Wy:=left.flatMap (pF ss)++(left.drop 1).map Wy.low
theorem wz (ss:Sts):∀l:List Nat,(l.flatMap (pF ss)).length<=2*l.length
 | []=>EN _
 | k::l=>by
  have:=wz ss l;rw[HH,AH,Co];have:(pF ss k).length<=2:=by unfold pF;split <;> simp
  omega
theorem low_split {left:List Nat}(hp:left.Pairwise (· < ·))(k:Nat):aY left-aY (left.filter (· < k))=aY (left.filter (k<=·)):=by
 have h:=jX (fun j=>decide (j<k)) left;have e:(left.filter fun j=>!(decide (j<k)))=left.filter (k<=·):=List.filter_congr fun j _=>by
  by_cases c:j<k
  ·rw[decide_eq_true c,decide_eq_false (show ¬k<=j by omega)];rfl
  rw[decide_eq_false c,decide_eq_true (show k<=j by omega)];rfl
 rw[e] at h;omega
section
variable {ok:Addr->Prop}{σ:St}{H:Hp}{te:TE}{d:A1}{ds:List A1}{D:Ends}{i:Nat}
theorem gvV {v:V}(h:σ[i]?=some (some v))(t:aG ok H v d):Gv ok (tV i) σ H d:=fun H2 s Q q=>by
 unfold tV;rw[h];exact q _ _ (Same.refl _) (t.same s)
theorem rO {r:Addr}{xs:List V}(hσ:σ[i]?=some (some (.ref r)))(er:H r=some (.lst xs))(hx:xs.length<1000000)(hr:∀a,ok a->a≠r)(t:aH ok H xs ds)(h:Gv ok te σ H d)
  (q:∀v H',Same H H'->aH ok (upd H' r (.lst (xs++[v]))) (xs++[v]) (ds++[d])->D.nx σ (upd H' r (.lst (xs++[v])))):vq (wV (tV i) te) D σ H:=by
 unfold vq wV tV;rw[hσ];show YC _ _ _ _ _;rw[Hw];refine⟨by rw[er];trivial,h H (Same.refl _) _ fun v H' s tv=>?_⟩;rw[s _ _ er,MF];refine⟨Be hx δ,q v H' s ?_⟩;exact((t.same s).append (.cons tv .nil)).keep fun a o h e=>⟨h,by rw[aJ (hr a h)];exact e⟩
end
theorem U6 (left:List Nat):jz (nv left) (some 1) none=nv (left.drop 1):=by
 unfold jz;have e2:HT.sIx (nv left).length (nv left).length none=(nv left).length:=rfl;rw[e2];cases left with
 | nil=>rfl
 | cons a r=>
  have e1:HT.sIx (nv (a::r)).length 0 (some 1)=1:=by
   simp only[HT.sIx,dZ,Co];split
   ·omega
   omega
  rw[e1];show(((nv (a::r)).drop 1).take _)=nv r;rw[D8 (by rw[EU];exact AZ _)];rfl
theorem Y9 {ss:Sts}{left:List Nat}{i k:Nat}(h:left[i]?=some k):((left.take (i+1)).flatMap (pF ss))=(left.take i).flatMap (pF ss)++pF ss k:=by
 rw[take_snoc h,List.flatMap_append,HH,flatMap_nil,CB]
theorem EY {left:List Nat}(hp:left.Pairwise (· < ·)){k:Nat}(hk:k∈left):((aY left:Nat):Int)-1*2^((k:Int)).toNat=((aY (left.filter (·≠k)):Nat):Int):=by
 have h:=Fb hp hk;rw[Jn,B6,show((2:Int)^k)=((2^k:Nat):Int) by rw[FI];rfl];omega
theorem Ng {left:List Nat}(hp:left.Pairwise (· < ·))(k:Nat):AI.bitAnd ((aY left:Nat):Int) (1*2^((k:Int)).toNat-1)=((aY (left.filter (· < k)):Nat):Int):=by
 have p:=ES k;rw[Jn,B6,show((2:Int)^k-1)=((2^k-1:Nat):Int) by rw[Int.natCast_sub p,FI];rfl,Ka,Ri hp]
theorem w6 {left:List Nat}(hp:left.Pairwise (· < ·))(k:Nat):((aY left:Nat):Int)-((aY (left.filter (· < k)):Nat):Int)=((aY (left.filter (k<=·)):Nat):Int):=by
 have h:=jX (fun j=>decide (j<k)) left;have:=low_split hp k;omega
noncomputable def pY (ss:Sts)(left:List Nat)(L:List Int):Prop:=L.Nodup/\∀l,l∈L ↔ ∃k∈left,lbl ss k=l
noncomputable def wyP (L:List Int):List Wy:=if L.length=1 then [.pick (L.getD 0 0)] else []
noncomputable def wyT (ss:Sts)(left:List Nat):List Wy:=if cG ss left<=200 then [.tab] else []
noncomputable def wyM (ss:Sts)(left:List Nat)(L:List Int):List Wy:=if cG ss left<=64/\1<L.length then L.map Wy.msk else []
noncomputable def HJ (ss:Sts)(left:List Nat)(L:List Int):List Wy:=wyP L++wyT ss left++wyM ss left L
theorem aaJ {ok:Addr->Prop}{σ:St}{H:Hp}{i:Nat}{p:Addr}{L:List Int}(hσ:σ[i]?=some (some (.ref p)))(e:H p=some (.lst (L.map V.int)))(hL:0<L.length):Gv ok (tOp Rw (tV i) (tC (V.int 0))) σ H (.int (L.getD 0 0)):=fun H' s Q q=>by
 unfold tOp tV tC;rw[hσ];show Rw (.ref p) (.int 0) H' Q;rw[Fq,s _ _ e,X7];cases L with
 | nil=>exact absurd hL δ
 | cons x L=>exact⟨V.int x,dI (xs:=V.int x::L.map V.int) (j:=0) rfl,q _ _ (Same.refl _) (.int x)⟩
theorem Qd (ss:Sts)(left:List Nat)(L:List Int):(HJ ss left L).length<=2+L.length:=by
 have h1:(wyP L).length<=1:=by unfold wyP;split <;> simp
 have h2:(wyT ss left).length<=1:=by unfold wyT;split <;> simp
 have h3:(wyM ss left L).length<=L.length:=by unfold wyM;split <;> simp
 unfold HJ;rw[AH,AH];omega
theorem Qc (ss:Sts)(left:List Nat):(MK ss left).length<=3*left.length:=by
 have h1:=wz ss left;unfold MK;rw[AH,AE,EU];omega
noncomputable def MN (ss:Sts)(left:List Nat)(L:List Int):List Wy:=HJ ss left L++if 1<left.length then MK ss left else []
theorem jJ {ss:Sts}{n s:Nat}(hn:ss.length=n)(h0:0<s)(h:s<2^n):Lf ss (bC n s):=by
 refine⟨fun z=>?_,fun k hk=>by have:=(gj.mp hk).1;omega,kY n s⟩;have e:=jW h;rw[z] at e;have:(0:Nat)=s:=e;omega
theorem nM (n s:Nat):(bC n s).length<=n:=BG (Cf _ _) (by rw[Fn];exact AZ _)
noncomputable def jq (ss:Sts)(left:List Nat)(l:Int):Nat:=(left.map (lbl ss)).count l
noncomputable def HZ (ss:Sts)(left:List Nat):Pl->Bool
 | .tab=>decide (cG ss left<=200)
 | .pick l=>decide (jq ss left l=left.length)
 | .low k _ _=>(left.drop 1).contains k
 | .msk l _=>(decide (0<jq ss left l)&&decide (jq ss left l<left.length))&&decide (cG ss left<=64)
 | .one k _=>(left.contains k&&decide (left.length≠1))&&decide ((bV ss k).1=(bV ss k).2.1)
 | .wit k _=>left.contains k&&decide (left.length≠1)
noncomputable def okP (ss:Sts):Pl->List Nat->Bool
 | .tab,left=>HZ ss left .tab
 | .pick l,left=>HZ ss left (.pick l)
 | .low k a b,left=>HZ ss left (.low k a b)&&(okP ss a (left.filter (· < k))&&okP ss b (left.filter (k<=·)))
 | .msk l r,left=>HZ ss left (.msk l r)&&okP ss r (left.filter fun k=>(bV ss k).2.2≠l)
 | .one k r,left=>HZ ss left (.one k r)&&okP ss r (left.filter (·≠k))
 | .wit k r,left=>HZ ss left (.wit k r)&&okP ss r (left.filter (·≠k))
theorem Mf {left:List Nat}{k:Nat}(hk:k∈left)(hu:left.Pairwise (· < ·))(h1:left.length≠1):left.filter (·≠k)≠[]:=by
 intro e;have all:∀x∈left,x=k:=fun x hx=>by
  rcases Decidable.em (x=k) with h|h
  ·exact h
  have:x∈left.filter (·≠k):=DB.mpr ⟨hx,by simpa using h⟩;rw[e] at this;cases this
 cases left with
 | nil=>cases hk
 | cons a r=>
  cases r with
  | nil=>exact h1 rfl
  | cons b r=>
   have h2:=(D2.mp hu).1 b (A0 ..);have h3:=all a (A0 ..);have h4:=all b (B1 _ (A0 ..));omega
theorem Nf {ss:Sts}{left:List Nat}{p:Pl}(lf:Lf ss left)(h:HZ ss left p=true):∀x∈kids ss p left,Lf ss x.1:=by
 have mk:∀q:Nat->Bool,left.filter q≠[]->Lf ss (left.filter q):=fun q hq=>⟨hq,fun k hk=>lf.lt k (DB.mp hk).1,lf.up.sublist (List.filter_sublist ..)⟩;intro x hx;cases p with
 | tab=>cases hx
 | pick l=>cases hx
 | one k r=>
  simp only[kids,AK] at hx;subst hx;simp only[HZ,C9,E6,decide_eq_true_eq] at h;exact mk _ (Mf h.1.1 lf.up h.1.2)
 | wit k r=>
  simp only[kids,AK] at hx;subst hx;simp only[HZ,C9,E6,decide_eq_true_eq] at h;exact mk _ (Mf h.1 lf.up h.2)
 | msk l r=>
  simp only[kids,AK] at hx;subst hx;simp only[HZ,C9,decide_eq_true_eq] at h;refine mk _ fun e=>?_;have:jq ss left l=left.length:=by
   unfold jq;have e2:∀y∈left.map (lbl ss),l=y:=fun y hy=>by
    obtain⟨k,hk,rfl⟩:=DM.mp hy;rcases Decidable.em ((bV ss k).2.2=l) with h|h
    ·exact h.symm
    have:k∈left.filter fun k=>decide ((bV ss k).2.2≠l):=DB.mpr ⟨hk,by simpa using h⟩;rw[e] at this;cases this
   rw[KG.mpr e2,AE]
  omega
 | low k a b=>
  simp only[HZ,E6] at h;have hk:k∈left:=Hc h;simp only[kids,A5,A9,or_false] at hx;rcases hx with rfl|rfl
  ·refine mk _ fun e=>?_;cases left with
   | nil=>cases hk
   | cons c r=>
    have h2:=(D2.mp lf.up).1 k (by simpa using h);have:c∈(c::r).filter (fun x=>decide (x<k)):=DB.mpr ⟨A0 ..,by simpa using h2⟩;rw[e] at this;cases this
  refine mk _ fun e=>?_;have:k∈left.filter (fun x=>decide (k<=x)):=DB.mpr ⟨hk,by simp⟩;rw[e] at this;cases this
theorem Lr {ss:Sts}{p:Pl}{left:List Nat}(h:PlV ss p left):Lf ss left:=h.ok.lf
theorem Ls {left:List Nat}{k:Nat}(hk:k∈left)(h:left.filter (fun x=>decide (x≠k))≠[]):left.length≠1:=by
 intro e;obtain⟨a,rfl⟩:=D9.mp e;rw[AK] at hk;subst hk;exact h (by simp)
theorem PlV.okP {ss:Sts}:∀{p:Pl}{left:List Nat},PlV ss p left->okP ss p left=true
 | .tab,left,h=>decide_eq_true h.2
 | .pick l,left,h=>by
  refine decide_eq_true ?_;unfold jq;rw[KG.mpr fun y hy=>?_,AE];obtain⟨k,hk,rfl⟩:=DM.mp hy;exact(h.2 k hk).symm
 | .one k r,left,h=>by
  obtain⟨⟨lf,hk,e⟩,hr⟩:=h;have h1:=Ls hk (Lr hr).ne;show(((left.contains k&&decide (left.length≠1))&&decide ((bV ss k).1=(bV ss k).2.1))&&L2.okP ss r _)=true;rw[PlV.okP hr,decide_eq_true h1,decide_eq_true e,E6.mpr hk];rfl
 | .wit k r,left,h=>by
  obtain⟨⟨lf,hk⟩,hr⟩:=h;have h1:=Ls hk (Lr hr).ne;show((left.contains k&&decide (left.length≠1))&&L2.okP ss r _)=true;rw[PlV.okP hr,decide_eq_true h1,E6.mpr hk];rfl
 | .low k a b,left,h=>by
  obtain⟨⟨lf,hk⟩,ha,hb⟩:=h;have h1:k∈left.drop 1:=by
   cases left with
   | nil=>cases hk
   | cons c r=>
    rcases A5.mp hk with rfl|hk
    ·refine absurd ?_ (Lr ha).ne;rw[GA];intro x hx;rcases A5.mp hx with rfl|hx
     ·simp
     have:=(D2.mp lf.up).1 x hx;simp;omega
    simpa using hk
  show((left.drop 1).contains k&&(L2.okP ss a _&&L2.okP ss b _))=true;rw[PlV.okP ha,PlV.okP hb,E6.mpr h1];rfl
 | .msk l r,left,h=>by
  obtain⟨⟨lf,hs,k,hk,e⟩,hr⟩:=h;have h1:0<jq ss left l:=List.count_pos_iff.mpr (DM.mpr ⟨k,hk,e⟩);have h2:jq ss left l<left.length:=by
   refine Nat.lt_of_le_of_ne (BG (List.count_le_length ..) (by rw[AE];exact AZ _)) fun z=>?_;refine(Lr hr).ne ?_;rw[GA];intro x hx;have:=KG.mp (show(left.map (lbl ss)).count l=(left.map (lbl ss)).length by rw[AE];exact z) _ (DM.mpr ⟨x,hx,rfl⟩);simp only[decide_eq_true_eq,Decidable.not_not];exact this.symm
  show(((decide (0<jq ss left l)&&decide (jq ss left l<left.length))&&decide (cG ss left<=64))&&L2.okP ss r _)=true;rw[PlV.okP hr,decide_eq_true h1,decide_eq_true h2,decide_eq_true hs];rfl
noncomputable def Ku:Sp:=fun vs H Q _=>∃(s l:V)(ok:Addr->Prop)(ss:Sts)(left:List Nat)(m:Int),vs=[s,l,.int m]/\aG ok H s (.list (ss.map stD))/\aG ok H l (oE left)/\Lf ss left/\left.length<=1000000 /\
 ∀H',Same H H'->Q (.bl (decide (0<jq ss left m)&&decide (jq ss left m<left.length))) H'
inductive Pg where
 | pick (l:Int)
 | one (k:Nat) (r:Pg)
 | wit (k:Nat) (r:Pg)
 | low (k:Nat) (a b:Pg)
 | msk (l:Int) (r:Pg)
 | tab
 | odd (d:A1)
noncomputable def pgD:Pg->A1
 | .pick l=>.tuple [.str "pick",.int l]
 | .one k r=>.tuple [.str "is",.int (k:Int),pgD r]
 | .wit k r=>.tuple [.str "within",.int (k:Int),pgD r]
 | .low k a b=>.tuple [.str "below",.int (k:Int),pgD a,pgD b]
 | .msk l r=>.tuple [.str "mask",.int l,pgD r]
 | .tab=>.tuple [.str "table"]
 | .odd d=>d
noncomputable def jC:Pg->Nat
 | .pick _=>1
 | .one _ r=>jC r+1
 | .wit _ r=>jC r+1
 | .low _ a b=>jC a+jC b+1
 | .msk _ r=>jC r+1
 | .tab=>1
 | .odd _=>1
structure Y5 (d:A1):Prop where
 tab:d≠.tuple [.str "table"]
 pick:∀l,d≠.tuple [.str "pick",.int l]
 one:∀(k:Nat) r,d≠.tuple [.str "is",.int (k:Int),r]
 wit:∀(k:Nat) r,d≠.tuple [.str "within",.int (k:Int),r]
 low:∀(k:Nat) a b,d≠.tuple [.str "below",.int (k:Int),a,b]
 msk:∀l r,d≠.tuple [.str "mask",.int l,r]
noncomputable def WfG:Pg->Prop
 | .pick _=>True
 | .one _ r=>WfG r
 | .wit _ r=>WfG r
 | .low _ a b=>WfG a/\WfG b
 | .msk _ r=>WfG r
 | .tab=>True
 | .odd d=>Y5 d
noncomputable def iR (ss:Sts):Pg->List Nat->List (List Nat×Pg)
 | .pick _,_=>[]
 | .tab,_=>[]
 | .one k r,left=>[(left.filter (·≠k),r)]
 | .wit k r,left=>[(left.filter (·≠k),r)]
 | .low k a b,left=>[(left.filter (· < k),a),(left.filter (k<=·),b)]
 | .msk l r,left=>[(left.filter fun k=>(bV ss k).2.2≠l,r)]
 | .odd _,_=>[]
noncomputable def iQ (ss:Sts)(left:List Nat):Pg->Bool
 | .tab=>decide (cG ss left<=200)
 | .pick l=>decide (jq ss left l=left.length)
 | .low k _ _=>(left.drop 1).contains k
 | .msk l _=>(decide (0<jq ss left l)&&decide (jq ss left l<left.length))&&decide (cG ss left<=64)
 | .one k _=>(left.contains k&&decide (left.length≠1))&&decide ((bV ss k).1=(bV ss k).2.1)
 | .wit k _=>left.contains k&&decide (left.length≠1)
 | .odd _=>false
noncomputable def okG (ss:Sts):Pg->List Nat->Bool
 | .tab,left=>iQ ss left .tab
 | .pick l,left=>iQ ss left (.pick l)
 | .low k a b,left=>iQ ss left (.low k a b)&&(okG ss a (left.filter (· < k))&&okG ss b (left.filter (k<=·)))
 | .msk l r,left=>iQ ss left (.msk l r)&&okG ss r (left.filter fun k=>(bV ss k).2.2≠l)
 | .one k r,left=>iQ ss left (.one k r)&&okG ss r (left.filter (·≠k))
 | .wit k r,left=>iQ ss left (.wit k r)&&okG ss r (left.filter (·≠k))
 | .odd _,_=>false
theorem FJ (ss:Sts)(p:Pg)(left:List Nat):okG ss p left=(iQ ss left p&&(iR ss p left).all fun x=>okG ss x.2 x.1):=by
 cases p with
 | tab=>simp [okG,iR]
 | pick l=>simp [okG,iR]
 | one k r=>simp [okG,iR]
 | wit k r=>simp [okG,iR]
 | msk l r=>simp [okG,iR]
 | low k a b=>simp [okG,iR]
 | odd d=>simp [okG,iR,iQ]
noncomputable def abI:Pg->Option Pl
 | .pick l=>some (.pick l)
 | .one k _=>some (.one k .tab)
 | .wit k _=>some (.wit k .tab)
 | .low k _ _=>some (.low k .tab .tab)
 | .msk l _=>some (.msk l .tab)
 | .tab=>some .tab
 | .odd _=>none
theorem Ow {ss:Sts}{left:List Nat}{p:Pg}{q:Pl}(h:abI p=some q):iQ ss left p=HZ ss left q/\(iR ss p left).map (·.1)=(kids ss q left).map (·.1):=by
 cases p <;> cases h <;> exact⟨rfl,rfl⟩
theorem JF {ss:Sts}{left:List Nat}{p:Pg}(lf:Lf ss left)(h:iQ ss left p=true):∀x∈iR ss p left,Lf ss x.1:=by
 cases hq:abI p with
 | none=>
  cases p <;> cases hq
  cases h
 | some q=>
  obtain⟨h1,h2⟩:=Ow (ss:=ss) (left:=left) hq;rw[h1] at h;intro x hx;have hm:x.1∈(kids ss q left).map (·.1):=by
   rw[<- h2];exact E7 hx
  obtain⟨y,hy,e⟩:=DM.mp hm;rw[<- e];exact Nf lf h y hy
theorem WfG.kids {ss:Sts}{left:List Nat}{p:Pg}(h:WfG p):∀x∈iR ss p left,WfG x.2:=by
 intro x hx;cases p with
 | pick l=>cases hx
 | tab=>cases hx
 | odd d=>cases hx
 | one k r=>rw[AK.mp hx];exact h
 | wit k r=>rw[AK.mp hx];exact h
 | msk l r=>rw[AK.mp hx];exact h
 | low k a b=>
  rcases A5.mp hx with rfl|hx
  ·exact h.1
  rw[AK.mp hx];exact h.2
noncomputable def iz (W:List (List Nat×Pg)):Nat:=(W.map fun x=>jC x.2).sum
theorem qt (A B:List (List Nat×Pg)):iz (A++B)=iz A+iz B:=by
 unfold iz;rw[A6,sum_append]
theorem Bp (ss:Sts)(p:Pg)(left:List Nat):iz (iR ss p left)<jC p:=by
 cases p <;> simp [iz,iR,jC]
theorem Ut (W:List (List Nat×Pg)):W.length<=iz W:=by
 induction W with
 | nil=>exact AZ _
 | cons x W ih=>
  have h1:1<=jC x.2:=by cases x.2 <;> simp [jC]
  have h2:iz (x::W)=jC x.2+iz W:=by simp [iz]
  rw[Co,h2];omega
noncomputable def gwD (x:List Nat×Pg):A1:=.tuple [oE x.1,pgD x.2]
noncomputable def Kr:Sp:=fun vs H Q _=>∃(s l p:V)(ok:Addr->Prop)(ss:Sts)(left:List Nat)(pl:Pg),vs=[s,l,p]/\aG ok H s (.list (ss.map stD))/\aG ok H l (oE left)/\aG ok H p (pgD pl)/\WfG pl/\Lf ss left /\
 ∀H',Same H H'->Q (.bl (iQ ss left pl)) H'
noncomputable def Kw:Sp:=fun vs H Q _=>∃(s l p:V)(ok:Addr->Prop)(ss:Sts)(left:List Nat)(pl:Pg),vs=[s,l,p]/\cQ ok H/\aG ok H s (.list (ss.map stD))/\aG ok H l (oE left)/\aG ok H p (pgD pl)/\iQ ss left pl=true/\Lf ss left /\
 ∀v H',Same H H'->aG ok H' v (.list ((iR ss pl left).map gwD))->Q v H'
noncomputable def Ao:Sp:=fun vs H Q _=>∃(s p:V)(ok:Addr->Prop)(ss:Sts)(pl:Pg),vs=[s,p]/\cQ ok H/\aG ok H s (.list (ss.map stD))/\aG ok H p (pgD pl)/\WfG pl/\0<ss.length/\ss.length<=100/\jC pl<=4000 /\
 ∀H',Same H H'->Q (.bl (okG ss pl (BO ss.length))) H'
theorem wI {i:Int}(h:i<0):∀left:List Nat,inV (V.int i) (nv left)=false
 | []=>rfl
 | k::left=>by
  have ih:=wI h left;unfold inV nv at ih |-;rw[CF,HM,ih,Bool.or_false];exact decide_eq_false ω
theorem Dq (k:Nat)(left:List Nat):inV (V.int (k:Int)) (nv left)=left.contains k:=Yc k left
noncomputable def jm (ss:Sts)(left:List Nat)(d0:A1)(ds:List A1):Bool:=
 if dH d0 "table" = true then ds.isEmpty&&decide (cG ss left<=200)
 else match ds with
  | .int i::es=>
   if dH d0 "pick" = true then es.isEmpty&&decide (jq ss left i=left.length)
   else if dH d0 "below" = true then decide (es.length=2)&&inV (V.int i) (nv (left.drop 1))
   else if es.length≠1 then false
   else if dH d0 "mask" = true then (decide (0<jq ss left i)&&decide (jq ss left i<left.length))&&decide (cG ss left<=64)
   else if inV (V.int i) (nv left)=false\/left.length=1 then false
   else if dH d0 "is" = true then decide ((bV ss i.toNat).1=(bV ss i.toNat).2.1)
   else dH d0 "within"
  | _=>false
noncomputable def stepT (ss:Sts)(left:List Nat):A1->Bool
 | .tuple (d0::ds)=>jm ss left d0 ds
 | _=>false
theorem qZ {a b:Str}(h:a≠b):¬dH (.str a) b=true:=fun z=>h (of_decide_eq_true z)
theorem Nt (a:Str):dH (.str a) a=true:=decide_eq_true rfl
theorem Tc {ss:Sts}{left:List Nat}{d:A1}(wf:Y5 d):stepT ss left d=false:=by
 cases d with
 | tuple ds=>
  cases ds with
  | nil=>rfl
  | cons d0 ds=>
   show jm ss left d0 ds=false;unfold jm;split
   ·rename_i h;obtain rfl:=jR h;cases ds with
    | nil=>exact absurd rfl wf.tab
    | cons _ _=>rfl
   split
   ·rename_i _ i es;split
    ·rename_i h;obtain rfl:=jR h;cases es with
     | nil=>exact absurd rfl (wf.pick i)
     | cons _ _=>rfl
    split
    ·rename_i h;obtain rfl:=jR h;rcases lt_or_le i 0 with z|z
     ·rw[wI z,F7]
     obtain⟨k,rfl⟩:=E8 z
     match es with
     | []=>rfl
     | [_]=>rfl
     | [a,b]=>exact absurd rfl (wf.low k a b)
     | _::_::_::es=>rw[decide_eq_false (by simp only[Co];omega),F5]
    split
    ·rfl
    rename_i hl;obtain⟨d2,rfl⟩:∃d2,es=[d2]:=D9.mp (Decidable.not_not.mp hl);split
    ·rename_i h;obtain rfl:=jR h;exact absurd rfl (wf.msk i d2)
    split
    ·rfl
    rename_i hin;rcases lt_or_le i 0 with z|z
    ·exact absurd (.inl (wI z left)) hin
    obtain⟨k,rfl⟩:=E8 z;split
    ·rename_i h;obtain rfl:=jR h;exact absurd rfl (wf.one k d2)
    cases h:dH d0 "within" with
    | false=>rfl
    | true=>
     obtain rfl:=jR h;exact absurd rfl (wf.wit k d2)
   rfl
 | _=>rfl
theorem JG {ss:Sts}{left:List Nat}{pl:Pg}(wf:WfG pl):iQ ss left pl=stepT ss left (pgD pl):=by
 cases pl with
 | odd d=>exact(Tc wf).symm
 | tab=>
  show _=jm ss left (.str "table") [];unfold jm;rw[if_pos (Nt _)];rfl
 | pick l=>
  show _=jm ss left (.str "pick") [.int l];unfold jm;rw[if_neg (qZ ψ)];dsimp only;rw[if_pos (Nt _)];rfl
 | low k a b=>
  show _=jm ss left (.str "below") [.int (k:Int),pgD a,pgD b];unfold jm;rw[if_neg (qZ ψ)];dsimp only;rw[if_neg (qZ ψ),if_pos (Nt _),Dq];rfl
 | msk l r=>
  show _=jm ss left (.str "mask") [.int l,pgD r];unfold jm;rw[if_neg (qZ ψ)];dsimp only;rw[if_neg (qZ ψ),if_neg (qZ ψ),if_neg (by simp),if_pos (Nt _)];rfl
 | one k r=>
  show((left.contains k&&decide (left.length≠1))&&decide ((bV ss k).1=(bV ss k).2.1))=jm ss left (.str "is") [.int (k:Int),pgD r];unfold jm;rw[if_neg (qZ ψ)];dsimp only;rw[if_neg (qZ ψ),if_neg (qZ ψ),if_neg (by simp),if_neg (qZ ψ),Dq,if_pos (Nt _),B6];by_cases c:left.contains k=false\/left.length=1
  ·rw[if_pos c];rcases c with c|c
   ·rw[c];rfl
   rw[decide_eq_false (show ¬left.length≠1 from fun z=>z c),F7];rfl
  rw[if_neg c,decide_eq_true (show left.length≠1 from fun z=>c (.inr z))];cases h:left.contains k with
  | false=>exact absurd (.inl h) c
  | true=>rfl
 | wit k r=>
  show(left.contains k&&decide (left.length≠1))=jm ss left (.str "within") [.int (k:Int),pgD r];unfold jm;rw[if_neg (qZ ψ)];dsimp only;rw[if_neg (qZ ψ),if_neg (qZ ψ),if_neg (by simp),if_neg (qZ ψ),Dq,if_neg (qZ (a := "within") (b := "is") ψ),Nt];by_cases c:left.contains k=false\/left.length=1
  ·rw[if_pos c];rcases c with c|c
   ·rw[c];rfl
   rw[decide_eq_false (show ¬left.length≠1 from fun z=>z c),F7]
  rw[if_neg c,decide_eq_true (show left.length≠1 from fun z=>c (.inr z))];cases h:left.contains k with
  | false=>exact absurd (.inl h) c
  | true=>rfl
noncomputable def pZ (ss:Sts)(left:List Nat):Wy->Prop
 | .pick l=>∀k∈left,lbl ss k=l
 | .tab=>cG ss left<=200
 | .msk l=>cG ss left<=64/\(∃k∈left,lbl ss k=l)/\∃k∈left,lbl ss k≠l
 | .one k=>(k∈left/\1<left.length)/\(bV ss k).1=(bV ss k).2.1
 | .wit k=>k∈left/\1<left.length
 | .low k=>k∈left.drop 1
noncomputable def mkP:Wy->List Pl->Pl
 | .pick l,_=>.pick l
 | .tab,_=>.tab
 | .msk l,ps=>.msk l (ps.getD 0 .tab)
 | .one k,ps=>.one k (ps.getD 0 .tab)
 | .wit k,ps=>.wit k (ps.getD 0 .tab)
 | .low k,ps=>.low k (ps.getD 0 .tab) (ps.getD 1 .tab)
noncomputable def gW (w:Wy):Pl:=mkP w []
theorem O6 {p:Nat->Bool}{left:List Nat}(h:∃a∈left,p a=false):aY (left.filter p)<aY left/\(left.filter p).length<left.length:=by
 obtain⟨a,ha,e⟩:=h;have h1:=jX p left;have h2:(left.filter fun k=>!p k)≠[]:=fun z=>by
  have:a∈left.filter fun k=>!p k:=DB.mpr ⟨ha,by rw[e];rfl⟩;rw[z] at this;cases this
 have h3:=oW h2;refine⟨ω,?_⟩;rcases FX (left.filter p).length left.length with c|c
 ·exact c
 have hs:=(List.filter_sublist (p:=p) (l:=left)).eq_of_length_le c;rw[KW] at hs;rw[hs a ha] at e;cases e
theorem O5 {p:Nat->Bool}{left:List Nat}(h:∃a∈left,p a=true):left.filter p≠[]:=fun z=>by
 obtain⟨a,ha,e⟩:=h;have:a∈left.filter p:=DB.mpr ⟨ha,e⟩;rw[z] at this;cases this
theorem Fz {left:List Nat}(hu:left.Pairwise (· < ·))(h:1<left.length)(k:Nat):∃a∈left,a≠k:=by
 match left,h with
 | a::b::l,_=>
  have:a<b:=(D2.mp hu).1 b A0;by_cases c:a=k
  ·exact⟨b,by simp,ω⟩
  exact⟨a,by simp,c⟩
theorem j6 {ss:Sts}{left:List Nat}(lf:Lf ss left){w:Wy}(h:pZ ss left w):∀p∈fB ss left w,Lf ss p/\aY p<aY left/\p.length<left.length:=by
 have mk:∀q:Nat->Bool,(∃a∈left,q a=true)->(∃a∈left,q a=false)->Lf ss (left.filter q)/\aY (left.filter q)<aY left/\(left.filter q).length<left.length:=fun q h1 h2=>
  ⟨⟨O5 h1,fun k hk=>lf.lt k (DB.mp hk).1,lf.up.filter _⟩,O6 h2⟩
 intro p hp;cases w with
 | pick l=>cases hp
 | tab=>cases hp
 | msk l=>
  rw[AK.mp hp];obtain⟨_,⟨a,ha,ea⟩,b,hb,eb⟩:=h;exact mk _ ⟨b,hb,decide_eq_true eb⟩ ⟨a,ha,decide_eq_false fun z=>z ea⟩
 | one k=>
  rw[AK.mp hp];obtain⟨b,hb,eb⟩:=Fz lf.up h.1.2 k;exact mk _ ⟨b,hb,decide_eq_true eb⟩ ⟨k,h.1.1,decide_eq_false fun z=>z rfl⟩
 | wit k=>
  rw[AK.mp hp];obtain⟨b,hb,eb⟩:=Fz lf.up h.2 k;exact mk _ ⟨b,hb,decide_eq_true eb⟩ ⟨k,h.1,decide_eq_false fun z=>z rfl⟩
 | low k=>
  have hk:k∈left:=Hc h;have ha:∃a∈left,a<k:=by
   match left,h,lf with
   | a::l,h,lf=>exact⟨a,A0,(D2.mp lf.up).1 k (show k∈(a::l).drop 1 from h)⟩
  obtain⟨a,ha,ea⟩:=ha;rcases A5.mp hp with rfl|hp
  ·exact mk _ ⟨a,ha,decide_eq_true ea⟩ ⟨k,hk,decide_eq_false (DD k)⟩
  rw[AK.mp hp];exact mk _ ⟨k,hk,decide_eq_true (AZ k)⟩ ⟨a,ha,decide_eq_false ω⟩
noncomputable def jl (f:List Nat->Pl->Int)(N:List Int)(ss:Sts)(left:List Nat)(w:Wy):Int:=f left (gW w)+((fB ss left w).map fun p=>N.getD (aY p) 0).sum
noncomputable def nU (f:List Nat->Pl->Int)(N:List Int)(ss:Sts)(left:List Nat)(c:Int):Prop:=(∃w,pZ ss left w/\c=jl f N ss left w)/\∀w,pZ ss left w->c<=jl f N ss left w
structure Tbl (f:List Nat->Pl->Int)(ss:Sts)(n m:Nat)(N:List Int):Prop where
 len:N.length=m
 at0:N.getD 0 0=0
 lst:∀x,0<x->x<m->nU f N ss (bC n x) (N.getD x 0)
theorem HS {f:List Nat->Pl->Int}{N M:List Int}{ss:Sts}{left:List Nat}{w:Wy}(h:∀p∈fB ss left w,N.getD (aY p) 0=M.getD (aY p) 0):jl f N ss left w=jl f M ss left w:=by
 unfold jl;rw[EL h]
theorem nU.uniq {f:List Nat->Pl->Int}{N:List Int}{ss:Sts}{left:List Nat}{c d:Int}(h1:nU f N ss left c)(h2:nU f N ss left d):c=d:=by
 obtain⟨⟨w,hw,ew⟩,l1⟩:=h1;obtain⟨⟨v,hv,ev⟩,l2⟩:=h2;have:=l1 v hv;have:=l2 w hw;omega
theorem nU.congr {f:List Nat->Pl->Int}{N M:List Int}{ss:Sts}{left:List Nat}{c:Int}(lf:Lf ss left)(h:∀p,Lf ss p->aY p<aY left->N.getD (aY p) 0=M.getD (aY p) 0)(h1:nU f N ss left c):nU f M ss left c:=by
 have key:∀w,pZ ss left w->jl f N ss left w=jl f M ss left w:=fun w hw=>HS fun p hp=>by
  obtain⟨a,b,_⟩:=j6 lf hw p hp;exact h p a b
 obtain⟨⟨w,hw,ew⟩,l1⟩:=h1;exact⟨⟨w,hw,by rw[<- key w hw];exact ew⟩,fun v hv=>by rw[<- key v hv];exact l1 v hv⟩
theorem Tbl.uniq {f:List Nat->Pl->Int}{ss:Sts}{n m:Nat}{N M:List Int}(hn:ss.length=n)(hm:m<=2^n)(h1:Tbl f ss n m N)(h2:Tbl f ss n m M):∀x,x<m->N.getD x 0=M.getD x 0:=by
 intro x
 induction x using Nat.strongRecOn with
 | ind x ih=>
  intro hx;by_cases c:x=0
  ·subst c;rw[h1.at0,h2.at0]
  have lf:=jJ hn (show 0<x by omega) (show x<2^n by omega);have e:=jW (show x<2^n by omega);refine((h1.lst x ω hx).congr lf fun p _ hp=>ih _ ω ω).uniq (h2.lst x ω hx)
theorem Tbl.snoc {f:List Nat->Pl->Int}{ss:Sts}{n m:Nat}{N:List Int}{c:Int}(hn:ss.length=n)(h0:0<m)(hm:m<2^n)(h:Tbl f ss n m N)(hc:nU f N ss (bC n m) c):Tbl f ss n (m+1) (N++[c]):=by
 have old:∀y,y<m->(N++[c]).getD y 0=N.getD y 0:=fun y hy=>by
  rw[AN,AN,C3 (by rw[h.len];exact hy)]
 have new:(N++[c]).getD m 0=c:=by
  rw[AN,BC (by rw[h.len];exact AZ m),h.len,Go];rfl
 refine⟨by rw[AH,h.len];rfl,by rw[old 0 h0,h.at0],fun x hx hlt=>?_⟩;have lf:=jJ hn hx (show x<2^n by omega);have e:=jW (show x<2^n by omega);by_cases c':x=m
 ·subst c';rw[new];exact hc.congr lf fun p _ hp=>(old _ ω).symm
 rw[old x ω];exact(h.lst x hx ω).congr lf fun p _ hp=>(old _ ω).symm
theorem Tbl.start (f:List Nat->Pl->Int)(ss:Sts)(n:Nat):Tbl f ss n 1 [0]:=⟨rfl,rfl,fun x h1 h2=>ω⟩
structure PlT (f:List Nat->Pl->Int)(ss:Sts)(n m:Nat)(N:List Int)(T:List Pl):Prop where
 len:T.length=m
 ok:∀x,0<x->x<m->PlV ss (T.getD x .tab) (bC n x)/\oU ss f (T.getD x .tab) (bC n x)=N.getD x 0/\bU (T.getD x .tab)+1<=2*(bC n x).length
theorem abE (ss:Sts)(left:List Nat)(w:Wy)(ps:List Pl)(h:ps.length=(fB ss left w).length):plD (mkP w ps)=.tuple (hdL w++ps.map plD):=by
 cases w with
 | pick l=>cases Fa h;rfl
 | tab=>cases Fa h;rfl
 | msk l=>obtain⟨a,rfl⟩:=D9.mp h;rfl
 | one l=>obtain⟨a,rfl⟩:=D9.mp h;rfl
 | wit l=>obtain⟨a,rfl⟩:=D9.mp h;rfl
 | low k=>
  match ps,h with
  | [a,b],_=>rfl
noncomputable def aaV (f:List Nat->Pl->Int):Prop:=∀left w ps,f left (mkP w ps)=f left (gW w)
theorem M7 (ws zs:List Int):aaV (cN ws zs):=fun left w ps=>by cases w <;> rfl
theorem aav {f:List Nat->Pl->Int}(hf:aaV f){ss:Sts}{n m:Nat}{N:List Int}{T:List Pl}(hn:ss.length=n)(hm:m<2^n)(h0:0<m)(h:PlT f ss n m N T){w:Wy}(hw:pZ ss (bC n m) w){c:Int}(hc:c=jl f N ss (bC n m) w) :
  PlV ss (mkP w ((fB ss (bC n m) w).map fun p=>T.getD (aY p) .tab)) (bC n m)/\oU ss f (mkP w ((fB ss (bC n m) w).map fun p=>T.getD (aY p) .tab)) (bC n m)=c/\bU (mkP w ((fB ss (bC n m) w).map fun p=>T.getD (aY p) .tab))+1<=2*(bC n m).length:=by
 have lf:=jJ hn h0 hm;have e:=jW hm;generalize bC n m=left at *;have part:∀p∈fB ss left w,PlV ss (T.getD (aY p) .tab) p/\oU ss f (T.getD (aY p) .tab) p=N.getD (aY p) 0/\bU (T.getD (aY p) .tab)+1<=2*p.length/\p.length<left.length:=fun p hp=>by
  obtain⟨l1,l2,l3⟩:=j6 lf hw p hp;have hb:bC n (aY p)=p:=Hs l1.up fun k hk=>by have:=l1.lt k hk;omega
  have:=h.ok (aY p) (oW l1.ne) ω;rw[hb] at this;exact⟨this.1,this.2.1,this.2.2,l3⟩
 have hl:0<left.length:=D4.mpr lf.ne;have ht:=hf left w ((fB ss left w).map fun p=>T.getD (aY p) .tab);unfold jl at hc;rw[<- ht] at hc;cases w with
 | pick l=>exact⟨⟨lf,hw⟩,by rw[hc];exact(Fu _).symm,by show 1+1<=_;omega⟩
 | tab=>exact⟨⟨lf,hw⟩,by rw[hc];exact(Fu _).symm,by show 1+1<=_;omega⟩
 | msk l=>
  obtain⟨p1,p2,p3,p4⟩:=part _ (AK.mpr rfl);exact⟨⟨⟨lf,hw.1,hw.2.1⟩,p1⟩,by rw[hc];exact congrArg (f left _ + ·) (p2.trans (Fu _).symm),by show bU _+1+1<=_;exact BG (KI p3 1) ω⟩
 | one k=>
  obtain⟨p1,p2,p3,p4⟩:=part _ (AK.mpr rfl);exact⟨⟨⟨lf,hw.1.1,hw.2⟩,p1⟩,by rw[hc];exact congrArg (f left _ + ·) (p2.trans (Fu _).symm),by show bU _+1+1<=_;exact BG (KI p3 1) ω⟩
 | wit k=>
  obtain⟨p1,p2,p3,p4⟩:=part _ (AK.mpr rfl);exact⟨⟨⟨lf,hw.1⟩,p1⟩,by rw[hc];exact congrArg (f left _ + ·) (p2.trans (Fu _).symm),by show bU _+1+1<=_;exact BG (KI p3 1) ω⟩
 | low k=>
  obtain⟨p1,p2,p3,p4⟩:=part _ A0;obtain⟨q1,q2,q3,q4⟩:=part _ (B1 _ A0);have hsum:(left.filter (· < k)).length+(left.filter (k<=·)).length=left.length:=by
   have hd:=jG (k:=k) lf.up;have:=congrArg FF hd;rw[EU] at this;have:=Cf (fun x=>decide (x<k)) left;omega
  exact⟨⟨⟨lf,Hc hw⟩,p1,q1⟩,by rw[hc];show _+_+_=_+(N.getD (aY (left.filter (· < k))) 0+(N.getD (aY (left.filter (k<=·))) 0+0));rw[<- p2,<- q2,Fu,Int.add_assoc];rfl,by show bU (T.getD (aY (left.filter (· < k))) .tab)+bU (T.getD (aY (left.filter (k<=·))) .tab)+1+1<=_;omega⟩
theorem PlT.snoc {f:List Nat->Pl->Int}{ss:Sts}{n m:Nat}{N:List Int}{T:List Pl}{c:Int}{p:Pl}(hN:N.length=m)(h:PlT f ss n m N T)(hp:PlV ss p (bC n m)/\oU ss f p (bC n m)=c/\bU p+1<=2*(bC n m).length):PlT f ss n (m+1) (N++[c]) (T++[p]):=by
 refine⟨by rw[AH,h.len];rfl,fun x hx hlt=>?_⟩;by_cases e:x=m
 ·subst e;rw[AN,BC (by rw[h.len];exact AZ _),h.len,Go,AN,BC (by rw[hN];exact AZ _),hN,Go];exact hp
 rw[AN,C3 (by rw[h.len];omega),AN,C3 (by rw[hN];omega),<- AN,<- AN];exact h.ok x hx ω
theorem PlT.start (f:List Nat->Pl->Int)(ss:Sts)(n:Nat)(N:List Int):PlT f ss n 1 N [.tab]:=⟨rfl,fun x h1 h2=>ω⟩
theorem Dm {ss:Sts}{left:List Nat}{L:List Int}(hL:pY ss left L)(lf:Lf ss left):L.length=1 ↔ ∃l,∀k∈left,lbl ss k=l:=by
 constructor
 ·intro h;obtain⟨l,rfl⟩:=D9.mp h;exact⟨l,fun k hk=>AK.mp ((hL.2 _).mpr ⟨k,hk,rfl⟩)⟩
 rintro⟨l,h⟩;have all:∀x∈L,x=l:=fun x hx=>by
  obtain⟨k,hk,e⟩:=(hL.2 x).mp hx;rw[<- e,h k hk]
 match L,hL,all with
 | [],hL,_=>
  obtain⟨k,hk⟩:=List.exists_mem_of_ne_nil _ lf.ne;have:=(hL.2 _).mpr ⟨k,hk,rfl⟩;cases this
 | [a],_,_=>rfl
 | a::b::L,hL,all=>
  have h1:=(IU.mp hL.1).1;rw[all a (by simp),all b (by simp)] at h1;exact absurd A0 h1
theorem Lx {ss:Sts}{left:List Nat}{L:List Int}(hL:pY ss left L)(lf:Lf ss left):0<L.length:=by
 obtain⟨k,hk⟩:=List.exists_mem_of_ne_nil _ lf.ne;exact List.length_pos_of_mem ((hL.2 _).mpr ⟨k,hk,rfl⟩)
theorem Ub {ss:Sts}{left:List Nat}{L:List Int}(hL:pY ss left L)(lf:Lf ss left)(h:1<L.length)(l:Int):∃k∈left,lbl ss k≠l:=by
 refine Classical.byContradiction fun no=>?_;have:=(Dm hL lf).mpr ⟨l,fun k hk=>Classical.byContradiction fun z=>no ⟨k,hk,z⟩⟩;omega
theorem XR {ss:Sts}{left:List Nat}{L:List Int}(hL:pY ss left L)(lf:Lf ss left)(w:Wy):w∈wyP L ↔ ∃l,w=.pick l/\pZ ss left (.pick l):=by
 unfold wyP;constructor
 ·intro h;split at h
  ·rename_i c;obtain⟨a,rfl⟩:=D9.mp c;exact⟨a,AK.mp h,fun k hk=>AK.mp ((hL.2 _).mpr ⟨k,hk,rfl⟩)⟩
  cases h
 rintro⟨l,rfl,h⟩;have c:=(Dm hL lf).mpr ⟨l,h⟩;rw[if_pos c];obtain⟨a,rfl⟩:=D9.mp c;obtain⟨k,hk,e⟩:=(hL.2 a).mp A0;rw[h k hk] at e;rw[e];exact A0
theorem XS {ss:Sts}{left:List Nat}{L:List Int}(hL:pY ss left L)(lf:Lf ss left)(w:Wy):w∈wyM ss left L ↔ ∃l,w=.msk l/\pZ ss left (.msk l):=by
 unfold wyM;constructor
 ·intro h;split at h
  ·rename_i c;obtain⟨l,hl,rfl⟩:=DM.mp h;exact⟨l,rfl,c.1,(hL.2 l).mp hl,Ub hL lf c.2 l⟩
  cases h
 rintro⟨l,rfl,h1,h2,k,hk,hne⟩;have hl:=(hL.2 l).mpr h2;have c:1<L.length:=by
  have:=Lx hL lf;rcases FX 1 L.length with c|c
  ·exact c
  obtain⟨l',h⟩:=(Dm hL lf).mp ω;obtain⟨j,hj,ej⟩:=h2;rw[h k hk,<- ej,h j hj] at hne;exact absurd rfl hne
 rw[if_pos ⟨h1,c⟩];exact E7 hl
theorem Ln {ss:Sts}{left:List Nat}(w:Wy):w∈wyT ss left↔w=.tab/\pZ ss left .tab:=by
 unfold wyT;constructor
 ·intro h;split at h
  ·rename_i c;exact⟨AK.mp h,c⟩
  cases h
 rintro⟨rfl,h⟩;rw[if_pos (show cG ss left<=200 from h)];exact A0
theorem T5 {ss:Sts}{left:List Nat}{L:List Int}(hL:pY ss left L)(lf:Lf ss left)(w:Wy):w∈MN ss left L↔pZ ss left w:=by
 unfold MN HJ;rw[CI,CI,CI,XR hL lf,Ln,XS hL lf];have hS:w∈(if 1<left.length then MK ss left else []) ↔ ∃k,(w=.one k\/w=.wit k\/w=.low k)/\pZ ss left w:=by
  by_cases c:1<left.length
  ·rw[if_pos c];unfold MK;rw[CI,List.mem_flatMap,DM];constructor
   ·rintro(⟨k,hk,h⟩|⟨k,hk,rfl⟩)
    ·unfold pF at h;split at h
     ·rename_i e;rcases A5.mp h with rfl|h
      ·exact⟨k,.inl rfl,⟨hk,c⟩,e⟩
      rw[AK.mp h];exact⟨k,.inr (.inl rfl),hk,c⟩
     rw[AK.mp h];exact⟨k,.inr (.inl rfl),hk,c⟩
    exact⟨k,.inr (.inr rfl),hk⟩
   rintro⟨k,rfl|rfl|rfl,h⟩
   ·exact .inl ⟨k,h.1.1,by unfold pF;rw[if_pos h.2];exact A0⟩
   ·exact .inl ⟨k,h.1,by unfold pF;split <;> simp⟩
   exact .inr ⟨k,h,rfl⟩
  rw[if_neg c];constructor
  ·intro h;cases h
  rintro⟨k,rfl|rfl|rfl,h⟩
  ·exact absurd h.1.2 c
  ·exact absurd h.2 c
  have:k∈left.drop 1:=h;rw[List.drop_of_length_le ω] at this;cases this
 rw[hS];constructor
 ·rintro(((⟨l,rfl,h⟩|⟨rfl,h⟩)|⟨l,rfl,h⟩)|⟨k,_,h⟩) <;> exact h
 intro h;cases w with
 | pick l=>exact .inl (.inl (.inl ⟨l,rfl,h⟩))
 | tab=>exact .inl (.inl (.inr ⟨rfl,h⟩))
 | msk l=>exact .inl (.inr ⟨l,rfl,h⟩)
 | one k=>exact .inr ⟨k,.inl rfl,h⟩
 | wit k=>exact .inr ⟨k,.inr (.inl rfl),h⟩
 | low k=>exact .inr ⟨k,.inr (.inr rfl),h⟩
noncomputable def Y4 (is:List Int)(w:Int)(j:Nat):Prop:=is[j]?=some w/\∀m<j,is[m]?≠some w
noncomputable def Qx (K:AD)(to te:TE):TE:=fun σ H Q=>to σ H fun x H1=>∃(p:Addr)(is:List Int),x=.ref p/\SqL K H1 p (is.map V.int)/\te σ H1 fun y H2=>∃w,y=.int w/\SqL K H2 p (is.map V.int)/\w∈is/\∀j,Y4 is w j->Q (.int (j:Nat)) H2
theorem Ux:∀{is:List Int}{w:Int},w∈is->∃j,Y4 is w j
 | a::is,w,h=>by
  by_cases c:a=w
  ·subst c;exact⟨0,rfl,fun m hm=>ω⟩
  obtain⟨j,h1,h2⟩:=Ux (is:=is) (w:=w) (by
   rcases A5.mp h with z|z
   ·exact absurd z.symm c
   exact z)
  refine⟨j+1,h1,fun m hm=>?_⟩;cases m with
  | zero=>intro z;exact c (BN z)
  | succ m=>exact h2 m ω
section
variable {X:Cx}{o e:Expr}{to te:TE}
theorem W8 {apos cpos:Pos}(hu:X.A.in1.units<FU)(ho:PE X o to)(he:PE X e te)
  (hbase:C1 o "index" X.env (eval o X.env)=eval o X.env:=by rfl)
  (hfew:((CU cpos (AJ [e] X.env)).all (fun x=>!x.1)&&(F9 cpos (EX [] X.env)).all (fun x=>x.1.isSome)
   && decide ([e].length+([]:List D6).length+(if ([]:List D6).isEmpty then 0 else 1)<30))=true:=by rfl)
  (hline:(apos.endLine == cpos.line)=true:=by rfl) (hs:AJ [e] X.env=(false,eval e X.env)::AJ [] X.env:=by rfl) (hplain:(CU cpos (AJ [] X.env)).any (·.1)=false:=by rfl) :
  PE X (.Call (.Attribute o "index" apos) [e] [] cpos) (Qx X.K to te):=by
 intro pins s σ H Q I h;refine Fk hbase hfew hline rfl (thE (ho pins s σ H _ I h) fun v s1 x H1 I1 r1 q=>?_);obtain⟨p,is,rfl,hq,q⟩:=q;obtain⟨h1,h2⟩:=qT (T := "list") I1 r1 (.inl ⟨rfl,_,hq⟩);refine⟨"list","list.index",D7,PySem.F.slot_list_index,PySem.F.type_list_index,h1,h2,?_⟩;rw[hs];refine CS (by show(false||(CU cpos (AJ [] X.env)).any (·.1))=false;rw[hplain] <;> rfl) (D3 ?_)
 refine CL (thn (he pins s1 σ H1 _ I1 q) fun u s2 ⟨y,H2,I2,r2,w,ey,hq2,hw,q3⟩=>CC ?_);subst ey;obtain⟨j,hf⟩:=Ux hw;cases r1;obtain⟨its,rv,pl,hz⟩:=I2.list hq2;have hl:=rv.length;rw[AE] at hl;have hj:j<its.length:=by have:=(AO.mp hf.1).1;omega
 have at':∀m (hm:m<its.length),∃t,its[m]=Ap.int (is.getD m 0) t:=fun m hm=>gU rv m _ (by simp [AF hm]);have gd:∀m,m<its.length->is[m]?=some (is.getD m 0):=fun m hm=>by
  rw[AN,AF ω];rfl
 obtain⟨tu,rfl⟩:=r2;obtain⟨ob,n,eo,ec,ed,es⟩:=pl;cases ob with
 | mk cls dict data slots=>
  cases ec;cases es;have hj2:((j:Nat):Int)<2^63-1:=by
   have hl:=rv.length;have:=Kb;omega
  refine Ee F.slot_list_index ⟨_,eo,rfl⟩ F.entry_list_index (F.args_list_index_2 _ _) (SeqAt.list_indexAt p its.toArray n _ _ (.int w tu) (fun y=>match y with | .int z _=>z == w|_=>false) j (by simpa using hj) hj2 ?_ ?_) ⟨eo,fun y hy=>?_,?_⟩
  ·obtain⟨t,e⟩:=at' j hj;have:its.toArray[j]'(by simpa using hj)=Ap.int (is.getD j 0) t:=by simpa using e
   rw[this];have:=hf.1;rw[gd j hj] at this;simpa using BN this
  ·intro m hm hmj;have hm':m<its.length:=by simpa using hm
   obtain⟨t,e⟩:=at' m hm';have:its.toArray[m]=Ap.int (is.getD m 0) t:=by simpa using e
   rw[this];have:=hf.2 m hmj;rw[gd m hm'] at this;have:is.getD m 0≠w:=fun z=>this (by rw[z]);simpa using this
  ·have hy':y∈its:=by simpa using hy
   obtain⟨m,hm,em⟩:=C5.mp hy';obtain⟨t,e⟩:=at' m hm;rw[em] at e;rw[e];exact BM.int_int _ t w tu
  exact⟨.int (j:Nat),H2,I2.tok _,⟨_,rfl⟩,q3 j hf⟩
theorem Wl {apos cpos:Pos}(hu:X.A.in1.units<FU)(ho:QE X o to)(he:QE X e te)
  (hbase:C1 o "index" X.env (eval o X.env)=eval o X.env:=by rfl)
  (hfew:((CU cpos (AJ [e] X.env)).all (fun x=>!x.1)&&(F9 cpos (EX [] X.env)).all (fun x=>x.1.isSome)
   && decide ([e].length+([]:List D6).length+(if ([]:List D6).isEmpty then 0 else 1)<30))=true:=by rfl)
  (hline:(apos.endLine == cpos.line)=true:=by rfl) (hs:AJ [e] X.env=(false,eval e X.env)::AJ [] X.env:=by rfl) (hplain:(CU cpos (AJ [] X.env)).any (·.1)=false:=by rfl) :
  QE X (.Call (.Attribute o "index" apos) [e] [] cpos) (Qx X.K to te):=⟨W8 hu ho.h he.h hbase hfew hline hs hplain⟩
theorem J3 (hc:X.calm=true):fL X (.builtin "min") (fun xs H Q=>∃p kvs,xs=[.ref p]/\H p=some (.dK kvs)/\kvs≠[]/\∃is:List Int,kvs.map (·.1)=is.map Ct/\∀M,M∈is->(∀a∈is,M<=a)->Q (.int M) H):=by
 intro pins s σ H xs us Q I r h;obtain⟨p,kvs,rfl,hp,hne,is,his,q⟩:=h;obtain⟨u,rfl,rv⟩:=vals1 r;cases rv;obtain⟨z,hd,vs,rel,dd⟩:=Br I.hok hp;obtain⟨o,es,ep,g,hex,hdat,hk,hpp,hnd⟩:=dd;have dat:Heap.DictAt (aP X.prog X.w) s.heap p vs ep:=⟨o,es,g,hex,hdat,hk,hpp,hnd⟩;have hlt:=A4 g;have hks:is.map Ct=vs.map (·.1):=his.symm.trans rel.keys;have hlen:is.length=vs.length:=by have:=congrArg FF hks;rwa [AE,AE] at this
 have hkl:kvs.length=is.length:=by have:=congrArg FF his;rwa [AE,AE] at this
 have hpos:0<vs.length:=by have:=D4.mpr hne;omega
 have kval:∀i v,(∃k x,vs[i]?=some (k,x)/\(aP X.prog X.w).is k v=true)->∃t,v=Ap.int (is.getD i 0) t:=fun i v ⟨k,x,hv,hi⟩=>by
  have h1:(is.map (Ct:Int->Key))[i]?=some k:=by rw[hks,AU,hv];rfl
  rw[AU] at h1;obtain⟨a,ha,rfl⟩:=BE.mp h1;rw[AN,ha];exact Y0 hi
 refine call_min_walk (wpAny_pyIter_dict hd dat ?_);refine⟨s.heap.objs.size,_,_,_,_,_,_,rfl,Walks.dictKeys (knd:=aP X.prog X.w) (A:=X.A.in1) (I.ok.hd hc) s.heap.objs.size p (B2 hlt) vs ep,?_,fun b hb=>?_,hpos,CmpOf.ints_lt (fun i=>is.getD i 0) kval,fun v h' tk hv hk'=>?_⟩
 ·exact⟨⟨_,AQ _ rfl,rfl,rfl⟩,⟨o,es,AA _ g,hex,hdat,hk,hpp,hnd⟩⟩
 ·rw[B9];simp only[A5,A9,or_false] at hb;rcases hb with rfl|rfl
  ·exact CO _
  exact C0 hlt
 obtain⟨t,rfl⟩:=kval _ v hv;have hb:=argBest_lt (fun i=>is.getD i 0) (vs.length-1);have I3:Inv X pins σ H { s with heap:=h',toks:=tk }:=I.kept (t':=tk) fun b o e=>hk' b o (fun z=>B2 (A4 e) (AK.mp z)) (AA _ e);refine⟨.int _,H,I3,⟨_,rfl⟩,q _ ?_ ?_⟩
 ·rw[AN,AF ω];exact G1 _
 intro a ha;obtain⟨j,hj,e⟩:=C5.mp ha;have:=hb.2 j ω;rw[show is.getD j 0=a by rw[AN,AF hj];exact e] at this;exact this
noncomputable def ItF (o:Obj)(d:Addr)(kvs:List (Key×V)):It:=⟨fun i H=>i<kvs.length/\H d=some (.frz o (.dK kvs)),fun i H x H'=>H'=H/\∃kv,kvs[i]?=some kv/\x=kV kv.1,fun i H=>kvs.length<=i/\H d=some (.frz o (.dK kvs))⟩
theorem Inv.ab4 {pins:List (Addr×Obj)}{σ:St}{H:Hp}{s:AB}{d:Addr}{o:Obj}{kvs:List (Key×V)}(I:Inv X pins σ H s)(he:H d=some (.dK kvs))(ho:s.heap.get? d=some o):Inv X pins σ (upd H d (.frz o (.dK kvs))) s:=by
 have oth:∀b u,H b=some u->u≠.dK kvs->upd H d (.frz o (.dK kvs)) b=some u:=fun b u h n=>by
  rw[aJ (fun z=>n (by rw[z,he] at h;exact(BN h).symm)),h]
 have non:∀b,H b=none->upd H d (.frz o (.dK kvs)) b=none:=fun b h=>by
  rw[aJ (fun z=>by rw[z,he] at h;cases h),h]
 have B:=I.base;refine⟨I.ok,I.os,I.bare,⟨B.keep,B.slot,fun b o g n hx=>non b (B.free b o g n hx),B.there,fun b xs h=>oth b _ (B.tups b xs h) (fun z=>nomatch z),fun b o u h=>oth b _ (B.frzs b o u h) (fun z=>nomatch z),fun b ps h=>?_⟩,I.loc,I.cell,non _ I.free,fun x c h=>non _ (I.freeC x c h),fun p hp=>?_,fun a u ha=>?_,I.len⟩
 ·obtain⟨m,hm⟩:=B.tbls b ps h;exact⟨m,oth b _ hm (fun z=>nomatch z)⟩
 ·obtain⟨z1,z2,z3⟩:=I.pin p hp;exact⟨z1,non _ z2,z3⟩
 have st:∀{a u},cZ X.prog X.w H s.heap a u->cZ X.prog X.w (upd H d (.frz o (.dK kvs))) s.heap a u:=fun x=>x.stay (fun b u _ g=>g) (fun b h=>oth b _ h (fun z=>nomatch z)) fun b xs h=>oth b _ h (fun z=>nomatch z);by_cases c:a=d
 ·subst c;rw[aq] at ha;cases ha;exact⟨ho,st (I.hok a _ he)⟩
 rw[aJ c] at ha;exact st (I.hok a u ha)
theorem Ib {P:AR}{w:Bi}{K:AD}{tg:Expr}(it d:Addr)(hne:d≠it)(o:Obj)(kvs:List (Key×V))(vs:List (Key×Ap))(ep:Nat)(hkv:kvs.map (·.1)=vs.map (·.1))(hA:∀h:Heap,h.get? d=some o->Heap.DictAt (aP P w) h d vs ep):Turn P w K tg (ItF o d kvs) [it] it (fun i h=>h.IsKeyIter it d i vs.length ep) where
 mem:=by simp
 obj:=fun i h st b hb=>by
  rw[AK.mp hb];obtain⟨o,g,_,hd⟩:=st;exact⟨o,g,fun v z=>by rw[hd] at z;cases z⟩
 keep:=fun i h h' st k=>st.at fun o e=>k it (by simp) o e
 item:=by
  intro X hP hw hK hc i pins s σ H E I hf st hg;subst hP hw hK;obtain⟨f0,f1,f2,f3,f4,f5⟩:=hf it (by simp);have W:=Walks.dictKeys (prog:=X.prog) (w:=X.w) (knd:=aP X.prog X.w) (I.ok.hd hc) it d hne vs ep;obtain⟨hg,hd⟩:=hg;have hlen:kvs.length=vs.length:=by have:=congrArg FF hkv;rwa [AE,AE] at this
  have go:s.heap.get? d=some o:=(I.hok d _ hd).1;refine W.item i s _ _ ω ⟨st,hA _ go⟩ fun v h' tk hv st' kk=>?_;obtain⟨k,x,hk,hv⟩:=hv;have I1:Inv X pins σ H { s with heap:=h',toks:=tk }:=I.turned (fun b o hb e=>kk b o (by simpa using hb) e) f0 f1 f3 f4 f5;obtain⟨ob,go,gc,gd⟩:=st'.1;have hkk:(kvs.map (·.1))[i]?=some k:=by rw[hkv,AU,hk];rfl
  rw[AU] at hkk;obtain⟨kv,e1,rfl⟩:=BE.mp hkk;exact⟨_,rfl,LQ (s:={ s with heap:=h',toks:=tk }) (n := "dict_keyiterator") go gc gd δ ⟨kV kv.1,H,I1,Y0 hv,⟨rfl,kv,e1,rfl⟩,st'.1,fun b hb=>(hf b hb).1⟩⟩
 done:=by
  intro X hP hw hK hc i pins s σ H E I hf st hg;subst hP hw hK;obtain⟨f0,f1,f2,f3,f4,f5⟩:=hf it (by simp);obtain⟨hg,hd⟩:=hg;have hlen:kvs.length=vs.length:=by have:=congrArg FF hkv;rwa [AE,AE] at this
  have go:s.heap.get? d=some o:=(I.hok d _ hd).1;exact wpAny_pyNext_dict_end (I.ok.hd hc) st (hA _ go) (EE ω) fun h' eb=>⟨rfl,I.turned (t':=s.toks) (fun b o hb e=>eb b o hb e) f0 f1 f3 f4 f5⟩
 self:=fun A i s Q E st h=>wpAny_pyIter_keyiter st h
noncomputable def Dr (te:TE):TI:=fun σ H R=>te σ H fun x H1=>∃d kvs,x=.ref d/\((H1 d=some (.dK kvs)/\∀o,R (ItF o d kvs) (upd H1 d (.frz o (.dK kvs))))\/∃o,H1 d=some (.frz o (.dK kvs))/\R (ItF o d kvs) H1)
theorem R5 {tg:Expr}(he:PE X e te):PI X tg e (Dr te):=by
 intro pins s σ H R I h;refine thn (he pins s σ H _ I h) fun v s1 ⟨x,H1,I1,r1,d,kvs,ex,q⟩=>?_;subst ex;cases r1;have key:∀(o:Obj)(H2:Hp),Inv X pins σ H2 s1->H2 d=some (.frz o (.dK kvs))->R (ItF o d kvs) H2->AG (AW X.prog X.w) X.A (pyIter (.ref d)) (PIE X pins σ tg R) X.xe s1:=fun o H2 I2 e2 q2=>by
  obtain⟨z,hd,vs,rel,dd⟩:=G6 I2.hok (.inr ⟨o,e2⟩);obtain⟨o',es,ep,g,hex,hdat,hk,hp,hnd⟩:=dd;have go:s1.heap.get? d=some o:=(I2.hok d _ e2).1;have eo:o'=o:=by rw[go] at g;exact(BN g).symm
  subst eo;have hA:∀h:Heap,h.get? d=some o'->Heap.DictAt (aP X.prog X.w) h d vs ep:=fun h g=>⟨o',es,g,hex,hdat,hk,hp,hnd⟩;have ltd:=A4 g;have I3:=I2.kept (t':=s1.toks) (h':=s1.heap.push { cls:=.type "dict_keyiterator",data:=.fields #[.ref d,.int 0 0,.int (vs.length:Nat) 0,.int (ep:Nat) 0] }) fun b o e=>AA _ e;refine wpAny_pyIter_dict hd (hA _ g) ?_;refine⟨s1.heap.objs.size,[s1.heap.objs.size],_,_,H2,rfl,I3,Ib s1.heap.objs.size d (B2 ltd) o' kvs vs ep rel.keys hA,⟨_,AQ _ rfl,rfl,rfl⟩,fun b hb=>?_,q2⟩;rw[AK.mp hb];exact I2.JW (AZ _) (I2.hok.fresh (AZ _))
 rcases q with⟨e1,q⟩|⟨o,e1,q⟩
 ·obtain⟨z,hd,vs,rel,o,es,ep,g,_⟩:=Br I1.hok e1;exact key o _ (I1.ab4 e1 g) aq (q o)
 exact key o _ I1 e1 q
theorem Fv {tg:Expr}(he:QE X e te):QI X tg e (Dr te):=⟨R5 he.h⟩
end
noncomputable abbrev mQ:=List Nat->Pl->Int
noncomputable def chD (f:mQ)(ss:Sts)(left:List Nat)(w:Wy):A1:=.tuple [.int (f left (gW w)),.tuple (hdL w),.list ((fB ss left w).map ptD)]
noncomputable def PL (f:mQ)(n:Nat)(H:Hp)(ca:Addr):Prop:=∃cds:List Addr,H ca=some (.lst (cds.map V.ref))/\cds.length=2^n/\∀x d,0<x->cds[x]?=some d->∃kvs,H d=some (.dK kvs)/\∀p:Pl,jt kvs (D0 (jB p))=some (.int (f (bC n x) p))
theorem PL.same {f:mQ}{n:Nat}{H H':Hp}{ca:Addr}(h:PL f n H ca)(s:Same H H'):PL f n H' ca:=by
 obtain⟨cds,e,l,h⟩:=h;exact⟨cds,s _ _ e,l,fun x d h0 hx=>by obtain⟨kvs,ek,hk⟩:=h x d h0 hx;exact⟨kvs,s _ _ ek,hk⟩⟩
noncomputable def Aq (n:Nat):Sp:=fun vs H Q _=>∃(s:V)(wa z:Addr)(ok:Addr->Prop)(ss:Sts)(ws zs:List Int),vs=[s,.ref wa,.ref z]/\cQ ok H/\aG ok H s (.list (ss.map stD))/\ss.length=n/\H wa=some (.lst (ws.map V.int))/\ws.length=n/\H z=some (.tup (zs.map V.int))/\zs.length=5/\Few zs /\
 ∀ca H',Same H H'->H ca=none->PL (cN ws zs) n H' ca->Q (.ref ca) H'
noncomputable def Ar (f:mQ)(n:Nat):Sp:=fun vs H Q _=>∃(s:V)(ca:Addr)(x:Nat)(ok:Addr->Prop)(ss:Sts),vs=[s,.ref ca,.int (x:Int)]/\cQ ok H/\aG ok H s (.list (ss.map stD))/\ss.length=n/\0<x/\x<2^n/\PL f n H ca /\
 ∀(r:Addr)(xs:List V)(W:List Wy) H',Same H H'->H r=none->H' r=some (.lst xs)->(∀w,w∈W↔pZ ss (bC n x) w)->aH ok H' xs (W.map (chD f ss (bC n x)))->xs.length<=1000->Q (.ref r) H'
structure Vm (f:mQ)(ss:Sts)(left:List Nat)(ok:Addr->Prop)(H:Hp)(r na:Addr)(xs:List V)(W:List Wy)(N:List Int):Prop where
 er:H r=some (.lst xs)
 t:aH ok H xs (W.map (chD f ss left))
 hx:xs.length<=1000
 en:H na=some (.lst (N.map V.int))
 lt:∀w∈W,∀p∈fB ss left w,aY p<N.length
noncomputable def Ez (f:mQ):Sp:=fun vs H Q _=>∃(r na:Addr)(ok:Addr->Prop)(ss:Sts)(left:List Nat)(xs:List V)(W:List Wy)(N:List Int),vs=[.ref r,.ref na]/\Vm f ss left ok H r na xs W N /\
 ∀b H',Same H H'->H b=none->H' b=some (.lst ((W.map (jl f N ss left)).map V.int))->Q (.ref b) H'
noncomputable def Qg (ss:Sts)(left:List Nat)(PD:List A1)(w:Wy):A1:=.tuple (hdL w++(fB ss left w).map fun p=>PD.getD (aY p) .none)
noncomputable def Am (f:mQ):Sp:=fun vs H Q _=>∃(r na pa:Addr)(ok:Addr->Prop)(ss:Sts)(left:List Nat)(xs:List V)(W:List Wy)(N:List Int)(ps:List V)(PD:List A1),vs=[.ref r,.ref na,.ref pa]/\Vm f ss left ok H r na xs W N/\cQ ok H/\H pa=some (.lst ps)/\aH ok H ps PD/\PD.length=N.length/\W≠[] /\
 ∀(v:V) w H',Same H H'->w∈W->(∀w'∈W,jl f N ss left w<=jl f N ss left w')->aG ok H' v (.tuple [.int (jl f N ss left w),Qg ss left PD w])->Q v H'
noncomputable def Fy:List Pl->List A1
 | []=>[]
 | _::r=>.none::r.map plD
theorem xP (T:List Pl):(Fy T).length=T.length:=by
 cases T with
 | nil=>rfl
 | cons a r=>show(r.map plD).length+1=_;rw[AE];rfl
theorem KZ {T:List Pl}{x:Nat}(h0:0<x)(h:x<T.length):(Fy T).getD x .none=plD (T.getD x .tab):=by
 match T,x,h0,h with
 | a::r,x+1,_,h=>
  show(r.map plD).getD x .none=plD (r.getD x .tab);rw[AN,AN,AU,AF (by simpa using h)];rfl
theorem Nv {T:List Pl}(h:T≠[])(p:Pl):Fy (T++[p])=Fy T++[plD p]:=by
 match T,h with
 | a::r,_=>
  show A1.none::(r++[p]).map plD=A1.none::r.map plD++[plD p];rw[A6];rfl
theorem Fx (ss:Sts)(left:List Nat)(w:Wy):(fB ss left w).length<=2:=by cases w <;> simp [fB]
theorem Yg (w:Wy):(hdL w).length<=2:=by cases w <;> simp [hdL]
noncomputable def Ey (f:mQ)(n:Nat):Sp:=fun vs H Q _=>∃(s:V)(ca:Addr)(ok:Addr->Prop)(ss:Sts),vs=[s,.ref ca]/\cQ ok H/\aG ok H s (.list (ss.map stD))/\ss.length=n/\PL f n H ca /\
 ∀(t na pa:Addr)(N:List Int)(T:List Pl)(ps:List V) H',Same H H'->H' t=some (.tup [.ref na,.ref pa])->H' na=some (.lst (N.map V.int))->H' pa=some (.lst ps)->aH ok H' ps (Fy T)->Tbl f ss n (2^n) N->PlT f ss n (2^n) N T->Q (.ref t) H'
noncomputable def uw (n:Nat):Sp:=fun vs H Q _=>∃(s:V)(wa z:Addr)(ok:Addr->Prop)(ss:Sts)(ws zs:List Int),vs=[s,.ref wa,.ref z]/\cQ ok H/\aG ok H s (.list (ss.map stD))/\ss.length=n/\H wa=some (.lst (ws.map V.int))/\ws.length=n/\H z=some (.tup (zs.map V.int))/\zs.length=5/\Few zs /\
 ∀(v:V)(pl:Pl)(N:List Int) H',Same H H'->aG ok H' v (.tuple [.int (N.getD (2^n-1) 0),plD pl])->PlV ss pl (BO n)->bU pl+1<=2*n->oU ss (cN ws zs) pl (BO n)=N.getD (2^n-1) 0->Tbl (cN ws zs) ss n (2^n) N->Q v H'
theorem yX (n:Nat):bC n (2^n-1)=BO n:=by
 unfold bC;refine KW.mpr fun k hk=>?_;rw[Nat.testBit_two_pow_sub_one];exact decide_eq_true (mem_range.mp hk)
end L2
set_option maxHeartbeats 8000000
namespace L2
open PySem PySem.Spec PyProof.Rows
end L2
set_option maxHeartbeats 4000000
namespace L2
open PySem PySem.Spec PyProof.Rows
end L2
namespace SRT
open PySem PySem.Builtin PySem.Builtin.List PyProof.Rows
noncomputable def Vv:SortKind:=(sortPriv% PySem.Builtin.KeyKind.tuples) true
end SRT
namespace SRT
open PySem PyProof.Rows
structure RB (a₀:Array E9)(st:GM):Prop where
 kind:kindOf st=Vv
 perm:(arrOf st).toList.Perm a₀.toList
 fail:failedOf st=none
 pend:ER st=#[]
end SRT
namespace SRT
open PySem PyProof.Rows
end SRT
namespace SRT
open PySem PyProof.Rows
end SRT
namespace SRT
open PySem PyProof.Rows
end SRT
namespace L2
open PySem PySem.Spec PyProof.Rows
end L2
namespace SRT
open PySem PyProof.Rows
end SRT
namespace SRT
open PySem PyProof.Rows
end SRT
namespace L2
open PySem PySem.Spec PyProof.Rows
theorem Sv {prog:AR}{w:Bi}{A:Bz}{E:Ap->AB->Prop}{s:AB}{d p:Addr}{kvs:List (Key×Ap)}{k:Key}{u v:Ap}{hd:Ap->Sem (List Ap)}{el:List Ap->Sem Unit}{Q:Unit->AB->Prop}(hp:JA s.heap p #[u,v])(hk:(aP prog w).is k u=true)(hd':s.heap.DictOf (aP prog w) d kvs)(hz:kvs.length<=AL)
  (hQ:∀h',h'.DictOf (aP prog w) d (HP kvs k v)->B5 d s.heap h'->Q () { s with heap:=h',toks:=s.toks+1 }) :
  AG (AW prog w) A (EM [Ap.ref p] (do
   let pair <- (AI.Dict.pairItems (Ap.ref p)).tryCatch hd
   match pair with
    | [k,v]=>EM [k,v] (dictSet d k v)
    | l=>el l)) Q E s:=by
 obtain⟨o,ho,hc,n,hs⟩:=hp;refine BD (An (wpAny_tryCatch ?_));unfold AI.Dict.pairItems;refine An (C6 (T := "tuple") ⟨_,ho,hc⟩ (Ch rfl ?_));refine An (B4 ho hs (Au ?_));show AG _ _ (EM [u,v] (dictSet d u v)) _ _ _;exact BD (K0 hk hd' hQ hz)
noncomputable def Hy (prog:AR)(w:Bi)(h:Heap)(rs:List (Key×Ap))(ps:Array Ap)(bad:List Addr):Prop:=
 ps.size=rs.length/\∀(j:Nat) kv,rs[j]?=some kv->∃p u,ps[j]?=some (.ref p)/\JA h p #[u,kv.2]/\(aP prog w).is kv.1 u=true/\p∉bad
theorem Hy.keep {prog:AR}{w:Bi}{h h':Heap}{rs:List (Key×Ap)}{ps:Array Ap}{bad:List Addr}(P:Hy prog w h rs ps bad)(k:∀c o,c∉bad->h.get? c=some o->h'.get? c=some o):Hy prog w h' rs ps bad:=
 ⟨P.1,fun j kv e=>by
  obtain⟨p,u,e1,e2,e3,e4⟩:=P.2 j kv e;obtain⟨o,e5,e6⟩:=e2;exact⟨p,u,e1,⟨o,k p o e4 e5,e6⟩,e3,e4⟩⟩
theorem aa0 {prog:AR}{w:Bi}{A:Bz}{R:Result->AB->Prop}{it l d:Addr}{rs:List (Key×Ap)}{ps:Array Ap}(hh:A.handled=none)(dit:d≠it)(dl:d≠l)(lit:l≠it) :
  ∀(m i:Nat)(s:AB)(kvs:List (Key×Ap)),rs.length-i=m->i<=rs.length->s.heap.IsListIter it l i->s.heap.IsList l ps->Hy prog w s.heap rs ps [it,d]->s.heap.DictOf (aP prog w) d kvs->kvs.length+m<=AL ->
   (∀(h':Heap)(t':Nat),h'.DictOf (aP prog w) d (merged kvs (rs.drop i))->(∀c o,c≠it->c≠d->s.heap.get? c=some o->h'.get? c=some o)->R (.ok (.ret .none)) { s with heap:=h',toks:=t' }) ->
   Ff (AW prog w) A (Hn "dict.update.loop" { pos:=[Ap.ref d,Ap.ref it,DT i,Ap.none] }) R s
 | 0,i,s,kvs,hm,hi,hit,hls,P,hd,hl,hR=>by
  have hi':i=rs.length:=ω;subst hi';refine DA fZ ?_;show AG _ _ (EO (Ap.ref it) >>= _) _ _ _;refine An (wpAny_pyNext_list_end (A:=A.under _) hh hit hls (by rw[Array.getElem?_eq_none_iff];exact le_of_eq P.1) fun h' hk=>?_);show AG _ _ (AI.Dict.addKeywords d [] >>= _) _ _ _;refine An ?_;show AG _ _ (pure ()) _ _ _;refine Au (Au ?_);refine hR h' s.toks ?_ fun c o c1 _ e=>hk c o c1 e;rw[List.drop_length];obtain⟨o,es,ep,e,r⟩:=hd;exact⟨o,es,ep,hk d o dit e,r⟩
 | m+1,i,s,kvs,hm,hi,hit,hls,P,hd,hl,hR=>by
  have hlt:i<rs.length:=ω;have hrs:rs[i]?=some rs[i]:=AF hlt;obtain⟨p,u,hx,hpr,hk,hbad⟩:=P.2 i _ hrs;refine DA fZ ?_;show AG _ _ (EO (Ap.ref it) >>= _) _ _ _;refine An (wpAny_pyNext_list_item hit hls hx fun h' hit' sb=>?_);have old:∀c o,c≠it->s.heap.get? c=some o->h'.get? c=some o:=fun c o c1 e=>(sb.2 c c1).trans e;have hd':h'.DictOf (aP prog w) d kvs:=by
   obtain⟨o,es,ep,e,r⟩:=hd;exact⟨o,es,ep,old d o dit e,r⟩
  have pit:p≠it:=fun z=>hbad (by rw[z];exact A0);have hpr':JA h' p #[u,rs[i].2]:=by
   obtain⟨o,e5,e6⟩:=hpr;exact⟨o,old p o pit e5,e6⟩
  refine An (Sv (s:={ s with heap:=h' }) hpr' hk hd' ω fun h'' hd'' sb2=>?_);refine Au ⟨Fm _ ψ,?_⟩;show Ff _ _ (Hn "dict.update.loop" { pos:=[Ap.ref d,Ap.ref it,DT ((i:Int)+1),Ap.none] }) _ _;rw[show((i:Int)+1)=((i+1:Nat):Int) by omega];have old2:∀c o,c≠it->c≠d->s.heap.get? c=some o->h''.get? c=some o:=fun c o c1 c2 e=>(sb2.2 c c2).trans (old c o c1 e);refine aa0 hh dit dl lit m (i+1) _ (HP kvs rs[i].1 rs[i].2) ω ω (hit'.at fun o e=>(sb2.2 it (BA dit)).trans e) ?_ (P.keep fun c o cb e=>old2 c o (fun z=>cb (by rw[z];exact A0)) (fun z=>cb (by rw[z];exact B1 _ A0)) e) hd'' (by have:=um kvs rs[i].1 rs[i].2;omega) fun h3 t3 hd3 old3=>?_
  ·obtain⟨o,e,r⟩:=hls;exact⟨o,old2 l o lit (BA dl) e,r⟩
  refine hR h3 t3 ?_ fun c o c1 c2 e=>old3 c o c1 c2 (old2 c o c1 c2 e);rw[Iq hlt];exact hd3
theorem Gp:IX (Ap.type "list") (Cb "keys")=pure none:=JP (by rfl)
theorem yu:IX (Ap.type "list") (Cb "__getattr__")=pure none:=JP (by rfl)
theorem uQ (a:Addr) (vs:Array Ap) (k:Nat) (u:Tok):Meets (AI.«object.__getattribute__» { pos:=[Ap.ref a,Ap.str (Cb "keys") u] }) fun A R s=>
  s.heap.get? a=some { cls:=Ap.type "list",data:=DE vs k }/\raisesAttr (Ap.ref a) (Cb "keys") A R s:=by
 refine Iy fun prog w A R s hs=>?_;obtain⟨hp,g,d,tk,os⟩:=s;obtain⟨hx,hr⟩:=hs;have hT:(⟨hp,g,d,tk,os⟩:AB).TypeIs (Ap.ref a) "list" := ⟨_,hx,rfl⟩;unfold AI.«object.__getattribute__» slotArgs;refine An (AY rfl (AY rfl (Au ?_)));refine An ?_;show AG _ _ (pure (Cb "keys")) _ _ _;refine Au ?_;refine An (C6 hT ?_);refine An ?_;unfold AI.ObjectAttr.find;refine An (Da Gp ?_);refine An ?_;show AG _ _ (pure none) _ _ _;refine Au (An ?_);show AG _ _ (pure none) _ _ _;refine Au ?_;show AG _ _ (AI.ObjectAttr.ownThenClass (Ap.ref a) (Cb "keys") none none) _ _ _;unfold AI.ObjectAttr.ownThenClass;refine An ?_;unfold AI.ObjectAttr.inOwnDict;refine An ?_;unfold AI.ObjectAttr.ownDict;refine An (JU hx ?_);show AG _ _ (instanceDict a false) _ _ _;unfold instanceDict;refine An (JU hx (Ch rfl (Au ?_)));show AG _ _ (pure none) _ _ _;refine Au ?_;show AG _ _ (AI.ObjectAttr.copiedAttributeGuard (Cb "keys") (Ap.ref a) >>= _) _ _ _;refine An ?_;unfold AI.ObjectAttr.copiedAttributeGuard;refine AY δ (Au ?_);show AG _ _ (rule _ >>= _) _ _ _;refine An (DS (Au ?_));refine AY rfl ?_;refine AY rfl ?_;show AG _ _ (typeNameOfCut 100 (Ap.ref a) >>= _) _ _ _;refine An ?_;show AG _ _ (shownTypeOf (Ap.ref a) >>= _) _ _ _;refine An ?_;show AG _ _ (typeOf (Ap.ref a) >>= _) _ _ _;refine An (C6 hT ?_);refine AY rfl (Au ?_);show AG _ _ (pure _) _ _ _;refine Au ?_;exact wpAny_raiseAttrError hr.1 hr.2 (attrMsg_fits δ δ)
theorem zQ {prog:AR}{w:Bi}{A:Bz}{E:Ap->AB->Prop}{s:AB}{a:Addr}{vs:Array Ap}{k:Nat}{Q:Option Ap->AB->Prop}(hh:A.handled=none) (hx:s.heap.get? a=some { cls:=Ap.type "list",data:=DE vs k })
  (h:∀(h':Heap)(tk:Nat),(∀c o,s.heap.get? c=some o->h'.get? c=some o)->Q none { s with heap:=h',toks:=tk }):AG (AW prog w) A (getAttr? (Ap.ref a) (Cb "keys")) Q E s:=by
 obtain⟨hp,g,d,tk,os⟩:=s;have hT:∀tk,(⟨hp,g,d,tk,os⟩:AB).TypeIs (Ap.ref a) "list" := fun _=>⟨_,hx,rfl⟩;unfold getAttr? mkText;refine An (An (wpAny_fresh' (Au ?_)));unfold getAttrBy?;refine An (Db ?_);unfold getAttrBy;refine BD (An (C6 (hT _) ?_));refine An (Da IH.lookup ?_);show AG _ _ (ite _ _ _) _ _ _;refine AY rfl ?_;unfold getAttrByItsOwn hookBefore;refine An (AY rfl (Au ?_));refine An (Db (BD ?_));unfold callGetattribute;refine AY rfl ?_;unfold boundAndCalled;refine An (Da (IH.bind (Ap.ref a)) ?_);refine Ee IH (hT _) F.entry_list_ga (F.args_list_getattribute_2 _ _) (uQ a vs k _) ⟨hx,hh,fun h' tk' e ne=>?_⟩;obtain⟨t,u,he⟩:=ne.there;have hTe:(⟨h',g,d,tk',os⟩:AB).TypeIs (Ap.ref e) "AttributeError" := ⟨_,he,rfl⟩;unfold getattributeRaised;refine An (DZ hTe HU (Ch rfl ?_));unfold hookBehind;refine An (AY rfl (Da yu ?_));show AG _ _ (throw (Ap.ref e) >>= _) _ _ _;refine An (wpAny_throw ?_);show AG _ _ (isInstance (Ap.ref e) (Ap.type "AttributeError") >>= _) _ _ _;refine An (DZ hTe HU (Ch rfl (Au ?_)));exact h h' tk' fun c o e=>ne.keeps c o e
noncomputable def putAll (kvs prs:List (Key×V)):List (Key×V):=prs.foldl (fun acc kv=>putK acc kv.1 kv.2) kvs
theorem KV.putAll:∀{prs:List (Key×V)}{rs:List (Key×Ap)}{kvs:List (Key×V)}{vs:List (Key×Ap)},KV kvs vs->KV prs rs->KV (putAll kvs prs) (merged vs rs)
 | [],_,_,_,r,h=>by cases h;exact r
 | kv::prs,_,kvs,vs,r,h=>by
  cases h with
  | cons e t=>
   rename_i kv' rs;obtain⟨k,v⟩:=kv;obtain⟨k',v'⟩:=kv';obtain⟨e1,e2⟩:=e;cases e1;exact KV.putAll (prs:=prs) (kvs:=putK kvs k v) (vs:=HP vs k v') (r.put k e2) t
theorem uF:∀(prs kvs:List (Key×V)),(putAll kvs prs).length<=kvs.length+prs.length
 | [],kvs=>AZ _
 | kv::prs,kvs=>by
  have h1:=uF prs (putK kvs kv.1 kv.2);have h2:=iy kvs kv.1 kv.2;show(putAll (putK kvs kv.1 kv.2) prs).length<=_;rw[Co];omega
theorem RW {prog:AR}{w:Bi}{H:Hp}{h:Heap}(hok:HOk prog w H h):∀(ads:List Addr)(prs:List (Key×V)),ads.length=prs.length->(∀(j:Nat) p kv,ads[j]?=some p->prs[j]?=some kv->H p=some (.tup [kV kv.1,kv.2])) ->
  ∃rs,KV prs rs/\rs.length=prs.length/\∀(j:Nat) kv,rs[j]?=some kv->∃p u xs,ads[j]?=some p/\JA h p #[u,kv.2]/\(aP prog w).is kv.1 u=true/\H p=some (.tup xs)
 | [],[],_,_=>⟨[],.nil,rfl,fun j kv e=>by simp at e⟩
 | p::ads,kv::prs,hl,hp=>by
  obtain⟨rs,k1,k2,k3⟩:=RW hok ads prs (by simpa using hl) fun j p kv e1 e2=>hp (j+1) p kv (by simpa using e1) (by simpa using e2);have e0:=hp 0 p kv rfl rfl;obtain⟨_,its,r,tp⟩:=hok p _ e0;cases r with
  | cons r1 t1=>
   cases t1 with
   | cons r2 t2=>
    cases t2;rename_i u v;refine⟨(kv.1,v)::rs,.cons ⟨rfl,r2⟩ k1,by simp [k2],fun j q e=>?_⟩;cases j with
    | zero=>
     simp only[F1,IB] at e;subst e;exact⟨p,u,_,rfl,tp,yx r1,e0⟩
    | succ j=>
     rw[F2] at e;obtain⟨p',u',xs,e1,e2,e3,e4⟩:=k3 j q e;exact⟨p',u',xs,by simpa using e1,e2,e3,e4⟩
theorem wO:∀{ads:List Addr}{its:List Ap},Vals (ads.map V.ref) its->its=ads.map Ap.ref
 | [],_,h=>by cases h;rfl
 | a::ads,_,h=>by
  cases h with
  | cons r t=>
   rw[wO t];cases (show _=Ap.ref a from r);rfl
noncomputable def stW (ss:Sts)(left:List Nat)(w:Wy):A1:=.tuple [.str (jB (gW w)),.list ((fB ss left w).map ptD)]
noncomputable def oJ (ss:Sts)(left:List Nat)(k:Nat):List Wy:=(if 1<left.length then .wit k::(if (bV ss k).1=(bV ss k).2.1 then [.one k] else []) else [])++if left.filter (· < k)=[] then [] else [.low k]
noncomputable def Jy (ss:Sts)(left:List Nat)(L:List Int)(mn mx:Int):List Wy:=if cG ss left<=64/\mn<mx then L.map Wy.msk else []
noncomputable def vW (mn mx:Int):List Wy:=if mn=mx then [.pick mn] else []
noncomputable def Ue (ss:Sts)(left:List Nat)(L:List Int)(mn mx:Int):List Wy:=vW mn mx++wyT ss left++left.flatMap (oJ ss left)++Jy ss left L mn mx
noncomputable def stB (m:Nat):Nat:=if m=1 then 2 else 4*m
structure MinMax (ss:Sts)(left:List Nat)(mn mx:Int):Prop where
 a:mn∈left.map (lbl ss)
 b:∀x∈left.map (lbl ss),mn<=x
 c:mx∈left.map (lbl ss)
 d:∀x∈left.map (lbl ss),x<=mx
theorem G5 {left:List Nat}(hu:left.Pairwise (· < ·)){k:Nat}:k∈left.drop 1↔k∈left/\left.filter (· < k)≠[]:=by
 match left,hu with
 | [],_=>simp
 | a::r,hu=>
  have ha:=(D2.mp hu).1;show k∈r↔_;constructor
  ·intro hk;refine⟨B1 _ hk,fun z=>?_⟩;have:a∈(a::r).filter (· < k):=DB.mpr ⟨A0,decide_eq_true (ha k hk)⟩;rw[z] at this;cases this
  rintro⟨hk,hne⟩;rcases A5.mp hk with rfl|hk
  ·refine absurd (GA.mpr fun j hj=>?_) hne;rcases A5.mp hj with rfl|hj
   ·simp
   have:=ha j hj;simp;omega
  exact hk
theorem T6 {ss:Sts}{left:List Nat}{L:List Int}{mn mx:Int}(hL:pY ss left L)(lf:Lf ss left)(hm:MinMax ss left mn mx)(w:Wy):w∈Ue ss left L mn mx↔pZ ss left w:=by
 have at':∀{k},k∈left->mn<=lbl ss k/\lbl ss k<=mx:=fun hk=>⟨hm.b _ (E7 hk),hm.d _ (E7 hk)⟩;obtain⟨kn,hkn,en⟩:=DM.mp hm.a;obtain⟨kx,hkx,ex⟩:=DM.mp hm.c;unfold Ue;rw[CI,CI,CI,Ln,List.mem_flatMap];constructor
 ·rintro(((h|⟨rfl,h⟩)|⟨k,hk,h⟩)|h)
  ·unfold vW at h;split at h
   ·rename_i c;rw[AK.mp h];intro k hk;have:=at' hk;omega
   cases h
  ·exact h
  ·unfold oJ at h;rcases CI.mp h with h|h
   ·split at h
    ·rename_i c;rcases A5.mp h with rfl|h
     ·exact⟨hk,c⟩
     split at h
     ·rename_i e;rw[AK.mp h];exact⟨⟨hk,c⟩,e⟩
     cases h
    cases h
   split at h
   ·cases h
   rename_i c;rw[AK.mp h];exact(G5 lf.up).mpr ⟨hk,c⟩
  unfold Jy at h;split at h
  ·rename_i c;obtain⟨l,hl,rfl⟩:=DM.mp h;refine⟨c.1,(hL.2 l).mp hl,?_⟩;by_cases e:mn=l
   ·exact⟨kx,hkx,ω⟩
   exact⟨kn,hkn,ω⟩
  cases h
 intro h;cases w with
 | pick l=>
  have h1:lbl ss kn=l:=h kn hkn;have h2:lbl ss kx=l:=h kx hkx;refine .inl (.inl (.inl ?_));unfold vW;rw[if_pos ω,show mn=l by omega];exact A0
 | tab=>exact .inl (.inl (.inr ⟨rfl,h⟩))
 | msk l=>
  obtain⟨h1,h2,k,hk,hne⟩:=h;refine .inr ?_;unfold Jy;obtain⟨j,hj,ej⟩:=h2;have:=at' hk;have:=at' hj;rw[if_pos ⟨h1,ω⟩];exact E7 ((hL.2 l).mpr ⟨j,hj,ej⟩)
 | one k=>exact .inl (.inr ⟨k,h.1.1,CI.mpr (.inl (by rw[if_pos h.1.2,if_pos h.2];simp))⟩)
 | wit k=>exact .inl (.inr ⟨k,h.1,CI.mpr (.inl (by rw[if_pos h.2];simp))⟩)
 | low k=>
  obtain⟨h1,h2⟩:=(G5 lf.up).mp (show k∈left.drop 1 from h);exact .inl (.inr ⟨k,h1,CI.mpr (.inr (by rw[if_neg h2];simp))⟩)
theorem Gr (ss:Sts)(left:List Nat)(k:Nat):(oJ ss left k).length<=3:=by
 unfold oJ;rw[AH];have h1:(if 1<left.length then Wy.wit k::(if (bV ss k).1=(bV ss k).2.1 then [Wy.one k] else []) else []).length<=2:=by
  split
  ·split <;> simp
  simp
 have h2:(if left.filter (· < k)=[] then [] else [Wy.low k]).length<=1:=by split <;> simp
 omega
theorem qp (ss:Sts)(left:List Nat):∀l:List Nat,(l.flatMap (oJ ss left)).length<=3*l.length
 | []=>EN _
 | k::l=>by
  have:=qp ss left l;rw[HH,AH,Co];have:=Gr ss left k;omega
theorem Ud {ss:Sts}{left:List Nat}{L:List Int}{mn mx:Int}(hL:0<L.length)(hl:L.length<=left.length)(lf:Lf ss left):(Ue ss left L mn mx).length<=stB left.length:=by
 have h1:(vW mn mx).length+(Jy ss left L mn mx).length<=left.length:=by
  unfold vW Jy;by_cases c:mn=mx
  ·rw[if_pos c,if_neg ω];show 1+0<=_;omega
  rw[if_neg c];show 0+_<=_;split
  ·rw[AE];omega
  exact EN _
 have h2:(wyT ss left).length<=1:=by unfold wyT;split <;> simp
 unfold Ue;rw[AH,AH,AH]
 match left,lf,h1,hl with
 | [],lf,_,_=>exact absurd rfl lf.ne
 | [a],lf,h1,_=>
  have e:oJ ss [a] a=[]:=by
   unfold oJ;rw[if_neg (show ¬1<[a].length from DD 1),if_pos (by simp)];rfl
  rw[HH,e];show _+_+0+_<=2;have:[a].length=1:=rfl;omega
 | a::b::r,lf,h1,_=>
  have hf:(a::b::r).filter (· < a)=[]:=by
   refine GA.mpr fun j hj=>?_;rcases A5.mp hj with rfl|hj
   ·simp
   have:=(D2.mp lf.up).1 j hj;simp;omega
  have e:(oJ ss (a::b::r) a).length<=2:=by
   unfold oJ;rw[if_pos hf,CB];split
   ·split <;> simp
   simp
  have h3:=qp ss (a::b::r) (b::r);rw[HH,AH];unfold stB;have h4:(a::b::r).length=(b::r).length+1:=rfl;have h5:0<(b::r).length:=Nat.succ_pos _;rw[if_neg ω];omega
noncomputable def wW:Sp:=fun vs H Q _=>∃(s:V)(la:Addr)(ok:Addr->Prop)(ss:Sts)(left:List Nat),vs=[s,.ref la]/\cQ ok H/\aG ok H s (.list (ss.map stD))/\H la=some (.lst (nv left))/\Lf ss left/\ss.length<=60/\left.length<=60 /\
 ∀(r:Addr)(xs:List V)(W:List Wy) H',Same H H'->H r=none->H' r=some (.lst xs)->(∀w,w∈W↔pZ ss left w)->aH ok H' xs (W.map (stW ss left))->xs.length<=stB left.length->Q (.ref r) H'
noncomputable abbrev ScP:=mQ->Sts->Hp->Addr->Prop
noncomputable def Ke (Sc:ScP):Prop:=∀f ss H H' sc,Sc f ss H sc->Same H H'->Sc f ss H' sc
noncomputable def vg:ScP:=fun f ss H sc=>∃(wa z:Addr)(ws zs:List Int),f=cN ws zs/\H sc=some (.tup [.str "cost",.ref wa,.ref z])/\H wa=some (.lst (ws.map V.int))/\ws.length=ss.length/\H z=some (.tup (zs.map V.int))/\zs.length=5/\Few zs
theorem vy:Ke vg:=fun f ss H H' sc ⟨wa,z,ws,zs,e,h1,h2,h3,h4,h5⟩ s=>⟨wa,z,ws,zs,e,s _ _ h1,s _ _ h2,h3,s _ _ h4,h5⟩
noncomputable def Im (Sc:ScP):Sp:=fun vs H Q _=>∃(s:V)(sc la:Addr)(ok:Addr->Prop)(f:mQ)(ss:Sts)(left:List Nat)(w:Wy),vs=[s,.ref sc,.ref la,.str (jB (gW w))]/\aG ok H s (.list (ss.map stD))/\Sc f ss H sc/\H la=some (.lst (nv left))/\Lf ss left/\ss.length<=60/\left.length<=60 /\
 ∀H',Same H H'->Q (.int (f left (gW w))) H'
noncomputable def Io (Sc:ScP)(n:Nat):Sp:=fun vs H Q _=>∃(s:V)(sc:Addr)(ok:Addr->Prop)(f:mQ)(ss:Sts),vs=[s,.ref sc]/\cQ ok H/\aG ok H s (.list (ss.map stD))/\ss.length=n/\Sc f ss H sc /\
 ∀(r:Addr)(N:List Int) H',Same H H'->H r=none->H' r=some (.lst (N.map V.int))->Tbl f ss n (2^n) N->Q (.ref r) H'
noncomputable def KS (kvs:List (Key×V))(S:Int->Prop):Prop:=∀k:Key,k∈kvs.map (·.1) ↔ ∃i,k=Ct i/\S i
theorem Oi (kvs:List (Key×V))(k:Key)(v:V)(j:Key):j∈(putK kvs k v).map (·.1)↔j=k\/j∈kvs.map (·.1):=by
 unfold putK;split
 ·rename_i h;have e:(kvs.map fun kv=>if kv.1=k then (kv.1,v) else kv).map (·.1)=kvs.map (·.1):=by
   rw[KO];refine EL fun kv _=>?_;show(if kv.1=k then (kv.1,v) else kv).1=kv.1;split <;> rfl
  rw[e];obtain⟨kv,hkv,ek⟩:=List.any_eq_true.mp h;have:k∈kvs.map (·.1):=DM.mpr ⟨kv,hkv,of_decide_eq_true ek⟩;exact⟨.inr,fun z=>z.elim (fun e=>by rw[e];exact this) id⟩
 rw[A6,CI];show _\/j∈[k]↔_;rw[AK];exact or_comm
theorem vG:∀(prs kvs:List (Key×V)) (j:Key),j∈(putAll kvs prs).map (·.1)↔j∈prs.map (·.1)\/j∈kvs.map (·.1)
 | [],kvs,j=>Iff.intro .inr fun z=>z.elim (fun h=>nomatch h) id
 | kv::prs,kvs,j=>by
  show j∈(putAll (putK kvs kv.1 kv.2) prs).map (·.1)↔j∈kv.1::prs.map (·.1)\/_;rw[vG prs,Oi,A5];constructor
  ·rintro(h|h|h)
   ·exact .inl (.inr h)
   ·exact .inl (.inl h)
   exact .inr h
  rintro((h|h)|h)
  ·exact .inr (.inl h)
  ·exact .inl h
  exact .inr (.inr h)
theorem nq:∀(prs kvs:List (Key×V)),(putAll kvs prs).length<=kvs.length+prs.length
 | [],kvs=>AZ _
 | kv::prs,kvs=>by
  have h1:=nq prs (putK kvs kv.1 kv.2);have h2:=iy kvs kv.1 kv.2;show(putAll (putK kvs kv.1 kv.2) prs).length<=kvs.length+(prs.length+1);omega
theorem KS.nil:KS [] fun _=>False:=fun k=>Iff.intro (fun h=>nomatch h) fun⟨_,_,h⟩=>EG h
theorem KS.one (i:Int)(v:V):KS [(Ct i,v)] fun j=>j=i:=fun k=>by
 show k∈[Ct i]↔_;rw[AK];exact⟨fun h=>⟨i,h,rfl⟩,fun⟨j,h,e⟩=>by rw[h,e]⟩
theorem KS.all {kvs prs:List (Key×V)}{S T:Int->Prop}(h:KS kvs S)(h2:KS prs T):KS (putAll kvs prs) fun i=>S i\/T i:=fun k=>by
 rw[vG,h k,h2 k];constructor
 ·rintro(⟨i,e,t⟩|⟨i,e,t⟩)
  ·exact⟨i,e,.inr t⟩
  exact⟨i,e,.inl t⟩
 rintro⟨i,e,t|t⟩
 ·exact .inr ⟨i,e,t⟩
 exact .inl ⟨i,e,t⟩
theorem KS.imp {kvs:List (Key×V)}{S T:Int->Prop}(h:KS kvs S)(e:∀i,S i↔T i):KS kvs T:=fun k=>by
 rw[h k];exact⟨fun⟨i,a,b⟩=>⟨i,a,(e i).mp b⟩,fun⟨i,a,b⟩=>⟨i,a,(e i).mpr b⟩⟩
theorem Bk:∀(ks:List Key),(∀k∈ks,∃i,k=Ct i)->∃is:List Int,ks=is.map Ct
 | [],_=>⟨[],rfl⟩
 | k::ks,h=>by
  obtain⟨i,rfl⟩:=h k A0;obtain⟨is,e⟩:=Bk ks fun k hk=>h k (B1 _ hk);exact⟨i::is,by rw[e];rfl⟩
theorem KS.list {kvs:List (Key×V)}{S:Int->Prop}(h:KS kvs S):∃is:List Int,kvs.map (·.1)=is.map Ct/\∀i,i∈is↔S i:=by
 obtain⟨is,e⟩:=Bk _ fun k hk=>by obtain⟨i,e,_⟩:=(h k).mp hk;exact⟨i,e⟩
 refine⟨is,e,fun i=>?_⟩;have h1:=h (Ct i);rw[e] at h1;constructor
 ·intro hi;obtain⟨j,ej,s⟩:=h1.mp (E7 hi);cases ej;exact s
 intro s;obtain⟨j,hj,ej⟩:=DM.mp (h1.mpr ⟨i,rfl,s⟩);cases ej;exact hj
theorem KS.of {kvs:List (Key×V)}{is:List Int}(e:kvs.map (·.1)=is.map Ct):KS kvs (·∈is):=fun k=>by
 rw[e,DM];exact⟨fun⟨i,h,e⟩=>⟨i,e.symm,h⟩,fun⟨i,e,h⟩=>⟨i,h,e.symm⟩⟩
noncomputable def nW (S:Int->Prop)(c:Int):Prop:=S c/\∀a,S a->c<=a
noncomputable def aa5 (S T:Int->Prop)(c:Int):Prop:=∃a b,S a/\T b/\c=a+b
theorem nW.sum {S T:Int->Prop}{c d:Int}(h:nW S c)(h2:nW T d):nW (aa5 S T) (c+d):=
 ⟨⟨c,d,h.1,h2.1,rfl⟩,fun x ⟨a,b,ha,hb,e⟩=>by have:=h.2 a ha;have:=h2.2 b hb;omega⟩
noncomputable def Q0:Sp:=fun vs H Q _=>∃(d e:Addr)(kvs more:List (Key×V)) (S T:Int->Prop),vs=[.ref d,.ref e]/\d≠e/\H d=some (.dK kvs)/\H e=some (.dK more)/\KS kvs S/\KS more T/\kvs.length<=800/\more.length<=800 /\
 ∀(r:Addr)(xs:List (Key×V)) H',H r=none->H' r=some (.dK xs)->KS xs (aa5 S T)->xs.length<=kvs.length*more.length->(∀b o,b≠d->b≠e->H b=some o->H' b=some o)->Q (.ref r) H'
noncomputable def wN:Nat->Nat
 | 0=>1
 | 1=>1
 | 2=>4
 | 3=>64
 | _=>1536
noncomputable def allB (m:Nat):Nat:=stB m*wN m
noncomputable def sU:List (List Nat)->Nat
 | []=>1
 | p::r=>allB p.length*sU r
theorem xO:∀(l:List (List Nat)) (p:List Nat),sU (l++[p])=sU l*allB p.length
 | [],p=>by show _*1=1*_;rw[mul_one,Nat.one_mul]
 | q::r,p=>by show _*sU (r++[p])=_*sU r*_;rw[xO r p,Nat.mul_assoc]
theorem YF {a m:Nat}(h0:0<a)(h:a<m)(hm:m<=4):allB a<=wN m/\allB a<=768:=by
 have:a=1\/a=2\/a=3:=by omega
 have:m=2\/m=3\/m=4:=by omega
 rcases ‹a=1\/a=2\/a=3› with rfl|rfl|rfl <;> rcases ‹m=2\/m=3\/m=4› with rfl|rfl|rfl <;> first|(exfalso;omega)|decide
theorem Vl {a b:Nat}(h0:0<a)(h1:0<b)(hm:a+b<=4):allB a*allB b<=wN (a+b):=by
 have:a=1\/a=2\/a=3:=by omega
 have:b=1\/b=2\/b=3:=by omega
 rcases ‹a=1\/a=2\/a=3› with rfl|rfl|rfl <;> rcases ‹b=1\/b=2\/b=3› with rfl|rfl|rfl <;> first|(exfalso;omega)|decide
theorem El (m:Nat):1<=wN m:=by
 match m with
 | 0=>decide
 | 1=>decide
 | 2=>decide
 | 3=>decide
 | _+4=>show 1<=1536;decide
theorem RX {ss:Sts}{left:List Nat}{w:Wy}(lf:Lf ss left)(h:pZ ss left w)(h4:left.length<=4):sU (fB ss left w)<=wN left.length/\∀p∈fB ss left w,allB p.length<=768:=by
 have part:=j6 lf h;have one:∀p∈fB ss left w,allB p.length<=wN left.length/\allB p.length<=768:=fun p hp=>by
  obtain⟨a,_,c⟩:=part p hp;exact YF (D4.mpr a.ne) c h4
 refine⟨?_,fun p hp=>(one p hp).2⟩;have s1:∀p,p∈fB ss left w->sU [p]<=wN left.length:=fun p hp=>by
  show _*1<=_;rw[mul_one];exact(one p hp).1
 cases w with
 | pick l=>exact El _
 | tab=>exact El _
 | msk l=>exact s1 _ A0
 | one k=>exact s1 _ A0
 | wit k=>exact s1 _ A0
 | low k=>
  have hsum:(left.filter (· < k)).length+(left.filter (k<=·)).length=left.length:=by
   have hd:=jG (k:=k) lf.up;have:=congrArg FF hd;rw[EU] at this;have:=Cf (fun x=>decide (x<k)) left;omega
  have p1:=(part _ A0).1.ne;have p2:=(part _ (B1 _ A0)).1.ne;show allB (left.filter (· < k)).length*(allB (left.filter (k<=·)).length*1)<=_;rw[mul_one,<- hsum];exact Vl (D4.mpr p1) (D4.mpr p2) ω
noncomputable def ux (Sc:ScP)(n m:Nat):Sp:=fun vs H Q _=>∃(s:V)(sc:Addr)(x:Nat)(ok:Addr->Prop)(f:mQ)(ss:Sts)(N:List Int),vs=[s,.ref sc,.int (x:Int),.int (n:Int)]/\cQ ok H/\aG ok H s (.list (ss.map stD))/\ss.length=n/\Sc f ss H sc/\0<x/\x<2^n/\(bC n x).length<=m/\Tbl f ss n (2^n) N /\
 ∀(r:Addr)(kvs:List (Key×V)) (S:Int->Prop) H',Same H H'->H r=none->H' r=some (.dK kvs)->KS kvs S->nW S (N.getD x 0)->kvs.length<=allB (bC n x).length->Q (.ref r) H'
noncomputable def Ei (f:mQ)(N:List Int)(ss:Sts)(left:List Nat)(W:List Wy)(S:Int->Prop):Prop:=(∀w∈W,S (jl f N ss left w))/\∀a,S a->∃w∈W,jl f N ss left w<=a
theorem Ei.nil (f:mQ)(N:List Int)(ss:Sts)(left:List Nat):Ei f N ss left [] fun _=>False:=AC (fun _ h=>nomatch h) fun _ h=>EG h
theorem Ei.snoc {f:mQ}{N:List Int}{ss:Sts}{left:List Nat}{W:List Wy}{S T:Int->Prop}{w:Wy}(h:Ei f N ss left W S)(h2:nW T (jl f N ss left w)):Ei f N ss left (W++[w]) fun i=>S i\/T i:=by
 refine⟨fun v hv=>?_,fun a ha=>?_⟩
 ·rcases CI.mp hv with hv|hv
  ·exact .inl (h.1 v hv)
  rw[AK.mp hv];exact .inr h2.1
 rcases ha with ha|ha
 ·obtain⟨v,hv,e⟩:=h.2 a ha;exact⟨v,G2 _ hv,e⟩
 exact⟨w,by simp,h2.2 a ha⟩
theorem Ei.least {f:mQ}{N:List Int}{ss:Sts}{left:List Nat}{W:List Wy}{S:Int->Prop}{c:Int}(h:Ei f N ss left W S)(hW:∀w,w∈W↔pZ ss left w)(hc:nU f N ss left c):nW S c:=by
 obtain⟨⟨w,hw,e⟩,hl⟩:=hc;refine⟨by rw[e];exact h.1 w ((hW w).mpr hw),fun a ha=>?_⟩;obtain⟨v,hv,le⟩:=h.2 a ha;exact Int.le_trans (hl v ((hW v).mp hv)) le
noncomputable def Ko (td ty:TE):TE:=fun σ H Q=>td σ H fun x H1=>∃a,x=.ref a/\IsD H1 a/\ty σ H1 fun y H2=>∃(l:Addr)(kvs more:List (Key×V)),y=.ref l/\a≠l/\H2 a=some (.dK kvs)/\H2 l=some (.dK more) /\
 kvs.length+more.length<=AL/\Q .non (upd H2 a (.dK (putAll kvs more)))
section
variable {X:Cx}{o e:Expr}{apos cpos:Pos}{td ty:TE}
theorem W5 (ho:PE X o td) (he:PE X e ty) (m:M1 X o "update" apos e cpos):PE X (.Call (.Attribute o "update" apos) [e] [] cpos) (Ko td ty):=by
 intro pins s σ H Q I h;refine wpAny_Call_method m.base m.few m.line PySem.F.plainAttrs_dict PySem.F.slot_dict_update PySem.F.type_dict_update (thn (ho pins s σ H _ I h) fun u s1 ⟨x,H1,I1,rx,a,ex,d,q1⟩=>?_);subst ex;obtain rfl:u=Ap.ref a:=rx;obtain⟨t1,t2,_⟩:=aaI I1 d;refine⟨t1,t2,?_⟩;rw[m.trees];refine CS rfl (D3 (CL (thn (he pins s1 σ H1 _ I1 q1) fun iv s2 ⟨y,H2,I2,ry,l,kvs,more,ey,al,ea,el,hz,q2⟩=>CC ?_)));subst ey;obtain rfl:iv=Ap.ref l:=ry;obtain⟨zz,hd,vs,rel,dd⟩:=Br I2.hok ea;obtain⟨zz2,hd2,vs2,rel2,dd2⟩:=Br I2.hok el;have hvl:vs.length=kvs.length:=rel.length.symm;have hvl2:vs2.length=more.length:=rel2.length.symm;refine call_meetsIn PySem.F.slot_dict_update dd.typeIs PySem.F.entry_dict_update (PySem.F.args_dict_update_2 _ _) (meets_dict_update (aP X.prog X.w) a l al hd2) ⟨vs,vs2,dd,dd2,by rw[hvl,hvl2];exact hz,fun h' dd' _ old=>?_⟩;have he':∃q,h'.get? a=some q:=let ⟨q,_,_,hq,_⟩:=dd';⟨q,hq⟩;exact⟨.non,_,wK (t':=s2.toks) I2 (by rw[ea];exact E4) old he' (uZ (BG (uF more kvs) hz) hd (KV.putAll rel rel2) dd'),rfl,q2⟩
theorem KJ (ho:QE X o td) (he:QE X e ty) (m:M1 X o "update" apos e cpos):QE X (.Call (.Attribute o "update" apos) [e] [] cpos) (Ko td ty):=⟨W5 ho.h he.h m⟩
end
theorem Aa {prog:AR}{w:Bi}{A:Bz}{E:Ap->AB->Prop}{s:AB}{l:Addr}{rs:List (Key×Ap)}{ps:Array Ap}{k:Nat}{Q:Ap->AB->Prop}(hh:A.handled=none) (hl:s.heap.get? l=some { cls:=.type "list",data:=.seq ps k }) (P:Hy prog w s.heap rs ps []) (hz:rs.length<=AL) (hb:C2<s.heap.objs.size)
  (hQ:∀(h':Heap)(t':Nat),h'.DictOf (aP prog w) s.heap.objs.size (merged [] rs)->(∀c o,s.heap.get? c=some o->h'.get? c=some o)->Q (.ref s.heap.objs.size) { s with heap:=h',toks:=t' }) :
  AG (AW prog w) A (call (Ap.type "dict") [Ap.ref l]) Q E s:=by
 have fr:∀{c:Addr}{o:Obj},s.heap.get? c=some o->s.heap.objs.size≠c:=fun {c o} e q=>by
  have:=A4 e;rw[<- q] at this;exact DD _ this
 refine callType_codes F.kt_called_dict (F.kt_typeCall_dict_1 _) F.entry_dict_init (kt_code_dict_new _ (Q₁:=fun obj s₁=>obj=Ap.ref s.heap.objs.size/\s₁={ s with heap:=s.heap.push { cls:=Ap.type "dict",data:=F3 #[] } }) ⟨rfl,rfl⟩) fun obj s₁ q=>?_;obtain⟨rfl,rfl⟩:=q;have gd:(s.heap.push { cls:=Ap.type "dict",data:=F3 #[] }).get? s.heap.objs.size=some { cls:=Ap.type "dict",data:=F3 #[] }:=AQ _ rfl;have up:∀c o,s.heap.get? c=some o->(s.heap.push { cls:=Ap.type "dict",data:=F3 #[] }).get? c=some o:=fun c o e=>AA _ e;refine⟨⟨_,gd,rfl⟩,F.args_dict_init_2 _ _,?_⟩;unfold AI.«dict.__init__» AI.Dict.selfAndRest AI.Dict.notOrdered;refine An (An (Ch ψ ?_));refine An (C6 (T := "dict") ⟨_,gd,rfl⟩ (AY rfl (Au ?_)));show AG _ _ (AI.Dict.addrOf (Ap.ref s.heap.objs.size) >>= _) _ _ _;refine An ?_;show AG _ _ (pure s.heap.objs.size) _ _ _;refine Au (Au ?_);show AG _ _ (AI.Dict.updateFrom "dict.__init__" s.heap.objs.size (Ap.ref l) [] Ap.none) _ _ _;unfold AI.Dict.updateFrom;refine An (C6 (T := "list") ⟨_,up l _ hl,rfl⟩ (Ch rfl ?_));refine An (zQ (A:=A.in1.in1) hh (up l _ hl) fun h1 tk kp=>?_);refine Ch rfl ?_;refine An (DS ?_);have up2:∀c o,s.heap.get? c=some o->h1.get? c=some o:=fun c o e=>kp c o (up c o e);have il:h1.IsList l ps:=⟨_,up2 l _ hl,rfl,k,rfl⟩;have hd0:h1.DictOf (aP prog w) s.heap.objs.size []:=by
  obtain⟨_,_,vs,kv,o,es,ep,e,r⟩:=pQ (P:=prog) (w:=w) (H:=fun _=>none) s.heap hb;cases kv;exact⟨o,es,ep,kp _ o e,r⟩
 refine An (EW (s:={ s with heap:=h1,toks:=tk }) il (Au ⟨Fm _ ψ,?_⟩));have up3:∀c o,h1.get? c=some o->(h1.push { cls:=.type "list_iterator",data:=.fields #[.ref l,.int 0 0] }).get? c=some o:=fun c o e=>AA _ e;have lt:∀{c:Addr}{o:Obj},h1.get? c=some o->c≠h1.objs.size:=fun {c o} e q=>by
  have:=A4 e;rw[q] at this;exact DD _ this
 have gd1:∃o,h1.get? s.heap.objs.size=some o:=by obtain⟨o,_,_,e,_⟩:=hd0;exact⟨o,e⟩
 obtain⟨od,ed⟩:=gd1;refine aa0 (A:=A.in1) (it:=h1.objs.size) (l:=l) (d:=s.heap.objs.size) (rs:=rs) (ps:=ps) hh (lt ed) (fr hl) (lt (up2 l _ hl)) rs.length 0 _ [] rfl (EN _) ⟨_,AQ _ rfl,rfl,rfl⟩ ⟨_,up3 l _ (up2 l _ hl),rfl,k,rfl⟩ ?_ ?_ (by simpa using hz) fun h3 t3 d3 old3=>?_
 ·refine⟨P.1,fun j kv e=>?_⟩;obtain⟨p,u,e1,e2,e3,e4⟩:=P.2 j kv e;obtain⟨o5,e5,e6⟩:=e2;refine⟨p,u,e1,⟨o5,up3 p o5 (up2 p o5 e5),e6⟩,e3,fun q=>?_⟩;rcases A5.mp q with q|q
  ·exact lt (up2 p o5 e5) q
  exact fr e5 (AK.mp q).symm
 ·obtain⟨o,es,ep,e,r⟩:=hd0;exact⟨o,es,ep,up3 _ o e,r⟩
 rw[drop_zero] at d3;exact⟨rfl,hQ h3 t3 d3 fun c o e=>old3 c o (lt (up2 c o e)) (BA (fr e)) (up3 c o (up2 c o e))⟩
noncomputable def QF (ta:TA):TE:=fun σ H Q=>ta σ H fun vs H1=>∃(l:Addr)(prs:List (Key×V)) (ads:List Addr),vs=[.ref l]/\H1 l=some (.lst (ads.map V.ref))/\ads.length=prs.length /\
 (∀(j:Nat) p kv,ads[j]?=some p->prs[j]?=some kv->H1 p=some (.tup [kV kv.1,kv.2]))/\prs.length<=AL/\∀d,H1 d=none->Q (.ref d) (upd H1 d (.dK (putAll [] prs)))
section
variable {X:Cx}
theorem Xd {a:Expr}{ta:TA}{p pos:Pos}(hc:X.calm=true) (hg:Gl X "dict") (hm:X.mg "dict" = none) (ha:PA X [a] ta) (hs:AJ [a] X.env=[(false,eval a X.env)]:=by rfl) :
  PE X (.Call (.Name "dict" p) [a] [] pos) (QF ta):=by
 intro pins s σ H Q I h;refine Call_ (iG I hg hm boot_dict (BI (thA (ha pos pins s σ H _ I h) fun us s1 vs H1 I1 r1 q1=>?_) hs rfl));obtain⟨l,prs,ads,rfl,el,hlen,hprs,hz,q⟩:=q1;cases r1 with
 | cons r rr=>
  cases rr;cases r;obtain⟨zl,its,n,rv,gl⟩:=I1.hok l _ el;have eits:=wO rv;obtain⟨rs,k1,k2,k3⟩:=RW I1.hok ads prs hlen hprs;refine Aa (rs:=rs) (ps:=its.toArray) (k:=n) (I1.ok.hd hc) gl ⟨?_,fun j kv ej=>?_⟩ (by rw[k2];exact hz) I1.big fun h3 t3 d3 old=>?_
  ·rw[AX,eits,AE,hlen,k2]
  ·obtain⟨p,u,xs,e1,e2,e3,e4⟩:=k3 j kv ej;refine⟨p,u,?_,e2,e3,A9⟩;rw[GL,eits,AU,e1];rfl
  have hf:H1 s1.heap.objs.size=none:=I1.hok.fresh (AZ _);have hsys:(s1.heap.objs.size == C2)=false:=by
   have t1:@LT.lt Nat _ C2 s1.heap.objs.size:=I1.big;exact beq_false_of_ne (by intro(z:@Eq Nat _ _);omega)
  have hle:=uF prs [];exact⟨.ref s1.heap.objs.size,_,I1.laid (t':=t3) (h':=h3) old (AZ _) (uZ (BG hle (by simpa using hz)) hsys (KV.putAll .nil k1) d3),rfl,q _ hf⟩
theorem Wm {a:Expr}{ta:TA}{p pos:Pos}(hc:X.calm=true) (hg:Gl X "dict") (hm:X.mg "dict" = none) (ha:QA X [a] ta) (hs:AJ [a] X.env=[(false,eval a X.env)]:=by rfl) :
  QE X (.Call (.Name "dict" p) [a] [] pos) (QF ta):=⟨Xd hc hg hm ha.h hs⟩
end
noncomputable def plG:Pl->Pg
 | .pick l=>.pick l
 | .tab=>.tab
 | .one k r=>.one k (plG r)
 | .wit k r=>.wit k (plG r)
 | .low k a b=>.low k (plG a) (plG b)
 | .msk l r=>.msk l (plG r)
theorem Bb:∀p:Pl,pgD (plG p)=plD p
 | .pick l=>rfl
 | .tab=>rfl
 | .one k r=>by show A1.tuple [_,_,pgD (plG r)]=_;rw[Bb r];rfl
 | .wit k r=>by show A1.tuple [_,_,pgD (plG r)]=_;rw[Bb r];rfl
 | .low k a b=>by show A1.tuple [_,_,pgD (plG a),pgD (plG b)]=_;rw[Bb a,Bb b];rfl
 | .msk l r=>by show A1.tuple [_,_,pgD (plG r)]=_;rw[Bb r];rfl
theorem uG:∀p:Pl,WfG (plG p)
 | .pick l=>trivial
 | .tab=>trivial
 | .one k r=>uG r
 | .wit k r=>uG r
 | .low k a b=>⟨uG a,uG b⟩
 | .msk l r=>uG r
theorem qd:∀p:Pl,jC (plG p)=bU p
 | .pick l=>rfl
 | .tab=>rfl
 | .one k r=>congrArg (· + 1) (qd r)
 | .wit k r=>congrArg (· + 1) (qd r)
 | .low k a b=>by show jC (plG a)+jC (plG b)+1=_;rw[qd a,qd b];rfl
 | .msk l r=>congrArg (· + 1) (qd r)
theorem uH (ss:Sts):∀(p:Pl)(left:List Nat),okG ss (plG p) left=okP ss p left
 | .pick l,_=>rfl
 | .tab,_=>rfl
 | .one k r,left=>by show(iQ ss left (.one k (plG r))&&okG ss (plG r) _)=_;rw[uH ss r];rfl
 | .wit k r,left=>by show(iQ ss left (.wit k (plG r))&&okG ss (plG r) _)=_;rw[uH ss r];rfl
 | .low k a b,left=>by show(iQ ss left (.low k (plG a) (plG b))&&(okG ss (plG a) _&&okG ss (plG b) _))=_;rw[uH ss a,uH ss b];rfl
 | .msk l r,left=>by show(iQ ss left (.msk l (plG r))&&okG ss (plG r) _)=_;rw[uH ss r];rfl
theorem qm:∀{ds:List A1},(∀d∈ds,d.canLay0=true)->A1.canLayAll0 ds=true
 | [],_=>rfl
 | d::ds,h=>by
  show(d.canLay0&&A1.canLayAll0 ds)=true;rw[h d A0,qm fun d hd=>h d (B1 _ hd)];rfl
noncomputable def Cd (ss:Sts)(ws:List Int):A1:=.tuple [.list (ss.map stD),.list (ws.map A1.int)]
theorem Ai (ss:Sts)(ws:List Int):(Cd ss ws).canLay0=true/\(Cd ss ws).depth<=100:=by
 constructor
 ·refine qm fun d hd=>?_;rcases A5.mp hd with rfl|hd
  ·refine qm fun d hd=>?_;obtain⟨s,_,rfl⟩:=DM.mp hd;rfl
  rw[AK.mp hd];refine qm fun d hd=>?_;obtain⟨s,_,rfl⟩:=DM.mp hd;rfl
 have h1:=pR (ds:=ss.map stD) (k:=2) fun d hd=>by
  obtain⟨s,_,rfl⟩:=DM.mp hd;show(1:Nat)<=2;decide
 have h2:=pR (ds:=ws.map A1.int) (k:=2) fun d hd=>by
  obtain⟨s,_,rfl⟩:=DM.mp hd;show(0:Nat)<=2;decide
 show max (A1.depthAll (ss.map stD)+1) (max (A1.depthAll (ws.map A1.int)+1) 0)+1<=100;omega
noncomputable def Ew:Sp:=fun vs H Q _=>∃(sa wa z:Addr)(ok:Addr->Prop)(ss:Sts)(ws zs:List Int),vs=[.ref sa,.ref wa,.ref z]/\cQ ok H/\aG ok H (.ref sa) (.list (ss.map stD))/\0<ss.length/\ss.length<=8/\ok wa/\H wa=some (.lst (ws.map V.int))/\ws.length=ss.length/\H z=some (.tup (zs.map V.int))/\zs.length=5/\Few zs /\
 ∀H',Same H H'->Q (.bl true) H'
end L2
local macro_rules | `(tactic| push_cast) => `(tactic| ((try dsimp only [L2.tV, L2.Ig, L2.Ij, L2.Es, L2.tOp, L2.tC, L2.Qp, L2.Et, L2.wU, L2.oR, L2.BX, L2.tCB, L2.tIf, L2.Qw, L2.tB, L2.VB, L2.tOr, L2.Ih, L2.Er, L2.vP, L2.kI, L2.rI0, F1, F2, GU, GV]); try simp only [↓L2.rdy, L2.rdy, ↓reduceIte, reduceCtorEq, Nat.reduceAdd, Nat.reduceSub]))
local macro_rules | `(tactic| push_cast [$ls,*]) => `(tactic| ((try dsimp only [L2.tV, L2.Ig, L2.Ij, L2.Es, L2.tOp, L2.tC, L2.Qp, L2.Et, L2.wU, L2.oR, L2.BX, L2.tCB, L2.tIf, L2.Qw, L2.tB, L2.VB, L2.tOr, L2.Ih, L2.Er, L2.vP, L2.kI, L2.rI0, F1, F2, GU, GV]); try simp only [↓L2.rdy, L2.rdy, ↓reduceIte, reduceCtorEq, Nat.reduceAdd, Nat.reduceSub, $ls,*]))
namespace K33
open PySem L2 PyProof.Rows
noncomputable abbrev q0_:List Str:=["_law_tape_here","_law_many"]
noncomputable abbrev q1_:List Str:=["_law_stretches_here","_law_scale","_law_number","_law_many"]
noncomputable abbrev q2_:List Str:=["stretches","left"]
noncomputable abbrev q3_:List Str:=["_law_stretches_here","_law_scale","_law_left_here","_law_word"]
noncomputable abbrev q4_:List Str:=["stretches","weights","prices"]
noncomputable abbrev q5_:List Str:=["_law_stretches_here","_law_weights_here","_law_prices_here","_law_plan"]
noncomputable abbrev q6_:List Str:=["_law_stretches_here","_law_weights_here","_law_prices_here"]
noncomputable abbrev q7_:List Str:=["_law_stretches_here","_law_left_here"]
noncomputable abbrev q8_:List Str:=["_law_script","_law_k"]
noncomputable abbrev q9_:List Str:=["_law_stretches_here","_law_plan","_law_place"]
noncomputable abbrev q10_:List Str:=["_law_stretches_here","_law_scale"]
noncomputable abbrev q11_:List Str:=["_law_number","_law_many"]
noncomputable abbrev q12_:List Str:=["_law_tape_here","_law_stretches_here"]
noncomputable abbrev q13_:List Str:=["stretches","charges","some"]
noncomputable abbrev q14_:List Str:=["stretches","left","label"]
noncomputable abbrev q15_:List Str:=["stretches","left","thing"]
noncomputable abbrev q16_:List Str:=["stretches","left","plan"]
noncomputable abbrev q17_:List Str:=["weights","prices","left"]
noncomputable abbrev q18_:List Str:=["ways","numbers","plans"]
noncomputable def top (i:Nat):Stmt:=PySem.Challenge.pw_caseways_k33_least_plans_of_all.main.body.getD i (.Pass ⟨0,0,0,0⟩)
noncomputable abbrev BLs:List Str:=["abs","bool","dict","enumerate","int","isinstance","len","list","max","min","range","set","sorted","sum","tuple","zip"]
theorem T9:("abs" : Str)∈BLs:=by decide +kernel
theorem Lq:("bool" : Str)∈BLs:=by decide +kernel
theorem Lp:("dict" : Str)∈BLs:=by decide +kernel
theorem Dl:("enumerate" : Str)∈BLs:=by decide +kernel
theorem uO:("int" : Str)∈BLs:=by decide +kernel
theorem gJ:("isinstance" : Str)∈BLs:=by decide +kernel
theorem d8:("len" : Str)∈BLs:=by decide +kernel
theorem Dk:("list" : Str)∈BLs:=by decide +kernel
theorem Dj:("max" : Str)∈BLs:=by decide +kernel
theorem uN:("min" : Str)∈BLs:=by decide +kernel
theorem fV:("range" : Str)∈BLs:=by decide +kernel
theorem T8:("set" : Str)∈BLs:=by decide +kernel
theorem Bj:("sorted" : Str)∈BLs:=by decide +kernel
theorem rB:("sum" : Str)∈BLs:=by decide +kernel
theorem tG:("tuple" : Str)∈BLs:=by decide +kernel
theorem T7:("zip" : Str)∈BLs:=by decide +kernel
noncomputable abbrev zb:List Str:=["_law_script","_law_k"]
noncomputable abbrev GI_ (s:Stmt)(x:Str):Prop:=(aj s).names.lookup x=some .globalImplicit
noncomputable abbrev NM_ (N:List Str)(s:Stmt)(i:Nat)(x:Str):Prop:=Nm N (aj s) i x
noncomputable abbrev iC:Stmt:=top 30
theorem Ni:bh zb q8_ (aj iC):=⟨rfl,rfl,rfl,ψ,rfl,ψ,ψ⟩
theorem xZ:NM_ zb iC 0 "_law_script" := .of ψ
theorem xY:NM_ zb iC 1 "_law_k" := .of ψ
theorem Dv:GI_ iC "len" := by decide +kernel
theorem Pz:Bn "_law_cell_at" := ⟨ψ,ψ⟩
noncomputable abbrev Eh:List Str:=["_law_script","_law_k","_law_cell"]
noncomputable abbrev ju:Stmt:=top 31
theorem KC:bh Eh q8_ (aj ju):=⟨rfl,rfl,rfl,ψ,rfl,ψ,ψ⟩
theorem Tf:NM_ Eh ju 0 "_law_script" := .of ψ
theorem xV:NM_ Eh ju 1 "_law_k" := .of ψ
theorem sV:NM_ Eh ju 2 "_law_cell" := .of ψ
theorem yE:GI_ ju "_law_cell_at" := by decide +kernel
theorem yD:GI_ ju "abs" := by decide +kernel
theorem JH:GI_ ju "int" := by decide +kernel
theorem Yv:Bn "_law_tape" := ⟨ψ,ψ⟩
noncomputable abbrev vh:List Str:=["_law_tape_here","_law_many","_law_found","_law_prime","_law_once"]
noncomputable abbrev jw:Stmt:=top 32
theorem rR:bh vh q0_ (aj jw):=⟨rfl,rfl,rfl,ψ,rfl,ψ,ψ⟩
theorem d7:NM_ vh jw 0 "_law_tape_here" := .of ψ
theorem pH:NM_ vh jw 1 "_law_many" := .of ψ
theorem pG:NM_ vh jw 2 "_law_found" := .of ψ
theorem Ga:NM_ vh jw 3 "_law_prime" := .of ψ
theorem xW:NM_ vh jw 4 "_law_once" := .of ψ
theorem Dt:GI_ jw "_law_take" := by decide +kernel
theorem cV:Bn "_law_take" := ⟨ψ,ψ⟩
section
variable {P:AR}{w:Bi}{K:AD}{mg:Str->Option Ap}{base:Heap}{f:Addr}{fd:CY}{bs:List Str}
theorem XC (hB:∀x:Str,x∈BLs->mg x=none) (F:Fun K "_law_cell_at" "_law_cell_at" iC f fd):dF P w K mg base CX0 1 f fd q8_ (Q8 K):=by
 refine F.okq Ni (fun vs H Q E h=>?_) (fun cdv A outer s H vs Q E hr h=>?_)
 ·obtain⟨a,ns,k,rfl,_⟩:=h;rfl
 obtain⟨a,ns,k,rfl,hS,h0,q⟩:=h;refine⟨_,(aK (aU (Ba (bx qK (ao xY) (bW jH Dv (hB "len" d8) BH d9 (ak (ao xZ) aA rfl) rfl rfl) (aQ _)) (aL Lz (ao xZ) (ao xY) (fun _ _=>rfl)) au))),?_⟩;push_cast;refine⟨_,.inl hS,?_⟩;split
 ·rename_i c;rw[AE] at c;have hk:k.toNat<ns.length:=ω;have ek:k=((k.toNat:Nat):Int):=ω;have z:atI (ns.map V.int) ((k.toNat:Nat):Int)=some (.int ns[k.toNat]):=dI (by rw[AU,AF hk];rfl);rw[<- ek] at z;unfold abd;exact⟨a,_,k,_,rfl,rfl,hS,z,q _⟩
 exact q _
theorem Xy (hB:∀x:Str,x∈BLs->mg x=none) (CZCellAt:Cal P w K mg base "_law_cell_at" 1 q8_ (Q8 K)) (F:Fun K "_law_tape" "_law_tape" ju f fd):dF P w K mg base CX0 2 f fd q8_ (QZ K):=by
 refine F.okq KC (fun vs H Q E h=>?_) (fun cdv A outer s H vs Q E hr h=>?_)
 ·obtain⟨a,ns,k,rfl,_⟩:=h;rfl
 obtain⟨a,ns,k,rfl,hS,h0,h1,q⟩:=h;refine⟨_,(aF (bG sV KC.nd (bw CZCellAt (hr.mono δ) yE Pz (ak (ao Tf) (ak (ao xV) aA rfl) rfl) rfl rfl) rfl (.inl rfl))
  (aK (aU (bN (ak (aM eG (bW Hh yD (hB "abs" T9) PyProof.Rows.Boot.«abs» Vc (ak (ao sV) aA rfl) rfl rfl) (sO kW JH (hB "int" uO) boot_int vf (ak (gn abw (bW Hh yD (hB "abs" T9) PyProof.Rows.Boot.«abs» Vc (ak (ao sV) aA rfl) rfl rfl) (aM qY au au) (aQ _)) aA rfl) rfl rfl)) (ak (aM iW (aM eG (aM bH (aM bH (aM iW (ao sV) au) (aM eG (aM eG au (ao xV)) (ao xV))) au) au) au) (ak au aA rfl) rfl) rfl))))),?_⟩
 push_cast;refine⟨a,ns,k,rfl,hS,h0,fun v=>?_⟩;push_cast;refine⟨⟨δ,δ,δ⟩,?_,δ,.inl δ,.inr ω,.inr δ,δ,aN δ,fun p hp=>q p _ hp (aB hp) ⟨_,_,_,aq,?_,?_,?_,Int.le_refl _,Int.le_refl _⟩⟩
 ·right;generalize (if v<0 then -v else v)=u;split <;> decide
 ·refine Int.mul_nonneg ?_ ?_
  ·split <;> omega
  generalize (if v<0 then -v else v)=u;split <;> decide
 ·exact FH _ δ
 exact EH _ δ
theorem K5 {n:Nat}(hB:∀x:Str,x∈BLs->mg x=none) (hn:n<=10) (CZTake:Cal P w K mg base "_law_take" n q0_ (mX n)) (F:Fun K "_law_take" "_law_take" jw f fd):dF P w K mg base CX0 (n+1) f fd q0_ (mX (n+1)):=by
 refine F.okq rR (fun vs H Q E h=>?_) (fun cdv A outer s H vs Q E hr h=>?_)
 ·obtain⟨p,m,B,rfl,_⟩:=h;rfl
 obtain⟨p,m,B,rfl,⟨a,b,c,hp,ha,hb0,hb1,hc0,hc1⟩,hB0,hm0,hm1,hn1,hn2,q⟩:=h;refine⟨_,(aF (dm (bx Bf (aL aW (ao d7) au (fun _ _=>rfl)) au (aQ _)) (aF (bG pG rR.nd (aM iW (aL aW (ao d7) au (fun _ _=>rfl)) (ao pH)) rfl (.inl rfl))
  (aF (pA (aM xQ (aL aW (ao d7) au (fun _ _=>rfl)) (ao pH)) (Cz (ao d7) au Rh) rfl rfl rfl)
  (aK (aU (ao pG))))) cg)
  (aF (pA (aM bH (aL aW (ao d7) au (fun _ _=>rfl)) au) (Cz (ao d7) au Rh) rfl rfl rfl)
  (aF (bG Ga rR.nd (aL aW (bN (ak au (ak au (ak au (ak au (ak au (ak au (ak au aA rfl) rfl) rfl) rfl) rfl) rfl) rfl)) (aM iW (aL aW (ao d7) au (fun _ _=>rfl)) au) (fun _ _=>rfl)) rfl (.inl rfl))
  (aF (bG xW rR.nd (aM iW (aM eG (aM bH (aL aW (ao d7) au (fun _ _=>rfl)) (aM eG au (aL aW (ao d7) au (fun _ _=>rfl)))) (aM bH au (aL aW (ao d7) au (fun _ _=>rfl)))) (ao Ga)) rfl (.inl rfl))
  (aF (pA (aM iW (aM bH (aM eG (ao xW) (aM bH (aM iW (ao xW) au) au)) (aL aW (ao d7) au (fun _ _=>rfl))) au) (Cz (ao d7) au Rh) rfl rfl rfl)
  (aF (bG pG rR.nd (aM xQ (aM iW (aM eG (aL aW (ao d7) au (fun _ _=>rfl)) (aM bH (aM iW (aL aW (ao d7) au (fun _ _=>rfl)) au) au)) au) au) rfl (.inl rfl))
  (aK (aU (Ba (bx qK (ao pH) (aM qY au au) (aQ _)) (aM iW (ao pG) (ao pH)) (aM iW (aM bH (aM eG (ao pG) au) (bw CZTake (hr.mono ω) Dt cV (ak (ao d7) (ak au aA rfl) rfl) rfl rfl)) (ao pH))))))))))),?_⟩
 push_cast [hp];split
 ·refine⟨hm0,⟨hm0,hm1⟩,?_⟩;refine q _ _ (FH _ ω) (EH _ hm0) cB.upd ⟨_,_,_,aq,Int.ediv_nonneg ha ω,hb0,hb1,hc0,ω⟩
 refine⟨aN δ,fun p1 hp1=>?_⟩;have np:p≠p1:=fun z=>by rw[<- z,aq] at hp1;cases hp1
 obtain⟨v,hv,v0⟩:=ZV (c+1);push_cast [hp,aJ np,ne_eq,np,not_false_eq_true,hv];have m1:∀x:Int,0<=x%40009/\x%40009<40009:=fun x=>⟨FH _ δ,EH _ δ⟩;have m2:∀x:Int,0<=x%1009/\x%1009<1009:=fun x=>⟨FH _ δ,EH _ δ⟩;have m3:∀x:Int,0<=x%2147483629/\x%2147483629<2147483629:=fun x=>⟨FH _ δ,EH _ δ⟩;refine⟨δ,.inl δ,.inr ω,v0,δ,.inr ?_,δ,δ,.inr ?_,δ,δ,δ,?_⟩
 ·have:=m1 ((b+39373*(c+1))*(48271+(c+1))%v);omega
 ·have:=m2 (((b+39373*(c+1))*(48271+(c+1))%v*((b+39373*(c+1))*(48271+(c+1))%v%40009+7)+(c+1))%2147483629);omega
 have e3:=m3 ((b+39373*(c+1))*(48271+(c+1))%v*((b+39373*(c+1))*(48271+(c+1))%v%40009+7)+(c+1));generalize ((b+39373*(c+1))*(48271+(c+1))%v*((b+39373*(c+1))*(48271+(c+1))%v%40009+7)+(c+1))%2147483629=y at e3 |-;have sx:cB p H (upd (upd (upd H p (HO.lst [V.int a,V.int b,V.int (c+1)])) p1 (HO.lst [V.int 2147483587,V.int 2147483579,V.int 2147483563,V.int 2147483549,V.int 2147483543,V.int 2147483497,V.int 2147483489])) p (HO.lst [V.int a,V.int y,V.int (c+1)])):=
  (cB.upd.trans (aB hp1).x).trans cB.upd
 have tp:b7 (upd (upd (upd H p (HO.lst [V.int a,V.int b,V.int (c+1)])) p1 (HO.lst [V.int 2147483587,V.int 2147483579,V.int 2147483563,V.int 2147483549,V.int 2147483543,V.int 2147483497,V.int 2147483489])) p (HO.lst [V.int a,V.int y,V.int (c+1)])) p (B+1):=
  ⟨a,y,c+1,aq,ha,e3.1,e3.2,ω,ω⟩
 generalize upd (upd (upd H p (HO.lst [V.int a,V.int b,V.int (c+1)])) p1 (HO.lst [V.int 2147483587,V.int 2147483579,V.int 2147483563,V.int 2147483549,V.int 2147483543,V.int 2147483497,V.int 2147483489])) p (HO.lst [V.int a,V.int y,V.int (c+1)])=H2 at sx tp |-;split
 ·refine⟨hm0,q _ _ (FH _ ω) (EH _ hm0) sx ?_⟩;obtain⟨a',b',c',z1,z2,z3,z4,z5,z6⟩:=tp;exact⟨a',b',c',z1,z2,z3,z4,z5,ω⟩
 rename_i hm;have hm':1000000<=m:=by
  rw[show(10:Int)^B0 6=1000000 from by decide] at hm;omega
 have hn3:=hn2 hm';refine⟨.inr δ,p,99991,B+1,rfl,tp,ω,δ,δ,ω,fun z=>absurd z δ,fun r H3 r0 r1 s3 t3=>?_⟩;push_cast;refine⟨hm0,q _ _ (FH _ ω) (EH _ hm0) (sx.trans s3) ?_⟩;obtain⟨a',b',c',z1,z2,z3,z4,z5,z6⟩:=t3;exact⟨a',b',c',z1,z2,z3,z4,z5,ω⟩
theorem Nb:dF P w K mg base CX0 0 f fd q0_ (mX 0):=by
 have no:∀vs H Q E,¬mX 0 vs H Q E:=fun vs H Q E h=>by
  obtain⟨p,m,B,_,_,_,_,_,h1,_⟩:=h;omega
 exact⟨fun vs H Q E h=>absurd h (no vs H Q E),fun A outer s H args us vs Q E _ _ _ _ h=>absurd h (no vs H Q E)⟩
end
noncomputable abbrev nQ:List Str:=["some"]
noncomputable abbrev dG:Stmt:=top 17
theorem zx:bh nQ ["some"] (aj dG):=⟨rfl,rfl,rfl,ψ,rfl,ψ,ψ⟩
theorem yg:NM_ nQ dG 0 "some" := .of ψ
theorem rE:GI_ dG "range" := by decide +kernel
theorem qQ:Bn "stretches_in" := ⟨ψ,ψ⟩
noncomputable abbrev Kh:List Str:=["left"]
noncomputable abbrev m7:Stmt:=top 18
theorem V1:bh Kh ["left"] (aj m7):=⟨rfl,rfl,rfl,ψ,rfl,ψ,ψ⟩
theorem TQ:NM_ Kh m7 0 "left" := .of ψ
theorem JT:GI_ m7 "sum" := by decide +kernel
theorem Mw:Bn "set_of" := ⟨ψ,ψ⟩
noncomputable def Zk (n:Nat):Sp:=fun vs H Q _=>∃s:Nat,vs=[.int (s:Int)]/\s<2^n/\∀p H',Same H H'->H p=none->H' p=some (.lst (nv (bC n s)))->Q (.ref p) H'
noncomputable def rQ:Sp:=fun vs H Q _=>∃(l:Addr)(left:List Nat),vs=[.ref l]/\H l=some (.lst (nv left))/\left.length<=100/\(∀k∈left,k<=100)/\∀H',Same H H'->Q (.int (aY left:Nat)) H'
section
variable {P:AR}{w:Bi}{K:AD}{mg:Str->Option Ap}{base:Heap}{f:Addr}{fd:CY}{bs:List Str}
theorem S7 (hB:∀x:Str,x∈BLs->mg x=none) (F:Fun K "set_of" "set_of" m7 f fd):dF P w K mg base CX0 1 f fd ["left"] rQ:=by
 refine F.okq V1 (fun vs H Q E h=>?_) (fun cdv A outer s H vs Q E hr h=>?_)
 ·obtain⟨l,left,rfl,_⟩:=h;rfl
 obtain⟨l,left,rfl,el,ll,lk,q⟩:=h;refine⟨_,(aK (aU (bW (jf rfl) JT (hB "sum" rB) KL rM (ak (cJ (NX:=Kh) (kX:=(aj m7).names) ["k"] [none] rfl rfl ⟨rfl,ψ,ψ,ψ,ψ⟩ rfl (bY (ao TQ)) (fun _ _ _ _ _=>(bR 0 (show BQ (["k"]:List Str) from by decide +kernel) rfl (C8 rfl))) (fun _ _ _ _ _=>fK) (fun _ _ _ _ _=>(aM j7 au (bA 0)))) aA rfl) rfl rfl))),?_⟩;push_cast;refine cY fun R hR=>?_;push_cast [iH,jF,el,jE];refine iB (fun k=>((2^k:Nat):Int)) (fun τ=>∃o0,τ=[o0]) hR el ω ⟨_,rfl⟩ ?_ ?_
 ·rintro i k' τ acc Pn hk' ⟨o0,rfl⟩ h1;have hk:=lk k' (A7 hk');push_cast;refine⟨⟨ω,ω,δ⟩,?_⟩;rw[Jn,B6,show((2:Int)^k')=((2^k':Nat):Int) by rw[FI];rfl];exact h1 _ ⟨_,rfl⟩
 intro d hd;have s1:=aB (o:=HO.lst ((left.map fun k=>((2^k:Nat):Int)).map V.int)) hd;have e1:upd H d (HO.lst ((left.map fun k=>((2^k:Nat):Int)).map V.int)) d=_:=aq;generalize upd H d (HO.lst ((left.map fun k=>((2^k:Nat):Int)).map V.int))=H1 at s1 e1 |-;push_cast [e1];refine⟨_,rfl,?_⟩;rw[xg];exact q _ s1
theorem S5 {n:Nat}(hn:n<=60) (hB:∀x:Str,x∈BLs->mg x=none) (F:Fun K "stretches_in" "stretches_in" dG f fd):dF P w K mg base CX0 1 f fd ["some"] (Zk n):=by
 refine F.okq zx (fun vs H Q E h=>?_) (fun cdv A outer s H vs Q E hr h=>?_)
 ·obtain⟨s,rfl,_⟩:=h;rfl
 obtain⟨x,rfl,hx,q⟩:=h;refine⟨_,(aK (aU (cJ (NX:=nQ) (kX:=(aj dG).names) ["k","some"] [none,some 0] rfl rfl ⟨rfl,ψ,ψ,ψ,ψ⟩ rfl (ig rE (hB "range" fV) (ak (Wo (ao yg)) aA rfl) rfl) (fun _ _ _ _ _=>(bR 0 (show BQ (["k","some"]:List Str) from by decide +kernel) rfl (C8 rfl))) (fun _ _ _ _ _=>(pC (Ja (aM Sx (aM aae (bA 1) (bA 0)) au)))) (fun _ _ _ _ _=>(bA 0))))),?_⟩;push_cast;refine cY fun R hR=>?_;push_cast [qO,QJ,YB];obtain⟨h1,h2⟩:=Vh hx;generalize AI.Int.intBits (x:Int)=m at h1 h2 |-;refine⟨ω,ω,?_⟩;rw[B6];obtain⟨Pc,hPc⟩:∃Pv:Nat->List V->L2.St->Hp->Prop,Pv=fun(i:Nat) acc τ H'=>∃(o0:Option V),H'=H/\acc=nv (bC i x)/\τ=[o0,some (.int (x:Int))]:=⟨_,rfl⟩;refine u5 hR (aN ω) Pc (by rw[hPc];exact⟨_,rfl,rfl,rfl⟩) ?_ ?_ ?_
 ·intro i acc τ H5 pc;rw[hPc] at pc;obtain⟨_,_,rfl,_⟩:=pc;rw[dZ];exact BG (Cf _ _) (by rw[Fn];exact AZ _)
 ·intro i acc τ H5 hi pc;rw[hPc] at pc;obtain⟨o0,rfl,rfl,rfl⟩:=pc;push_cast;refine⟨ω,?_⟩;rw[zero_add,B6,VP,hPc];by_cases c:x.testBit i=true
  ·rw[if_pos c,if_pos δ];refine⟨_,rfl,?_,rfl⟩;rw[nO,if_pos c];unfold nv;rw[A6];rfl
  rw[if_neg c,if_neg δ];exact⟨_,rfl,by rw[nO,if_neg c,CB],rfl⟩
 intro acc τ H5 d pc hd;rw[hPc] at pc;obtain⟨o0,rfl,rfl,rfl⟩:=pc;rw[J9 h1 hx];exact q d _ (aB hd) hd aq
end
noncomputable abbrev dg:List Str:=["stretches","left","some","ways","k","others","ahead"]
noncomputable abbrev bF:Stmt:=top 20
theorem dB:bh dg q2_ (aj bF):=⟨rfl,rfl,rfl,ψ,rfl,ψ,ψ⟩
theorem mz:NM_ dg bF 0 "stretches" := .of ψ
theorem jb:NM_ dg bF 1 "left" := .of ψ
theorem gh:NM_ dg bF 2 "some" := .of ψ
theorem fu:NM_ dg bF 3 "ways" := .of ψ
theorem bZ:NM_ dg bF 4 "k" := .of ψ
theorem iZ:NM_ dg bF 5 "others" := .of ψ
theorem iY:NM_ dg bF 6 "ahead" := .of ψ
theorem pO:GI_ bF "set_of" := by decide +kernel
theorem wu:Bn "ways_by_stretch" := ⟨ψ,ψ⟩
noncomputable def aa6:Sp:=fun vs H Q _=>∃(s:V)(la:Addr)(ok:Addr->Prop)(ss:Sts)(left:List Nat),vs=[s,.ref la]/\cQ ok H/\aG ok H s (.list (ss.map stD))/\H la=some (.lst (nv left))/\Lf ss left/\ss.length<=60/\left.length<=60 /\
 ∀(r:Addr)(xs:List V) H',Same H H'->H r=none->H' r=some (.lst xs)->aH (fun a=>ok a/\a≠r) H' xs ((MK ss left).map (wyD ss left))->Q (.ref r) H'
section
variable {P:AR}{w:Bi}{K:AD}{mg:Str->Option Ap}{base:Heap}{f:Addr}{fd:CY}{bs:List Str}
theorem SQ (hB:∀x:Str,x∈BLs->mg x=none) (CSetOf:Cal P w K mg base "set_of" 1 ["left"] rQ) (F:Fun K "ways_by_stretch" "ways_by_stretch" bF f fd):dF P w K mg base CX0 2 f fd q2_ aa6:=by
 refine F.okq dB (fun vs H Q E h=>?_) (fun cdv A outer s H vs Q E hr h=>?_)
 ·obtain⟨s,la,ok,ss,left,rfl,_⟩:=h;rfl
 obtain⟨s,la,ok,ss,left,rfl,hnw,ts,el,lf,h60,ll,q⟩:=h;refine⟨_,(aF (bG gh dB.nd (bw CSetOf (hr.mono δ) pO Mw (ak (ao jb) aA rfl) rfl rfl) rfl (.inl rfl))
  (aF (bG fu dB.nd (bN aA) rfl (.inl rfl))
  (aF (gY B7 rfl (bY (ao jb)) (dY bZ dB.nd (.inl rfl))
  (aF (bG iZ dB.nd (aM fP (ao gh) (aM j7 au (ao bZ))) rfl (.inl rfl))
  (aF (dm (bx (cD hr.bO) (aL aW (aL aW (ao mz) (ao bZ) (fun _ _=>rfl)) au (fun _ _=>rfl)) (aL aW (aL aW (ao mz) (ao bZ) (fun _ _=>rfl)) au (fun _ _=>rfl)) (aQ _)) (aK (dw (eV (ao fu) (bQ (ak (bQ (ak bD (ak (ao bZ) aA rfl) rfl)) (ak (bN (ak (ao iZ) aA rfl)) aA rfl) rfl)) rfl rfl rfl rfl rfl) rfl)) cg)
  (aK (dw (eV (ao fu) (bQ (ak (bQ (ak bD (ak (ao bZ) aA rfl) rfl)) (ak (bN (ak (ao iZ) aA rfl)) aA rfl) rfl)) rfl rfl rfl rfl rfl) rfl)))) (fun _=>rfl))
  (aF (gY B7 rfl (bY (pB Rc (ao jb) (su au) sy)) (dY bZ dB.nd (.inl rfl))
  (aF (bG iY dB.nd (aM Sx (ao gh) (aM fP (aM j7 au (ao bZ)) au)) rfl (.inl rfl))
  (aK (dw (eV (ao fu) (bQ (ak (bQ (ak bD (ak (ao bZ) aA rfl) rfl)) (ak (bN (ak (ao iY) (ak (aM fP (ao gh) (ao iY)) aA rfl) rfl)) aA rfl) rfl)) rfl rfl rfl rfl rfl) rfl))) (fun _=>rfl))
  (aK (aU (ao fu))))))),?_⟩
 refine aO fun k hk=>?_;push_cast;refine⟨la,left,rfl,el,ω,fun k hk=>by have:=lf.lt k hk;omega,fun H1 s1=>?_⟩;push_cast;subst hk;refine aO fun k hk=>?_;push_cast;refine⟨aN δ,fun r hr0=>?_⟩;have hrn:H r=none:=s1.none hr0;have s2:=s1.trans (aB (o:=HO.lst []) hr0);have er2:upd H1 r (HO.lst []) r=some (HO.lst []):=aq;generalize upd H1 r (HO.lst [])=H2 at s2 er2 |-;subst hk;obtain⟨ok2,hok2⟩:∃ok2:Addr->Prop,ok2=fun a=>ok a/\a≠r:=⟨_,rfl⟩;have ok2r:∀a,ok2 a->a≠r:=fun a h=>by rw[hok2] at h;exact h.2
 have nwk:∀{H':Hp}{xs:List V},Same H H'->H' r=some (.lst xs)->cQ ok2 H':=fun {H' xs} sH er H3 q s' hq=>by
  rw[hok2];exact⟨hnw H3 q (sH.trans s') hq,(aD (s' _ _ er) hq).symm⟩
 cases ts with
 | lst os es zs tss=>
  rename_i sa sxs;have el2:=s2 _ _ el
  -- one by one
  refine aO fun k hk=>?_;refine kJ fun R hR=>?_;push_cast [iH,jF,el2,jE];obtain⟨Pv,hPv⟩:∃Pv:Nat->L2.St->Hp->Prop,Pv=fun(i:Nat) σ H'=>∃(xs:List V)(o4 o5 o6:Option V),Same H H'/\H' r=some (.lst xs)/\aH ok2 H' xs (((left.take i).flatMap (pF ss)).map (wyD ss left))/\σ=[some (.ref sa),some (.ref la),some (.int ((aY left:Nat):Int)),some (.ref r),o4,o5,o6]:=⟨_,rfl⟩;refine tX hR (xs:=nv left) Pv (by rw[hPv];exact⟨[],_,_,_,s2,er2,.nil,rfl⟩) ?_ ?_ ?_
  ·intro i σ H3 _ pv;rw[hPv] at pv;obtain⟨_,_,_,_,s3,_⟩:=pv;exact SqL.of (s3 _ _ el)
  ·intro i x σ H3 hx pv;rw[hPv] at pv;obtain⟨xs,o4,o5,o6,s3,er3,t3,rfl⟩:=pv;obtain⟨k',hk',rfl⟩:∃k':Nat,left[i]?=some k'/\x=.int (k':Int):=by
    unfold nv at hx;rw[AU] at hx;obtain⟨k',h1,h2⟩:=BE.mp hx;exact⟨k',h1,h2.symm⟩
   have mk:=A7 hk';obtain⟨p1,x1,y1⟩:=tss.stN (lf.lt _ mk);have es3:=s3 _ _ es;have y3:=s3 _ _ y1;have hil:i<left.length:=(AO.mp hk').1;have hxl:=t3.length;have hwl:=wz ss (left.take i);rw[AE] at hxl;rw[ET] at hwl;refine aO fun k2 hk2=>?_;push_cast;refine⟨⟨ω,by have:=lf.lt _ mk;omega,δ⟩,?_⟩;rw[EY lf.up mk];subst hk2;have fin:∀(xs:List V)(ds:List A1)(H4:Hp),Same H H4->H4 r=some (.lst xs)->aH ok2 H4 xs ds->xs.length<=200->ds++[wyD ss left (.wit k')]=((left.take (i+1)).flatMap (pF ss)).map (wyD ss left) ->
     vq (wV (tV 3) (Er (oR (Er (oR (tC (V.str "within")) (oR (tV 4) BX))) (oR (Ih (oR (tV 5) BX)) BX)))) { nx:=Pv (i+1),rt:=Q,bk:=k,ct:=Pv (i+1) } [some (.ref sa),some (.ref la),some (.int ((aY left:Nat):Int)),some (.ref r),some (.int (k':Int)),some (.int ((aY (left.filter (·≠k')):Nat):Int)),o6] H4:=by
    intro xs ds H4 s4 er4 t4 hxl4 hds;have n4:=nwk s4 er4;refine rO (ok:=ok2) rfl er4 ω ok2r t4 (d:=wyD ss left (.wit k')) (gq n4 (aR (gq n4 (aR lM (aR (gvV rfl (.int _)) b8)) (by show 2<=1000000;decide)) (aR (lN n4 (aR (gvV rfl (.int _)) b8) (by show 1<=1000000;decide)) b8)) (by show 2<=1000000;decide)) fun v H5 s5 t5=>?_;rw[hds] at t5;show Pv _ _ _;rw[hPv];exact⟨_,_,_,_,dR (s4.trans s5) hrn,aq,t5,rfl⟩
   have hwk:=Y9 (ss:=ss) hk';refine aO fun k2 hk2=>?_;refine gM fun kt ke hkt hke=>?_;push_cast [es3,x1,y3];by_cases c:(bV ss k').1=(bV ss k').2.1
   ·rw[if_pos c];subst hkt;have n3:=nwk s3 er3;refine rO (ok:=ok2) rfl er3 ω ok2r t3 (d:=wyD ss left (.one k')) (gq n3 (aR (gq n3 (aR lM (aR (gvV rfl (.int _)) b8)) (by show 2<=1000000;decide)) (aR (lN n3 (aR (gvV rfl (.int _)) b8) (by show 1<=1000000;decide)) b8)) (by show 2<=1000000;decide)) fun v H5 s5 t5=>?_;show k2 _ _;subst hk2;refine fin _ _ _ (dR (s3.trans s5) hrn) aq t5 (by rw[AH,A8];omega) ?_;rw[hwk,A6];unfold pF;rw[if_pos c,Dx];rfl
   rw[if_neg c];subst hke;show k2 _ _;subst hk2;refine fin _ _ _ s3 er3 t3 ω ?_;rw[hwk,A6];unfold pF;rw[if_neg c];rfl
  intro σ H3 pv;rw[hPv] at pv;obtain⟨xs,o4,o5,o6,s3,er3,t3,rfl⟩:=pv;rw[dZ,ED] at t3;show k _ _;subst hk;have el3:=s3 _ _ el;have hxl:=t3.length;have hwl:=wz ss left;rw[AE] at hxl
  -- halves
  refine aO fun k hk=>?_;refine kJ fun R hR=>?_;push_cast [el3];intro p hp;rw[U6];have hpr:p≠r:=(aD er3 hp).symm;have s4:=aB (o:=HO.lst (nv (left.drop 1))) hp;have ep4:upd H3 p (HO.lst (nv (left.drop 1))) p=some (HO.lst (nv (left.drop 1))):=aq;have er4:=s4 _ _ er3;have t4:=t3.same s4;have sH4:=s3.trans s4;generalize upd H3 p (HO.lst (nv (left.drop 1)))=H4 at s4 ep4 er4 t4 sH4 |-;obtain⟨Pw,hPw⟩:∃Pv:Nat->L2.St->Hp->Prop,Pv=fun(j:Nat) σ H'=>∃(xs:List V)(o4 o5 o6:Option V),Same H H'/\H' p=some (HO.lst (nv (left.drop 1)))/\H' r=some (.lst xs)/\xs.length<=120+j/\aH ok2 H' xs ((left.flatMap (pF ss)++((left.drop 1).take j).map Wy.low).map (wyD ss left))/\σ=[some (.ref sa),some (.ref la),some (.int ((aY left:Nat):Int)),some (.ref r),o4,o5,o6]:=⟨_,rfl⟩;refine tX hR (xs:=nv (left.drop 1)) Pw (by rw[hPw];exact⟨xs,_,_,_,sH4,ep4,er4,ω,by rw[take_zero,He,CB];exact t4,rfl⟩) ?_ ?_ ?_
  ·intro i σ H5 _ pv;rw[hPw] at pv;obtain⟨_,_,_,_,_,ep,_⟩:=pv;exact SqL.of ep
  ·intro i x σ H5 hx pv;rw[hPw] at pv;obtain⟨xs5,o4',o5',o6',s5,ep5,er5,hl5,t5,rfl⟩:=pv;obtain⟨k',hk',rfl⟩:∃k':Nat,(left.drop 1)[i]?=some k'/\x=.int (k':Int):=by
    unfold nv at hx;rw[AU] at hx;obtain⟨k',h1,h2⟩:=BE.mp hx;exact⟨k',h1,h2.symm⟩
   have mk:=Hc (A7 hk');have hil:i<(left.drop 1).length:=(AO.mp hk').1;rw[EU] at hil;refine aO fun k2 hk2=>?_;push_cast;refine⟨⟨ω,by have:=lf.lt _ mk;omega,δ⟩,?_⟩;rw[Ng lf.up];subst hk2;have n5:=nwk s5 er5;refine rO (ok:=ok2) rfl er5 ω ok2r t5 (d:=wyD ss left (.low k')) (gq n5 (aR (gq n5 (aR lM (aR (gvV rfl (.int _)) b8)) (by show 2<=1000000;decide)) (aR (lN n5 (aR (gvV rfl (.int _)) (aR (Us (gvV rfl (.int _)) (gvV rfl (.int _)) (fun H Q q=>⟨_,_,rfl,rfl,by show Q (V.int (_-_)) H;rw[w6 lf.up];exact q⟩)) b8)) (by show 2<=1000000;decide)) b8)) (by show 2<=1000000;decide)) fun v H6 s6 t6=>?_;show Pw _ _ _;rw[hPw];refine⟨_,_,_,_,dR (s5.trans s6) hrn,(aJ hpr).trans (s6 _ _ ep5),aq,by rw[AH,A8];omega,?_,rfl⟩;have e6:left.flatMap (pF ss)++((left.drop 1).take (i+1)).map Wy.low=(left.flatMap (pF ss)++((left.drop 1).take i).map Wy.low)++[Wy.low k']:=by
    rw[take_snoc hk',A6,Dx];rfl
   rw[e6,A6];exact t6
  intro σ H5 pv;rw[hPw] at pv;obtain⟨xs5,o4',o5',o6',s5,ep5,er5,hl5,t5,rfl⟩:=pv;rw[dZ,ED] at t5;show k _ _;subst hk;push_cast;exact q r xs5 H5 s5 hrn er5 (t5.keep fun a o h e=>⟨by rw[hok2] at h;exact h,e⟩)
theorem uc:Bn "MOST_IN_MASK" := ⟨ψ,ψ⟩
theorem qR:Bn "MOST_IN_TABLE" := ⟨ψ,ψ⟩
theorem Yz:Bn "TESTS" := ⟨ψ,ψ⟩
noncomputable abbrev lu:List Str:=["stretches","left"]
noncomputable abbrev cW:Stmt:=top 5
theorem vQ:bh lu q2_ (aj cW):=⟨rfl,rfl,rfl,ψ,rfl,ψ,ψ⟩
theorem mD:NM_ lu cW 0 "stretches" := .of ψ
theorem mC:NM_ lu cW 1 "left" := .of ψ
theorem jA:Bn "numbers_across" := ⟨ψ,ψ⟩
noncomputable abbrev jr:List Str:=["stretches","left","plan","word","ahead"]
noncomputable abbrev eF:Stmt:=top 9
theorem uz:bh jr q16_ (aj eF):=⟨rfl,rfl,rfl,ψ,rfl,ψ,ψ⟩
theorem nj:NM_ jr eF 1 "left" := .of ψ
theorem kh:NM_ jr eF 2 "plan" := .of ψ
theorem ni:NM_ jr eF 3 "word" := .of ψ
theorem rm:NM_ jr eF 4 "ahead" := .of ψ
theorem DG:GI_ eF "len" := by decide +kernel
theorem PB:Bn "plans_in" := ⟨ψ,ψ⟩
theorem Oa (hB:∀x:Str,x∈BLs->mg x=none) (F:Fun K "numbers_across" "numbers_across" cW f fd):dF P w K mg base CX0 1 f fd q2_ wX:=by
 refine F.okq vQ (fun vs H Q E h=>?_) (fun cdv A outer s H vs Q E hr h=>?_)
 ·obtain⟨s,l,ok,ss,left,rfl,_⟩:=h;rfl
 obtain⟨s,l,ok,ss,left,rfl,ts,tl,lf,q⟩:=h;refine⟨_,(aK (aU (aM bH (aM fP (aL aW (aL aW (ao mD) (aL aW (ao mC) (sI mW au) (fun _ _=>rfl)) (fun _ _=>rfl)) au (fun _ _=>rfl)) (aL aW (aL aW (ao mD) (aL aW (ao mC) au (fun _ _=>rfl)) (fun _ _=>rfl)) au (fun _ _=>rfl))) au))),?_⟩;obtain⟨la,rfl,_,el,_⟩:=tl.left;replace el:H la=some (.lst (nv left)):=el;cases ts with
 | lst o es zs tss=>
  obtain⟨k1,e1,m1,a1⟩:=K6 lf.ne;obtain⟨k0,e0,m0,a0⟩:=K7 lf.ne;obtain⟨p1,x1,y1⟩:=tss.stN (lf.lt _ m1);obtain⟨p0,x0,y0⟩:=tss.stN (lf.lt _ m0);unfold cG at q;rw[e1,e0] at q;push_cast [el,a1,a0,es,x1,x0,y1,y0];exact q
theorem Jh (hB:∀x:Str,x∈BLs->mg x=none) (F:Fun K "plans_in" "plans_in" eF f fd):dF P w K mg base CX0 1 f fd q16_ Kw:=by
 refine F.okq uz (fun vs H Q E h=>?_) (fun cdv A outer s H vs Q E hr h=>?_)
 ·obtain⟨s,l,p,ok,ss,left,pl,rfl,_⟩:=h;rfl
 obtain⟨s,l,p,ok,ss,left,pl,rfl,hn,ts,tl,tp,hst,lf,q⟩:=h;refine⟨_,(aF (bG ni uz.nd (aL aW (ao kh) au (fun _ _=>rfl)) rfl (.inl rfl))
  (aF (dm (bx (cD hr.bO) (ao ni) bD (aQ _)) (aF (Cy (NX:=jr) (kX:=(aj eF).names) ["k","plan"] [none,some 2] rm uz.nd rfl rfl ⟨rfl,ψ,ψ,ψ,ψ⟩ rfl (bY (ao nj)) (fun _ _ _ _ _=>(bR 0 (show BQ (["k","plan"]:List Str) from by decide +kernel) rfl (C8 rfl))) (fun _ _ _ _ _=>(pC (bx qK (bA 0) (aL aW (bA 1) au (fun _ _=>rfl)) (aQ _)))) (fun _ _ _ _ _=>(bA 0)))
  (aK (aU (bN (ak (bQ (ak (ao rm) (ak (aL aW (ao kh) au (fun _ _=>rfl)) aA rfl) rfl)) (ak (bQ (ak (pB Rc (ao nj) (su (bW bM DG (hB "len" d8) BH d9 (ak (ao rm) aA rfl) rfl rfl)) sy) (ak (aL aW (ao kh) au (fun _ _=>rfl)) aA rfl) rfl)) aA rfl) rfl))))) cg)
  (aF (dm (bx (cD hr.bO) (ao ni) bD (aQ _)) (aK (aU (bN (ak (bQ (ak (cJ (NX:=jr) (kX:=(aj eF).names) ["k","plan","stretches"] [none,some 2,some 0] rfl rfl ⟨rfl,ψ,ψ,ψ,ψ⟩ rfl (bY (ao nj)) (fun _ _ _ _ _=>(bR 0 (show BQ (["k","plan","stretches"]:List Str) from by decide +kernel) rfl (C8 rfl))) (fun _ _ _ _ _=>(pC (bx (pD hr.bO) (aL aW (aL aW (bA 2) (bA 0) (fun _ _=>rfl)) au (fun _ _=>rfl)) (aL aW (bA 1) au (fun _ _=>rfl)) (aQ _)))) (fun _ _ _ _ _=>(bA 0))) (ak (aL aW (ao kh) au (fun _ _=>rfl)) aA rfl) rfl)) aA rfl)))) cg)
  (aF (dm (bx (aai hr.un1) (ao ni) (bQ (ak bD (ak bD aA rfl) rfl)) (by with_unfolding_all rfl)) (aK (aU (bN (ak (bQ (ak (cJ (NX:=jr) (kX:=(aj eF).names) ["k","plan"] [none,some 2] rfl rfl ⟨rfl,ψ,ψ,ψ,ψ⟩ rfl (bY (ao nj)) (fun _ _ _ _ _=>(bR 0 (show BQ (["k","plan"]:List Str) from by decide +kernel) rfl (C8 rfl))) (fun _ _ _ _ _=>(pC (bx (pD hr.bO) (bA 0) (aL aW (bA 1) au (fun _ _=>rfl)) (aQ _)))) (fun _ _ _ _ _=>(bA 0))) (ak (aL aW (ao kh) au (fun _ _=>rfl)) aA rfl) rfl)) aA rfl)))) cg)
  (aK (aU (bN aA))))))),?_⟩
 obtain⟨la,rfl,okl,el,ll⟩:=tl.left;replace el:H la=some (.lst (nv left)):=el;have ts0:=ts;cases ts with
 | lst os es zs tss=>
  rename_i sa xs;cases pl with
  | odd d=>cases hst
  | pick l=>
   cases tp with
   | tup o e z tt=>
    cases tt with
    | cons t1 tt=>
     cases t1;push_cast [e,rdW];refine⟨aN δ,fun t ht=>?_⟩;have s1:=aB (o:=HO.tup [V.str "is",V.str "within"]) ht;refine⟨t,["is","within"],.str "pick",ok,rfl,aq,.str _,?_⟩;rw[show([("is" : Str), "within"].any (dH (.str "pick")))=false by decide +kernel];push_cast;exact⟨aN δ,fun r hr=>q _ _ (s1.trans (aB hr)) (.lst (hn.new (lU hr).1) aq (by show 0<=1000000;decide) .nil)⟩
  | tab=>
   cases tp with
   | tup o e z tt=>
    cases tt with
    | cons t1 tt=>
     cases t1;push_cast [e,rdW];refine⟨aN δ,fun t ht=>?_⟩;have s1:=aB (o:=HO.tup [V.str "is",V.str "within"]) ht;refine⟨t,["is","within"],.str "table",ok,rfl,aq,.str _,?_⟩;rw[show([("is" : Str), "within"].any (dH (.str "table")))=false by decide +kernel];push_cast;exact⟨aN δ,fun r hr=>q _ _ (s1.trans (aB hr)) (.lst (hn.new (lU hr).1) aq (by show 0<=1000000;decide) .nil)⟩
  | one k r=>
   cases tp with
   | tup o e z tt=>
    cases tt with
    | cons t1 tt=>
     cases t1;cases tt with
     | cons t2 tt=>
      cases t2;cases tt with
      | cons t3 tt=>
       cases tt;rename_i pa x3;push_cast [e,rdW];refine⟨aN δ,fun t ht=>?_⟩;have s1:=aB (o:=HO.tup [V.str "is",V.str "within"]) ht;refine⟨t,["is","within"],.str "is",ok,rfl,aq,.str _,?_⟩;rw[show([("is" : Str), "within"].any (dH (.str "is")))=true by decide +kernel];have e1:=s1 _ _ e;have el1:=s1 _ _ el;have t31:=t3.same s1;have hn1:=hn.same s1;generalize upd H t (HO.tup [V.str "is",V.str "within"])=H1 at s1 e1 el1 t31 hn1 |-;push_cast;refine cY fun R hR=>?_;push_cast [el1];refine je (·≠k) (fun τ=>∃o0,τ=[o0,some (.ref pa)]) hR el1 ll ⟨_,rfl⟩ ?_ ?_
       ·rintro i k' τ acc Pn hk ⟨o0,rfl⟩ h1 h2;push_cast [e1];by_cases c:k'=k
        ·subst c;rw[decide_eq_true (show((k':Nat):Int)=(k':Int) from rfl),Lc,if_neg δ];exact h2 (by simp) _ ⟨_,rfl⟩
        rw[decide_eq_false (show ¬((k':Nat):Int)=(k:Int) by omega),KE,if_pos rfl];exact h1 (by simpa using c) _ ⟨_,rfl⟩
       intro d hd;have s2:=aB (o:=HO.lst (nv (left.filter (·≠k)))) hd;have e2:=s2 _ _ e1;have okd:=hn1.new hd;have t32:=t31.same s2;have ed:upd H1 d (HO.lst (nv (left.filter (·≠k)))) d=_:=aq;have hn2:=hn1.same s2;generalize upd H1 d (HO.lst (nv (left.filter (·≠k))))=H2 at s2 e2 t32 ed hn2 |-;push_cast [e2];refine⟨aN δ,fun t2 ht2=>⟨aN δ,fun r2 hr2=>?_⟩⟩;have s3:=aB (o:=HO.tup [V.ref d,x3]) ht2;have s4:=aB (o:=HO.lst [V.ref t2]) hr2;have s34:=s3.trans s4;refine q _ _ ((s1.trans s2).trans s34) (.lst (hn2.new (lU hr2).1) aq (by show 1<=1000000;decide) (.cons (.tup (hn2.new ht2) (s4 _ _ aq) (by show 2<=1000000;decide) (.cons (fW okd (s34 _ _ ed) (BG (Cf _ _) ll)) (.cons (t32.same s34) .nil))) .nil))
  | wit k r=>
   cases tp with
   | tup o e z tt=>
    cases tt with
    | cons t1 tt=>
     cases t1;cases tt with
     | cons t2 tt=>
      cases t2;cases tt with
      | cons t3 tt=>
       cases tt;rename_i pa x3;push_cast [e,rdW];refine⟨aN δ,fun t ht=>?_⟩;have s1:=aB (o:=HO.tup [V.str "is",V.str "within"]) ht;refine⟨t,["is","within"],.str "within",ok,rfl,aq,.str _,?_⟩;rw[show([("is" : Str), "within"].any (dH (.str "within")))=true by decide +kernel];have e1:=s1 _ _ e;have el1:=s1 _ _ el;have t31:=t3.same s1;have hn1:=hn.same s1;generalize upd H t (HO.tup [V.str "is",V.str "within"])=H1 at s1 e1 el1 t31 hn1 |-;push_cast;refine cY fun R hR=>?_;push_cast [el1];refine je (·≠k) (fun τ=>∃o0,τ=[o0,some (.ref pa)]) hR el1 ll ⟨_,rfl⟩ ?_ ?_
       ·rintro i k' τ acc Pn hk ⟨o0,rfl⟩ h1 h2;push_cast [e1];by_cases c:k'=k
        ·subst c;rw[decide_eq_true (show((k':Nat):Int)=(k':Int) from rfl),Lc,if_neg δ];exact h2 (by simp) _ ⟨_,rfl⟩
        rw[decide_eq_false (show ¬((k':Nat):Int)=(k:Int) by omega),KE,if_pos rfl];exact h1 (by simpa using c) _ ⟨_,rfl⟩
       intro d hd;have s2:=aB (o:=HO.lst (nv (left.filter (·≠k)))) hd;have e2:=s2 _ _ e1;have okd:=hn1.new hd;have t32:=t31.same s2;have ed:upd H1 d (HO.lst (nv (left.filter (·≠k)))) d=_:=aq;have hn2:=hn1.same s2;generalize upd H1 d (HO.lst (nv (left.filter (·≠k))))=H2 at s2 e2 t32 ed hn2 |-;push_cast [e2];refine⟨aN δ,fun t2 ht2=>⟨aN δ,fun r2 hr2=>?_⟩⟩;have s3:=aB (o:=HO.tup [V.ref d,x3]) ht2;have s4:=aB (o:=HO.lst [V.ref t2]) hr2;have s34:=s3.trans s4;refine q _ _ ((s1.trans s2).trans s34) (.lst (hn2.new (lU hr2).1) aq (by show 1<=1000000;decide) (.cons (.tup (hn2.new ht2) (s4 _ _ aq) (by show 2<=1000000;decide) (.cons (fW okd (s34 _ _ ed) (BG (Cf _ _) ll)) (.cons (t32.same s34) .nil))) .nil))
  | low k a b=>
   cases tp with
   | tup o e z tt=>
    cases tt with
    | cons t1 tt=>
     cases t1;cases tt with
     | cons t2 tt=>
      cases t2;cases tt with
      | cons t3 tt=>
       cases tt with
       | cons t4 tt=>
        cases tt;rename_i pa x3 x4;push_cast [e,rdW];refine cY fun R hR=>?_;push_cast [el];refine je (· < k) (fun τ=>∃o0,τ=[o0,some (.ref pa)]) hR el ll ⟨_,rfl⟩ ?_ ?_
        ·rintro i k' τ acc Pn hk ⟨o0,rfl⟩ h1 h2;push_cast [e];by_cases c:k'<k
         ·rw[if_pos (show((k':Nat):Int)<(k:Int) by omega)];exact h1 (by simpa using c) _ ⟨_,rfl⟩
         rw[if_neg (show ¬((k':Nat):Int)<(k:Int) by omega)];exact h2 (by simpa using c) _ ⟨_,rfl⟩
        intro d hd;have s2:=aB (o:=HO.lst (nv (left.filter (· < k)))) hd;have e2:=s2 _ _ e;have okd:=hn.new hd;have t32:=t3.same s2;have t42:=t4.same s2;have el2:=s2 _ _ el;have ed:upd H d (HO.lst (nv (left.filter (· < k)))) d=_:=aq;have hn2:=hn.same s2;generalize upd H d (HO.lst (nv (left.filter (· < k))))=H2 at s2 e2 t32 t42 el2 ed hn2 |-;push_cast [e2];refine⟨aN δ,fun t5 ht5=>?_⟩;have s3:=aB (o:=HO.tup [V.ref d,x3]) ht5;have e3:=s3 _ _ e2;have el3:=s3 _ _ el2;have ed3:=s3 _ _ ed;have et5:upd H2 t5 (HO.tup [V.ref d,x3]) t5=_:=aq;have ok5:=hn2.new ht5;have hn3:=hn2.same s3;have t33:=t32.same s3;have t43:=t42.same s3;generalize upd H2 t5 (HO.tup [V.ref d,x3])=H3 at s3 e3 el3 ed3 et5 hn3 t33 t43 |-;push_cast [ed3,dZ,el3];intro d6 hd6;rw[Ph lf.up];have s6:=aB (o:=HO.lst (nv (left.filter (k<=·)))) hd6;have e6:=s6 _ _ e3;have ed6:upd H3 d6 (HO.lst (nv (left.filter (k<=·)))) d6=_:=aq;have ok6:=hn3.new hd6;have hn6:=hn3.same s6;have ed36:=s6 _ _ ed3;have et56:=s6 _ _ et5;have t36:=t33.same s6;have t46:=t43.same s6;generalize upd H3 d6 (HO.lst (nv (left.filter (k<=·))))=H6 at s6 e6 ed6 hn6 ed36 et56 t36 t46 |-;push_cast [e6];refine⟨aN δ,fun t7 ht7=>⟨aN δ,fun r8 hr8=>?_⟩⟩;have s7:=aB (o:=HO.tup [V.ref d6,x4]) ht7;have s8:=aB (o:=HO.lst [V.ref t5,V.ref t7]) hr8;have s78:=s7.trans s8;refine q _ _ (((s2.trans s3).trans s6).trans s78) (.lst (hn6.new (lU hr8).1) aq (by show 2<=1000000;decide) (.cons (.tup ok5 (s78 _ _ et56) (by show 2<=1000000;decide) (.cons (fW okd (s78 _ _ ed36) (BG (Cf _ _) ll)) (.cons (t36.same s78) .nil))) (.cons (.tup (hn6.new ht7) (s8 _ _ aq) (by show 2<=1000000;decide) (.cons (fW ok6 (s78 _ _ ed6) (BG (Cf _ _) ll)) (.cons (t46.same s78) .nil))) .nil)))
  | msk l r=>
   cases tp with
   | tup o e z tt=>
    cases tt with
    | cons t1 tt=>
     cases t1;cases tt with
     | cons t2 tt=>
      cases t2;cases tt with
      | cons t3 tt=>
       cases tt;rename_i pa x3;push_cast [e,rdW];refine cY fun R hR=>?_;push_cast [el];refine je (fun k=>(bV ss k).2.2≠l) (fun τ=>∃o0,τ=[o0,some (.ref pa),some (.ref sa)]) hR el ll ⟨_,rfl⟩ ?_ ?_
       ·rintro i k' τ acc Pn hk ⟨o0,rfl⟩ h1 h2;obtain⟨sk,x1,y1⟩:=tss.stN (lf.lt _ (A7 hk));push_cast [e,es,x1,y1];by_cases c:(bV ss k').2.2=l
        ·rw[decide_eq_true c,Lc,if_neg δ];exact h2 (by simpa using c) _ ⟨_,rfl⟩
        rw[decide_eq_false c,KE,if_pos rfl];exact h1 (by simpa using c) _ ⟨_,rfl⟩
       intro d hd;have s2:=aB (o:=HO.lst (nv (left.filter fun k=>(bV ss k).2.2≠l))) hd;have e2:=s2 _ _ e;have okd:=hn.new hd;have t32:=t3.same s2;have ed:upd H d (HO.lst (nv (left.filter fun k=>(bV ss k).2.2≠l))) d=_:=aq;have hn2:=hn.same s2;generalize upd H d (HO.lst (nv (left.filter fun k=>(bV ss k).2.2≠l)))=H2 at s2 e2 t32 ed hn2 |-;push_cast [e2];refine⟨aN δ,fun t2 ht2=>⟨aN δ,fun r2 hr2=>?_⟩⟩;have s3:=aB (o:=HO.tup [V.ref d,x3]) ht2;have s4:=aB (o:=HO.lst [V.ref t2]) hr2;have s34:=s3.trans s4;refine q _ _ (s2.trans s34) (.lst (hn2.new (lU hr2).1) aq (by show 1<=1000000;decide) (.cons (.tup (hn2.new ht2) (s4 _ _ aq) (by show 2<=1000000;decide) (.cons (fW okd (s34 _ _ ed) (BG (Cf _ _) ll)) (.cons (t32.same s34) .nil))) .nil))
noncomputable abbrev pX:List Str:=["stretches","left"]
noncomputable abbrev fC:Stmt:=top 6
theorem Cj:bh pX q2_ (aj fC):=⟨rfl,rfl,rfl,ψ,rfl,ψ,ψ⟩
theorem zP:NM_ pX fC 1 "left" := .of ψ
theorem nJ:Bn "labels_left" := ⟨ψ,ψ⟩
theorem Xz (hB:∀x:Str,x∈BLs->mg x=none) (F:Fun K "labels_left" "labels_left" fC f fd):dF P w K mg base CX0 1 f fd q2_ Ce:=by
 refine F.okq Cj (fun vs H Q E h=>?_) (fun cdv A outer s H vs Q E hr h=>?_)
 ·obtain⟨s,l,ok,ss,left,rfl,_⟩:=h;rfl
 obtain⟨s,l,ok,ss,left,rfl,ts,tl,lf,q⟩:=h;refine⟨_,(aK (aU (cJ (NX:=pX) (kX:=(aj fC).names) ["k","stretches"] [none,some 0] rfl rfl ⟨rfl,ψ,ψ,ψ,ψ⟩ rfl (bY (ao zP)) (fun _ _ _ _ _=>(bR 0 (show BQ (["k","stretches"]:List Str) from by decide +kernel) rfl (C8 rfl))) (fun _ _ _ _ _=>fK) (fun _ _ _ _ _=>(aL aW (aL aW (bA 1) (bA 0) (fun _ _=>rfl)) au (fun _ _=>rfl)))))),?_⟩;obtain⟨la,rfl,_,el,hll⟩:=tl.left;replace el:H la=some (.lst (nv left)):=el;cases ts with
 | lst o es zs tss=>
  push_cast;refine cY fun R hR=>?_;push_cast [el];refine iB (lbl ss) (fun τ=>∃o0,τ=[o0,some (.ref _)]) hR el hll ⟨_,rfl⟩ ?_ ?_
  ·rintro i k τ acc Pn hk ⟨o0,rfl⟩ hN;obtain⟨p1,x1,y1⟩:=tss.stN (lf.lt _ (A7 hk));push_cast [es,x1,y1];exact hN _ ⟨_,rfl⟩
  intro d hd;exact q d hd
end
noncomputable abbrev BL:List Str:=["thing"]
noncomputable abbrev fH:Stmt:=top 1
theorem Ir:bh BL ["thing"] (aj fH):=⟨rfl,rfl,rfl,ψ,rfl,ψ,ψ⟩
theorem vC:NM_ BL fH 0 "thing" := .of ψ
theorem yQ:GI_ fH "bool" := by decide +kernel
theorem zY:GI_ fH "int" := by decide +kernel
theorem jo:GI_ fH "isinstance" := by decide +kernel
theorem J7:Bn "is_number" := ⟨ψ,ψ⟩
noncomputable abbrev nR:List Str:=["stretches","left","label"]
noncomputable abbrev dX:Stmt:=top 7
theorem Fe:bh nR q14_ (aj dX):=⟨rfl,rfl,rfl,ψ,rfl,ψ,ψ⟩
theorem Dg:NM_ nR dX 0 "stretches" := .of ψ
theorem sY:NM_ nR dX 1 "left" := .of ψ
theorem Df:NM_ nR dX 2 "label" := .of ψ
theorem oM:GI_ dX "labels_left" := by decide +kernel
theorem yM:GI_ dX "len" := by decide +kernel
theorem Hq:Bn "parts_some" := ⟨ψ,ψ⟩
noncomputable abbrev qx:List Str:=["stretches","left","thing","word","which"]
noncomputable abbrev dj:Stmt:=top 8
theorem xG:bh qx q15_ (aj dj):=⟨rfl,rfl,rfl,ψ,rfl,ψ,ψ⟩
theorem jP:NM_ qx dj 0 "stretches" := .of ψ
theorem iw:NM_ qx dj 1 "left" := .of ψ
theorem fJ:NM_ qx dj 2 "thing" := .of ψ
theorem jd:NM_ qx dj 3 "word" := .of ψ
theorem jc:NM_ qx dj 4 "which" := .of ψ
theorem rH:GI_ dj "MOST_IN_MASK" := by decide +kernel
theorem qG:GI_ dj "MOST_IN_TABLE" := by decide +kernel
theorem uX:GI_ dj "is_number" := by decide +kernel
theorem rG:GI_ dj "isinstance" := by decide +kernel
theorem rJ:GI_ dj "labels_left" := by decide +kernel
theorem fX:GI_ dj "len" := by decide +kernel
theorem iT:GI_ dj "numbers_across" := by decide +kernel
theorem tU:GI_ dj "parts_some" := by decide +kernel
theorem zW:GI_ dj "tuple" := by decide +kernel
theorem Vf:Bn "is_step" := ⟨ψ,ψ⟩
theorem Yt (left:List Nat):jz (nv left) (some 1) none=nv (left.drop 1):=by
 unfold jz;have e2:HT.sIx (nv left).length (nv left).length none=(nv left).length:=rfl;rw[e2];cases left with
 | nil=>rfl
 | cons a r=>
  have e1:HT.sIx (nv (a::r)).length 0 (some 1)=1:=by
   simp only[HT.sIx,dZ,Co];split
   ·omega
   omega
  rw[e1];show(((nv (a::r)).drop 1).take _)=nv r;rw[D8 (by rw[EU];exact AZ _)];rfl
section
variable {P:AR}{w:Bi}{K:AD}{mg:Str->Option Ap}{base:Heap}{f:Addr}{fd:CY}{bs:List Str}{ckMostInMask ckMostInTable:Tok}
theorem S9 (hB:∀x:Str,x∈BLs->mg x=none) (F:Fun K "is_number" "is_number" fH f fd):dF P w K mg base CX0 1 f fd ["thing"] Q5:=by
 refine F.okq Ir (fun vs H Q E h=>?_) (fun cdv A outer s H vs Q E hr h=>?_)
 ·obtain⟨v,ok,d,rfl,_⟩:=h;rfl
 obtain⟨v,ok,d,rfl,t,q⟩:=h;refine⟨_,(aK (aU (xM (bW mO jo (hB "isinstance" gJ) Hd gO (ak (ao vC) (ak (Fw "int" zY (hB "int" uO) boot_int vf) aA rfl) rfl) rfl rfl) (xK (ZC (bW mO jo (hB "isinstance" gJ) Hd gO (ak (ao vC) (ak (Fw "bool" yQ (hB "bool" Lq) boot_bool Mu) aA rfl) rfl) rfl rfl)))))),?_⟩;cases t with
 | non=>push_cast;exact q
 | bl b=>push_cast;exact q
 | int i=>push_cast;exact q
 | str x=>push_cast;exact q
 | lst o e z t=>push_cast [e];exact q
 | tup o e z t=>push_cast [e];exact q
theorem S8 (hB:∀x:Str,x∈BLs->mg x=none) (CLabelsLeft:Cal P w K mg base "labels_left" 1 q2_ Ce) (F:Fun K "parts_some" "parts_some" dX f fd):dF P w K mg base CX0 2 f fd q14_ Ku:=by
 refine F.okq Fe (fun vs H Q E h=>?_) (fun cdv A outer s H vs Q E hr h=>?_)
 ·obtain⟨s,l,ok,ss,left,m,rfl,_⟩:=h;rfl
 obtain⟨s,l,ok,ss,left,m,rfl,ts,tl,lf,hl9,q⟩:=h;refine⟨_,(aK (aU (RQ qK qK au (KY K hr.un1 (bw CLabelsLeft (hr.mono δ) oM nJ (ak (ao Dg) (ak (ao sY) aA rfl) rfl) rfl rfl) (ao Df)) (bW bM yM (hB "len" d8) BH d9 (ak (ao sY) aA rfl) rfl rfl)))),?_⟩;obtain⟨la,rfl,okl,el,ll⟩:=tl.left;replace el:H la=some (.lst (nv left)):=el;push_cast;refine⟨s,_,ok,ss,left,rfl,ts,tl,lf,fun a ha=>?_⟩;have s1:=aB (o:=HO.lst ((left.map (lbl ss)).map V.int)) ha;have e1:upd H a (HO.lst ((left.map (lbl ss)).map V.int)) a=_:=aq;generalize upd H a (HO.lst ((left.map (lbl ss)).map V.int))=H1 at s1 e1 |-;have el1:=s1 _ _ el;push_cast [el1];refine⟨⟨_,SqL.of e1⟩,_,SqL.of e1,_,.inl ⟨_,_,rfl,rfl,rfl⟩,?_⟩;have qq:=q _ s1;rw[dZ];split
 ·rename_i c;rw[decide_eq_true (show 0<jq ss left m from by have:(0:Int)<((left.map (lbl ss)).count m:Nat):=c;unfold jq;omega),Lm] at qq;rw[show decide ((((left.map (lbl ss)).count m:Nat):Int)<(left.length:Int))=decide (jq ss left m<left.length) from decide_eq_decide.mpr Int.ofNat_lt];exact qq
 rename_i c;rw[decide_eq_false (show ¬0<jq ss left m from by have:¬(0:Int)<((left.map (lbl ss)).count m:Nat):=c;unfold jq;omega),F5] at qq;exact qq
theorem N6 (hB:∀x:Str,x∈BLs->mg x=none) (cgMostInMask:mg "MOST_IN_MASK" = some (.int 64 ckMostInMask)) (cgMostInTable:mg "MOST_IN_TABLE" = some (.int 200 ckMostInTable)) (CIsNumber:Cal P w K mg base "is_number" 1 ["thing"] Q5) (CNumbersAcross:Cal P w K mg base "numbers_across" 1 q2_ wX) (CLabelsLeft:Cal P w K mg base "labels_left" 1 q2_ Ce) (CPartsSome:Cal P w K mg base "parts_some" 2 q14_ Ku) (F:Fun K "is_step" "is_step" dj f fd):dF P w K mg base CX0 3 f fd q15_ Kr:=by
 refine F.okq xG (fun vs H Q E h=>?_) (fun cdv A outer s H vs Q E hr h=>?_)
 ·obtain⟨s,l,p,ok,ss,left,pl,rfl,_⟩:=h;rfl
 obtain⟨s,l,p,ok,ss,left,pl,rfl,ts,tl,tp,wf,lf,q⟩:=h;refine⟨_,(aF (dm (Cw (Ay (uE (qW (bW mO rG (hB "isinstance" gJ) Hd gO (ak (ao fJ) (ak (Fw "tuple" zW (hB "tuple" tG) boot_tuple tZ) aA rfl) rfl) rfl rfl) (fun _=>rfl))) (xJ (uE (Ja (ao fJ)))))) (aK (aU j4)) cg)
  (aF (bG jd xG.nd (aL aW (ao fJ) au (fun _ _=>rfl)) rfl (.inl rfl))
  (aF (dm (bx (cD hr.bO) (ao jd) bD (aQ _)) (aK (aU (xM (gn (cD hr.bO) (bW bM fX (hB "len" d8) BH d9 (ak (ao fJ) aA rfl) rfl rfl) au (aQ _)) (xK (gn Bd (bw CNumbersAcross (hr.mono δ) iT jA (ak (ao jP) (ak (ao iw) aA rfl) rfl) rfl rfl) (sJ (v:=V.int 200) qG cgMostInTable ⟨_,rfl⟩ qR) (aQ _)))))) cg)
  (aF (dm (Cw (Ay (bx qK (bW bM fX (hB "len" d8) BH d9 (ak (ao fJ) aA rfl) rfl rfl) au (aQ _)) (xJ (uE (qW (bw CIsNumber (hr.mono δ) uX J7 (ak (aL aW (ao fJ) au (fun _ _=>rfl)) aA rfl) rfl rfl) (fun _=>rfl)))))) (aK (aU j4)) cg)
  (aF (bG jc xG.nd (aL aW (ao fJ) au (fun _ _=>rfl)) rfl (.inl rfl))
  (aF (dm (bx (cD hr.bO) (ao jd) bD (aQ _)) (aK (aU (xM (gn (cD hr.bO) (bW bM fX (hB "len" d8) BH d9 (ak (ao fJ) aA rfl) rfl rfl) au (aQ _)) (xK (gn (cD hr.bO) (KY K hr.un1 (bw CLabelsLeft (hr.mono δ) rJ nJ (ak (ao jP) (ak (ao iw) aA rfl) rfl) rfl rfl) (ao jc)) (bW bM fX (hB "len" d8) BH d9 (ak (ao iw) aA rfl) rfl rfl) (aQ _)))))) cg)
  (aF (dm (bx (cD hr.bO) (ao jd) bD (aQ _)) (aK (aU (xM (gn (cD hr.bO) (bW bM fX (hB "len" d8) BH d9 (ak (ao fJ) aA rfl) rfl rfl) au (aQ _)) (xK (gn aaj (ao jc) (pB Rc (ao iw) (su au) sy) (by with_unfolding_all rfl)))))) cg)
  (aF (dm (bx (pD hr.bO) (bW bM fX (hB "len" d8) BH d9 (ak (ao fJ) aA rfl) rfl rfl) au (aQ _)) (aK (aU j4)) cg)
  (aF (dm (bx (cD hr.bO) (ao jd) bD (aQ _)) (aK (aU (xM (bw CPartsSome (hr.mono δ) tU Hq (ak (ao jP) (ak (ao iw) (ak (ao jc) aA rfl) rfl) rfl) rfl rfl) (xK (gn Bd (bw CNumbersAcross (hr.mono δ) iT jA (ak (ao jP) (ak (ao iw) aA rfl) rfl) rfl rfl) (sJ (v:=V.int 64) rH cgMostInMask ⟨_,rfl⟩ uc) (aQ _)))))) cg)
  (aF (dm (Cw (Ay (bx Bc (ao jc) (ao iw) (by with_unfolding_all rfl)) (xJ (bx (cD hr.bO) (bW bM fX (hB "len" d8) BH d9 (ak (ao iw) aA rfl) rfl rfl) au (aQ _))))) (aK (aU j4)) cg)
  (aF (dm (bx (cD hr.bO) (ao jd) bD (aQ _)) (aK (aU (gn (cD hr.bO) (aL aW (aL aW (ao jP) (ao jc) (fun _ _=>rfl)) au (fun _ _=>rfl)) (aL aW (aL aW (ao jP) (ao jc) (fun _ _=>rfl)) au (fun _ _=>rfl)) (aQ _)))) cg)
  (aK (aU (gn (cD hr.bO) (ao jd) bD (aQ _))))))))))))))),?_⟩
 obtain⟨la,rfl,okl,el,ll⟩:=tl.left;replace el:H la=some (.lst (nv left)):=el;rw[JG wf] at q;generalize pgD pl=d at tp q;refine aO fun k hk=>?_;refine gM fun kt ke hkt hke=>?_;have kf:stepT ss left d=false->kt [some s,some (.ref la),some p,none,none] H:=fun e=>by
  subst hkt;push_cast;rw[e] at q;exact q _ (Same.refl _)
 cases tp with
 | non=>push_cast;exact kf rfl
 | bl b=>push_cast;exact kf rfl
 | int i=>push_cast;exact kf rfl
 | str x=>push_cast;exact kf rfl
 | lst o e z t=>push_cast [e];exact kf rfl
 | tup o e z tt=>
  cases tt with
  | nil=>push_cast [e];exact kf rfl
  | cons t0 tt=>
   rename_i pa x0 d0 xs ds;clear kf hkt;have hlen:=tt.length;replace q:∀H',Same H H'->Q (.bl (jm ss left d0 ds)) H':=q;unfold jm at q;push_cast [e];rw[if_neg (by simp)];subst hke;push_cast;subst hk;refine aO fun k hk=>?_;push_cast [e];subst hk;refine aO fun k hk=>?_;refine gM fun kt ke hkt hke=>?_;push_cast;refine mL t0 ⟨_,rfl,?_⟩;cases h1:dH d0 "table" with
   | true=>
    rw[if_pos rfl];simp only[h1,↓reduceIte] at q;subst hkt;push_cast [e];cases tt with
    | nil=>
     rw[if_pos δ];exact⟨s,_,ok,ss,left,rfl,ts,tl,lf,_,rfl,q _ (Same.refl _)⟩
    | cons _ tt=>
     rw[if_neg (by simp only[Co];omega)];exact q _ (Same.refl _)
   | false=>
    simp only[h1,FV,↓reduceIte] at q;rw[if_neg δ];subst hke;push_cast;subst hk;refine aO fun k hk=>?_;refine gM fun kt ke hkt hke=>?_;push_cast [e];have kf:(∀H',Same H H'->Q (.bl false) H')->kt [some s,some (.ref la),some (.ref pa),some x0,none] H:=fun q=>by
     subst hkt;push_cast;exact q _ (Same.refl _)
    cases tt with
    | nil=>
     rw[if_pos δ];exact kf q
    | cons t1 tt=>
     rename_i x1 d1 xs ds;replace hlen:=tt.length;rw[if_neg (by simp only[Co];omega),show atI (x0::x1::xs) 1=some x1 from Vj _ _ _];refine⟨x1,rfl,x1,ok,d1,rfl,t1,_,rfl,?_⟩;cases hn:JB d1 with
     | false=>
      rw[if_pos (show(!false)=true from rfl)];refine kf ?_;cases d1 with
      | int i=>cases hn
      | _=>exact q
     | true=>
      obtain⟨i,rfl⟩:∃i,d1=.int i:=by cases d1 <;> simp [JB] at hn;exact⟨_,rfl⟩
      cases t1;rw[if_neg δ];clear kf hkt;subst hke;push_cast;subst hk;have a1:atI (x0::V.int i::xs) 1=some (V.int i):=Vj _ _ _;refine aO fun k hk=>?_;push_cast [e,a1];subst hk;dsimp only at q;refine aO fun k hk=>?_;refine gM fun kt ke hkt hke=>?_;push_cast;refine mL t0 ⟨_,rfl,?_⟩;cases h2:dH d0 "pick" with
      | true=>
       rw[if_pos rfl];simp only[h2,↓reduceIte] at q;subst hkt;push_cast [e];cases tt with
       | nil=>
        rw[if_pos δ];refine⟨s,_,ok,ss,left,rfl,ts,tl,lf,fun a ha=>?_⟩;have s1:=aB (o:=HO.lst ((left.map (lbl ss)).map V.int)) ha;have e1:upd H a (HO.lst ((left.map (lbl ss)).map V.int)) a=_:=aq;generalize upd H a (HO.lst ((left.map (lbl ss)).map V.int))=H1 at s1 e1 |-;have el1:=s1 _ _ el;push_cast [el1];refine⟨⟨_,SqL.of e1⟩,_,SqL.of e1,_,.inl ⟨_,_,rfl,rfl,rfl⟩,?_⟩;rw[dZ,show decide ((((left.map (lbl ss)).count i:Nat):Int)=(left.length:Int))=decide (jq ss left i=left.length) from decide_eq_decide.mpr Int.ofNat_inj];exact q _ s1
       | cons _ tt=>
        rw[if_neg (by simp only[Co];omega)];exact q _ (Same.refl _)
      | false=>
       simp only[h2,FV,↓reduceIte] at q;rw[if_neg δ];subst hke;push_cast;subst hk;refine aO fun k hk=>?_;refine gM fun kt ke hkt hke=>?_;push_cast;refine mL t0 ⟨_,rfl,?_⟩;cases h3:dH d0 "below" with
       | true=>
        rw[if_pos rfl];simp only[h3,↓reduceIte] at q;subst hkt;push_cast [e,el];by_cases c4:ds.length=2
        ·rw[if_pos ω];intro p1 hp1;rw[Yt];refine⟨rfl,K8 _,?_⟩;rw[decide_eq_true c4,Lm] at q;exact q _ (aB hp1)
        rw[if_neg ω];rw[decide_eq_false c4,F5] at q;exact q _ (Same.refl _)
       | false=>
        simp only[h3,FV,↓reduceIte] at q;rw[if_neg δ];subst hke;push_cast;subst hk;refine aO fun k hk=>?_;refine gM fun kt ke hkt hke=>?_;push_cast [e];by_cases c3:ds.length=1
        ·rw[decide_eq_true (show((xs.length+1+1:Nat):Int)=3 by omega),if_neg δ];rw[if_neg (show ¬ds.length≠1 from fun z=>z c3)] at q;subst hke;push_cast;subst hk;refine aO fun k hk=>?_;refine gM fun kt ke hkt hke=>?_;push_cast;refine mL t0 ⟨_,rfl,?_⟩;cases h4:dH d0 "mask" with
         | true=>
          rw[if_pos rfl];simp only[h4,↓reduceIte] at q;subst hkt;push_cast;refine⟨s,_,ok,ss,left,i,rfl,ts,tl,lf,ll,fun H1 s1=>⟨_,rfl,?_⟩⟩;cases hc:(decide (0<jq ss left i)&&decide (jq ss left i<left.length)) with
          | true=>
           rw[hc,Lm] at q;rw[if_pos rfl];exact⟨s,_,ok,ss,left,rfl,ts.same s1,tl.same s1,lf,_,rfl,q _ s1⟩
          | false=>
           rw[hc,F5] at q;rw[if_neg δ];exact q _ s1
         | false=>
          simp only[h4,FV,↓reduceIte] at q;rw[if_neg δ];subst hke;push_cast;subst hk;refine aO fun k hk=>?_;refine gM fun kt ke hkt hke=>?_;push_cast [el];refine⟨rfl,K8 _,?_⟩;have kf:(∀H',Same H H'->Q (.bl false) H')->kt [some s,some (.ref la),some (.ref pa),some x0,some (.int i)] H:=fun q=>by
           subst hkt;push_cast;exact q _ (Same.refl _)
          rw[dZ];cases hc:inV (V.int i) (nv left) with
          | false=>
           rw[if_pos (show(!false)=true from rfl)];rw[if_pos (.inl hc)] at q;exact kf q
          | true=>
           rw[if_neg δ];by_cases h1l:left.length=1
           ·rw[if_pos ω];rw[if_pos (.inr h1l)] at q;exact kf q
           rw[if_neg ω];rw[if_neg (show ¬(inV (V.int i) (nv left)=false\/left.length=1) from fun z=>z.elim (fun z=>by rw[hc] at z;cases z) h1l)] at q;clear kf hkt;subst hke;push_cast;subst hk;refine aO fun k hk=>?_;refine gM fun kt ke hkt hke=>?_;push_cast;refine mL t0 ⟨_,rfl,?_⟩;cases h5:dH d0 "is" with
           | true=>
            rw[if_pos rfl];simp only[h5,↓reduceIte] at q;subst hkt;obtain⟨k9,rfl⟩:∃k9:Nat,i=(k9:Int):=by
             rcases lt_or_le i 0 with z|z
             ·rw[wI z] at hc;cases hc
             exact E8 z
            rw[Dq] at hc;rw[B6] at q;cases ts with
            | lst os es zs tss=>
             obtain⟨p1,x1,y1⟩:=tss.stN (lf.lt _ (E6.mp hc));push_cast [es,x1,y1];exact q _ (Same.refl _)
           | false=>
            simp only[h5,FV,↓reduceIte] at q;rw[if_neg δ];subst hke;push_cast;subst hk;push_cast;exact mL t0 (q _ (Same.refl _))
        rw[decide_eq_false (show ¬((xs.length+1+1:Nat):Int)=3 by omega),if_pos δ];rw[if_pos (show ds.length≠1 from c3)] at q;subst hkt;push_cast;exact q _ (Same.refl _)
end
noncomputable abbrev qy:List Str:=["stretches","thing","waiting","left","part"]
noncomputable abbrev eU:Stmt:=top 10
theorem rT:bh qy ["stretches","thing"] (aj eU):=⟨rfl,rfl,rfl,ψ,rfl,ψ,ψ⟩
theorem uM:NM_ qy eU 0 "stretches" := .of ψ
theorem Oc:NM_ qy eU 1 "thing" := .of ψ
theorem ql:NM_ qy eU 2 "waiting" := .of ψ
theorem uL:NM_ qy eU 3 "left" := .of ψ
theorem uK:NM_ qy eU 4 "part" := .of ψ
theorem yP:GI_ eU "is_step" := by decide +kernel
theorem GP:GI_ eU "len" := by decide +kernel
theorem DN:GI_ eU "list" := by decide +kernel
theorem wj:GI_ eU "plans_in" := by decide +kernel
theorem zX:GI_ eU "range" := by decide +kernel
theorem Vg:Bn "is_plan" := ⟨ψ,ψ⟩
theorem abA {ok OD:Addr->Prop}{H H':Hp}{lw:Addr}{xs:List V}(hn:cQ ok H)(hOD:OD=fun x=>ok x/\x≠lw)(s:Same H H')(e:H' lw=some (.lst xs)):cQ OD H':=by
 rw[hOD];exact fun H2 p s2 hp=>⟨hn H2 p (s.trans s2) hp,(aD (s2 _ _ e) hp).symm⟩
theorem aaA {ss:Sts}(h:0<ss.length):Lf ss (BO ss.length):=by
 refine⟨fun z=>?_,fun k hk=>by simpa using hk,IC⟩;have e:(BO ss.length).length=0:=by rw[z];rfl
 rw[Fn] at e;omega
section
variable {P:AR}{w:Bi}{K:AD}{mg:Str->Option Ap}{base:Heap}{f:Addr}{fd:CY}{bs:List Str}
theorem N7 (hB:∀x:Str,x∈BLs->mg x=none) (CIsStep:Cal P w K mg base "is_step" 3 q15_ Kr) (CPlansIn:Cal P w K mg base "plans_in" 1 q16_ Kw) (F:Fun K "is_plan" "is_plan" eU f fd):dF P w K mg base CX0 4 f fd ["stretches","thing"] Ao:=by
 refine F.okq rT (fun vs H Q E h=>?_) (fun cdv A outer s H vs Q E hr h=>?_)
 ·obtain⟨s,p,ok,ss,pl,rfl,_⟩:=h;rfl
 obtain⟨s,p,ok,ss,pl,rfl,hn,ts,tp,wf,h0,h60,hsz,q⟩:=h;refine⟨_,(aF (bG ql rT.nd (bN (ak (bQ (ak (RN rfl DN (hB "list" Dk) zX (hB "range" fV) (ak (bW bM GP (hB "len" d8) BH d9 (ak (ao uM) aA rfl) rfl rfl) aA rfl)) (ak (ao Oc) aA rfl) rfl)) aA rfl)) rfl (.inl rfl))
  (aF (Ft B7 (Ja (ao ql)) (aF (pA (Wk (ao ql)) (jy (n:=2) rfl (bL (dY uL rT.nd (.inl rfl)) (bL (dY uK rT.nd (.inl rfl)) gP rfl) rfl) rfl rfl) rfl rfl rfl)
  (aF (dm (uE (qW (bw CIsStep (hr.mono δ) yP Vf (ak (ao uM) (ak (ao uL) (ak (ao uK) aA rfl) rfl) rfl) rfl rfl) (fun _=>rfl))) (aK (aU j4)) cg)
  (aK (dw (KR (ao ql) (bw CPlansIn (hr.mono δ) wj PB (ak (ao uM) (ak (ao uL) (ak (ao uK) aA rfl) rfl) rfl) rfl rfl) rfl rfl rfl rfl rfl) rfl)))))
  (aK (aU j4)))),?_⟩
 refine aO fun k hk=>?_;have ts0:=ts;cases ts with
 | lst os es zs tss=>
  rename_i sa sxs;have hsl:=tss.length;rw[AE] at hsl;push_cast [es];refine⟨⟨ω,ω⟩,aN ω,fun la hla=>⟨aN δ,fun ta hta=>⟨aN δ,fun lw hlw=>?_⟩⟩⟩;rw[show IV 0 ((sxs.length:Int)-0).toNat=nv (BO ss.length) by
   unfold IV nv;rw[show((sxs.length:Int)-0).toNat=ss.length by omega];refine EL fun k _=>?_;rw[zero_add]] at hta hlw |-
  have u1:=aB (o:=HO.lst (nv (BO ss.length))) hla;have u2:=aB (o:=HO.tup [V.ref la,p]) hta;have u3:=aB (o:=HO.lst [V.ref ta]) hlw;have f1:=(u2.trans u3) _ _ (show upd H la (HO.lst (nv (BO ss.length))) la=_ from aq);have f2:=u3 _ _ (show upd (upd H la (HO.lst (nv (BO ss.length)))) ta (HO.tup [V.ref la,p]) ta=_ from aq);have f3:upd (upd (upd H la (HO.lst (nv (BO ss.length)))) ta (HO.tup [V.ref la,p])) lw (HO.lst [V.ref ta]) lw=_:=aq;have u:=(u1.trans u2).trans u3;have Hta:H ta=none:=u1.none hta;have Hlw:H lw=none:=(u1.trans u2).none hlw;have nlaw:la≠lw:=aD (u2 _ _ (show upd H la (HO.lst (nv (BO ss.length))) la=_ from aq)) hlw;have ntaw:ta≠lw:=aD (show upd (upd H la (HO.lst (nv (BO ss.length)))) ta (HO.tup [V.ref la,p]) ta=_ from aq) hlw;generalize upd (upd (upd H la (HO.lst (nv (BO ss.length)))) ta (HO.tup [V.ref la,p])) lw (HO.lst [V.ref ta])=H1 at u3 f1 f2 f3 u |-;obtain⟨OD,hOD⟩:∃OD:Addr->Prop,OD=fun x=>ok x/\x≠lw:=⟨_,rfl⟩;have up:∀a o,ok a->H a=some o->OD a/\H1 a=some o:=fun a o h e=>by
   rw[hOD];exact⟨⟨h,aD e Hlw⟩,u _ _ e⟩
  have tsO:aG OD H1 (.ref sa) (.list (ss.map stD)):=ts0.keep up;have tpO:aG OD H1 p (pgD pl):=tp.keep up;have okla:OD la:=by rw[hOD];exact⟨hn.new hla,nlaw⟩
  have okta:OD ta:=by rw[hOD];exact⟨hn.new Hta,ntaw⟩
  have tw:aH OD H1 [V.ref ta] ([(BO ss.length,pl)].map gwD):=.cons (.tup okta f2 (by show 2<=1000000;decide) (.cons (fW okla f1 (by rw[Fn];omega)) (.cons tpO .nil))) .nil;subst hk;refine aO fun k hk=>?_;obtain⟨Pv,hPv⟩:∃Pv:Nat->L2.St->Hp->Prop,Pv=fun m σ H'=>∃(W:List (List Nat×Pg)) (xs:List V) (o4 o5:Option V),m=iz W/\Same H H'/\H' lw=some (.lst xs)/\aH OD H' xs (W.map gwD)/\(∀x∈W,Lf ss x.1/\WfG x.2) /\
   okG ss pl (BO ss.length)=(W.all fun x=>okG ss x.2 x.1)/\iz W<=4000/\aG OD H' (.ref sa) (.list (ss.map stD))/\σ=[some (.ref sa),some p,some (.ref lw),o4,o5]:=⟨_,rfl⟩
  refine⟨Pv,⟨iz [(BO ss.length,pl)],?_⟩,?_⟩
  ·rw[hPv];refine⟨[(BO ss.length,pl)],_,_,_,rfl,u,f3,tw,?_,?_,?_,tsO,rfl⟩
   ·intro x hx;rw[AK.mp hx];exact⟨aaA h0,wf⟩
   ·simp
   simp [iz];exact hsz
  intro m σ H2 pv;rw[hPv] at pv;obtain⟨W,xs,o4,o5,rfl,s2,elw,tW,okW,hall,hlen,tsO2,rfl⟩:=pv;have hxl:=tW.length;rw[AE] at hxl;push_cast [elw];cases hx:xs.isEmpty with
  | true=>
   have hW:W=[]:=HV.mp (by rw[List.isEmpty_iff_length_eq_zero] at hx;omega);subst hW;push_cast;subst hk;push_cast;rw[hall] at q;exact q _ s2
  | false=>
   have hWp:0<W.length:=by
    rw[<- hxl];cases xs with
    | nil=>cases hx
    | cons a b=>simp
   obtain⟨W0,⟨left,p1⟩,rfl⟩:=jQ W hWp;push_cast;refine⟨fun σ' H'=>∃m',m'<iz (W0++[(left,p1)])/\Pv m' σ' H',fun σ' H' h=>h,?_⟩;rw[A6] at tW;obtain⟨tW0,y,hy,ty⟩:=aH.dropLast tW;refine⟨y,hy,?_⟩;obtain⟨lf1,wf1⟩:=okW (left,p1) (by simp);have kk:∀(H':Hp)(o':HO) a o,OD a->H' a=some o->OD a/\upd H' lw o' a=some o:=fun H' o' a o h e=>by
    refine⟨h,?_⟩;rw[hOD] at h;rw[aJ h.2];exact e
   have s3:Same H (upd H2 lw (HO.lst xs.dropLast)):=dR s2 Hlw;have ty3:=ty.keep (kk H2 (HO.lst xs.dropLast));have tW3:=tW0.keep (kk H2 (HO.lst xs.dropLast));have tsO3:=tsO2.keep (kk H2 (HO.lst xs.dropLast));have elw3:upd H2 lw (HO.lst xs.dropLast) lw=_:=aq;generalize upd H2 lw (HO.lst xs.dropLast)=H3 at s3 ty3 tW3 tsO3 elw3 |-;cases ty3 with
   | tup oy ey zy tty=>
    cases tty with
    | cons tl tty=>
     cases tty with
     | cons tpl tty=>
      cases tty;rename_i ya xl xp;push_cast [ey,Eu,Mg];refine⟨_,_,_,OD,ss,left,p1,rfl,tsO3,tl,tpl,wf1,lf1,fun H4 s4=>?_⟩;cases hst:iQ ss left p1 with
      | false=>
       push_cast;have hf:okG ss pl (BO ss.length)=false:=by
        rw[hall,all_append];simp only[all_cons,all_nil,Bool.and_true];rw[FJ,hst,F5,F7]
       rw[hf] at q;exact q _ (s3.trans s4)
      | true=>
       have elw4:=s4 _ _ elw3;have tW4:=tW3.same s4;have hn4:cQ OD H4:=abA hn hOD (s3.trans s4) elw4;push_cast [elw4,Dp];refine⟨_,_,_,OD,ss,left,p1,rfl,hn4,tsO3.same s4,tl.same s4,tpl.same s4,hst,lf1,fun v H6 s6 t6=>?_⟩;cases t6 with
       | lst or er zr tr=>
        rename_i r zs;have elw6:=s6 _ _ elw4;push_cast [GX,elw6,er,UL];have hzl:=tr.length;rw[AE] at hzl;have hk2:(iR ss p1 left).length<=2:=by cases p1 <;> simp [iR]
        have hW0:=tW4.length;rw[AE] at hW0;have hWs:W0.length<=iz W0:=Ut W0;rw[qt] at hlen;refine⟨aN ω,iz (W0++iR ss p1 left),?_,?_⟩
        ·rw[qt,qt];have:=Bp ss p1 left;simp only[iz,CF,He,FG,sum_nil] at this |-;omega
        rw[hPv];refine⟨W0++iR ss p1 left,_,_,_,rfl,dR ((s3.trans s4).trans s6) Hlw,aq,?_,?_,?_,?_,((tsO3.same s4).same s6).keep (kk H6 _),rfl⟩
        ·rw[A6];exact((tW4.same s6).keep (kk H6 _)).append (tr.keep (kk H6 _))
        ·intro x hx;rcases CI.mp hx with z|z
         ·exact okW x (G2 _ z)
         exact⟨JF lf1 hst x z,wf1.kids x z⟩
        ·rw[hall,all_append,all_append];simp only[all_cons,all_nil,Bool.and_true];rw[FJ ss p1 left,hst,Lm]
        rw[qt];have:=Bp ss p1 left;have h4:iz [(left,p1)]=jC p1:=by simp [iz]
        omega
end
noncomputable abbrev eO:List Str:=["stretches","left","across","labels","ways","label"]
noncomputable abbrev bf:Stmt:=top 19
theorem gA:bh eO q2_ (aj bf):=⟨rfl,rfl,rfl,ψ,rfl,ψ,ψ⟩
theorem pK:NM_ eO bf 0 "stretches" := .of ψ
theorem j9:NM_ eO bf 1 "left" := .of ψ
theorem j8:NM_ eO bf 2 "across" := .of ψ
theorem fU:NM_ eO bf 3 "labels" := .of ψ
theorem fQ:NM_ eO bf 4 "ways" := .of ψ
theorem pJ:NM_ eO bf 5 "label" := .of ψ
theorem mH:GI_ bf "MOST_IN_MASK" := by decide +kernel
theorem lQ:GI_ bf "MOST_IN_TABLE" := by decide +kernel
theorem mJ:GI_ bf "labels_left" := by decide +kernel
theorem mG:GI_ bf "len" := by decide +kernel
theorem kE:GI_ bf "numbers_across" := by decide +kernel
theorem uV:GI_ bf "set" := by decide +kernel
theorem rD:GI_ bf "set_of" := by decide +kernel
theorem qC:GI_ bf "sorted" := by decide +kernel
theorem Ab:Bn "ways_by_label" := ⟨ψ,ψ⟩
noncomputable def aa7:Sp:=fun vs H Q _=>∃(s:V)(la:Addr)(ok:Addr->Prop)(ss:Sts)(left:List Nat),vs=[s,.ref la]/\cQ ok H/\aG ok H s (.list (ss.map stD))/\ok la/\H la=some (.lst (nv left))/\Lf ss left/\ss.length<=60/\left.length<=60 /\
 ∀(r:Addr)(xs:List V)(L:List Int) H',Same H H'->H r=none->H' r=some (.lst xs)->pY ss left L->aH (fun a=>ok a/\a≠r) H' xs ((HJ ss left L).map (wyD ss left))->xs.length<=70->Q (.ref r) H'
section
variable {P:AR}{w:Bi}{K:AD}{mg:Str->Option Ap}{base:Heap}{f:Addr}{fd:CY}{bs:List Str}{ckMostInMask ckMostInTable:Tok}
theorem SX (hB:∀x:Str,x∈BLs->mg x=none) (cgMostInMask:mg "MOST_IN_MASK" = some (.int 64 ckMostInMask)) (cgMostInTable:mg "MOST_IN_TABLE" = some (.int 200 ckMostInTable)) (CNumbersAcross:Cal P w K mg base "numbers_across" 1 q2_ wX) (CLabelsLeft:Cal P w K mg base "labels_left" 1 q2_ Ce) (CSetOf:Cal P w K mg base "set_of" 1 ["left"] rQ) (F:Fun K "ways_by_label" "ways_by_label" bf f fd):dF P w K mg base CX0 2 f fd q2_ aa7:=by
 refine F.okq gA (fun vs H Q E h=>?_) (fun cdv A outer s H vs Q E hr h=>?_)
 ·obtain⟨s,la,ok,ss,left,rfl,_⟩:=h;rfl
 obtain⟨s,la,ok,ss,left,rfl,hnw,ts,okl,el,lf,h60,ll,q⟩:=h;refine⟨_,(aF (bG j8 gA.nd (bw CNumbersAcross (hr.mono δ) kE jA (ak (ao pK) (ak (ao j9) aA rfl) rfl) rfl rfl) rfl (.inl rfl))
  (aF (bG fU gA.nd (KN rfl qC (hB "sorted" Bj) uV (hB "set" T8) (ak (bw CLabelsLeft (hr.mono δ) mJ nJ (ak (ao pK) (ak (ao j9) aA rfl) rfl) rfl rfl) aA rfl)) rfl (.inl rfl))
  (aF (bG fQ gA.nd (bN aA) rfl (.inl rfl))
  (aF (dm (bx (cD hr.bO) (bW bM mG (hB "len" d8) BH d9 (ak (ao fU) aA rfl) rfl rfl) au (aQ _)) (aK (dw (eV (ao fQ) (bQ (ak (bQ (ak bD (ak (aL aW (ao fU) au (fun _ _=>rfl)) aA rfl) rfl)) (ak (bN aA) aA rfl) rfl)) rfl rfl rfl rfl rfl) rfl)) cg)
  (aF (dm (bx Bd (ao j8) (sJ (v:=V.int 200) lQ cgMostInTable ⟨_,rfl⟩ qR) (aQ _)) (aK (dw (eV (ao fQ) (bQ (ak (bQ (ak bD aA rfl)) (ak (bN aA) aA rfl) rfl)) rfl rfl rfl rfl rfl) rfl)) cg)
  (aF (dm (Cw (Cv (bx Bd (ao j8) (sJ (v:=V.int 64) mH cgMostInMask ⟨_,rfl⟩ uc) (aQ _)) (wB (bx Bf (bW bM mG (hB "len" d8) BH d9 (ak (ao fU) aA rfl) rfl rfl) au (aQ _))))) (aK (gY B7 rfl (bY (ao fU)) (dY pJ gA.nd (.inl rfl))
  (aK (dw (eV (ao fQ) (bQ (ak (bQ (ak bD (ak (ao pJ) aA rfl) rfl)) (ak (bN (ak (bw CSetOf (hr.mono δ) rD Mw (ak (cJ (NX:=eO) (kX:=(aj bf).names) ["k","label","stretches"] [none,some 5,some 0] rfl rfl ⟨rfl,ψ,ψ,ψ,ψ⟩ rfl (bY (ao j9)) (fun _ _ _ _ _=>(bR 0 (show BQ (["k","label","stretches"]:List Str) from by decide +kernel) rfl (C8 rfl))) (fun _ _ _ _ _=>(pC (bx (pD hr.bO) (aL aW (aL aW (bA 2) (bA 0) (fun _ _=>rfl)) au (fun _ _=>rfl)) (bA 1) (aQ _)))) (fun _ _ _ _ _=>(bA 0))) aA rfl) rfl rfl) aA rfl)) aA rfl) rfl)) rfl rfl rfl rfl rfl) rfl)) (fun _=>rfl))) cg)
  (aK (aU (ao fQ))))))))),?_⟩
 have tl:aG ok H (.ref la) (oE left):=fW okl el ω;refine aO fun k hk=>?_;push_cast;refine⟨s,_,ok,ss,left,rfl,ts,tl,lf,?_⟩;push_cast;subst hk;refine aO fun k hk=>?_;push_cast [tSS];refine⟨s,_,ok,ss,left,rfl,ts,tl,lf,fun a ha=>?_⟩;have s1:=aB (o:=HO.lst ((left.map (lbl ss)).map V.int)) ha;have e1:upd H a (HO.lst ((left.map (lbl ss)).map V.int)) a=some (HO.lst ((left.map (lbl ss)).map V.int)):=aq;generalize upd H a (HO.lst ((left.map (lbl ss)).map V.int))=H1 at s1 e1 |-;refine⟨a,rfl,left.map (lbl ss),SqL.of e1,by rw[AE];omega,fun p L hp perm _=>?_⟩;have hLl:L.length<=60:=by
  have h1:=perm.length_eq;have h2:=SRT.wJ (left.map (lbl ss));rw[AE] at h2;omega
 have hL:pY ss left L:=⟨perm.nodup_iff.mpr (SRT.u0 _),fun l=>by
  rw[perm.mem_iff,SRT.Ml,DM]⟩
 have s2:=s1.trans (aB (o:=HO.lst (L.map V.int)) hp);have ep2:upd H1 p (HO.lst (L.map V.int)) p=some (HO.lst (L.map V.int)):=aq;generalize upd H1 p (HO.lst (L.map V.int))=H2 at s2 ep2 |-;show k _ _;subst hk;refine aO fun k hk=>?_;push_cast;refine⟨aN δ,fun r hr0=>?_⟩;have hrn:H r=none:=s2.none hr0;have hpr:p≠r:=aD ep2 hr0;have s3:=s2.trans (aB (o:=HO.lst []) hr0);have ep3:=aB (o:=HO.lst []) hr0 _ _ ep2;have er3:upd H2 r (HO.lst []) r=some (HO.lst []):=aq;generalize upd H2 r (HO.lst [])=H3 at s3 ep3 er3 |-;subst hk;obtain⟨ok2,hok2⟩:∃ok2:Addr->Prop,ok2=fun a=>ok a/\a≠r:=⟨_,rfl⟩;have ok2r:∀a,ok2 a->a≠r:=fun a h=>by rw[hok2] at h;exact h.2
 have nwk:∀{H':Hp}{xs:List V},Same H H'->H' r=some (.lst xs)->cQ ok2 H':=fun {H' xs} sH er H3 q s' hq=>by
  rw[hok2];exact⟨hnw H3 q (sH.trans s') hq,(aD (s' _ _ er) hq).symm⟩
 obtain⟨So,hSo⟩:∃So:List Wy->Hp->Prop,So=fun W H'=>∃xs,Same H H'/\H' p=some (.lst (L.map V.int))/\H' r=some (.lst xs)/\aH ok2 H' xs (W.map (wyD ss left)):=⟨_,rfl⟩;have put:∀(W:List Wy)(wy:Wy)(v:V)(xs:List V)(H4 H5:Hp),Same H H4->H4 p=some (.lst (L.map V.int))->Same H4 H5->aH ok2 (upd H5 r (.lst (xs++[v]))) (xs++[v]) (W.map (wyD ss left)++[wyD ss left wy])->So (W++[wy]) (upd H5 r (.lst (xs++[v]))):=fun W wy v xs H4 H5 s4 ep s5 t=>by
  rw[hSo];exact⟨_,dR (s4.trans s5) hrn,(aJ hpr).trans (s5 _ _ ep),aq,by rw[A6];exact t⟩
 have so3:So [] H3:=by rw[hSo];exact⟨[],s3,ep3,er3,.nil⟩
 clear er3 hr0
 -- a pick
 refine aO fun k hk=>?_;have pk:∀H4,So (wyP L) H4->k [some s,some (.ref la),some (.int (cG ss left)),some (.ref p),some (.ref r),none] H4:=by
  intro H4 so4;subst hk
  -- a table
  refine aO fun k hk=>?_;have tb:∀H5,So (wyP L++wyT ss left) H5->k [some s,some (.ref la),some (.int (cG ss left)),some (.ref p),some (.ref r),none] H5:=by
   intro H5 so5;subst hk
   -- masks
   refine aO fun k hk=>?_;have fin:∀H6 (o:Option V),So (HJ ss left L) H6->k [some s,some (.ref la),some (.int (cG ss left)),some (.ref p),some (.ref r),o] H6:=by
    intro H6 o so6;subst hk;push_cast;rw[hSo] at so6;obtain⟨xs,s6,ep6,er6,t6⟩:=so6;have hx6:=t6.length;have hw6:=Qd ss left L;rw[AE] at hx6;exact q r xs L H6 s6 hrn er6 hL (t6.keep fun a o h e=>⟨by rw[hok2] at h;exact h,e⟩) ω
   refine gM fun kt ke hkt hke=>?_;rw[hSo] at so5;obtain⟨xs5,s5,ep5,er5,t5⟩:=so5;push_cast [ep5];rw[AE];unfold HJ wyM at fin;by_cases c1:cG ss left<=64
   ·rw[if_pos c1];by_cases c2:1<L.length
    ·rw[if_pos ω];rw[if_pos ⟨c1,c2⟩] at fin;subst hkt;refine kJ fun R hR=>?_;push_cast [iH,jF,ep5,jE];obtain⟨Pm,hPm⟩:∃Pv:Nat->L2.St->Hp->Prop,Pv=fun(i:Nat) σ H'=>∃o:Option V,So (wyP L++wyT ss left++(L.take i).map Wy.msk) H'/\σ=[some s,some (.ref la),some (.int (cG ss left)),some (.ref p),some (.ref r),o]:=⟨_,rfl⟩;refine tX hR (xs:=L.map V.int) Pm (by rw[hPm,hSo];exact⟨_,⟨xs5,s5,ep5,er5,by rw[take_zero,He,CB];exact t5⟩,rfl⟩) ?_ ?_ ?_
     ·intro i σ H6 _ pm;rw[hPm,hSo] at pm;obtain⟨_,⟨_,_,ep6,_⟩,_⟩:=pm;exact SqL.of ep6
     ·intro i x σ H6 hx pm;rw[hPm,hSo] at pm;obtain⟨o,⟨xs6,s6,ep6,er6,t6⟩,rfl⟩:=pm;rw[AU] at hx;obtain⟨l,hl,rfl⟩:=BE.mp hx;have hil:i<L.length:=(AO.mp hl).1;have n6:=nwk s6 er6;have hxl:=t6.length;have hwp:(wyP L).length<=1:=by unfold wyP;split <;> simp
      have hwt:(wyT ss left).length<=1:=by unfold wyT;split <;> simp
      rw[AE,AH,AH,AE,ET] at hxl;show vq _ _ _ _;simp only[GV,GU];refine rO (ok:=ok2) rfl er6 ω ok2r t6 (d:=wyD ss left (.msk l)) (gq n6 (aR (gq n6 (aR lM (aR (gvV rfl (.int _)) b8)) (by show 2<=1000000;decide)) (aR (lN n6 (aR ?_ b8) (by show 1<=1000000;decide)) b8)) (by show 2<=1000000;decide)) fun v H7 s7 t7=>?_
      ·intro H7 s7 Q7 q7;cases ts with
       | lst os es zs tss=>
        rename_i sa sxs;have sH7:=s6.trans s7;have el7:=sH7 _ _ el;have es7:=sH7 _ _ es;push_cast;refine cY fun R2 hR2=>?_;push_cast [el7];refine je (fun k=>(bV ss k).2.2≠l) (fun τ=>∃o0,τ=[o0,some (.int l),some (.ref sa)]) hR2 el7 ω ⟨_,rfl⟩ ?_ ?_
        ·rintro i k' τ acc Pn hk' ⟨o0,rfl⟩ h1 h2;obtain⟨p1,x1,y1⟩:=(tss.same sH7).stN (lf.lt _ (A7 hk'));push_cast [es7,x1,y1];by_cases c:(bV ss k').2.2=l
         ·rw[decide_eq_true c,if_neg δ];exact h2 (by simpa using c) _ ⟨_,rfl⟩
         rw[decide_eq_false c,if_pos (show(!false)=true from rfl)];exact h1 (by simpa using c) _ ⟨_,rfl⟩
        intro d hd;refine⟨d,_,rfl,aq,BG (Cf ..) ω,fun k hk=>by have:=lf.lt k (DB.mp hk).1;omega,fun H8 s8=>q7 _ H8 ((aB hd).trans s8) (.int _)⟩
      show Pm _ _ _;rw[hPm];refine⟨_,?_,rfl⟩;rw[show(L.take (i+1)).map Wy.msk=(L.take i).map Wy.msk++[Wy.msk l] by rw[take_snoc hl,A6];rfl,<- Dx];exact put _ _ v xs6 H6 H7 s6 ep6 s7 t7
     intro σ H6 pm;rw[hPm] at pm;obtain⟨o,so6,rfl⟩:=pm;rw[AE,ED] at so6;exact fin _ _ so6
    rw[if_neg ω];rw[if_neg (fun z=>c2 z.2),CB] at fin;subst hke;exact fin _ _ (by rw[hSo];exact⟨xs5,s5,ep5,er5,t5⟩)
   rw[if_neg c1];rw[if_neg (fun z=>c1 z.1),CB] at fin;subst hke;exact fin _ _ (by rw[hSo];exact⟨xs5,s5,ep5,er5,t5⟩)
  refine gM fun kt ke hkt hke=>?_;push_cast;unfold wyT at tb;by_cases c:cG ss left<=200
  ·rw[if_pos c];rw[if_pos c] at tb;subst hkt;rw[hSo] at so4;obtain⟨xs,s4,ep4,er4,t4⟩:=so4;have n4:=nwk s4 er4;have hxl:=t4.length;have hwp:(wyP L).length<=1:=by unfold wyP;split <;> simp
   rw[AE] at hxl;exact rO (ok:=ok2) rfl er4 ω ok2r t4 (d:=wyD ss left .tab) (gq n4 (aR (gq n4 (aR lM b8) (by show 1<=1000000;decide)) (aR (lN n4 b8 (by show 0<=1000000;decide)) b8)) (by show 2<=1000000;decide)) fun v H5 s5 t5=>tb _ (put _ _ v xs H4 H5 s4 ep4 s5 t5)
  rw[if_neg c];rw[if_neg c,CB] at tb;subst hke;exact tb _ so4
 refine gM fun kt ke hkt hke=>?_;push_cast [ep3];unfold wyP at pk;rw[AE];by_cases c:L.length=1
 ·rw[if_pos ω];rw[if_pos c] at pk;subst hkt;rw[hSo] at so3;obtain⟨xs,s3,ep3,er3,t3⟩:=so3;have n3:=nwk s3 er3;have hxl:=t3.length;rw[AE,FL] at hxl;exact rO (ok:=ok2) rfl er3 ω ok2r t3 (d:=wyD ss left (.pick (L.getD 0 0))) (gq n3 (aR (gq n3 (aR lM (aR (aaJ rfl ep3 ω) b8)) (by show 2<=1000000;decide)) (aR (lN n3 b8 (by show 0<=1000000;decide)) b8)) (by show 2<=1000000;decide)) fun v H5 s5 t5=>pk _ (put [] _ v xs H3 H5 s3 ep3 s5 t5)
 rw[if_neg ω];rw[if_neg c] at pk;subst hke;exact pk _ so3
end
noncomputable abbrev lg:List Str:=["stretches","some","left","ways"]
noncomputable abbrev cI:Stmt:=top 21
theorem oX:bh lg ["stretches","some"] (aj cI):=⟨rfl,rfl,rfl,ψ,rfl,ψ,ψ⟩
theorem sX:NM_ lg cI 0 "stretches" := .of ψ
theorem CW:NM_ lg cI 1 "some" := .of ψ
theorem jD:NM_ lg cI 2 "left" := .of ψ
theorem m8:NM_ lg cI 3 "ways" := .of ψ
theorem yJ:GI_ cI "len" := by decide +kernel
theorem nF:GI_ cI "stretches_in" := by decide +kernel
theorem nA:GI_ cI "ways_by_label" := by decide +kernel
theorem lO:GI_ cI "ways_by_stretch" := by decide +kernel
theorem Hj:Bn "ways_of_set" := ⟨ψ,ψ⟩
noncomputable def YT (n:Nat):Sp:=fun vs H Q _=>∃(s:V)(x:Nat)(ok:Addr->Prop)(ss:Sts),vs=[s,.int (x:Int)]/\cQ ok H/\aG ok H s (.list (ss.map stD))/\ss.length=n/\0<x/\x<2^n /\
 ∀(r:Addr)(xs:List V)(L:List Int) H',Same H H'->H r=none->H' r=some (.lst xs)->pY ss (bC n x) L->aH ok H' xs ((MN ss (bC n x) L).map (wyD ss (bC n x)))->xs.length<=1000->Q (.ref r) H'
section
variable {P:AR}{w:Bi}{K:AD}{mg:Str->Option Ap}{base:Heap}{f:Addr}{fd:CY}{bs:List Str}
theorem aan {n:Nat}(hn:n<=60) (hB:∀x:Str,x∈BLs->mg x=none) (CStretchesIn:Cal P w K mg base "stretches_in" 1 ["some"] (Zk n)) (CWaysByLabel:Cal P w K mg base "ways_by_label" 2 q2_ aa7) (CWaysByStretch:Cal P w K mg base "ways_by_stretch" 2 q2_ aa6) (F:Fun K "ways_of_set" "ways_of_set" cI f fd):dF P w K mg base CX0 3 f fd ["stretches","some"] (YT n):=by
 refine F.okq oX (fun vs H Q E h=>?_) (fun cdv A outer s H vs Q E hr h=>?_)
 ·obtain⟨s,x,ok,ss,rfl,_⟩:=h;rfl
 obtain⟨s,x,ok,ss,rfl,hnw,ts,hsn,h0,hx,q⟩:=h;refine⟨_,(aF (bG jD oX.nd (bw CStretchesIn (hr.mono δ) nF qQ (ak (ao CW) aA rfl) rfl rfl) rfl (.inl rfl))
  (aF (bG m8 oX.nd (bw CWaysByLabel (hr.mono δ) nA Ab (ak (ao sX) (ak (ao jD) aA rfl) rfl) rfl rfl) rfl (.inl rfl))
  (aF (dm (bx Bf (bW bM yJ (hB "len" d8) BH d9 (ak (ao jD) aA rfl) rfl rfl) au (aQ _)) (aK (dw (KR (ao m8) (bw CWaysByStretch (hr.mono δ) lO wu (ak (ao sX) (ak (ao jD) aA rfl) rfl) rfl rfl) rfl rfl rfl rfl rfl) rfl)) cg)
  (aK (aU (ao m8)))))),?_⟩
 have lf:=jJ hsn h0 hx;have hc:=nM n x;refine aO fun k hk=>?_;push_cast;refine⟨x,rfl,hx,fun la H1 s1 hla el1=>?_⟩;push_cast;subst hk;have okl:ok la:=hnw.new hla;generalize bC n x=left at *;refine aO fun k hk=>?_;push_cast;refine⟨s,la,ok,ss,left,rfl,hnw.same s1,ts.same s1,okl,el1,lf,ω,ω,fun r xs L H2 s2 hr2 er2 hL t2 hxl=>?_⟩;push_cast;subst hk;have el2:=s2 _ _ el1;have hrn:H r=none:=s1.none hr2;refine aO fun k hk=>?_;refine gM fun kt ke hkt hke=>?_;push_cast [el2];rw[dZ];have fin:∀(ys:List V) H5,Same H H5->H5 r=some (.lst ys)->aH ok H5 ys ((MN ss left L).map (wyD ss left))->ys.length<=1000->k [some s,some (.int (x:Int)),some (.ref la),some (.ref r)] H5:=fun ys H5 s5 er5 t5 hl5=>by
  subst hk;push_cast;exact q r ys L H5 s5 hrn er5 hL t5 hl5
 unfold MN at fin;by_cases c:1<left.length
 ·rw[if_pos ω];rw[if_pos c] at fin;subst hkt;push_cast [Eu,Mg,er2,Dp];refine⟨s,la,fun a=>ok a/\a≠r,ss,left,rfl,fun H4 q4 s4 hq=>⟨hnw H4 q4 ((s1.trans s2).trans s4) hq,(aD (s4 _ _ er2) hq).symm⟩,((ts.keep fun a o h e=>⟨⟨h,aD e hrn⟩,e⟩).same s1).same s2,el2,lf,ω,ω,fun r3 ys H3 s3 hr3 er3 t3=>?_⟩;have er23:=s3 _ _ er2;show O7 r (.ref r3) H3 _;rw[GX,er23,er3,UL];have hyl:=t3.length;have hws:=Qc ss left;rw[AE] at hyl;refine⟨Zn ω,?_⟩;have rr:r3≠r:=(aD er2 hr3).symm;have sH3:=(s1.trans s2).trans s3;exact fin (xs++ys) _ (dR sH3 hrn) aq (by
   rw[A6];exact((t2.same s3).keep fun a o h e=>⟨h.1,by rw[aJ h.2];exact e⟩).append (t3.keep fun a o h e=>⟨h.1.1,by rw[aJ h.1.2];exact e⟩)) (by rw[AH];omega)
 rw[if_neg ω];rw[if_neg c,CB] at fin;subst hke;exact fin xs H2 (s1.trans s2) er2 (t2.keep fun a o h e=>⟨h.1,e⟩) ω
noncomputable abbrev ji:List Str:=["weights","prices","left","together","costs"]
noncomputable abbrev cA:Stmt:=top 13
theorem oY:bh ji q17_ (aj cA):=⟨rfl,rfl,rfl,ψ,rfl,ψ,ψ⟩
theorem Dd:NM_ ji cA 1 "prices" := .of ψ
theorem Dc:NM_ ji cA 2 "left" := .of ψ
theorem CZ:NM_ ji cA 3 "together" := .of ψ
theorem m9:NM_ ji cA 4 "costs" := .of ψ
theorem uW:GI_ cA "TESTS" := by decide +kernel
theorem yL:GI_ cA "sum" := by decide +kernel
theorem yK:GI_ cA "zip" := by decide +kernel
theorem Ho:Bn "step_costs" := ⟨ψ,ψ⟩
noncomputable abbrev nT:List Str:=["stretches","weights","prices"]
noncomputable abbrev cR:Stmt:=top 22
theorem zA:bh nT q4_ (aj cR):=⟨rfl,rfl,rfl,ψ,rfl,ψ,ψ⟩
theorem yq:NM_ nT cR 0 "stretches" := .of ψ
theorem uY:GI_ cR "len" := by decide +kernel
theorem rK:GI_ cR "range" := by decide +kernel
theorem Ac:Bn "cost_charges" := ⟨ψ,ψ⟩
noncomputable abbrev jK:List Str:=["stretches","charges","some"]
noncomputable abbrev cT:Stmt:=top 23
theorem zB:bh jK q13_ (aj cT):=⟨rfl,rfl,rfl,ψ,rfl,ψ,ψ⟩
theorem yt:NM_ jK cT 0 "stretches" := .of ψ
theorem yr:NM_ jK cT 2 "some" := .of ψ
theorem nH:GI_ cT "ways_of_set" := by decide +kernel
theorem Ad:Bn "charged_ways" := ⟨ψ,ψ⟩
theorem S6 (hB:∀x:Str,x∈BLs->mg x=none) {aTests:Addr}(cgTests:mg "TESTS" = some (.ref aTests)) (ktTests:KTup K aTests ([("is" : Str),("within" : Str),("below" : Str),("mask" : Str),("table" : Str)].map V.str)) (F:Fun K "step_costs" "step_costs" cA f fd):dF P w K mg base CX0 1 f fd q17_ Ks:=by
 refine F.okq oY (fun vs H Q E h=>?_) (fun cdv A outer s H vs Q E hr h=>?_)
 ·obtain⟨l,wa,z,ok,ws,zs,left,rfl,_⟩:=h;rfl
 obtain⟨l,wa,z,ok,ws,zs,left,rfl,tl,hlt,hw,hz,h5,few,q⟩:=h;refine⟨_,(aF (bG CZ oY.nd (bW (jf rfl) yL (hB "sum" rB) KL rM (ak (cJ (NX:=ji) (kX:=(aj cA).names) ["k","weights"] [none,some 0] rfl rfl ⟨rfl,ψ,ψ,ψ,ψ⟩ rfl (bY (ao Dc)) (fun _ _ _ _ _=>(bR 0 (show BQ (["k","weights"]:List Str) from by decide +kernel) rfl (C8 rfl))) (fun _ _ _ _ _=>fK) (fun _ _ _ _ _=>(aL aW (bA 1) (bA 0) (fun _ _=>rfl)))) aA rfl) rfl rfl) rfl (.inl rfl))
  (aF (Wf (NX:=["weights","prices","left","together","costs"]) (kX:=(aj cA).names) ["word","price","together"] [none,none,some 3] m9 oY.nd rfl rfl ⟨rfl,ψ,ψ,ψ,ψ⟩ rfl (Wi yK (hB "zip" T7) (ak (sJ (v:=V.ref aTests) uW cgTests rfl Yz) (ak (ao Dd) aA rfl) rfl) rfl rfl) (fun _ _ _ _ _=>(jy (n:=2) rfl (bL (bR 0 (show BQ (["word","price","together"]:List Str) from by decide +kernel) rfl (C8 rfl)) (bL (bR 1 (show BQ (["word","price","together"]:List Str) from by decide +kernel) rfl (C8 rfl)) gP rfl) rfl) rfl rfl)) (fun _ _ _ _ _=>fK) (fun _ _ _ _ _=>(bA 0)) (fun _ _ _ _ _=>(aM eG (bA 1) (bA 2))))
  (aF (abf hr.HW (ao m9) bD au rfl)
  (aK (aU (ao m9)))))),?_⟩
 obtain⟨la,rfl,okl,el,ll⟩:=tl.left;replace el:H la=some (.lst (nv left)):=el;refine aO fun k hk=>?_;push_cast;refine cY fun R2 hR2=>?_;push_cast [el];refine iB (fun k=>ws.getD k 0) (fun τ=>∃o0,τ=[o0,some (.ref wa)]) hR2 el ll ⟨_,rfl⟩ ?_ ?_
 ·rintro i k' τ acc Pn hk' ⟨o0,rfl⟩ h1;have hwk:=Ej (zs:=ws) (i:=k') (hlt _ (A7 hk'));push_cast [hw,hwk];exact h1 _ ⟨_,rfl⟩
 intro d2 hd2;have s3:=aB (o:=HO.lst ((left.map fun k=>ws.getD k 0).map V.int)) hd2;have e3:upd H d2 (HO.lst ((left.map fun k=>ws.getD k 0).map V.int)) d2=_:=aq;generalize upd H d2 (HO.lst ((left.map fun k=>ws.getD k 0).map V.int))=H3 at s3 e3 |-;push_cast [e3];refine⟨_,rfl,?_⟩;have hz3:=s3 _ _ hz;subst hk;refine aO fun k hk=>?_;push_cast;refine Ys fun R3 hR3=>?_;push_cast [Uo];refine⟨aTests,z,_,_,rfl,ktTests.sq,SqT.of hz3,?_⟩;refine Yr (kvs:=fY (zs.map (· * sumK ws left))) (ys:=zs.map V.int) (fun τ=>∃o0 o1,τ=[o0,o1,some (.int (sumK ws left))]) hR3 ktTests.sq (SqT.of hz3) (by rw[AE,h5];exact AZ 5) (by show 5<=15;decide) ⟨_,_,rfl⟩ ?_ ?_
 ·rintro i kv y τ H4 p Nx hkv hy s4 ⟨o0,o1,rfl⟩ hp hN;have s5:=aB (o:=HO.tup [kV kv.1,y]) hp;have e5:upd H4 p (HO.tup [kV kv.1,y]) p=_:=aq;generalize upd H4 p (HO.tup [kV kv.1,y])=H5 at s5 e5 |-;rw[AU] at hy;cases hzi:zs[i]? with
  | none=>rw[hzi] at hy;cases hy
  | some zi=>
   rw[hzi] at hy;cases hy;have hkv2:=Yl hkv;rw[Gu,AN,hzi] at hkv2;have hfz:=few zi (A7 hzi);push_cast [e5];refine⟨.inl ⟨ω,ω⟩,kv.1,rfl,?_⟩;have:=hN [some (kV kv.1),some (.int zi),some (.int (sumK ws left))] H5 (s4.trans s5) ⟨_,_,rfl⟩;rw[hkv2] at this;exact this
 intro d H4 s4 hd4;have s5:=aB (o:=HO.dK (cP [] (fY (zs.map (· * sumK ws left))))) hd4;subst hk;refine aO fun k hk=>?_;push_cast [rdA];refine⟨d,_,rfl,PK.k (k:=D0 "pick") aq (Yk _),?_⟩;subst hk;push_cast;rw[Vr];exact q d _ ((s3.trans s4).trans (aB hd4)) aq
theorem Jj {n:Nat}(hn:n<=12) (hB:∀x:Str,x∈BLs->mg x=none) (CStretchesIn:Cal P w K mg base "stretches_in" 1 ["some"] (Zk n)) (CStepCosts:Cal P w K mg base "step_costs" 1 q17_ Ks) (F:Fun K "cost_charges" "cost_charges" cR f fd):dF P w K mg base CX0 2 f fd q4_ (Aq n):=by
 refine F.okq zA (fun vs H Q E h=>?_) (fun cdv A outer s H vs Q E hr h=>?_)
 ·obtain⟨s,wa,z,ok,ss,ws,zs,rfl,_⟩:=h;rfl
 obtain⟨s,wa,z,ok,ss,ws,zs,rfl,hnw,ts,hsn,hw,hwl,hz,h5,few,q⟩:=h;refine⟨_,(aK (aU (cJ (NX:=nT) (kX:=(aj cR).names) ["some","weights","prices"] [none,some 1,some 2] rfl rfl ⟨rfl,ψ,ψ,ψ,ψ⟩ rfl (ig rK (hB "range" fV) (ak (aM j7 au (bW bM uY (hB "len" d8) BH d9 (ak (ao yq) aA rfl) rfl rfl)) aA rfl) rfl) (fun _ _ _ _ _=>(bR 0 (show BQ (["some","weights","prices"]:List Str) from by decide +kernel) rfl (C8 rfl))) (fun _ _ _ _ _=>fK) (fun _ _ _ _ _=>(bw CStepCosts (hr.mono δ) rfl Ho (ak (bA 1) (ak (bA 2) (ak (bw CStretchesIn (hr.mono δ) rfl qQ (ak (bA 0) aA rfl) rfl rfl) aA rfl) rfl) rfl) rfl rfl))))),?_⟩;have p2:2^n<=4096:=BG (EF δ hn) δ;cases ts with
 | lst os es zs' tss=>
  rename_i sa sxs;have hsl:=tss.length;rw[AE,hsn] at hsl;push_cast;refine cY fun R hR=>?_;push_cast [es,qO];refine⟨⟨ω,ω,δ⟩,?_⟩;rw[Jn,hsl,B6,show((2:Int)^n)=((2^n:Nat):Int) by rw[FI];rfl];generalize hm:2^n=m at p2 |-;refine⟨ω,ω,?_⟩;rw[B6];obtain⟨Pc,hPc⟩:∃Pv:Nat->List V->L2.St->Hp->Prop,Pv=fun(i:Nat) acc τ H'=>∃(o0:Option V)(cds:List Addr),Same H H'/\acc=cds.map V.ref/\cds.length=i/\(∀(x:Nat) d,cds[x]?=some d->H' d=some (.dK (DR zs (sumK ws (bC n x)))))/\τ=[o0,some (.ref wa),some (.ref z)]:=⟨_,rfl⟩;refine u5 hR (aN ω) Pc (by rw[hPc];exact⟨_,[],Same.refl _,rfl,rfl,fun x d h=>by simp at h,rfl⟩) ?_ ?_ ?_
  ·intro i acc τ H5 pc;rw[hPc] at pc;obtain⟨_,cds,_,rfl,hl,_⟩:=pc;rw[AE];omega
  ·intro i acc τ H5 hi pc;rw[hPc] at pc;obtain⟨o0,cds,s5,rfl,hl,hc,rfl⟩:=pc;push_cast;rw[zero_add];refine⟨i,rfl,ω,fun la H6 s6 hla el6=>?_⟩;refine⟨_,wa,z,ok,ws,zs,bC n i,rfl,fW (hnw.new (s5.none hla)) el6 (by have:=nM n i;omega),fun k hk=>by have:=(gj.mp hk).1;omega,(s5.trans s6) _ _ hw,(s5.trans s6) _ _ hz,h5,few,fun pd H7 s7 e7=>?_⟩;rw[hPc];refine⟨_,cds++[pd],(s5.trans s6).trans s7,by rw[A6];rfl,by rw[AH,hl];rfl,fun x d hx=>?_,rfl⟩;rcases FX x cds.length with c|c
   ·rw[C3 c] at hx;exact s7 _ _ (s6 _ _ (hc x d hx))
   rw[BC c] at hx;have hx0:x-cds.length=0:=by
    rcases Nat.eq_zero_or_pos (x-cds.length) with z|z
    ·exact z
    rw[EE (by rw[A8];omega)] at hx;cases hx
   rw[hx0] at hx;cases hx;rw[show x=i by omega];exact e7
  intro acc τ H5 d pc hd;rw[hPc] at pc;obtain⟨o0,cds,s5,rfl,hl,hc,rfl⟩:=pc;exact q d _ (s5.trans (aB hd)) (s5.none hd) ⟨cds,aq,ω,fun x e _ hx=>⟨_,aB hd _ _ (hc x e hx),fun p=>U9 ws zs (bC n x) p⟩⟩
theorem Jk {f':mQ}{n:Nat}(hn:n<=12) (hB:∀x:Str,x∈BLs->mg x=none) (CWaysOfSet:Cal P w K mg base "ways_of_set" 3 ["stretches","some"] (YT n)) (F:Fun K "charged_ways" "charged_ways" cT f fd):dF P w K mg base CX0 4 f fd q13_ (Ar f' n):=by
 refine F.okq zB (fun vs H Q E h=>?_) (fun cdv A outer s H vs Q E hr h=>?_)
 ·obtain⟨s,ca,x,ok,ss,rfl,_⟩:=h;rfl
 obtain⟨s,ca,x,ok,ss,rfl,hnw,ts,hsn,h0,hx,hch,q⟩:=h;refine⟨_,(aK (aU (cJ (NX:=jK) (kX:=(aj cT).names) ["head","parts","charges","some"] [none,none,some 1,some 2] rfl rfl ⟨rfl,ψ,ψ,ψ,ψ⟩ rfl (bY (bw CWaysOfSet (hr.mono δ) nH Hj (ak (ao yt) (ak (ao yr) aA rfl) rfl) rfl rfl)) (fun _ _ _ _ _=>(jy (n:=2) rfl (bL (bR 0 (show BQ (["head","parts","charges","some"]:List Str) from by decide +kernel) rfl (C8 rfl)) (bL (bR 1 (show BQ (["head","parts","charges","some"]:List Str) from by decide +kernel) rfl (C8 rfl)) gP rfl) rfl) rfl rfl)) (fun _ _ _ _ _=>fK) (fun _ _ _ _ _=>(bQ (ak (YZ hr.HW (aL aW (bA 2) (bA 3) (fun _ _=>rfl)) (aL aW (bA 0) au (fun _ _=>rfl)) (fun _ _=>rfl)) (ak (bA 0) (ak (bA 1) aA rfl) rfl) rfl)))))),?_⟩;have lf:=jJ hsn h0 hx;push_cast;refine cY fun R hR=>?_;push_cast [iH];refine⟨s,x,ok,ss,rfl,hnw,ts,hsn,h0,hx,fun r xs L H1 s1 hr1 er1 hL t1 hx1=>?_⟩;show itK K (V.ref r) H1 R;rw[jF,er1,jE];have hmem:=T5 hL lf;generalize MN ss (bC n x) L=W at *;have hxl:=t1.length;rw[AE] at hxl;obtain⟨Pc,hPc⟩:∃Pv:Nat->List V->L2.St->Hp->Prop,Pv=fun(i:Nat) acc τ H'=>∃(o0 o1:Option V),Same H1 H'/\acc.length=i/\aH ok H' acc ((W.take i).map (chD f' ss (bC n x)))/\τ=[o0,o1,some (.ref ca),some (.int (x:Int))]:=⟨_,rfl⟩;refine u9 hR (xs:=xs) (aN ω) Pc (by rw[hPc];exact⟨_,_,Same.refl _,rfl,.nil,rfl⟩) ?_ ?_ ?_ ?_
 ·intro i acc τ H2 pc;rw[hPc] at pc;obtain⟨_,_,_,hl,_⟩:=pc;omega
 ·intro i acc τ H2 pc;rw[hPc] at pc;obtain⟨_,_,s2,_⟩:=pc;exact SqL.of (s2 _ _ er1)
 ·intro i y acc τ H2 hy pc;rw[hPc] at pc;obtain⟨o0,o1,s2,hl,t2,rfl⟩:=pc;obtain⟨d,hd,td⟩:=(t1.same s2).get hy;rw[AU] at hd;obtain⟨w1,hw1,rfl⟩:=BE.mp hd;cases td with
  | tup ot et zt tt=>
   cases tt with
   | cons th tt=>
    cases tt with
    | cons tp tt=>
     cases tt;rename_i ta xh xp;have th0:=th;have tp0:=tp;obtain⟨hs,hwd⟩:∃r',hdL w1=.str (jB (gW w1))::r':=by cases w1 <;> exact⟨_,rfl⟩
     unfold wyD at *;cases th with
     | tup oh eh zh thh=>
      rename_i ha hxs;rw[hwd] at thh;cases thh with
      | cons tw thh=>
       cases tw;obtain⟨cds,ec,lc,hc⟩:=hch.same (s1.trans s2);obtain⟨cd,hcd⟩:∃cd,cds[x]?=some cd:=⟨cds[x]'ω,AF ω⟩;obtain⟨kvs,ek,hk⟩:=hc x cd h0 hcd;have eca:atI (cds.map V.ref) (x:Int)=some (.ref cd):=dI (by rw[AU,hcd];rfl);push_cast [et,rdA,eh,ec,eca];refine⟨cd,V.int (f' (bC n x) (gW w1)),rfl,zf.k' (k:=D0 (jB (gW w1))) ek (hk _),?_⟩;push_cast;refine⟨aN δ,fun p hp=>?_⟩;have s3:=aB (o:=HO.tup [V.int (f' (bC n x) (gW w1)),V.ref ha,xp]) hp;rw[hPc];refine⟨_,_,s2.trans s3,by rw[AH,hl];rfl,?_,rfl⟩;rw[take_snoc hw1,A6];exact(t2.same s3).append (.cons (.tup (hnw.new ((s1.trans s2).none hp)) aq (by show 3<=1000000;decide) (.cons (.int _) (.cons (th0.same s3) (.cons (tp0.same s3) .nil)))) .nil)
 intro acc τ H2 d pc hd;rw[hPc] at pc;obtain⟨o0,o1,s2,hl,t2,rfl⟩:=pc;rw[hxl,ED] at t2;exact q d acc W _ ((s1.trans s2).trans (aB hd)) ((s1.trans s2).none hd) aq hmem (t2.same (aB hd)) ω
end
noncomputable abbrev vo:List Str:=["ways","numbers"]
noncomputable abbrev g8:Stmt:=top 15
theorem Iu:bh vo ["ways","numbers"] (aj g8):=⟨rfl,rfl,rfl,ψ,rfl,ψ,ψ⟩
theorem Gk:NM_ vo g8 0 "ways" := .of ψ
theorem J8:Bn "bounds_of" := ⟨ψ,ψ⟩
noncomputable abbrev iM:List Str:=["ways","numbers","plans","bounds","least","cost","head","parts"]
noncomputable abbrev cX:Stmt:=top 25
theorem jM:bh iM q18_ (aj cX):=⟨rfl,rfl,rfl,ψ,rfl,ψ,ψ⟩
theorem yo:NM_ iM cX 0 "ways" := .of ψ
theorem Js:NM_ iM cX 1 "numbers" := .of ψ
theorem rA:NM_ iM cX 3 "bounds" := .of ψ
theorem rz:NM_ iM cX 4 "least" := .of ψ
theorem Jr:NM_ iM cX 5 "cost" := .of ψ
theorem yj:NM_ iM cX 6 "head" := .of ψ
theorem yh:NM_ iM cX 7 "parts" := .of ψ
theorem tR:GI_ cX "bounds_of" := by decide +kernel
theorem DK:GI_ cX "min" := by decide +kernel
theorem yN:GI_ cX "tuple" := by decide +kernel
theorem PJ:Bn "least_by" := ⟨ψ,ψ⟩
theorem sS (ss:Sts)(left:List Nat)(w:Wy):A1.list ((fB ss left w).map ptD)=oE ((fB ss left w).map aY):=by
 unfold oE;rw[KO];rfl
section
variable {P:AR}{w:Bi}{K:AD}{mg:Str->Option Ap}{base:Heap}{f:Addr}{fd:CY}{bs:List Str}
theorem N8 {f':mQ}(hB:∀x:Str,x∈BLs->mg x=none) (F:Fun K "bounds_of" "bounds_of" g8 f fd):dF P w K mg base CX0 1 f fd ["ways","numbers"] (Ez f'):=by
 refine F.okq Iu (fun vs H Q E h=>?_) (fun cdv A outer s H vs Q E hr h=>?_)
 ·obtain⟨r,na,ok,ss,left,xs,W,N,rfl,_⟩:=h;rfl
 obtain⟨r,na,ok,ss,left,xs,W,N,rfl,⟨er,t,hx,en,hlt⟩,q⟩:=h;refine⟨_,(aK (aU (cJ (NX:=vo) (kX:=(aj g8).names) ["cost","head","parts","numbers"] [none,none,none,some 1] rfl rfl ⟨rfl,ψ,ψ,ψ,ψ⟩ rfl (bY (ao Gk)) (fun _ _ _ _ _=>(jy (n:=3) rfl (bL (bR 0 (show BQ (["cost","head","parts","numbers"]:List Str) from by decide +kernel) rfl (C8 rfl)) (bL (bR 1 (show BQ (["cost","head","parts","numbers"]:List Str) from by decide +kernel) rfl (C8 rfl)) (bL (bR 2 (show BQ (["cost","head","parts","numbers"]:List Str) from by decide +kernel) rfl (C8 rfl)) gP rfl) rfl) rfl) rfl rfl)) (fun _ _ _ _ _=>fK) (fun _ _ _ _ _=>(aM bH (bA 0) (bW (jf rfl) rfl (hB "sum" rB) KL rM (ak (cJ (NX:=["cost","head","parts","numbers"]) (kX:=_) ["part","numbers"] [none,some 3] rfl rfl ⟨rfl,ψ,ψ,by (intro y hy hf;repeat (first|(rcases A5.mp hy with rfl|hy;(first|exact Or.inr rfl|exact C8 rfl|exact absurd hf δ))|exact absurd hy A9)),ψ⟩ rfl (Wj K (bA 2)) (fun _ _ _ _ _=>(bR 0 (show BQ (["part","numbers"]:List Str) from by decide +kernel) rfl (C8 rfl))) (fun _ _ _ _ _=>fK) (fun _ _ _ _ _=>(aL aW (bA 1) (bA 0) (fun _ _=>rfl)))) aA rfl) rfl rfl)))))),?_⟩
 have hxl:=t.length;rw[AE] at hxl;push_cast;refine cY fun R hR=>?_;push_cast [er];obtain⟨Pc,hPc⟩:∃Pv:Nat->List V->L2.St->Hp->Prop,Pv=fun(i:Nat) acc τ H'=>∃(o0 o1 o2:Option V),Same H H'/\acc=((W.take i).map (jl f' N ss left)).map V.int/\τ=[o0,o1,o2,some (.ref na)]:=⟨_,rfl⟩;refine u9 hR (xs:=xs) (aN ω) Pc (by rw[hPc];exact⟨_,_,_,Same.refl _,rfl,rfl⟩) ?_ ?_ ?_ ?_
 ·intro i acc τ H2 pc;rw[hPc] at pc;obtain⟨_,_,_,_,rfl,_⟩:=pc;rw[AE,AE];exact KA _ _
 ·intro i acc τ H2 pc;rw[hPc] at pc;obtain⟨_,_,_,s2,_⟩:=pc;exact SqL.of (s2 _ _ er)
 ·intro i y acc τ H2 hy pc;rw[hPc] at pc;obtain⟨o0,o1,o2,s2,rfl,rfl⟩:=pc;obtain⟨d,hd,td⟩:=(t.same s2).get hy;rw[AU] at hd;obtain⟨w1,hw1,rfl⟩:=BE.mp hd;unfold chD at td;rw[sS] at td;cases td with
  | tup ot et zt tt=>
   cases tt with
   | cons tc tt=>
    cases tt with
    | cons th tt=>
     cases tt with
     | cons tp tt=>
      cases tt;cases tc;rename_i ta xh xp;obtain⟨la,rfl,okl,el,ll⟩:=tp.left;replace el:H2 la=some (.lst (nv ((fB ss left w1).map aY))):=el;have en2:=s2 _ _ en;push_cast [et];refine cY fun R2 hR2=>?_;push_cast [el];refine iB (fun k=>N.getD k 0) (fun τ=>∃o0,τ=[o0,some (.ref na)]) hR2 el ll ⟨_,rfl⟩ ?_ ?_
      ·rintro j k' τ acc Pn hk' ⟨o0,rfl⟩ h1;have hmk:=A7 hk';obtain⟨p,hp,rfl⟩:=DM.mp hmk;have hwk:=Ej (zs:=N) (i:=aY p) (hlt w1 (A7 hw1) p hp);push_cast [en2,hwk];exact h1 _ ⟨_,rfl⟩
      intro d2 hd2;have s3:=aB (o:=HO.lst ((((fB ss left w1).map aY).map fun k=>N.getD k 0).map V.int)) hd2;have e3:upd H2 d2 (HO.lst ((((fB ss left w1).map aY).map fun k=>N.getD k 0).map V.int)) d2=_:=aq;generalize upd H2 d2 (HO.lst ((((fB ss left w1).map aY).map fun k=>N.getD k 0).map V.int))=H3 at s3 e3 |-;push_cast [e3];refine⟨_,rfl,?_⟩;rw[hPc];refine⟨_,_,_,s2.trans s3,?_,rfl⟩;rw[take_snoc hw1,A6,A6,show f' left (gW w1)+(((fB ss left w1).map aY).map fun k=>N.getD k 0).sum=jl f' N ss left w1 by unfold jl;rw[KO];rfl];rfl
 intro acc τ H2 d pc hd;rw[hPc] at pc;obtain⟨o0,o1,o2,s2,rfl,rfl⟩:=pc;rw[hxl,ED];exact q d _ (s2.trans (aB hd)) (s2.none hd) aq
theorem Ji {f':mQ}(hB:∀x:Str,x∈BLs->mg x=none) (CBoundsOf:Cal P w K mg base "bounds_of" 1 ["ways","numbers"] (Ez f')) (F:Fun K "least_by" "least_by" cX f fd):dF P w K mg base CX0 2 f fd q18_ (Am f'):=by
 refine F.okq jM (fun vs H Q E h=>?_) (fun cdv A outer s H vs Q E hr h=>?_)
 ·obtain⟨r,na,pa,ok,ss,left,xs,W,N,ps,PD,rfl,_⟩:=h;rfl
 obtain⟨r,na,pa,ok,ss,left,xs,W,N,ps,PD,rfl,wa,hnw,epa,tps,hPD,hW,q⟩:=h;refine⟨_,(aF (bG rA jM.nd (bw CBoundsOf (hr.mono δ) tR J8 (ak (ao yo) (ak (ao Js) aA rfl) rfl) rfl rfl) rfl (.inl rfl))
  (aF (bG rz jM.nd (bW (qu rfl) DK (hB "min" uN) boot_min vd (ak (ao rA) aA rfl) rfl rfl) rfl (.inl rfl))
  (aF (pA (aL aW (ao yo) (Wl hr.un1 (ao rA) (ao rz)) (fun _ _=>rfl)) (jy (n:=3) rfl (bL (dY Jr jM.nd (.inl rfl)) (bL (dY yj jM.nd (.inl rfl)) (bL (dY yh jM.nd (.inl rfl)) gP rfl) rfl) rfl) rfl rfl) rfl rfl rfl)
  (aK (aU (bQ (ak (ao rz) (ak (aM Xq (ao yj) (sO qP yN (hB "tuple" tG) boot_tuple tZ (ak (cJ (NX:=iM) (kX:=(aj cX).names) ["part","plans"] [none,some 2] rfl rfl ⟨rfl,ψ,ψ,ψ,ψ⟩ rfl (bY (ao yh)) (fun _ _ _ _ _=>(bR 0 (show BQ (["part","plans"]:List Str) from by decide +kernel) rfl (C8 rfl))) (fun _ _ _ _ _=>fK) (fun _ _ _ _ _=>(aL aW (bA 1) (bA 0) (fun _ _=>rfl)))) aA rfl) rfl rfl)) aA rfl) rfl))))))),?_⟩
 refine aO fun k hk=>?_;push_cast;refine⟨r,na,ok,ss,left,xs,W,N,rfl,wa,fun b H1 s1 hb eb=>?_⟩;push_cast;subst hk;refine aO fun k hk=>?_;push_cast;refine⟨_,.inl eb,fun z=>hW (Ic.mp z),fun M hM hle=>?_⟩;subst hk;refine aO fun k hk=>?_;have er1:=s1 _ _ wa.er;push_cast [er1,Qx];refine⟨_,SqL.of eb,SqL.of eb,hM,fun j hj=>?_⟩;obtain⟨w1,hw1,ew1⟩:∃w1,W[j]?=some w1/\jl f' N ss left w1=M:=by
  have:=hj.1;rw[AU] at this;exact BE.mp this
 have hx:=wa.t.length;rw[AE] at hx;have hjl:=(AO.mp hw1).1;have hxj:xs[j]?=some (xs[j]'ω):=AF ω;obtain⟨d,hd,td⟩:=(wa.t.same s1).get hxj;rw[AU,hw1] at hd;cases hd;have eat:atI xs (j:Int)=some (xs[j]'ω):=dI hxj;generalize xs[j]'ω=xj at td eat;unfold chD at td;rw[sS] at td;cases td with
 | tup ot et zt tt=>
  cases tt with
  | cons tc tt=>
   cases tt with
   | cons th tt=>
    cases tt with
    | cons tp tt=>
     cases tt;cases tc;rename_i ta xh xp;obtain⟨la,rfl,okl,el,ll⟩:=tp.left;replace el:H1 la=some (.lst (nv ((fB ss left w1).map aY))):=el;have epa1:=s1 _ _ epa;cases th with
     | tup oh eh zh thh=>
      rename_i ha hxs;push_cast [eat,et];subst hk;push_cast;refine cY fun R2 hR2=>?_;push_cast [el];have hpl:=tps.length;obtain⟨Pc,hPc⟩:∃Pv:Nat->List V->L2.St->Hp->Prop,Pv=fun(i:Nat) acc τ H'=>∃(o0:Option V),H1=H'/\acc.length=i/\aH ok H1 acc (((fB ss left w1).take i).map fun p=>PD.getD (aY p) .none)/\τ=[o0,some (.ref pa)]:=⟨_,rfl⟩;have hpt:=Fx ss left w1;have hlw:=wa.lt w1 (A7 hw1);refine u9 hR2 (xs:=nv ((fB ss left w1).map aY)) (aN (by rw[dZ,AE];omega)) Pc (by rw[hPc];exact⟨_,rfl,rfl,.nil,rfl⟩) ?_ ?_ ?_ ?_
      ·intro i acc τ H2 pc;rw[hPc] at pc;obtain⟨_,_,hl,_⟩:=pc;omega
      ·intro i acc τ H2 pc;rw[hPc] at pc;obtain⟨_,rfl,_⟩:=pc;exact SqL.of el
      ·intro i y acc τ H2 hy pc;rw[hPc] at pc;obtain⟨o0,rfl,hl,t2,rfl⟩:=pc;unfold nv at hy;rw[AU,AU] at hy;obtain⟨k',hk',rfl⟩:=BE.mp hy;obtain⟨p,hp,rfl⟩:=BE.mp hk';have hlp:=hlw p (A7 hp);have hpx:ps[aY p]?=some (ps[aY p]'ω):=AF ω;obtain⟨dp,hdp,tdp⟩:=(tps.same s1).get hpx;have eap:atI ps ((aY p:Nat):Int)=some (ps[aY p]'ω):=dI hpx;generalize ps[aY p]'ω=vp at tdp eap;push_cast [epa1,eap];rw[hPc];refine⟨_,rfl,by rw[AH,hl];rfl,?_,rfl⟩;rw[take_snoc hp,A6];refine t2.append (.cons ?_ .nil);show aG ok _ vp (PD.getD (aY p) .none);rw[AN,hdp];exact tdp
      intro acc τ H2 d pc hd;rw[hPc] at pc;obtain⟨o0,rfl,hl,t2,rfl⟩:=pc;rw[dZ,AE,ED] at t2;have s3:=aB (o:=HO.lst acc) hd;have e3:upd H1 d (HO.lst acc) d=_:=aq;generalize upd H1 d (HO.lst acc)=H3 at s3 e3 |-;push_cast;refine⟨acc,.inl ⟨SqL.of e3,fun l hl3=>?_⟩⟩;have s4:=aB (o:=HO.tup acc) hl3;have e4:upd H3 l (HO.tup acc) l=_:=aq;generalize upd H3 l (HO.tup acc)=H4 at s4 e4 |-;have eh4:=s4 _ _ (s3 _ _ eh);have fin:∀(v:V)(H5:Hp),Same H4 H5->aG ok H5 v (Qg ss left PD w1)->(2<=AL/\∀(p:Addr),H5 p=none->Q (V.ref p) (upd H5 p (HO.tup [V.int M,v]))):=fun v H5 s5 t5=>⟨aN δ,fun p hp=>by
       have s6:=aB (o:=HO.tup [V.int M,v]) hp;have sA:=((s1.trans s3).trans s4).trans s5;refine q _ w1 _ (sA.trans s6) (A7 hw1) (fun w' hw'=>by rw[ew1];exact hle _ (E7 hw')) ?_;rw[ew1];exact .tup (hnw.new (sA.none hp)) aq (by show 2<=1000000;decide) (.cons (.int _) (.cons (t5.same s6) .nil))⟩
      have hhl:=thh.length;have hh2:=Yg w1;have hpos:0<(hdL w1).length:=by cases w1 <;> exact Nat.succ_pos _
      have hal:=t2.length;rw[AE] at hal;push_cast [eh4,e4,Wa,aaR];refine⟨fun z=>by rw[z] at hhl;exact absurd hhl (by show ¬0=_;omega),aN ω,fun hnil=>?_,fun hne p hp=>?_⟩
      ·subst hnil;refine fin _ _ (Same.refl _) ?_;unfold Qg;rw[show((fB ss left w1).map fun p=>PD.getD (aY p) A1.none)=[] from Ic.mpr (Fa hal.symm),CB];exact .tup oh eh4 zh ((thh.same s3).same s4)
      have s5:=aB (o:=HO.tup (hxs++acc)) hp;exact fin _ _ s5 (.tup (hnw.new (((s1.trans s3).trans s4).none hp)) aq (by rw[AH];omega) (((thh.same (s3.trans s4)).append (t2.same (s3.trans s4))).same s5))
end
noncomputable abbrev dO:List Str:=["stretches","charges","numbers","plans","some","number","plan"]
noncomputable abbrev bB:Stmt:=top 27
theorem eY:bh dO ["stretches","charges"] (aj bB):=⟨rfl,rfl,rfl,ψ,rfl,ψ,ψ⟩
theorem vV:NM_ dO bB 0 "stretches" := .of ψ
theorem oA:NM_ dO bB 1 "charges" := .of ψ
theorem gR:NM_ dO bB 2 "numbers" := .of ψ
theorem gQ:NM_ dO bB 3 "plans" := .of ψ
theorem ou:NM_ dO bB 4 "some" := .of ψ
theorem nZ:NM_ dO bB 5 "number" := .of ψ
theorem nY:NM_ dO bB 6 "plan" := .of ψ
theorem lB:GI_ bB "charged_ways" := by decide +kernel
theorem oN:GI_ bB "least_by" := by decide +kernel
theorem tQ:GI_ bB "len" := by decide +kernel
theorem qF:GI_ bB "range" := by decide +kernel
theorem yW:Bn "leasts_of_sets" := ⟨ψ,ψ⟩
noncomputable abbrev jj:List Str:=["stretches","weights","prices","numbers","plans"]
noncomputable abbrev cO:Stmt:=top 28
theorem oZ:bh jj q4_ (aj cO):=⟨rfl,rfl,rfl,ψ,rfl,ψ,ψ⟩
theorem tE:NM_ jj cO 0 "stretches" := .of ψ
theorem Di:NM_ jj cO 1 "weights" := .of ψ
theorem Dh:NM_ jj cO 2 "prices" := .of ψ
theorem tD:NM_ jj cO 3 "numbers" := .of ψ
theorem sZ:NM_ jj cO 4 "plans" := .of ψ
theorem nG:GI_ cO "cost_charges" := by decide +kernel
theorem mK:GI_ cO "leasts_of_sets" := by decide +kernel
theorem Hr:Bn "least_plan" := ⟨ψ,ψ⟩
theorem Mx {xs:List V}{m:Nat}{v:V}(h:xs.length=m)(h0:0<m)(e:xs[m-1]?=some v):atI xs (-1)=some v:=by
 unfold atI ixN;rw[if_neg δ,if_pos ω,show((-1:Int)+(xs.length:Nat)).toNat=m-1 by omega];exact e
theorem YM {ss:Sts}{left:List Nat}(lf:Lf ss left):∃w,pZ ss left w:=by
 match left,lf with
 | [],lf=>exact absurd rfl lf.ne
 | [a],_=>exact⟨.pick (lbl ss a),fun k hk=>by rw[AK.mp hk]⟩
 | a::b::l,_=>exact⟨.wit a,A0,by simp⟩
theorem Qf {ss:Sts}{left:List Nat}{w:Wy}{T:List Pl}(lf:Lf ss left)(hw:pZ ss left w)(hT:aY left<=T.length):Qg ss left (Fy T) w=plD (mkP w ((fB ss left w).map fun p=>T.getD (aY p) .tab)):=by
 rw[abE ss left w _ (AE _)];unfold Qg;rw[KO];congr 2;refine EL fun p hp=>?_;obtain⟨l1,l2,_⟩:=j6 lf hw p hp;exact KZ (oW l1.ne) ω
section
variable {P:AR}{w:Bi}{K:AD}{mg:Str->Option Ap}{base:Heap}{f:Addr}{fd:CY}{bs:List Str}
theorem N5 {f':mQ}(hf:aaV f') {n:Nat}(hn:n<=12) (hB:∀x:Str,x∈BLs->mg x=none) (CLeastBy:Cal P w K mg base "least_by" 2 q18_ (Am f')) (CChargedWays:Cal P w K mg base "charged_ways" 4 q13_ (Ar f' n)) (F:Fun K "leasts_of_sets" "leasts_of_sets" bB f fd):dF P w K mg base CX0 5 f fd ["stretches","charges"] (Ey f' n):=by
 refine F.okq eY (fun vs H Q E h=>?_) (fun cdv A outer s H vs Q E hr h=>?_)
 ·obtain⟨s,ca,ok,ss,rfl,_⟩:=h;rfl
 obtain⟨s,ca,ok,ss,rfl,hnw,ts,hsn,hch,q⟩:=h;refine⟨_,(aF (bG gR eY.nd (bN (ak au aA rfl)) rfl (.inl rfl))
  (aF (bG gQ eY.nd (bN (ak ZD aA rfl)) rfl (.inl rfl))
  (aF (gY B7 rfl (Az qF (hB "range" fV) (ak au (ak (bW bM tQ (hB "len" d8) BH d9 (ak (ao oA) aA rfl) rfl rfl) aA rfl) rfl) rfl rfl) (dY ou eY.nd (.inl rfl))
  (aF (pA (bw CLeastBy (hr.mono δ) oN PJ (ak (bw CChargedWays (hr.mono δ) lB Ad (ak (ao vV) (ak (ao oA) (ak (ao ou) aA rfl) rfl) rfl) rfl rfl) (ak (ao gR) (ak (ao gQ) aA rfl) rfl) rfl) rfl rfl) (jy (n:=2) rfl (bL (dY nZ eY.nd (.inl rfl)) (bL (dY nY eY.nd (.inl rfl)) gP rfl) rfl) rfl rfl) rfl rfl rfl)
  (aF (dw (eV (ao gR) (ao nZ) rfl rfl rfl rfl rfl) rfl)
  (aK (dw (eV (ao gQ) (ao nY) rfl rfl rfl rfl rfl) rfl)))) (fun _=>rfl))
  (aK (aU (bQ (ak (ao gR) (ak (ao gQ) aA rfl) rfl))))))),?_⟩
 have p2:2^n<=4096:=BG (EF δ hn) δ;have p1:=ES n;refine aO fun k hk=>?_;push_cast;refine⟨aN δ,fun na hna=>?_⟩;subst hk;refine aO fun k hk=>?_;push_cast;refine⟨aN δ,fun pa hpa=>?_⟩;have s1:=aB (o:=HO.lst [V.int 0]) hna;have s2:=aB (o:=HO.lst [V.non]) hpa;have en2:=s2 _ _ (show upd H na (HO.lst [V.int 0]) na=_ from aq);have ep2:upd (upd H na (HO.lst [V.int 0])) pa (HO.lst [V.non]) pa=_:=aq;have hpn:H pa=none:=s1.none hpa;have hne:na≠pa:=aD (show upd H na (HO.lst [V.int 0]) na=_ from aq) hpa;have s12:=s1.trans s2;generalize upd (upd H na (HO.lst [V.int 0])) pa (HO.lst [V.non])=H2 at s12 en2 ep2 |-;clear s1 s2 hpa;subst hk;refine aO fun k hk=>?_;refine kJ fun R hR=>?_;obtain⟨cds,ec,lc,hc⟩:=hch.same s12;push_cast [ec,LK];rw[AE,lc];generalize hm:2^n=m at p1 p2 |-;rw[show((m:Int)-1).toNat=m-1 by omega];refine⟨ω,?_⟩;obtain⟨ok2,hok2⟩:∃ok2:Addr->Prop,ok2=fun a=>ok a/\a≠na/\a≠pa:=⟨_,rfl⟩;have nw2:∀{H':Hp}{xs ys:List V},Same H H'->H' na=some (.lst xs)->H' pa=some (.lst ys)->cQ ok2 H':=fun {H' xs ys} sH e1 e2 H3 p s' hp=>by
  rw[hok2];exact⟨hnw H3 p (sH.trans s') hp,(aD (s' _ _ e1) hp).symm,(aD (s' _ _ e2) hp).symm⟩
 have ts2:aG ok2 H s (.list (ss.map stD)):=ts.keep fun a o h e=>⟨by rw[hok2];exact⟨h,aD e hna,aD e hpn⟩,e⟩;have kn:∀{H':Hp}{xs:List V}{ds:List A1}{o:HO},aH ok2 H' xs ds->aH ok2 (upd H' na o) xs ds:=fun t=>t.keep fun a o h e=>⟨h,by rw[hok2] at h;rw[aJ h.2.1];exact e⟩;have kp:∀{H':Hp}{xs:List V}{ds:List A1}{o:HO},aH ok2 H' xs ds->aH ok2 (upd H' pa o) xs ds:=fun t=>t.keep fun a o h e=>⟨h,by rw[hok2] at h;rw[aJ h.2.2];exact e⟩;obtain⟨Pv,hPv⟩:∃Pv:Nat->L2.St->Hp->Prop,Pv=fun(i:Nat) σ H'=>∃(N:List Int)(T:List Pl)(ps:List V)(o4 o5 o6:Option V),Same H H'/\H' na=some (.lst (N.map V.int))/\H' pa=some (.lst ps)/\aH ok2 H' ps (Fy T)/\Tbl f' ss n (i+1) N/\PlT f' ss n (i+1) N T/\σ=[some s,some (.ref ca),some (.ref na),some (.ref pa),o4,o5,o6]:=⟨_,rfl⟩;refine Ma hR Pv (by rw[hPv];exact⟨[0],[.tab],[.non],_,_,_,s12,en2,ep2,.cons .non .nil,Tbl.start f' ss n,PlT.start f' ss n _,rfl⟩) ?_ ?_
 ·intro i σ H3 hi pv;rw[hPv] at pv;obtain⟨N,T,ps,o4,o5,o6,s3,en3,ep3,tp3,tb,pt,rfl⟩:=pv;have him:i+1<2^n:=ω;have lf:=jJ hsn (show 0<i+1 by omega) him;have hset:=jW him;refine aO fun k2 hk2=>?_;push_cast;rw[show(1:Int)+(i:Int)=((i+1:Nat):Int) by omega];refine⟨s,ca,i+1,ok2,ss,rfl,nw2 s3 en3 ep3,ts2.same s3,hsn,ω,him,hch.same s3,fun r xs W H4 s4 hr4 er4 hW t4 hx4=>?_⟩;have en4:=s4 _ _ en3;have ep4:=s4 _ _ ep3;have hTl:T.length=N.length:=by rw[pt.len,tb.len]
  have hWne:W≠[]:=fun z=>by
   obtain⟨w1,hw1⟩:=YM lf;have:=(hW w1).mpr hw1;rw[z] at this;cases this
  refine⟨r,na,pa,ok2,ss,bC n (i+1),xs,W,N,ps,Fy T,rfl,⟨er4,t4,hx4,en4,fun w1 hw1 p hp=>by
   obtain⟨_,l2,_⟩:=j6 lf ((hW w1).mp hw1) p hp;rw[tb.len];omega⟩,nw2 (s3.trans s4) en4 ep4,ep4,tp3.same s4,by rw[xP,hTl],hWne,fun v w1 H5 s5 hw1 hle t5=>?_⟩
  have en5:=s5 _ _ en4;have ep5:=s5 _ _ ep4;have tp5:=(tp3.same s4).same s5;have isw:=(hW w1).mp hw1;rw[Qf lf isw (by rw[hset,pt.len];exact AZ _)] at t5;have good:=aav hf hsn him ω pt isw rfl;have tb':=tb.snoc hsn ω him (c:=jl f' N ss (bC n (i+1)) w1) ⟨⟨w1,isw,rfl⟩,fun w' hw'=>hle w' ((hW w').mpr hw')⟩;have pt':=pt.snoc tb.len good;have hTne:T≠[]:=fun z=>by have:=pt.len;rw[z] at this;cases this
  generalize mkP w1 ((fB ss (bC n (i+1)) w1).map fun p=>T.getD (aY p) .tab)=pl at *;generalize jl f' N ss (bC n (i+1)) w1=c at *;cases t5 with
  | tup ot et zt tt=>
   cases tt with
   | cons tc tt=>
    cases tt with
    | cons tpl tt=>
     cases tt;cases tc;rename_i ta vp;push_cast [et];subst hk2;refine aO fun k2 hk2=>?_;push_cast [en5];refine⟨Ky (by rw[AE,tb.len];omega),?_⟩;subst hk2;have ep6:upd H5 na (HO.lst (N.map V.int++[V.int c])) pa=some (HO.lst ps):=(aJ hne.symm).trans ep5;have hpl:=tp3.length;rw[xP,pt.len] at hpl;push_cast [ep6];refine⟨Ky ω,?_⟩;rw[hPv];refine⟨N++[c],T++[pl],ps++[vp],_,_,_,dR (dR ((s3.trans s4).trans s5) hna) hpn,?_,aq,?_,tb',pt',rfl⟩
     ·rw[aJ hne,aq,A6];rfl
     rw[Nv hTne];exact kp (kn (tp5.append (.cons tpl .nil)))
 intro σ H3 pv;rw[hPv] at pv;obtain⟨N,T,ps,o4,o5,o6,s3,en3,ep3,tp3,tb,pt,rfl⟩:=pv;show k _ _;subst hk;push_cast;refine⟨aN δ,fun t ht=>?_⟩;have s4:=aB (o:=HO.tup [V.ref na,V.ref pa]) ht;rw[show m-1+1=2^n by omega] at tb pt;exact q t na pa N T ps _ (s3.trans s4) aq (s4 _ _ en3) (s4 _ _ ep3) ((tp3.same s4).keep fun a o h e=>⟨by rw[hok2] at h;exact h.1,e⟩) tb pt
theorem CJ {n:Nat}(hn:n<=12) (hn0:0<n) (hB:∀x:Str,x∈BLs->mg x=none) (CLeastsOfSets:∀ws zs,Cal P w K mg base "leasts_of_sets" 5 ["stretches","charges"] (Ey (cN ws zs) n)) (CCostCharges:Cal P w K mg base "cost_charges" 2 q4_ (Aq n)) (F:Fun K "least_plan" "least_plan" cO f fd):dF P w K mg base CX0 6 f fd q4_ (uw n):=by
 refine F.okq oZ (fun vs H Q E h=>?_) (fun cdv A outer s H vs Q E hr h=>?_)
 ·obtain⟨s,wa,z,ok,ss,ws,zs,rfl,_⟩:=h;rfl
 obtain⟨s,wa,z,ok,ss,ws,zs,rfl,hnw,ts,hsn,hw,hwl,hz,h5,few,q⟩:=h;have CLeastsOfSets:=CLeastsOfSets ws zs;refine⟨_,(aF (pA (bw CLeastsOfSets (hr.mono δ) mK yW (ak (ao tE) (ak (bw CCostCharges (hr.mono δ) nG Ac (ak (ao tE) (ak (ao Di) (ak (ao Dh) aA rfl) rfl) rfl) rfl rfl) aA rfl) rfl) rfl rfl) (jy (n:=2) rfl (bL (dY tD oZ.nd (.inl rfl)) (bL (dY sZ oZ.nd (.inl rfl)) gP rfl) rfl) rfl rfl) rfl rfl rfl)
  (aK (aU (bQ (ak (aL aW (ao tD) (sI mW au) (fun _ _=>rfl)) (ak (aL aW (ao sZ) (sI mW au) (fun _ _=>rfl)) aA rfl) rfl))))),?_⟩
 have p2:=ES n;have p3:2^1<=2^n:=EF δ hn0;refine aO fun k hk=>?_;push_cast;refine⟨s,wa,z,ok,ss,ws,zs,rfl,hnw,ts,hsn,hw,hwl,hz,h5,few,fun ca H1 s1 hca hch=>?_⟩;refine⟨s,ca,ok,ss,rfl,hnw.same s1,ts.same s1,hsn,hch,fun t na pa N T ps H2 s2 et en ep tp tb pt=>?_⟩;push_cast [et];subst hk;have good:=pt.ok (2^n-1) ω ω;rw[yX,Fn] at good;have hpl:=tp.length;rw[xP,pt.len] at hpl;have hN:=tb.len;have a1:atI (N.map V.int) (-1)=some (V.int (N.getD (2^n-1) 0)):=Mx (by rw[AE];exact hN) p2 (by rw[AU,AN,AF ω];rfl);have hpx:ps[2^n-1]?=some (ps[2^n-1]'ω):=AF ω;obtain⟨dp,hdp,tdp⟩:=tp.get hpx;have a2:atI ps (-1)=some (ps[2^n-1]'ω):=Mx hpl p2 hpx;generalize ps[2^n-1]'ω=vp at tdp a2;have edp:dp=plD (T.getD (2^n-1) .tab):=by
  have:=KZ (T:=T) (x:=2^n-1) ω (by rw[pt.len];omega);rw[AN,hdp] at this;exact this
 rw[edp] at tdp;push_cast [en,ep,a1,a2];refine⟨aN δ,fun p hp=>?_⟩;have s3:=aB (o:=HO.tup [V.int (N.getD (2^n-1) 0),vp]) hp;exact q _ _ N _ ((s1.trans s2).trans s3) (.tup (hnw.new ((s1.trans s2).none hp)) aq (by show 2<=1000000;decide) (.cons (.int _) (.cons (tdp.same s3) .nil))) good.1 good.2.2 good.2.1 tb
noncomputable abbrev dN:List Str:=["_law_tape_here","_law_many","_law_low","_law_labels","_law_found","_law_k","_law_far","_law_wide","_law_label"]
noncomputable abbrev bJ:Stmt:=top 33
theorem cH:bh dN q0_ (aj bJ):=⟨rfl,rfl,rfl,ψ,rfl,ψ,ψ⟩
theorem cj:NM_ dN bJ 0 "_law_tape_here" := .of ψ
theorem zO:NM_ dN bJ 1 "_law_many" := .of ψ
theorem gH:NM_ dN bJ 2 "_law_low" := .of ψ
theorem jk:NM_ dN bJ 3 "_law_labels" := .of ψ
theorem gG:NM_ dN bJ 4 "_law_found" := .of ψ
theorem zN:NM_ dN bJ 5 "_law_k" := .of ψ
theorem qM:NM_ dN bJ 6 "_law_far" := .of ψ
theorem gF:NM_ dN bJ 7 "_law_wide" := .of ψ
theorem gD:NM_ dN bJ 8 "_law_label" := .of ψ
theorem bI:GI_ bJ "_law_take" := by decide +kernel
theorem v8:GI_ bJ "max" := by decide +kernel
theorem tO:GI_ bJ "range" := by decide +kernel
theorem Ed:Bn "_law_stretches" := ⟨ψ,ψ⟩
theorem aap (hB:∀x:Str,x∈BLs->mg x=none) (CZTake:Cal P w K mg base "_law_take" 2 q0_ (mX 2)) (F:Fun K "_law_stretches" "_law_stretches" bJ f fd):dF P w K mg base CX0 3 f fd q0_ Il:=by
 refine F.okq cH (fun vs H Q E h=>?_) (fun cdv A outer s H vs Q E hr h=>?_)
 ·obtain⟨p,m,B,rfl,_⟩:=h;rfl
 obtain⟨p,m,B,rfl,tp,hB0,hB1,hm1,hm2,q⟩:=h;refine⟨_,(aF (bG gH cH.nd (aL aW (bN (ak au (ak (aM fP (bw CZTake (hr.mono δ) bI cV (ak (ao cj) (ak au aA rfl) rfl) rfl rfl) au) (ak (aM fP (bw CZTake (hr.mono δ) bI cV (ak (ao cj) (ak (aM qY au au) aA rfl) rfl) rfl rfl) (aM qY au au)) (ak (aM fP au (aM j7 au au)) aA rfl) rfl) rfl) rfl)) (bw CZTake (hr.mono δ) bI cV (ak (ao cj) (ak au aA rfl) rfl) rfl rfl) (fun _ _=>rfl)) rfl (.inl rfl))
  (aF (bG jk cH.nd (aM bH au (bw CZTake (hr.mono δ) bI cV (ak (ao cj) (ak au aA rfl) rfl) rfl rfl)) rfl (.inl rfl))
  (aF (bG gG cH.nd (bN aA) rfl (.inl rfl))
  (aF (gY B7 rfl (ig tO (hB "range" fV) (ak (ao zO) aA rfl) rfl) (dY zN cH.nd (.inl rfl))
  (aF (bG qM cH.nd (aL aW (bN (ak (aM qY au au) (ak (aM qY au au) aA rfl) rfl)) (bw CZTake (hr.mono δ) bI cV (ak (ao cj) (ak au aA rfl) rfl) rfl rfl) (fun _ _=>rfl)) rfl (.inl rfl))
  (aF (bG gF cH.nd (bN (ak au (ak au (ak au (ak (aM bH au (bw CZTake (hr.mono δ) bI cV (ak (ao cj) (ak au aA rfl) rfl) rfl rfl)) (ak (aM bH au (bw CZTake (hr.mono δ) bI cV (ak (ao cj) (ak au aA rfl) rfl) rfl rfl)) (ak (aM bH au (bw CZTake (hr.mono δ) bI cV (ak (ao cj) (ak (ao qM) aA rfl) rfl) rfl rfl)) aA rfl) rfl) rfl) rfl) rfl) rfl)) rfl (.inl rfl))
  (aF (bG gF cH.nd (aL aW (ao gF) (bW (Bt rfl) v8 (hB "max" Dj) boot_max Eb (ak au (ak (aM fP (bw CZTake (hr.mono δ) bI cV (ak (ao cj) (ak au aA rfl) rfl) rfl rfl) au) aA rfl) rfl) rfl rfl) (fun _ _=>rfl)) rfl (.inl rfl))
  (aF (bG gD cH.nd (bw CZTake (hr.mono δ) bI cV (ak (ao cj) (ak (ao jk) aA rfl) rfl) rfl rfl) rfl (.inl rfl))
  (aF (dm (Cw (Cv (bx (aag hr.bO) (ao gG) (bN aA) (aQ _)) (wB (bx (cD hr.bO) (aL aW (aL aW (ao gG) (sI mW au) (fun _ _=>rfl)) au (fun _ _=>rfl)) (ao gD) (aQ _))))) (aK (bG gD cH.nd (aM iW (aM bH (aM bH (ao gD) au) (bw CZTake (hr.mono δ) bI cV (ak (ao cj) (ak (aM fP (ao jk) au) aA rfl) rfl) rfl rfl)) (ao jk)) rfl (.inl rfl))) cg)
  (aF (dw (eV (ao gG) (bQ (ak (ao gH) (ak (aM fP (aM bH (ao gH) (ao gF)) au) (ak (ao gD) aA rfl) rfl) rfl)) rfl rfl rfl rfl rfl) rfl)
  (aK (bG gH cH.nd (aM bH (ao gH) (ao gF)) rfl (.inl rfl))))))))) (fun _=>rfl))
  (aK (aU (ao gG))))))),?_⟩
 refine aO fun k hk=>?_;push_cast;refine⟨p,100,B,rfl,tp,by show B+2<=1000100;omega,δ,δ,δ,fun z=>absurd z δ,fun r1 H1 r10 r11 s1 tp1=>?_⟩;push_cast;refine⟨⟨δ,δ,δ⟩,?_⟩;refine⟨p,10^9,B+2,rfl,tp1,by show B+2+2<=1000100;omega,δ,δ,δ,fun z=>by decide,fun r2 H2 r20 r21 s2 tp2=>?_⟩;push_cast [Jn];refine⟨⟨δ,δ,δ⟩,?_⟩;refine⟨⟨δ,δ,δ⟩,aN δ,fun l0 hl0=>?_⟩;have s3:=aB (o:=HO.lst [V.int 0,V.int (r1-50),V.int (r2-10^B0 8),V.int (0-2^B0 39)]) hl0;have tp3:=tp2.same s3;have n3:=tp2.ne hl0;have e3:upd H2 l0 (HO.lst [V.int 0,V.int (r1-50),V.int (r2-10^B0 8),V.int (0-2^B0 39)]) l0=_:=aq;generalize upd H2 l0 (HO.lst [V.int 0,V.int (r1-50),V.int (r2-10^B0 8),V.int (0-2^B0 39)])=H3 at s3 tp3 e3 |-;refine⟨p,4,B+2+2,rfl,tp3,by show B+2+2+2<=1000100;omega,δ,δ,δ,fun z=>absurd z δ,fun r4 H4 r40 r41 s4 tp4=>?_⟩;obtain⟨lo,hlo,elo⟩:=lZ (is:=[0,r1-50,r2-10^B0 8,0-2^B0 39]) r40 r41;replace elo:atI [V.int 0,V.int (r1-50),V.int (r2-10^B0 8),V.int (0-2^B0 39)] r4=some (.int lo):=elo;have e4:=s4 _ _ n3 e3;have blo:-(10^12)<=lo/\lo<=10^9:=by
  simp only[A5,A9,or_false] at hlo;have:(10:Int)^B0 8=100000000:=by decide
  have:(2:Int)^B0 39=549755813888:=by decide
  rcases hlo with z|z|z|z <;> omega
 have sx4:cB p H H4:=((s1.trans s2).trans s3.x).trans s4;push_cast [e4,elo];subst hk;refine aO fun k hk=>?_;push_cast;refine⟨p,4,B+2+2+2,rfl,tp4,by show B+2+2+2+2<=1000100;omega,δ,δ,δ,fun z=>absurd z δ,fun r5 H5 r50 r51 s5 tp5=>?_⟩;push_cast;subst hk;refine aO fun k hk=>?_;push_cast;refine⟨aN δ,fun l hl=>?_⟩;have sx5:=sx4.trans s5;have hlp:l≠p:=tp5.ne hl;have Hl:H l=none:=(yR sx5 tp5 hl).2;have s6:=aB (o:=HO.lst []) hl;have tp6:=tp5.same s6;have e6:upd H5 l (HO.lst []) l=_:=aq;generalize upd H5 l (HO.lst [])=H6 at s6 tp6 e6 |-;have sx6:=sx5.trans s6.x;subst hk;obtain⟨OD,hOD⟩:∃OD:Addr->Prop,OD=fun a=>a≠p/\a≠l:=⟨_,rfl⟩;have kd:∀{H H':Hp},cB p H H'->∀a o,OD a->H a=some o->OD a/\H' a=some o:=fun {H H'} sx a o h e=>by
  refine⟨h,sx a o ?_ e⟩;rw[hOD] at h;exact h.1
 refine aO fun k hk=>?_;refine kJ fun R hR=>?_;push_cast [qO];refine⟨ω,ω,?_⟩;obtain⟨Pv,hPv⟩:∃Pv:Nat->L2.St->Hp->Prop,Pv=fun(i:Nat) σ H'=>∃(xs:List V)(ss:List (Int×Int×Int)) (lo:Int) (o5 o6 o7 o8:Option V),cB p H H'/\b7 H' p (B+8+18*(i:Int))/\H' l=some (.lst xs)/\aH OD H' xs (ss.map stD)/\ss.length=i/\qH ss /\
  (∀s,ss[ss.length-1]?=some s->lo=s.2.1+1)/\(∀s,ss[0]?=some s->s.1<=10^9)/\-(10^12)<=lo/\lo<=10^9+(10^12+10)*(i:Int)/\σ=[some (.ref p),some (.int m),some (.int lo),some (.int (2+r5)),some (.ref l),o5,o6,o7,o8]:=⟨_,rfl⟩
 refine Ma hR Pv (by rw[hPv];exact⟨[],[],lo,_,_,_,_,sx6,tp6.le (by show B+2+2+2+2<=B+8+18*((0:Nat):Int);omega),e6,.nil,rfl,qH.nil,fun s h=>(by cases h),fun s h=>(by cases h),blo.1,by show lo<=10^9+(10^12+10)*((0:Nat):Int);omega,rfl⟩) ?_ ?_
 ·intro i σ H7 hi pv;rw[hPv] at pv;obtain⟨xs,ss,lo,o5,o6,o7,o8,sx7,tp7,e7,ts7,hsl,row,hlast,hfst,bl1,bl2,rfl⟩:=pv;have hi60:i<60:=ω;refine aO fun k2 hk2=>?_;push_cast;refine⟨⟨δ,δ,δ⟩,⟨δ,δ,δ⟩,aN δ,fun l1 hl1=>?_⟩;have s8:=aB (o:=HO.lst [V.int (10^B0 9),V.int (10^B0 12)]) hl1;have tp8:=tp7.same s8;have n8:=tp7.ne hl1;have e8:=s8 _ _ e7;have ts8:=ts7.same s8;have e81:upd H7 l1 (HO.lst [V.int (10^B0 9),V.int (10^B0 12)]) l1=_:=aq;generalize upd H7 l1 (HO.lst [V.int (10^B0 9),V.int (10^B0 12)])=H8 at s8 tp8 e8 ts8 e81 |-;have sx8:=sx7.trans s8.x;refine⟨p,2,B+8+18*(i:Int),rfl,tp8,by show B+8+18*(i:Int)+2<=1000100;omega,δ,δ,δ,fun z=>absurd z δ,fun r9 H9 r90 r91 s9 tp9=>?_⟩;obtain⟨far,hfar,efar⟩:=lZ (is:=[10^B0 9,10^B0 12]) r90 r91;replace efar:atI [V.int (10^B0 9),V.int (10^B0 12)] r9=some (.int far):=efar;have e91:=s9 _ _ n8 e81;have e9:=s9 _ _ hlp e8;have ts9:=ts8.keep (kd s9);have sx9:=sx8.trans s9;have bfar:10^9<=far/\far<=10^12:=by
   simp only[A5,A9,or_false] at hfar;have:(10:Int)^B0 9=1000000000:=by decide
   have:(10:Int)^B0 12=1000000000000:=by decide
   rcases hfar with z|z <;> omega
  push_cast [e91,efar];subst hk2;refine aO fun k2 hk2=>?_;push_cast;refine⟨p,4,B+8+18*(i:Int)+2,rfl,tp9,by show B+8+18*(i:Int)+2+2<=1000100;omega,δ,δ,δ,fun z=>absurd z δ,fun u1 H10 u10 u11 s10 tp10=>?_⟩;push_cast;refine⟨p,30,B+8+18*(i:Int)+2+2,rfl,tp10,by show B+8+18*(i:Int)+2+2+2<=1000100;omega,δ,δ,δ,fun z=>absurd z δ,fun u2 H11 u20 u21 s11 tp11=>?_⟩;push_cast;refine⟨p,far,B+8+18*(i:Int)+2+2+2,rfl,tp11,by show B+8+18*(i:Int)+2+2+2+2<=1000100;omega,ω,ω,δ,fun _=>by decide,fun u3 H12 u30 u31 s12 tp12=>?_⟩;push_cast;refine⟨aN δ,fun l2 hl2=>?_⟩;have e12:=s12 _ _ hlp (s11 _ _ hlp (s10 _ _ hlp e9));have ts12:=((ts9.keep (kd s10)).keep (kd s11)).keep (kd s12);have sx12:=((sx9.trans s10).trans s11).trans s12;have s13:=aB (o:=HO.lst [V.int 1,V.int 1,V.int 1,V.int (2+u1),V.int (2+u2),V.int (1+u3)]) hl2;have tp13:=tp12.same s13;have n13:=tp12.ne hl2;have e13:=s13 _ _ e12;have ts13:=ts12.same s13;have e132:upd H12 l2 (HO.lst [V.int 1,V.int 1,V.int 1,V.int (2+u1),V.int (2+u2),V.int (1+u3)]) l2=_:=aq;generalize upd H12 l2 (HO.lst [V.int 1,V.int 1,V.int 1,V.int (2+u1),V.int (2+u2),V.int (1+u3)])=H13 at s13 tp13 e13 ts13 e132 |-;have sx13:=sx12.trans s13.x;subst hk2;refine aO fun k2 hk2=>?_;push_cast;refine⟨p,11,B+8+18*(i:Int)+2+2+2+2,rfl,tp13,by show B+8+18*(i:Int)+2+2+2+2+2<=1000100;omega,δ,δ,δ,fun z=>absurd z δ,fun u4 H14 u40 u41 s14 tp14=>?_⟩;have e14:=s14 _ _ hlp e13;have ts14:=ts13.keep (kd s14);have sx14:=sx13.trans s14;have e142:=s14 _ _ n13 e132;have bu:0<=(if u4-5>0 then u4-5 else 0)/\(if u4-5>0 then u4-5 else 0)<6:=by split <;> omega
  obtain⟨wide,hwide,ewide⟩:=lZ (is:=[1,1,1,2+u1,2+u2,1+u3]) bu.1 bu.2;replace ewide:atI [V.int 1,V.int 1,V.int 1,V.int (2+u1),V.int (2+u2),V.int (1+u3)] (if u4-5>0 then u4-5 else 0)=some (.int wide):=ewide;have bwide:1<=wide/\wide<=10^12:=by
   simp only[A5,A9,or_false] at hwide;rcases hwide with z|z|z|z|z|z <;> omega
  push_cast [e142,ewide];subst hk2;refine aO fun k2 hk2=>?_;push_cast;refine⟨p,2+r5,B+8+18*(i:Int)+2+2+2+2+2,rfl,tp14,by show B+8+18*(i:Int)+2+2+2+2+2+2<=1000100;omega,ω,ω,δ,fun z=>absurd z ω,fun lab H15 lab0 lab1 s15 tp15=>?_⟩;have e15:=s15 _ _ hlp e14;have ts15:=ts14.keep (kd s15);have sx15:=sx14.trans s15;push_cast;subst hk2;refine aO fun k2 hk2=>?_;have rest:∀(b:Int) H16 o5 o6,0<=b->b<=9->cB p H H16->H16 l=some (.lst xs)->aH OD H16 xs (ss.map stD)->b7 H16 p (B+8+18*(i:Int)+14)->k2 [some (.ref p),some (.int m),some (.int lo),some (.int (2+r5)),some (.ref l),o5,o6,some (.int wide),some (.int b)] H16:=by
   intro b H16 o5 o6 b0 b9 sx16 e16 ts16 tp16;subst hk2;refine aO fun k3 hk3=>?_;push_cast [e16];refine⟨aN δ,fun t ht=>?_⟩;have s17:=aB (o:=HO.tup [V.int lo,V.int (lo+wide-1),V.int b]) ht;have e17:=s17 _ _ e16;have tp17:=tp16.same s17;have ts17:=ts16.same s17;have nt:t≠p:=tp16.ne ht;have nl:t≠l:=(aD e16 ht).symm;have et:upd H16 t (HO.tup [V.int lo,V.int (lo+wide-1),V.int b]) t=_:=aq;generalize upd H16 t (HO.tup [V.int lo,V.int (lo+wide-1),V.int b])=H17 at s17 e17 tp17 ts17 et |-;have hxl:=ts17.length;rw[AE] at hxl;push_cast [e17];refine⟨Be (show xs.length<1000000 by omega) (aN (AZ _)),?_⟩;have sx18:cB p H (upd H17 l (HO.lst (xs++[V.ref t]))):=Nj (sx16.trans s17.x) Hl;have tp18:b7 (upd H17 l (HO.lst (xs++[V.ref t]))) p (B+8+18*(i:Int)+14):=tp17.upd hlp;have e18:upd H17 l (HO.lst (xs++[V.ref t])) l=_:=aq;have kk:∀a o,OD a->H17 a=some o->OD a/\upd H17 l (HO.lst (xs++[V.ref t])) a=some o:=fun a o h e=>by
    refine⟨h,?_⟩;rw[hOD] at h;rw[aJ h.2];exact e
   have tt:aG OD H17 (.ref t) (stD (lo,lo+wide-1,b)):=.tup (by rw[hOD];exact⟨nt,nl⟩) et (by show 3<=1000000;decide) (.cons (.int _) (.cons (.int _) (.cons (.int _) .nil)));have ts18:=(ts17.keep kk).append (.cons (tt.keep kk) .nil);generalize upd H17 l (HO.lst (xs++[V.ref t]))=H18 at sx18 tp18 e18 ts18 |-;subst hk3;push_cast;rw[hPv];refine⟨_,ss++[(lo,lo+wide-1,b)],lo+wide,_,_,_,_,sx18,tp18.le (by show B+8+18*(i:Int)+14<=B+8+18*((i+1:Nat):Int);omega),e18,by rw[A6];exact ts18,by rw[AH,A8,hsl],row.snoc ω ⟨b0,b9⟩ ⟨bl1,by rw[hsl];omega⟩ hlast,fun s hs=>?_,fun s hs=>?_,ω,by show lo+wide<=10^9+(10^12+10)*((i+1:Nat):Int);omega,rfl⟩
   ·rw[AH,A8,HQ,BC (AZ _),Go] at hs;cases hs;show lo+wide=lo+wide-1+1;omega
   cases ss with
   | nil=>
    cases hs;show lo<=10^9;have:i=0:=hsl.symm;subst this;omega
   | cons s0 ss0=>exact hfst s hs
  refine gM fun kt ke hkt hke=>?_;push_cast;refine⟨aN δ,fun l3 hl3=>?_⟩;have s16:=aB (o:=HO.lst []) hl3;refine⟨_,_,xs,rfl,rfl,s16 _ _ e15,aq,?_⟩;have e16:=s16 _ _ e15;have ts16:=ts15.same s16;have sx16:=sx15.trans s16.x;have tp16:=tp15.same s16;generalize upd H15 l3 (HO.lst [])=H16 at s16 e16 ts16 sx16 tp16 |-;have hxl:=ts16.length;rw[AE] at hxl;cases hx:xs.isEmpty with
  | true=>
   push_cast;subst hke;push_cast;exact rest lab H16 _ _ lab0 ω sx16 e16 ts16 (tp16.le (by show B+8+18*(i:Int)+2+2+2+2+2+2<=_;omega))
  | false=>
   have hpos:1<=xs.length:=by
    cases xs with
    | nil=>cases hx
    | cons a b=>simp
   obtain⟨j,x,hxj,hxl2⟩:=X5 xs hpos;obtain⟨ax,sx,rfl,okx,hsx,ex⟩:=ts16.st hxj;push_cast [e16,hxl2,ex];split
   ·subst hkt;push_cast;refine⟨p,2+r5-1,B+8+18*(i:Int)+2+2+2+2+2+2,rfl,tp16,by show B+8+18*(i:Int)+2+2+2+2+2+2+2<=1000100;omega,ω,ω,δ,fun z=>absurd z ω,fun u6 H17 u60 u61 s17 tp17=>?_⟩;push_cast;refine⟨ω,?_⟩;have h1:=FH (lab+1+u6) (show(2+r5:Int)≠0 by omega);have h2:=EH (lab+1+u6) (show(0:Int)<2+r5 by omega);exact rest _ H17 _ _ h1 ω (sx16.trans s17) (s17 _ _ hlp e16) (ts16.keep (kd s17)) (tp17.le (by show B+8+18*(i:Int)+2+2+2+2+2+2+2<=_;omega))
   subst hke;push_cast;exact rest lab H16 _ _ lab0 ω sx16 e16 ts16 (tp16.le (by show B+8+18*(i:Int)+2+2+2+2+2+2<=_;omega))
 intro σ H7 pv;rw[hPv] at pv;obtain⟨xs,ss,lo,o5,o6,o7,o8,sx7,tp7,e7,ts7,hsl,row,hlast,hfst,bl1,bl2,rfl⟩:=pv;show k _ _;subst hk;push_cast;have hxl:=ts7.length;rw[AE] at hxl;refine q l ss H7 sx7 (tp7.le ω) (.lst hlp e7 ω (ts7.keep fun a o h e=>?_)) ω row hfst;rw[hOD] at h;exact⟨h.1,e⟩
noncomputable abbrev Hz:List Str:=["_law_stretches_here","_law_plan","_law_place","_law_found"]
noncomputable abbrev pq:Stmt:=top 36
theorem xu:bh Hz q9_ (aj pq):=⟨rfl,rfl,rfl,ψ,rfl,ψ,ψ⟩
theorem K9:NM_ Hz pq 0 "_law_stretches_here" := .of ψ
theorem eX:NM_ Hz pq 1 "_law_plan" := .of ψ
theorem wC:NM_ Hz pq 2 "_law_place" := .of ψ
theorem CP:NM_ Hz pq 3 "_law_found" := .of ψ
theorem Ox:GI_ pq "int" := by decide +kernel
theorem aaS:Bn "_law_way" := ⟨ψ,ψ⟩
theorem aao (hB:∀x:Str,x∈BLs->mg x=none) (F:Fun K "_law_way" "_law_way" pq f fd):dF P w K mg base CX0 1 f fd q9_ YW:=by
 refine F.okq xu (fun vs H Q E h=>?_) (fun cdv A outer s H vs Q E hr h=>?_)
 ·obtain⟨s,p,k,ok,ss,pl,left,rfl,_⟩:=h;rfl
 obtain⟨s,p,k,ok,ss,pl,left,rfl,hn,ts,tp,pok,hk60,hsz,q⟩:=h;refine⟨_,(aF (bG CP xu.nd (bN aA) rfl (.inl rfl))
  (aF (Ft B7 (bx Bc (aL aW (ao eX) au (fun _ _=>rfl)) (bQ (ak bD (ak bD aA rfl) rfl)) (by with_unfolding_all rfl)) (aF (dw (eV (ao CP) (aL aW (ao eX) au (fun _ _=>rfl)) rfl rfl rfl rfl rfl) rfl)
  (aK (dm (bx (cD hr.bO) (aL aW (ao eX) au (fun _ _=>rfl)) bD (aQ _)) (aK (bG eX xu.nd (Ba (bx qK (ao wC) (aL aW (ao eX) au (fun _ _=>rfl)) (aQ _)) (aL aW (ao eX) au (fun _ _=>rfl)) (aL aW (ao eX) au (fun _ _=>rfl))) rfl (.inl rfl))) (aK (dm (bx (cD hr.bO) (aL aW (ao eX) au (fun _ _=>rfl)) bD (aQ _)) (aK (bG eX xu.nd (Ba (bx (cD hr.bO) (aL aW (aL aW (ao K9) (ao wC) (fun _ _=>rfl)) au (fun _ _=>rfl)) (aL aW (ao eX) au (fun _ _=>rfl)) (aQ _)) (bQ (ak bD (ak (aL aW (ao eX) au (fun _ _=>rfl)) aA rfl) rfl)) (aL aW (ao eX) au (fun _ _=>rfl))) rfl (.inl rfl))) (aK (bG eX xu.nd (Ba (bx (cD hr.bO) (ao wC) (aL aW (ao eX) au (fun _ _=>rfl)) (aQ _)) (bQ (ak bD (ak (aL aW (aL aW (ao K9) (ao wC) (fun _ _=>rfl)) au (fun _ _=>rfl)) aA rfl) rfl)) (aL aW (ao eX) au (fun _ _=>rfl))) rfl (.inl rfl)))))))))
  (aK (aU (aM bH (ao CP) (aM eG (bN (ak bD aA rfl)) (sO kW Ox (hB "int" uO) boot_int vf (ak (gn (cD hr.bO) (aL aW (ao eX) au (fun _ _=>rfl)) bD (aQ _)) aA rfl) rfl rfl))))))),?_⟩
 refine aO fun k1 hk1=>?_;push_cast;refine⟨aN δ,fun a ha=>?_⟩;have s0:=aB (o:=HO.lst []) ha;have ea:upd H a (HO.lst []) a=_:=aq;generalize upd H a (HO.lst [])=H0 at s0 ea |-;subst hk1;refine aO fun k1 hk1=>?_;have ts0:=ts;cases ts with
 | lst os es zs tss=>
  rename_i sa sxs;obtain⟨OD,hOD⟩:∃OD:Addr->Prop,OD=fun x=>ok x/\x≠a:=⟨_,rfl⟩;have up:∀b o,ok b->H b=some o->OD b/\H0 b=some o:=fun b o h e=>by
   rw[hOD];exact⟨⟨h,aD e ha⟩,s0 _ _ e⟩
  have tsO:aG OD H0 (.ref sa) (.list (ss.map stD)):=ts0.keep up;have tpO:aG OD H0 p (plD pl):=tp.keep up;obtain⟨Pv,hPv⟩:∃Pv:Nat->L2.St->Hp->Prop,Pv=fun m σ H'=>∃(r:Pl)(v:V)(dn:List Nat),m=bU r/\Same H H'/\H' a=some (.lst (dn.map fun i=>V.str (cL i)))/\aG OD H' (.ref sa) (.list (ss.map stD))/\aG OD H' v (plD r)/\fG ss k pl=dn++fG ss k r/\dn.length+bU r<=4000/\σ=[some (.ref sa),some v,some (.int (k:Int)),some (.ref a)]:=⟨_,rfl⟩;refine⟨Pv,⟨bU pl,?_⟩,?_⟩
  ·rw[hPv];exact⟨pl,p,[],rfl,s0,ea,tsO,tpO,rfl,by simpa using hsz,rfl⟩
  intro m σ H1 pv;rw[hPv] at pv;obtain⟨r,v,dn,rfl,s1,e1,tS1,tv1,hway,hlen,rfl⟩:=pv;have app:∀{H2:Hp}{x:V}{d:A1}(o:HO),aG OD H2 x d->aG OD (upd H2 a o) x d:=fun o t=>t.keep fun b o' hb e=>⟨hb,by rw[hOD] at hb;rw[aJ hb.2];exact e⟩;have sapp:∀{H2:Hp}(o:HO),Same H H2->Same H (upd H2 a o):=fun o s b o' hb=>by rw[aJ (aD hb ha)];exact s b o' hb
  have pp:∀r:Pl,1<=bU r:=fun r=>by cases r <;> simp [bU]
  have app:∀{H2:Hp}{x:V}{d:A1}(o:HO),aG OD H2 x d->aG OD (upd H2 a o) x d:=fun o t=>t.keep fun b o' hb e=>⟨hb,by rw[hOD] at hb;rw[aJ hb.2];exact e⟩;have sapp:∀{H2:Hp}(o:HO),Same H H2->Same H (upd H2 a o):=fun o s b o' hb=>by rw[aJ (aD hb ha)];exact s b o' hb
  have pp:∀r:Pl,1<=bU r:=fun r=>by cases r <;> simp [bU]
  have app:∀{H2:Hp}{x:V}{d:A1}(o:HO),aG OD H2 x d->aG OD (upd H2 a o) x d:=fun o t=>t.keep fun b o' hb e=>⟨hb,by rw[hOD] at hb;rw[aJ hb.2];exact e⟩;have sapp:∀{H2:Hp}(o:HO),Same H H2->Same H (upd H2 a o):=fun o s b o' hb=>by rw[aJ (aD hb ha)];exact s b o' hb
  have pp:∀r:Pl,1<=bU r:=fun r=>by cases r <;> simp [bU]
  have app:∀{H2:Hp}{x:V}{d:A1}(o:HO),aG OD H2 x d->aG OD (upd H2 a o) x d:=fun o t=>t.keep fun b o' hb e=>⟨hb,by rw[hOD] at hb;rw[aJ hb.2];exact e⟩;have sapp:∀{H2:Hp}(o:HO),Same H H2->Same H (upd H2 a o):=fun o s b o' hb=>by rw[aJ (aD hb ha)];exact s b o' hb
  have pp:∀r:Pl,1<=bU r:=fun r=>by cases r <;> simp [bU]
  cases r with
  | pick l=>
   cases tv1 with
   | tup o e z tt=>
    cases tt with
    | cons t1 tt=>
     cases t1;rename_i pa xr;push_cast [e,rdW];refine⟨aN δ,fun t ht=>⟨rfl,rfl,?_⟩⟩;rw[if_neg ψ];have s2:=aB (o:=HO.tup [V.str "pick",V.str "table"]) ht;have e2:=s2 _ _ e;have ea2:=s2 _ _ e1;generalize upd H1 t (HO.tup [V.str "pick",V.str "table"])=H2 at s2 e2 ea2 |-;subst hk1;push_cast [e2,rdW,ea2];refine⟨aN δ,fun t3 ht3=>?_⟩;have s3:=aB (o:=HO.lst [V.str "table"]) ht3;have e3:=s3 _ _ e2;have ea3:=s3 _ _ ea2;have et3:upd H2 t3 (HO.lst [V.str "table"]) t3=_:=aq;generalize upd H2 t3 (HO.lst [V.str "table"])=H3 at s3 e3 ea3 et3 |-;push_cast [e3,rdW,ea3,et3];refine⟨δ,δ,aN δ,fun t4 ht4=>?_⟩;rw[show(B8 (B0 0) [V.str "table"]).flatten=([]:List V) from rfl];have s4:=aB (o:=HO.lst []) ht4;have ea4:=s4 _ _ ea3;generalize upd H3 t4 (HO.lst [])=H4 at s4 ea4 |-;push_cast [ea4];have hl1:dn.length+1<=4000:=hlen;refine⟨aN (by rw[AE];omega),fun t5 ht5=>?_⟩;have s14:=((s1.trans s2).trans s3).trans s4;have h5:H t5=none:=s14.none ht5;refine q _ _ (s14.trans (aB ht5)) (hn.new h5) h5 ?_;rw[hway,A6]
     first|exact aq|(rw[show fG ss k (.pick l)=[] from rfl,He,CB];exact aq)
  | tab=>
   cases tv1 with
   | tup o e z tt=>
    cases tt with
    | cons t1 tt=>
     cases t1;rename_i pa xr;push_cast [e,rdW];refine⟨aN δ,fun t ht=>⟨rfl,rfl,?_⟩⟩;rw[if_neg ψ];have s2:=aB (o:=HO.tup [V.str "pick",V.str "table"]) ht;have e2:=s2 _ _ e;have ea2:=s2 _ _ e1;generalize upd H1 t (HO.tup [V.str "pick",V.str "table"])=H2 at s2 e2 ea2 |-;subst hk1;push_cast [e2,rdW,ea2];refine⟨aN δ,fun t3 ht3=>?_⟩;have s3:=aB (o:=HO.lst [V.str "table"]) ht3;have e3:=s3 _ _ e2;have ea3:=s3 _ _ ea2;have et3:upd H2 t3 (HO.lst [V.str "table"]) t3=_:=aq;generalize upd H2 t3 (HO.lst [V.str "table"])=H3 at s3 e3 ea3 et3 |-;push_cast [e3,rdW,ea3,et3];refine⟨δ,δ,aN δ,fun t4 ht4=>?_⟩;rw[show(B8 (B0 1) [V.str "table"]).flatten=[V.str "table"] from rfl];have s4:=aB (o:=HO.lst [V.str "table"]) ht4;have ea4:=s4 _ _ ea3;generalize upd H3 t4 (HO.lst [V.str "table"])=H4 at s4 ea4 |-;push_cast [ea4];have hl1:dn.length+1<=4000:=hlen;refine⟨aN (by rw[AE];omega),fun t5 ht5=>?_⟩;have s14:=((s1.trans s2).trans s3).trans s4;have h5:H t5=none:=s14.none ht5;refine q _ _ (s14.trans (aB ht5)) (hn.new h5) h5 ?_;rw[hway,A6]
     first|exact aq|(rw[show fG ss k (.pick l)=[] from rfl,He,CB];exact aq)
  | one j r=>
   cases tv1 with
   | tup o e z tt=>
    cases tt with
    | cons t1 tt=>
     cases t1;cases tt with
     | cons t2 tt=>
      cases t2;cases tt with
      | cons t3 tt=>
       cases tt;rename_i pa x3;push_cast [e,rdW];refine⟨aN δ,fun t ht=>⟨rfl,rfl,?_⟩⟩;rw[if_pos ψ];have s2:=aB (o:=HO.tup [V.str "pick",V.str "table"]) ht;have e2:=s2 _ _ e;have ea2:=s2 _ _ e1;have tS2:=tS1.same s2;have t32:=t3.same s2;have s02:=s1.trans s2;generalize upd H1 t (HO.tup [V.str "pick",V.str "table"])=H2 at s2 e2 ea2 tS2 t32 s02 |-;refine⟨fun σ' H'=>∃m',m'<bU (.one j r)/\Pv m' σ' H',fun σ' H' h=>h,?_⟩;push_cast [e2,rdW,ea2];have na:pa≠a:=by rw[hOD] at o;exact o.2
       have e3:upd H2 a (HO.lst (dn.map (fun i=>V.str (cL i))++[V.str "is"])) pa=_:=(aJ na).trans e2;have ea3:upd H2 a (HO.lst (dn.map (fun i=>V.str (cL i))++[V.str "is"])) a=_:=aq;have tS3:=app (.lst (dn.map (fun i=>V.str (cL i))++[V.str "is"])) tS2;have t33:=app (.lst (dn.map (fun i=>V.str (cL i))++[V.str "is"])) t32;have s03:=sapp (.lst (dn.map (fun i=>V.str (cL i))++[V.str "is"])) s02;generalize upd H2 a (HO.lst (dn.map (fun i=>V.str (cL i))++[V.str "is"]))=H3 at e3 ea3 tS3 t33 s03 |-;refine⟨by rw[AE];exact Be (show dn.length<4001 by omega) (aN δ),?_⟩;have nxt:∀(r':Pl)(v':V) H4,bU r'<bU (.one j r)->Same H3 H4->aG OD H4 v' (plD r')->fG ss k (.one j r)=0::fG ss k r'->∃m',m'<bU (.one j r)/\Pv m' [some (V.ref sa),some v',some (V.int (k:Int)),some (V.ref a)] H4:=fun r' v' H4 hp s4 t4 hw=>by
        refine⟨bU r',hp,?_⟩;rw[hPv];refine⟨r',v',dn++[0],rfl,s03.trans s4,?_,tS3.same s4,t4,?_,?_,rfl⟩
        ·rw[s4 _ _ ea3,A6];rfl
        ·rw[hway,hw,Dx];rfl
        rw[AH,A8];omega
       push_cast [e3,rdW];have okt:∀b,H3 b=none->OD b:=fun b hb=>by
        rw[hOD];exact⟨hn.new (s03.none hb),(aD ea3 hb).symm⟩
       have tSx:=tS3;cases tSx with
       | lst os3 es3 zs3 tss3=>
       obtain⟨pk,xk,yk⟩:=tss3.stN hk60;by_cases c:k=j
       ·rw[if_pos ω];push_cast [es3,xk,yk];refine⟨aN δ,fun t4 ht4=>?_⟩;have s4:=aB (o:=HO.tup [V.str "pick",V.int (bV ss k).2.2]) ht4;exact nxt (.pick (bV ss k).2.2) _ _ (by have:=pp r;show 1<bU r+1;omega) s4 (.tup (okt _ ht4) aq (by show 2<=1000000;decide) (.cons (.str _) (.cons (.int _) .nil))) (by show 0::(if k=j then [] else _)=_;rw[if_pos c];rfl)
       rw[if_neg ω];exact nxt r x3 H3 (by show bU r<bU r+1;omega) (Same.refl _) t33 (by show 0::(if k=j then [] else _)=_;rw[if_neg c])
  | wit j r=>
   cases tv1 with
   | tup o e z tt=>
    cases tt with
    | cons t1 tt=>
     cases t1;cases tt with
     | cons t2 tt=>
      cases t2;cases tt with
      | cons t3 tt=>
       cases tt;rename_i pa x3;push_cast [e,rdW];refine⟨aN δ,fun t ht=>⟨rfl,rfl,?_⟩⟩;rw[if_pos ψ];have s2:=aB (o:=HO.tup [V.str "pick",V.str "table"]) ht;have e2:=s2 _ _ e;have ea2:=s2 _ _ e1;have tS2:=tS1.same s2;have t32:=t3.same s2;have s02:=s1.trans s2;generalize upd H1 t (HO.tup [V.str "pick",V.str "table"])=H2 at s2 e2 ea2 tS2 t32 s02 |-;refine⟨fun σ' H'=>∃m',m'<bU (.wit j r)/\Pv m' σ' H',fun σ' H' h=>h,?_⟩;push_cast [e2,rdW,ea2];have na:pa≠a:=by rw[hOD] at o;exact o.2
       have e3:upd H2 a (HO.lst (dn.map (fun i=>V.str (cL i))++[V.str "within"])) pa=_:=(aJ na).trans e2;have ea3:upd H2 a (HO.lst (dn.map (fun i=>V.str (cL i))++[V.str "within"])) a=_:=aq;have tS3:=app (.lst (dn.map (fun i=>V.str (cL i))++[V.str "within"])) tS2;have t33:=app (.lst (dn.map (fun i=>V.str (cL i))++[V.str "within"])) t32;have s03:=sapp (.lst (dn.map (fun i=>V.str (cL i))++[V.str "within"])) s02;generalize upd H2 a (HO.lst (dn.map (fun i=>V.str (cL i))++[V.str "within"]))=H3 at e3 ea3 tS3 t33 s03 |-;refine⟨by rw[AE];exact Be (show dn.length<4001 by omega) (aN δ),?_⟩;have nxt:∀(r':Pl)(v':V) H4,bU r'<bU (.wit j r)->Same H3 H4->aG OD H4 v' (plD r')->fG ss k (.wit j r)=1::fG ss k r'->∃m',m'<bU (.wit j r)/\Pv m' [some (V.ref sa),some v',some (V.int (k:Int)),some (V.ref a)] H4:=fun r' v' H4 hp s4 t4 hw=>by
        refine⟨bU r',hp,?_⟩;rw[hPv];refine⟨r',v',dn++[1],rfl,s03.trans s4,?_,tS3.same s4,t4,?_,?_,rfl⟩
        ·rw[s4 _ _ ea3,A6];rfl
        ·rw[hway,hw,Dx];rfl
        rw[AH,A8];omega
       push_cast [e3,rdW];have okt:∀b,H3 b=none->OD b:=fun b hb=>by
        rw[hOD];exact⟨hn.new (s03.none hb),(aD ea3 hb).symm⟩
       have tSx:=tS3;cases tSx with
       | lst os3 es3 zs3 tss3=>
       obtain⟨pk,xk,yk⟩:=tss3.stN hk60;by_cases c:k=j
       ·rw[if_pos ω];push_cast [es3,xk,yk];refine⟨aN δ,fun t4 ht4=>?_⟩;have s4:=aB (o:=HO.tup [V.str "pick",V.int (bV ss k).2.2]) ht4;exact nxt (.pick (bV ss k).2.2) _ _ (by have:=pp r;show 1<bU r+1;omega) s4 (.tup (okt _ ht4) aq (by show 2<=1000000;decide) (.cons (.str _) (.cons (.int _) .nil))) (by show 1::(if k=j then [] else _)=_;rw[if_pos c];rfl)
       rw[if_neg ω];exact nxt r x3 H3 (by show bU r<bU r+1;omega) (Same.refl _) t33 (by show 1::(if k=j then [] else _)=_;rw[if_neg c])
  | msk l r=>
   cases tv1 with
   | tup o e z tt=>
    cases tt with
    | cons t1 tt=>
     cases t1;cases tt with
     | cons t2 tt=>
      cases t2;cases tt with
      | cons t3 tt=>
       cases tt;rename_i pa x3;push_cast [e,rdW];refine⟨aN δ,fun t ht=>⟨rfl,rfl,?_⟩⟩;rw[if_pos ψ];have s2:=aB (o:=HO.tup [V.str "pick",V.str "table"]) ht;have e2:=s2 _ _ e;have ea2:=s2 _ _ e1;have tS2:=tS1.same s2;have t32:=t3.same s2;have s02:=s1.trans s2;generalize upd H1 t (HO.tup [V.str "pick",V.str "table"])=H2 at s2 e2 ea2 tS2 t32 s02 |-;refine⟨fun σ' H'=>∃m',m'<bU (.msk l r)/\Pv m' σ' H',fun σ' H' h=>h,?_⟩;push_cast [e2,rdW,ea2];have na:pa≠a:=by rw[hOD] at o;exact o.2
       have e3:upd H2 a (HO.lst (dn.map (fun i=>V.str (cL i))++[V.str "mask"])) pa=_:=(aJ na).trans e2;have ea3:upd H2 a (HO.lst (dn.map (fun i=>V.str (cL i))++[V.str "mask"])) a=_:=aq;have tS3:=app (.lst (dn.map (fun i=>V.str (cL i))++[V.str "mask"])) tS2;have t33:=app (.lst (dn.map (fun i=>V.str (cL i))++[V.str "mask"])) t32;have s03:=sapp (.lst (dn.map (fun i=>V.str (cL i))++[V.str "mask"])) s02;generalize upd H2 a (HO.lst (dn.map (fun i=>V.str (cL i))++[V.str "mask"]))=H3 at e3 ea3 tS3 t33 s03 |-;refine⟨by rw[AE];exact Be (show dn.length<4001 by omega) (aN δ),?_⟩;have nxt:∀(r':Pl)(v':V) H4,bU r'<bU (.msk l r)->Same H3 H4->aG OD H4 v' (plD r')->fG ss k (.msk l r)=3::fG ss k r'->∃m',m'<bU (.msk l r)/\Pv m' [some (V.ref sa),some v',some (V.int (k:Int)),some (V.ref a)] H4:=fun r' v' H4 hp s4 t4 hw=>by
        refine⟨bU r',hp,?_⟩;rw[hPv];refine⟨r',v',dn++[3],rfl,s03.trans s4,?_,tS3.same s4,t4,?_,?_,rfl⟩
        ·rw[s4 _ _ ea3,A6];rfl
        ·rw[hway,hw,Dx];rfl
        rw[AH,A8];omega
       push_cast [e3,rdW];have okt:∀b,H3 b=none->OD b:=fun b hb=>by
        rw[hOD];exact⟨hn.new (s03.none hb),(aD ea3 hb).symm⟩
       have tSx:=tS3;cases tSx with
       | lst os3 es3 zs3 tss3=>
       obtain⟨pk,xk,yk⟩:=tss3.stN hk60;push_cast [es3,xk,yk,e3];by_cases c:(bV ss k).2.2=l
       ·rw[if_pos c];refine⟨aN δ,fun t4 ht4=>?_⟩;have s4:=aB (o:=HO.tup [V.str "pick",V.int l]) ht4;exact nxt (.pick l) _ _ (by have:=pp r;show 1<bU r+1;omega) s4 (.tup (okt _ ht4) aq (by show 2<=1000000;decide) (.cons (.str _) (.cons (.int _) .nil))) (by show 3::(if (bV ss k).2.2=l then [] else _)=_;rw[if_pos c];rfl)
       rw[if_neg c];exact nxt r x3 H3 (by show bU r<bU r+1;omega) (Same.refl _) t33 (by show 3::(if (bV ss k).2.2=l then [] else _)=_;rw[if_neg c])
  | low j r1 r2=>
   cases tv1 with
   | tup o e z tt=>
    cases tt with
    | cons t1 tt=>
     cases t1;cases tt with
     | cons t2 tt=>
      cases t2;cases tt with
      | cons t3 tt=>
       cases tt with
       | cons t4 tt=>
       cases tt;rename_i pa x3 x4;push_cast [e,rdW];refine⟨aN δ,fun t ht=>⟨rfl,rfl,?_⟩⟩;rw[if_pos ψ];have s2:=aB (o:=HO.tup [V.str "pick",V.str "table"]) ht;have e2:=s2 _ _ e;have ea2:=s2 _ _ e1;have tS2:=tS1.same s2;have t32:=t3.same s2;have t42:=t4.same s2;have s02:=s1.trans s2;generalize upd H1 t (HO.tup [V.str "pick",V.str "table"])=H2 at s2 e2 ea2 tS2 t32 s02 t42 |-;refine⟨fun σ' H'=>∃m',m'<bU (.low j r1 r2)/\Pv m' σ' H',fun σ' H' h=>h,?_⟩;push_cast [e2,rdW,ea2];have na:pa≠a:=by rw[hOD] at o;exact o.2
       have e3:upd H2 a (HO.lst (dn.map (fun i=>V.str (cL i))++[V.str "below"])) pa=_:=(aJ na).trans e2;have ea3:upd H2 a (HO.lst (dn.map (fun i=>V.str (cL i))++[V.str "below"])) a=_:=aq;have tS3:=app (.lst (dn.map (fun i=>V.str (cL i))++[V.str "below"])) tS2;have t33:=app (.lst (dn.map (fun i=>V.str (cL i))++[V.str "below"])) t32;have t43:=app (.lst (dn.map (fun i=>V.str (cL i))++[V.str "below"])) t42;have s03:=sapp (.lst (dn.map (fun i=>V.str (cL i))++[V.str "below"])) s02;generalize upd H2 a (HO.lst (dn.map (fun i=>V.str (cL i))++[V.str "below"]))=H3 at e3 ea3 tS3 t33 s03 t43 |-;refine⟨by rw[AE];exact Be (show dn.length<4001 by omega) (aN δ),?_⟩;have nxt:∀(r':Pl)(v':V) H4,bU r'<bU (.low j r1 r2)->Same H3 H4->aG OD H4 v' (plD r')->fG ss k (.low j r1 r2)=2::fG ss k r'->∃m',m'<bU (.low j r1 r2)/\Pv m' [some (V.ref sa),some v',some (V.int (k:Int)),some (V.ref a)] H4:=fun r' v' H4 hp s4 t4 hw=>by
        refine⟨bU r',hp,?_⟩;rw[hPv];refine⟨r',v',dn++[2],rfl,s03.trans s4,?_,tS3.same s4,t4,?_,?_,rfl⟩
        ·rw[s4 _ _ ea3,A6];rfl
        ·rw[hway,hw,Dx];rfl
        rw[AH,A8];omega
       push_cast [e3,rdW];have p1:=pp r1;have p2:=pp r2;by_cases c:k<j
       ·rw[if_pos ω];exact nxt r1 x3 H3 (by show bU r1<bU r1+bU r2+1;omega) (Same.refl _) t33 (by show 2::(if k<j then _ else _)=_;rw[if_pos c])
       rw[if_neg ω];exact nxt r2 x4 H3 (by show bU r2<bU r1+bU r2+1;omega) (Same.refl _) t43 (by show 2::(if k<j then _ else _)=_;rw[if_neg c])
noncomputable abbrev lR:List Str:=["_law_stretches_here","_law_weights_here","_law_prices_here","_law_plan","_law_price","_law_total","_law_place","_law_weight"]
noncomputable abbrev fj:Stmt:=top 37
theorem qb:bh lR q5_ (aj fj):=⟨rfl,rfl,rfl,ψ,rfl,ψ,ψ⟩
theorem Tz:NM_ lR fj 0 "_law_stretches_here" := .of ψ
theorem Tw:NM_ lR fj 1 "_law_weights_here" := .of ψ
theorem Tv:NM_ lR fj 2 "_law_prices_here" := .of ψ
theorem Tt:NM_ lR fj 3 "_law_plan" := .of ψ
theorem Tq:NM_ lR fj 4 "_law_price" := .of ψ
theorem sW:NM_ lR fj 5 "_law_total" := .of ψ
theorem Ge:NM_ lR fj 6 "_law_place" := .of ψ
theorem Gd:NM_ lR fj 7 "_law_weight" := .of ψ
theorem GC:GI_ fj "_law_way" := by decide +kernel
theorem Gz:GI_ fj "dict" := by decide +kernel
theorem uU:GI_ fj "enumerate" := by decide +kernel
theorem JL:GI_ fj "sum" := by decide +kernel
theorem JK:GI_ fj "zip" := by decide +kernel
theorem Yx:Bn "_law_cost" := ⟨ψ,ψ⟩
theorem SM (hB:∀x:Str,x∈BLs->mg x=none) (CZWay:Cal P w K mg base "_law_way" 1 q9_ YW) (F:Fun K "_law_cost" "_law_cost" fj f fd):dF P w K mg base CX0 4 f fd q5_ Q6:=by
 refine F.okq qb (fun vs H Q E h=>?_) (fun cdv A outer s H vs Q E hr h=>?_)
 ·obtain⟨s,p,wa,z,ok,ss,ws,zs,pl,rfl,_⟩:=h;rfl
 obtain⟨s,p,wa,z,ok,ss,ws,zs,pl,rfl,hn,ts,tp,hw,hwl,hz,h5,few,h60,hsz,pok,q⟩:=h;refine⟨_,(aF (bG Tq qb.nd (abg rfl Gz (hB "dict" Lp) JK (hB "zip" T7) (ak (bN (ak bD (ak bD (ak bD (ak bD (ak bD aA rfl) rfl) rfl) rfl) rfl)) (ak (ao Tv) aA rfl) rfl)) rfl (.inl rfl))
  (aF (bG sW qb.nd au rfl (.inl rfl))
  (aF (gY B7 rfl (RM uU (hB "enumerate" Dl) (ak (ao Tw) aA rfl) rfl) (jy (n:=2) rfl (bL (dY Ge qb.nd (.inl rfl)) (bL (dY Gd qb.nd (.inl rfl)) gP rfl) rfl) rfl rfl)
  (aK (bG sW qb.nd (aM bH (ao sW) (aM eG (ao Gd) (bW (jf rfl) JL (hB "sum" rB) KL rM (ak (cJ (NX:=lR) (kX:=(aj fj).names) ["_law_word","_law_price"] [none,some 4] rfl rfl ⟨rfl,ψ,ψ,ψ,ψ⟩ rfl (bY (bw CZWay (hr.mono δ) GC aaS (ak (ao Tz) (ak (ao Tt) (ak (ao Ge) aA rfl) rfl) rfl) rfl rfl)) (fun _ _ _ _ _=>(bR 0 (show BQ (["_law_word","_law_price"]:List Str) from by decide +kernel) rfl (C8 rfl))) (fun _ _ _ _ _=>fK) (fun _ _ _ _ _=>(YZ hr.HW (bA 1) (bA 0) (fun _ _=>rfl)))) aA rfl) rfl rfl))) rfl (.inl rfl))) (fun _=>rfl))
  (aK (aU (ao sW)))))),?_⟩
 refine aO fun k hk=>?_;push_cast [rdA];refine⟨aN δ,fun l0 hl0=>?_⟩;have s0:=aB (o:=HO.lst [V.str "is",V.str "within",V.str "below",V.str "mask",V.str "table"]) hl0;have e0:upd H l0 (HO.lst [V.str "is",V.str "within",V.str "below",V.str "mask",V.str "table"]) l0=_:=aq;generalize upd H l0 (HO.lst [V.str "is",V.str "within",V.str "below",V.str "mask",V.str "table"])=H0 at s0 e0 |-;refine⟨l0,z,fY zs,zs.map V.int,rfl,.inr (SqL.of e0),SqT.of (s0 _ _ hz),O4 ω,by show 0<5;decide,by show 5<=15;decide,fun p1 hp1=>?_⟩;have s1:=aB (o:=HO.dK (cP [] (fY zs))) hp1;have e1:upd H0 p1 (HO.dK (cP [] (fY zs))) p1=_:=aq;generalize upd H0 p1 (HO.dK (cP [] (fY zs)))=H1 at s1 e1 |-;have s01:=s0.trans s1;have hw1:=s01 _ _ hw;subst hk;refine aO fun k hk=>?_;push_cast;subst hk;refine aO fun k hk=>?_;refine kJ fun R hR=>?_;push_cast [Ou,Ye,hw1,Yd];obtain⟨Pv,hPv⟩:∃Pv:Nat->L2.St->Hp->Prop,Pv=fun(i:Nat) σ H'=>∃(o1 o2:Option V),Same H1 H'/\σ=[some s,some (.ref wa),some (.ref z),some p,some (.ref p1),some (.int ((BO i).map fun k=>ws.getD k 0*qz zs (fG ss k pl)).sum),o1,o2]:=⟨_,rfl⟩;refine abJ hR (xs:=ws.map V.int) Pv (by rw[hPv];exact⟨_,_,Same.refl _,rfl⟩) ?_ ?_ ?_
 ·intro i σ H2 pv;rw[hPv] at pv;obtain⟨_,_,s2,_⟩:=pv;exact s2 _ _ hw1
 ·intro i x σ H2 p2 hx pv hp2;rw[hPv] at pv;obtain⟨o1,o2,s2,rfl⟩:=pv;have hi:i<ws.length:=by
   have:=(AO.mp hx).1;rwa [AE] at this
  have hxi:x=V.int (ws.getD i 0):=by
   rw[AU,AF hi] at hx;cases hx;rw[AN,AF hi];rfl
  subst hxi;have s3:=aB (o:=HO.tup [V.int (i:Nat),V.int (ws.getD i 0)]) hp2;have e3:upd H2 p2 (HO.tup [V.int (i:Nat),V.int (ws.getD i 0)]) p2=_:=aq;generalize upd H2 p2 (HO.tup [V.int (i:Nat),V.int (ws.getD i 0)])=H3 at s3 e3 |-;have s23:=s2.trans s3;have s03:=s01.trans s23;push_cast [e3];refine cY fun R2 hR2=>?_;push_cast;refine⟨s,p,i,ok,ss,pl,_,rfl,hn.same s03,ts.same s03,tp.same s03,pok,ω,hsz,fun wy H4 s4 nwy hwy ewy=>?_⟩;push_cast [ewy];have e14:=(s23.trans s4) _ _ e1;have hwle:=p6 ss i pl;have hw5:=uh ss i pl;refine Va (fun i=>zs.getD i 0) (fun τ=>∃o0,τ=[o0,some (.ref p1)]) hR2 ewy ω ⟨_,rfl⟩ ?_ ?_
  ·rintro j z' τ acc Pn hz' ⟨o0,rfl⟩ h1;have hz5:=hw5 z' (A7 hz');push_cast [rdA];refine⟨p1,V.int (zs.getD z' 0),rfl,(UG (zs:=zs) hz5) ▸ zf.k (k:=D0 (cL z')) e14,?_⟩;exact h1 _ ⟨_,rfl⟩
  intro d5 hd5;have s5:=aB (o:=HO.lst (((fG ss i pl).map fun i=>zs.getD i 0).map V.int)) hd5;have e5:upd H4 d5 (HO.lst (((fG ss i pl).map fun i=>zs.getD i 0).map V.int)) d5=_:=aq;generalize upd H4 d5 (HO.lst (((fG ss i pl).map fun i=>zs.getD i 0).map V.int))=H5 at s5 e5 |-;push_cast [e5];refine⟨_,rfl,?_⟩;have hpay:=K3 few (fG ss i pl);have hb:-(2^64)<qz zs (fG ss i pl)/\qz zs (fG ss i pl)<2^64:=by
   have:((fG ss i pl).length:Int)<=4000:=by omega
   omega
  refine⟨.inr hb,?_⟩;rw[hPv];refine⟨some (V.int (i:Nat)),some (V.int (ws.getD i 0)),(s23.trans s4).trans s5,?_⟩;rw[List.range_succ,A6,sum_append];simp only[CF,He,FG,sum_nil,Fu];rfl
 intro σ H2 pv;rw[hPv] at pv;obtain⟨o1,o2,s2,rfl⟩:=pv;subst hk;push_cast;rw[AE,hwl];have:=q H2 (s01.trans s2);rw[jT] at this;exact this
noncomputable abbrev pU:List Str:=["_law_tape_here","_law_many","_law_most"]
noncomputable abbrev eZ:Stmt:=top 35
theorem Aw:bh pU q0_ (aj eZ):=⟨rfl,rfl,rfl,ψ,rfl,ψ,ψ⟩
theorem Jq:NM_ pU eZ 0 "_law_tape_here" := .of ψ
theorem Jp:NM_ pU eZ 1 "_law_many" := .of ψ
theorem Jo:NM_ pU eZ 2 "_law_most" := .of ψ
theorem yI:GI_ eZ "_law_take" := by decide +kernel
theorem yH:GI_ eZ "range" := by decide +kernel
theorem yG:GI_ eZ "tuple" := by decide +kernel
theorem Py:Bn "_law_prices" := ⟨ψ,ψ⟩
noncomputable abbrev mR:List Str:=["_law_tape_here","_law_many","_law_most"]
noncomputable abbrev eE:Stmt:=top 34
theorem xq:bh mR q0_ (aj eE):=⟨rfl,rfl,rfl,ψ,rfl,ψ,ψ⟩
theorem FZ:NM_ mR eE 0 "_law_tape_here" := .of ψ
theorem FW:NM_ mR eE 1 "_law_many" := .of ψ
theorem FT:NM_ mR eE 2 "_law_most" := .of ψ
theorem v5:GI_ eE "_law_take" := by decide +kernel
theorem vZ:GI_ eE "range" := by decide +kernel
theorem J4:Bn "_law_weights" := ⟨ψ,ψ⟩
theorem NZ (hB:∀x:Str,x∈BLs->mg x=none) (CZTake:Cal P w K mg base "_law_take" 2 q0_ (mX 2)) (F:Fun K "_law_prices" "_law_prices" eZ f fd):dF P w K mg base CX0 3 f fd q0_ Al:=by
 refine F.okq Aw (fun vs H Q E h=>?_) (fun cdv A outer s H vs Q E hr h=>?_)
 ·obtain⟨p,B,rfl,_⟩:=h;rfl
 obtain⟨p,B,rfl,tp,hB0,hB1,q⟩:=h;refine⟨_,(aF (bG Jo Aw.nd (aL aW (bN (ak au (ak au (ak au aA rfl) rfl) rfl)) (bw CZTake (hr.mono δ) yI cV (ak (ao Jq) (ak au aA rfl) rfl) rfl rfl) (fun _ _=>rfl)) rfl (.inl rfl))
  (aK (aU (sO qP yG (hB "tuple" tG) boot_tuple tZ (ak (cJ (NX:=pU) (kX:=(aj eZ).names) ["_law_k","_law_tape_here","_law_most"] [none,some 0,some 2] rfl rfl ⟨rfl,ψ,ψ,ψ,ψ⟩ rfl (ig yH (hB "range" fV) (ak (ao Jp) aA rfl) rfl) (fun _ _ _ _ _=>(bR 0 (show BQ (["_law_k","_law_tape_here","_law_most"]:List Str) from by decide +kernel) rfl (C8 rfl))) (fun _ _ _ _ _=>fK) (fun _ _ _ _ _=>(aM bH au (bw CZTake (hr.mono δ) rfl cV (ak (bA 1) (ak (bA 2) aA rfl) rfl) rfl rfl)))) aA rfl) rfl rfl)))),?_⟩
 refine aO fun k hk=>?_;push_cast;refine⟨aN δ,fun l0 hl0=>?_⟩;have s3:=aB (o:=HO.lst [V.int 1,V.int 5,V.int 99]) hl0;have tp3:=tp.same s3;have n3:=tp.ne hl0;have e3:upd H l0 (HO.lst [V.int 1,V.int 5,V.int 99]) l0=_:=aq;generalize upd H l0 (HO.lst [V.int 1,V.int 5,V.int 99])=H3 at s3 tp3 e3 |-;refine⟨p,3,B,rfl,tp3,by show B+2<=1000100;omega,δ,δ,δ,fun z=>absurd z δ,fun r4 H4 r40 r41 s4 tp4=>?_⟩;obtain⟨mo,hmo,emo⟩:=lZ (is:=[1,5,99]) r40 r41;replace emo:atI [V.int 1,V.int 5,V.int 99] r4=some (.int mo):=emo;have e4:=s4 _ _ n3 e3;have bmo:1<=mo/\mo<=99:=by
  simp only[A5,A9,or_false] at hmo;omega
 push_cast [e4,emo];subst hk;push_cast;refine cY fun R hR=>?_;push_cast [qO];refine⟨δ,δ,?_⟩;obtain⟨Pc,hPc⟩:∃Pv:Nat->List V->L2.St->Hp->Prop,Pv=fun(i:Nat) acc τ H'=>∃(o0:Option V)(zs:List Int),cB p H4 H'/\b7 H' p (B+2+2*(i:Int))/\acc=zs.map V.int/\zs.length=i/\(∀z∈zs,1<=z/\z<=99)/\τ=[o0,some (.ref p),some (.int mo)]:=⟨_,rfl⟩;refine u5 hR (aN δ) Pc (by rw[hPc];exact⟨none,[],cB.refl _ _,tp4.le (by show B+2<=B+2+2*0;omega),rfl,rfl,fun z hz=>absurd hz A9,rfl⟩) ?_ ?_ ?_
 ·intro i acc τ H5 pc;rw[hPc] at pc;obtain⟨_,zs,_,_,rfl,h1,_⟩:=pc;rw[AE];omega
 ·intro i acc τ H5 hi pc;rw[hPc] at pc;obtain⟨o0,zs,s5,tp5,rfl,hl5,hb5,rfl⟩:=pc;push_cast;refine⟨p,mo,_,rfl,tp5,by show B+2+2*(i:Int)+2<=1000100;omega,ω,ω,δ,fun z=>absurd z ω,fun r6 H6 r60 r61 s6 tp6=>?_⟩;push_cast;rw[hPc];refine⟨_,zs++[1+r6],s5.trans s6,tp6.le (by show B+2+2*(i:Int)+2<=B+2+2*((i+1:Nat):Int);omega),by rw[A6];rfl,by rw[AH,hl5];rfl,fun z hz=>?_,rfl⟩;rcases CI.mp hz with hz|hz
  ·exact hb5 z hz
  rw[AK.mp hz];omega
 intro acc τ H5 d pc hd;rw[hPc] at pc;obtain⟨o0,zs,s5,tp5,rfl,hl5,hb5,rfl⟩:=pc;have s6:=aB (o:=HO.lst (zs.map V.int)) hd;have tp6:=tp5.same s6;have sx6:cB p H (upd H5 d (.lst (zs.map V.int))):=((s3.x.trans s4).trans s5).trans s6.x;refine⟨d,rfl,_,.inl ⟨SqL.of aq,fun t ht=>?_⟩⟩;have s7:=aB (o:=HO.tup (zs.map V.int)) ht;obtain⟨n7,h7⟩:=yR sx6 tp6 ht;exact q _ zs _ (sx6.trans s7.x) ((tp6.same s7).le (by show B+2+2*(5:Int)<=B+20;omega)) n7 h7 aq hl5 hb5
theorem Jf (hB:∀x:Str,x∈BLs->mg x=none) (CZTake:Cal P w K mg base "_law_take" 2 q0_ (mX 2)) (F:Fun K "_law_weights" "_law_weights" eE f fd):dF P w K mg base CX0 3 f fd q0_ Aj:=by
 refine F.okq xq (fun vs H Q E h=>?_) (fun cdv A outer s H vs Q E hr h=>?_)
 ·obtain⟨p,m,B,rfl,_⟩:=h;rfl
 obtain⟨p,m,B,rfl,tp,hB0,hB1,hm60,q⟩:=h;refine⟨_,(aF (bG FT xq.nd (aL aW (bN (ak au (ak au (ak au (ak (aM bH (aM qY au au) au) aA rfl) rfl) rfl) rfl)) (bw CZTake (hr.mono δ) v5 cV (ak (ao FZ) (ak au aA rfl) rfl) rfl rfl) (fun _ _=>rfl)) rfl (.inl rfl))
  (aK (aU (cJ (NX:=mR) (kX:=(aj eE).names) ["_law_k","_law_tape_here","_law_most"] [none,some 0,some 2] rfl rfl ⟨rfl,ψ,ψ,ψ,ψ⟩ rfl (ig vZ (hB "range" fV) (ak (ao FW) aA rfl) rfl) (fun _ _ _ _ _=>(bR 0 (show BQ (["_law_k","_law_tape_here","_law_most"]:List Str) from by decide +kernel) rfl (C8 rfl))) (fun _ _ _ _ _=>fK) (fun _ _ _ _ _=>(bw CZTake (hr.mono δ) rfl cV (ak (bA 1) (ak (bA 2) aA rfl) rfl) rfl rfl)))))),?_⟩
 refine aO fun k hk=>?_;push_cast;refine⟨⟨δ,δ,δ⟩,aN δ,fun l0 hl0=>?_⟩;have s3:=aB (o:=HO.lst [V.int 2,V.int 10,V.int 1000,V.int (10^B0 6+1)]) hl0;have tp3:=tp.same s3;have n3:=tp.ne hl0;have e3:upd H l0 (HO.lst [V.int 2,V.int 10,V.int 1000,V.int (10^B0 6+1)]) l0=_:=aq;generalize upd H l0 (HO.lst [V.int 2,V.int 10,V.int 1000,V.int (10^B0 6+1)])=H3 at s3 tp3 e3 |-;refine⟨p,4,B,rfl,tp3,by show B+2<=1000100;omega,δ,δ,δ,fun z=>absurd z δ,fun r4 H4 r40 r41 s4 tp4=>?_⟩;obtain⟨mo,hmo,emo⟩:=lZ (is:=[2,10,1000,10^B0 6+1]) r40 r41;replace emo:atI [V.int 2,V.int 10,V.int 1000,V.int (10^B0 6+1)] r4=some (.int mo):=emo;have e4:=s4 _ _ n3 e3;have bmo:2<=mo/\mo<=1000001:=by
  simp only[A5,A9,or_false] at hmo;have:(10:Int)^B0 6=1000000:=by decide
  omega
 push_cast [e4,emo];subst hk;push_cast;refine cY fun R hR=>?_;push_cast [qO];refine⟨ω,ω,?_⟩;obtain⟨Pc,hPc⟩:∃Pv:Nat->List V->L2.St->Hp->Prop,Pv=fun(i:Nat) acc τ H'=>∃(o0:Option V)(zs:List Int),cB p H4 H'/\b7 H' p (B+2+2*(i:Int))/\acc=zs.map V.int/\zs.length=i/\(∀z∈zs,0<=z/\z<=1000000)/\τ=[o0,some (.ref p),some (.int mo)]:=⟨_,rfl⟩;refine u5 hR (aN ω) Pc (by rw[hPc];exact⟨none,[],cB.refl _ _,tp4.le (by show B+2<=B+2+2*0;omega),rfl,rfl,fun z hz=>absurd hz A9,rfl⟩) ?_ ?_ ?_
 ·intro i acc τ H5 pc;rw[hPc] at pc;obtain⟨_,zs,_,_,rfl,h1,_⟩:=pc;rw[AE];omega
 ·intro i acc τ H5 hi pc;rw[hPc] at pc;obtain⟨o0,zs,s5,tp5,rfl,hl5,hb5,rfl⟩:=pc;push_cast;refine⟨p,mo,_,rfl,tp5,by show B+2+2*(i:Int)+2<=1000100;omega,ω,ω,δ,fun z=>by decide,fun r6 H6 r60 r61 s6 tp6=>?_⟩;rw[hPc];refine⟨_,zs++[r6],s5.trans s6,tp6.le (by show B+2+2*(i:Int)+2<=B+2+2*((i+1:Nat):Int);omega),by rw[A6];rfl,by rw[AH,hl5];rfl,fun z hz=>?_,rfl⟩;rcases CI.mp hz with hz|hz
  ·exact hb5 z hz
  rw[AK.mp hz];omega
 intro acc τ H5 d pc hd;rw[hPc] at pc;obtain⟨o0,zs,s5,tp5,rfl,hl5,hb5,rfl⟩:=pc;have s6:=aB (o:=HO.lst (zs.map V.int)) hd;have sx5:cB p H H5:=(s3.x.trans s4).trans s5;obtain⟨n7,h7⟩:=yR sx5 tp5 hd;exact q _ zs _ (sx5.trans s6.x) ((tp5.same s6).le ω) n7 h7 aq ω hb5
noncomputable abbrev jh:List Str:=["_law_tape_here","_law_stretches_here","_law_end","_law_low","_law_high","_law_label"]
noncomputable abbrev dh:Stmt:=top 45
theorem jY:bh jh q12_ (aj dh):=⟨rfl,rfl,rfl,ψ,rfl,ψ,ψ⟩
theorem vB:NM_ jh dh 0 "_law_tape_here" := .of ψ
theorem lF:NM_ jh dh 1 "_law_stretches_here" := .of ψ
theorem vA:NM_ jh dh 2 "_law_end" := .of ψ
theorem pI:NM_ jh dh 3 "_law_low" := .of ψ
theorem Gb:NM_ jh dh 4 "_law_high" := .of ψ
theorem vz:NM_ jh dh 5 "_law_label" := .of ψ
theorem oG:GI_ dh "_law_take" := by decide +kernel
theorem zT:GI_ dh "max" := by decide +kernel
theorem J5:Bn "_law_spanned" := ⟨ψ,ψ⟩
theorem Jg (hB:∀x:Str,x∈BLs->mg x=none) (CZTake:Cal P w K mg base "_law_take" 2 q0_ (mX 2)) (F:Fun K "_law_spanned" "_law_spanned" dh f fd):dF P w K mg base CX0 3 f fd q12_ Ak:=by
 refine F.okq jY (fun vs H Q E h=>?_) (fun cdv A outer s H vs Q E hr h=>?_)
 ·obtain⟨p,l,B,ss,rfl,_⟩:=h;rfl
 obtain⟨p,l,B,ss,rfl,tp,hB0,hB1,ts,hne,rs,hfst,q⟩:=h;refine⟨_,(aF (dm (bx Bf (bw CZTake (hr.mono δ) oG cV (ak (ao vB) (ak au aA rfl) rfl) rfl rfl) au (aQ _)) (aK (aU (ao lF))) cg)
  (aF (bG vA jY.nd (aM fP (aM bH (aL aW (aL aW (ao lF) au (fun _ _=>rfl)) au (fun _ _=>rfl)) (aL aW (bN (ak au (ak au (ak au (ak au aA rfl) rfl) rfl) rfl)) (bw CZTake (hr.mono δ) oG cV (ak (ao vB) (ak au aA rfl) rfl) rfl rfl) (fun _ _=>rfl))) au) rfl (.inl rfl))
  (aF (pA (aL aW (ao lF) (sI mW au) (fun _ _=>rfl)) (jy (n:=3) rfl (bL (dY pI jY.nd (.inl rfl)) (bL (dY Gb jY.nd (.inl rfl)) (bL (dY vz jY.nd (.inl rfl)) gP rfl) rfl) rfl) rfl rfl) rfl rfl rfl)
  (aK (aU (aM bH (pB Rc (ao lF) sy (su (sI mW au))) (bN (ak (bQ (ak (ao pI) (ak (bW (Bt rfl) zT (hB "max" Dj) boot_max Eb (ak (ao pI) (ak (ao vA) aA rfl) rfl) rfl rfl) (ak (ao vz) aA rfl) rfl) rfl)) aA rfl)))))))),?_⟩
 have ts0:=ts;cases ts with
 | lst o el zl tsl=>
  rename_i xs;have hxl:=tsl.length;rw[AE] at hxl;obtain⟨sa,⟨lo,hi,b⟩,rfl⟩:=jQ ss (D4.mpr hne);refine aO fun k hk=>?_;push_cast;refine⟨p,4,B,rfl,tp,by show B+2<=1000100;omega,δ,δ,δ,fun z=>absurd z δ,fun r1 H1 r10 r11 s1 tp1=>?_⟩;have el1:=s1 _ _ o el;have tsl1:=tsl.Ax s1;push_cast;split
  ·exact q l _ H1 s1 (tp1.le (by show B+2<=B+4;omega)) (ts0.Ax s1) rfl rs
  subst hk;refine aO fun k hk=>?_;obtain⟨p0,x0,y0⟩:=tsl1.stN (k:=0) (by rw[AH,A8];omega);replace x0:atI xs 0=some (.ref p0):=x0;push_cast [el1,x0,y0];refine⟨aN δ,fun l2 hl2=>?_⟩;have s2:=aB (o:=HO.lst [V.int 64,V.int 65,V.int 200,V.int 201]) hl2;have e2:upd H1 l2 (HO.lst [V.int 64,V.int 65,V.int 200,V.int 201]) l2=_:=aq;have n2:=tp1.ne hl2;have tp2:=tp1.same s2;generalize upd H1 l2 (HO.lst [V.int 64,V.int 65,V.int 200,V.int 201])=H2 at s2 e2 tp2 |-;refine⟨p,4,B+2,rfl,tp2,by show B+2+2<=1000100;omega,δ,δ,δ,fun z=>absurd z δ,fun r3 H3 r30 r31 s3 tp3=>?_⟩;obtain⟨wd,hwd,ewd⟩:=lZ (is:=[64,65,200,201]) r30 r31;replace ewd:atI [V.int 64,V.int 65,V.int 200,V.int 201] r3=some (.int wd):=ewd;have bwd:wd<=201:=by
   simp only[A5,A9,or_false] at hwd;rcases hwd with rfl|rfl|rfl|rfl <;> decide
  have e3:=s3 _ _ n2 e2;push_cast [e3,ewd];have sx3:=(s1.trans s2.x).trans s3;have el3:=sx3 _ _ o el;have tsl3:=tsl.Ax sx3;have hs0:(bV (sa++[(lo,hi,b)]) 0).1<=10^9:=hfst _ (QX (by rw[AH,A8];omega));generalize (bV (sa++[(lo,hi,b)]) 0).1=f0 at hs0 |-;have hlen:xs.length=sa.length+1:=by rw[hxl,AH,A8]
  rw[A6] at tsl3;obtain⟨tpre,y,hy,ty⟩:=aH.dropLast tsl3;obtain⟨py,vs,rfl,ey,tvs⟩:=aG.BV (show aG (·≠p) H3 y (.tuple [.int lo,.int hi,.int b]) from ty);have evs:=aH.ints (is:=[lo,hi,b]) tvs;subst evs;replace ey:H3 py=some (.tup [.int lo,.int hi,.int b]):=ey;have hyl:atI xs (-1)=some (.ref py):=by
   obtain⟨xa,xb,rfl⟩:=jQ xs ω;rw[AH,A8,HQ,BC (AZ _),Go] at hy;cases hy;exact Hv xa _
  subst hk;refine aO fun k hk=>?_;push_cast [el3,hyl,ey];subst hk;push_cast [el3];obtain⟨h4,hh4,b4⟩:∃h4:Int,h4=(if f0+wd-1>lo then f0+wd-1 else lo)/\lo<=h4/\h4<=10^9+(10^12+10)*(sa.length+1):=by
   have hb:=rs.bd sa.length (lo,hi,b) (by rw[BC (AZ _),Go];rfl);have hl:=(rs.lh sa.length (lo,hi,b) (by rw[BC (AZ _),Go];rfl)).1;replace hb:-(10^12)<=lo/\hi<=10^9+(10^12+10)*((sa.length:Int)+1):=hb;replace hl:lo<=hi:=hl;refine⟨_,rfl,?_⟩;split <;> omega
  rw[<- hh4,U7];intro a4 ha4;refine⟨aN δ,fun a5 ha5=>⟨aN δ,fun a6 ha6=>?_⟩⟩;have s4:=aB (o:=HO.lst xs.dropLast) ha4;have s5:=aB (o:=HO.tup [V.int lo,V.int h4,V.int b]) ha5;have s6:=aB (o:=HO.lst [V.ref a5]) ha6;have e4:=(s5.trans s6) _ _ (show upd H3 a4 (HO.lst xs.dropLast) a4=_ from aq);have e5:=s6 _ _ (show upd (upd H3 a4 (HO.lst xs.dropLast)) a5 (HO.tup [V.int lo,V.int h4,V.int b]) a5=_ from aq);have s46:=(s4.trans s5).trans s6;have n5:a5≠p:=(tp3.same s4).ne ha5;generalize upd (upd (upd H3 a4 (HO.lst xs.dropLast)) a5 (HO.tup [V.int lo,V.int h4,V.int b])) a6 (HO.lst [V.ref a5])=H6 at e4 e5 s46 |-;push_cast [e4];have hdl:=List.length_dropLast (xs:=xs);refine⟨aN (show xs.dropLast.length+1<=1000000 by omega),fun a7 ha7=>?_⟩;have s7:=aB (o:=HO.lst (xs.dropLast++[V.ref a5])) ha7;have tp7:=(tp3.same s46).same s7;refine q a7 (sa++[(lo,h4,b)]) _ (sx3.trans (s46.trans s7).x) (tp7.le (by show B+2+2<=B+4;omega)) (.lst ((tp3.same s46).ne ha7) aq (by rw[AH,A8,hdl];omega) ?_) (by rw[AH,AH];rfl) (rs.Ug b4.1 b4.2);rw[A6];exact((tpre.same s46).same s7).append (.cons (.tup n5 (s7 _ _ e5) (show 3<=1000000 by decide) (.cons (.int _) (.cons (.int _) (.cons (.int _) .nil)))) .nil)
end
noncomputable abbrev Kg:List Str:=["_law_number","_law_many"]
noncomputable abbrev m5:Stmt:=top 38
theorem V0:bh Kg q11_ (aj m5):=⟨rfl,rfl,rfl,ψ,rfl,ψ,ψ⟩
theorem Tp:NM_ Kg m5 1 "_law_many" := .of ψ
theorem Du:GI_ m5 "range" := by decide +kernel
theorem Mv:Bn "_law_left" := ⟨ψ,ψ⟩
noncomputable abbrev Vn:List Str:=["_law_left_here"]
noncomputable abbrev rY:Stmt:=top 39
theorem Zo:bh Vn ["_law_left_here"] (aj rY):=⟨rfl,rfl,rfl,ψ,rfl,ψ,ψ⟩
theorem XM:NM_ Vn rY 0 "_law_left_here" := .of ψ
theorem Oz:GI_ rY "sum" := by decide +kernel
theorem J6:Bn "_law_set" := ⟨ψ,ψ⟩
noncomputable def wA (n:Nat):Sp:=fun vs H Q _=>∃s:Nat,vs=[.int (s:Int),.int (n:Int)]/\s<2^n/\∀p H',Same H H'->H p=none->H' p=some (.lst (nv (bC n s)))->Q (.ref p) H'
theorem Ef (x i:Nat):((x:Int)/(((2^i:Nat)):Int)%2=1)↔x.testBit i=true:=by
 rw[Nat.testBit_eq_decide_div_mod_eq,decide_eq_true_eq];omega
section
variable {P:AR}{w:Bi}{K:AD}{mg:Str->Option Ap}{base:Heap}{f:Addr}{fd:CY}{bs:List Str}
theorem Xu (hB:∀x:Str,x∈BLs->mg x=none) (F:Fun K "_law_set" "_law_set" rY f fd):dF P w K mg base CX0 1 f fd ["_law_left_here"] rQ:=by
 refine F.okq Zo (fun vs H Q E h=>?_) (fun cdv A outer s H vs Q E hr h=>?_)
 ·obtain⟨l,left,rfl,_⟩:=h;rfl
 obtain⟨l,left,rfl,el,ll,lk,q⟩:=h;refine⟨_,(aK (aU (bW (jf rfl) Oz (hB "sum" rB) KL rM (ak (cJ (NX:=Vn) (kX:=(aj rY).names) ["_law_k"] [none] rfl rfl ⟨rfl,ψ,ψ,ψ,ψ⟩ rfl (bY (ao XM)) (fun _ _ _ _ _=>(bR 0 (show BQ (["_law_k"]:List Str) from by decide +kernel) rfl (C8 rfl))) (fun _ _ _ _ _=>fK) (fun _ _ _ _ _=>(aM j7 au (bA 0)))) aA rfl) rfl rfl))),?_⟩;push_cast;refine cY fun R hR=>?_;push_cast [el];refine iB (fun k=>((2^k:Nat):Int)) (fun τ=>∃o0,τ=[o0]) hR el ω ⟨_,rfl⟩ ?_ ?_
 ·rintro i k' τ acc Pn hk' ⟨o0,rfl⟩ h1;have:=lk k' (A7 hk');push_cast;refine⟨⟨ω,ω,δ⟩,?_⟩;rw[Jn,B6,show((2:Int)^k')=((2^k':Nat):Int) by rw[FI];rfl];exact h1 _ ⟨_,rfl⟩
 intro d hd;have s1:=aB (o:=HO.lst ((left.map fun k=>((2^k:Nat):Int)).map V.int)) hd;have e1:upd H d (HO.lst ((left.map fun k=>((2^k:Nat):Int)).map V.int)) d=_:=aq;generalize upd H d (HO.lst ((left.map fun k=>((2^k:Nat):Int)).map V.int))=H1 at s1 e1 |-;push_cast [e1];refine⟨_,rfl,?_⟩;rw[xg];exact q _ s1
theorem SJ {n:Nat}(hn:n<=60) (hB:∀x:Str,x∈BLs->mg x=none) (F:Fun K "_law_left" "_law_left" m5 f fd):dF P w K mg base CX0 1 f fd q11_ (wA n):=by
 refine F.okq V0 (fun vs H Q E h=>?_) (fun cdv A outer s H vs Q E hr h=>?_)
 ·obtain⟨s,rfl,_⟩:=h;rfl
 obtain⟨x,rfl,hx,q⟩:=h;refine⟨_,(aK (aU (cJ (NX:=Kg) (kX:=(aj m5).names) ["_law_k","_law_number"] [none,some 0] rfl rfl ⟨rfl,ψ,ψ,ψ,ψ⟩ rfl (ig Du (hB "range" fV) (ak (ao Tp) aA rfl) rfl) (fun _ _ _ _ _=>(bR 0 (show BQ (["_law_k","_law_number"]:List Str) from by decide +kernel) rfl (C8 rfl))) (fun _ _ _ _ _=>(pC (bx (cD hr.bO) (aM iW (aM xQ (bA 1) (aM j7 au (bA 0))) au) au (aQ _)))) (fun _ _ _ _ _=>(bA 0))))),?_⟩;push_cast;refine cY fun R hR=>?_;push_cast [qO];refine⟨ω,ω,?_⟩;rw[B6];obtain⟨Pc,hPc⟩:∃Pv:Nat->List V->L2.St->Hp->Prop,Pv=fun(i:Nat) acc τ H'=>∃(o0:Option V),H'=H/\acc=nv (bC i x)/\τ=[o0,some (.int (x:Int))]:=⟨_,rfl⟩;refine u5 hR (aN ω) Pc (by rw[hPc];exact⟨_,rfl,rfl,rfl⟩) ?_ ?_ ?_
 ·intro i acc τ H5 pc;rw[hPc] at pc;obtain⟨_,_,rfl,_⟩:=pc;rw[dZ];exact BG (Cf _ _) (by rw[Fn];exact AZ _)
 ·intro i acc τ H5 hi pc;rw[hPc] at pc;obtain⟨o0,rfl,rfl,rfl⟩:=pc;push_cast;have hp:2^i<2^70:=Nat.pow_lt_pow_right δ ω;have hp0:=ES i;rw[zero_add,Jn,B6,show((2:Int)^i)=((2^i:Nat):Int) by rw[FI];rfl];refine⟨⟨ω,ω,δ⟩,⟨ω,ω⟩,δ,?_⟩;rw[hPc];by_cases c:x.testBit i=true
  ·rw[if_pos ((Ef x i).mpr c)];refine⟨_,rfl,?_,rfl⟩;rw[nO,if_pos c];unfold nv;rw[A6];rfl
  rw[if_neg (fun z=>c ((Ef x i).mp z))];refine⟨_,rfl,?_,rfl⟩;rw[nO,if_neg c,CB]
 intro acc τ H5 d pc hd;rw[hPc] at pc;obtain⟨o0,rfl,rfl,rfl⟩:=pc;exact q d _ (aB hd) hd aq
noncomputable abbrev gm:List Str:=["_law_stretches_here","_law_left_here","_law_labels","_law_whole","_law_span","_law_steps_here","_law_k","_law_ahead","_law_label"]
noncomputable abbrev cu:Stmt:=top 40
theorem jn:bh gm q7_ (aj cu):=⟨rfl,rfl,rfl,ψ,rfl,ψ,ψ⟩
theorem qj:NM_ gm cu 0 "_law_stretches_here" := .of ψ
theorem iu:NM_ gm cu 1 "_law_left_here" := .of ψ
theorem jO:NM_ gm cu 2 "_law_labels" := .of ψ
theorem qi:NM_ gm cu 3 "_law_whole" := .of ψ
theorem uI:NM_ gm cu 4 "_law_span" := .of ψ
theorem jN:NM_ gm cu 5 "_law_steps_here" := .of ψ
theorem mq:NM_ gm cu 6 "_law_k" := .of ψ
theorem qg:NM_ gm cu 7 "_law_ahead" := .of ψ
theorem Ob:NM_ gm cu 8 "_law_label" := .of ψ
theorem nu:GI_ cu "_law_set" := by decide +kernel
theorem vJ:GI_ cu "int" := by decide +kernel
theorem Gy:GI_ cu "len" := by decide +kernel
theorem vI:GI_ cu "max" := by decide +kernel
theorem vH:GI_ cu "min" := by decide +kernel
theorem Gx:GI_ cu "set" := by decide +kernel
theorem yF:GI_ cu "sorted" := by decide +kernel
theorem Hi:Bn "_law_steps" := ⟨ψ,ψ⟩
theorem NT (hB:∀x:Str,x∈BLs->mg x=none) (CZSet:Cal P w K mg base "_law_set" 1 ["_law_left_here"] rQ) (F:Fun K "_law_steps" "_law_steps" cu f fd):dF P w K mg base CX0 2 f fd q7_ wW:=by
 refine F.okq jn (fun vs H Q E h=>?_) (fun cdv A outer s H vs Q E hr h=>?_)
 ·obtain⟨s,la,ok,ss,left,rfl,_⟩:=h;rfl
 obtain⟨s,la,ok,ss,left,rfl,hnw,ts,el,lf,h60,ll,q⟩:=h;refine⟨_,(aF (Cy (NX:=gm) (kX:=(aj cu).names) ["_law_k","_law_stretches_here"] [none,some 0] jO jn.nd rfl rfl ⟨rfl,ψ,ψ,ψ,ψ⟩ rfl (bY (ao iu)) (fun _ _ _ _ _=>(bR 0 (show BQ (["_law_k","_law_stretches_here"]:List Str) from by decide +kernel) rfl (C8 rfl))) (fun _ _ _ _ _=>fK) (fun _ _ _ _ _=>(aL aW (aL aW (bA 1) (bA 0) (fun _ _=>rfl)) au (fun _ _=>rfl))))
  (aF (bG qi jn.nd (bw CZSet (hr.mono δ) nu J6 (ak (ao iu) aA rfl) rfl rfl) rfl (.inl rfl))
  (aF (bG uI jn.nd (aM bH (aM fP (aL aW (aL aW (ao qj) (aL aW (ao iu) (sI mW au) (fun _ _=>rfl)) (fun _ _=>rfl)) au (fun _ _=>rfl)) (aL aW (aL aW (ao qj) (aL aW (ao iu) au (fun _ _=>rfl)) (fun _ _=>rfl)) au (fun _ _=>rfl))) au) rfl (.inl rfl))
  (aF (bG jN jn.nd (aM bH (aM eG (bN (ak (bQ (ak bD (ak (bN aA) aA rfl) rfl)) aA rfl)) (sO kW vJ (hB "int" uO) boot_int vf (ak (gn (cD hr.bO) (bW (qu rfl) vH (hB "min" uN) boot_min vd (ak (ao jO) aA rfl) rfl rfl) (bW (Bu rfl) vI (hB "max" Dj) boot_max Eb (ak (ao jO) aA rfl) rfl rfl) (aQ _)) aA rfl) rfl rfl)) (aM eG (bN (ak (bQ (ak bD (ak (bN aA) aA rfl) rfl)) aA rfl)) (sO kW vJ (hB "int" uO) boot_int vf (ak (gn Bd (ao uI) au (aQ _)) aA rfl) rfl rfl))) rfl (.inl rfl))
  (aF (gY B7 rfl (bY (ao iu)) (dY mq jn.nd (.inl rfl))
  (aF (dm (bx Bf (bW bM Gy (hB "len" d8) BH d9 (ak (ao iu) aA rfl) rfl rfl) au (aQ _)) (aF (dw (eV (ao jN) (bQ (ak bD (ak (bN (ak (aM fP (ao qi) (aM j7 au (ao mq))) aA rfl)) aA rfl) rfl)) rfl rfl rfl rfl rfl) rfl)
  (aK (dm (bx (cD hr.bO) (aL aW (aL aW (ao qj) (ao mq) (fun _ _=>rfl)) au (fun _ _=>rfl)) (aL aW (aL aW (ao qj) (ao mq) (fun _ _=>rfl)) au (fun _ _=>rfl)) (aQ _)) (aK (dw (eV (ao jN) (bQ (ak bD (ak (bN (ak (aM fP (ao qi) (aM j7 au (ao mq))) aA rfl)) aA rfl) rfl)) rfl rfl rfl rfl rfl) rfl)) cg))) cg)
  (aF (bG qg jn.nd (bw CZSet (hr.mono δ) nu J6 (ak (cJ (NX:=gm) (kX:=(aj cu).names) ["_law_one","_law_k"] [none,some 6] rfl rfl ⟨rfl,ψ,ψ,ψ,ψ⟩ rfl (bY (ao iu)) (fun _ _ _ _ _=>(bR 0 (show BQ (["_law_one","_law_k"]:List Str) from by decide +kernel) rfl (C8 rfl))) (fun _ _ _ _ _=>(pC (bx qK (bA 0) (bA 1) (aQ _)))) (fun _ _ _ _ _=>(bA 0))) aA rfl) rfl rfl) rfl (.inl rfl))
  (aK (dm (bx Bf (ao qg) au (aQ _)) (aK (dw (eV (ao jN) (bQ (ak bD (ak (bN (ak (ao qg) (ak (aM fP (ao qi) (ao qg)) aA rfl) rfl)) aA rfl) rfl)) rfl rfl rfl rfl rfl) rfl)) cg)))) (fun _=>rfl))
  (aF (gY B7 rfl (bY (KN rfl yF (hB "sorted" Bj) Gx (hB "set" T8) (ak (ao jO) aA rfl))) (dY Ob jn.nd (.inl rfl))
  (aK (dm (Cw (Cv (bx Bd (ao uI) au (aQ _)) (wB (bx qK (bW (qu rfl) vH (hB "min" uN) boot_min vd (ak (ao jO) aA rfl) rfl rfl) (bW (Bu rfl) vI (hB "max" Dj) boot_max Eb (ak (ao jO) aA rfl) rfl rfl) (aQ _))))) (aK (dw (eV (ao jN) (bQ (ak bD (ak (bN (ak (bw CZSet (hr.mono δ) nu J6 (ak (cJ (NX:=gm) (kX:=(aj cu).names) ["_law_k","_law_label","_law_stretches_here"] [none,some 8,some 0] rfl rfl ⟨rfl,ψ,ψ,ψ,ψ⟩ rfl (bY (ao iu)) (fun _ _ _ _ _=>(bR 0 (show BQ (["_law_k","_law_label","_law_stretches_here"]:List Str) from by decide +kernel) rfl (C8 rfl))) (fun _ _ _ _ _=>(pC (bx (pD hr.bO) (aL aW (aL aW (bA 2) (bA 0) (fun _ _=>rfl)) au (fun _ _=>rfl)) (bA 1) (aQ _)))) (fun _ _ _ _ _=>(bA 0))) aA rfl) rfl rfl) aA rfl)) aA rfl) rfl)) rfl rfl rfl rfl rfl) rfl)) cg)) (fun _=>rfl))
  (aK (aU (ao jN))))))))),?_⟩
 cases ts with
 | lst os es zs tss=>
  rename_i sa sxs;refine aO fun k hk=>?_;push_cast;refine cY fun R hR=>?_;push_cast [el];refine iB (lbl ss) (fun τ=>∃o0,τ=[o0,some (.ref sa)]) hR el ω ⟨_,rfl⟩ ?_ ?_
  ·rintro i k' τ acc Pn hk' ⟨o0,rfl⟩ h1;obtain⟨p1,x1,y1⟩:=tss.stN (lf.lt _ (A7 hk'));push_cast [es,x1,y1];exact h1 _ ⟨_,rfl⟩
  intro lb hlb;have s1:=aB (o:=HO.lst ((left.map (lbl ss)).map V.int)) hlb;have e1:upd H lb (HO.lst ((left.map (lbl ss)).map V.int)) lb=some (HO.lst ((left.map (lbl ss)).map V.int)):=aq;generalize upd H lb (HO.lst ((left.map (lbl ss)).map V.int))=H1 at s1 e1 |-;subst hk;refine aO fun k hk=>?_;push_cast;refine⟨la,left,rfl,s1 _ _ el,ω,fun k hk=>by have:=lf.lt k hk;omega,fun H2 s2=>?_⟩;push_cast;subst hk;have sH2:=s1.trans s2;have e2:=s2 _ _ e1;refine aO fun k hk=>?_;have el2:=sH2 _ _ el;have es2:=sH2 _ _ es;obtain⟨k1,z1,m1,a1⟩:=K6 lf.ne;obtain⟨k0,z0,m0,a0⟩:=K7 lf.ne;obtain⟨p1,x1,y1⟩:=(tss.same sH2).stN (lf.lt _ m1);obtain⟨p0,x0,y0⟩:=(tss.same sH2).stN (lf.lt _ m0);have spn:cG ss left=(bV ss k1).2.1-(bV ss k0).1+1:=by
   unfold cG;rw[z1,z0];rfl
  push_cast [el2,a1,a0,es2,x1,x0,y1,y0];rw[<- spn];subst hk;clear el2 es2 z1 z0 m1 m0 a1 a0 x1 x0 y1 y0 spn;refine aO fun k hk=>?_;push_cast [e2];have hmp:∀{P:Prop},(left.map (lbl ss)=[]->P):=fun {P} z=>absurd (Ic.mp z) lf.ne;refine⟨aN δ,fun p hp=>⟨aN δ,fun p1 hp1=>⟨aN δ,fun p2 hp2=>?_⟩⟩⟩;have sa1:=aB (o:=HO.lst []) hp;have sa2:=aB (o:=HO.tup [V.str "pick",V.ref p]) hp1;have sa3:=aB (o:=HO.lst [V.ref p1]) hp2;have ea3:upd (upd (upd H2 p (HO.lst [])) p1 (HO.tup [V.str "pick",V.ref p])) p2 (HO.lst [V.ref p1]) p2=some (HO.lst [V.ref p1]):=aq;have tp:∀l,aG ok (upd (upd (upd H2 p (HO.lst [])) p1 (HO.tup [V.str "pick",V.ref p])) p2 (HO.lst [V.ref p1])) (.ref p1) (stW ss left (.pick l)):=fun l=>(aG.tup (hnw.new ((sH2.trans sa1).none hp1)) aq (by show 2<=1000000;decide) (.cons (.str _) (.cons ((aG.lst (hnw.new (sH2.none hp)) aq (by show 0<=1000000;decide) .nil:aG ok (upd H2 p (HO.lst [])) (.ref p) (.list [])).same sa2) .nil))).same sa3;have sH3:=sH2.trans (sa1.trans (sa2.trans sa3));have e3:=(sa1.trans (sa2.trans sa3)) _ _ e2;generalize upd (upd (upd H2 p (HO.lst [])) p1 (HO.tup [V.str "pick",V.ref p])) p2 (HO.lst [V.ref p1])=H3 at sH3 e3 ea3 tp |-;clear sa1 sa2 sa3 hp hp1 hp2;refine⟨_,.inl e3,hmp,fun mn a1 a2=>⟨_,.inl e3,hmp,fun mx a3 a4=>?_⟩⟩;have mm:MinMax ss left mn mx:=⟨a1,a2,a3,a4⟩;push_cast [ea3];have key:∀{c:Prop} [Decidable c],(0:Int)<=(if c then 1 else 0)/\(if c then (1:Int) else 0)<=1:=by intro c _;split <;> decide
  have rep:∀{c:Prop} [Decidable c] (v:V),(B8 (if c then (1:Int) else 0).toNat [v]).flatten=if c then [v] else []:=by intro c _ v;split <;> rfl
  have k1:=key (c:=mn=mx);have k2:=key (c:=cG ss left<=200);rw[rep];refine⟨ω,ω,aN ω,fun q1 hq1=>⟨aN δ,fun q2 hq2=>⟨aN δ,fun q3 hq3=>⟨aN δ,fun q4 hq4=>?_⟩⟩⟩⟩;have eq1:upd H3 q1 (HO.lst (if mn=mx then [V.ref p1] else [])) q1=some (HO.lst (if mn=mx then [V.ref p1] else [])):=aq;have sb1:=aB (o:=HO.lst (if mn=mx then [V.ref p1] else [])) hq1;generalize upd H3 q1 (HO.lst (if mn=mx then [V.ref p1] else []))=H4 at sb1 eq1 hq2 hq3 hq4 |-;have sb2:=aB (o:=HO.lst []) hq2;have sb3:=aB (o:=HO.tup [V.str "table",V.ref q2]) hq3;have sb4:=aB (o:=HO.lst [V.ref q3]) hq4;have tt:aG ok (upd (upd (upd H4 q2 (HO.lst [])) q3 (HO.tup [V.str "table",V.ref q2])) q4 (HO.lst [V.ref q3])) (.ref q3) (stW ss left .tab):=(aG.tup (hnw.new (((sH3.trans sb1).trans sb2).none hq3)) aq (by show 2<=1000000;decide) (.cons (.str _) (.cons ((aG.lst (hnw.new ((sH3.trans sb1).none hq2)) aq (by show 0<=1000000;decide) .nil:aG ok (upd H4 q2 (HO.lst [])) (.ref q2) (.list [])).same sb3) .nil))).same sb4;have eq4:upd (upd (upd H4 q2 (HO.lst [])) q3 (HO.tup [V.str "table",V.ref q2])) q4 (HO.lst [V.ref q3]) q4=some (HO.lst [V.ref q3]):=aq;have sb5:=sb2.trans (sb3.trans sb4);generalize upd (upd (upd H4 q2 (HO.lst [])) q3 (HO.tup [V.str "table",V.ref q2])) q4 (HO.lst [V.ref q3])=H5 at sb5 tt eq4 |-;have eq1':=sb5 _ _ eq1;push_cast [eq4];rw[rep];refine⟨ω,ω,aN ω,fun q5 hq5=>?_⟩;have sb6:=aB (o:=HO.lst (if cG ss left<=200 then [V.ref q3] else [])) hq5;have eq5:upd H5 q5 (HO.lst (if cG ss left<=200 then [V.ref q3] else [])) q5=_:=aq;have eq6:=sb6 _ _ eq1';have tt6:=tt.same sb6;have sH6:=(sH3.trans sb1).trans (sb5.trans sb6);have tp6:=fun l=>(tp l).same (sb1.trans (sb5.trans sb6));have eb6:=(sb1.trans (sb5.trans sb6)) _ _ e3;generalize upd H5 q5 (HO.lst (if cG ss left<=200 then [V.ref q3] else []))=H6 at sH6 eq5 eq6 tt6 tp6 eb6 |-;push_cast [eq5,eq6];have t0:aH ok H6 ((if mn=mx then [V.ref p1] else [])++if cG ss left<=200 then [V.ref q3] else []) ((vW mn mx++wyT ss left).map (stW ss left)):=by
   rw[A6];refine aH.append ?_ ?_
   ·unfold vW;split
    ·exact .cons (tp6 _) .nil
    exact .nil
   unfold wyT;split
   ·exact .cons tt6 .nil
   exact .nil
  have l0:(vW mn mx++wyT ss left).length<=2:=by
   rw[AH];have h1:(vW mn mx).length<=1:=by unfold vW;split <;> simp
   have h2:(wyT ss left).length<=1:=by unfold wyT;split <;> simp
   omega
  have lx0:=t0.length;rw[AE] at lx0;rw[<- AH];generalize ((if mn=mx then [V.ref p1] else [])++if cG ss left<=200 then [V.ref q3] else [])=xs0 at t0 lx0 |-;refine⟨aN ω,fun r hr0=>?_⟩;clear sb1 sb5 sb6 eq1 eq1' eq4 eq5 eq6 tt6 tp6 tt tp e3 ea3 e2 e1 a1 a2 a3 a4 k1 k2 sb2 sb3 sb4 hq1 hq2 hq3 hq4 hq5 s1 s2 sH2 sH3 hlb;have hrn:H r=none:=sH6.none hr0;have hbr:lb≠r:=aD eb6 hr0;subst hk;obtain⟨ok2,hok2⟩:∃ok2:Addr->Prop,ok2=fun a=>ok a/\a≠r:=⟨_,rfl⟩;have ok2r:∀a,ok2 a->a≠r:=fun a h=>by rw[hok2] at h;exact h.2
  have nwk:∀{H':Hp}{xs:List V},Same H H'->H' r=some (.lst xs)->cQ ok2 H':=fun {H' xs} sH er H3 q s' hq=>by
   rw[hok2];exact⟨hnw H3 q (sH.trans s') hq,(aD (s' _ _ er) hq).symm⟩
  obtain⟨So,hSo⟩:∃So:List Wy->Hp->Prop,So=fun W H'=>∃xs,Same H H'/\H' lb=some (HO.lst ((left.map (lbl ss)).map V.int))/\H' r=some (.lst xs)/\xs.length=W.length/\aH ok2 H' xs (W.map (stW ss left)):=⟨_,rfl⟩;have so6:So (vW mn mx++wyT ss left) (upd H6 r (.lst xs0)):=by
   rw[hSo];exact⟨xs0,sH6.trans (aB hr0),(aJ hbr).trans eb6,aq,lx0,t0.keep fun a o h e=>⟨by rw[hok2];exact⟨h,aD e hr0⟩,by rw[aJ (aD e hr0)];exact e⟩⟩
  generalize hW0:vW mn mx++wyT ss left=W0 at *;generalize upd H6 r (.lst xs0)=H7 at so6 |-
  -- one by one
  have put:∀{W:List Wy}{σ:L2.St}{te:TE}{D:Ends}{H8:Hp}(wy:Wy),So W H8->W.length<=300->σ[5]?=some (some (.ref r))->(∀xs,Same H H8->H8 r=some (.lst xs)->Gv ok2 te σ H8 (stW ss left wy))->(∀H9,So (W++[wy]) H9->cB r H8 H9->D.nx σ H9)->vq (wV (tV 5) te) D σ H8:=by
   intro W σ te D H8 wy so hl hσ hg hn;rw[hSo] at so;obtain⟨xs,s8,eb8,er8,lx8,t8⟩:=so;refine rO (ok:=ok2) hσ er8 ω ok2r t8 (hg xs s8 er8) fun v H9 s9 t9=>hn _ ?_ fun b o n h=>by rw[aJ n];exact s9 _ _ h
   rw[hSo];exact⟨_,dR (s8.trans s9) hrn,(aJ hbr).trans (s9 _ _ eb8),aq,by rw[AH,AH,lx8];rfl,by rw[A6];exact t9⟩
  have so_el:∀{W H8},So W H8->Same H H8:=fun h=>by rw[hSo] at h;obtain⟨_,s,_⟩:=h;exact s
  have so_st:∀{W H8 H9},So W H8->Same H8 H9->So W H9:=fun h s=>by
   rw[hSo] at h |-;obtain⟨xs,s8,eb8,er8,lx8,t8⟩:=h;exact⟨xs,s8.trans s,s _ _ eb8,s _ _ er8,lx8,t8.same s⟩
  refine aO fun k hk=>?_;refine kJ fun R hR=>?_;have el7:=so_el so6 _ _ el;push_cast [iH,jF,el7,jE];obtain⟨Pv,hPv⟩:∃Pv:Nat->L2.St->Hp->Prop,Pv=fun(i:Nat) σ H'=>∃(o6 o7:Option V),So (W0++(left.take i).flatMap (oJ ss left)) H'/\σ=[some (.ref sa),some (.ref la),some (.ref lb),some (.int ((aY left:Nat):Int)),some (.int (cG ss left)),some (.ref r),o6,o7,none]:=⟨_,rfl⟩;refine tX hR (xs:=nv left) Pv (by rw[hPv];exact⟨_,_,by rw[take_zero,flatMap_nil,CB];exact so6,rfl⟩) ?_ ?_ ?_
  ·intro i σ H3 _ pv;rw[hPv] at pv;obtain⟨_,_,so,_⟩:=pv;exact SqL.of (so_el so _ _ el)
  ·intro i x σ H3 hx pv;rw[hPv] at pv;obtain⟨o6,o7,so3,rfl⟩:=pv;obtain⟨k',hk',rfl⟩:∃k':Nat,left[i]?=some k'/\x=.int (k':Int):=by
    unfold nv at hx;rw[AU] at hx;obtain⟨k',h1,h2⟩:=BE.mp hx;exact⟨k',h1,h2.symm⟩
   have mk:=A7 hk';have hil:i<left.length:=(AO.mp hk').1;have hwl:=qp ss left (left.take i);rw[ET] at hwl;have fm:(left.take (i+1)).flatMap (oJ ss left)=(left.take i).flatMap (oJ ss left)++oJ ss left k':=by
    rw[take_snoc hk',List.flatMap_append,HH,flatMap_nil,CB]
   have hlk:=Gr ss left k';have l1:(W0++(left.take i).flatMap (oJ ss left)).length<=200:=by rw[AH];omega
   have sub:∀{H8:Hp},Gv ok2 (tOp (rI0 fun i j=>V.int (i-j)) (tV 3) (tOp (rI YL fun i j=>V.int (i*2^j.toNat)) (tC (V.int 1)) (tV 6))) [some (.ref sa),some (.ref la),some (.ref lb),some (.int ((aY left:Nat):Int)),some (.int (cG ss left)),some (.ref r),some (.int (k':Int)),o7,none] H8 (ptD (left.filter (·≠k'))):=by
    intro H8 H9 s9 Q9 q9;push_cast;refine⟨⟨ω,by have:=lf.lt _ mk;omega,δ⟩,?_⟩;rw[EY lf.up mk];exact q9 _ _ (Same.refl _) (.int _)
   show Ig _ _ _ _ _;simp only[GV,GU];refine aO fun k2 hk2=>?_;have aft:∀(W1:List Wy) H8,So (W0++(left.take i).flatMap (oJ ss left)++W1) H8->W1.length<=2->W1++(if left.filter (· < k')=[] then [] else [.low k'])=oJ ss left k'->k2 [some (.ref sa),some (.ref la),some (.ref lb),some (.int ((aY left:Nat):Int)),some (.int (cG ss left)),some (.ref r),some (.int (k':Int)),o7,none] H8:=by
    intro W1 H8 so8 hl8 hW1;subst hk2;refine aO fun k2 hk2=>?_;have el8:=so_el so8 _ _ el;push_cast;refine cY fun R2 hR2=>?_;push_cast [el8];refine je (fun j=>decide (j<k')) (fun τ=>∃o0,τ=[o0,some (.int (k':Int))]) hR2 el8 ω ⟨_,rfl⟩ ?_ ?_
    ·rintro i j τ acc Pn hj ⟨o0,rfl⟩ h1 h2;push_cast;by_cases c:j<k'
     ·rw[if_pos ω];exact h1 (decide_eq_true c) _ ⟨_,rfl⟩
     rw[if_neg ω];exact h2 (decide_eq_false c) _ ⟨_,rfl⟩
    intro d hd;refine⟨d,_,rfl,aq,BG (Cf ..) ω,fun k hk=>by have:=lf.lt k (DB.mp hk).1;omega,fun H9 s9=>?_⟩;have so9:=so_st so8 ((aB hd).trans s9);push_cast;subst hk2;refine gM fun kt ke hkt hke=>?_;push_cast;by_cases c:left.filter (· < k')=[]
    ·rw[if_pos c,CB] at hW1;have z:aY (left.filter (· < k'))=0:=by rw[c];rfl
     rw[if_neg ω];subst hke;show Pv _ _ _;rw[hPv];exact⟨_,_,by rw[fm,<- hW1,<- Dx];exact so9,rfl⟩
    rw[if_neg c] at hW1;have z:=oW c;rw[if_pos ω];subst hkt;refine put (.low k') so9 (by rw[AH];omega) rfl (fun xs s8 er8=>gq (nwk s8 er8) (aR lM (aR (lN (nwk s8 er8) (aR (gvV rfl (.int _)) (aR (Us (gvV rfl (.int _)) (gvV rfl (.int _)) (fun H Q q=>⟨_,_,rfl,rfl,by show Q (V.int (_-_)) H;rw[w6 lf.up];exact q⟩)) b8)) (by show 2<=1000000;decide)) b8)) (by show 2<=1000000;decide)) fun H10 so10 sx10=>?_;show Pv _ _ _;rw[hPv];exact⟨_,_,by rw[fm,<- hW1,<- Dx,<- Dx];exact so10,rfl⟩
   refine gM fun kt ke hkt hke=>?_;have el3:=so_el so3 _ _ el;push_cast [el3];rw[dZ];unfold oJ at aft;by_cases c1:1<left.length
   ·rw[if_pos ω];rw[if_pos c1] at aft;subst hkt;refine aO fun k3 hk3=>?_;refine put (.wit k') so3 ω rfl (fun xs s8 er8=>gq (nwk s8 er8) (aR lM (aR (lN (nwk s8 er8) (aR sub b8) (by show 1<=1000000;decide)) b8)) (by show 2<=1000000;decide)) fun H9 so9 _=>?_;show k3 _ _;subst hk3;refine gM fun kt ke hkt hke=>?_;obtain⟨pk,xk,yk⟩:=(tss.same (so_el so9)).stN (lf.lt _ mk);have es9:=so_el so9 _ _ es;push_cast [es9,xk,yk];by_cases c2:(bV ss k').1=(bV ss k').2.1
    ·rw[if_pos c2];rw[if_pos c2] at aft;subst hkt;refine put (.one k') so9 (by rw[AH,A8];omega) rfl (fun xs s8 er8=>gq (nwk s8 er8) (aR lM (aR (lN (nwk s8 er8) (aR sub b8) (by show 1<=1000000;decide)) b8)) (by show 2<=1000000;decide)) fun H10 so10 sx10=>?_;exact aft _ _ (by rw[Dx] at so10;exact so10) (by simp) rfl
    rw[if_neg c2];rw[if_neg c2] at aft;subst hke;exact aft _ _ so9 (by simp) rfl
   rw[if_neg ω];rw[if_neg c1] at aft;subst hke;exact aft [] _ (by rw[CB];exact so3) (by simp) rfl
  intro σ H3 pv;rw[hPv] at pv;obtain⟨o6,o7,so3,rfl⟩:=pv;rw[dZ,ED] at so3;show k _ _;subst hk;refine aO fun k hk=>?_;refine kJ fun R hR=>?_;push_cast [tSS];have eb3:H3 lb=some (HO.lst ((left.map (lbl ss)).map V.int)):=by
   rw[hSo] at so3;obtain⟨_,_,h,_⟩:=so3;exact h
  refine⟨left.map (lbl ss),SqL.of eb3,by rw[AE];omega,fun p L hp perm _=>?_⟩;have hLl:L.length<=left.length:=by
   have h1:=perm.length_eq;have h2:=SRT.wJ (left.map (lbl ss));rw[AE] at h2;omega
  have hL:pY ss left L:=⟨perm.nodup_iff.mpr (SRT.u0 _),fun l=>by
   rw[perm.mem_iff,SRT.Ml,DM]⟩
  have so4:=so_st so3 (aB (o:=HO.lst (L.map V.int)) hp);have ep4:upd H3 p (HO.lst (L.map V.int)) p=some (HO.lst (L.map V.int)):=aq;have hpr:p≠r:=fun z=>by
   rw[hSo] at so3;obtain⟨xs,_,_,h,_⟩:=so3;rw[z,h] at hp;cases hp
  generalize upd H3 p (HO.lst (L.map V.int))=H4 at so4 ep4 |-;have hw4:=qp ss left left;have hw5:=Ud (mn:=mn) (mx:=mx) (Lx hL lf) hLl lf;have hwm:=T6 hL lf mm;unfold Ue at hw5 hwm;rw[hW0] at hw5 hwm;generalize hW3:W0++left.flatMap (oJ ss left)=W3 at *;have l3:W3.length<=182:=by rw[<- hW3,AH];omega
  obtain⟨cM,hcM⟩:∃c:Bool,c=decide (cG ss left<=64/\mn<mx):=⟨_,rfl⟩;have eM:Jy ss left L mn mx=if cM=true then L.map Wy.msk else []:=by
   unfold Jy;by_cases c:cG ss left<=64/\mn<mx
   ·rw[hcM,if_pos c,decide_eq_true c,if_pos rfl]
   rw[hcM,if_neg c,decide_eq_false c,if_neg δ]
  obtain⟨Pw,hPw⟩:∃Pv:Nat->L2.St->Hp->Prop,Pv=fun(i:Nat) σ H'=>∃(o6 o8:Option V),So (W3++if cM=true then (L.take i).map Wy.msk else []) H'/\H' p=some (HO.lst (L.map V.int))/\σ=[some (.ref sa),some (.ref la),some (.ref lb),some (.int ((aY left:Nat):Int)),some (.int (cG ss left)),some (.ref r),o6,o7,o8]:=⟨_,rfl⟩;refine tX hR (xs:=L.map V.int) Pw (by rw[hPw];exact⟨_,_,by rw[take_zero,He,ite_self,CB];exact so4,ep4,rfl⟩) ?_ ?_ ?_
  ·intro i σ H5 _ pv;rw[hPw] at pv;obtain⟨_,_,_,ep,_⟩:=pv;exact SqL.of ep
  ·intro i x σ H5 hx pv;rw[hPw] at pv;obtain⟨o6,o8,so5,ep5,rfl⟩:=pv;rw[AU] at hx;obtain⟨l,hl,rfl⟩:=BE.mp hx;have hil:i<L.length:=(AO.mp hl).1;show Ij _ _ _ _ _ _;simp only[GV,GU];refine gM fun kt ke hkt hke=>?_;push_cast;have eb5:H5 lb=some (HO.lst ((left.map (lbl ss)).map V.int)):=by
    rw[hSo] at so5;obtain⟨_,_,h,_⟩:=so5;exact h
   have no:cM=false->Pw (i+1) [some (.ref sa),some (.ref la),some (.ref lb),some (.int ((aY left:Nat):Int)),some (.int (cG ss left)),some (.ref r),o6,o7,some (.int l)] H5:=fun z=>by
    rw[hPw];rw[if_neg (by rw[z];decide)] at so5;exact⟨_,_,by rw[if_neg (by rw[z];decide)];exact so5,ep5,rfl⟩
   by_cases c1:cG ss left<=64
   ·rw[if_pos c1];refine⟨_,.inl eb5,hmp,fun mn' a1 a2=>⟨_,.inl eb5,hmp,fun mx' a3 a4=>?_⟩⟩;have e1:mn'=mn:=Int.le_antisymm (a2 _ mm.a) (mm.b _ a1);have e2:mx'=mx:=Int.le_antisymm (mm.d _ a3) (a4 _ mm.c);subst e1 e2;by_cases c2:mn'<mx'
    ·rw[if_pos c2];have hc:cM=true:=by rw[hcM];exact decide_eq_true ⟨c1,c2⟩
     rw[if_pos hc] at so5;subst hkt;refine put (.msk l) so5 (by rw[AH,AE,ET];omega) rfl (fun xs s8 er8=>gq (nwk s8 er8) (aR lM (aR (lN (nwk s8 er8) (aR ?_ b8) (by show 1<=1000000;decide)) b8)) (by show 2<=1000000;decide)) fun H10 so10 sx10=>?_
     ·intro H7 s7 Q7 q7;have sH7:=s8.trans s7;have el7:=sH7 _ _ el;have es7:=sH7 _ _ es;push_cast;refine cY fun R2 hR2=>?_;push_cast [el7];refine je (fun k=>(bV ss k).2.2≠l) (fun τ=>∃o0,τ=[o0,some (.int l),some (.ref sa)]) hR2 el7 ω ⟨_,rfl⟩ ?_ ?_
      ·rintro i k' τ acc Pn hk' ⟨o0,rfl⟩ h1 h2;obtain⟨p1,x1,y1⟩:=(tss.same sH7).stN (lf.lt _ (A7 hk'));push_cast [es7,x1,y1];by_cases c:(bV ss k').2.2=l
       ·rw[decide_eq_true c,if_neg δ];exact h2 (by simpa using c) _ ⟨_,rfl⟩
       rw[decide_eq_false c,if_pos (show(!false)=true from rfl)];exact h1 (by simpa using c) _ ⟨_,rfl⟩
      intro d hd;refine⟨d,_,rfl,aq,BG (Cf ..) ω,fun k hk=>by have:=lf.lt k (DB.mp hk).1;omega,fun H8 s8=>q7 _ H8 ((aB hd).trans s8) (.int _)⟩
     show Pw _ _ _;rw[hPw];exact⟨_,_,by rw[if_pos hc,take_snoc hl,A6,<- Dx];exact so10,sx10 _ _ hpr ep5,rfl⟩
    rw[if_neg c2];subst hke;exact no (by rw[hcM];exact decide_eq_false fun z=>c2 z.2)
   rw[if_neg c1];subst hke;exact no (by rw[hcM];exact decide_eq_false fun z=>c1 z.1)
  intro σ H5 pv;rw[hPw] at pv;obtain⟨o6',o8,so5,ep5,rfl⟩:=pv;rw[AE,ED,<- eM] at so5;show k _ _;subst hk;push_cast;rw[hSo] at so5;obtain⟨xs,s5,eb5,er5,lx5,t5⟩:=so5;exact q r xs _ H5 s5 hrn er5 hwm (t5.keep fun a o h e=>⟨by rw[hok2] at h;exact h.1,e⟩) (by rw[lx5];exact hw5)
noncomputable abbrev vN:List Str:=["_law_stretches_here","_law_scale","_law_left_here","_law_word","_law_words","_law_span"]
noncomputable abbrev jZ:Stmt:=top 41
theorem Ip:bh vN q3_ (aj jZ):=⟨rfl,rfl,rfl,ψ,rfl,ψ,ψ⟩
theorem Lb:NM_ vN jZ 0 "_law_stretches_here" := .of ψ
theorem wF:NM_ vN jZ 1 "_law_scale" := .of ψ
theorem CT:NM_ vN jZ 2 "_law_left_here" := .of ψ
theorem wD:NM_ vN jZ 3 "_law_word" := .of ψ
theorem CQ:NM_ vN jZ 4 "_law_words" := .of ψ
theorem La:NM_ vN jZ 5 "_law_span" := .of ψ
theorem O1:GI_ jZ "int" := by decide +kernel
theorem OJ:GI_ jZ "sum" := by decide +kernel
theorem Vd:Bn "_law_own" := ⟨ψ,ψ⟩
theorem Xv (hB:∀x:Str,x∈BLs->mg x=none) (F:Fun K "_law_own" "_law_own" jZ f fd):dF P w K mg base CX0 1 f fd q3_ (Im vg):=by
 refine F.okq Ip (fun vs H Q E h=>?_) (fun cdv A outer s H vs Q E hr h=>?_)
 ·obtain⟨s,sc,la,ok,f,ss,left,w,rfl,_⟩:=h;rfl
 obtain⟨s,sc,la,ok,f',ss,left,wy,rfl,ts,⟨wa,z,ws,zs,rfl,esc,ew,hwl,ez,h5,few⟩,el,lf,h60,ll,q⟩:=h;refine⟨_,(aF (bG CQ Ip.nd (bN (ak bD (ak bD (ak bD (ak bD (ak bD aA rfl) rfl) rfl) rfl) rfl)) rfl (.inl rfl))
  (aF (dm (bx (cD hr.bO) (ao wD) bD (aQ _)) (aK (aU au)) cg)
  (aF (dm (bx (cD hr.bO) (aL aW (ao wF) au (fun _ _=>rfl)) bD (aQ _)) (aK (aU (aM eG (aL aW (aL aW (ao wF) au (fun _ _=>rfl)) (KQ hr.un1 (ao CQ) (ao wD)) (fun _ _=>rfl)) (bW (jf rfl) OJ (hB "sum" rB) KL rM (ak (cJ (NX:=vN) (kX:=(aj jZ).names) ["_law_k","_law_scale"] [none,some 1] rfl rfl ⟨rfl,ψ,ψ,ψ,ψ⟩ rfl (bY (ao CT)) (fun _ _ _ _ _=>(bR 0 (show BQ (["_law_k","_law_scale"]:List Str) from by decide +kernel) rfl (C8 rfl))) (fun _ _ _ _ _=>fK) (fun _ _ _ _ _=>(aL aW (aL aW (bA 1) au (fun _ _=>rfl)) (bA 0) (fun _ _=>rfl)))) aA rfl) rfl rfl)))) cg)
  (aF (bG La Ip.nd (aM bH (aM fP (aL aW (aL aW (ao Lb) (aL aW (ao CT) (sI mW au) (fun _ _=>rfl)) (fun _ _=>rfl)) au (fun _ _=>rfl)) (aL aW (aL aW (ao Lb) (aL aW (ao CT) au (fun _ _=>rfl)) (fun _ _=>rfl)) au (fun _ _=>rfl))) au) rfl (.inl rfl))
  (aK (aU (aM bH (aL aW (aL aW (ao wF) au (fun _ _=>rfl)) (KQ hr.un1 (ao CQ) (ao wD)) (fun _ _=>rfl)) (aM eG (aM eG (aL aW (aL aW (ao wF) au (fun _ _=>rfl)) au (fun _ _=>rfl)) (ao La)) (sO kW O1 (hB "int" uO) boot_int vf (ak (gn (cD hr.bO) (ao wD) bD (aQ _)) aA rfl) rfl rfl))))))))),?_⟩
 refine aO fun k hk=>?_;push_cast;refine⟨aN δ,fun d hd=>?_⟩;have s1:=aB (o:=HO.lst (gZ.map V.str)) hd;have e1:upd H d (HO.lst (gZ.map V.str)) d=some (HO.lst (gZ.map V.str)):=aq;change k _ (upd H d (HO.lst (gZ.map V.str)));generalize upd H d (HO.lst (gZ.map V.str))=H1 at s1 e1 |-;subst hk;refine aO fun k hk=>?_;refine gM fun kt ke hkt hke=>?_;push_cast;by_cases c:wH (gW wy)=true
 ·have e:gW wy=.pick 0\/∃l,gW wy=.pick l:=by
   cases wy with
   | pick l=>exact .inr ⟨l,rfl⟩
   | _=>cases c
  obtain⟨l,e⟩:∃l,gW wy=.pick l:=e.elim (fun z=>⟨0,z⟩) id;rw[e] at q |-;rw[if_pos (show jB (Pl.pick l) = "pick" from rfl)];subst hkt;push_cast;exact q _ s1
 replace c:wH (gW wy)=false:=Bool.eq_false_iff.mpr c;have hne:¬jB (gW wy) = "pick" := by
  cases wy with
  | pick l=>cases c
  | tab=>exact(by decide +kernel:("table" : Str) ≠ "pick")
  | msk l=>exact(by decide +kernel:("mask" : Str) ≠ "pick")
  | one l=>exact(by decide +kernel:("is" : Str) ≠ "pick")
  | wit l=>exact(by decide +kernel:("within" : Str) ≠ "pick")
  | low l=>exact(by decide +kernel:("below" : Str) ≠ "pick")
 rw[if_neg hne];subst hke;show k _ _;subst hk;refine aO fun k hk=>?_;refine gM fun kt ke hkt hke=>?_;have esc1:=s1 _ _ esc;push_cast [esc1];subst hkt;have ez1:=s1 _ _ ez;have el1:=s1 _ _ el;have ew1:=s1 _ _ ew;push_cast [esc1,ez1,e1,Qy];have hix:vY (gW wy)<5:=by cases wy <;> (simp only[gW,mkP,vY];omega)
 have hat:=Ej (zs:=zs) (i:=vY (gW wy)) ω;refine⟨gZ,true,SqL.of e1,SqL.of e1,vY (gW wy),JX c,?_⟩;push_cast [hat];refine cY fun R2 hR2=>?_;push_cast [el1];refine iB (fun k=>ws.getD k 0) (fun τ=>∃o0,τ=[o0,some (.ref sc)]) hR2 el1 ω ⟨_,rfl⟩ ?_ ?_
 ·rintro i k' τ acc Pn hk' ⟨o0,rfl⟩ h1;have hwk:=Ej (zs:=ws) (i:=k') (by rw[hwl];exact lf.lt _ (A7 hk'));push_cast [esc1,ew1,hwk];exact h1 _ ⟨_,rfl⟩
 intro d2 hd2;have s3:=aB (o:=HO.lst ((left.map fun k=>ws.getD k 0).map V.int)) hd2;have e3:upd H1 d2 (HO.lst ((left.map fun k=>ws.getD k 0).map V.int)) d2=_:=aq;generalize upd H1 d2 (HO.lst ((left.map fun k=>ws.getD k 0).map V.int))=H3 at s3 e3 |-;push_cast [e3];refine⟨_,rfl,?_⟩;have hq:=q _ (s1.trans s3);rw[Jm c] at hq;have hf:=few.at (vY (gW wy));exact⟨.inl hf,hq⟩
noncomputable abbrev kZ:List Str:=["_law_stretches_here","_law_scale","_law_many","_law_best_here","_law_number","_law_left_here","_law_some","_law_word","_law_sets"]
noncomputable abbrev dW:Stmt:=top 42
theorem mZ:bh kZ q10_ (aj dW):=⟨rfl,rfl,rfl,ψ,rfl,ψ,ψ⟩
theorem ye:NM_ kZ dW 0 "_law_stretches_here" := .of ψ
theorem TF:NM_ kZ dW 1 "_law_scale" := .of ψ
theorem yd:NM_ kZ dW 2 "_law_many" := .of ψ
theorem yc:NM_ kZ dW 3 "_law_best_here" := .of ψ
theorem Gj:NM_ kZ dW 4 "_law_number" := .of ψ
theorem Gi:NM_ kZ dW 5 "_law_left_here" := .of ψ
theorem Gh:NM_ kZ dW 6 "_law_some" := .of ψ
theorem Gg:NM_ kZ dW 7 "_law_word" := .of ψ
theorem Gf:NM_ kZ dW 8 "_law_sets" := .of ψ
theorem Dy:GI_ dW "_law_left" := by decide +kernel
theorem GD:GI_ dW "_law_own" := by decide +kernel
theorem zU:GI_ dW "_law_steps" := by decide +kernel
theorem JQ:GI_ dW "len" := by decide +kernel
theorem JN:GI_ dW "min" := by decide +kernel
theorem Dw:GI_ dW "range" := by decide +kernel
theorem JM:GI_ dW "sum" := by decide +kernel
theorem Yy:Bn "_law_best" := ⟨ψ,ψ⟩
theorem SN {Sc:ScP}(hSc:Ke Sc) {n:Nat}(hn:n<=12) (hB:∀x:Str,x∈BLs->mg x=none) (CZLeft:Cal P w K mg base "_law_left" 1 q11_ (wA n)) (CZSteps:Cal P w K mg base "_law_steps" 2 q7_ wW) (CZOwn:Cal P w K mg base "_law_own" 1 q3_ (Im Sc)) (F:Fun K "_law_best" "_law_best" dW f fd):dF P w K mg base CX0 3 f fd q10_ (Io Sc n):=by
 refine F.okq mZ (fun vs H Q E h=>?_) (fun cdv A outer s H vs Q E hr h=>?_)
 ·obtain⟨s,sc,ok,f,ss,rfl,_⟩:=h;rfl
 obtain⟨s,sc,ok,f',ss,rfl,hnw,ts,hsn,hsc,q⟩:=h;refine⟨_,(aF (bG yd mZ.nd (bW bM JQ (hB "len" d8) BH d9 (ak (ao ye) aA rfl) rfl rfl) rfl (.inl rfl))
  (aF (bG yc mZ.nd (bN (ak au aA rfl)) rfl (.inl rfl))
  (aF (gY B7 rfl (Az Dw (hB "range" fV) (ak au (ak (aM j7 au (ao yd)) aA rfl) rfl) rfl rfl) (dY Gj mZ.nd (.inl rfl))
  (aF (RK (i:=5) (j:=6) rfl mZ.nd rfl rfl δ rfl rfl (ak (bw CZLeft (hr.mono δ) Dy Mv (ak (ao Gj) (ak (ao yd) aA rfl) rfl) rfl rfl) (ak (bN aA) aA rfl) rfl) (by rfl))
  (aF (gY B7 rfl (bY (bw CZSteps (hr.mono δ) zU Hi (ak (ao ye) (ak (ao Gi) aA rfl) rfl) rfl rfl)) (jy (n:=2) rfl (bL (dY Gg mZ.nd (.inl rfl)) (bL (dY Gf mZ.nd (.inl rfl)) gP rfl) rfl) rfl rfl)
  (aK (dw (eV (ao Gh) (aM bH (bw CZOwn (hr.mono δ) GD Vd (ak (ao ye) (ak (ao TF) (ak (ao Gi) (ak (ao Gg) aA rfl) rfl) rfl) rfl) rfl rfl) (bW (jf rfl) JM (hB "sum" rB) KL rM (ak (cJ (NX:=kZ) (kX:=(aj dW).names) ["_law_one","_law_best_here"] [none,some 3] rfl rfl ⟨rfl,ψ,ψ,ψ,ψ⟩ rfl (bY (ao Gf)) (fun _ _ _ _ _=>(bR 0 (show BQ (["_law_one","_law_best_here"]:List Str) from by decide +kernel) rfl (C8 rfl))) (fun _ _ _ _ _=>fK) (fun _ _ _ _ _=>(aL aW (bA 1) (bA 0) (fun _ _=>rfl)))) aA rfl) rfl rfl)) rfl rfl rfl rfl rfl) rfl)) (fun _=>rfl))
  (aK (dw (eV (ao yc) (bW (qu rfl) JN (hB "min" uN) boot_min vd (ak (ao Gh) aA rfl) rfl rfl) rfl rfl rfl rfl rfl) rfl)))) (fun _=>rfl))
  (aK (aU (ao yc)))))),?_⟩
 have p2:2^n<=4096:=BG (EF δ hn) δ;have p1:=ES n;have ts0:=ts;cases ts with
 | lst os es zs tss=>
  rename_i sa sxs;have hsl:=tss.length;rw[AE,hsn] at hsl;refine aO fun k hk=>?_;push_cast [es];subst hk;refine aO fun k hk=>?_;push_cast;refine⟨aN δ,fun r hr0=>?_⟩;have s1:=aB (o:=HO.lst [V.int 0]) hr0;have er1:upd H r (HO.lst [V.int 0]) r=_:=aq;generalize upd H r (HO.lst [V.int 0])=H1 at s1 er1 |-;subst hk;refine aO fun k hk=>?_;refine kJ fun R hR=>?_;push_cast [LK];rw[hsl,Jn,B6,show((2:Int)^n)=((2^n:Nat):Int) by rw[FI];rfl];generalize hm:2^n=m at p1 p2 |-;rw[show((m:Int)-1).toNat=m-1 by omega];refine⟨⟨ω,ω,δ⟩,⟨δ,δ,ω,ω⟩,?_⟩;obtain⟨Pv,hPv⟩:∃Pv:Nat->L2.St->Hp->Prop,Pv=fun(i:Nat) σ H'=>∃(N:List Int)(o4 o5 o6 o7 o8:Option V),Same H H'/\H' r=some (.lst (N.map V.int))/\Tbl f' ss n (i+1) N/\σ=[some (.ref sa),some (.ref sc),some (.int (n:Int)),some (.ref r),o4,o5,o6,o7,o8]:=⟨_,rfl⟩;refine Ma hR Pv (by rw[hPv];exact⟨[0],_,_,_,_,_,s1,er1,Tbl.start f' ss n,by rw[hsl]⟩) ?_ ?_
  ·intro i σ H3 hi pv;rw[hPv] at pv;obtain⟨N,o4,o5,o6,o7,o8,s3,er3,tb,rfl⟩:=pv;have him:i+1<2^n:=ω;have lf:=jJ hsn (show 0<i+1 by omega) him;have hset:=jW him;have hbl:=nM n (i+1);refine aO fun k2 hk2=>?_;push_cast;rw[show(1:Int)+(i:Int)=((i+1:Nat):Int) by omega];refine⟨i+1,rfl,him,fun la H4 s4 hla el4=>?_⟩;push_cast;refine⟨aN δ,fun sm hsm=>?_⟩;have s5:=aB (o:=HO.lst []) hsm;have em5:upd H4 sm (HO.lst []) sm=some (HO.lst []):=aq;have sH5:=(s3.trans s4).trans s5;have hsn0:H sm=none:=(s3.trans s4).none hsm;have el5:=s5 _ _ el4;have er5:=(s4.trans s5) _ _ er3;have hlm:la≠sm:=aD el4 hsm;have hrm:r≠sm:=aD (s4 _ _ er3) hsm;generalize upd H4 sm (HO.lst [])=H5 at sH5 em5 el5 er5 |-;subst hk2;refine aO fun k2 hk2=>?_;refine kJ fun R2 hR2=>?_;obtain⟨ok2,hok2⟩:∃ok2:Addr->Prop,ok2=fun a=>ok a/\a≠sm:=⟨_,rfl⟩;have nw2:cQ ok2 H5:=fun H' p s' hp=>by
    rw[hok2];exact⟨hnw H' p (sH5.trans s') hp,(aD (s' _ _ em5) hp).symm⟩
   have ts2:aG ok2 H (.ref sa) (.list (ss.map stD)):=ts0.keep fun a o h e=>⟨by rw[hok2];exact⟨h,aD e hsn0⟩,e⟩;push_cast [iH];refine⟨_,la,ok2,ss,bC n (i+1),rfl,nw2,ts2.same sH5,el5,lf,ω,ω,fun st xs W H6 s6 hst est hW t6 hx6=>?_⟩;show itK K (V.ref st) H6 R2;rw[jF,est,jE];have hxl:=t6.length;rw[AE] at hxl;have hWne:W≠[]:=fun z=>by
    obtain⟨w1,hw1⟩:=YM lf;have:=(hW w1).mpr hw1;rw[z] at this;cases this
   have hstm:st≠sm:=(aD em5 hst).symm;have hsB:stB (bC n (i+1)).length<=1000:=by unfold stB;split <;> omega
   have el6:=s6 _ _ el5;have er6:=s6 _ _ er5;have em6:=s6 _ _ em5;have sH6:=sH5.trans s6;clear s3 s4 s5 sH5 el4 el5 er3 er5 em5 s6 hst nw2;generalize hleft:bC n (i+1)=left at *;obtain⟨Pw,hPw⟩:∃Pv:Nat->L2.St->Hp->Prop,Pv=fun(j:Nat) σ H'=>∃(o7 o8:Option V),Same H H'/\H' r=some (.lst (N.map V.int))/\H' la=some (.lst (nv left))/\H' st=some (.lst xs)/\H' sm=some (.lst (((W.take j).map (jl f' N ss left)).map V.int))/\aH ok2 H' xs (W.map (stW ss left))/\σ=[some (.ref sa),some (.ref sc),some (.int (n:Int)),some (.ref r),some (.int ((i+1:Nat):Int)),some (.ref la),some (.ref sm),o7,o8]:=⟨_,rfl⟩;refine tX hR2 (xs:=xs) Pw (by rw[hPw];exact⟨_,_,sH6,er6,el6,est,em6,t6,rfl⟩) ?_ ?_ ?_
   ·intro j σ H7 _ pw;rw[hPw] at pw;obtain⟨_,_,_,_,_,h,_⟩:=pw;exact SqL.of h
   ·intro j y σ H7 hy pw;rw[hPw] at pw;obtain⟨o7',o8',s7,er7,el7,est7,em7,t7,rfl⟩:=pw;obtain⟨d,hd,td⟩:=t7.get hy;rw[AU] at hd;obtain⟨w1,hw1,rfl⟩:=BE.mp hd;have isw:=(hW w1).mp (A7 hw1);unfold stW at td;rw[sS] at td;cases td with
    | tup ot et zt tt=>
     cases tt with
     | cons tc tt=>
      cases tt with
      | cons tp tt=>
       cases tt;cases tc;rename_i ta xp;obtain⟨lp,rfl,okl,elp,llp⟩:=tp.left;replace elp:H7 lp=some (.lst (nv ((fB ss left w1).map aY))):=elp;push_cast [et];refine⟨by rw[em7];trivial,_,sc,la,ok2,f',ss,left,w1,rfl,ts2.same s7,hSc _ _ _ _ _ hsc s7,el7,lf,ω,ω,fun H8 s8=>?_⟩;refine cY fun R3 hR3=>?_;have elp8:=s8 _ _ elp;have er8:=s8 _ _ er7;push_cast [elp8];refine iB (fun k=>N.getD k 0) (fun τ=>∃o0,τ=[o0,some (.ref r)]) hR3 elp8 llp ⟨_,rfl⟩ ?_ ?_
       ·rintro j k' τ acc Pn hk' ⟨o0,rfl⟩ h1;have hmk:=A7 hk';obtain⟨p,hp,rfl⟩:=DM.mp hmk;obtain⟨_,l2,_⟩:=j6 lf isw p hp;have hwk:=Ej (zs:=N) (i:=aY p) (by rw[tb.len];omega);push_cast [er8,hwk];exact h1 _ ⟨_,rfl⟩
       intro d2 hd2;have s9:=aB (o:=HO.lst ((((fB ss left w1).map aY).map fun k=>N.getD k 0).map V.int)) hd2;have e9:upd H8 d2 (HO.lst ((((fB ss left w1).map aY).map fun k=>N.getD k 0).map V.int)) d2=_:=aq;generalize upd H8 d2 (HO.lst ((((fB ss left w1).map aY).map fun k=>N.getD k 0).map V.int))=H9 at s9 e9 |-;have s89:=s8.trans s9;have em9:=s89 _ _ em7;push_cast [e9];refine⟨_,rfl,?_⟩;rw[show f' left (gW w1)+(((fB ss left w1).map aY).map fun k=>N.getD k 0).sum=jl f' N ss left w1 by unfold jl;rw[KO];rfl];push_cast [em9];refine⟨Ky (by rw[AE,AE,ET];omega),?_⟩;rw[hPw];refine⟨_,_,dR (s7.trans s89) hsn0,(aJ hrm).trans (s89 _ _ er7),(aJ hlm).trans (s89 _ _ el7),(aJ hstm).trans (s89 _ _ est7),?_,(t7.same s89).keep fun a o h e=>⟨h,by rw[hok2] at h;rw[aJ h.2];exact e⟩,rfl⟩;rw[aq,take_snoc hw1,A6,A6];rfl
   intro σ H7 pw;rw[hPw] at pw;obtain⟨o7',o8',s7,er7,el7,est7,em7,t7,rfl⟩:=pw;rw[hxl,ED] at em7;show k2 _ _;subst hk2;push_cast;refine⟨by rw[er7];trivial,_,.inl em7,fun z=>hWne (Ic.mp z),fun M hM hle=>?_⟩;push_cast [er7];refine⟨Ky (by rw[AE,tb.len];omega),?_⟩;obtain⟨w1,hw1,eM⟩:=DM.mp hM;have tb':=tb.snoc hsn ω him (c:=M) (by
    rw[hleft];exact⟨⟨w1,(hW w1).mp hw1,eM.symm⟩,fun w' hw'=>hle _ (E7 ((hW w').mpr hw'))⟩)
   rw[hPv];exact⟨N++[M],_,_,_,_,_,dR s7 hr0,by rw[aq,A6];rfl,tb',rfl⟩
  intro σ H3 pv;rw[hPv] at pv;obtain⟨N,o4,o5,o6,o7,o8,s3,er3,tb,rfl⟩:=pv;show k _ _;subst hk;push_cast;rw[show m-1+1=2^n by omega] at tb;exact q r N _ s3 hr0 er3 tb
noncomputable abbrev vm:List Str:=["_law_some","_law_more","_law_made","_law_one"]
noncomputable abbrev jx:Stmt:=top 44
theorem Ci:bh vm ["_law_some","_law_more"] (aj jx):=⟨rfl,rfl,rfl,ψ,rfl,ψ,ψ⟩
theorem Tj:NM_ vm jx 0 "_law_some" := .of ψ
theorem Ti:NM_ vm jx 1 "_law_more" := .of ψ
theorem xX:NM_ vm jx 2 "_law_made" := .of ψ
theorem Tg:NM_ vm jx 3 "_law_one" := .of ψ
theorem Gw:GI_ jx "dict" := by decide +kernel
theorem Yw:Bn "_law_sums" := ⟨ψ,ψ⟩
theorem Sy (hB:∀x:Str,x∈BLs->mg x=none) (F:Fun K "_law_sums" "_law_sums" jx f fd):dF P w K mg base CX0 1 f fd ["_law_some","_law_more"] Q0:=by
 refine F.okq Ci (fun vs H Q E h=>?_) (fun cdv A outer s H vs Q E hr h=>?_)
 ·obtain⟨d,e,kvs,more,S,T,rfl,_⟩:=h;rfl
 obtain⟨d,e,kvs,more,S,T,rfl,hde,ed,ee,kS,kT,l1,l2,q⟩:=h;refine⟨_,(aF (bG xX Ci.nd RP rfl (.inl rfl))
  (aF (gY B7 rfl (Fv (ao Tj)) (dY Tg Ci.nd (.inl rfl))
  (aK (dw (KJ (ao xX) (Wm rfl Gw (hB "dict" Lp) (ak (cJ (NX:=vm) (kX:=(aj jx).names) ["_law_other","_law_one"] [none,some 3] rfl rfl ⟨rfl,ψ,ψ,ψ,ψ⟩ rfl (Fv (ao Ti)) (fun _ _ _ _ _=>(bR 0 (show BQ (["_law_other","_law_one"]:List Str) from by decide +kernel) rfl (C8 rfl))) (fun _ _ _ _ _=>fK) (fun _ _ _ _ _=>(bQ (ak (aM bH (bA 1) (bA 0)) (ak j4 aA rfl) rfl)))) aA rfl)) ⟨rfl,rfl,rfl,rfl⟩) rfl)) (fun _=>rfl))
  (aK (aU (ao xX))))),?_⟩
 refine aO fun k hk=>?_;push_cast [BZ];intro r hr0;have s1:=aB (o:=HO.dK []) hr0;have er1:upd H r (HO.dK []) r=_:=aq;have hdr:d≠r:=aD ed hr0;have her:e≠r:=aD ee hr0;have ed1:=s1 _ _ ed;have ee1:=s1 _ _ ee;generalize upd H r (HO.dK [])=H1 at s1 er1 ed1 ee1 |-;subst hk;refine aO fun k hk=>?_;refine kJ fun R hR=>?_;push_cast [Dr];refine⟨kvs,.inl ⟨ed1,fun od=>?_⟩⟩;obtain⟨is,his,mis⟩:=kS.list;obtain⟨js,hjs,mjs⟩:=kT.list;have hkl:kvs.length=is.length:=by have:=congrArg FF his;rwa [AE,AE] at this
 have hml:more.length=js.length:=by have:=congrArg FF hjs;rwa [AE,AE] at this
 obtain⟨Pv,hPv⟩:∃Pv:Nat->L2.St->Hp->Prop,Pv=fun(i:Nat) σ H'=>∃(xs:List (Key×V)) (o3:Option V),H' d=some (.frz od (.dK kvs))/\(H' e=some (.dK more)\/∃oe,H' e=some (.frz oe (.dK more)))/\H' r=some (.dK xs)/\KS xs (fun c=>∃a b,a∈is.take i/\T b/\c=a+b)/\xs.length<=i*more.length/\(∀b o,b≠d->b≠e->H b=some o->H' b=some o)/\σ=[some (.ref d),some (.ref e),some (.ref r),o3]:=⟨_,rfl⟩;refine Uz hR kvs.length Pv (by
  rw[hPv];refine⟨[],_,aq,.inl ((aJ hde.symm).trans ee1),(aJ hdr.symm).trans er1,KS.nil.imp fun i=>⟨EG,fun⟨_,_,h,_⟩=>nomatch h⟩,EN _,fun b o h1 _ h=>(aJ h1).trans (s1 _ _ h),rfl⟩) ?_ ?_ ?_ ?_
 ·intro i σ H2 hi pv;rw[hPv] at pv;obtain⟨_,_,h,_⟩:=pv;exact⟨hi,h⟩
 ·intro σ H2 pv;rw[hPv] at pv;obtain⟨_,_,h,_⟩:=pv;exact⟨AZ _,h⟩
 ·rintro i σ H2 x H3 hi pv ⟨rfl,kv,hkv,rfl⟩;rw[hPv] at pv;obtain⟨xs,o3,ed2,ee2,er2,k2,lx2,sm2,rfl⟩:=pv;obtain⟨a,ha,eka⟩:∃a,is[i]?=some a/\kv.1=Ct a:=by
   have h1:(kvs.map (·.1))[i]?=some kv.1:=by rw[AU,hkv];rfl
   rw[his,AU] at h1;obtain⟨a,h2,h3⟩:=BE.mp h1;exact⟨a,h2,h3.symm⟩
  rw[eka];push_cast [Ko,QF];refine⟨.inl ⟨_,.inl er2⟩,?_⟩;refine cY fun R2 hR2=>?_;have hrd:¬r=d:=fun z=>hdr z.symm;have go:∀oe H4,H4 e=some (.frz oe (.dK more))->H4 d=some (.frz od (.dK kvs))->H4 r=some (.dK xs)->(∀b o,b≠d->b≠e->H b=some o->H4 b=some o)->R2 (ItF oe e more) H4:=by
   intro oe H4 ee4 ed4 er4 sm4;obtain⟨Pc,hPc⟩:∃Pv:Nat->List V->L2.St->Hp->Prop,Pv=fun(j:Nat) acc τ H'=>∃(ads:List Addr)(o0:Option V),acc=ads.map V.ref/\ads.length=j/\Same H4 H'/\(∀(t:Nat) p b,ads[t]?=some p->js[t]?=some b->H' p=some (.tup [.int (a+b),.bl true]))/\τ=[o0,some (kV (Ct a))]:=⟨_,rfl⟩;refine DW hR2 more.length (aN ω) Pc (by rw[hPc];exact⟨[],_,rfl,rfl,Same.refl _,fun t p b h=>by simp at h,rfl⟩) ?_ ?_ ?_ ?_ ?_
   ·intro j acc τ H5 pc;rw[hPc] at pc;obtain⟨ads,_,rfl,hl,_⟩:=pc;rw[AE,hl];exact AZ _
   ·intro j acc τ H5 hj pc;rw[hPc] at pc;obtain⟨_,_,_,_,s5,_⟩:=pc;exact⟨hj,s5 _ _ ee4⟩
   ·intro acc τ H5 pc;rw[hPc] at pc;obtain⟨_,_,_,_,s5,_⟩:=pc;exact⟨AZ _,s5 _ _ ee4⟩
   ·rintro j acc τ H5 x H6 hj pc ⟨rfl,kv2,hkv2,rfl⟩;rw[hPc] at pc;obtain⟨ads,o0,rfl,hl,s5,hads,rfl⟩:=pc;obtain⟨b,hb,ekb⟩:∃b,js[j]?=some b/\kv2.1=Ct b:=by
     have h1:(more.map (·.1))[j]?=some kv2.1:=by rw[AU,hkv2];rfl
     rw[hjs,AU] at h1;obtain⟨b,h2,h3⟩:=BE.mp h1;exact⟨b,h2,h3.symm⟩
    rw[ekb];show kI 0 (V.int b) _ _ _;push_cast [kV];refine⟨aN δ,fun p hp=>?_⟩;rw[hPc];refine⟨ads++[p],_,by rw[A6];rfl,by rw[AH,hl];rfl,s5.trans (aB hp),fun t p' b' h1 h2=>?_,rfl⟩;rcases FX t ads.length with c|c
    ·rw[C3 c] at h1;exact aB hp _ _ (hads t p' b' h1 h2)
    rw[BC c] at h1;have ht0:t-ads.length=0:=by
     rcases Nat.eq_zero_or_pos (t-ads.length) with z|z
     ·exact z
     rw[EE (by rw[A8];omega)] at h1;cases h1
    rw[ht0] at h1;cases h1;rw[show t=j by omega,hb] at h2;cases h2;exact aq
   intro acc τ H5 l pc hl5;rw[hPc] at pc;obtain⟨ads,o0,rfl,hl,s5,hads,rfl⟩:=pc;have s6:=aB (o:=HO.lst (ads.map V.ref)) hl5;have sH6:=s5.trans s6;refine⟨l,rfl,js.map fun b=>((Ct (a+b):Key),V.bl true),ads,aq,by rw[AE];omega,fun t p kv3 h1 h2=>?_,aN (by rw[AE];omega),fun d1 hd1=>?_⟩
   ·rw[AU] at h2;obtain⟨b,hb,rfl⟩:=BE.mp h2;exact s6 _ _ (hads t p b h1 hb)
   have s7:=aB (o:=HO.dK (L2.putAll [] (js.map fun b=>((Ct (a+b):Key),V.bl true)))) hd1;have sH7:=sH6.trans s7;have lp:=nq (js.map fun b=>((Ct (a+b):Key),V.bl true)) [];have kp:KS (L2.putAll [] (js.map fun b=>((Ct (a+b):Key),V.bl true))) fun c=>∃b,T b/\c=a+b:=(KS.all KS.nil (KS.of (is:=js.map (a + ·)) (by rw[KO,KO];rfl))).imp fun c=>⟨fun h=>by
    rcases h with h|h
    ·exact h.elim
    obtain⟨b,hb,rfl⟩:=DM.mp h;exact⟨b,(mjs b).mp hb,rfl⟩,fun⟨b,hb,e⟩=>.inr (DM.mpr ⟨b,(mjs b).mpr hb,e.symm⟩)⟩
   generalize L2.putAll [] (js.map fun b=>((Ct (a+b):Key),V.bl true))=ys at *;rw[FL,AE] at lp;have hmi:i*more.length<=800*800:=mul_le_mul ω l2;have lq:=nq ys xs;refine⟨aD (sH6 _ _ er4) hd1,xs,sH7 _ _ er4,ys,rfl,aN ω,?_⟩;rw[hPv];refine⟨_,_,(aJ hdr).trans (sH7 _ _ ed4),.inr ⟨oe,(aJ her).trans (sH7 _ _ ee4)⟩,aq,(k2.all kp).imp fun c=>?_,by rw[succ_mul];omega,fun b o h1 h2 h=>?_,rfl⟩
   ·rw[take_snoc ha];constructor
    ·rintro(⟨a',b,h1,h2,h3⟩|⟨b,h2,h3⟩)
     ·exact⟨a',b,G2 _ h1,h2,h3⟩
     exact⟨a,b,by simp,h2,h3⟩
    rintro⟨a',b,h1,h2,h3⟩;rcases CI.mp h1 with h1|h1
    ·exact .inl ⟨a',b,h1,h2,h3⟩
    rw[AK.mp h1] at h3;exact .inr ⟨b,h2,h3⟩
   rw[aJ (aD h hr0)];exact sH7 _ _ (sm4 b o h1 h2 h)
  push_cast [Dr];rcases ee2 with ee2|⟨oe,ee2⟩
  ·exact⟨more,.inl ⟨ee2,fun oe=>go oe _ aq ((aJ hde).trans ed2) ((aJ her.symm).trans er2) fun b o h1 h2 h=>(aJ h2).trans (sm2 b o h1 h2 h)⟩⟩
  exact⟨more,.inr ⟨oe,ee2,go oe _ ee2 ed2 er2 sm2⟩⟩
 intro σ H2 pv;rw[hPv] at pv;obtain⟨xs,o3,ed2,ee2,er2,k2,lx2,sm2,rfl⟩:=pv;show k _ _;subst hk;push_cast;rw[hkl,ED] at k2;exact q r xs H2 hr0 er2 (k2.imp fun c=>⟨fun⟨a,b,h1,h2,h3⟩=>⟨a,b,(mis a).mp h1,h2,h3⟩,fun⟨a,b,h1,h2,h3⟩=>⟨a,b,(mis a).mpr h1,h2,h3⟩⟩) lx2 sm2
end
noncomputable abbrev pW:List Str:=["_law_stretches_here","_law_scale","_law_number","_law_many","_law_left_here","_law_found","_law_word","_law_sets","_law_some","_law_one"]
noncomputable abbrev gB:Stmt:=top 43
theorem qU:bh pW q1_ (aj gB):=⟨rfl,rfl,rfl,ψ,rfl,ψ,ψ⟩
theorem CV:NM_ pW gB 0 "_law_stretches_here" := .of ψ
theorem Lk:NM_ pW gB 1 "_law_scale" := .of ψ
theorem XQ:NM_ pW gB 2 "_law_number" := .of ψ
theorem Lj:NM_ pW gB 3 "_law_many" := .of ψ
theorem Li:NM_ pW gB 4 "_law_left_here" := .of ψ
theorem Lh:NM_ pW gB 5 "_law_found" := .of ψ
theorem Lg:NM_ pW gB 6 "_law_word" := .of ψ
theorem Le:NM_ pW gB 7 "_law_sets" := .of ψ
theorem wG:NM_ pW gB 8 "_law_some" := .of ψ
theorem Ld:NM_ pW gB 9 "_law_one" := .of ψ
theorem JS:GI_ gB "_law_all" := by decide +kernel
theorem GJ:GI_ gB "_law_left" := by decide +kernel
theorem JR:GI_ gB "_law_own" := by decide +kernel
theorem Dz:GI_ gB "_law_steps" := by decide +kernel
theorem GF:GI_ gB "_law_sums" := by decide +kernel
theorem Ve:Bn "_law_all" := ⟨ψ,ψ⟩
theorem Jb {pts:List (List Nat)}{t:Nat}(h:∀p∈pts,allB p.length<=768)(ht:t<pts.length)(h2:pts.length<=2):sU (pts.take t)<=768:=by
 match pts,t,h,ht,h2 with
 | _::_,0,_,_,_=>show 1<=768;decide
 | p::_::_,1,h,_,_=>show allB p.length*1<=768;rw[mul_one];exact h p A0
 | _::_::_,t+2,_,ht,h2=>simp only[Co] at ht h2;omega
 | [_],t+1,_,ht,_=>simp only[Co,FL] at ht;omega
theorem Vp (m:Nat):wN m<=1536:=by
 match m with
 | 0=>decide
 | 1=>decide
 | 2=>decide
 | 3=>decide
 | _+4=>exact AZ 1536
theorem all_none {P:AR}{w:Bi}{K:AD}{mg:Str->Option Ap}{base:Heap}{f:Addr}{fd:CY}{Sc:ScP}{n:Nat}:dF P w K mg base CX0 2 f fd q1_ (ux Sc n 0):=by
 have no:∀vs H Q E,¬ux Sc n 0 vs H Q E:=fun vs H Q E h=>by
  obtain⟨s,sc,x,ok,f',ss,N,_,_,_,hsn,_,h0,hx,hxm,_⟩:=h;have:=D4.mpr (jJ hsn h0 hx).ne;omega
 exact⟨fun vs H Q E h=>absurd h (no vs H Q E),fun A outer s H args us vs Q E _ _ _ _ h=>absurd h (no vs H Q E)⟩
section
variable {P:AR}{w:Bi}{K:AD}{mg:Str->Option Ap}{base:Heap}{f:Addr}{fd:CY}{bs:List Str}
theorem Xw {Sc:ScP}(hSc:Ke Sc) {n m:Nat}(hn:n<=60) (hm:m+1<=4) (hB:∀x:Str,x∈BLs->mg x=none) (CZLeft:Cal P w K mg base "_law_left" 1 q11_ (wA n)) (CZSteps:Cal P w K mg base "_law_steps" 2 q7_ wW) (CZOwn:Cal P w K mg base "_law_own" 1 q3_ (Im Sc)) (CZSums:Cal P w K mg base "_law_sums" 1 ["_law_some","_law_more"] Q0) (CZAll:Cal P w K mg base "_law_all" (m+2) q1_ (ux Sc n m)) (F:Fun K "_law_all" "_law_all" gB f fd):dF P w K mg base CX0 (m+3) f fd q1_ (ux Sc n (m+1)):=by
 refine F.okq qU (fun vs H Q E h=>?_) (fun cdv A outer s H vs Q E hr h=>?_)
 ·obtain⟨s,sc,x,ok,f,ss,N,rfl,_⟩:=h;rfl
 obtain⟨s,sc,x,ok,f',ss,N,rfl,hnw,ts,hsn,hsc,h0,hx,hxm,tb,q⟩:=h;refine⟨_,(aF (RK (i:=4) (j:=5) rfl qU.nd rfl rfl δ rfl rfl (ak (bw CZLeft (hr.mono ω) GJ Mv (ak (ao XQ) (ak (ao Lj) aA rfl) rfl) rfl rfl) (ak RP aA rfl) rfl) (by rfl))
  (aF (gY B7 rfl (bY (bw CZSteps (hr.mono ω) Dz Hi (ak (ao CV) (ak (ao Li) aA rfl) rfl) rfl rfl)) (jy (n:=2) rfl (bL (dY Lg qU.nd (.inl rfl)) (bL (dY Le qU.nd (.inl rfl)) gP rfl) rfl) rfl rfl)
  (aF (bG wG qU.nd (Wn (RL (bw CZOwn (hr.mono ω) JR Vd (ak (ao CV) (ak (ao Lk) (ak (ao Li) (ak (ao Lg) aA rfl) rfl) rfl) rfl) rfl rfl) j4 Wh) rfl rfl (List.cons_ne_nil _ _) rfl) rfl (.inl rfl))
  (aF (gY B7 rfl (bY (ao Le)) (dY Ld qU.nd (.inl rfl))
  (aK (bG wG qU.nd (bw CZSums (hr.mono ω) GF Yw (ak (ao wG) (ak (bw CZAll (hr.mono ω) JS Ve (ak (ao CV) (ak (ao Lk) (ak (ao Ld) (ak (ao Lj) aA rfl) rfl) rfl) rfl) rfl rfl) aA rfl) rfl) rfl rfl) rfl (.inl rfl))) (fun _=>rfl))
  (aK (dw (KJ (ao Lh) (ao wG) ⟨rfl,rfl,rfl,rfl⟩) rfl)))) (fun _=>rfl))
  (aK (aU (ao Lh))))),?_⟩
 have lf:=jJ hsn h0 hx;refine aO fun k hk=>?_;push_cast;refine⟨x,rfl,hx,fun la H4 s4 hla el4=>?_⟩;push_cast [BZ];intro fa hfa;have s5:=aB (o:=HO.dK []) hfa;have ef5:upd H4 fa (HO.dK []) fa=some (HO.dK []):=aq;have sH5:=s4.trans s5;have hfn:H fa=none:=s4.none hfa;have el5:=s5 _ _ el4;have hlf:la≠fa:=aD el4 hfa;generalize upd H4 fa (HO.dK [])=H5 at sH5 ef5 el5 |-;subst hk;refine aO fun k hk=>?_;refine kJ fun R hR=>?_;obtain⟨ok2,hok2⟩:∃ok2:Addr->Prop,ok2=fun a=>ok a/\a≠fa:=⟨_,rfl⟩;have nw2:cQ ok2 H5:=fun H' p s' hp=>by
  rw[hok2];exact⟨hnw H' p (sH5.trans s') hp,(aD (s' _ _ ef5) hp).symm⟩
 have ts2:aG ok2 H s (.list (ss.map stD)):=ts.keep fun a o h e=>⟨by rw[hok2];exact⟨h,aD e hfn⟩,e⟩;have hbl:=nM n x;push_cast [iH];refine⟨_,la,ok2,ss,bC n x,rfl,nw2,ts2.same sH5,el5,lf,ω,ω,fun st xs W H6 s6 hst est hW t6 hx6=>?_⟩;show itK K (V.ref st) H6 R;rw[jF,est,jE];have hxl:=t6.length;rw[AE] at hxl;have hstf:st≠fa:=(aD ef5 hst).symm;have el6:=s6 _ _ el5;have ef6:=s6 _ _ ef5;have sH6:=sH5.trans s6;have hset:=jW hx;have hlw:=tb.lst x h0 hx;clear s4 s5 sH5 el4 el5 ef5 s6 hst nw2;generalize hleft:bC n x=left at *;obtain⟨Pv,hPv⟩:∃Pv:Nat->L2.St->Hp->Prop,Pv=fun(j:Nat) σ H'=>∃(kvs:List (Key×V)) (S:Int->Prop) (o6 o7 o8 o9:Option V),Same H H'/\H' la=some (.lst (nv left))/\H' st=some (.lst xs)/\H' fa=some (.dK kvs)/\aH ok2 H' xs (W.map (stW ss left))/\KS kvs S/\Ei f' N ss left (W.take j) S/\kvs.length<=j*wN left.length/\σ=[some s,some (.ref sc),some (.int (x:Int)),some (.int (n:Int)),some (.ref la),some (.ref fa),o6,o7,o8,o9]:=⟨_,rfl⟩;refine tX hR (xs:=xs) Pv (by rw[hPv];exact⟨[],_,_,_,_,_,sH6,el6,est,ef6,t6,KS.nil,Ei.nil _ _ _ _,EN _,rfl⟩) ?_ ?_ ?_
 ·intro j σ H7 _ pw;rw[hPv] at pw;obtain⟨_,_,_,_,_,_,_,_,h,_⟩:=pw;exact SqL.of h
 ·intro j y σ H7 hy pw;rw[hPv] at pw;obtain⟨kvs,S,o6,o7,o8,o9,s7,el7,est7,ef7,t7,kS,aS,lk,rfl⟩:=pw;obtain⟨d,hd,td⟩:=t7.get hy;rw[AU] at hd;obtain⟨w1,hw1,rfl⟩:=BE.mp hd;have isw:=(hW w1).mp (A7 hw1);unfold stW at td;rw[sS] at td;cases td with
  | tup ot et zt tt=>
   cases tt with
   | cons tc tt=>
    cases tt with
    | cons tp tt=>
     cases tt;cases tc;rename_i ta xp;obtain⟨lp,rfl,okl,elp,llp⟩:=tp.left;replace elp:H7 lp=some (.lst (nv ((fB ss left w1).map aY))):=elp;push_cast [et];intro d1 hd1;have s8:=aB (o:=HO.dK []) hd1;have ed8:upd H7 d1 (HO.dK []) d1=some (HO.dK []):=aq;have hd1f:d1≠fa:=(aD ef7 hd1).symm;generalize upd H7 d1 (HO.dK [])=H8 at s8 ed8 |-;refine⟨_,sc,la,ok,f',ss,left,w1,rfl,ts.same (s7.trans s8),hSc _ _ _ _ _ hsc (s7.trans s8),s8 _ _ el7,lf,ω,ω,fun H9 s9=>?_⟩;refine⟨s9 _ _ ed8,[(Ct (f' left (gW w1)),V.bl true)],rfl,by show 1<=15;decide,?_⟩;refine kJ fun R2 hR2=>?_;have sd:Same H7 (upd H9 d1 (HO.dK [(Ct (f' left (gW w1)),V.bl true)])):=fun b o h=>by
      rw[aJ (aD h hd1)];exact(s8.trans s9) _ _ h
     have ed10:upd H9 d1 (HO.dK [(Ct (f' left (gW w1)),V.bl true)]) d1=some (HO.dK [(Ct (f' left (gW w1)),V.bl true)]):=aq;change Gs _ (tV 7) _ (upd H9 d1 (HO.dK [(Ct (f' left (gW w1)),V.bl true)])) R2;generalize upd H9 d1 (HO.dK [(Ct (f' left (gW w1)),V.bl true)])=H10 at sd ed10 |-;have elp10:=sd _ _ elp;push_cast [iH,jF,elp10,jE];have hpl:=Fx ss left w1;obtain⟨hpb,hp768⟩:=RX lf isw ω;have part:=j6 lf isw;obtain⟨pts,hpts⟩:∃pts,pts=fB ss left w1:=⟨_,rfl⟩;rw[<- hpts] at elp10 hpl hpb hp768 part elp;obtain⟨Pi,hPi⟩:∃Pv:Nat->L2.St->Hp->Prop,Pv=fun(t:Nat) σ H'=>∃(d:Addr)(ks:List (Key×V)) (T:Int->Prop) (o9:Option V),Same H7 H'/\H7 d=none/\H' d=some (.dK ks)/\KS ks T/\nW T (f' left (gW w1)+((pts.take t).map fun p=>N.getD (aY p) 0).sum)/\ks.length<=sU (pts.take t)/\σ=[some s,some (.ref sc),some (.int (x:Int)),some (.int (n:Int)),some (.ref la),some (.ref fa),some (.str (jB (gW w1))),some (.ref lp),some (.ref d),o9]:=⟨_,rfl⟩;refine tX hR2 (xs:=nv (pts.map aY)) Pi (by rw[hPi];exact⟨d1,_,_,_,sd,hd1,ed10,KS.one _ _,⟨Fu _,fun a h=>by rw[h];exact Int.le_of_eq (Fu _)⟩,AZ 1,rfl⟩) ?_ ?_ ?_
     ·intro t σ H11 _ pi;rw[hPi] at pi;obtain⟨_,_,_,_,h,_⟩:=pi;exact SqL.of (h _ _ elp)
     ·intro t y σ H11 hy pi;rw[hPi] at pi;obtain⟨d,ks,T,o9,s11,hdn,ed11,kT,lT,lk2,rfl⟩:=pi;obtain⟨p,hp,rfl⟩:∃p:List Nat,pts[t]?=some p/\y=.int ((aY p:Nat):Int):=by
       unfold nv at hy;rw[KO,AU] at hy;obtain⟨p,h1,h2⟩:=BE.mp hy;exact⟨p,h1,h2.symm⟩
      have mp:=A7 hp;obtain⟨q1,q2,q3⟩:=part p mp;have hb:bC n (aY p)=p:=Hs q1.up fun k hk=>by have:=q1.lt k hk;omega
      push_cast;have pw:=(lY p q1.up n fun k hk=>by have:=q1.lt k hk;omega).1;refine⟨_,sc,aY p,ok,f',ss,N,rfl,hnw.same (s7.trans s11),ts.same (s7.trans s11),hsn,hSc _ _ _ _ _ hsc (s7.trans s11),oW q1.ne,pw,by rw[hb];omega,tb,fun r2 k3 S3 H12 s12 hr12 er12 kS3 l3 lk3=>?_⟩;rw[hb] at lk3;have hdr:d≠r2:=aD ed11 hr12;have h768:=hp768 p mp;have htk:=Jb hp768 (AO.mp hp).1 hpl;refine⟨d,r2,ks,k3,T,S3,rfl,hdr,s12 _ _ ed11,er12,kT,kS3,ω,ω,fun r3 xs3 H13 hr13 er13 kk3 ll3 sm3=>?_⟩;rw[hPi];have sx:Same H7 H13:=fun b o h=>sm3 b o (aD h hdn) (aD (s11 _ _ h) hr12) (s12 _ _ (s11 _ _ h));refine⟨r3,xs3,_,_,sx,(s11.trans s12).none hr13,er13,kk3,?_,?_,rfl⟩
      ·rw[take_snoc hp,A6,sum_append,<- Int.add_assoc];show nW _ (_+(N.getD (aY p) 0+0));rw[Fu];exact lT.sum l3
      rw[take_snoc hp,xO];exact BG ll3 (mul_le_mul lk2 lk3)
     intro σ H11 pi;rw[hPi] at pi;obtain⟨d,ks,T,o9,s11,hdn,ed11,kT,lT,lk2,rfl⟩:=pi;rw[dZ,AE,ED] at lT lk2;push_cast [Ko];have ef11:=s11 _ _ ef7;have hjW:j<W.length:=(AO.mp hw1).1;have hwB:wN left.length<=1536:=Vp _;have hstB:stB left.length<=16:=by unfold stB;split <;> omega
     have hmul:j*wN left.length<=16*1536:=mul_le_mul ω hwB;have lq:=nq ks kvs;refine⟨.inl ⟨_,.inl ef11⟩,(aD ef7 hdn),kvs,ef11,ks,ed11,aN ω,?_⟩;rw[hPv];refine⟨_,_,_,_,_,_,dR (s7.trans s11) hfn,(aJ hlf).trans (s11 _ _ el7),(aJ hstf).trans (s11 _ _ est7),aq,(t7.same s11).keep fun a o h e=>⟨h,by rw[hok2] at h;rw[aJ h.2];exact e⟩,kS.all kT,?_,by rw[succ_mul];omega,rfl⟩;rw[take_snoc hw1];refine aS.snoc ?_;unfold jl;rw[<- hpts];exact lT
 intro σ H7 pw;rw[hPv] at pw;obtain⟨kvs,S,o6,o7,o8,o9,s7,el7,est7,ef7,t7,kS,aS,lk,rfl⟩:=pw;rw[hxl,ED] at aS;show k _ _;subst hk;push_cast;exact q fa kvs S _ s7 hfn ef7 kS (aS.least hW hlw) (BG lk (Nat.mul_le_mul_right _ hx6))
noncomputable abbrev fD:List Str:=["_law_stretches_here","_law_weights_here","_law_prices_here","_law_many","_law_stays","_law_scale","_law_found"]
noncomputable abbrev aZ:Stmt:=top 46
theorem mY:bh fD q6_ (aj aZ):=⟨rfl,rfl,rfl,ψ,rfl,ψ,ψ⟩
theorem dJ:NM_ fD aZ 0 "_law_stretches_here" := .of ψ
theorem gC:NM_ fD aZ 1 "_law_weights_here" := .of ψ
theorem lJ:NM_ fD aZ 2 "_law_prices_here" := .of ψ
theorem lH:NM_ fD aZ 3 "_law_many" := .of ψ
theorem zM:NM_ fD aZ 4 "_law_stays" := .of ψ
theorem qL:NM_ fD aZ 5 "_law_scale" := .of ψ
theorem cU:NM_ fD aZ 6 "_law_found" := .of ψ
theorem uT:GI_ aZ "_law_all" := by decide +kernel
theorem tM:GI_ aZ "_law_best" := by decide +kernel
theorem tL:GI_ aZ "_law_cost" := by decide +kernel
theorem uR:GI_ aZ "bool" := by decide +kernel
theorem rC:GI_ aZ "is_plan" := by decide +kernel
theorem iI:GI_ aZ "isinstance" := by decide +kernel
theorem oK:GI_ aZ "least_plan" := by decide +kernel
theorem oF:GI_ aZ "len" := by decide +kernel
theorem mF:GI_ aZ "list" := by decide +kernel
theorem v7:GI_ aZ "min" := by decide +kernel
theorem tK:GI_ aZ "tuple" := by decide +kernel
theorem Ec:Bn "_law_told_right" := ⟨ψ,ψ⟩
theorem Xx (hB:∀x:Str,x∈BLs->mg x=none) (CLeastPlan':∀n,n<=8->0<n->Cal P w K mg base "least_plan" 6 q4_ (uw n)) (CZBest':∀n,n<=8->Cal P w K mg base "_law_best" 3 q10_ (Io vg n)) (CZAll':∀n,n<=8->Cal P w K mg base "_law_all" 6 q1_ (ux vg n 4)) (CIsPlan:Cal P w K mg base "is_plan" 4 ["stretches","thing"] Ao) (CZCost:Cal P w K mg base "_law_cost" 4 q5_ Q6) (F:Fun K "_law_told_right" "_law_told_right" aZ f fd):dF P w K mg base CX0 7 f fd q6_ Ew:=by
 refine F.okq mY (fun vs H Q E h=>?_) (fun cdv A outer s H vs Q E hr h=>?_)
 ·obtain⟨sa,wa,z,ok,ss,ws,zs,rfl,_⟩:=h;rfl
 obtain⟨sa,wa,z,ok,ss,ws,zs,rfl,hn,ts,h0,h8,okw,ew,hwl,ez,h5,few,q⟩:=h;have CLeastPlan:=CLeastPlan' ss.length h8 h0;have CZBest:=CZBest' ss.length h8;have CZAll:=CZAll' ss.length h8;refine⟨_,(aF (Wg (i:=3) (j:=4) (k:=5) rfl mY.nd rfl rfl rfl δ δ δ rfl rfl rfl (ak (bW bM oF (hB "len" d8) BH d9 (ak (ao dJ) aA rfl) rfl rfl) (ak (bQ (ak (sO tY mF (hB "list" Dk) boot_list Mt (ak (ao dJ) aA rfl) rfl rfl) (ak (sO tY mF (hB "list" Dk) boot_list Mt (ak (ao gC) aA rfl) rfl rfl) aA rfl) rfl)) (ak (bQ (ak bD (ak (ao gC) (ak (ao lJ) aA rfl) rfl) rfl)) aA rfl) rfl) rfl) (by rfl))
  (aF (bG cU mY.nd (bw CLeastPlan (hr.mono δ) oK Hr (ak (ao dJ) (ak (ao gC) (ak (ao lJ) aA rfl) rfl) rfl) rfl rfl) rfl (.inl rfl))
  (aF (dm (Cw (Ay (uE (qW (bW mO iI (hB "isinstance" gJ) Hd gO (ak (ao cU) (ak (Fw "tuple" tK (hB "tuple" tG) boot_tuple tZ) aA rfl) rfl) rfl rfl) (fun _=>rfl))) (Ay (bx (pD hr.bO) (bW bM oF (hB "len" d8) BH d9 (ak (ao cU) aA rfl) rfl rfl) au (aQ _)) (xJ (qW (bW mO iI (hB "isinstance" gJ) Hd gO (ak (aL aW (ao cU) au (fun _ _=>rfl)) (ak (Fw "bool" uR (hB "bool" Lq) boot_bool Mu) aA rfl) rfl) rfl rfl) (fun _=>rfl)))))) (aK (aU j4)) cg)
  (aF (dm (Cw (Ay (bx (pD hr.bO) (aL aW (ao cU) au (fun _ _=>rfl)) (aL aW (bw CZBest (hr.mono δ) tM Yy (ak (ao dJ) (ak (ao qL) aA rfl) rfl) rfl rfl) (sI mW au) (fun _ _=>rfl)) (aQ _)) (xJ (bx (Xo hr.aa1) (bQ (ak (ao dJ) (ak (ao gC) aA rfl) rfl)) (ao zM) (aQ _))))) (aK (aU j4)) cg)
  (aF (dm (Cw (Cv (bx qK (ao lH) au (aQ _)) (wB (bx (pD hr.bO) (aL aW (ao cU) au (fun _ _=>rfl)) (bW (J3 rfl) v7 (hB "min" uN) boot_min vd (ak (bw CZAll (hr.mono δ) uT Ve (ak (ao dJ) (ak (ao qL) (ak (aM fP (aM j7 au (ao lH)) au) (ak (ao lH) aA rfl) rfl) rfl) rfl) rfl rfl) aA rfl) rfl rfl) (aQ _))))) (aK (aU j4)) cg)
  (aF (dm (bx Sw (bw CIsPlan (hr.mono δ) rC Vg (ak (ao dJ) (ak (aL aW (ao cU) au (fun _ _=>rfl)) aA rfl) rfl) rfl rfl) j4 (aQ _)) (aK (aU j4)) cg)
  (aK (aU (gn (cD hr.bO) (bw CZCost (hr.mono δ) tL Yx (ak (ao dJ) (ak (ao gC) (ak (ao lJ) (ak (aL aW (ao cU) au (fun _ _=>rfl)) aA rfl) rfl) rfl) rfl) rfl rfl) (aL aW (ao cU) au (fun _ _=>rfl)) (aQ _)))))))))),?_⟩
 have ts0:=ts;cases ts with
 | lst os es zz tss=>
  rename_i sxs;have hsl:=tss.length;rw[AE] at hsl;refine aO fun k hk=>?_;push_cast [es,ew];refine⟨sxs,.inl (SqL.of es),fun a1 ha1=>?_⟩;have s1:=aB (o:=HO.lst sxs) ha1;have e1:upd H a1 (HO.lst sxs) a1=some (HO.lst sxs):=aq;generalize upd H a1 (HO.lst sxs)=H1 at s1 e1 |-;refine⟨ws.map V.int,.inl (SqL.of (s1 _ _ ew)),fun a2 ha2=>⟨aN δ,fun a3 ha3=>?_⟩⟩;have s2:=aB (o:=HO.lst (ws.map V.int)) ha2;have e2:upd H1 a2 (HO.lst (ws.map V.int)) a2=some (HO.lst (ws.map V.int)):=aq;have s3:=aB (o:=HO.tup [V.ref a1,V.ref a2]) ha3;have e3:upd (upd H1 a2 (HO.lst (ws.map V.int))) a3 (HO.tup [V.ref a1,V.ref a2]) a3=some (HO.tup [V.ref a1,V.ref a2]):=aq;replace e2:=s3 _ _ e2;have s13:=s1.trans (s2.trans s3);replace e1:=(s2.trans s3) _ _ e1;generalize upd (upd H1 a2 (HO.lst (ws.map V.int))) a3 (HO.tup [V.ref a1,V.ref a2])=H3 at s13 e1 e2 e3 |-;refine⟨aN δ,fun a4 ha4=>?_⟩;have s4:=aB (o:=HO.tup [V.str "cost",V.ref wa,V.ref z]) ha4;have e4:upd H3 a4 (HO.tup [V.str "cost",V.ref wa,V.ref z]) a4=some (HO.tup [V.str "cost",V.ref wa,V.ref z]):=aq;change k _ (upd H3 a4 (HO.tup [V.str "cost",V.ref wa,V.ref z]));replace e1:=s4 _ _ e1;replace e2:=s4 _ _ e2;replace e3:=s4 _ _ e3;have sA:=s13.trans s4;generalize upd H3 a4 (HO.tup [V.str "cost",V.ref wa,V.ref z])=HA at sA e1 e2 e3 e4 |-;have hok:cQ ok H:=hn;have tst:aG (fun _=>True) HA (.ref a3) (Cd ss ws):=.tup trivial e3 (show 2<=1000000 by decide) (.cons (.lst trivial e1 ω ((tss.same sA).keep fun a o _ e=>⟨trivial,e⟩)) (.cons (.lst trivial e2 (by rw[AE];omega) (lW ws)) .nil));subst hk;refine aO fun k hk=>?_;push_cast;refine⟨_,wa,z,ok,ss,ws,zs,rfl,hn.same sA,ts0.same sA,rfl,sA _ _ ew,hwl,sA _ _ ez,h5,few,fun v pl N HB sB tv pv psz psum tbl=>?_⟩;obtain⟨pt,xs,rfl,ept,txs⟩:=aG.BV tv;cases txs with
  | cons tc txs=>
   cases txs with
   | cons tp txs=>
    cases txs;cases tc;rename_i pv0;push_cast;subst hk;refine aO fun k hk=>?_;push_cast [ept];rw[if_neg (show ¬(!decide (((2:Nat):Int)=2))=true by decide)];subst hk;have sAB:=sA.trans sB;have p1:=ES ss.length;refine aO fun k hk=>?_;push_cast [ept];refine⟨.ref sa,a4,ok,cN ws zs,ss,rfl,hn.same sAB,ts0.same sAB,rfl,⟨wa,z,ws,zs,rfl,sB _ _ e4,sAB _ _ ew,hwl,sAB _ _ ez,h5,few⟩,fun r N' HC sC hr0 er tbl'=>?_⟩;have ept2:=sC _ _ ept;have hat:atI (N'.map V.int) (-1)=some (.int (N.getD (2^ss.length-1) 0)):=by
     rw[tbl.uniq rfl (AZ _) tbl' _ (show 2^ss.length-1<2^ss.length by omega)];have hl:=tbl'.len;obtain⟨xa,xb,rfl⟩:=jQ N' ω;rw[AH,A8] at hl;rw[A6,AN,BC ω,show 2^ss.length-1-xa.length=0 by omega];exact Hv _ _
    push_cast [ept2,er,hat];refine⟨aN δ,fun a5 ha5=>?_⟩;have s5:=aB (o:=HO.tup [V.ref sa,V.ref wa]) ha5;have e5:upd HC a5 (HO.tup [V.ref sa,V.ref wa]) a5=some (HO.tup [V.ref sa,V.ref wa]):=aq;have sC5:=sC.trans s5;have sAC:=sAB.trans sC5;generalize upd HC a5 (HO.tup [V.ref sa,V.ref wa])=HD at s5 e5 sC5 sAC |-;refine⟨fun _=>True,fun _=>True,Cd ss ws,.tup trivial e5 (show 2<=1000000 by decide) (.cons (.lst trivial (sAC _ _ es) ω ((tss.same sAC).keep fun a o _ e=>⟨trivial,e⟩)) (.cons (.lst trivial (sAC _ _ ew) (by rw[AE];omega) (lW ws)) .nil)),tst.same (sB.trans sC5),(Ai ss ws).1,(Ai ss ws).2,false,rfl,?_⟩;rw[if_neg δ];subst hk;refine aO fun k hk=>?_;have eptD:=sC5 _ _ ept;have nxt:∀HE,Same HD HE->k [some (V.ref sa),some (V.ref wa),some (V.ref z),some (V.int ↑sxs.length),some (V.ref a3),some (V.ref a4),some (V.ref pt)] HE:=by
     intro HE sE;subst hk;have sAE:=sAC.trans sE;have eptE:=sE _ _ eptD;refine aO fun k hk=>?_;push_cast [eptE];have tpE:=(tp.same sC5).same sE;refine⟨.ref sa,pv0,ok,ss,plG pl,rfl,hn.same sAE,ts0.same sAE,by rw[Bb];exact tpE,uG pl,h0,ω,by rw[qd];omega,fun HF sF=>?_⟩;rw[uH,pv.okP];push_cast;subst hk;have eptF:=sF _ _ eptE;have sAF:=sAE.trans sF;push_cast [eptF];refine⟨.ref sa,pv0,wa,z,ok,ss,ws,zs,pl,rfl,hn.same sAF,ts0.same sAF,tpE.same sF,sAF _ _ ew,hwl,sAF _ _ ez,h5,few,ω,ω,pv.ok,fun HG sG=>?_⟩;have eptG:=sG _ _ eptF;push_cast [eptG];rw[psum,decide_eq_true rfl];exact q _ (sAF.trans sG)
    push_cast [eptD];split
    ·rename_i c4;have hn4:ss.length<=4:=ω;refine⟨⟨ω,ω,δ⟩,?_⟩;have hb:=yX ss.length;have p2:1<2^ss.length:=Nat.one_lt_two_pow ω;refine⟨.ref sa,a4,2^ss.length-1,ok,cN ws zs,ss,N,?_,hn.same sAC,ts0.same sAC,rfl,⟨wa,z,ws,zs,rfl,(sB.trans sC5) _ _ e4,sAC _ _ ew,hwl,sAC _ _ ez,h5,few⟩,ω,ω,by rw[hb,Fn];exact hn4,tbl,fun r kvs S HE sE hr er kS lS _=>?_⟩
     ·rw[hsl,Jn,B6,show((2:Int)^ss.length)=((2^ss.length:Nat):Int) by rw[FI];rfl,show(((2^ss.length:Nat):Int)-1)=((2^ss.length-1:Nat):Int) by omega]
     obtain⟨is,eis,his⟩:=kS.list;refine⟨r,rfl,kvs,er,fun z=>?_,is,eis,fun M hM hl=>?_⟩
     ·subst z;have:=(his _).mpr lS.1;cases Ic.mp eis.symm;cases this
     have h1:=lS.2 M ((his M).mp hM);have h2:=hl _ ((his _).mpr lS.1);rw[show M=N.getD (2^ss.length-1) 0 by omega,decide_eq_true rfl,if_neg δ];exact nxt _ sE
    exact nxt _ (Same.refl _)
noncomputable abbrev zc:List Str:=["_law_script","_law_k","_law_tape_here","_law_great","_law_stretches_here","_law_many","_law_some","_law_weights_here","_law_prices_here"]
noncomputable abbrev iU:Stmt:=top 47
theorem qI:bh zc ["_law_script"] (aj iU):=⟨rfl,rfl,rfl,ψ,rfl,ψ,ψ⟩
theorem T4:NM_ zc iU 0 "_law_script" := .of ψ
theorem T3:NM_ zc iU 1 "_law_k" := .of ψ
theorem uJ:NM_ zc iU 2 "_law_tape_here" := .of ψ
theorem TY:NM_ zc iU 3 "_law_great" := .of ψ
theorem yp:NM_ zc iU 4 "_law_stretches_here" := .of ψ
theorem aat:NM_ zc iU 5 "_law_many" := .of ψ
theorem Jt:NM_ zc iU 6 "_law_some" := .of ψ
theorem TX:NM_ zc iU 7 "_law_weights_here" := .of ψ
theorem TV:NM_ zc iU 8 "_law_prices_here" := .of ψ
theorem zV:GI_ iU "_law_spanned" := by decide +kernel
theorem wg:GI_ iU "_law_stretches" := by decide +kernel
theorem rF:GI_ iU "_law_take" := by decide +kernel
theorem JV:GI_ iU "_law_tape" := by decide +kernel
theorem v9:GI_ iU "_law_told_right" := by decide +kernel
theorem GK:GI_ iU "len" := by decide +kernel
theorem Uu:GI_ iU "min" := by decide +kernel
theorem yO:GI_ iU "range" := by decide +kernel
noncomputable def Kv (K:AD):Sp:=fun vs H Q _=>∃(a:Addr)(ns:List Int),vs=[.ref a]/\SqL K H a (ns.map V.int)/\ns.length<=63/\∀H',Q (.bl true) H'
noncomputable def prD (x:List Int×List Int):A1:=.tuple [.list (x.1.map A1.int),.tuple (x.2.map A1.int)]
theorem aaq (hB:∀x:Str,x∈BLs->mg x=none) (CZTape:Cal P w K mg base "_law_tape" 2 q8_ (QZ K)) (CZTake:Cal P w K mg base "_law_take" 2 q0_ (mX 2)) (CZStretches:Cal P w K mg base "_law_stretches" 3 q0_ Il) (CZSpanned:Cal P w K mg base "_law_spanned" 3 q12_ Ak) (CZWeights:Cal P w K mg base "_law_weights" 3 q0_ Aj) (CZPrices:Cal P w K mg base "_law_prices" 3 q0_ Al) (CZToldRight:Cal P w K mg base "_law_told_right" 7 q6_ Ew)
  (F:Fun K "law" "law" iU f fd):dF P w K mg base CX0 8 f fd ["_law_script"] (Kv K):=by
 refine F.okq qI (fun vs H Q E h=>?_) (fun cdv A outer s H vs Q E hr h=>?_)
 ·obtain⟨a,ns,rfl,_⟩:=h;rfl
 obtain⟨a,ns,rfl,hS,h63,q⟩:=h;refine⟨_,(aF (gY B7 rfl (ig yO (hB "range" fV) (ak (aM bH au (bW (Pq rfl) Uu (hB "min" uN) boot_min vd (ak au (ak (bW jH GK (hB "len" d8) BH d9 (ak (ao T4) aA rfl) rfl rfl) aA rfl) rfl) rfl rfl)) aA rfl) rfl) (dY T3 qI.nd (.inl rfl))
  (aF (bG uJ qI.nd (bw CZTape (hr.mono δ) JV Yv (ak (ao T4) (ak (ao T3) aA rfl) rfl) rfl rfl) rfl (.inl rfl))
  (aF (bG TY qI.nd (gn (cD hr.bO) (bw CZTake (hr.mono δ) rF cV (ak (ao uJ) (ak au aA rfl) rfl) rfl rfl) au (aQ _)) rfl (.inl rfl))
  (aF (bG yp qI.nd (bw CZStretches (hr.mono δ) wg Ed (ak (ao uJ) (ak (Ba (qW (ao TY) (fun _=>rfl)) (aM bH au (bw CZTake (hr.mono δ) rF cV (ak (ao uJ) (ak au aA rfl) rfl) rfl rfl)) (aM bH au (bw CZTake (hr.mono δ) rF cV (ak (ao uJ) (ak au aA rfl) rfl) rfl rfl))) aA rfl) rfl) rfl rfl) rfl (.inl rfl))
  (aF (bG yp qI.nd (bw CZSpanned (hr.mono δ) zV J5 (ak (ao uJ) (ak (ao yp) aA rfl) rfl) rfl rfl) rfl (.inl rfl))
  (aF (bG aat qI.nd (bW bM GK (hB "len" d8) BH d9 (ak (ao yp) aA rfl) rfl rfl) rfl (.inl rfl))
  (aF (Cy (NX:=zc) (kX:=(aj iU).names) ["_law_turn","_law_tape_here","_law_many"] [none,some 2,some 5] Jt qI.nd rfl rfl ⟨rfl,ψ,ψ,ψ,ψ⟩ rfl (ig yO (hB "range" fV) (ak au aA rfl) rfl) (fun _ _ _ _ _=>(bR 0 (show BQ (["_law_turn","_law_tape_here","_law_many"]:List Str) from by decide +kernel) rfl (C8 rfl))) (fun _ _ _ _ _=>fK) (fun _ _ _ _ _=>(bQ (ak (bw CZWeights (hr.mono δ) rfl J4 (ak (bA 1) (ak (bA 2) aA rfl) rfl) rfl rfl) (ak (bw CZPrices (hr.mono δ) rfl Py (ak (bA 1) (ak au aA rfl) rfl) rfl rfl) aA rfl) rfl))))
  (aK (gY B7 rfl (bY (aM bH (ao Jt) (pB Rc (ao Jt) sy (su au)))) (jy (n:=2) rfl (bL (dY TX qI.nd (.inl rfl)) (bL (dY TV qI.nd (.inl rfl)) gP rfl) rfl) rfl rfl)
  (aK (dm (uE (qW (bw CZToldRight (hr.mono δ) v9 Ec (ak (ao yp) (ak (ao TX) (ak (ao TV) aA rfl) rfl) rfl) rfl rfl) (fun _=>rfl))) (aK (aU j4)) cg)) (fun _=>rfl))))))))) (fun _=>rfl))
  (aK (aU j4))),?_⟩
 refine aO fun k hk=>?_;refine kJ fun R hR=>?_;push_cast [qO];refine⟨_,.inl hS,?_⟩;rw[AE];have m6:(0:Int)<=1+(if (ns.length:Int)<3 then (ns.length:Int) else 3)/\1+(if (ns.length:Int)<3 then (ns.length:Int) else 3)<=4:=by
  split <;> omega
 refine⟨ω,ω,?_⟩;obtain⟨Pv,hPv⟩:∃Pv:Nat->L2.St->Hp->Prop,Pv=fun(i:Nat) σ H'=>Same H H'/\∃o1 o2 o3 o4 o5 o6 o7 o8,σ=[some (.ref a),o1,o2,o3,o4,o5,o6,o7,o8]:=⟨_,rfl⟩;refine Ma hR Pv (by rw[hPv];exact⟨Same.refl _,_,_,_,_,_,_,_,_,rfl⟩) ?_ ?_
 ·intro i σ H1 hi pv;rw[hPv] at pv;obtain⟨s1,o1,o2,o3,o4,o5,o6,o7,o8,rfl⟩:=pv;refine aO fun k2 hk2=>?_;push_cast;refine⟨a,ns,(0:Int)+(i:Int),rfl,s1.seq hS,ω,ω,fun p H2 hp s2 tp2=>?_⟩;push_cast;have sx2:cB p H1 H2:=s2.x;subst hk2;refine aO fun k2 hk2=>?_;push_cast;refine⟨p,4,0,rfl,tp2,δ,δ,δ,δ,fun z=>absurd z δ,fun r3 H3 r30 r31 s3 tp3=>?_⟩;push_cast;subst hk2;refine aO fun k2 hk2=>?_;have nxt:∀(m:Nat)(H5:Hp),cB p H3 H5->b7 H5 p 4->1<=m->m<=7->Il [V.ref p,V.int (m:Int)] H5 (fun x H1=>k2 [some (.ref a),some (.int (0+(i:Int))),some (.ref p),some (.bl (decide (r3=0))),some x,o5,o6,o7,o8] H1) E0:=by
   intro m H5 s5 tp5 hm1 hm7;refine⟨p,(m:Int),4,rfl,tp5,δ,δ,ω,ω,fun l ss H6 s6 tp6 tr6 hsl hrow hfst=>?_⟩;have sx6:cB p H1 H6:=((sx2.trans s3).trans s5).trans s6;subst hk2;refine aO fun k2 hk2=>?_;push_cast;refine⟨p,l,4+2000,ss,rfl,tp6,δ,δ,tr6,by intro z;subst z;simp at hsl;omega,hrow,hfst,fun l' ss' H7 s7 tp7 tr7 hl7 hrow7=>?_⟩;have sx7:=sx6.trans s7;obtain⟨n,hn⟩:∃n,n=ss'.length:=⟨_,rfl⟩;have hn1:1<=n/\n<=7:=ω;clear tr6 hsl hrow hfst sx6 s6 tp6 tp5 s5 hm1 hm7 hl7;have tr7':=tr7;cases tr7 with
   | lst ol el zl tsl=>
    rename_i xl;have hxl:=tsl.length;rw[AE,<- hn] at hxl;subst hk2;refine aO fun k2 hk2=>?_;push_cast [el];subst hk2;refine aO fun k2 hk2=>?_;refine cY fun R2 hR2=>?_;push_cast [qO];obtain⟨Pc,hPc⟩:∃Pv:Nat->List V->L2.St->Hp->Prop,Pv=fun(j:Nat) acc τ H'=>∃(pr:List (List Int×List Int)) (o0:Option V),cB p H7 H'/\b7 H' p (3000+200*j)/\pr.length=j/\aH (·≠p) H' acc (pr.map prD)/\(∀x∈pr,x.1.length=n/\x.2.length=5/\Few x.2)/\τ=[o0,some (.ref p),some (.int (n:Int))]:=⟨_,rfl⟩;refine⟨δ,δ,?_⟩;refine u5 (n:=2) hR2 (aN δ) Pc (by rw[hPc,hxl];exact⟨[],_,cB.refl _ _,tp7.le δ,rfl,.nil,(fun x h=>nomatch h),rfl⟩) ?_ ?_ ?_
    ·intro j acc τ H8 pc;rw[hPc] at pc;obtain⟨pr,_,_,_,hl,ht,_⟩:=pc;have:=ht.length;rw[AE] at this;omega
    ·intro j acc τ H8 hj pc;rw[hPc] at pc;obtain⟨pr,o0,s8,tp8,hl,ht,hp8,rfl⟩:=pc;push_cast;refine⟨p,n,3000+200*j,rfl,tp8,ω,ω,ω,fun wa ws H9 s9 tp9 nwa hwa ewa hwl hwb=>?_⟩;push_cast;refine⟨p,3000+200*j+130,rfl,tp9,ω,ω,fun za zs H10 s10 tp10 nza hza eza hzl hzb=>?_⟩;push_cast;refine⟨aN δ,fun ta hta=>?_⟩;have s11:=aB (o:=HO.tup [V.ref wa,V.ref za]) hta;have e11:upd H10 ta (HO.tup [V.ref wa,V.ref za]) ta=some (HO.tup [V.ref wa,V.ref za]):=aq;generalize upd H10 ta (HO.tup [V.ref wa,V.ref za])=H11 at s11 e11 |-;rw[hPc];have sx11:=s10.trans s11.x;refine⟨pr++[(ws,zs)],_,s8.trans (s9.trans sx11),(tp10.same s11).le ω,by rw[AH,hl];rfl,?_,?_,rfl⟩
     ·rw[A6];refine(ht.Ax (s9.trans sx11)).append (.cons (.tup (tp10.ne hta) e11 (show 2<=1000000 by decide) (.cons (.lst nwa (sx11 _ _ nwa ewa) (by rw[AE];omega) (lW ws)) (.cons (.tup nza (s11 _ _ eza) (by rw[AE];omega) (lW zs)) .nil))) .nil)
     intro x hx;rcases CI.mp hx with hx|hx
     ·exact hp8 x hx
     rw[AK.mp hx];exact⟨hwl,hzl,fun z hz=>by have:=hzb z hz;omega⟩
    intro acc τ H8 d pc hd;rw[hPc] at pc;obtain⟨pr,o0,s8,tp8,hl,ht,hp8,rfl⟩:=pc;have s9:=aB (o:=HO.lst acc) hd;have e9:upd H8 d (HO.lst acc) d=some (HO.lst acc):=aq;have nd:=tp8.ne hd;generalize upd H8 d (HO.lst acc)=H9 at s9 e9 |-;have sx9:=sx7.trans (s8.trans s9.x);have ht9:=ht.same s9;have tr9:=(tr7'.Ax s8).same s9;have nw9:cQ (·≠p) H9:=(tp8.same s9).newOk;have hal:=ht.length;rw[AE,hl] at hal;clear s8 tp8 s9 tsl ht;subst hk2;push_cast;refine kJ fun R3 hR3=>?_;push_cast [e9];intro d2 hd2;have s10:=aB (o:=HO.lst (jz acc none (some 1))) hd2;have e10:upd H9 d2 (HO.lst (jz acc none (some 1))) d2=some (HO.lst (jz acc none (some 1))):=aq;have e10d:=s10 _ _ e9;generalize upd H9 d2 (HO.lst (jz acc none (some 1)))=H10 at s10 e10 e10d |-;push_cast [e10d];have hcut:jz acc none (some 1)=acc.take 1:=aaQ acc 1 ω;rw[hcut];refine⟨aN (by rw[ET];omega),fun d3 hd3=>?_⟩;have s11:=s10.trans (aB (o:=HO.lst (acc++acc.take 1)) hd3);have e11:upd H10 d3 (HO.lst (acc++acc.take 1)) d3=some (HO.lst (acc++acc.take 1)):=aq;generalize upd H10 d3 (HO.lst (acc++acc.take 1))=H11 at s11 e11 |-;have t11:aH (·≠p) H11 (acc++acc.take 1) ((pr++pr.take 1).map prD):=by
     rw[A6,List.map_take];exact(ht9.same s11).append ((ht9.same s11).take 1)
    have hpr:∀x∈pr++pr.take 1,x.1.length=n/\x.2.length=5/\Few x.2:=fun x hx=>(CI.mp hx).elim (hp8 x) fun h=>hp8 x (List.mem_of_mem_take h);generalize pr++pr.take 1=prs at t11 hpr;generalize acc++acc.take 1=ys at e11 t11 |-;obtain⟨Pi,hPi⟩:∃Pv:Nat->L2.St->Hp->Prop,Pv=fun(t:Nat) σ H'=>∃(o7 o8:Option V),Same H11 H'/\σ=[some (.ref a),some (.int (0+(i:Int))),some (.ref p),some (.bl (decide (r3=0))),some (.ref l'),some (.int (xl.length:Int)),some (.ref d),o7,o8]:=⟨_,rfl⟩;refine tX hR3 (xs:=ys) Pi (by rw[hPi];exact⟨_,_,Same.refl _,rfl⟩) ?_ ?_ ?_
    ·intro t σ H12 _ pi;rw[hPi] at pi;obtain⟨_,_,s12,_⟩:=pi;exact SqL.of (s12 _ _ e11)
    ·intro t y σ H12 hy pi;rw[hPi] at pi;obtain⟨o7,o8,s12,rfl⟩:=pi;obtain⟨dd,hdd,tdd⟩:=t11.get hy;rw[AU] at hdd;obtain⟨x,hx,rfl⟩:=BE.mp hdd;obtain⟨x1,x2,x3⟩:=hpr x (A7 hx);obtain⟨py,vs,rfl,epy,tvs⟩:=aG.BV tdd;cases tvs with
     | cons tw tvs=>
      cases tvs with
      | cons tz tvs=>
       cases tvs;obtain⟨za,zv,rfl,eza,tza⟩:=aG.BV tz;cases aH.ints tza;cases tw with
       | lst ow ew zw tws=>
        cases aH.ints tws;rename_i wa;have epy12:=s12 _ _ epy;push_cast [epy12];refine⟨l',wa,za,(·≠p),ss',x.1,x.2,rfl,(nw9.same s11).same s12,(tr9.same s11).same s12,ω,ω,ow,s12 _ _ ew,ω,s12 _ _ eza,x2,x3,fun H13 s13=>⟨true,rfl,?_⟩⟩;rw[if_neg δ,hPi];exact⟨_,_,s12.trans s13,rfl⟩
    intro σ H12 pi;rw[hPi] at pi;obtain⟨o7,o8,s12,rfl⟩:=pi;show Pv (i+1) _ _;rw[hPv];exact⟨s1.trans (V2 (sx9.trans (s11.trans s12).x) hp),_,_,_,_,_,_,_,_,rfl⟩
  push_cast;split
  ·refine⟨p,3,2,rfl,tp3,δ,δ,δ,δ,fun z=>absurd z δ,fun r4 H4 r40 r41 s4 tp4=>?_⟩;push_cast;obtain⟨m,rfl⟩:=E8 r40;rw[show(5:Int)+(m:Int)=((5+m:Nat):Int) by omega];exact nxt _ _ s4 tp4 ω ω
  refine⟨p,4,2,rfl,tp3,δ,δ,δ,δ,fun z=>absurd z δ,fun r4 H4 r40 r41 s4 tp4=>?_⟩;push_cast;obtain⟨m,rfl⟩:=E8 r40;rw[show(1:Int)+(m:Int)=((1+m:Nat):Int) by omega];exact nxt _ _ s4 tp4 ω ω
 intro σ H1 pv;rw[hPv] at pv;obtain⟨s1,o1,o2,o3,o4,o5,o6,o7,o8,rfl⟩:=pv;show k _ _;subst hk;push_cast;exact q _
end
theorem all_mk {l:PySem.W.OpenLaw}{w:Bi}{K:AD}{h:Heap}{mg:Str->Option Ap}{fa:Addr}{f1:Addr}{od1 an1:Option Addr}{sl1:Array (Option Ap)}{oc1 kV1 dc1 pm1 cd1 ct1:Ap}{f2:Addr}{od2 an2:Option Addr}{sl2:Array (Option Ap)}{oc2 kV2 dc2 pm2 cd2 ct2:Ap}{f3:Addr}{od3 an3:Option Addr}{sl3:Array (Option Ap)}{oc3 kV3 dc3 pm3 cd3 ct3:Ap}{f4:Addr}{od4 an4:Option Addr}{sl4:Array (Option Ap)}{oc4 kV4 dc4 pm4 cd4 ct4:Ap}{f5:Addr}{od5 an5:Option Addr}{sl5:Array (Option Ap)}{oc5 kV5 dc5 pm5 cd5 ct5:Ap}{f6:Addr}{od6 an6:Option Addr}{sl6:Array (Option Ap)}{oc6 kV6 dc6 pm6 cd6 ct6:Ap}{f7:Addr}{od7 an7:Option Addr}{sl7:Array (Option Ap)}{oc7 kV7 dc7 pm7 cd7 ct7:Ap}{f8:Addr}{od8 an8:Option Addr}{sl8:Array (Option Ap)}{oc8 kV8 dc8 pm8 cd8 ct8:Ap}{f9:Addr}{od9 an9:Option Addr}{sl9:Array (Option Ap)}{oc9 kV9 dc9 pm9 cd9 ct9:Ap}{f10:Addr}{od10 an10:Option Addr}{sl10:Array (Option Ap)}{oc10 kV10 dc10 pm10 cd10 ct10:Ap}{f11:Addr}{od11 an11:Option Addr}{sl11:Array (Option Ap)}{oc11 kV11 dc11 pm11 cd11 ct11:Ap}{f12:Addr}{od12 an12:Option Addr}{sl12:Array (Option Ap)}{oc12 kV12 dc12 pm12 cd12 ct12:Ap}{f13:Addr}{od13 an13:Option Addr}{sl13:Array (Option Ap)}{oc13 kV13 dc13 pm13 cd13 ct13:Ap}{f14:Addr}{od14 an14:Option Addr}{sl14:Array (Option Ap)}{oc14 kV14 dc14 pm14 cd14 ct14:Ap}{f15:Addr}{od15 an15:Option Addr}{sl15:Array (Option Ap)}{oc15 kV15 dc15 pm15 cd15 ct15:Ap}{f16:Addr}{od16 an16:Option Addr}{sl16:Array (Option Ap)}{oc16 kV16 dc16 pm16 cd16 ct16:Ap}{f17:Addr}{od17 an17:Option Addr}{sl17:Array (Option Ap)}{oc17 kV17 dc17 pm17 cd17 ct17:Ap}{f18:Addr}{od18 an18:Option Addr}{sl18:Array (Option Ap)}{oc18 kV18 dc18 pm18 cd18 ct18:Ap}{f19:Addr}{od19 an19:Option Addr}{sl19:Array (Option Ap)}{oc19 kV19 dc19 pm19 cd19 ct19:Ap}{f20:Addr}{od20 an20:Option Addr}{sl20:Array (Option Ap)}{oc20 kV20 dc20 pm20 cd20 ct20:Ap}{f21:Addr}{od21 an21:Option Addr}{sl21:Array (Option Ap)}{oc21 kV21 dc21 pm21 cd21 ct21:Ap}{f22:Addr}{od22 an22:Option Addr}{sl22:Array (Option Ap)}{oc22 kV22 dc22 pm22 cd22 ct22:Ap}{f23:Addr}{od23 an23:Option Addr}{sl23:Array (Option Ap)}{oc23 kV23 dc23 pm23 cd23 ct23:Ap}{f24:Addr}{od24 an24:Option Addr}{sl24:Array (Option Ap)}{oc24 kV24 dc24 pm24 cd24 ct24:Ap}{f25:Addr}{od25 an25:Option Addr}{sl25:Array (Option Ap)}{oc25 kV25 dc25 pm25 cd25 ct25:Ap}{f26:Addr}{od26 an26:Option Addr}{sl26:Array (Option Ap)}{oc26 kV26 dc26 pm26 cd26 ct26:Ap}{f27:Addr}{od27 an27:Option Addr}{sl27:Array (Option Ap)}{oc27 kV27 dc27 pm27 cd27 ct27:Ap}{f28:Addr}{od28 an28:Option Addr}{sl28:Array (Option Ap)}{oc28 kV28 dc28 pm28 cd28 ct28:Ap}{f29:Addr}{od29 an29:Option Addr}{sl29:Array (Option Ap)}{oc29 kV29 dc29 pm29 cd29 ct29:Ap}{f30:Addr}{od30 an30:Option Addr}{sl30:Array (Option Ap)}{oc30 kV30 dc30 pm30 cd30 ct30:Ap}{f31:Addr}{od31 an31:Option Addr}{sl31:Array (Option Ap)}{oc31 kV31 dc31 pm31 cd31 ct31:Ap}{f32:Addr}{od32 an32:Option Addr}{sl32:Array (Option Ap)}{oc32 kV32 dc32 pm32 cd32 ct32:Ap}{f33:Addr}{od33 an33:Option Addr}{sl33:Array (Option Ap)}{oc33 kV33 dc33 pm33 cd33 ct33:Ap}{f34:Addr}{od34 an34:Option Addr}{sl34:Array (Option Ap)}{oc34 kV34 dc34 pm34 cd34 ct34:Ap}{f35:Addr}{od35 an35:Option Addr}{sl35:Array (Option Ap)}{oc35 kV35 dc35 pm35 cd35 ct35:Ap}{f36:Addr}{od36 an36:Option Addr}{sl36:Array (Option Ap)}{oc36 kV36 dc36 pm36 cd36 ct36:Ap}{f37:Addr}{od37 an37:Option Addr}{sl37:Array (Option Ap)}{oc37 kV37 dc37 pm37 cd37 ct37:Ap}{ckMostInMask:Tok}{ckMostInTable:Tok}{aTests:Addr}{nTests:Nat}{slTests:Array (Option Ap)}{kTests0 kTests1 kTests2 kTests3 kTests4:Tok}(X:K.In h) (G:h.Ns AM mg) (hfa:mg "law" = some (.ref fa))
  (a1:nsIn K AM "is_number" = some (some (.ref f1))) (l1:K.lookup f1=some ⟨oc1,od1,.func (fnOf "is_number" "is_number" (aX fH) (aV fH) (aj fH) .none kV1 dc1 pm1 an1 cd1 ct1),sl1⟩) (c1:CM K cd1 "is_number" = true) (k1:CD K (.ref f1)=true)
  (a2:nsIn K AM "numbers_across" = some (some (.ref f2))) (l2:K.lookup f2=some ⟨oc2,od2,.func (fnOf "numbers_across" "numbers_across" (aX cW) (aV cW) (aj cW) .none kV2 dc2 pm2 an2 cd2 ct2),sl2⟩) (c2:CM K cd2 "numbers_across" = true) (k2:CD K (.ref f2)=true)
  (a3:nsIn K AM "labels_left" = some (some (.ref f3))) (l3:K.lookup f3=some ⟨oc3,od3,.func (fnOf "labels_left" "labels_left" (aX fC) (aV fC) (aj fC) .none kV3 dc3 pm3 an3 cd3 ct3),sl3⟩) (c3:CM K cd3 "labels_left" = true) (k3:CD K (.ref f3)=true)
  (a4:nsIn K AM "parts_some" = some (some (.ref f4))) (l4:K.lookup f4=some ⟨oc4,od4,.func (fnOf "parts_some" "parts_some" (aX dX) (aV dX) (aj dX) .none kV4 dc4 pm4 an4 cd4 ct4),sl4⟩) (c4:CM K cd4 "parts_some" = true) (k4:CD K (.ref f4)=true)
  (a5:nsIn K AM "is_step" = some (some (.ref f5))) (l5:K.lookup f5=some ⟨oc5,od5,.func (fnOf "is_step" "is_step" (aX dj) (aV dj) (aj dj) .none kV5 dc5 pm5 an5 cd5 ct5),sl5⟩) (c5:CM K cd5 "is_step" = true) (k5:CD K (.ref f5)=true)
  (a6:nsIn K AM "plans_in" = some (some (.ref f6))) (l6:K.lookup f6=some ⟨oc6,od6,.func (fnOf "plans_in" "plans_in" (aX eF) (aV eF) (aj eF) .none kV6 dc6 pm6 an6 cd6 ct6),sl6⟩) (c6:CM K cd6 "plans_in" = true) (k6:CD K (.ref f6)=true)
  (a7:nsIn K AM "is_plan" = some (some (.ref f7))) (l7:K.lookup f7=some ⟨oc7,od7,.func (fnOf "is_plan" "is_plan" (aX eU) (aV eU) (aj eU) .none kV7 dc7 pm7 an7 cd7 ct7),sl7⟩) (c7:CM K cd7 "is_plan" = true) (k7:CD K (.ref f7)=true)
  (a8:nsIn K AM "step_costs" = some (some (.ref f8))) (l8:K.lookup f8=some ⟨oc8,od8,.func (fnOf "step_costs" "step_costs" (aX cA) (aV cA) (aj cA) .none kV8 dc8 pm8 an8 cd8 ct8),sl8⟩) (c8:CM K cd8 "step_costs" = true) (k8:CD K (.ref f8)=true)
  (a9:nsIn K AM "bounds_of" = some (some (.ref f9))) (l9:K.lookup f9=some ⟨oc9,od9,.func (fnOf "bounds_of" "bounds_of" (aX g8) (aV g8) (aj g8) .none kV9 dc9 pm9 an9 cd9 ct9),sl9⟩) (c9:CM K cd9 "bounds_of" = true) (k9:CD K (.ref f9)=true)
  (a10:nsIn K AM "stretches_in" = some (some (.ref f10))) (l10:K.lookup f10=some ⟨oc10,od10,.func (fnOf "stretches_in" "stretches_in" (aX dG) (aV dG) (aj dG) .none kV10 dc10 pm10 an10 cd10 ct10),sl10⟩) (c10:CM K cd10 "stretches_in" = true) (k10:CD K (.ref f10)=true)
  (a11:nsIn K AM "set_of" = some (some (.ref f11))) (l11:K.lookup f11=some ⟨oc11,od11,.func (fnOf "set_of" "set_of" (aX m7) (aV m7) (aj m7) .none kV11 dc11 pm11 an11 cd11 ct11),sl11⟩) (c11:CM K cd11 "set_of" = true) (k11:CD K (.ref f11)=true)
  (a12:nsIn K AM "ways_by_label" = some (some (.ref f12))) (l12:K.lookup f12=some ⟨oc12,od12,.func (fnOf "ways_by_label" "ways_by_label" (aX bf) (aV bf) (aj bf) .none kV12 dc12 pm12 an12 cd12 ct12),sl12⟩) (c12:CM K cd12 "ways_by_label" = true) (k12:CD K (.ref f12)=true)
  (a13:nsIn K AM "ways_by_stretch" = some (some (.ref f13))) (l13:K.lookup f13=some ⟨oc13,od13,.func (fnOf "ways_by_stretch" "ways_by_stretch" (aX bF) (aV bF) (aj bF) .none kV13 dc13 pm13 an13 cd13 ct13),sl13⟩) (c13:CM K cd13 "ways_by_stretch" = true) (k13:CD K (.ref f13)=true)
  (a14:nsIn K AM "ways_of_set" = some (some (.ref f14))) (l14:K.lookup f14=some ⟨oc14,od14,.func (fnOf "ways_of_set" "ways_of_set" (aX cI) (aV cI) (aj cI) .none kV14 dc14 pm14 an14 cd14 ct14),sl14⟩) (c14:CM K cd14 "ways_of_set" = true) (k14:CD K (.ref f14)=true)
  (a15:nsIn K AM "cost_charges" = some (some (.ref f15))) (l15:K.lookup f15=some ⟨oc15,od15,.func (fnOf "cost_charges" "cost_charges" (aX cR) (aV cR) (aj cR) .none kV15 dc15 pm15 an15 cd15 ct15),sl15⟩) (c15:CM K cd15 "cost_charges" = true) (k15:CD K (.ref f15)=true)
  (a16:nsIn K AM "charged_ways" = some (some (.ref f16))) (l16:K.lookup f16=some ⟨oc16,od16,.func (fnOf "charged_ways" "charged_ways" (aX cT) (aV cT) (aj cT) .none kV16 dc16 pm16 an16 cd16 ct16),sl16⟩) (c16:CM K cd16 "charged_ways" = true) (k16:CD K (.ref f16)=true)
  (a17:nsIn K AM "least_by" = some (some (.ref f17))) (l17:K.lookup f17=some ⟨oc17,od17,.func (fnOf "least_by" "least_by" (aX cX) (aV cX) (aj cX) .none kV17 dc17 pm17 an17 cd17 ct17),sl17⟩) (c17:CM K cd17 "least_by" = true) (k17:CD K (.ref f17)=true)
  (a18:nsIn K AM "leasts_of_sets" = some (some (.ref f18))) (l18:K.lookup f18=some ⟨oc18,od18,.func (fnOf "leasts_of_sets" "leasts_of_sets" (aX bB) (aV bB) (aj bB) .none kV18 dc18 pm18 an18 cd18 ct18),sl18⟩) (c18:CM K cd18 "leasts_of_sets" = true) (k18:CD K (.ref f18)=true)
  (a19:nsIn K AM "least_plan" = some (some (.ref f19))) (l19:K.lookup f19=some ⟨oc19,od19,.func (fnOf "least_plan" "least_plan" (aX cO) (aV cO) (aj cO) .none kV19 dc19 pm19 an19 cd19 ct19),sl19⟩) (c19:CM K cd19 "least_plan" = true) (k19:CD K (.ref f19)=true)
  (a20:nsIn K AM "_law_cell_at" = some (some (.ref f20))) (l20:K.lookup f20=some ⟨oc20,od20,.func (fnOf "_law_cell_at" "_law_cell_at" (aX iC) (aV iC) (aj iC) .none kV20 dc20 pm20 an20 cd20 ct20),sl20⟩) (c20:CM K cd20 "_law_cell_at" = true) (k20:CD K (.ref f20)=true)
  (a21:nsIn K AM "_law_tape" = some (some (.ref f21))) (l21:K.lookup f21=some ⟨oc21,od21,.func (fnOf "_law_tape" "_law_tape" (aX ju) (aV ju) (aj ju) .none kV21 dc21 pm21 an21 cd21 ct21),sl21⟩) (c21:CM K cd21 "_law_tape" = true) (k21:CD K (.ref f21)=true)
  (a22:nsIn K AM "_law_take" = some (some (.ref f22))) (l22:K.lookup f22=some ⟨oc22,od22,.func (fnOf "_law_take" "_law_take" (aX jw) (aV jw) (aj jw) .none kV22 dc22 pm22 an22 cd22 ct22),sl22⟩) (c22:CM K cd22 "_law_take" = true) (k22:CD K (.ref f22)=true)
  (a23:nsIn K AM "_law_stretches" = some (some (.ref f23))) (l23:K.lookup f23=some ⟨oc23,od23,.func (fnOf "_law_stretches" "_law_stretches" (aX bJ) (aV bJ) (aj bJ) .none kV23 dc23 pm23 an23 cd23 ct23),sl23⟩) (c23:CM K cd23 "_law_stretches" = true) (k23:CD K (.ref f23)=true)
  (a24:nsIn K AM "_law_weights" = some (some (.ref f24))) (l24:K.lookup f24=some ⟨oc24,od24,.func (fnOf "_law_weights" "_law_weights" (aX eE) (aV eE) (aj eE) .none kV24 dc24 pm24 an24 cd24 ct24),sl24⟩) (c24:CM K cd24 "_law_weights" = true) (k24:CD K (.ref f24)=true)
  (a25:nsIn K AM "_law_prices" = some (some (.ref f25))) (l25:K.lookup f25=some ⟨oc25,od25,.func (fnOf "_law_prices" "_law_prices" (aX eZ) (aV eZ) (aj eZ) .none kV25 dc25 pm25 an25 cd25 ct25),sl25⟩) (c25:CM K cd25 "_law_prices" = true) (k25:CD K (.ref f25)=true)
  (a26:nsIn K AM "_law_way" = some (some (.ref f26))) (l26:K.lookup f26=some ⟨oc26,od26,.func (fnOf "_law_way" "_law_way" (aX pq) (aV pq) (aj pq) .none kV26 dc26 pm26 an26 cd26 ct26),sl26⟩) (c26:CM K cd26 "_law_way" = true) (k26:CD K (.ref f26)=true)
  (a27:nsIn K AM "_law_cost" = some (some (.ref f27))) (l27:K.lookup f27=some ⟨oc27,od27,.func (fnOf "_law_cost" "_law_cost" (aX fj) (aV fj) (aj fj) .none kV27 dc27 pm27 an27 cd27 ct27),sl27⟩) (c27:CM K cd27 "_law_cost" = true) (k27:CD K (.ref f27)=true)
  (a28:nsIn K AM "_law_left" = some (some (.ref f28))) (l28:K.lookup f28=some ⟨oc28,od28,.func (fnOf "_law_left" "_law_left" (aX m5) (aV m5) (aj m5) .none kV28 dc28 pm28 an28 cd28 ct28),sl28⟩) (c28:CM K cd28 "_law_left" = true) (k28:CD K (.ref f28)=true)
  (a29:nsIn K AM "_law_set" = some (some (.ref f29))) (l29:K.lookup f29=some ⟨oc29,od29,.func (fnOf "_law_set" "_law_set" (aX rY) (aV rY) (aj rY) .none kV29 dc29 pm29 an29 cd29 ct29),sl29⟩) (c29:CM K cd29 "_law_set" = true) (k29:CD K (.ref f29)=true)
  (a30:nsIn K AM "_law_steps" = some (some (.ref f30))) (l30:K.lookup f30=some ⟨oc30,od30,.func (fnOf "_law_steps" "_law_steps" (aX cu) (aV cu) (aj cu) .none kV30 dc30 pm30 an30 cd30 ct30),sl30⟩) (c30:CM K cd30 "_law_steps" = true) (k30:CD K (.ref f30)=true)
  (a31:nsIn K AM "_law_own" = some (some (.ref f31))) (l31:K.lookup f31=some ⟨oc31,od31,.func (fnOf "_law_own" "_law_own" (aX jZ) (aV jZ) (aj jZ) .none kV31 dc31 pm31 an31 cd31 ct31),sl31⟩) (c31:CM K cd31 "_law_own" = true) (k31:CD K (.ref f31)=true)
  (a32:nsIn K AM "_law_best" = some (some (.ref f32))) (l32:K.lookup f32=some ⟨oc32,od32,.func (fnOf "_law_best" "_law_best" (aX dW) (aV dW) (aj dW) .none kV32 dc32 pm32 an32 cd32 ct32),sl32⟩) (c32:CM K cd32 "_law_best" = true) (k32:CD K (.ref f32)=true)
  (a33:nsIn K AM "_law_all" = some (some (.ref f33))) (l33:K.lookup f33=some ⟨oc33,od33,.func (fnOf "_law_all" "_law_all" (aX gB) (aV gB) (aj gB) .none kV33 dc33 pm33 an33 cd33 ct33),sl33⟩) (c33:CM K cd33 "_law_all" = true) (k33:CD K (.ref f33)=true)
  (a34:nsIn K AM "_law_sums" = some (some (.ref f34))) (l34:K.lookup f34=some ⟨oc34,od34,.func (fnOf "_law_sums" "_law_sums" (aX jx) (aV jx) (aj jx) .none kV34 dc34 pm34 an34 cd34 ct34),sl34⟩) (c34:CM K cd34 "_law_sums" = true) (k34:CD K (.ref f34)=true)
  (a35:nsIn K AM "_law_spanned" = some (some (.ref f35))) (l35:K.lookup f35=some ⟨oc35,od35,.func (fnOf "_law_spanned" "_law_spanned" (aX dh) (aV dh) (aj dh) .none kV35 dc35 pm35 an35 cd35 ct35),sl35⟩) (c35:CM K cd35 "_law_spanned" = true) (k35:CD K (.ref f35)=true)
  (a36:nsIn K AM "_law_told_right" = some (some (.ref f36))) (l36:K.lookup f36=some ⟨oc36,od36,.func (fnOf "_law_told_right" "_law_told_right" (aX aZ) (aV aZ) (aj aZ) .none kV36 dc36 pm36 an36 cd36 ct36),sl36⟩) (c36:CM K cd36 "_law_told_right" = true) (k36:CD K (.ref f36)=true)
  (a37:nsIn K AM "law" = some (some (.ref f37))) (l37:K.lookup f37=some ⟨oc37,od37,.func (fnOf "law" "law" (aX iU) (aV iU) (aj iU) .none kV37 dc37 pm37 an37 cd37 ct37),sl37⟩) (c37:CM K cd37 "law" = true) (k37:CD K (.ref f37)=true)
  (z1:nsIn K AM "abs" = some none)
  (z2:nsIn K AM "bool" = some none)
  (z3:nsIn K AM "dict" = some none)
  (z4:nsIn K AM "enumerate" = some none)
  (z5:nsIn K AM "int" = some none)
  (z6:nsIn K AM "isinstance" = some none)
  (z7:nsIn K AM "len" = some none)
  (z8:nsIn K AM "list" = some none)
  (z9:nsIn K AM "max" = some none)
  (z10:nsIn K AM "min" = some none)
  (z11:nsIn K AM "range" = some none)
  (z12:nsIn K AM "set" = some none)
  (z13:nsIn K AM "sorted" = some none)
  (z14:nsIn K AM "sum" = some none)
  (z15:nsIn K AM "tuple" = some none)
  (z16:nsIn K AM "zip" = some none)
  (w1:nsIn K AM "MOST_IN_MASK" = some (some (.int 64 ckMostInMask)))
  (w2:nsIn K AM "MOST_IN_TABLE" = some (some (.int 200 ckMostInTable)))
  (t1:nsIn K AM "TESTS" = some (some (.ref aTests))) (u1:K.lookup aTests=some ⟨.type "tuple",none,.seq #[.str "is" kTests0,.str "within" kTests1,.str "below" kTests2,.str "mask" kTests3,.str "table" kTests4] nTests,slTests⟩) :
  ∃fd:CY,(∀(s:AB)(v:Ap),BindsTo s fd ⟨[v],[]⟩ [("_law_script",v)])/\∀base:Heap,K.In base->base.Ns AM mg->dF l.prog w K mg base CX0 8 fa fd ["_law_script"] (Kv K):=by
 have e:=hfa.symm.trans (mg_of X G a37);cases e;have DIsNumber:=bT (st:=fH) (ps:=["thing"]) X G a1 l1 c1 k1 fun _ _ _ _ _ _ us hl=>by obtain⟨z0,rfl⟩:=ln1 hl;rfl
 have DNumbersAcross:=bT (st:=cW) (ps:=["stretches","left"]) X G a2 l2 c2 k2 fun _ _ _ _ _ _ us hl=>by obtain⟨z0,z1,rfl⟩:=ln2 hl;rfl
 have DLabelsLeft:=bT (st:=fC) (ps:=["stretches","left"]) X G a3 l3 c3 k3 fun _ _ _ _ _ _ us hl=>by obtain⟨z0,z1,rfl⟩:=ln2 hl;rfl
 have DPartsSome:=bT (st:=dX) (ps:=["stretches","left","label"]) X G a4 l4 c4 k4 fun _ _ _ _ _ _ us hl=>by obtain⟨z0,z1,z2,rfl⟩:=ln3 hl;rfl
 have DIsStep:=bT (st:=dj) (ps:=["stretches","left","thing"]) X G a5 l5 c5 k5 fun _ _ _ _ _ _ us hl=>by obtain⟨z0,z1,z2,rfl⟩:=ln3 hl;rfl
 have DPlansIn:=bT (st:=eF) (ps:=["stretches","left","plan"]) X G a6 l6 c6 k6 fun _ _ _ _ _ _ us hl=>by obtain⟨z0,z1,z2,rfl⟩:=ln3 hl;rfl
 have DIsPlan:=bT (st:=eU) (ps:=["stretches","thing"]) X G a7 l7 c7 k7 fun _ _ _ _ _ _ us hl=>by obtain⟨z0,z1,rfl⟩:=ln2 hl;rfl
 have DStepCosts:=bT (st:=cA) (ps:=["weights","prices","left"]) X G a8 l8 c8 k8 fun _ _ _ _ _ _ us hl=>by obtain⟨z0,z1,z2,rfl⟩:=ln3 hl;rfl
 have DBoundsOf:=bT (st:=g8) (ps:=["ways","numbers"]) X G a9 l9 c9 k9 fun _ _ _ _ _ _ us hl=>by obtain⟨z0,z1,rfl⟩:=ln2 hl;rfl
 have DStretchesIn:=bT (st:=dG) (ps:=["some"]) X G a10 l10 c10 k10 fun _ _ _ _ _ _ us hl=>by obtain⟨z0,rfl⟩:=ln1 hl;rfl
 have DSetOf:=bT (st:=m7) (ps:=["left"]) X G a11 l11 c11 k11 fun _ _ _ _ _ _ us hl=>by obtain⟨z0,rfl⟩:=ln1 hl;rfl
 have DWaysByLabel:=bT (st:=bf) (ps:=["stretches","left"]) X G a12 l12 c12 k12 fun _ _ _ _ _ _ us hl=>by obtain⟨z0,z1,rfl⟩:=ln2 hl;rfl
 have DWaysByStretch:=bT (st:=bF) (ps:=["stretches","left"]) X G a13 l13 c13 k13 fun _ _ _ _ _ _ us hl=>by obtain⟨z0,z1,rfl⟩:=ln2 hl;rfl
 have DWaysOfSet:=bT (st:=cI) (ps:=["stretches","some"]) X G a14 l14 c14 k14 fun _ _ _ _ _ _ us hl=>by obtain⟨z0,z1,rfl⟩:=ln2 hl;rfl
 have DCostCharges:=bT (st:=cR) (ps:=["stretches","weights","prices"]) X G a15 l15 c15 k15 fun _ _ _ _ _ _ us hl=>by obtain⟨z0,z1,z2,rfl⟩:=ln3 hl;rfl
 have DChargedWays:=bT (st:=cT) (ps:=["stretches","charges","some"]) X G a16 l16 c16 k16 fun _ _ _ _ _ _ us hl=>by obtain⟨z0,z1,z2,rfl⟩:=ln3 hl;rfl
 have DLeastBy:=bT (st:=cX) (ps:=["ways","numbers","plans"]) X G a17 l17 c17 k17 fun _ _ _ _ _ _ us hl=>by obtain⟨z0,z1,z2,rfl⟩:=ln3 hl;rfl
 have DLeastsOfSets:=bT (st:=bB) (ps:=["stretches","charges"]) X G a18 l18 c18 k18 fun _ _ _ _ _ _ us hl=>by obtain⟨z0,z1,rfl⟩:=ln2 hl;rfl
 have DLeastPlan:=bT (st:=cO) (ps:=["stretches","weights","prices"]) X G a19 l19 c19 k19 fun _ _ _ _ _ _ us hl=>by obtain⟨z0,z1,z2,rfl⟩:=ln3 hl;rfl
 have DZCellAt:=bT (st:=iC) (ps:=["_law_script","_law_k"]) X G a20 l20 c20 k20 fun _ _ _ _ _ _ us hl=>by obtain⟨z0,z1,rfl⟩:=ln2 hl;rfl
 have DZTape:=bT (st:=ju) (ps:=["_law_script","_law_k"]) X G a21 l21 c21 k21 fun _ _ _ _ _ _ us hl=>by obtain⟨z0,z1,rfl⟩:=ln2 hl;rfl
 have DZTake:=bT (st:=jw) (ps:=["_law_tape_here","_law_many"]) X G a22 l22 c22 k22 fun _ _ _ _ _ _ us hl=>by obtain⟨z0,z1,rfl⟩:=ln2 hl;rfl
 have DZStretches:=bT (st:=bJ) (ps:=["_law_tape_here","_law_many"]) X G a23 l23 c23 k23 fun _ _ _ _ _ _ us hl=>by obtain⟨z0,z1,rfl⟩:=ln2 hl;rfl
 have DZWeights:=bT (st:=eE) (ps:=["_law_tape_here","_law_many"]) X G a24 l24 c24 k24 fun _ _ _ _ _ _ us hl=>by obtain⟨z0,z1,rfl⟩:=ln2 hl;rfl
 have DZPrices:=bT (st:=eZ) (ps:=["_law_tape_here","_law_many"]) X G a25 l25 c25 k25 fun _ _ _ _ _ _ us hl=>by obtain⟨z0,z1,rfl⟩:=ln2 hl;rfl
 have DZWay:=bT (st:=pq) (ps:=["_law_stretches_here","_law_plan","_law_place"]) X G a26 l26 c26 k26 fun _ _ _ _ _ _ us hl=>by obtain⟨z0,z1,z2,rfl⟩:=ln3 hl;rfl
 have DZCost:=bT (st:=fj) (ps:=["_law_stretches_here","_law_weights_here","_law_prices_here","_law_plan"]) X G a27 l27 c27 k27 fun _ _ _ _ _ _ us hl=>by obtain⟨z0,z1,z2,z3,rfl⟩:=ln4 hl;rfl
 have DZLeft:=bT (st:=m5) (ps:=["_law_number","_law_many"]) X G a28 l28 c28 k28 fun _ _ _ _ _ _ us hl=>by obtain⟨z0,z1,rfl⟩:=ln2 hl;rfl
 have DZSet:=bT (st:=rY) (ps:=["_law_left_here"]) X G a29 l29 c29 k29 fun _ _ _ _ _ _ us hl=>by obtain⟨z0,rfl⟩:=ln1 hl;rfl
 have DZSteps:=bT (st:=cu) (ps:=["_law_stretches_here","_law_left_here"]) X G a30 l30 c30 k30 fun _ _ _ _ _ _ us hl=>by obtain⟨z0,z1,rfl⟩:=ln2 hl;rfl
 have DZOwn:=bT (st:=jZ) (ps:=["_law_stretches_here","_law_scale","_law_left_here","_law_word"]) X G a31 l31 c31 k31 fun _ _ _ _ _ _ us hl=>by obtain⟨z0,z1,z2,z3,rfl⟩:=ln4 hl;rfl
 have DZBest:=bT (st:=dW) (ps:=["_law_stretches_here","_law_scale"]) X G a32 l32 c32 k32 fun _ _ _ _ _ _ us hl=>by obtain⟨z0,z1,rfl⟩:=ln2 hl;rfl
 have DZAll:=bT (st:=gB) (ps:=["_law_stretches_here","_law_scale","_law_number","_law_many"]) X G a33 l33 c33 k33 fun _ _ _ _ _ _ us hl=>by obtain⟨z0,z1,z2,z3,rfl⟩:=ln4 hl;rfl
 have DZSums:=bT (st:=jx) (ps:=["_law_some","_law_more"]) X G a34 l34 c34 k34 fun _ _ _ _ _ _ us hl=>by obtain⟨z0,z1,rfl⟩:=ln2 hl;rfl
 have DZSpanned:=bT (st:=dh) (ps:=["_law_tape_here","_law_stretches_here"]) X G a35 l35 c35 k35 fun _ _ _ _ _ _ us hl=>by obtain⟨z0,z1,rfl⟩:=ln2 hl;rfl
 have DZToldRight:=bT (st:=aZ) (ps:=["_law_stretches_here","_law_weights_here","_law_prices_here"]) X G a36 l36 c36 k36 fun _ _ _ _ _ _ us hl=>by obtain⟨z0,z1,z2,rfl⟩:=ln3 hl;rfl
 have DLaw:=bT (st:=iU) (ps:=["_law_script"]) X G a37 l37 c37 k37 fun _ _ _ _ _ _ us hl=>by obtain⟨z0,rfl⟩:=ln1 hl;rfl
 have cgMostInMask:mg "MOST_IN_MASK" = some (.int 64 ckMostInMask):=mg_of X G w1;have cgMostInTable:mg "MOST_IN_TABLE" = some (.int 200 ckMostInTable):=mg_of X G w2;have cgTests:mg "TESTS" = some (.ref aTests):=mg_of X G t1;have ktTests:KTup K aTests ([("is" : Str),("within" : Str),("below" : Str),("mask" : Str),("table" : Str)].map V.str):=⟨_,_,_,u1,rfl,rfl,rfl,aN (show 5<=1000000 by decide),(.cons ⟨_,rfl⟩ (.cons ⟨_,rfl⟩ (.cons ⟨_,rfl⟩ (.cons ⟨_,rfl⟩ (.cons ⟨_,rfl⟩ .nil)))))⟩;have hB:∀x:Str,x∈BLs->mg x=none:=by
  intro x hx;replace hx:x∈(["abs","bool","dict","enumerate","int","isinstance","len","list","max","min","range","set","sorted","sum","tuple","zip"]:List Str):=hx;simp only[A5,A9,or_false] at hx;rcases hx with rfl|rfl|rfl|rfl|rfl|rfl|rfl|rfl|rfl|rfl|rfl|rfl|rfl|rfl|rfl|rfl
  ·exact DI X G z1
  ·exact DI X G z2
  ·exact DI X G z3
  ·exact DI X G z4
  ·exact DI X G z5
  ·exact DI X G z6
  ·exact DI X G z7
  ·exact DI X G z8
  ·exact DI X G z9
  ·exact DI X G z10
  ·exact DI X G z11
  ·exact DI X G z12
  ·exact DI X G z13
  ·exact DI X G z14
  ·exact DI X G z15
  exact DI X G z16
 refine⟨fnOf "law" "law" (aX iU) (aV iU) (aj iU) .none kV37 dc37 pm37 an37 cd37 ct37,fun s v=>.of_eq rfl,fun base kb nb=>?_⟩;have CCell:=DZCellAt.cal (XC (P:=l.prog) (w:=w) (base:=base) hB DZCellAt.fn);have CTape:=DZTape.cal (Xy hB CCell DZTape.fn);have CTake0:=DZTake.cal (Nb (P:=l.prog) (w:=w) (mg:=mg) (base:=base));have CTake1:=DZTake.cal (K5 (n:=0) hB δ CTake0 DZTake.fn);have CTake2:=DZTake.cal (K5 (n:=1) hB δ CTake1 DZTake.fn);have CSts:=DZStretches.cal (aap hB CTake2 DZStretches.fn);have CSpan:=DZSpanned.cal (Jg hB CTake2 DZSpanned.fn);have CWts:=DZWeights.cal (Jf hB CTake2 DZWeights.fn);have CPrs:=DZPrices.cal (NZ hB CTake2 DZPrices.fn);have CWay:=DZWay.cal (aao (P:=l.prog) (w:=w) (base:=base) hB DZWay.fn);have CLCost:=DZCost.cal (SM hB CWay DZCost.fn);have CIn:=DPlansIn.cal (Jh (P:=l.prog) (w:=w) (base:=base) hB DPlansIn.fn);have CAcross:=DNumbersAcross.cal (Oa (P:=l.prog) (w:=w) (base:=base) hB DNumbersAcross.fn);have CLabs:=DLabelsLeft.cal (Xz (P:=l.prog) (w:=w) (base:=base) hB DLabelsLeft.fn);have CNum:=DIsNumber.cal (S9 (P:=l.prog) (w:=w) (base:=base) hB DIsNumber.fn);have CSome:=DPartsSome.cal (S8 hB CLabs DPartsSome.fn);have CStep:=DIsStep.cal (N6 hB cgMostInMask cgMostInTable CNum CAcross CLabs CSome DIsStep.fn);have CIsP:=DIsPlan.cal (N7 hB CStep CIn DIsPlan.fn);have CSetOf:=DSetOf.cal (S7 (P:=l.prog) (w:=w) (base:=base) hB DSetOf.fn);have CWayS:=DWaysByStretch.cal (SQ hB CSetOf DWaysByStretch.fn);have CWayL:=DWaysByLabel.cal (SX hB cgMostInMask cgMostInTable CAcross CLabs CSetOf DWaysByLabel.fn);have CStepC:=DStepCosts.cal (S6 (P:=l.prog) (w:=w) (base:=base) hB cgTests ktTests DStepCosts.fn);have CPlan:∀n,n<=8->0<n->Cal l.prog w K mg base "least_plan" 6 q4_ (uw n):=fun n hn h0=>by
  have CStrIn:=DStretchesIn.cal (S5 (n:=n) (P:=l.prog) (w:=w) (base:=base) ω hB DStretchesIn.fn);have CWys:=DWaysOfSet.cal (aan (n:=n) ω hB CStrIn CWayL CWayS DWaysOfSet.fn);have CChg:=DCostCharges.cal (Jj (n:=n) ω hB CStrIn CStepC DCostCharges.fn);refine DLeastPlan.cal (CJ (n:=n) ω h0 hB (fun ws zs=>?_) CChg DLeastPlan.fn);have CBnd:=DBoundsOf.cal (N8 (f':=cN ws zs) (P:=l.prog) (w:=w) (base:=base) hB DBoundsOf.fn);exact DLeastsOfSets.cal (N5 (M7 ws zs) ω hB (DLeastBy.cal (Ji hB CBnd DLeastBy.fn)) (DChargedWays.cal (Jk (n:=n) ω hB CWys DChargedWays.fn)) DLeastsOfSets.fn)
 have CZSet:=DZSet.cal (Xu (P:=l.prog) (w:=w) (base:=base) hB DZSet.fn);have CZSteps:=DZSteps.cal (NT hB CZSet DZSteps.fn);have CZOwn:=DZOwn.cal (Xv (P:=l.prog) (w:=w) (base:=base) hB DZOwn.fn);have CZLeft:∀n,n<=60->Cal l.prog w K mg base "_law_left" 1 q11_ (wA n):=fun n hn=>DZLeft.cal (SJ (n:=n) (P:=l.prog) (w:=w) (base:=base) hn hB DZLeft.fn);have CZBest:∀n,n<=8->Cal l.prog w K mg base "_law_best" 3 q10_ (Io vg n):=fun n hn=>DZBest.cal (SN vy ω hB (CZLeft n ω) CZSteps CZOwn DZBest.fn);have CZSums:=DZSums.cal (Sy (P:=l.prog) (w:=w) (base:=base) hB DZSums.fn);have CZAll:∀n,n<=8->∀m,m<=4->Cal l.prog w K mg base "_law_all" (m+2) q1_ (ux vg n m):=by
  intro n hn m
  induction m with
  | zero=>exact fun _=>DZAll.cal (all_none (P:=l.prog) (w:=w) (mg:=mg) (base:=base))
  | succ m ih=>exact fun h=>DZAll.cal (Xw vy ω h hB (CZLeft n ω) CZSteps CZOwn CZSums (ih ω) DZAll.fn)
 have CTold:=DZToldRight.cal (Xx hB CPlan CZBest (fun n hn=>CZAll n hn 4 (AZ 4)) CIsP CLCost DZToldRight.fn);exact aaq hB CTape CTake2 CSts CSpan CWts CPrs CTold DLaw.fn
theorem walk {l:PySem.W.OpenLaw}{q:AR}{loose:List Str}{XP:(Str->Option Ap)->Heap->Prop}{YP:Bi->Heap->Prop}{d:DefRec}{K:Params->AD}(hn:l.most=some 63)(hdf:d.params.defaults=[])
  (hY:∀(w:Bi)(h:Heap),YP w h->(K w.params).In h)
  (F:∀(w:Bi)(mg:Str->Option Ap)(fa:Addr)(h:Heap),(K w.params).In h->h.Ns AM mg->mg d.name=some (.ref fa) ->
   ∃fd:CY,(∀(s:AB)(u:Ap),BindsTo s fd ⟨[u],[]⟩ [("_law_script",u)])/\∀base:Heap,(K w.params).In base->base.Ns AM mg->dF l.prog w (K w.params) mg base CX0 8 fa fd ["_law_script"] (Kv (K w.params))) :
  PySem.W.WalkO q loose XP YP l.row.toRowW d [] (fun f vs=>PySem.call f vs):=
 L2.Vq (n:=63) (k:=8) (x := "_law_script") (CX:=fun _=>CX0) (sp:=fun w=>Kv (K w.params)) hn δ hdf ⟨rfl,δ,δ,rfl⟩ hY F (fun _ _ a ns hl _ hS=>⟨a,ns,rfl,hS,hl,fun _=>rfl⟩) fun _ _ _ _ _ z=>z
end K33
namespace PySem.W.Fast
theorem tw15044786174714533990:True:=⟨⟩
theorem tw16058737646703032101:True:=⟨⟩
theorem tw1615086429080757112:True:=⟨⟩
theorem tw2978859010973193501:True:=⟨⟩
theorem tw3900546404249374679:True:=⟨⟩
theorem tw4483987097747889120:True:=⟨⟩
end PySem.W.Fast
open PySem PySem.W PyProof.Rows
set_option maxRecDepth 100000 in
set_option maxHeartbeats 0 in
theorem PySem.Challenge.cw_caseways_k33_least_plans_of_all_holds : PySem.Challenge.rw_caseways_k33_least_plans_of_all.Holds := by
 w_on; o_law; k_head; (case hw=>w_witness2)
 k_fill
 refine K33.walk (l:=PySem.Challenge.rw_caseways_k33_least_plans_of_all) rfl rfl (fun w h Y=>PySem.W.kIn_of Y) ?F
 case F=>
  intro w mg fa h KX G hmg
  refine' K33.all_mk KX G hmg ?a1 ?l1 ?c1 ?k1 ?a2 ?l2 ?c2 ?k2 ?a3 ?l3 ?c3 ?k3 ?a4 ?l4 ?c4 ?k4 ?a5 ?l5 ?c5 ?k5 ?a6 ?l6 ?c6 ?k6 ?a7 ?l7 ?c7 ?k7 ?a8 ?l8 ?c8 ?k8 ?a9 ?l9 ?c9 ?k9 ?a10 ?l10 ?c10 ?k10 ?a11 ?l11 ?c11 ?k11 ?a12 ?l12 ?c12 ?k12 ?a13 ?l13 ?c13 ?k13 ?a14 ?l14 ?c14 ?k14 ?a15 ?l15 ?c15 ?k15 ?a16 ?l16 ?c16 ?k16 ?a17 ?l17 ?c17 ?k17 ?a18 ?l18 ?c18 ?k18 ?a19 ?l19 ?c19 ?k19 ?a20 ?l20 ?c20 ?k20 ?a21 ?l21 ?c21 ?k21 ?a22 ?l22 ?c22 ?k22 ?a23 ?l23 ?c23 ?k23 ?a24 ?l24 ?c24 ?k24 ?a25 ?l25 ?c25 ?k25 ?a26 ?l26 ?c26 ?k26 ?a27 ?l27 ?c27 ?k27 ?a28 ?l28 ?c28 ?k28 ?a29 ?l29 ?c29 ?k29 ?a30 ?l30 ?c30 ?k30 ?a31 ?l31 ?c31 ?k31 ?a32 ?l32 ?c32 ?k32 ?a33 ?l33 ?c33 ?k33 ?a34 ?l34 ?c34 ?k34 ?a35 ?l35 ?c35 ?k35 ?a36 ?l36 ?c36 ?k36 ?a37 ?l37 ?c37 ?k37 ?z1 ?z2 ?z3 ?z4 ?z5 ?z6 ?z7 ?z8 ?z9 ?z10 ?z11 ?z12 ?z13 ?z14 ?z15 ?z16 ?w1 ?w2 ?t1 ?u1
  case a1|l1|c1|k1|a2|l2|c2|k2|a3|l3|c3|k3|a4|l4|c4|k4|a5|l5|c5|k5|a6|l6|c6|k6|a7|l7|c7|k7|a8|l8|c8|k8|a9|l9|c9|k9|a10|l10|c10|k10|a11|l11|c11|k11|a12|l12|c12|k12|a13|l13|c13|k13|a14|l14|c14|k14|a15|l15|c15|k15|a16|l16|c16|k16|a17|l17|c17|k17|a18|l18|c18|k18|a19|l19|c19|k19|a20|l20|c20|k20|a21|l21|c21|k21|a22|l22|c22|k22|a23|l23|c23|k23|a24|l24|c24|k24|a25|l25|c25|k25|a26|l26|c26|k26|a27|l27|c27|k27|a28|l28|c28|k28|a29|l29|c29|k29|a30|l30|c30|k30|a31|l31|c31|k31|a32|l32|c32|k32|a33|l33|c33|k33|a34|l34|c34|k34|a35|l35|c35|k35|a36|l36|c36|k36|a37|l37|c37|k37|z1|z2|z3|z4|z5|z6|z7|z8|z9|z10|z11|z12|z13|z14|z15|z16|w1|w2|t1|u1=>k_is
#print axioms PySem.Challenge.cw_caseways_k33_least_plans_of_all_holds
