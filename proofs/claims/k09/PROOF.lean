import PyProof.Rows.All
import Wide.All
import OpenK.AllK
import Wide.FinOn
import Lean
import PyProof.EqAt
import PyProof.EqKinds
import PyProof.TupleCall
import PyProof.NeData
import PySem.Challenge.RW_caseways_k09_told_twice_refused
local macro_rules | `(tactic| omega) => `(tactic| first | with_reducible assumption | lia | omega +splitDisjunctions)
set_option Elab.async false
set_option linter.all false
set_option maxRecDepth 100000
theorem ω {p : Prop}(h : p := by omega) : p := h
theorem δ {p : Prop}(h : p := by decide) : p := h
theorem ψ {p : Prop}(h : p := by decide +kernel) : p := h
open List (all_cons all_map any_cons any_map drop_drop drop_length ext_getElem filter_congr filter_nil forIn_nil length_range mapM_nil mapM_toArray map_map map_nil map_take mem_flatten nil_append nodup_cons of_mem_zip range_succ reverse_perm set_comm set_cons_succ set_cons_zero sum_append take_sublist zipIdx_cons)
open PySem.Heap (get?_push_ne)
open Option (bind_some getD_none)
open PySem.W (codeIn findCls fnOf keepIn mg_of nsIn nsOkIn readsIn tailIn)
open Array (append_empty size_map toList_map)
open Nat (and_le_right and_zero le_of_eq log2_lt max_eq_right mod_lt mul_add mul_comm mul_one ne_of_gt not_lt pow_add pow_pos pow_succ sub_self succ_mul testBit_or zero_add)
open Int (mul_zero ofNat_inj sub_zero)
open PySem renaming wpAny_bind → An, Value → Ap, wpAny_pure → Au, Shared → AA, wpAny → AE, model → AH, starEach → AJ, sizeLine → AM, SetTable → AU, Program → AW, Builtin → AX, Around → A3, PyData → A7, mainGlobals → Bi, World → BC, wpAny_holding → BI, wpAny_newObj_type → BM, wpAny_mono → BO, wpAny_setField_rec → B0, wpAny_field → Co, compareOp → CO, wpAny_callSpecial?_slot → CS, wpAny_call_entry → CU, foldedSetIterable → CY, wpAny_ite_false → C6, backTo → C8, wpAny_truthy_bool → Da, wpAny_rule → De, FuncData → Dx, mem_of_lookup → DI, NameKind → DS, wpAny_standAt → DV, wpAny_attempt → DZ, bootBuiltins → D0, assignEach → D6, attributeBase → D9, wpAny_seqItems → EC, IsPair → ES, letOwnedTupleGo → EX, sizeLine_eq → E3, wpAny_loadPart_at → E5, codeAny_call_builtin → E6, Spec → E7, holding → Fc, rawInt → Fh, binaryOp → Fk, wpAny_ite_true → Fm, wpAny_askSetting → Fs, Scope → FA, excClassObj → FC, codeAny → FG, wpAny_passesOwn → FR, swapsWithSole → FX, pyNext → F5, boot_len → GG, wpAny_eqBool_int → GI, assign → GW, wpAny_isSubtype_exc → GY, bindName → G0, setField → G1, standAt → G8, codeAny_builtin → Ha, wpAny_call → Hb, wpAny_Call_Name_kw → Hd, typeLookup → He, noteFrame → Hm, keywordEach → HA, setFlight → HC, scanBound → HG, GenState → HI, codeAny_mono → HK, compEnvC → HP, wpAny_pyIter_list → HQ, wpAny_newTuple → HV, swapsWith → Ix, call_meets → Iy, intKind → IE, swappedStores → IG, behindInMarks → IH, Keyword → IJ, wpAny_onRaise → IM, sliceBounds → IR, wpAny_typeOf → JE, notedBy → JO, instanceDict → Kb, pickOrder → Kk, wpAny_bindName → Kt, typeIs_int → Kx, isInstance → KF, wpAny_loadPart → KI, list_append → K2, wpAny_of_eq → Lm, assignInOrder → LA, wpAny_comprehension_free → LB, again → LH, wpAny_pyIter_zip → LJ, backToKw → LM, wpAny_isInstance → LS, Within → L4, codeAny_compStart_list → L6, wpAny_Call_method_late → L7, ExcBaseFacts → L9, wpAny_execs_nil → Mb, codeAny_of_tree → Md, wpAny_newFunctionEnv → MA, ZipApart → MD, wpAny_updateSeq_pair → MH, wpAny_fieldsOf → MM, onTheHeap → MW, strLen_append → M2, plainId_quiet → M3, wpAny_newList → Nc
open And renaming intro → AB
open PySem.W renaming Frag → AC, findIn → B5, mg_none_of → C9, kia_one → DF, Looks → D8, looks_findIn → Ev, kitOne → E9, looks_clsIn → GA, looks_mroIn → HE, findIn → IA, check_slot → IB, specialIn → KU, kitx_list → KW, kitx_dict → K0, looks_takesIn → LG
open PySem.Heap renaming get?_push_of_some → AD, lt_size → AZ, get?_push_size → A8, get?_update_other → BU, SameBut → C3, size_push → D7, get?_update_self → ER, size_update → MO
open List renaming getElem?_eq_some_iff → AF, mem_singleton → AK, length_append → AO, mem_append_right → AQ, getElem?_eq_getElem → AR, length_map → AV, mem_cons_of_mem → A4, mem_append → A6, length_singleton → A9, size_toArray → Bz, length_cons → BA, mem_cons → BB, replicate → BD, mem_cons_self → BE, mem_of_getElem? → BF, getElem?_map → BH, pairwise_append → BQ, range → BS, filterMap → B1, mem_append_left → Cc, not_mem_nil → Cs, getElem?_cons_succ → CB, Perm → CD, length → CF, take_add_one → CM, Nodup → C4, append_nil → DB, take_length → DD, map_append → DJ, mem_range → DL, toArray → DM, filter_cons → DT, pairwise_iff_getElem → DU, length_take → D4, filter_append → Ee, lookup_cons → Ex, mem_map → EF, any_eq_true → EM, pairwise_cons → EO, getElem?_cons_zero → EU, mem_filter → E8, forIn_cons → Fa, mem_reverse → FD, append_assoc → FK, pairwise_singleton → FM, getElem?_append_right → F2, filter_eq_nil_iff → F4, length_drop → F8, map_cons → F9, lookup → GB, length_take_le → GH, getElem?_eq_none → GL, length_filter_le → GM, pairwise_map → GN, getElem?_append_left → GV, replicate_succ → HL, take_of_length_le → HZ, perm_append_comm → IC, contains_cons → II, drop_eq_getElem_cons → IY, mem_iff_getElem → IZ, flatten_cons → JJ, extract → Ki, drop_sublist → Kj, length_nil → KB, length_eq_zero_iff → KE, all_eq_true → Lc, pairwise_lt_range → Ll, range' → Lo, map → LL, take_append_drop → LW, pairwise_reverse → LY, eq_nil_or_concat → LZ, getElem?_set_self → L5, mem_range'_1 → L8, dropLast_eq_take → Mk, getElem?_toArray → Mm, set_append_right → Mn, getElem?_set_ne → Mo, getElem_mem → ME, sum_cons → MG, range'_append_1 → MI, getElem?_of_mem → MQ, getLast?_concat → MR, mem_map_of_mem → MS, filterMap_cons → MX, getElem_of_mem → MY, flatten_append → MZ, filterMap_map → M0, Pairwise → M1
open PyProof.Rows renaming wpS_bind → AG, wpS_pure → AI, arrOf → AL, Keyed → A0, pendingOf → A1, boot_isinstance → B9, SortSt → Ch, wpS_forRange → CH, callWith_type1 → CL, IntsAre → D5, wpS_mono → EE, pairsOf → EG, seqObj → EI, SortKind → EJ, wpS_modify → EV, assignInOrder_cons → FE, firstMet → FV, envOfC → F7, listItems_at → GS, wpS_get → GU, boot_sorted → G2, slot_tuple_getitem → Iq, listUpdate_at → IP, failedOf → IX, AllBare → JA, wpS_lift → KO, seqEpoch_at → Lu, firstOfTuple' → Na
open Nat renaming lt_of_lt_of_le → AN, le_refl → AY, le_trans → BN, ne_of_lt → B4, pow_le_pow_right → B6, testBit_lt_two_pow → Cn, lt_or_ge → C5, lt_irrefl → Db, eq_of_testBit_eq → DH, zero_le → D2, lt_succ_self → EK, lt_succ_of_lt → EN, ge_two_pow_of_testBit → EW, testBit_div_two_pow → Ff, testBit_two_pow → FU, testBit_and → Hn, testBit_two_pow_mul → HH, zero_lt_succ → HU, sub_add_cancel → Ic, lt_of_sub_pos → IL, le_of_lt → IQ, testBit_two_pow_mul_add → JP, testBit_two_pow_sub_one → JU, lt_pow_two_of_testBit → KP, two_pow_pos → Me, add_sub_cancel → ML, le_succ → MV
open Bool renaming false_ne_true → A5, eq_false_iff → B3, and_eq_true → C1, false_and → D1, eq_iff_iff → D3, not_false → EB, false_eq_true → EL, and_true → FY, not_true → F0, true_and → F1, and_false → HM, or_true → JY
open Array renaming getElem?_eq_some_iff → Be, toList_append → Cb, getElem?_toList → Ct, length_toList → CC, getElem?_setIfInBounds_self_of_lt → C7, toList_push → ED, toList_reverse → Fu, toList_extract → KM, getElem?_extract → LX
open PySem.Data renaming fields → BG, seq → FS
open Ne renaming symm → B2
open Option.some renaming inj → B7
open Option renaming map_eq_some_iff → B8
open PySem.Obj renaming mapSeq → Cf
open PySem.PassesOwn renaming never → CA
open Int renaming toNat_natCast → C0, natCast_pow → DC, le_refl → DE, emod_lt_of_pos → EA, emod_nonneg → E4, one_mul → FO, zero_add → HR, lt_or_le → L0, eq_ofNat_of_zero_le → L3, mul_one → My
open PySem.SeqAt renaming EqAt → C2
open False renaming elim → EH
open Or renaming inl → ET, imp_left → Lv
open ForInStep renaming yield → EZ
open PySem.Calls renaming spliced_cons → FF, callWith_builtin → FL, spliced_nil → F3, evalArgs_plain → Gc, Name_function_global → Kn
open PySem.Str renaming ofString → FH
open True renaming intro → F6
open PySem.F renaming slot_tuple_iterator_next → Go, called_set → GO, args_list_append_2 → IU, entry_list_append → Jn, slot_list_append → KA, excBase_ValueError → KL, plainAttrs_list → LP, slot_zip_next → Mc
open Sum renaming inl → KS, inr → MU
open PySem.IsL renaming update → LI
open PyProof.Rows.F renaming plain_set_update_loop → LU
namespace L2
open PySem PySem.Spec PyProof.Rows
abbrev Key:=Sum Int Str
def Zq:Key->Ap->Bool
 | .inl k,v=>Ap.isInt k v
 | .inr x,v=>Ap.isStrOf x v
def acU (w:BC):Key->Int
 | .inl k=>hashInt k
 | .inr x=>hashStr w x
theorem dH:∀{k:Key}{v:Ap},Zq k v=true->(∃i t,k=KS i/\v=Ap.int i t)\/(∃x t,k=MU x/\v=Ap.str x t)
 | .inl i,v,h=>by
  obtain⟨t,e⟩:=Ap.isInt_shape (k:=i) (v:=v) h;exact .inl ⟨i,t,rfl,e⟩
 | .inr x,v,h=>by
  obtain⟨t,e⟩:=Ap.isStrOf_shape (x:=x) (v:=v) h;exact .inr ⟨x,t,rfl,e⟩
theorem abe (a b:Int):decide ((KS a:Key)=KS b)=(a == b):=by
 by_cases e:a=b
 ·subst e;simp
 have h:¬(KS a:Key)=KS b:=fun q=>e (KS.inj q);rw[decide_eq_false h];exact(beq_eq_false_iff_ne.mpr e).symm
theorem aa9 (a b:Str):decide ((MU a:Key)=MU b)=decide (a=b):=by
 by_cases e:a=b
 ·subst e;simp
 have h:¬(MU a:Key)=MU b:=fun q=>e (MU.inj q);rw[decide_eq_false h,decide_eq_false e]
theorem abd (a:Int)(b:Str):decide ((KS a:Key)=MU b)=false:=decide_eq_false (fun q=>nomatch q)
theorem abb (a:Str)(b:Int):decide ((MU a:Key)=KS b)=false:=decide_eq_false (fun q=>nomatch q)
def mR (prog:AW)(w:BC):PySem.KeyKind prog w Key where
 is:=Zq
 hash:=acU w
 inj:=fun v a b ha hb=>by
  rcases dH ha with⟨i,t,rfl,rfl⟩|⟨x,t,rfl,rfl⟩
  ·rcases dH hb with⟨j,u,rfl,e⟩|⟨y,u,rfl,e⟩
   ·injection e with e1 _;rw[e1]
   exact nomatch e
  rcases dH hb with⟨j,u,rfl,e⟩|⟨y,u,rfl,e⟩
  ·exact nomatch e
  injection e with e1 _;rw[e1]
 byValue:=fun k v h=>by
  rcases dH h with⟨i,t,rfl,rfl⟩|⟨x,t,rfl,rfl⟩ <;> rfl
 pyHash:=fun hv h=>by
  rcases dH hv with⟨i,t,rfl,rfl⟩|⟨x,t,rfl,rfl⟩
  ·exact wpAny_pyHash_int h
  exact wpAny_pyHash_str h
 eqBool:=fun hu hv h=>by
  rcases dH hu with⟨i,t,rfl,rfl⟩|⟨x,t,rfl,rfl⟩
  ·rcases dH hv with⟨j,u,rfl,rfl⟩|⟨y,u,rfl,rfl⟩
   ·rw[abe] at h;exact GI h
   rw[abd] at h;exact C2.int_str i t y u _ _ _ _ h
  rcases dH hv with⟨j,u,rfl,rfl⟩|⟨y,u,rfl,rfl⟩
  ·rw[abb] at h;exact C2.str_int x t j u _ _ _ _ h
  rw[aa9] at h;exact wpAny_eqBool_str h
 «strs»:=fun k x t v h=>by
  rcases dH h with⟨i,u,rfl,e⟩|⟨y,u,rfl,e⟩
  ·exact nomatch e
  injection e with e1 _;subst e1;cases v <;> rfl
inductive V where
 | non|bl (b:Bool)|int (i:Int)|str (x:Str)|byt (b:Array UInt8)|flt (b:UInt64)|ref (a:Addr)|ty (n:String)
 deriving DecidableEq
def RelV:V->Ap->Prop
 | .non,u=>u=Ap.none
 | .bl b,u=>u=Ap.bool b
 | .int i,u=>∃t,u=Ap.int i t
 | .str x,u=>∃t,u=Ap.str x t
 | .byt b,u=>∃t,u=Ap.bytes b t
 | .flt b,u=>∃t,u=Ap.float b t
 | .ref a,u=>u=Ap.ref a
 | .ty n,u=>u=Ap.type n
abbrev Vals:List V->List Ap->Prop:=Paired RelV
theorem Vals.length {xs:List V}{us:List Ap}(r:Vals xs us):xs.length=us.length:=Paired.length r
theorem Vals.get:∀{xs:List V}{us:List Ap}{i:Nat}{x:V},Vals xs us->xs[i]?=some x->∃u,us[i]?=some u/\RelV x u
 | _,_,_,_,.nil,e=>by simp at e
 | _,_,0,_,.cons r _,e=>by simp at e;subst e;exact⟨_,rfl,r⟩
 | _,_,i+1,x,.cons _ t,e=>by
  obtain⟨u,h1,h2⟩:=Vals.get (i:=i) (x:=x) t (by simpa using e);exact⟨u,by simpa using h1,h2⟩
theorem Vals.set {x:V}{u:Ap}(r:RelV x u):∀{xs:List V}{us:List Ap}(i:Nat),Vals xs us->Vals (xs.set i x) (us.set i u)
 | _,_,_,.nil=>.nil
 | _,_,0,.cons _ t=>.cons r t
 | _,_,i+1,.cons q t=>.cons q (Vals.set r i t)
theorem Vals.append:∀{xs ys:List V}{us ws:List Ap},Vals xs us->Vals ys ws->Vals (xs++ys) (us++ws)
 | _,_,_,_,.nil,s=>s
 | _,_,_,_,.cons r t,s=>.cons r (Vals.append t s)
theorem Vals.take:∀{xs:List V}{us:List Ap}(n:Nat),Vals xs us->Vals (xs.take n) (us.take n)
 | _,_,0,_=>.nil
 | _,_,_+1,.nil=>.nil
 | _,_,n+1,.cons r t=>.cons r (Vals.take n t)
theorem Vals.drop:∀{xs:List V}{us:List Ap}(n:Nat),Vals xs us->Vals (xs.drop n) (us.drop n)
 | _,_,0,r=>r
 | _,_,_+1,.nil=>.nil
 | _,_,n+1,.cons _ t=>Vals.drop n t
theorem Vals.none_of:∀{xs:List V}{us:List Ap}{i:Nat},Vals xs us->xs[i]?=none->us[i]?=none:=fun {xs us i} r e=>by
 have h1:=r.length;have h2:xs.length<=i:=List.getElem?_eq_none_iff.mp e;exact List.getElem?_eq_none_iff.mpr ω
def Dl:Option V->Option Ap->Prop
 | some v,some u=>RelV v u
 | none,none=>True
 | _,_=>False
def KV {κ:Type}:List (κ×V)->List (κ×Ap)->Prop:=Paired fun(p:κ×V)(q:κ×Ap)=>p.1=q.1/\RelV p.2 q.2
def kV:Key->V
 | .inl i=>.int i
 | .inr x=>.str x
inductive HO where
 /-- a list -/
 | lst (xs:List V)
 /-- a tuple (never changes) -/
 | tup (xs:List V)
 /-- a dict whose keys are ints and texts;one whose keys are tuples of ints and texts (the empty one is both) -/
 | dK (kvs:List (Key×V))|dT (kvs:List (List Key×V))
 /-- a set of ints: its members,its size -/
 | set (S:Int->Bool) (n:Nat)
 /-- an instance of the class at C,its dict at dx,its attributes -/
 | ins (C dx:Addr) (fs:List (Str×V))
 /-- the dict of the instance at x -/
 | own (x:Addr)
 /-- the dict of an exception -/
 | xd (fs:List (Str×V))
 /-- a bound method,f of x -/
 | met (f x:Addr)
 /-- a range object lo,lo+1,.. below hi -/
 | rng (lo hi:Int)
 /-- a thing that is known to the object (the script;a dict while a loop walks it): read,never written while it is so -/
 | frz (o:Obj) (u:HO)
 /-- a code object's table -/
 | tbl (ps:Array Ap)
 /-- any other thing,by what is true of its one object (a def of one's own: SetO a S n:=HO.ext fun h=>..) -/
 | ext (φ:Heap->Prop)
abbrev Hp:=Addr->Option HO
def upd (H:Hp)(a:Addr)(o:HO):Hp:=fun b=>if b=a then some o else H b
theorem aB {H:Hp}{a:Addr}{o:HO}:upd H a o a=some o:=by unfold upd;rw[if_pos rfl]
theorem aF {H:Hp}{a b:Addr}{o:HO}(h:b≠a):upd H a o b=H b:=by unfold upd;rw[if_neg h]
theorem aG {H:Hp}{a b:Addr}{o:HO}(h:H a=some o)(h':H b=none):a≠b:=by
 intro e;subst e;rw[h] at h';cases h'
section
variable (P:AW)(w:BC)
def cW (H:Hp)(h:Heap)(a:Addr):HO->Prop
 | .lst xs=>xs.length<=AM/\∃(its:List Ap)(n:Nat),Vals xs its/\h.get? a=some { cls:=.type "list",data:=.seq its.toArray n }
 | .tup xs=>xs.length<=AM/\∃its:List Ap,Vals xs its/\IsTup h a its.toArray
 | .dK kvs=>kvs.length<=AM/\(a == sysModules)=false/\∃vs,KV kvs vs/\h.DictOf (mR P w) a vs
 | .dT kvs=>kvs.length<=AM/\(a == sysModules)=false/\∃xs:List (List Key×Addr×Ap),
   Paired (fun(p:List Key×V)(q:List Key×Addr×Ap)=>p.1=q.1/\H q.2.1=some (.tup (p.1.map kV))/\RelV p.2 q.2.2) kvs xs /\
   ∃o es ep,h.get? a=some o/\o.ExactDict/\o.data=.dict es ep/\es.toList=xs.map (entryOfKey (tupleKind (mR P w)))/\(xs.map (·.1)).Nodup
 | .set S n=>h.SetOf (IE P w) a S n
 | .ins C dx fs=>H dx=some (.own a)/\fs.length<=1000/\dx≠a/\h.get? a=some (PySem.W.instObj C dx) /\
   ∃mA,h.Ns1 dx mA/\(∀f,Dl (fs.lookup f) (mA f))/\L4 mA (fs.map (·.1))
 | .own _=>∃o,h.get? a=some o
 | .xd fs=>∃mA,h.Ns1 a mA/\∀f,Dl (fs.lookup f) (mA f)
 | .rng lo hi=>∃t u v,h.get? a=some { cls:=.type "range",data:=.fields #[.int lo t,.int hi u,.int 1 v] }
 | .frz o u=>h.get? a=some o/\cW H h a u
 | .tbl ps=>h.get? a=some { cls:=.none,data:=.fields ps }
 | .met f x=>h.get? a=some (PySem.W.methodObj (.ref f) (.ref x))
 | .ext φ=>φ h/\(∃o,h.get? a=some o)/\∀h1 h2:Heap,φ h1->(∀o,h1.get? a=some o->h2.get? a=some o)->φ h2
def HOk (H:Hp)(h:Heap):Prop:=∀a o,H a=some o->cW P w H h a o
end
section
variable {P:AW}{w:BC}{H H':Hp}{h h':Heap}{a:Addr}{o:HO}
theorem cW.lt (x:cW P w H h a o):a<h.objs.size:=by
 cases o with
 | lst xs=>obtain⟨_,_,_,_,e⟩:=x;exact AZ e
 | tup xs=>obtain⟨_,_,_,p⟩:=x;exact p.lt
 | dK kvs=>obtain⟨_,_,_,_,o,_,_,e,_⟩:=x;exact AZ e
 | dT kvs=>obtain⟨_,_,_,_,o,_,_,e,_⟩:=x;exact AZ e
 | set S n=>obtain⟨o,_,_,_,e,_⟩:=x;exact AZ e
 | ins C dx fs=>obtain⟨_,_,_,e,_⟩:=x;exact AZ e
 | own y=>obtain⟨_,e⟩:=x;exact AZ e
 | xd fs=>obtain⟨_,⟨_,_,_,e,_⟩,_⟩:=x;exact AZ e
 | rng lo hi=>obtain⟨_,_,_,e⟩:=x;exact AZ e
 | frz ob u=>obtain⟨e,_⟩:=x;exact AZ e
 | tbl ps=>exact AZ (show h.get? a=some _ from x)
 | met f y=>exact AZ (show h.get? a=some _ from x)
 | ext φ=>obtain⟨_,⟨_,e⟩,_⟩:=x;exact AZ e
theorem Paired.acn {α β:Type}{F G:α->β->Prop}:∀{l₁:List α}{l₂:List β},Paired F l₁ l₂->(∀a b,F a b->G a b)->Paired G l₁ l₂
 | _,_,.nil,_=>.nil
 | _,_,.cons r t,f=>.cons (f _ _ r) (Paired.acn t f)
theorem cW.stay (x:cW P w H h a o)(k:∀b u,(b=a\/H b=some (.own a))->h.get? b=some u->h'.get? b=some u)
  (ho:∀b,H b=some (.own a)->H' b=some (.own a)) (ht:∀b xs,H b=some (.tup xs)->H' b=some (.tup xs)):cW P w H' h' a o:=by
 induction o with
 | lst xs=>obtain⟨z,its,n,r,e⟩:=x;exact⟨z,its,n,r,k _ _ (.inl rfl) e⟩
 | tup xs=>obtain⟨z,its,r,ob,e,c⟩:=x;exact⟨z,its,r,ob,k _ _ (.inl rfl) e,c⟩
 | dK kvs=>obtain⟨z,y,vs,r,ob,es,ep,e,c⟩:=x;exact⟨z,y,vs,r,ob,es,ep,k _ _ (.inl rfl) e,c⟩
 | dT kvs=>
  obtain⟨z,y,xs,r,ob,es,ep,e,c⟩:=x;exact⟨z,y,xs,Paired.acn r fun p q z=>⟨z.1,ht _ _ z.2.1,z.2.2⟩,ob,es,ep,k _ _ (.inl rfl) e,c⟩
 | set S n=>obtain⟨ob,es,ep,t,e,c⟩:=x;exact⟨ob,es,ep,t,k _ _ (.inl rfl) e,c⟩
 | ins C dx fs=>
  obtain⟨d,z,ne,e,mA,⟨od,es,ep,e2,c⟩,r⟩:=x;exact⟨ho _ d,z,ne,k _ _ (.inl rfl) e,mA,⟨od,es,ep,k _ _ (.inr d) e2,c⟩,r⟩
 | own y=>obtain⟨ob,e⟩:=x;exact⟨ob,k _ _ (.inl rfl) e⟩
 | xd fs=>obtain⟨mA,⟨od,es,ep,e,c⟩,r⟩:=x;exact⟨mA,⟨od,es,ep,k _ _ (.inl rfl) e,c⟩,r⟩
 | rng lo hi=>obtain⟨t,u,v,e⟩:=x;exact⟨t,u,v,k _ _ (.inl rfl) e⟩
 | frz ob u ih=>obtain⟨e,q⟩:=x;exact⟨k _ _ (.inl rfl) e,ih q⟩
 | tbl ps=>
  have e:h.get? a=some { cls:=.none,data:=.fields ps }:=x;show h'.get? a=some { cls:=.none,data:=.fields ps };exact k a _ (.inl rfl) e
 | met f y=>
  have e:h.get? a=some (PySem.W.methodObj (.ref f) (.ref y)):=x;show h'.get? a=some (PySem.W.methodObj (.ref f) (.ref y));exact k a _ (.inl rfl) e
 | ext φ=>obtain⟨p,⟨o,e⟩,st⟩:=x;exact⟨st _ _ p fun o q=>k _ _ (.inl rfl) q,⟨o,k _ _ (.inl rfl) e⟩,st⟩
theorem HOk.lt (x:HOk P w H h)(e:H a=some o):a<h.objs.size:=(x a o e).lt
theorem HOk.fresh (x:HOk P w H h)(e:h.objs.size<=a):H a=none:=by
 cases q:H a with
 | none=>rfl
 | some u=>exact absurd (AN (x.lt q) e) (Db _)
theorem HOk.kept (x:HOk P w H h)(k:∀b u,h.get? b=some u->h'.get? b=some u):HOk P w H h':=fun a o e=>
 (x a o e).stay (fun b u _ q=>k b u q) (fun _ q=>q) fun _ _ q=>q
theorem HOk.laid (x:HOk P w H h)(k:∀b u,h.get? b=some u->h'.get? b=some u)(hp:h.objs.size<=a)(new:cW P w (upd H a o) h' a o):HOk P w (upd H a o) h':=fun b u e=>by
 have hn:=x.fresh hp;by_cases hb:b=a
 ·subst hb;rw[aB] at e;cases e;exact new
 rw[aF hb] at e;exact(x b u e).stay (fun c v _ q=>k c v q) (fun c q=>by rw[aF (aG q hn)];exact q) fun c xs q=>by rw[aF (aG q hn)];exact q
end
def Rd (H:Hp)(a:Addr)(u:HO):Prop:=H a=some u\/∃o,H a=some (.frz o u)
theorem Rd.ok {P:AW}{w:BC}{H:Hp}{h:Heap}{a:Addr}{u:HO}(r:Rd H a u)(x:HOk P w H h):cW P w H h a u:=by
 rcases r with r|⟨o,r⟩
 ·exact x a u r
 obtain⟨_,q⟩:=x a _ r;exact q
def Mut:Option HO->Prop
 | some (.lst _)=>True
 | some (.dK _)=>True
 | some (.dT _)=>True
 | some (.set _ _)=>True
 | some (.ins _ _ _)=>True
 | some (.ext _)=>True
 | _=>False
section
variable {P:AW}{w:BC}{H:Hp}{h h':Heap}{x e:Addr}{o':HO}
theorem HOk.write (ok:HOk P w H h)(mu:Mut (H x))(he:e=x\/H e=some (.own x))(k:∀b u,b≠e->h.get? b=some u->h'.get? b=some u)(heo:∃u,h'.get? e=some u)
  (new:cW P w (upd H x o') h' x o'):HOk P w (upd H x o') h':=fun b u q=>by
 have nown:∀c y,H c=some (.own y)->c≠x:=fun c y r z=>by subst z;rw[r] at mu;exact mu
 have ntup:∀c xs,H c=some (.tup xs)->c≠x:=fun c xs r z=>by subst z;rw[r] at mu;exact mu
 by_cases hb:b=x
 ·subst hb;rw[aB] at q;cases q;exact new
 rw[aF hb] at q;by_cases hbe:b=e
 ·have q':H b=some (.own x):=by
   rcases he with z|z
   ·exact absurd (hbe.trans z) hb
   rw[hbe];exact z
  rw[q] at q';cases q';obtain⟨v,hv⟩:=heo;exact⟨v,by rw[hbe];exact hv⟩
 refine(ok b u q).stay (fun c v hc r=>k c v ?_ r) (fun c r=>by rw[aF (nown c b r)];exact r) fun c xs r=>by rw[aF (ntup c xs r)];exact r
 rcases hc with rfl|hc
 ·exact hbe
 rintro rfl;rcases he with z|z
 ·exact nown c b hc z
 rw[hc] at z;cases z;exact hb rfl
end
structure Un (fs ex:List Addr)(H H':Hp)(h h':Heap):Prop where
 keep:∀b o,h.get? b=some o->H b=none->b∉fs->b∉ex->h'.get? b=some o
 slot:∀b o,h.get? b=some o->H b=none->b∈fs->b∉ex->∃sl,h'.get? b=some { o with slots:=sl }
 free:∀b o,h.get? b=some o->H b=none->b∉ex->H' b=none
 there:∀b o,h.get? b=some o->b∉ex->∃o',h'.get? b=some o'
 tups:∀b xs,H b=some (.tup xs)->H' b=some (.tup xs)
 frzs:∀b o u,H b=some (.frz o u)->H' b=some (.frz o u)
 tbls:∀b ps,H b=some (.tbl ps)->∃more,H' b=some (.tbl (ps++more))
section
variable {fs fs' ex ex':List Addr}{H H1 H2:Hp}{h h1 h2 h':Heap}{a x e:Addr}{o:HO}
theorem Un.any (u:Un fs ex H H1 h h1){b:Addr}{ob:Obj}(q:h.get? b=some ob)(n:H b=none)(hx:b∉ex):∃sl,h1.get? b=some { ob with slots:=sl }:=by
 by_cases hb:b∈fs
 ·exact u.slot b ob q n hb hx
 exact⟨ob.slots,u.keep b ob q n hb hx⟩
theorem Un.kept (k:∀b u,h.get? b=some u->h'.get? b=some u):Un fs ex H H h h':=
 ⟨fun b ob q _ _ _=>k b ob q,fun b ob q _ _ _=>⟨ob.slots,k b ob q⟩,fun _ _ _ n _=>n,fun b ob q _=>⟨ob,k b ob q⟩,fun _ _ q=>q,fun _ _ _ q=>q,fun _ ps q=>⟨#[],by rw[q];simp⟩⟩
theorem Un.refl:Un fs ex H H h h:=Un.kept fun _ _ q=>q
theorem Un.laid (k:∀b u,h.get? b=some u->h'.get? b=some u)(hp:h.objs.size<=a)(hn:H a=none):Un fs ex H (upd H a o) h h' where
 keep:=fun b u q _ _ _=>k b u q
 slot:=fun b u q _ _ _=>⟨u.slots,k b u q⟩
 free:=fun b u q n _=>by rw[aF (B4 (AN (AZ q) hp))];exact n
 there:=fun b u q _=>⟨u,k b u q⟩
 tups:=fun b xs q=>by rw[aF (aG q hn)];exact q
 frzs:=fun b u xs q=>by rw[aF (aG q hn)];exact q
 tbls:=fun b ps q=>⟨#[],by rw[aF (aG q hn),q];simp⟩
theorem Un.write (mu:Mut (H x))(he:e=x\/H e=some (.own x))(k:∀b u,b≠e->h.get? b=some u->h'.get? b=some u)(heo:∃u,h'.get? e=some u):Un fs ex H (upd H x o) h h':=by
 have hx:∀b,H b=none->b≠x:=fun b n z=>by subst z;rw[n] at mu;exact mu
 have hb:∀b,H b=none->b≠e:=fun b n z=>by
  subst z;rcases he with r|r
  ·exact hx b n r
  rw[n] at r;cases r
 have hm:∀b u,H b=some u->¬Mut (some u)->b≠x:=fun b u q nm z=>by subst z;rw[q] at mu;exact nm mu
 refine⟨fun b u q n _ _=>k b u (hb b n) q,fun b u q n _ _=>⟨u.slots,k b u (hb b n) q⟩,fun b u q n _=>by rw[aF (hx b n)];exact n,fun b u q _=>?_,
  fun b xs q=>by rw[aF (hm b _ q fun z=>z)];exact q,fun b u xs q=>by rw[aF (hm b _ q fun z=>z)];exact q,fun b ps q=>⟨#[],by rw[aF (hm b _ q fun z=>z),q];simp⟩⟩
 by_cases hbe:b=e
 ·subst hbe;exact heo
 exact⟨u,k b u hbe q⟩
end
def trk (h:Heap)(H:Hp):List Addr:=(BS h.objs.size).filter fun a=>(H a).isSome
def Cz (h:Heap)(H:Hp):Heap:=PySem.W.hideAll h (trk h H)
theorem Nk (h:Heap)(H:Hp):(Cz h H).objs.size=h.objs.size:=PySem.W.hideAll_size _ _
theorem Tj {h:Heap}{H:Hp}{b:Addr}{o:Obj}(e:h.get? b=some o)(n:H b=none):(Cz h H).get? b=some o:=
 PySem.W.hideAll_get _ e fun hm=>by
  have q:(H b).isSome=true:=(E8.mp hm).2;rw[n] at q;simp at q
theorem Xh {h:Heap}{H:Hp}{b:Addr}{o:Obj}(e:(Cz h H).get? b=some o):h.get? b=some o/\H b=none:=by
 have e':h.get? b=some o:=PySem.W.of_hideAll (trk h H) e;refine⟨e',?_⟩;cases q:H b with
 | none=>rfl
 | some x=>
  have hm:b∈trk h H:=E8.mpr ⟨DL.mpr (AZ e'),by simp [q]⟩;have z:(Cz h H).get? b=none:=PySem.W.hideAll_none (trk h H) hm;rw[z] at e;cases e
structure Mod (K:AC)(mg:Str->Option Ap)(base:Heap):Prop where
 kin:K.In base
 glob:base.Ns Bi mg
 blt:∃mb,base.Ns builtinsNs mb/\∀x:Str,x ≠ "__name__" -> mb x=D0 x
 nolimit:base.NoLimit
structure Cx where
 prog:AW
 w:BC
 K:AC
 mg:Str->Option Ap
 base:Heap
 A:A3
 N:List Str
 s₀:AA
 H₀:Hp
 env:Env
 outer:List Env
 stack:List Env
 ex:List Addr
 fn:Str->Bool
 calm:Bool
 pn:List (Addr×Obj)
 xe:Ap->AA->Prop
def frs (l:List Env):List Addr:=l.filterMap (·.frame)
abbrev Cx.fs (X:Cx):List Addr:=frs X.outer
def Vis (sc:FA)(x:Str):Prop:=sc.names.lookup x=some .local\/sc.names.lookup x=some .cell\/sc.names.lookup x=some .free
def Loc (sc:FA)(x:Str):Prop:=sc.names.lookup x=some .local\/sc.names.lookup x=some .cell
def Look (env:Env)(h:Heap)(m:Str->Option Ap)(x:Str)(u:Ap):Prop:=
 (env.kindOf x=some .local/\m x=some u)\/((env.kindOf x=some .cell\/env.kindOf x=some .free)/\∃c,env.cells.lookup x=some c/\h.IsCell c (some u))
structure Cx.Ok (X:Cx):Prop where
 mod:Mod X.K X.mg X.base
 kind:X.env.scope.kind=.function
 glob:X.env.globals=Bi
 blt:X.env.builtins=builtinsNs
 above:X.s₀.heap.objs.size<=X.env.locals
 inj:∀x y c,X.env.cells.lookup x=some c->X.env.cells.lookup y=some c->x=y
 has:∀x,(X.env.kindOf x=some .cell\/X.env.kindOf x=some .free)->∃c,X.env.cells.lookup x=some c
 cab:∀x c,X.fn x=true->X.env.cells.lookup x=some c->X.s₀.heap.objs.size<=c
 hd:X.calm=true->X.A.handled=none
 frames:X.A.frames=some X.stack
 stk:X.stack=X.outer\/(X.stack=X.env::X.outer/\X.env.frame=some X.env.locals)
 exf:∀b∈X.ex,b≠X.env.locals/\∀x c,X.env.cells.lookup x=some c->c≠b
 bs:∀b o,X.base.get? b=some o->X.s₀.heap.get? b=some o/\X.H₀ b=none
 bsz:X.base.objs.size<=X.s₀.heap.objs.size
 noex:∀b o,X.base.get? b=some o->b∉X.ex
 exfs:∀b∈X.ex,b∉X.fs
 pK:X.s₀.heap.FunFrames X.base X.outer
 frf:∀b∈X.fs,X.H₀ b=none
structure Inv (X:Cx)(pins:List (Addr×Obj))(σ:List (Option V))(H:Hp)(s:AA):Prop where
 ok:X.Ok
 os:s.os=X.s₀.os
 bare:JA s.gens
 base:Un X.fs X.ex X.H₀ H X.s₀.heap s.heap
 loc:∃m,s.heap.Ns X.env.locals m/\∀(i:Nat)(x:Str)(v:V),X.N[i]?=some x->σ[i]?=some (some v)->Vis X.env.scope x->∃u,RelV v u/\Look X.env s.heap m x u
 cell:∀x c,X.env.cells.lookup x=some c->∃v,s.heap.IsCell c v
 free:H X.env.locals=none
 freeC:∀x c,X.env.cells.lookup x=some c->H c=none
 pin:∀p∈X.pn++pins,s.heap.get? p.1=some p.2/\H p.1=none/\p.1≠X.env.locals/\p.1∉X.fs/\∀v,p.2.data≠.cell v
 hok:HOk X.prog X.w H s.heap
 len:σ.length=X.N.length
section
variable {X:Cx}{pins:List (Addr×Obj)}{σ:List (Option V)}{H H':Hp}{s:AA}{h':Heap}
theorem Cx.Ok.acS (ok:X.Ok){b:Addr}{o:Obj}(e:X.base.get? b=some o):b∉X.fs:=fun hb=>by
 have:=(ok.pK.mem hb).1;rw[e] at this;cases this
theorem Inv.bs (I:Inv X pins σ H s):∀b o,X.base.get? b=some o->s.heap.get? b=some o/\H b=none:=fun b o e=>
 ⟨I.base.keep b o (I.ok.bs b o e).1 (I.ok.bs b o e).2 (I.ok.acS e) (I.ok.noex b o e),I.base.free b o (I.ok.bs b o e).1 (I.ok.bs b o e).2 (I.ok.noex b o e)⟩
theorem Inv.bk (I:Inv X pins σ H s):∀b o,X.base.get? b=some o->s.heap.get? b=some o:=fun b o e=>(I.bs b o e).1
theorem Inv.mod (I:Inv X pins σ H s):Mod X.K X.mg X.base:=I.ok.mod
theorem Inv.kIn (I:Inv X pins σ H s):X.K.In s.heap:=I.ok.mod.kin.keeps I.bk
theorem Inv.lt (I:Inv X pins σ H s):X.env.locals<s.heap.objs.size:=let ⟨_,hn,_⟩:=I.loc;hn.lt
theorem Inv.sz (I:Inv X pins σ H s):X.s₀.heap.objs.size<=s.heap.objs.size:=BN I.ok.above (IQ I.lt)
theorem Inv.Xi (I:Inv X pins σ H s){a:Addr}(h:s.heap.objs.size<=a):a∉X.fs:=fun hb=>by
 obtain⟨_,o,ho,_⟩:=I.ok.pK.mem hb;exact absurd (AN (AZ ho) (BN I.sz h)) (Db _)
theorem Inv.cne (I:Inv X pins σ H s):∀x c,X.env.cells.lookup x=some c->c≠X.env.locals:=fun x c e z=>by
 obtain⟨v,o,ho,hd⟩:=I.cell x c e;obtain⟨m,⟨o',es,ep,ho',hd',_⟩,_⟩:=I.loc;rw[z,ho'] at ho;cases ho;rw[hd'] at hd;cases hd
theorem Inv.pK (I:Inv X pins σ H s):s.heap.FunFrames X.base X.outer:=by
 have all:∀(l:List Env),(∀b∈frs l,b∈X.fs)->X.s₀.heap.FunFrames X.base l->s.heap.FunFrames X.base l:=by
  intro l
  induction l with
  | nil=>intro _ _;trivial
  | cons env r ih=>
   intro hs hl;obtain⟨hk,⟨L,o,hf,hn,ho,hd⟩,hr⟩:=hl;have hL:L∈X.fs:=hs L (by unfold frs;rw[MX,hf];exact BE);obtain⟨sl,e⟩:=I.base.slot L o ho (I.ok.frf L hL) hL fun z=>I.ok.exfs L z hL;exact⟨hk,⟨L,_,hf,hn,e,hd⟩,ih (fun b hb=>hs b (by unfold frs;rw[MX,hf];exact A4 _ hb)) hr⟩
 exact all X.outer (fun _ hb=>hb) I.ok.pK
theorem Inv.stack (I:Inv X pins σ H s):s.heap.FunFrames X.base X.stack:=by
 rcases I.ok.stk with e|⟨e,hf⟩
 ·rw[e];exact I.pK
 rw[e];obtain⟨m,hn,_⟩:=I.loc;refine .cons (by rw[I.ok.kind];decide) hf hn ?_ I.pK;exact Heap.get?_none_of_le (BN I.ok.bsz I.ok.above)
theorem Inv.qP (I:Inv X pins σ H s):∀b∈frs X.stack,b∈X.env.locals::X.fs:=fun b hb=>by
 rcases I.ok.stk with e|⟨e,hf⟩
 ·rw[e] at hb;exact A4 _ hb
 rw[e] at hb;unfold frs at hb;rw[MX,hf] at hb;exact hb
theorem Inv.vV (I:Inv X pins σ H s):∀b∈frs X.stack,H b=none:=fun b hb=>by
 rcases BB.mp (I.qP b hb) with e|hb
 ·rw[e];exact I.free
 obtain⟨_,o,ho,_⟩:=I.ok.pK.mem hb;exact I.base.free b o ho (I.ok.frf b hb) fun z=>I.ok.exfs b z hb
theorem Inv.step {g':Array HI}{t':Nat}{d':Drawn}{ch:List Addr}(I:Inv X pins σ H s)
  (hch:∀b∈ch,(b∈X.ex\/X.s₀.heap.objs.size<=b)/\b≠X.env.locals/\(∀x c,X.env.cells.lookup x=some c->c≠b)/\∀p∈X.pn++pins,p.1≠b)
  (keep:∀b o,b≠X.env.locals->b∉X.fs->b∉ch->s.heap.get? b=some o->H b=none->h'.get? b=some o)
  (slot:∀b o,b≠X.env.locals->b∈X.fs->b∉ch->s.heap.get? b=some o->H b=none->∃sl,h'.get? b=some { o with slots:=sl }) (free:∀b o,b∉ch->s.heap.get? b=some o->H b=none->H' b=none)
  (there:∀b o,b∉ch->s.heap.get? b=some o->∃o',h'.get? b=some o')
  (tups:∀b xs,H b=some (.tup xs)->H' b=some (.tup xs)) (frzs:∀b o u,H b=some (.frz o u)->H' b=some (.frz o u)) (tbls:∀b ps,H b=some (.tbl ps)->∃more,H' b=some (.tbl (ps++more)))
  (ns:∀m,s.heap.Ns X.env.locals m->h'.Ns X.env.locals m) (hok:HOk X.prog X.w H' h') (hg:JA g') :
  Inv X pins σ H' { s with heap:=h',gens:=g',drawn:=d',toks:=t' }:=by
 have neL:∀b o,X.s₀.heap.get? b=some o->b≠X.env.locals:=fun b o e=>B4 (AN (AZ e) I.ok.above);have neC:∀b o,X.s₀.heap.get? b=some o->b∉X.ex->b∉ch:=fun b o e hx hb=>by
  rcases(hch b hb).1 with z|z
  ·exact hx z
  exact absurd (AN (AZ e) z) (Db _)
 have cellK:∀x c,X.env.cells.lookup x=some c->∀v,s.heap.IsCell c v->h'.IsCell c v:=fun x c e v ⟨o,ho,hd⟩=>by
  have nch:c∉ch:=fun z=>(hch c z).2.2.1 x c e rfl;by_cases hc:c∈X.fs
  ·obtain⟨sl,q⟩:=slot c o (I.cne x c e) hc nch ho (I.freeC x c e);exact⟨_,q,hd⟩
  exact⟨o,keep c o (I.cne x c e) hc nch ho (I.freeC x c e),hd⟩
 refine⟨I.ok,I.os,hg,⟨fun b o e n hb hx=>?_,fun b o e n hb hx=>?_,fun b o e n hx=>?_,fun b o e hx=>?_,fun b xs e=>tups b xs (I.base.tups b xs e),fun b o xs e=>frzs b o xs (I.base.frzs b o xs e),fun b ps e=>?_⟩,?_,fun x c e=>?_,?_,fun x c e=>?_,fun p hp=>?_,hok,I.len⟩
 ·exact keep b o (neL b o e) hb (neC b o e hx) (I.base.keep b o e n hb hx) (I.base.free b o e n hx)
 ·obtain⟨sl,e1⟩:=I.base.slot b o e n hb hx;obtain⟨sl',e2⟩:=slot b _ (neL b o e) hb (neC b o e hx) e1 (I.base.free b o e n hx);exact⟨sl',e2⟩
 ·obtain⟨o',e1⟩:=I.base.there b o e hx;exact free b o' (neC b o e hx) e1 (I.base.free b o e n hx)
 ·obtain⟨o',e1⟩:=I.base.there b o e hx;exact there b o' (neC b o e hx) e1
 ·obtain⟨m1,e1⟩:=I.base.tbls b ps e;obtain⟨m2,e2⟩:=tbls b _ e1;exact⟨m1++m2,by rw[e2,Array.append_assoc]⟩
 ·obtain⟨m,hn,hl⟩:=I.loc;refine⟨m,ns m hn,fun i x v e1 e2 e3=>?_⟩;obtain⟨u,r,l⟩:=hl i x v e1 e2 e3;refine⟨u,r,?_⟩;rcases l with l|⟨k,c,e,z⟩
  ·exact .inl l
  exact .inr ⟨k,c,e,cellK x c e _ z⟩
 ·obtain⟨v,z⟩:=I.cell x c e;exact⟨v,cellK x c e v z⟩
 ·obtain⟨m,⟨o,_,_,ho,_⟩,_⟩:=I.loc;exact free _ o (fun z=>(hch _ z).2.1 rfl) ho I.free
 ·obtain⟨v,o,ho,hd⟩:=I.cell x c e;exact free c o (fun z=>(hch c z).2.2.1 x c e rfl) ho (I.freeC x c e)
 obtain⟨e,n,ne,nf,d⟩:=I.pin p hp;have nch:p.1∉ch:=fun z=>(hch p.1 z).2.2.2 p hp rfl;exact⟨keep p.1 p.2 ne nf nch e n,free p.1 p.2 nch e n,ne,nf,d⟩
theorem Inv.un {t':Nat}(I:Inv X pins σ H s)(u:Un X.fs [] H H' s.heap h')(hok:HOk X.prog X.w H' h'):Inv X pins σ H' { s with heap:=h',toks:=t' }:=by
 obtain⟨m,⟨o,es,ep,ho,r⟩,_⟩:=id I.loc;obtain⟨sl,hL⟩:=u.any ho I.free (by simp);exact I.step (g':=s.gens) (d':=s.drawn) (ch:=[]) (fun _ z=>nomatch z) (fun b o _ hb _ e n=>u.keep b o e n hb (by simp)) (fun b o _ hb _ e n=>u.slot b o e n hb (by simp)) (fun b o _ e n=>u.free b o e n (by simp)) (fun b o _ e=>u.there b o e (by simp)) u.tups u.frzs u.tbls (fun m' hm=>by
  obtain⟨o',es',ep',ho',r'⟩:=hm;rw[ho] at ho';cases ho';exact⟨_,es',ep',hL,r'⟩) hok I.bare
theorem Inv.call {g':Array HI}{t':Nat}{d':Drawn}{ch:List Addr}(I:Inv X pins σ H s)(u:Un (frs X.stack) ch H H' s.heap h')(hok:HOk X.prog X.w H' h')(hg:JA g')
  (hch:∀b∈ch,(b∈X.ex\/X.s₀.heap.objs.size<=b)/\b≠X.env.locals/\(∀x c,X.env.cells.lookup x=some c->c≠b)/\∀p∈X.pn++pins,p.1≠b) :
  Inv X pins σ H' { s with heap:=h',gens:=g',drawn:=d',toks:=t' }:=by
 obtain⟨m,⟨o,es,ep,ho,r⟩,_⟩:=id I.loc;obtain⟨sl,hL⟩:=u.any ho I.free fun z=>(hch _ z).2.1 rfl;exact I.step (ch:=ch) hch (fun b o hL hb hc e n=>u.keep b o e n (fun z=>(BB.mp (I.qP b z)).elim hL hb) hc) (fun b o _ _ hc e n=>u.any e n hc) (fun b o hc e n=>u.free b o e n hc) (fun b o hc e=>u.there b o e hc) u.tups u.frzs u.tbls (fun m' hm=>by
  obtain⟨o',es',ep',ho',r'⟩:=hm;rw[ho] at ho';cases ho';exact⟨_,es',ep',hL,r'⟩) hok hg
theorem Inv.turned {t':Nat}{it:Addr}(I:Inv X pins σ H s)(k:∀b o,b≠it->s.heap.get? b=some o->h'.get? b=some o)(hn:H it=none)(hL:it≠X.env.locals)
  (h1:it∈X.ex\/X.s₀.heap.objs.size<=it) (h2:∀x c,X.env.cells.lookup x=some c->c≠it) (h3:∀p∈X.pn++pins,p.1≠it):Inv X pins σ H { s with heap:=h',toks:=t' }:=by
 have nit:∀b u,H b=some u->b≠it:=fun b u e z=>by rw[z,hn] at e;cases e
 refine I.step (g':=s.gens) (d':=s.drawn) (ch:=[it]) (fun b hb=>?_) (fun b o _ _ hc e _=>k b o (fun z=>hc (by simp [z])) e) (fun b o _ _ hc e _=>⟨o.slots,k b o (fun z=>hc (by simp [z])) e⟩) (fun _ _ _ _ n=>n)
  (fun b o hc e=>⟨o,k b o (fun z=>hc (by simp [z])) e⟩) (fun _ _ e=>e) (fun _ _ _ e=>e) (fun b ps e=>⟨#[],by rw[e];simp⟩) (fun m hm=>?_) (fun b u e=>?_) I.bare
 ·have e:b=it:=by simpa using hb
  subst e;exact⟨h1,hL,h2,h3⟩
 ·obtain⟨o,es,ep,ho,r⟩:=hm;exact⟨o,es,ep,k _ o (B2 hL) ho,r⟩
 refine(I.hok b u e).stay (fun c v hc q=>k c v ?_ q) (fun _ q=>q) fun _ _ q=>q;rcases hc with z|z
 ·rw[z];exact nit b u e
 exact nit c _ z
theorem Inv.tok (I:Inv X pins σ H s)(t:Nat):Inv X pins σ H { s with toks:=t }:=I.un (h':=s.heap) (t':=t) Un.refl I.hok
theorem Inv.kept {t':Nat}(I:Inv X pins σ H s)(k:∀b u,s.heap.get? b=some u->h'.get? b=some u):Inv X pins σ H { s with heap:=h',toks:=t' }:=I.un (Un.kept k) (I.hok.kept k)
theorem Inv.laid {a:Addr}{o:HO}{t':Nat}(I:Inv X pins σ H s)(k:∀b u,s.heap.get? b=some u->h'.get? b=some u)(hp:s.heap.objs.size<=a)(new:cW X.prog X.w (upd H a o) h' a o) :
  Inv X pins σ (upd H a o) { s with heap:=h',toks:=t' }:=I.un (Un.laid k hp (I.hok.fresh hp)) (I.hok.laid k hp new)
theorem Inv.write {x e:Addr}{o:HO}{t':Nat}(I:Inv X pins σ H s)(mu:Mut (H x))(he:e=x\/H e=some (.own x))(k:∀b u,b≠e->s.heap.get? b=some u->h'.get? b=some u)(heo:∃u,h'.get? e=some u)
  (new:cW X.prog X.w (upd H x o) h' x o):Inv X pins σ (upd H x o) { s with heap:=h',toks:=t' }:=I.un (Un.write mu he k heo) (I.hok.write mu he k heo new)
theorem Inv.kE {pins':List (Addr×Obj)}(I:Inv X pins σ H s)(h:∀p∈pins',s.heap.get? p.1=some p.2/\H p.1=none/\p.1≠X.env.locals/\p.1∉X.fs/\∀v,p.2.data≠.cell v):Inv X pins' σ H s:=
 ⟨I.ok,I.os,I.bare,I.base,I.loc,I.cell,I.free,I.freeC,fun p hp=>(A6.mp hp).elim (fun z=>I.pin p (Cc _ z)) (h p),I.hok,I.len⟩
theorem wW {N:List Str}(hN:N.Nodup){i j:Nat}{x:Str}(a:N[i]?=some x)(b:N[j]?=some x):i=j:=by
 obtain⟨h1,e1⟩:=AF.mp a;obtain⟨h2,e2⟩:=AF.mp b;exact(List.getElem_inj hN).mp (e1.trans e2.symm)
theorem zR {M:Model}{A:A3}{E:Ap->AA->Prop}{i:Nat}{x:Str}{v:V}{u:Ap}{Q:Unit->AA->Prop}(I:Inv X pins σ H s)(hN:X.N.Nodup)(hi:X.N[i]?=some x)(hx:Loc X.env.scope x)(r:RelV v u)
  (h:∀s',Inv X pins (σ.set i (some v)) H s'->(∃a,C3 a s.heap s'.heap/\(a=X.env.locals\/X.env.cells.lookup x=some a))->Q () s') (hf:X.fn x=true\/X.env.scope.names.lookup x=some .local:=by first|exact .inl rfl|exact .inr rfl|assumption):AE M A (storeName X.env x u) Q E s:=by
 obtain⟨m,hn,hl⟩:=id I.loc;have hcls:(X.env.scope.kind == .class||(X.env.scope.kind == .module&&X.env.locals != X.env.globals))=false:=by rw[I.ok.kind];rfl
 have hiσ:i<σ.length:=by rw[I.len];exact(AF.mp hi).1
 have cne:=I.cne;have tracked:∀{a:Addr}{h':Heap},(∃o,s.heap.get? a=some o/\H a=none)->C3 a s.heap h'->HOk X.prog X.w H h':=fun {a h'} ha hs b ob e=>by
  obtain⟨_,_,hfree⟩:=ha;refine(I.hok b ob e).stay (fun c w' hc q=>(hs.2 c ?_).trans q) (fun _ q=>q) fun _ _ q=>q;rintro rfl;rcases hc with rfl|hc
  ·rw[hfree] at e;cases e
  rw[hfree] at hc;cases hc
 rcases hx with hk|hk
 ·refine wpAny_storeName_local hk hn (fun h' hn' hs=>?_) hcls;obtain⟨oL,_,_,hoL,_⟩:=id hn;refine h _ ⟨I.ok,I.os,I.bare,⟨fun b o e n hb hx=>?_,fun b o e n hb hx=>?_,I.base.free,fun b o e hx=>?_,I.base.tups,I.base.frzs,I.base.tbls⟩,⟨_,hn',fun j y v' e1 e2 e3=>?_⟩,fun y c e=>?_,I.free,I.freeC,fun p hp=>?_,tracked ⟨oL,hoL,I.free⟩ hs,by simpa using I.len⟩ ⟨_,hs,.inl rfl⟩
  ·exact(hs.2 b (B4 (AN (AZ e) I.ok.above))).trans (I.base.keep b o e n hb hx)
  ·obtain⟨sl,e1⟩:=I.base.slot b o e n hb hx;exact⟨sl,(hs.2 b (B4 (AN (AZ e) I.ok.above))).trans e1⟩
  ·obtain⟨o',e1⟩:=I.base.there b o e hx;exact⟨o',(hs.2 b (B4 (AN (AZ e) I.ok.above))).trans e1⟩
  ·by_cases hj:j=i
   ·subst hj;rw[hi] at e1;cases e1;rw[L5 hiσ] at e2;cases e2;exact⟨u,r,.inl ⟨hk,by simp⟩⟩
   rw[Mo (B2 hj)] at e2;obtain⟨u',r',q⟩:=hl j y v' e1 e2 e3;refine⟨u',r',?_⟩;rcases q with⟨k,e⟩|⟨k,c,e,z⟩
   ·refine .inl ⟨k,?_⟩;have:y≠x:=fun e=>hj (wW hN e1 (e ▸ hi));simp [this,e]
   exact .inr ⟨k,c,e,z.sameBut hs (cne y c e)⟩
  ·obtain⟨w',z⟩:=I.cell y c e;exact⟨w',z.sameBut hs (cne y c e)⟩
  obtain⟨e,n,ne,nf,d⟩:=I.pin p hp;exact⟨(hs.2 p.1 ne).trans e,n,ne,nf,d⟩
 have hfn:X.fn x=true:=by
  rcases hf with z|z
  ·exact z
  rw[z] at hk;cases hk
 obtain⟨c,hc⟩:=I.ok.has x (.inl hk);obtain⟨w',z⟩:=I.cell x c hc;refine wpAny_storeName_cell I.ok.kind hk hc z (fun h' hc' hs=>?_);obtain⟨oc,hoc,hocd⟩:=id z;refine h { s with heap:=h' } ⟨I.ok,I.os,I.bare,⟨fun b o e n hb hx=>?_,fun b o e n hb hx=>?_,I.base.free,fun b o e hx=>?_,I.base.tups,I.base.frzs,I.base.tbls⟩,⟨m,hn.sameBut hs (B2 (cne x c hc)),fun j y v' e1 e2 e3=>?_⟩,fun y c' e=>?_,I.free,I.freeC,fun p hp=>?_,tracked ⟨oc,hoc,I.freeC x c hc⟩ hs,by simpa using I.len⟩ ⟨c,hs,.inr hc⟩
 ·exact(hs.2 b (B4 (AN (AZ e) (I.ok.cab x c hfn hc)))).trans (I.base.keep b o e n hb hx)
 ·obtain⟨sl,e1⟩:=I.base.slot b o e n hb hx;exact⟨sl,(hs.2 b (B4 (AN (AZ e) (I.ok.cab x c hfn hc)))).trans e1⟩
 ·obtain⟨o',e1⟩:=I.base.there b o e hx;exact⟨o',(hs.2 b (B4 (AN (AZ e) (I.ok.cab x c hfn hc)))).trans e1⟩
 ·by_cases hj:j=i
  ·subst hj;rw[hi] at e1;cases e1;rw[L5 hiσ] at e2;cases e2;exact⟨u,r,.inr ⟨.inl hk,c,hc,hc'⟩⟩
  rw[Mo (B2 hj)] at e2;obtain⟨u',r',q⟩:=hl j y v' e1 e2 e3;refine⟨u',r',?_⟩;rcases q with q|⟨k,c',e,z'⟩
  ·exact .inl q
  refine .inr ⟨k,c',e,z'.sameBut hs ?_⟩;rintro rfl;exact hj (wW hN e1 (I.ok.inj _ _ _ e hc ▸ hi))
 ·by_cases hcc:c'=c
  ·subst hcc;exact⟨_,hc'⟩
  obtain⟨w2,z2⟩:=I.cell y c' e;exact⟨w2,z2.sameBut hs hcc⟩
 obtain⟨e,n,ne,nf,d⟩:=I.pin p hp;refine⟨(hs.2 p.1 ?_).trans e,n,ne,nf,d⟩;intro q;rw[q,hoc] at e;have q':oc=p.2:=B7 e;exact d w' (by rw[<- q'];exact hocd)
theorem jd {M:Model}{A:A3}{E:Ap->AA->Prop}{i:Nat}{x:Str}{v:V}{u:Ap}{Q:Unit->AA->Prop}(I:Inv X pins σ H s)(hN:X.N.Nodup)(hi:X.N[i]?=some x)(hx:Loc X.env.scope x)(r:RelV v u)
  (h:∀s',Inv X pins (σ.set i (some v)) H s'->Q () s') (hf:X.fn x=true\/X.env.scope.names.lookup x=some .local:=by first|exact .inl rfl|exact .inr rfl|assumption):AE M A (storeName X.env x u) Q E s:=
 zR I hN hi hx r (fun s' I' _=>h s' I') hf
theorem Inv.call' {s':AA}{ch:List Addr}(I:Inv X pins σ H s)(ho:s'.os=s.os)(u:Un (frs X.stack) ch H H' s.heap s'.heap)(hok:HOk X.prog X.w H' s'.heap)(hg:JA s'.gens)
  (hch:∀b∈ch,(b∈X.ex\/X.s₀.heap.objs.size<=b)/\b≠X.env.locals/\(∀x c,X.env.cells.lookup x=some c->c≠b)/\∀p∈X.pn++pins,p.1≠b):Inv X pins σ H' s':=by
 obtain⟨h',g',d',t',o'⟩:=s';have e:o'=s.os:=ho;subst e;exact I.call (g':=g') (t':=t') (d':=d') u hok hg hch
end
abbrev XK:=Ap->Option Addr->Hp->Prop
abbrev St:=List (Option V)
abbrev VK:=V->Hp->Prop
abbrev TE:=St->Hp->VK->Prop
abbrev TT:=St->Hp->(Bool->Hp->Prop)->Prop
abbrev TA:=St->Hp->(List V->Hp->Prop)->Prop
structure Ends where
 nx:St->Hp->Prop
 rt:VK
 bk:St->Hp->Prop:=fun _ _=>False
 ct:St->Hp->Prop:=fun _ _=>False
abbrev TS:=Ends->St->Hp->Prop
def EP (X:Cx)(pins:List (Addr×Obj))(σ:St)(Q:VK)(u:Ap)(s':AA):Prop:=∃v H',Inv X pins σ H' s'/\RelV v u/\Q v H'
def TP (X:Cx)(pins:List (Addr×Obj))(σ:St)(Q:Bool->Hp->Prop)(b:Bool)(s':AA):Prop:=∃H',Inv X pins σ H' s'/\Q b H'
def AP (X:Cx)(pins:List (Addr×Obj))(σ:St)(Q:List V->Hp->Prop)(us:List Ap)(s':AA):Prop:=∃vs H',Inv X pins σ H' s'/\Vals vs us/\Q vs H'
def SP (X:Cx)(pins:List (Addr×Obj))(D:Ends)(f:Flow)(s':AA):Prop:=
 match f with
 | .next=>∃σ' H',Inv X pins σ' H' s'/\D.nx σ' H'
 | .brk=>∃σ' H',Inv X pins σ' H' s'/\D.bk σ' H'
 | .cont=>∃σ' H',Inv X pins σ' H' s'/\D.ct σ' H'
 | .ret u=>∃v σ' H',Inv X pins σ' H' s'/\RelV v u/\D.rt v H'
def PE (X:Cx)(e:Expr)(t:TE):Prop:=
 ∀(pins:List (Addr×Obj)) (s:AA) (σ:St) (H:Hp) (Q:VK),Inv X pins σ H s->t σ H Q->AE (AH X.prog X.w) X.A (eval e X.env) (EP X pins σ Q) X.xe s
def PT (X:Cx)(e:Expr)(t:TT):Prop:=
 ∀(pins:List (Addr×Obj)) (s:AA) (σ:St) (H:Hp) (Q:Bool->Hp->Prop),Inv X pins σ H s->t σ H Q->AE (AH X.prog X.w) X.A (isTrue e X.env (eval e X.env)) (TP X pins σ Q) X.xe s
def PW (X:Cx)(e:Expr)(t:TT):Prop:=
 ∀(whole:Sem Ap)(pins:List (Addr×Obj)) (s:AA) (σ:St) (H:Hp) (Q:Bool->Hp->Prop),Inv X pins σ H s->t σ H Q->AE (AH X.prog X.w) X.A (isTrue e X.env whole) (TP X pins σ Q) X.xe s
theorem PW.pt {X:Cx}{e:Expr}{t:TT}(h:PW X e t):PT X e t:=h _
def PA (X:Cx)(es:List Expr)(t:TA):Prop:=
 ∀(pos:Pos)(pins:List (Addr×Obj)) (s:AA) (σ:St) (H:Hp) (Q:List V->Hp->Prop),Inv X pins σ H s->t σ H Q->AE (AH X.prog X.w) X.A (spliced (C8 pos (AJ es X.env))) (AP X pins σ Q) X.xe s
def PS (X:Cx)(st:Stmt)(t:TS):Prop:=
 ∀(pins:List (Addr×Obj)) (s:AA) (σ:St) (H:Hp) (D:Ends),Inv X pins σ H s->t D σ H->AE (AH X.prog X.w) X.A (exec st X.env) (SP X pins D) X.xe s
def PSs (X:Cx)(st:List Stmt)(t:TS):Prop:=
 ∀(pins:List (Addr×Obj)) (s:AA) (σ:St) (H:Hp) (D:Ends),Inv X pins σ H s->t D σ H->AE (AH X.prog X.w) X.A (execs st X.env) (SP X pins D) X.xe s
theorem thn {α:Type}{t:Sem α}{Q Q':α->AA->Prop}{M:Model}{A:A3}{E:Ap->AA->Prop}{s:AA}(h:AE M A t Q E s)(hQ:∀a s,Q a s->Q' a s):AE M A t Q' E s:=BO h hQ fun _ _ x=>x
theorem thE {t:Sem Ap}{X:Cx}{pins:List (Addr×Obj)}{σ:St}{Q:VK}{Q':Ap->AA->Prop}{M:Model}{A:A3}{E:Ap->AA->Prop}{s:AA}(h:AE M A t (EP X pins σ Q) E s)(hQ:∀u s x H,Inv X pins σ H s->RelV x u->Q x H->Q' u s):AE M A t Q' E s:=thn h fun u s z=>by
 obtain⟨x,H,I,r,q⟩:=z;exact hQ u s x H I r q
theorem thA {t:Sem (List Ap)}{X:Cx}{pins:List (Addr×Obj)}{σ:St}{Q:List V->Hp->Prop}{Q':List Ap->AA->Prop}{M:Model}{A:A3}{E:Ap->AA->Prop}{s:AA}(h:AE M A t (AP X pins σ Q) E s)(hQ:∀u s x H,Inv X pins σ H s->Vals x u->Q x H->Q' u s):AE M A t Q' E s:=thn h fun u s z=>by
 obtain⟨x,H,I,r,q⟩:=z;exact hQ u s x H I r q
theorem thT {t:Sem Bool}{X:Cx}{pins:List (Addr×Obj)}{σ:St}{Q:Bool->Hp->Prop}{Q':Bool->AA->Prop}{M:Model}{A:A3}{E:Ap->AA->Prop}{s:AA}(h:AE M A t (TP X pins σ Q) E s)(hQ:∀u s H,Inv X pins σ H s->Q u H->Q' u s):AE M A t Q' E s:=thn h fun u s z=>by
 obtain⟨H,I,q⟩:=z;exact hQ u s H I q
section
variable {X:Cx}
def OJ (i:Nat):TE:=fun σ H Q=>∃v,σ[i]?=some (some v)/\Q v H
def tC (v:V):TE:=fun _ H Q=>Q v H
theorem Rg {i:Nat}{x:Str}{pos:Pos}(hN:X.N[i]?=some x) (hv:Vis X.env.scope x) (hd:(x == ("__debug__" : Str))=false:=by decide) (hcd:(x == ("__classdict__" : Str))=false:=by decide):PE X (.Name x pos) (OJ i):=by
 intro pins s σ H Q I h;obtain⟨v,e,h⟩:=h;obtain⟨m,hn,hl⟩:=I.loc;obtain⟨u,r,l⟩:=hl i x v hN e hv;have fin:EP X pins σ Q u s:=⟨v,H,I,r,h⟩;rcases l with⟨hk,hm⟩|⟨hk,c,hc,hcell⟩
 ·exact wpAny_Name (wpAny_loadName_local I.ok.kind hk hn hm fin) hd
 rcases hk with hk|hk
 ·exact wpAny_Name (wpAny_loadName_cell I.ok.kind hk hc hcell fin) hd
 exact wpAny_Name (wpAny_loadName_free I.ok.kind hk hc hcell fin hcd) hd
theorem aaD {i j pos}:PE X (.Constant (.int i) j pos) (tC (.int i)):=fun _ _ _ H _ I h=>wpAny_Constant_int ⟨.int i,H,I.tok _,⟨_,rfl⟩,h⟩
theorem ab9 {b j pos}:PE X (.Constant (.bool b) j pos) (tC (.bl b)):=fun _ _ _ H _ I h=>Constant_bool ⟨.bl b,H,I,rfl,h⟩
theorem aaB {j pos}:PE X (.Constant .none j pos) (tC .non):=fun _ _ _ H _ I h=>Constant_none ⟨.non,H,I,rfl,h⟩
theorem aay {x j pos}:PE X (.Constant (.str x) j pos) (tC (.str x)):=fun _ _ _ H _ I h=>Calls.Constant_str ⟨.str x,H,I.tok _,⟨_,rfl⟩,h⟩
def Gl (X:Cx)(x:Str):Prop:=X.env.kindOf x=some .globalImplicit
theorem wg {E:Ap->AA->Prop}{pins:List (Addr×Obj)}{s:AA}{σ:St}{H:Hp}{x:Str}{u:Ap}{pos:Pos}{Q:Ap->AA->Prop}(I:Inv X pins σ H s)(hg:Gl X x)(hm:X.mg x=some u)(h:Q u s)
  (hd:(x == ("__debug__" : Str))=false:=by decide):AE (AH X.prog X.w) X.A (eval (.Name x pos) X.env) Q E s:=
 Kn I.ok.kind hg (Calls.loadGlobal_global (by rw[I.ok.glob];exact I.mod.glob.keeps I.bk) hm h) hd
theorem jV {E:Ap->AA->Prop}{pins:List (Addr×Obj)}{s:AA}{σ:St}{H:Hp}{x:Str}{u:Ap}{pos:Pos}{Q:Ap->AA->Prop}(I:Inv X pins σ H s)(hg:Gl X x)(hm:X.mg x=none)(hv:D0 x=some u)(h:Q u s)
  (hn:x ≠ "__name__" := by decide) (hd:(x == ("__debug__" : Str))=false:=by decide):AE (AH X.prog X.w) X.A (eval (.Name x pos) X.env) Q E s:=by
 obtain⟨mb,h1,h2⟩:=I.mod.blt;exact Kn I.ok.kind hg (Calls.loadGlobal_builtin (by rw[I.ok.glob];exact I.mod.glob.keeps I.bk) hm (by rw[I.ok.blt];exact h1.keeps I.bk) ((h2 x hn).trans hv) h) hd
theorem WW {x:Str}{v:V}{u:Ap}{pos:Pos}(hg:Gl X x) (hm:X.mg x=some u) (r:RelV v u) (hd:(x == ("__debug__" : Str))=false:=by decide):PE X (.Name x pos) (tC v):=
 fun _ _ _ H _ I h=>wg I hg hm ⟨v,H,I,r,h⟩ hd
theorem W5 {x:Str}{v:V}{u:Ap}{pos:Pos}(hg:Gl X x) (hm:X.mg x=none) (hv:D0 x=some u) (r:RelV v u) (hn:x ≠ "__name__" := by decide) (hd:(x == ("__debug__" : Str))=false:=by decide):PE X (.Name x pos) (tC v):=
 fun _ _ _ H _ I h=>jV I hg hm hv ⟨v,H,I,r,h⟩ hn hd
variable {a b:Expr}{ta tb:TE}{pos:Pos}
def tB (t:TE):TT:=fun σ H Q=>t σ H fun x H1=>∃c,x=.bl c/\Q c H1
theorem aal {e:Expr}{t:TE}(h:PE X e t)(he:∀whole,isTrue e X.env whole=(do let v <- whole;G8 e.pos;Fc [v] (truthy v)):=by intro _;rfl):PT X e (tB t):=by
 intro pins s σ H Q I hw;refine isTrue_plain (thE (h pins s σ H _ I hw) fun v s1 x H1 I1 r1 q1=>?_) (he _);obtain⟨d,rfl,q⟩:=q1;cases r1;exact Da ⟨H1,I1,q⟩
variable {tA tB':TT}{rest:List Expr}
def Vw (t u:TT):TT:=fun σ H Q=>t σ H fun c H1=>if c=true then u σ H1 Q else Q false H1
def tOr (t u:TT):TT:=fun σ H Q=>t σ H fun c H1=>if c=true then Q true H1 else u σ H1 Q
def Vu (t:TT):TT:=fun σ H Q=>t σ H fun c H1=>Q (!c) H1
theorem Wl (ha:PT X a tA):PW X (.BoolOp .And [a] pos) tA:=by
 intro wh pins s σ H Q I h;refine isTrue_and (thn (ha pins s σ H Q I h) fun c s1 e=>?_);cases c with
 | true=>exact isTrue_and_nil e
 | false=>exact e
theorem aai (ha:PT X a tA):PW X (.BoolOp .Or [a] pos) tA:=by
 intro wh pins s σ H Q I h;refine isTrue_or (thn (ha pins s σ H Q I h) fun c s1 e=>?_);cases c with
 | false=>exact isTrue_or_nil e
 | true=>exact e
theorem aak (ha:PT X a tA)(hb:PW X (.BoolOp .And (b::rest) pos) tB'):PW X (.BoolOp .And (a::b::rest) pos) (Vw tA tB'):=by
 intro wh pins s σ H Q I h;refine isTrue_and (thT (ha pins s σ H _ I h) fun c s1 H1 I1 q1=>?_);cases c with
 | true=>exact hb wh pins s1 σ H1 Q I1 q1
 | false=>exact⟨H1,I1,q1⟩
theorem abY (ha:PT X a tA)(hb:PW X (.BoolOp .Or (b::rest) pos) tB'):PW X (.BoolOp .Or (a::b::rest) pos) (tOr tA tB'):=by
 intro wh pins s σ H Q I h;refine isTrue_or (thT (ha pins s σ H _ I h) fun c s1 H1 I1 q1=>?_);cases c with
 | true=>exact⟨H1,I1,q1⟩
 | false=>exact hb wh pins s1 σ H1 Q I1 q1
theorem aan (ha:PT X a tA):PT X (.UnaryOp .Not a pos) (Vu tA):=by
 intro pins s σ H Q I h;exact isTrue_not (ha pins s σ H (fun c H1=>Q (!c) H1) I h)
def Pj (ta tb:TE):TE:=fun σ H Q=>ta σ H fun x H1=>∃c,x=.bl c/\if c=true then tb σ H1 Q else Q (.bl false) H1
def O3 (ta:TE):TE:=fun σ H Q=>ta σ H fun x H1=>∃c,x=.bl c/\Q (.bl (!c)) H1
theorem aaz {op}{t:TE}(h:PE X a t):PE X (.BoolOp op [a] pos) t:=fun pins s σ H Q I hw=>BoolOp_one (h pins s σ H Q I hw)
theorem aaF (ha:PE X a ta)(hb:PE X (.BoolOp .And (b::rest) pos) tb):PE X (.BoolOp .And (a::b::rest) pos) (Pj ta tb):=by
 intro pins s σ H Q I h;refine BoolOp_and (thE (ha pins s σ H _ I h) fun v s1 x H1 I1 r1 q1=>?_);obtain⟨c,rfl,q1⟩:=q1;cases r1;refine Da ?_;cases c with
 | true=>exact hb pins s1 σ H1 Q I1 q1
 | false=>exact⟨.bl false,H1,I1,rfl,q1⟩
theorem aaA (ha:PE X a ta):PE X (.UnaryOp .Not a pos) (O3 ta):=by
 intro pins s σ H Q I h;refine UnaryOp_ (thE (ha pins s σ H _ I h) fun v s1 x H1 I1 r1 q1=>?_);obtain⟨c,rfl,q1⟩:=q1;cases r1;exact not_of (Da ⟨.bl (!c),H1,I1,rfl,q1⟩)
def tIf (t:TT)(ta tb:TE):TE:=fun σ H Q=>t σ H fun c H1=>if c=true then ta σ H1 Q else tb σ H1 Q
theorem Rj {c:Expr}(hc:PT X c tA)(ha:PE X a ta)(hb:PE X b tb):PE X (.IfExp c a b pos) (tIf tA ta tb):=by
 intro pins s σ H Q I h;refine wpAny_IfExp (thT (hc pins s σ H _ I h) fun d s1 H1 I1 q1=>?_);cases d with
 | true=>exact ha pins s1 σ H1 Q I1 q1
 | false=>exact hb pins s1 σ H1 Q I1 q1
end
def SqL (K:AC)(H:Hp)(a:Addr)(xs:List V):Prop:=
 Rd H a (.lst xs) \/
  ∃(o:Obj)(its:Array Ap)(n:Nat),K.lookup a=some o/\o.cls=.type "list" /\ o.dict=none/\o.data=.seq its n/\its.size<=AM/\Vals xs its.toList
def SqT (K:AC)(H:Hp)(a:Addr)(xs:List V):Prop:=
 Rd H a (.tup xs) \/
  ∃(o:Obj)(its:Array Ap)(n:Nat),K.lookup a=some o/\o.cls=.type "tuple" /\ o.data=.seq its n/\its.size<=AM/\Vals xs its.toList
def acZ:Ap->Option V
 | .none=>some .non
 | .bool b=>some (.bl b)
 | .int i _=>some (.int i)
 | .str x _=>some (.str x)
 | .bytes b _=>some (.byt b)
 | .float b _=>some (.flt b)
 | .ref a=>some (.ref a)
 | .type n=>some (.ty n)
 | _=>none
theorem RelV.abs {x:V}{u:Ap}(r:RelV x u):acZ u=some x:=by
 cases x with
 | non=>cases r;rfl
 | bl _=>cases r;rfl
 | int _=>obtain⟨t,rfl⟩:=r;rfl
 | str _=>obtain⟨t,rfl⟩:=r;rfl
 | byt _=>obtain⟨t,rfl⟩:=r;rfl
 | flt _=>obtain⟨t,rfl⟩:=r;rfl
 | ref _=>cases r;rfl
 | ty _=>cases r;rfl
theorem RelV.inj {x y:V}{u:Ap}(r:RelV x u)(q:RelV y u):x=y:=B7 (r.abs.symm.trans q.abs)
theorem Vals.inj:∀{xs ys:List V}{us:List Ap},Vals xs us->Vals ys us->xs=ys
 | _,_,_,.nil,.nil=>rfl
 | _,_,_,.cons r t,.cons r' t'=>by rw[r.inj r',Vals.inj t t']
section
variable {X:Cx}{pins:List (Addr×Obj)}{σ:St}{H:Hp}{s:AA}{a:Addr}{xs ys:List V}
theorem SqL.of {K:AC}(h:H a=some (.lst xs)):SqL K H a xs:=.inl (.inl h)
theorem SqT.of {K:AC}(h:H a=some (.tup xs)):SqT K H a xs:=.inl (.inl h)
theorem Inv.list (I:Inv X pins σ H s)(h:SqL X.K H a xs):∃its:List Ap,Vals xs its/\PlainL s.heap a its.toArray/\xs.length<=AM:=by
 rcases h with h|⟨o,its,n,hk,hc,hd,hs,hz,r⟩
 ·obtain⟨z,its,n,r,e⟩:=h.ok I.hok;exact⟨its,r,⟨_,n,e,rfl,rfl,rfl⟩,z⟩
 refine⟨its.toList,r,⟨o,n,I.kIn a o hk,hc,hd,by simpa using hs⟩,?_⟩;have e:=r.length;simp only[CC] at e;omega
theorem Inv.tuple (I:Inv X pins σ H s)(h:SqT X.K H a xs):∃its:List Ap,Vals xs its/\IsTup s.heap a its.toArray/\xs.length<=AM:=by
 rcases h with h|⟨o,its,n,hk,hc,hs,hz,r⟩
 ·obtain⟨z,its,r,p⟩:=h.ok I.hok;exact⟨its,r,p,z⟩
 refine⟨its.toList,r,⟨o,I.kIn a o hk,hc,n,by simpa using hs⟩,?_⟩;have e:=r.length;simp only[CC] at e;omega
theorem Inv.tQ (I:Inv X pins σ H s)(h:SqL X.K H a xs)(h':SqL X.K H a ys):xs=ys:=by
 obtain⟨its,r,⟨o,n,e,_,_,d⟩,_⟩:=I.list h;obtain⟨its',r',⟨o',n',e',_,_,d'⟩,_⟩:=I.list h';rw[e] at e';cases e';rw[d] at d';injection d' with d1 _;have:its=its':=by simpa using congrArg Array.toList d1
 subst this;exact r.inj r'
theorem Inv.uE (I:Inv X pins σ H s)(h:SqT X.K H a xs)(h':SqT X.K H a ys):xs=ys:=by
 obtain⟨its,r,⟨o,e,_,n,d⟩,_⟩:=I.tuple h;obtain⟨its',r',⟨o',e',_,n',d'⟩,_⟩:=I.tuple h';rw[e] at e';cases e';rw[d] at d';injection d' with d1 _;have:its=its':=by simpa using congrArg Array.toList d1
 subst this;exact r.inj r'
end
abbrev Cx.wish (X:Cx)(E:Ap->AA->Prop):Cx:={ X with xe:=E }
abbrev Cx.nox (X:Cx):Cx:=X.wish fun _ _=>False
theorem Cx.Ok.wish {X:Cx}(ok:X.Ok)(E:Ap->AA->Prop):(X.wish E).Ok:=
 ⟨ok.mod,ok.kind,ok.glob,ok.blt,ok.above,ok.inj,ok.has,ok.cab,ok.hd,ok.frames,ok.stk,ok.exf,ok.bs,ok.bsz,ok.noex,ok.exfs,ok.pK,ok.frf⟩
theorem Cx.Ok.nO {X:Cx}{E:Ap->AA->Prop}(ok:(X.wish E).Ok):X.Ok:=
 ⟨ok.mod,ok.kind,ok.glob,ok.blt,ok.above,ok.inj,ok.has,ok.cab,ok.hd,ok.frames,ok.stk,ok.exf,ok.bs,ok.bsz,ok.noex,ok.exfs,ok.pK,ok.frf⟩
section
variable {X:Cx}{pins:List (Addr×Obj)}{σ:St}{H:Hp}{s:AA}{E:Ap->AA->Prop}
theorem Inv.wish (I:Inv X pins σ H s)(E:Ap->AA->Prop):Inv (X.wish E) pins σ H s:=⟨I.ok.wish E,I.os,I.bare,I.base,I.loc,I.cell,I.free,I.freeC,I.pin,I.hok,I.len⟩
theorem Inv.nO (I:Inv (X.wish E) pins σ H s):Inv X pins σ H s:=⟨I.ok.nO,I.os,I.bare,I.base,I.loc,I.cell,I.free,I.freeC,I.pin,I.hok,I.len⟩
theorem SP.nO {D:Ends}{f:Flow}{s':AA}(h:SP (X.wish E) pins D f s'):SP X pins D f s':=by
 cases f with
 | next=>obtain⟨σ',H',I,q⟩:=h;exact⟨σ',H',I.nO,q⟩
 | brk=>obtain⟨σ',H',I,q⟩:=h;exact⟨σ',H',I.nO,q⟩
 | cont=>obtain⟨σ',H',I,q⟩:=h;exact⟨σ',H',I.nO,q⟩
 | ret u=>obtain⟨v,σ',H',I,r,q⟩:=h;exact⟨v,σ',H',I.nO,r,q⟩
theorem PSs.nox {st:List Stmt}{t:TS}(h:PSs X.nox st t):PSs X st t:=fun pins s σ H D I hw=>
 BO (h pins s σ H D (I.wish _) hw) (fun _ _ q=>q.nO) fun _ _ z=>EH z
end
section
variable {X:Cx}{st:Stmt}{rest:List Stmt}{t u:TS}{e:Expr}{te:TE}{pos:Pos}
def JF:TS:=fun D σ H=>D.nx σ H
def GZ (t u:TS):TS:=fun D σ H=>t { D with nx:=u D } σ H
theorem Ws:PSs X [] JF:=fun _ _ σ H _ I h=>Mb ⟨σ,H,I,h⟩
theorem Q9 (h1:PS X st t)(h2:PSs X rest u):PSs X (st::rest) (GZ t u):=by
 intro pins s σ H D I h;refine wpAny_execs_cons (thn (h1 pins s σ H { D with nx:=u D } I h) fun f s1 q=>?_);cases f with
 | next=>
  obtain⟨σ',H',I',q⟩:=q;exact h2 pins s1 σ' H' D I' q
 | ret v=>exact q
 | brk=>exact q
 | cont=>exact q
theorem Wr (h1:PS X st t):PSs X [st] t:=by
 intro pins s σ H D I h;refine wpAny_execs_cons (thn (h1 pins s σ H D I h) fun f s1 q=>?_);cases f with
 | next=>exact Mb q
 | ret v=>exact q
 | brk=>exact q
 | cont=>exact q
theorem Inv.quiet {pins:List (Addr×Obj)}{σ:St}{H:Hp}{s:AA}(I:Inv X pins σ H s):interactive X.env=false:=by simp [interactive,I.ok.kind]
def O9 (te:TE):TS:=fun D σ H=>te σ H fun _ H1=>D.nx σ H1
theorem Wy (he:PE X e te)(hs:Ix e none pos.line X.env=pure false:=by rfl):PS X (.Expr e pos) (O9 te):=by
 intro pins s σ H D I h;exact wpAny_Expr_any (thE (he pins s σ H _ I h) fun v s1 x H1 I1 r1 q1=>⟨σ,H1,I1,q1⟩) I.quiet hs
def DG (te:TE):TS:=fun D σ H=>te σ H D.rt
theorem aaq (he:PE X e te):PS X (.Return (some e) pos) (DG te):=by
 intro pins s σ H D I h;exact wpAny_Return_some (thE (he pins s σ H _ I h) fun v s1 x H1 I1 r1 q1=>⟨x,σ,H1,I1,r1,q1⟩)
def O6 (c:TT)(t u:TS):TS:=fun D σ H=>c σ H fun b H1=>if b=true then t D σ H1 else u D σ H1
theorem ab0 {c:Expr}{a b:List Stmt}{tc:TT}(hc:PT X c tc)(ha:PSs X a t)(hb:PSs X b u):PS X (.If c a b pos) (O6 tc t u):=by
 intro pins s σ H D I h;refine wpAny_If (thT (hc pins s σ H _ I h) fun d s1 H1 I1 q1=>?_);cases d with
 | true=>exact ha pins s1 σ H1 D I1 q1
 | false=>exact hb pins s1 σ H1 D I1 q1
end
abbrev TG:=V->St->Hp->(St->Hp->Prop)->Prop
abbrev TGs:=List V->St->Hp->(St->Hp->Prop)->Prop
def PG (X:Cx)(target:Expr)(t:TG):Prop:=
 ∀(pins:List (Addr×Obj)) (s:AA) (σ:St) (H:Hp) (v:V) (u:Ap) (Q:St->Hp->Prop),Inv X pins σ H s->RelV v u->t v σ H Q ->
  AE (AH X.prog X.w) X.A (GW target X.env u) (fun _ s'=>∃σ' H',Inv X pins σ' H' s'/\Q σ' H') X.xe s
def PGs (X:Cx)(ts:List Expr)(t:TGs):Prop:=
 ∀(pins:List (Addr×Obj)) (s:AA) (σ:St) (H:Hp) (vs:List V) (us:List Ap) (Q:St->Hp->Prop),Inv X pins σ H s->Vals vs us->t vs σ H Q ->
  AE (AH X.prog X.w) X.A (LA ((D6 ts X.env).map (·.2)) us) (fun _ s'=>∃σ' H',Inv X pins σ' H' s'/\Q σ' H') X.xe s
abbrev Vb:=V->V->V->Hp->(Hp->Prop)->Prop
def Vd (X:Cx)(t:Vb):Prop:=
 ∀(pins:List (Addr×Obj)) (s:AA) (σ:St) (H:Hp) (o i v:V) (ov iv u:Ap) (Q:Hp->Prop),Inv X pins σ H s->RelV o ov->RelV i iv->RelV v u->t o i v H Q ->
  AE (AH X.prog X.w) X.A (setItem ov iv u) (fun _ s'=>∃H',Inv X pins σ H' s'/\Q H') X.xe s
section
variable {X:Cx}{pos:Pos}
def jZ (i:Nat):TG:=fun v σ H Q=>Q (σ.set i (some v)) H
theorem J8 {i:Nat}{x:Str}(hN:X.N.Nodup)(hi:X.N[i]?=some x)(hx:Loc X.env.scope x)(hf:X.fn x=true\/X.env.scope.names.lookup x=some .local:=by first|exact .inl rfl|exact .inr rfl|assumption):PG X (.Name x pos) (jZ i):=by
 intro pins s σ H v u Q I r h;exact wpAny_assign_Name (jd I hN hi hx r (fun s' I'=>⟨_,H,I',h⟩) hf)
def abp:TGs:=fun vs σ H Q=>vs=[]/\Q σ H
def TQ (t:TG)(u:TGs):TGs:=fun vs σ H Q=>∃v r,vs=v::r/\t v σ H fun σ' H'=>u r σ' H' Q
theorem WQ:PGs X [] abp:=by
 intro pins s σ H vs us Q I r h;obtain⟨e,h⟩:=h;subst e;cases r;exact assignInOrder_nil ⟨σ,H,I,h⟩
theorem Rc {e:Expr}{es:List Expr}{t:TG}{u:TGs}(h1:PG X e t)(h2:PGs X es u)
  (hs:(D6 (e::es) X.env).map (·.2)=GW e X.env::(D6 es X.env).map (·.2):=by rfl):PGs X (e::es) (TQ t u):=by
 intro pins s σ H vs us Q I r h;obtain⟨v,vr,e1,h⟩:=h;subst e1;cases r with
 | cons r rr=>
  rw[hs];refine FE (thn (h1 pins s σ H _ _ _ I r h) fun _ s1 ⟨σ1,H1,I1,q1⟩=>?_);exact h2 pins s1 σ1 H1 _ _ Q I1 rr q1
def acW (K:AC)(n:Nat)(t:TGs):TG:=fun v σ H Q=>∃a xs,v=.ref a/\SqT K H a xs/\xs.length=n/\t xs σ H Q
theorem aaw {es:List Expr}{k:Nat}{t:TGs}{n:Nat}(hc:X.calm=true)(h:PGs X es t)
  (hn:(D6 es X.env).length=n:=by rfl) (hst:(D6 es X.env).findIdx? (·.1)=none:=by rfl):PG X (.Tuple es k pos) (acW X.K n t):=by
 intro pins s σ H v u Q I r hw;obtain⟨a,xs,e1,hq,hl,hw⟩:=hw;subst e1;cases r;obtain⟨its,rv,ht,hz⟩:=I.tuple hq;refine assign_Tuple_tuple (I.ok.hd hc) ht (by simp [hn,<- hl,rv.length]) hst fun h' hx=>?_;have I1:Inv X pins σ H { s with heap:=h' }:=I.kept (t':=s.toks) fun b o e=>hx b o (B4 (AZ e)) e;exact h pins _ σ H xs _ Q I1 (by simpa using rv) hw
def Yl (to ti:TE)(t:Vb):TG:=fun v σ H Q=>to σ H fun o H1=>ti σ H1 fun i H2=>t o i v H2 fun H3=>Q σ H3
theorem Rf {o i:Expr}{to ti:TE}{t:Vb}(ho:PE X o to)(hi:PE X i ti)(hs:Vd X t)
  (ha:∀v,GW (.Subscript o i pos) X.env v=(do
   let ov <- Fc [v] (eval o X.env)
   let iv <- Fc [v,ov] (eval i X.env)
   G8 pos
   Fc [v,ov,iv] (setItem ov iv v)
   release [v,ov,iv] []):=by intro _;rfl):PG X (.Subscript o i pos) (Yl to ti t):=by
 intro pins s σ H v u Q I r h;rw[ha];refine An (BI (thE (ho pins s σ H _ I h) fun ov s1 x H1 I1 r1 q1=>?_));refine An (BI (thE (hi pins s1 σ H1 _ I1 q1) fun iv s2 y H2 I2 r2 q2=>?_));refine An (DV (An (BI (thn (hs pins s2 σ H2 x y v ov iv u _ I2 r1 r2 r q2) fun _ s3 ⟨H3,I3,q3⟩=>?_))));exact wpAny_release ⟨σ,H3,I3,q3⟩
def vI (te:TE)(g:TG):TS:=fun D σ H=>te σ H fun x H1=>g x σ H1 D.nx
theorem aat {tg e:Expr}{te:TE}{g:TG}(he:PE X e te)(hg:PG X tg g)(hs:FX [tg] e pos.line X.env=pure false:=by rfl)(hw:IG [tg] e X.env=pure none:=by rfl)
  (h1:(D6 [tg] X.env).map (·.2)=[GW tg X.env]:=by rfl):PS X (.Assign [tg] e pos) (vI te g):=by
 intro pins s σ H D I h;refine wpAny_Assign_stores (thE (he pins s σ H _ I h) fun v s1 x H1 I1 r1 q1=>?_) hs hw;rw[h1];exact thn (hg pins s1 σ H1 x v _ I1 r1 q1) fun _ s2 q=>q
theorem aap {i:Nat}{x:Str}{e:Expr}{te:TE}{pos':Pos}(hN:X.N.Nodup)(hi:X.N[i]?=some x)(hx:Loc X.env.scope x)(he:PE X e te)(hs:Ix e (some (.Name x pos')) pos.line X.env=pure false:=by rfl)(hf:X.fn x=true\/X.env.scope.names.lookup x=some .local:=by first|exact .inl rfl|exact .inr rfl|assumption) :
  PS X (.Assign [.Name x pos'] e pos) (vI te (jZ i)):=by
 intro pins s σ H D I h;refine wpAny_Assign_Name (thE (he pins s σ H _ I h) fun v s1 y H1 I1 r1 q1=>?_) hs;exact jd I1 hN hi hx r1 (fun s2 I2=>⟨_,H1,I2,q1⟩) hf
def ZQ (i j:Nat)(ta:TA):TS:=fun D σ H=>ta σ H fun vs H1=>∃v w,vs=[v,w]/\D.nx ((σ.set i (some v)).set j (some w)) H1
theorem aar {i j:Nat}{x y:Str}{a b:Expr}{ta:TA}{px py pt:Pos}{kt k2 pt2}(hc:X.calm=true)(hN:X.N.Nodup)(hi:X.N[i]?=some x)(hj:X.N[j]?=some y)(hij:i≠j)
  (hx:X.env.scope.names.lookup x=some .local) (hy:X.env.scope.names.lookup y=some .local) (ha:PA X [a,b] ta)
  (hw:IG [.Tuple [.Name x px,.Name y py] kt pt] (.Tuple [a,b] k2 pt2) X.env=pure (some [x,y]))
  (hs:FX [.Tuple [.Name x px,.Name y py] kt pt] (.Tuple [a,b] k2 pt2) pos.line X.env=pure false:=by rfl) :
  PS X (.Assign [.Tuple [.Name x px,.Name y py] kt pt] (.Tuple [a,b] k2 pt2) pos) (ZQ i j ta):=by
 intro pins s σ H D I h;rw[exec_Assign_arm];refine An (DV ?_);rw[hs];refine An (Au ?_);rw[if_neg δ];refine An (Tuple_ (thA (ha _ pins s σ H _ I h) fun us s1 vs H1 I1 r1 q1=>?_));obtain⟨v,w,e1,q1⟩:=q1;subst e1;obtain⟨u1,u2,rfl,rv,rw'⟩:∃u1 u2,us=[u1,u2]/\RelV v u1/\RelV w u2:=by
  cases r1 with
  | cons p q=>
   cases q with
   | cons p' q'=>
    cases q';exact⟨_,_,rfl,p,p'⟩
 refine BM ?_ (by show 2<=AM;decide);have I2:Inv X pins σ H1 { s1 with heap:=s1.heap.push { cls:=.type "tuple",data:=.seq [u1,u2].toArray } }:=I1.kept (t':=s1.toks) fun b o e=>AD _ e;rw[hw];refine An (Au ?_);show AE (AH X.prog X.w) X.A (do rule "assign.swapped-stores";let items <- unpackItems (.ref s1.heap.objs.size) 2 none;LA [fun v=>G0 X.env y v,fun v=>G0 X.env x v] items.reverse;pure Flow.next) _ _ _;refine An (De (An (unpackItems_tuple (items:=#[u1,u2]) (I.ok.hd hc) (IsTup.new s1.heap _) fun h' hx'=>?_)));have I3:=I2.kept (h':=h') (t':=s1.toks) fun b o e=>hx' b o (B4 (AZ e)) e;show AE _ _ (LA [fun v=>G0 X.env y v,fun v=>G0 X.env x v] [u2,u1] >>= fun _=>pure Flow.next) _ _ _;refine An (FE (Kt (jd I3 hN hj (.inl hy) rw' (fun s2 I4=>?_) (.inr hy))));refine FE (Kt (jd I4 hN hi (.inl hx) rv (fun s3 I5=>assignInOrder_nil (Au ?_)) (.inr hx)));rw[set_comm _ _ (B2 hij)] at I5;exact⟨_,H1,I5,q1⟩
def GX (c:TT)(tb:TS):TS:=fun D σ H=>∃W:Nat->St->Hp->Prop,(∃m,W m σ H)/\∀m σ H,W m σ H ->
 c σ H fun b H1=>if b=true then ∃N:St->Hp->Prop,(∀σ' H',N σ' H'->∃m',m'<m/\W m' σ' H')/\tb { D with nx:=N,ct:=N,bk:=D.nx } σ H1 else D.nx σ H1
theorem Ra {c:Expr}{body:List Stmt}{tc:TT}{tb:TS}(hp:PassesOwn (AH X.prog X.w) X.A X.env X.xe)(hc:PT X c tc)(hb:PSs X body tb):PS X (.While c body [] pos) (GX tc tb):=by
 intro pins s σ H D I h;obtain⟨W,⟨m0,w0⟩,turn⟩:=h;refine wpAny_While (codeAny_whileLoop (fun n s'=>∃σ' H',Inv X pins σ' H' s'/\W n σ' H') ?_ m0 ⟨σ,H,I,w0⟩);rintro n s1 ⟨σ1,H1,I1,w1⟩;refine FR hp (thT (hc pins s1 σ1 H1 _ I1 (turn n σ1 H1 w1)) fun b s2 H2 I2 q2=>?_);cases b with
 | true=>
  obtain⟨N,hN,q2⟩:=q2;rw[if_pos rfl];refine FR hp (thn (hb pins s2 σ1 H2 _ I2 q2) fun f s3 q3=>?_);cases f with
  | next=>
   obtain⟨σ3,H3,I3,n3⟩:=q3;obtain⟨m',hm,w3⟩:=hN σ3 H3 n3;exact⟨m',hm,σ3,H3,I3,w3⟩
  | cont=>
   obtain⟨σ3,H3,I3,n3⟩:=q3;obtain⟨m',hm,w3⟩:=hN σ3 H3 n3;exact⟨m',hm,σ3,H3,I3,w3⟩
  | brk=>exact q3
  | ret v=>exact q3
 | false=>
  rw[if_neg A5];exact Mb ⟨σ1,H2,I2,q2⟩
end
structure It where
 go:Nat->Hp->Prop
 yld:Nat->Hp->V->Hp->Prop
 stop:Nat->Hp->Prop
def rT (X:Cx)(pins:List (Addr×Obj))(H:Hp)(b:Addr):Prop:=
 H b=none/\b≠X.env.locals/\b∉X.fs/\(b∈X.ex\/X.s₀.heap.objs.size<=b)/\(∀x c,X.env.cells.lookup x=some c->c≠b)/\∀p∈X.pn++pins,p.1≠b
theorem Inv.TY {X:Cx}{pins:List (Addr×Obj)}{σ:St}{H H':Hp}{s:AA}{b:Addr}(I:Inv X pins σ H s)(hb:s.heap.objs.size<=b)(hn:H' b=none):rT X pins H' b:=by
 refine⟨hn,ne_of_gt (AN I.lt hb),I.Xi hb,.inr (BN I.sz hb),fun x c e z=>?_,fun p hp z=>?_⟩
 ·obtain⟨v,q⟩:=I.cell x c e;exact absurd (AN q.lt (by rw[z];exact hb)) (Db _)
 exact absurd (AN (AZ (I.pin p hp).1) (by rw[z];exact hb)) (Db _)
structure Turn (P:AW)(w:BC)(K:AC)(tg:Expr)(J:It)(fp:List Addr)(it:Addr)(tn:Nat->Heap->Prop):Prop where
 mem:it∈fp
 obj:∀i h,tn i h->∀b∈fp,∃o,h.get? b=some o/\∀v,o.data≠.cell v
 keep:∀i h h',tn i h->(∀b∈fp,∀o,h.get? b=some o->h'.get? b=some o)->tn i h'
 item:∀(X:Cx),X.prog=P->X.w=w->X.K=K->X.calm=true->∀(i:Nat)(pins:List (Addr×Obj)) (s:AA) (σ:St) (H:Hp) (E:Ap->AA->Prop),Inv X pins σ H s->(∀b∈fp,rT X pins H b)->tn i s.heap->J.go i H ->
  AE (AH P w) X.A (F5 (.ref it)) (fun r s1=>∃u,r=some u /\
   AE (AH P w) X.A (EX tg (.ref it) u) (fun _ s2=>∃x H',Inv X pins σ H' s2/\RelV x u/\J.yld i H x H'/\tn (i+1) s2.heap/\∀b∈fp,H' b=none) E s1) E s
 done:∀(X:Cx),X.prog=P->X.w=w->X.K=K->X.calm=true->∀(i:Nat)(pins:List (Addr×Obj)) (s:AA) (σ:St) (H:Hp) (E:Ap->AA->Prop),Inv X pins σ H s->(∀b∈fp,rT X pins H b)->tn i s.heap->J.stop i H ->
  AE (AH P w) X.A (F5 (.ref it)) (fun r s1=>r=none/\Inv X pins σ H s1) E s
 self:∀(A:A3)(i:Nat)(s:AA)(Q:Ap->AA->Prop)(E:Ap->AA->Prop),tn i s.heap->Q (.ref it) s->AE (AH P w) A (pyIter (.ref it)) Q E s
abbrev TI:=St->Hp->(It->Hp->Prop)->Prop
def PIE (X:Cx)(pins:List (Addr×Obj))(σ:St)(tg:Expr)(R:It->Hp->Prop)(itv:Ap)(s2:AA):Prop:=
 ∃(it:Addr)(fp:List Addr)(tn:Nat->Heap->Prop)(J:It)(H':Hp),itv=.ref it/\Inv X pins σ H' s2/\Turn X.prog X.w X.K tg J fp it tn/\tn 0 s2.heap/\(∀b∈fp,rT X pins H' b)/\R J H'
def PI (X:Cx)(tg iter:Expr)(wi:TI):Prop:=
 ∀(pins:List (Addr×Obj)) (s:AA) (σ:St) (H:Hp) (R:It->Hp->Prop),Inv X pins σ H s->wi σ H R ->
  AE (AH X.prog X.w) X.A (eval iter X.env) (fun v s1=>AE (AH X.prog X.w) X.A (pyIter v) (PIE X pins σ tg R) X.xe s1) X.xe s
theorem Tt {M:Model}{A:A3}{E:Ap->AA->Prop}{s:AA}{tg:Expr}{it:Addr}{u:Ap}{o:Obj}{n:String}{vs:Array Ap}{Q:Unit->AA->Prop}(ho:s.heap.get? it=some o)(hc:o.cls=.type n)(hd:o.data=.fields vs)
  (hn:["enumerate","zip","dict_itemiterator","dict_reverseitemiterator","odict_iterator","itertools.zip_longest","itertools.pairwise"].contains n=false) (hQ:Q () s):AE M A (EX tg (.ref it) u) Q E s:=by
 unfold EX;cases tg <;> first
  | exact Au hQ
  | (cases u <;> first
    | exact Au hQ
    | (refine An (wpAny_load ho ?_)
       rw[hc,hd];show AE M A (if (["enumerate","zip","dict_itemiterator","dict_reverseitemiterator","odict_iterator","itertools.zip_longest","itertools.pairwise"].contains n&&vs[0]? == some (Fh _))=true then _ else _) Q E s;rw[if_neg (by intro h;rw[hn,D1] at h;cases h)];exact Au hQ))
def Itl (K:AC)(a:Addr):It:=
 ⟨fun i H=>∃xs x,SqL K H a xs/\xs[i]?=some x,fun i H x H'=>H'=H/\∀xs,SqL K H a xs->xs[i]?=some x,fun i H=>∃xs,SqL K H a xs/\xs.length<=i⟩
def Itt (K:AC)(a:Addr):It:=
 ⟨fun i H=>∃xs x,SqT K H a xs/\xs[i]?=some x,fun i H x H'=>H'=H/\∀xs,SqT K H a xs->xs[i]?=some x,fun i H=>∃xs,SqT K H a xs/\xs.length<=i⟩
def Itr (lo:Int)(n:Nat):It:=⟨fun i _=>i<n,fun i H x H'=>H'=H/\x=.int (lo+i),fun i _=>n<=i⟩
theorem Le {P:AW}{w:BC}{K:AC}{tg:Expr}(a it:Addr):Turn P w K tg (Itl K a) [it] it (fun i h=>h.IsListIter it a i) where
 mem:=by simp
 obj:=fun i h st b hb=>by
  have e:b=it:=by simpa using hb
  subst e;obtain⟨o,e,c,d⟩:=st;exact⟨o,e,fun v z=>by rw[d] at z;cases z⟩
 keep:=fun i h h' st k=>st.at fun o e=>k it (by simp) o e
 item:=by
  intro X hP hw hK hc i pins s σ H E I hf st hg;subst hP hw hK;obtain⟨xs,x,hq,hx⟩:=hg;obtain⟨its,rv,p,hz⟩:=I.list hq;obtain⟨u,hu,ru⟩:=rv.get hx;obtain⟨f0,f1,f2,f3,f4,f5⟩:=hf it (by simp);refine wpAny_pyNext_list_item st p.isList (x:=u) (by simpa using hu) fun h' st' sb=>?_;have I1:Inv X pins σ H { s with heap:=h' }:=I.turned (t':=s.toks) (fun b o hb e=>(sb.2 b hb).trans e) f0 f1 f3 f4 f5;obtain⟨o,e,c,d⟩:=id st';exact⟨u,rfl,Tt (s:={ s with heap:=h' }) e c d δ ⟨x,H,I1,ru,⟨rfl,fun ys hy=>by rw[I.tQ hy hq];exact hx⟩,st',fun b hb=>(hf b hb).1⟩⟩
 done:=by
  intro X hP hw hK hc i pins s σ H E I hf st hg;subst hP hw hK;obtain⟨xs,hq,hx⟩:=hg;obtain⟨its,rv,p,hz⟩:=I.list hq;obtain⟨f0,f1,f2,f3,f4,f5⟩:=hf it (by simp);have hl:=rv.length;exact wpAny_pyNext_list_end (I.ok.hd hc) st p.isList (by simp;omega) fun h' eb=>⟨rfl,I.turned (t':=s.toks) (fun b o hb e=>eb b o hb e) f0 f1 f3 f4 f5⟩
 self:=fun _ _ _ _ _ st h=>wpAny_pyIter_listiter st h
theorem GP {P:AW}{w:BC}{K:AC}{tg:Expr}(a it:Addr):Turn P w K tg (Itt K a) [it] it (fun i h=>h.IsTupleIter it a i) where
 mem:=by simp
 obj:=fun i h st b hb=>by
  have e:b=it:=by simpa using hb
  subst e;obtain⟨o,e,c,d⟩:=st;exact⟨o,e,fun v z=>by rw[d] at z;cases z⟩
 keep:=fun i h h' st k=>st.at fun o e=>k it (by simp) o e
 item:=by
  intro X hP hw hK hc i pins s σ H E I hf st hg;subst hP hw hK;obtain⟨xs,x,hq,hx⟩:=hg;obtain⟨its,rv,p,hz⟩:=I.tuple hq;obtain⟨u,hu,ru⟩:=rv.get hx;obtain⟨f0,f1,f2,f3,f4,f5⟩:=hf it (by simp);refine wpAny_pyNext_tuple_item st (show s.heap.IsTuple a its.toArray from p) (x:=u) (by simpa using hu) fun h' st' sb=>?_;have I1:Inv X pins σ H { s with heap:=h' }:=I.turned (t':=s.toks) (fun b o hb e=>(sb.2 b hb).trans e) f0 f1 f3 f4 f5;obtain⟨o,e,c,d⟩:=id st';exact⟨u,rfl,Tt (s:={ s with heap:=h' }) e c d δ ⟨x,H,I1,ru,⟨rfl,fun ys hy=>by rw[I.uE hy hq];exact hx⟩,st',fun b hb=>(hf b hb).1⟩⟩
 done:=by
  intro X hP hw hK hc i pins s σ H E I hf st hg;subst hP hw hK;obtain⟨xs,hq,hx⟩:=hg;obtain⟨its,rv,p,hz⟩:=I.tuple hq;obtain⟨f0,f1,f2,f3,f4,f5⟩:=hf it (by simp);have hl:=rv.length;exact wpAny_pyNext_tuple_end (I.ok.hd hc) st (show s.heap.IsTuple a its.toArray from p) (by simp;omega) fun h' eb=>⟨rfl,I.turned (t':=s.toks) (fun b o hb e=>eb b o hb e) f0 f1 f3 f4 f5⟩
 self:=fun _ _ _ _ _ st h=>wpAny_pyIter_tupleiter st h
theorem GQ {P:AW}{w:BC}{K:AC}{tg:Expr}(it:Addr)(lo:Int)(n:Nat):Turn P w K tg (Itr lo n) [it] it (fun i h=>IsRangeIter h it (lo+(i:Nat)*1) ((n:Int)-(i:Nat)) 1) where
 mem:=by simp
 obj:=fun i h st b hb=>by
  have e:b=it:=by simpa using hb
  subst e;exact⟨_,st,fun v z=>by
   have z':BG _=Data.cell v:=z;cases z'⟩
 keep:=fun i h h' st k=>k it (by simp) _ st
 item:=by
  intro X hP hw hK hc i pins s σ H E I hf st hg;subst hP hw hK;obtain⟨f0,f1,f2,f3,f4,f5⟩:=hf it (by simp);have W:=Walks.range (prog:=X.prog) (w:=X.w) (I.ok.hd hc) it lo 1 n;refine W.item i s _ _ hg st fun v h' tk hv st' kk=>?_;obtain⟨t,rfl⟩:=hv;have I1:Inv X pins σ H { s with heap:=h',toks:=tk }:=I.turned (fun b o hb e=>kk b o (by simpa using hb) e) f0 f1 f3 f4 f5;refine⟨_,rfl,Tt (s:={ s with heap:=h',toks:=tk }) (n := "range_iterator") st' rfl rfl δ ⟨.int (lo+i),H,I1,⟨t,?_⟩,⟨rfl,rfl⟩,st',fun b hb=>(hf b hb).1⟩⟩;rw[My]
 done:=by
  intro X hP hw hK hc i pins s σ H E I hf st hg;subst hP hw hK;obtain⟨f0,f1,f2,f3,f4,f5⟩:=hf it (by simp);exact wpAny_pyNext_range_end (I.ok.hd hc) st (by have:n<=i:=hg;omega) fun h' eb=>⟨rfl,I.turned (t':=s.toks) (fun b o hb e=>eb b o hb e) f0 f1 f3 f4 f5⟩
 self:=fun _ _ _ _ _ st h=>wpAny_pyIter_rangeiter st h
section
variable {X:Cx}{tg:Expr}
theorem Ei {pins:List (Addr×Obj)}{σ:St}{H:Hp}{s:AA}{R:It->Hp->Prop}{E:Ap->AA->Prop}{lo hi:Int}{t u v:Tok}{tk:Nat}(I:Inv X pins σ H s)(h1:-(2^62)<=lo)(h2:lo<2^62)(h3:-(2^62)<=hi)(h4:hi<2^62)
  (q:R (Itr lo (hi-lo).toNat) H):AE (AH X.prog X.w) X.A (pyIter (.ref s.heap.objs.size)) (PIE X pins σ tg R) E { s with heap:=s.heap.push { cls:=.type "range",data:=.fields #[.int lo t,.int hi u,.int 1 v] },toks:=tk }:=by
 refine wpAny_pyIter_range (IsRange.new ..) (small_one h1 h2 h3 h4) ?_;have I1:Inv X pins σ H { s with heap:=s.heap.push { cls:=.type "range",data:=.fields #[.int lo t,.int hi u,.int 1 v] },toks:=tk }:=I.kept fun b o e=>AD _ e;refine⟨(s.heap.push { cls:=.type "range",data:=.fields #[.int lo t,.int hi u,.int 1 v] }).objs.size,[(s.heap.push { cls:=.type "range",data:=.fields #[.int lo t,.int hi u,.int 1 v] }).objs.size],_,_,H,rfl,
  I1.kept (t':=tk) fun b o e=>AD _ e,GQ _ lo (hi-lo).toNat,?_,fun b hb=>?_,q⟩
 ·have e1:lo+((0:Nat):Int)*1=lo:=by simp
  have e2:(((hi-lo).toNat:Nat):Int)-((0:Nat):Int)=AX.Range.rangeSize lo hi 1:=by rw[rangeSize_one];split <;> omega
  show IsRangeIter _ _ (lo+((0:Nat):Int)*1) ((((hi-lo).toNat:Nat):Int)-((0:Nat):Int)) 1;rw[e1,e2];exact A8 _ rfl
 have e:b=(s.heap.push { cls:=.type "range",data:=.fields #[.int lo t,.int hi u,.int 1 v] }).objs.size:=by simpa using hb
 subst e;exact I1.TY (AY _) (I1.hok.fresh (AY _))
def oZ (ta:TA):TI:=fun σ H R=>ta σ H fun vs H1=>∃j:Int,vs=[.int j]/\-(2^62)<=j/\j<2^62/\R (Itr 0 j.toNat) H1
def Ti (ta:TA):TI:=fun σ H R=>ta σ H fun vs H1=>∃i j:Int,vs=[.int i,.int j]/\(-(2^62)<=i/\i<2^62/\-(2^62)<=j/\j<2^62)/\R (Itr i (j-i).toNat) H1
theorem Mu {a:Expr}{ta:TA}{p pos:Pos}(hg:Gl X "range") (hm:X.mg "range" = none) (ha:PA X [a] ta) (hs:AJ [a] X.env=[(false,eval a X.env)]:=by rfl):PI X tg (.Call (.Name "range" p) [a] [] pos) (oZ ta):=by
 intro pins s σ H R I h;refine Call_ (jV I hg hm boot_range (CL (thA (ha pos pins s σ H _ I h) fun us s1 vs H1 I1 r1 q1=>?_) hs rfl));obtain⟨j,e,q1,q2,q⟩:=q1;subst e;cases r1 with
 | cons r rr=>
  cases rr;obtain⟨t,rfl⟩:=r;exact call_range_1 (Ei I1 ω ω q1 q2 (by simpa using q))
theorem Mt {a b:Expr}{ta:TA}{p pos:Pos}(hg:Gl X "range") (hm:X.mg "range" = none) (ha:PA X [a,b] ta) (hs:AJ [a,b] X.env=[(false,eval a X.env),(false,eval b X.env)]:=by rfl) (hs2:AJ [b] X.env=[(false,eval b X.env)]:=by rfl) :
  PI X tg (.Call (.Name "range" p) [a,b] [] pos) (Ti ta):=by
 intro pins s σ H R I h;refine Call_ (jV I hg hm boot_range (CL (thA (ha pos pins s σ H _ I h) fun us s1 vs H1 I1 r1 q1=>?_) (by rw[hs,hs2]) (by rw[hs2];rfl)));obtain⟨i,j,e,⟨q1,q2,q3,q4⟩,q⟩:=q1;subst e;cases r1 with
 | cons r rr=>
  cases rr with
  | cons r' rr=>
   cases rr;obtain⟨t,rfl⟩:=r;obtain⟨t',rfl⟩:=r';exact call_range_2 (Ei I1 q1 q2 q3 q4 q)
def Vv (wi:TI)(g:TG)(tb:TS):TS:=fun D σ H=>wi σ H fun J H1=>∃W:Nat->Nat->St->Hp->Prop,(∃m,W 0 m σ H1)/\∀i m σ H,W i m σ H ->
 (J.stop i H/\D.nx σ H)\/(J.go i H/\∃N:St->Hp->Prop,(∀σ' H',N σ' H'->∃m',m'<m/\W (i+1) m' σ' H')/\∀x H',J.yld i H x H'->g x σ H' fun σ2 H2=>tb { D with nx:=N,ct:=N,bk:=D.nx } σ2 H2)
def gq (fp:List Addr)(h:Heap):List (Addr×Obj):=fp.filterMap fun b=>(h.get? b).map fun o=>(b,o)
theorem iZ {fp:List Addr}{h:Heap}{b:Addr}{o:Obj}(hb:b∈fp)(e:h.get? b=some o):(b,o)∈gq fp h:=List.mem_filterMap.mpr ⟨b,hb,by rw[e];rfl⟩
theorem qe {fp:List Addr}{h:Heap}{p:Addr×Obj}(hp:p∈gq fp h):p.1∈fp/\h.get? p.1=some p.2:=by
 obtain⟨b,hb,e⟩:=List.mem_filterMap.mp hp;cases q:h.get? b with
 | none=>rw[q] at e;cases e
 | some o=>
  rw[q] at e;have e':(b,o)=p:=B7 e;subst e';exact⟨hb,q⟩
theorem Inv.pinned {pins:List (Addr×Obj)}{σ:St}{H:Hp}{s:AA}{fp:List Addr}(I:Inv X pins σ H s)(hf:∀b∈fp,rT X pins H b)(ho:∀b∈fp,∃o,s.heap.get? b=some o/\∀v,o.data≠.cell v):Inv X (pins++gq fp s.heap) σ H s:=
 I.kE fun p hp=>(A6.mp hp).elim (fun z=>I.pin p (AQ _ z)) fun z=>by
  obtain⟨hb,e⟩:=qe z;obtain⟨f0,f1,f2,_⟩:=hf p.1 hb;obtain⟨o,e',d⟩:=ho p.1 hb;rw[e] at e';cases e';exact⟨e,f0,f1,f2,d⟩
theorem Inv.jC {pins pl:List (Addr×Obj)}{σ:St}{H:Hp}{s:AA}(I:Inv X (pins++pl) σ H s):Inv X pins σ H s:=I.kE fun p hp=>I.pin p (AQ _ (Cc _ hp))
theorem aas {iter:Expr}{body:List Stmt}{wi:TI}{g:TG}{tb:TS}{pos:Pos}(hp:PassesOwn (AH X.prog X.w) X.A X.env X.xe)(hc:X.calm=true)(hi:PI X tg iter wi)(hg:PG X tg g)(hb:PSs X body tb)
  (hs:∀x,CY iter X.env x=pure x:=by intro _;rfl):PS X (.For tg iter body [] pos) (Vv wi g tb):=by
 intro pins s σ H D I h;refine wpAny_For (thn (hi pins s σ H _ I h) fun v s1 h1=>thn h1 fun itv s2 h2=>?_) hs;obtain⟨it,fp,tn,J,H2,e,I2,T,st2,f2,W,⟨m0,w0⟩,turn⟩:=h2;subst e
 -- what stays true of the iterator's objects through the loop
 have stat:∀{H':Hp},(∀b∈fp,H' b=none)->∀b∈fp,rT X pins H' b:=fun hn b hb=>⟨hn b hb,(f2 b hb).2⟩;refine codeAny_forLoop_any (fun n s'=>∃i σ' H',Inv X pins σ' H' s'/\tn i s'.heap/\(∀b∈fp,H' b=none)/\W i n σ' H') ?_ m0 ⟨0,σ,H2,I2,st2,fun b hb=>(f2 b hb).1,w0⟩;rintro n s3 ⟨i,σ3,H3,I3,st3,fr3,w3⟩;rcases turn i n σ3 H3 w3 with⟨stop,qn⟩|⟨go,N,hN,step⟩
 ·refine FR hp (thn (T.done X rfl rfl rfl hc i pins s3 σ3 H3 X.xe I3 (stat fr3) st3 stop) fun r s4 ⟨hr,I4⟩=>?_);subst hr;exact Mb ⟨σ3,H3,I4,qn⟩
 refine FR hp (thn (T.item X rfl rfl rfl hc i pins s3 σ3 H3 X.xe I3 (stat fr3) st3 go) fun r s4 ⟨u,hr,h4⟩=>?_);subst hr;refine FR hp (thn h4 fun _ s5 ⟨x,H5,I5,r5,y5,st5,fr5⟩=>?_);have I5':=I5.pinned (stat fr5) (T.obj _ _ st5);refine FR hp (thn (hg _ s5 σ3 H5 x u _ I5' r5 (step x H5 y5)) fun _ s6 ⟨σ6,H6,I6,q6⟩=>?_);refine FR hp (thn (hb _ s6 σ6 H6 _ I6 q6) fun f s7 q7=>?_);have LH:∀{σ7:St}{H7:Hp},Inv X (pins++gq fp s5.heap) σ7 H7 s7->N σ7 H7->∃m,m<n/\∃i σ' H',Inv X pins σ' H' s7/\tn i s7.heap/\(∀b∈fp,H' b=none)/\W i m σ' H':=fun {σ7 H7} I7 n7=>by
  obtain⟨m',hm,w7⟩:=hN σ7 H7 n7;refine⟨m',hm,i+1,σ7,H7,I7.jC,T.keep _ _ _ st5 fun b hb o e=>(I7.pin (b,o) (AQ _ (AQ _ (iZ hb e)))).1,fun b hb=>?_,w7⟩;obtain⟨o,e,d⟩:=T.obj _ _ st5 b hb;exact(I7.pin (b,o) (AQ _ (AQ _ (iZ hb e)))).2.1
 cases f with
 | next=>obtain⟨σ7,H7,I7,n7⟩:=q7;exact LH I7 n7
 | cont=>obtain⟨σ7,H7,I7,n7⟩:=q7;exact LH I7 n7
 | brk=>obtain⟨σ7,H7,I7,q7⟩:=q7;exact⟨σ7,H7,I7.jC,q7⟩
 | ret v=>obtain⟨x7,σ7,H7,I7,r7,q7⟩:=q7;exact⟨x7,σ7,H7,I7.jC,r7,q7⟩
end
theorem T3 {K:AC}{a:Addr}{xs:List V}{g:TG}{tb:TS}{D:Ends}{σ:St}{H:Hp}(Pv:Nat->St->Hp->Prop)(h0:Pv 0 σ H)(hl:∀i σ H,i<=xs.length->Pv i σ H->SqL K H a xs)
  (hs:∀i x σ H,xs[i]?=some x->Pv i σ H->g x σ H fun σ2 H2=>tb { D with nx:=Pv (i+1),ct:=Pv (i+1),bk:=D.nx } σ2 H2) (hd:∀σ H,Pv xs.length σ H->D.nx σ H) :
  ∃W:Nat->Nat->St->Hp->Prop,(∃m,W 0 m σ H)/\∀i m σ H,W i m σ H ->
   ((Itl K a).stop i H/\D.nx σ H)\/((Itl K a).go i H/\∃N:St->Hp->Prop,(∀σ' H',N σ' H'->∃m',m'<m/\W (i+1) m' σ' H')/\∀x H',(Itl K a).yld i H x H'->g x σ H' fun σ2 H2=>tb { D with nx:=N,ct:=N,bk:=D.nx } σ2 H2):=by
 refine⟨fun i m σ H=>m=xs.length-i/\i<=xs.length/\Pv i σ H,⟨xs.length,by simp,D2 _,h0⟩,?_⟩;rintro i m σ H ⟨rfl,hi,p⟩;have q:=hl i σ H hi p;by_cases hlt:i<xs.length
 ·refine .inr ⟨⟨xs,xs[i],q,by simp [hlt]⟩,Pv (i+1),fun σ' H' p'=>⟨xs.length-(i+1),ω,rfl,hlt,p'⟩,fun x H' y=>?_⟩;obtain⟨e,y⟩:=y;subst e;exact hs i x σ _ (y xs q) p
 have e:i=xs.length:=ω;subst e;exact .inl ⟨⟨xs,q,AY _⟩,hd σ H p⟩
theorem Nt {lo:Int}{n:Nat}{g:TG}{tb:TS}{D:Ends}{σ:St}{H:Hp}(Pv:Nat->St->Hp->Prop)(h0:Pv 0 σ H)
  (hs:∀i σ H,i<n->Pv i σ H->g (.int (lo+i)) σ H fun σ2 H2=>tb { D with nx:=Pv (i+1),ct:=Pv (i+1),bk:=D.nx } σ2 H2) (hd:∀σ H,Pv n σ H->D.nx σ H) :
  ∃W:Nat->Nat->St->Hp->Prop,(∃m,W 0 m σ H)/\∀i m σ H,W i m σ H ->
   ((Itr lo n).stop i H/\D.nx σ H)\/((Itr lo n).go i H/\∃N:St->Hp->Prop,(∀σ' H',N σ' H'->∃m',m'<m/\W (i+1) m' σ' H')/\∀x H',(Itr lo n).yld i H x H'->g x σ H' fun σ2 H2=>tb { D with nx:=N,ct:=N,bk:=D.nx } σ2 H2):=by
 refine⟨fun i m σ H=>m=n-i/\i<=n/\Pv i σ H,⟨n,by simp,D2 _,h0⟩,?_⟩;rintro i m σ H ⟨rfl,hi,p⟩;by_cases hlt:i<n
 ·refine .inr ⟨hlt,Pv (i+1),fun σ' H' p'=>⟨n-(i+1),ω,rfl,hlt,p'⟩,fun x H' y=>?_⟩;obtain⟨e,y⟩:=y;subst e y;exact hs i σ _ hlt p
 have e:i=n:=ω;subst e;exact .inl ⟨AY _,hd σ H p⟩
abbrev R2:=V->V->Hp->VK->Prop
def OpR (X:Cx)(f:Ap->Ap->Sem Ap)(r:R2):Prop:=
 ∀(pins:List (Addr×Obj)) (s:AA) (σ:St) (H:Hp) (x y:V) (v u:Ap) (Q:VK),Inv X pins σ H s->RelV x v->RelV y u->r x y H Q ->
  AE (AH X.prog X.w) X.A (f v u) (EP X pins σ Q) X.xe s
def UnR (X:Cx)(f:Ap->Sem Ap)(r:V->Hp->VK->Prop):Prop:=
 ∀(pins:List (Addr×Obj)) (s:AA) (σ:St) (H:Hp) (x:V) (v:Ap) (Q:VK),Inv X pins σ H s->RelV x v->r x H Q ->
  AE (AH X.prog X.w) X.A (f v) (EP X pins σ Q) X.xe s
def dw (X:Cx)(f:Ap)(r:List V->Hp->VK->Prop):Prop:=
 ∀(pins:List (Addr×Obj)) (s:AA) (σ:St) (H:Hp) (xs:List V) (us:List Ap) (Q:VK),Inv X pins σ H s->Vals xs us->r xs H Q ->
  AE (AH X.prog X.w) X.A (call f us) (EP X pins σ Q) X.xe s
def ac1 (X:Cx)(r:V->Hp->(Bool->Hp->Prop)->Prop):Prop:=
 ∀(pins:List (Addr×Obj)) (s:AA) (σ:St) (H:Hp) (x:V) (v:Ap) (Q:Bool->Hp->Prop),Inv X pins σ H s->RelV x v->r x H Q ->
  AE (AH X.prog X.w) X.A (truthy v) (TP X pins σ Q) X.xe s
def tOp (r:R2)(ta tb:TE):TE:=fun σ H Q=>ta σ H fun x H1=>tb σ H1 fun y H2=>r x y H2 Q
def tUn (r:V->Hp->VK->Prop)(ta:TE):TE:=fun σ H Q=>ta σ H fun x H1=>r x H1 Q
def rI (C:Int->Int->Prop)(g:Int->Int->V):R2:=fun x y H Q=>∃i j,x=.int i/\y=.int j/\C i j/\Q (g i j) H
def rI0 (g:Int->Int->V):R2:=fun x y H Q=>∃i j,x=.int i/\y=.int j/\Q (g i j) H
def rU (g:Int->V):V->Hp->VK->Prop:=fun x H Q=>∃i,x=.int i/\Q (g i) H
section
variable {X:Cx}{a b c:Expr}{ta tb tc:TE}{pos:Pos}
theorem abE (ha:PE X a ta)(hb:PE X b tb){pins:List (Addr×Obj)}{s:AA}{σ:St}{H:Hp}{R:V->V->Hp->Prop}(I:Inv X pins σ H s)
  (h:ta σ H fun x H1=>tb σ H1 fun y H2=>R x y H2) {Q:Ap->AA->Prop} {f:Ap->Ap->Sem Ap}
  (hf:∀v u s2 x y H2,Inv X pins σ H2 s2->RelV x v->RelV y u->R x y H2->AE (AH X.prog X.w) X.A (f v u) Q X.xe s2) :
  AE (AH X.prog X.w) X.A (eval a X.env) (fun v s₁=>AE (AH X.prog X.w) X.A (eval b X.env) (fun u s₂=>AE (AH X.prog X.w) X.A (f v u) Q X.xe s₂) X.xe s₁) X.xe s:=by
 refine thE (ha pins s σ H _ I h) fun v s1 x H1 I1 r1 q1=>?_;refine thE (hb pins s1 σ H1 _ I1 q1) fun u s2 y H2 I2 r2 q2=>?_;exact hf v u s2 x y H2 I2 r1 r2 q2
theorem ab3 {op:Operator}{r:R2}(ho:OpR X (Fk op) r)(ha:PE X a ta)(hb:PE X b tb):PE X (.BinOp a op b pos) (tOp r ta tb):=by
 intro pins s σ H Q I h;exact wpAny_BinOp (abE ha hb I h fun v u s2 x y H2 I2 rx ry q=>ho pins s2 σ H2 x y v u Q I2 rx ry q)
theorem ab2 {op:UnaryOp}{r:V->Hp->VK->Prop}(ho:UnR X (unaryOp op) r)(ha:PE X a ta):PE X (.UnaryOp op a pos) (tUn r ta):=by
 intro pins s σ H Q I h;exact UnaryOp_ (thE (ha pins s σ H _ I h) fun v s1 x H1 I1 r1 q1=>ho pins s1 σ H1 x v Q I1 r1 q1)
theorem opI {f:Ap->Ap->Sem Ap}{C:Int->Int->Prop}{g:Int->Int->Int}
  (rule:∀(i j:Int)(t u:Tok)(s:AA)(Q:Ap->AA->Prop)(E:Ap->AA->Prop),C i j->Q (.int (g i j) s.toks) { s with toks:=s.toks+1 }->AE (AH X.prog X.w) X.A (f (.int i t) (.int j u)) Q E s) :
  OpR X f (rI C fun i j=>.int (g i j)):=by
 intro pins s σ H x y v u Q I rx ry h;obtain⟨i,j,rfl,rfl,hc,q⟩:=h;obtain⟨t,rfl⟩:=rx;obtain⟨t',rfl⟩:=ry;exact rule i j t t' s _ _ hc ⟨.int (g i j),H,I.tok _,⟨_,rfl⟩,q⟩
theorem aaL {f:Ap->Ap->Sem Ap}{g:Int->Int->Int}
  (rule:∀(i j:Int)(t u:Tok)(s:AA)(Q:Ap->AA->Prop)(E:Ap->AA->Prop),Q (.int (g i j) s.toks) { s with toks:=s.toks+1 }->AE (AH X.prog X.w) X.A (f (.int i t) (.int j u)) Q E s) :
  OpR X f (rI0 fun i j=>.int (g i j)):=by
 intro pins s σ H x y v u Q I rx ry h;obtain⟨i,j,rfl,rfl,q⟩:=h;obtain⟨t,rfl⟩:=rx;obtain⟨t',rfl⟩:=ry;exact rule i j t t' s _ _ ⟨.int (g i j),H,I.tok _,⟨_,rfl⟩,q⟩
theorem W9 {f:Ap->Ap->Sem Ap}{g:Int->Int->Bool}
  (rule:∀(i j:Int)(t u:Tok)(s:AA)(Q:Ap->AA->Prop)(E:Ap->AA->Prop),Q (.bool (g i j)) s->AE (AH X.prog X.w) X.A (f (.int i t) (.int j u)) Q E s) :
  OpR X f (rI0 fun i j=>.bl (g i j)):=by
 intro pins s σ H x y v u Q I rx ry h;obtain⟨i,j,rfl,rfl,q⟩:=h;obtain⟨t,rfl⟩:=rx;obtain⟨t',rfl⟩:=ry;exact rule i j t t' s _ _ ⟨.bl (g i j),H,I,rfl,q⟩
def Y9 (i j:Int):Prop:=0<=j/\j<=1000000/\i.natAbs<2^64
def Oo (i j:Int):Prop:=(-(2^64)<i/\i<2^64)\/(-(2^64)<j/\j<2^64)
theorem Oo.ok {i j:Int}(h:Oo i j):IntMulOk i j:=by
 rcases h with⟨h1,h2⟩|⟨h1,h2⟩
 ·exact .of_left (intBits_le_64 h1 h2)
 exact .of_right (intBits_le_64 h1 h2)
theorem GD (k:Nat):(0:Int)<=2^k:=by
 rw[two_pow_cast];exact Int.natCast_nonneg _
theorem aaK:OpR X (Fk .Add) (rI0 fun i j=>.int (i+j)):=aaL fun _ _ _ _ _ _ _ q=>add_int q
theorem dZ:OpR X (Fk .Sub) (rI0 fun i j=>.int (i-j)):=aaL fun _ _ _ _ _ _ _ q=>sub_int q
theorem aaI:OpR X (Fk .Mult) (rI Oo fun i j=>.int (i*j)):=opI fun _ _ _ _ _ _ _ hc q=>mul_int q hc.ok
theorem jg:OpR X (Fk .Mod) (rI (fun _ j=>0<j) fun i j=>.int (i%j)):=opI fun i j _ _ _ _ _ hc q=>by
 have h1:(0:Int)<j:=hc;exact mod_int' ω (by rw[Int.fmod_eq_emod_of_nonneg i ω];exact q)
theorem Rr:OpR X (Fk .Pow) (rI Y9 fun i j=>.int (i^j.toNat)):=opI fun _ _ _ _ _ _ _ hc q=>pow_int_small hc.1 hc.2.1 hc.2.2 q
theorem dN:OpR X (Fk .LShift) (rI Y9 fun i j=>.int (i*2^j.toNat)):=opI fun _ _ _ _ _ _ _ hc q=>lshift_int_small hc.1 hc.2.1 hc.2.2 q
theorem BW:OpR X (Fk .RShift) (rI (fun _ j=>0<=j) fun i j=>.int (i/2^j.toNat)):=opI fun i j _ _ _ _ _ hc q=>
 rshift_int hc (by rw[Int.fdiv_eq_ediv_of_nonneg i (GD _)];exact q)
theorem jh:OpR X (Fk .BitAnd) (rI0 fun i j=>.int (AX.bitAnd i j)):=aaL fun _ _ _ _ _ _ _ q=>and_int q
theorem unI {f:Ap->Sem Ap}{g:Int->Int}
  (rule:∀(i:Int)(t:Tok)(s:AA)(Q:Ap->AA->Prop)(E:Ap->AA->Prop),Q (.int (g i) s.toks) { s with toks:=s.toks+1 }->AE (AH X.prog X.w) X.A (f (.int i t)) Q E s) :
  UnR X f (rU fun i=>.int (g i)):=by
 intro pins s σ H x v Q I rx h;obtain⟨i,rfl,q⟩:=h;obtain⟨t,rfl⟩:=rx;exact rule i t s _ _ ⟨.int (g i),H,I.tok _,⟨_,rfl⟩,q⟩
theorem jD:UnR X (unaryOp .USub) (rU fun i=>.int (-i)):=unI fun _ _ _ _ _ q=>neg_int q
end
def Lx:V->V->Bool
 | .non,.non=>true | .non,.int _=>true | .int _,.non=>true | .non,.bl _=>true | .bl _,.non=>true | .non,.str _=>true | .str _,.non=>true
 | .int _,.int _=>true | .bl _,.bl _=>true | .str _,.str _=>true | .byt _,.byt _=>true
 | .int _,.str _=>true | .str _,.int _=>true | .bl _,.str _=>true | .str _,.bl _=>true
 | _,_=>false
def rEq:R2:=fun x y H Q=>Lx x y=true/\Q (.bl (decide (x=y))) H
def rNe:R2:=fun x y H Q=>Lx x y=true/\Q (.bl (!decide (x=y))) H
theorem KJ {i j:Int}:decide (V.int i=V.int j)=(i == j):=by
 rw[D3];simp
theorem Uc {i j:Bool}:decide (V.bl i=V.bl j)=(i == j):=by
 rw[D3];simp
theorem KH {i j:Str}:decide (V.str i=V.str j)=(i == j):=by
 rw[D3];simp
theorem KN {i j:Array UInt8}:decide (V.byt i=V.byt j)=(i.toList == j.toList):=by
 rw[D3];cases i;cases j;simp
section
variable {X:Cx}{a b c:Expr}{ta tb tc:TE}{pos:Pos}
theorem cg {pins:List (Addr×Obj)}{σ:St}{H:Hp}{s:AA}{Q:VK}{k k':Bool}(I:Inv X pins σ H s)(q:Q (.bl k) H)(e:k=k'):EP X pins σ Q (.bool k') s:=by
 subst e;exact⟨.bl k,H,I,rfl,q⟩
theorem acg:OpR X (CO .Eq) rEq:=by
 intro pins s σ H x y v u Q I rx ry h;obtain⟨hs,q⟩:=h;cases x with
 | non=>
  cases rx;cases y with
  | non=>cases ry;exact PySem.EqNone.eq_none_none (cg I q (by simp))
  | bl j=>cases ry;exact PySem.EqNone.eq_none_bool (cg I q (by simp))
  | int j=>obtain⟨t',rfl⟩:=ry;exact PySem.EqNone.eq_none_int (cg I q (by simp))
  | str j=>obtain⟨t',rfl⟩:=ry;exact PySem.EqNone.eq_none_str (cg I q (by simp))
  | _=>exact absurd (show false=true from hs) A5
 | bl i=>
  cases rx;cases y with
  | non=>cases ry;exact PySem.EqNone.eq_bool_none (cg I q (by simp))
  | bl j=>cases ry;exact eq_bool (cg I q Uc)
  | str j=>obtain⟨t',rfl⟩:=ry;exact PySem.EqMixed.eq_bool_str (cg I q (by simp))
  | _=>exact absurd (show false=true from hs) A5
 | int i=>
  obtain⟨t,rfl⟩:=rx;cases y with
  | non=>cases ry;exact PySem.EqNone.eq_int_none (cg I q (by simp))
  | int j=>obtain⟨t',rfl⟩:=ry;exact eq_int (cg I q KJ)
  | str j=>obtain⟨t',rfl⟩:=ry;exact PySem.EqMixed.eq_int_str (cg I q (by simp))
  | _=>exact absurd (show false=true from hs) A5
 | str i=>
  obtain⟨t,rfl⟩:=rx;cases y with
  | non=>cases ry;exact PySem.EqNone.eq_str_none (cg I q (by simp))
  | bl j=>cases ry;exact PySem.EqMixed.eq_str_bool (cg I q (by simp))
  | int j=>obtain⟨t',rfl⟩:=ry;exact PySem.EqMixed.eq_str_int (cg I q (by simp))
  | str j=>obtain⟨t',rfl⟩:=ry;exact eq_str (cg I q KH)
  | _=>exact absurd (show false=true from hs) A5
 | byt i=>
  obtain⟨t,rfl⟩:=rx;cases y with
  | byt j=>obtain⟨t',rfl⟩:=ry;exact PySem.W.eq_bytes (cg I q KN)
  | _=>exact absurd (show false=true from hs) A5
 | _=>cases y <;> exact absurd (show false=true from hs) A5
theorem ace:OpR X (CO .NotEq) rNe:=by
 intro pins s σ H x y v u Q I rx ry h;obtain⟨hs,q⟩:=h;cases x with
 | non=>
  cases rx;cases y with
  | non=>cases ry;exact PySem.EqNone.ne_none_none (cg I q (by simp))
  | bl j=>cases ry;exact PySem.EqNone.ne_none_bool (cg I q (by simp))
  | int j=>obtain⟨t',rfl⟩:=ry;exact PySem.EqNone.ne_none_int (cg I q (by simp))
  | str j=>obtain⟨t',rfl⟩:=ry;exact PySem.EqNone.ne_none_str (cg I q (by simp))
  | _=>exact absurd (show false=true from hs) A5
 | bl i=>
  cases rx;cases y with
  | non=>cases ry;exact PySem.EqNone.ne_bool_none (cg I q (by simp))
  | bl j=>cases ry;exact ne_bool (cg I q (congrArg not Uc))
  | str j=>obtain⟨t',rfl⟩:=ry;exact PySem.EqMixed.ne_bool_str (cg I q (by simp))
  | _=>exact absurd (show false=true from hs) A5
 | int i=>
  obtain⟨t,rfl⟩:=rx;cases y with
  | non=>cases ry;exact PySem.EqNone.ne_int_none (cg I q (by simp))
  | int j=>obtain⟨t',rfl⟩:=ry;exact ne_int (cg I q (congrArg not KJ))
  | str j=>obtain⟨t',rfl⟩:=ry;exact PySem.EqMixed.ne_int_str (cg I q (by simp))
  | _=>exact absurd (show false=true from hs) A5
 | str i=>
  obtain⟨t,rfl⟩:=rx;cases y with
  | non=>cases ry;exact PySem.EqNone.ne_str_none (cg I q (by simp))
  | bl j=>cases ry;exact PySem.EqMixed.ne_str_bool (cg I q (by simp))
  | int j=>obtain⟨t',rfl⟩:=ry;exact PySem.EqMixed.ne_str_int (cg I q (by simp))
  | str j=>obtain⟨t',rfl⟩:=ry;exact ne_str (cg I q (congrArg not KH))
  | _=>exact absurd (show false=true from hs) A5
 | byt i=>
  obtain⟨t,rfl⟩:=rx;cases y with
  | byt j=>obtain⟨t',rfl⟩:=ry;exact PySem.W.ne_bytes (cg I q (congrArg not KN))
  | _=>exact absurd (show false=true from hs) A5
 | _=>cases y <;> exact absurd (show false=true from hs) A5
theorem n8:OpR X (CO .Lt) (rI0 fun i j=>.bl (decide (i<j))):=W9 fun _ _ _ _ _ _ _ q=>lt_int q
theorem vo:OpR X (CO .LtE) (rI0 fun i j=>.bl (decide (i<=j))):=W9 fun _ _ _ _ _ _ _ q=>le_int q
theorem En:OpR X (CO .Gt) (rI0 fun i j=>.bl (decide (j<i))):=W9 fun _ _ _ _ _ _ _ q=>gt_int q
theorem acf:OpR X (CO .GtE) (rI0 fun i j=>.bl (decide (j<=i))):=W9 fun _ _ _ _ _ _ _ q=>ge_int q
theorem Hz:OpR X (CO .Is) (fun x y H Q=>y=.non/\Q (.bl (decide (x=.non))) H):=by
 intro pins s σ H x y v u Q I rx ry h;obtain⟨rfl,q⟩:=h;cases ry;refine is_none_gen (cg I q ?_);cases x <;> first
  | (cases rx;rfl)
  | (obtain⟨t,rfl⟩:=rx;rfl)
theorem Ka:OpR X (CO .IsNot) (fun x y H Q=>y=.non/\Q (.bl (!decide (x=.non))) H):=by
 intro pins s σ H x y v u Q I rx ry h;obtain⟨rfl,q⟩:=h;cases ry;refine isnot_none_gen (cg I q ?_);cases x <;> first
  | (cases rx;rfl)
  | (obtain⟨t,rfl⟩:=rx;rfl)
theorem aL (b:Expr){op:CmpOp}(h:op≠.In:=by decide)(h2:op≠.NotIn:=by decide):IH op b=false:=by
 have e1:(op == CmpOp.In)=false:=by cases op <;> first|rfl|exact absurd rfl h
 have e2:(op == CmpOp.NotIn)=false:=by cases op <;> first|rfl|exact absurd rfl h2
 cases b <;> simp [IH,e1,e2]
theorem W4 {op:CmpOp}{r:R2}(ho:OpR X (CO op) r)(ha:PE X a ta)(hb:PE X b tb)(hm:IH op b=false):PE X (.Compare a [op] [b] pos) (tOp r ta tb):=by
 intro pins s σ H Q I h;exact wpAny_Compare1 (abE ha hb I h fun v u s2 x y H2 I2 rx ry q=>ho pins s2 σ H2 x y v u Q I2 rx ry q) hm
def vg (t:TE):TT:=fun σ H Q=>t σ H fun x H'=>∃k,x=.bl k/\Q k H'
theorem Wq {op:CmpOp}{r:R2}(ho:OpR X (CO op) r)(ha:PE X a ta)(hb:PE X b tb)(hm:IH op b=false):PT X (.Compare a [op] [b] pos) (vg (tOp r ta tb)):=by
 intro pins s σ H Q I h;refine wpAny_isTrue_Compare1 (thE (ha pins s σ H _ I h) fun v s1 x H1 I1 r1 q1=>thE (hb pins s1 σ H1 _ I1 q1) fun u s2 y H2 I2 r2 q2=>
  thn (ho pins s2 σ H2 x y v u _ I2 r1 r2 q2) fun c s3 ⟨z,H3,I3,r3,k,e,q3⟩=>?_) hm
 subst e;cases r3;exact Da ⟨H3,I3,q3⟩
def wH (r r':R2)(ta tb tc:TE):TE:=fun σ H Q=>ta σ H fun x H1=>tb σ H1 fun y H2=>r x y H2 fun z H3=>∃k,z=.bl k /\
 (if k=true then tc σ H3 fun w' H4=>r' y w' H4 Q else Q (.bl false) H3)
theorem Rn {op op':CmpOp}{r r':R2}(ho:OpR X (CO op) r)(ho':OpR X (CO op') r')(ha:PE X a ta)(hb:PE X b tb)(hc:PE X c tc)
  (hm:lastMarks [op,op'] [b,c]=false:=by with_unfolding_all rfl):PE X (.Compare a [op,op'] [b,c] pos) (wH r r' ta tb tc):=by
 intro pins s σ H Q I h;refine Compare_chain (thE (ha pins s σ H _ I h) fun v s1 x H1 I1 r1 q1=>chain_link (thE (hb pins s1 σ H1 _ I1 q1) fun u s2 y H2 I2 r2 q2=>
  thn (ho pins s2 σ H2 x y v u _ I2 r1 r2 q2) fun d s3 ⟨z,H3,I3,r3,k,e,q3⟩=>?_)) hm
 subst e;cases r3;refine Da ?_;cases k with
 | false=>exact ite_ff ⟨.bl false,H3,I3,rfl,q3⟩
 | true=>exact ite_tt (chain_last (thn (hc pins s3 σ H3 _ I3 q3) fun w' s4 ⟨z',H4,I4,r4,q4⟩=>ho' pins s4 σ H4 y z' u w' Q I4 r2 r4 q4))
theorem Q8 {op op':CmpOp}{r r':R2}(ho:OpR X (CO op) r)(ho':OpR X (CO op') r')(ha:PE X a ta)(hb:PE X b tb)(hc:PE X c tc)
  (hm:lastMarks [op,op'] [b,c]=false:=by with_unfolding_all rfl):PT X (.Compare a [op,op'] [b,c] pos) (vg (wH r r' ta tb tc)):=by
 intro pins s σ H Q I h;refine isTrue_chain (thE (ha pins s σ H _ I h) fun v s1 x H1 I1 r1 q1=>test_link (thE (hb pins s1 σ H1 _ I1 q1) fun u s2 y H2 I2 r2 q2=>
  thn (ho pins s2 σ H2 x y v u _ I2 r1 r2 q2) fun d s3 ⟨z,H3,I3,r3,k,e,q3⟩=>?_)) hm
 subst e;cases r3;refine Da ?_;cases k with
 | false=>
  obtain⟨k',e',q'⟩:=q3;cases e';exact ite_ff ⟨H3,I3,q'⟩
 | true=>
  refine ite_tt (test_last (thn (hc pins s3 σ H3 _ I3 q3) fun w' s4 ⟨z',H4,I4,r4,q4⟩=>thn (ho' pins s4 σ H4 y z' u w' _ I4 r2 r4 q4) fun d' s5 ⟨z2,H5,I5,r5,k2,e2,q5⟩=>?_));subst e2;cases r5;exact Da ⟨H5,I5,q5⟩
def ac0 (K:AC)(x:V)(H:Hp)(k:Bool):Prop:=
 match x with
 | .non=>k=false
 | .bl b=>k=b
 | .int i=>k=(i != 0)
 | .str y=>y.length<=AM/\k=((y.length:Int) != 0)
 | .byt y=>y.size<=AM/\k=((y.size:Int) != 0)
 | .ref p=>(∃xs,SqL K H p xs/\k=!xs.isEmpty)\/(∃xs,SqT K H p xs/\k=!xs.isEmpty)\/∃kvs,H p=some (.dK kvs)/\k=!kvs.isEmpty
 | _=>False
theorem Iu {κ:Type}{kvs:List (κ×V)}{vs:List (κ×Ap)}(r:KV kvs vs):(!vs.isEmpty)=!kvs.isEmpty:=by
 cases r <;> rfl
theorem xY {xs:List V}{its:List Ap}(r:Vals xs its):(!its.toArray.isEmpty)=!xs.isEmpty:=by
 cases r <;> simp
theorem xW:(AM:Nat)<2^63:=by rw[E3];decide
theorem ZG:ac1 X (fun x H Q=>∃k,ac0 X.K x H k/\Q k H):=by
 intro pins s σ H x v Q I rx h;obtain⟨k,e,q⟩:=h;have hl:=xW;have hs:AM=16777216:=E3;cases x with
 | non=>
  cases rx;have e':k=false:=e;subst e';exact truthy_none ⟨H,I,q⟩
 | bl b=>
  cases rx;have e':k=b:=e;subst e';exact Da ⟨H,I,q⟩
 | int i=>
  obtain⟨t,rfl⟩:=rx;have e':k=(i != 0):=e;subst e';exact PySem.P.truthy_int ⟨H,I,q⟩
 | str y=>
  obtain⟨t,rfl⟩:=rx;obtain⟨hy,e'⟩:y.length<=AM/\k=((y.length:Int) != 0):=e;subst e';exact PySem.P.truthy_str ω ⟨H,I.tok _,q⟩
 | byt y=>
  obtain⟨t,rfl⟩:=rx;obtain⟨hy,e'⟩:y.size<=AM/\k=((y.size:Int) != 0):=e;subst e';exact PySem.W.truthy_bytes ω ⟨H,I.tok _,q⟩
 | ref p=>
  cases rx;have e':(∃xs,SqL X.K H p xs/\k=!xs.isEmpty)\/(∃xs,SqT X.K H p xs/\k=!xs.isEmpty)\/∃kvs,H p=some (.dK kvs)/\k=!kvs.isEmpty:=e;rcases e' with⟨xs,hx,e'⟩|⟨xs,hx,e'⟩|⟨kvs,hx,e'⟩
  ·subst e';obtain⟨its,r,pl,hz⟩:=I.list hx;have hlen:=r.length;exact wpAny_truthy_list pl.isList (by simp only[Bz];omega) ⟨H,I.tok _,by rw[xY r];exact q⟩
  ·subst e';obtain⟨its,r,pl,hz⟩:=I.tuple hx;have hlen:=r.length;exact truthy_tuple pl (by simp only[Bz];omega) ⟨H,I.tok _,by rw[xY r];exact q⟩
  subst e';obtain⟨hz,hS,vs,r,m⟩:kvs.length<=AM/\(p == sysModules)=false/\∃vs,KV kvs vs/\s.heap.DictOf (mR X.prog X.w) p vs:=I.hok p _ hx;have hlen:kvs.length=vs.length:=Paired.length r;exact wpAny_truthy_dict hS m ω ⟨H,I.tok _,by rw[Iu r];exact q⟩
 | _=>exact(show False from e).elim
theorem vals1 {x:V}{us:List Ap}(r:Vals [x] us):∃u,us=[u]/\RelV x u:=by
 cases r with
 | cons r1 r2=>cases r2;exact⟨_,rfl,r1⟩
theorem vals2 {x y:V}{us:List Ap}(r:Vals [x,y] us):∃u w',us=[u,w']/\RelV x u/\RelV y w':=by
 cases r with
 | cons r1 r2=>
  cases r2 with
  | cons r3 r4=>cases r4;exact⟨_,_,rfl,r1,r3⟩
theorem Ga:dw X (.builtin "abs") (fun xs H Q=>∃i,xs=[.int i]/\Q (.int (if i<0 then -i else i)) H):=by
 intro pins s σ H xs us Q I r h;obtain⟨i,rfl,q⟩:=h;obtain⟨u,rfl,t,rfl⟩:=vals1 r;exact call_abs_int fun u tk=>⟨.int (if i<0 then -i else i),H,I.tok _,⟨_,rfl⟩,q⟩
theorem NQ (hc:X.calm=true):dw X (.builtin "max") (fun xs H Q=>∃i j,xs=[.int i,.int j]/\Q (.int (if j>i then j else i)) H):=by
 intro pins s σ H xs us Q I r h;obtain⟨i,j,rfl,q⟩:=h;obtain⟨u,w',rfl,⟨t,rfl⟩,⟨t',rfl⟩⟩:=vals2 r;refine max_two_ints (I.ok.hd hc) fun h' tk k=>⟨_,H,I.kept k,?_,q⟩;by_cases hj:j>i
 ·rw[if_pos hj,if_pos hj];exact⟨_,rfl⟩
 rw[if_neg hj,if_neg hj];exact⟨_,rfl⟩
theorem NP (hc:X.calm=true):dw X (.builtin "min") (fun xs H Q=>∃i j,xs=[.int i,.int j]/\Q (.int (if j<i then j else i)) H):=by
 intro pins s σ H xs us Q I r h;obtain⟨i,j,rfl,q⟩:=h;obtain⟨u,w',rfl,⟨t,rfl⟩,⟨t',rfl⟩⟩:=vals2 r;refine min_two_ints (I.ok.hd hc) fun h' tk k=>⟨_,H,I.kept k,?_,q⟩;by_cases hj:j<i
 ·rw[if_pos hj,if_pos hj];exact⟨_,rfl⟩
 rw[if_neg hj,if_neg hj];exact⟨_,rfl⟩
theorem Av:dw X (.type "int") (fun xs H Q=>(∃i,xs=[.int i]/\Q (.int i) H)\/∃k,xs=[.bl k]/\Q (.int (if k then 1 else 0)) H):=by
 intro pins s σ H xs us Q I r h;rcases h with⟨i,rfl,q⟩|⟨k,rfl,q⟩
 ·obtain⟨u,rfl,t,rfl⟩:=vals1 r;exact call_int_int ⟨.int i,H,I,⟨_,rfl⟩,q⟩
 obtain⟨u,rfl,r1⟩:=vals1 r;cases r1;exact call_int_bool ⟨.int (if k then 1 else 0),H,I.tok _,⟨_,rfl⟩,q⟩
end
structure abN (h:Heap)(x dx C:Addr)(mA:Str->Option Ap):Prop where
 obj:h.get? x=some (PySem.W.instObj C dx)
 ns:h.Ns1 dx mA
 ne:dx≠x
theorem Ng {h:Heap}{dx:Addr}{mA:Str->Option Ap}(n:h.Ns1 dx mA):∃od,h.get? dx=some od/\∀name,PySem.W.lookIn name od=some (mA name):=by
 obtain⟨o,es,ep,ho,hd,hk,_,hm⟩:=n;refine⟨o,ho,fun name=>?_⟩;have e:=hm name;unfold nsFind findBy at e;rw[<- Array.find?_toList] at e;unfold PySem.W.lookIn;rw[hd];dsimp only;split
 ·rename_i y q;rw[q] at e;exact congrArg some e
 rename_i q;rw[q] at e;have a:es.toList.any (·.refKey)=false:=by
  rw[List.any_eq_false];intro y hy;obtain⟨z,t,hkey⟩:=hk y (Array.mem_toList_iff.mp hy);simp [DictEntry.refKey,hkey]
 have a':¬es.toList.any (·.refKey)=true:=by rw[a];exact A5
 rw[if_neg a'];exact congrArg some e
theorem abN.look {h:Heap}{x dx C:Addr}{mA:Str->Option Ap}(I:abN h x dx C mA):∃od,PySem.W.InstAt h x (PySem.W.instObj C dx) C (some od)/\∀name,PySem.W.lookIn name od=some (mA name):=
 let ⟨od,ho,hl⟩:=Ng I.ns
 ⟨od,⟨I.obj,rfl,rfl,ho⟩,hl⟩
section
variable {P:AW}{w:BC}{H H':Hp}{h h':Heap}{a C dx:Addr}{fs fs':List (Str×V)}
theorem Yc (hok:HOk P w H h)(e:H a=some (.ins C dx fs)):∃mA,abN h a dx C mA/\(∀f,Dl (fs.lookup f) (mA f))/\L4 mA (fs.map (·.1))/\fs.length<=1000/\H dx=some (.own a):=by
 obtain⟨d,z,ne,ob,mA,n,r,q⟩:=(show cW P w H h a (.ins C dx fs) from hok a _ e);exact⟨mA,⟨ob,n,ne⟩,r,q,z,d⟩
end
structure Cls (K:AC)(C:Addr):Prop where
 pg:PySem.W.plainGet K C Str.empty=true
 hd:PySem.W.hasDictIn K C=true
 po:PySem.W.plainOver K C=true
 sa:B5 K (.ref C) "__setattr__" = some (some (.builtin "object.__setattr__"))
theorem Cls.get {K:AC}{C:Addr}(c:Cls K C)(f:Str):PySem.W.plainGet K C f=true:=c.pg
section
variable {X:Cx}{pins:List (Addr×Obj)}{σ:St}{H:Hp}{s:AA}{a C dx:Addr}{fs:List (Str×V)}{f:Str}{v:V}{A:A3}{E:Ap->AA->Prop}
theorem YZ {prog:AW}{w:BC}{env:Env}{e:Expr}{f:Str}{pos:Pos}{s:AA}{Q:Ap->AA->Prop}(hb:D9 e f env (eval e env)=eval e env)
  (h:AE (AH prog w) A (eval e env) (fun o s₁=>AE (AH prog w) A (getAttr o f true) Q E s₁) E s):AE (AH prog w) A (eval (.Attribute e f pos) env) Q E s:=
 Attribute_any_ h (by rw[arm_eval_Attribute,hb])
end
section
variable {X:Cx}{pins:List (Addr×Obj)}{σ:St}{H:Hp}{s:AA}{A:A3}{E:Ap->AA->Prop}{Q:Ap->AA->Prop}{c:Ap}{b:Bool}
inductive qI (K:AC)(H:Hp):V->Ap->Prop where
 | non:qI K H .non (.type "NoneType")
 | bl (x:Bool):qI K H (.bl x) (.type "bool")
 | int (i:Int):qI K H (.int i) (.type "int")
 | str (x:Str):qI K H (.str x) (.type "str")
 | flt (x:UInt64):qI K H (.flt x) (.type "float")
 | lst {a:Addr} {xs:List V} (e:H a=some (.lst xs)):qI K H (.ref a) (.type "list")
 | frz {a:Addr} {o:Obj} {xs:List V} (e:H a=some (.frz o (.lst xs))):qI K H (.ref a) (.type "list")
 | tup {a:Addr} {xs:List V} (e:H a=some (.tup xs)):qI K H (.ref a) (.type "tuple")
 | dK {a:Addr} {kvs:List (Key×V)} (e:H a=some (.dK kvs)):qI K H (.ref a) (.type "dict")
 | dT {a:Addr} {kvs:List (List Key×V)} (e:H a=some (.dT kvs)):qI K H (.ref a) (.type "dict")
 | ins {a C dx:Addr} {fs:List (Str×V)} (e:H a=some (.ins C dx fs)) (cl:Cls K C) (ha:B5 K (.ref C) "__class__" = some (some (.builtin "object.__class__")))
   (hn:KU K (.builtin "object.__class__") "__get__" = some (some (.builtin "getset_descriptor.__get__"))) (htk:PySem.W.takesIn K (.builtin "object.__class__")=some true)
   (hm:PySem.W.mroIn K C (.type "object")=some true):qI K H (.ref a) (.ref C)
theorem Ni {x:V}{u t:Ap}(I:Inv X pins σ H s)(rx:RelV x u)(ty:qI X.K H x t)(e:E9 X.K t c=some b)(h:∀tk,Q (.bool b) { s with toks:=tk }) :
  AE (AH X.prog X.w) A (call (.builtin "isinstance") [u,c]) Q E s:=by
 cases ty with
 | non=>cases (show u=Ap.none from rx);exact DF PySem.W.kitx_none I.kIn F6 e (fun z=>nomatch z) h
 | bl y=>cases (show u=Ap.bool y from rx);exact DF PySem.W.kitx_bool I.kIn F6 e (fun z=>nomatch z) h
 | int i=>obtain⟨t,q⟩:=(show ∃t,u=Ap.int i t from rx);cases q;exact DF PySem.W.kitx_int I.kIn F6 e (fun z=>nomatch z) h
 | str y=>obtain⟨t,q⟩:=(show ∃t,u=Ap.str y t from rx);cases q;exact DF PySem.W.kitx_str I.kIn F6 e (fun z=>nomatch z) h
 | flt y=>obtain⟨t,q⟩:=(show ∃t,u=Ap.float y t from rx);cases q;exact DF PySem.W.kitx_float I.kIn F6 e (fun z=>nomatch z) h
 | @lst a xs ea=>
  cases (show u=Ap.ref a from rx);obtain⟨_,_,n,_,h1⟩:=(show cW X.prog X.w H s.heap a (.lst xs) from I.hok a _ ea);exact DF KW I.kIn ⟨_,h1,rfl⟩ e (fun z=>nomatch z) h
 | @frz a ob xs ea=>
  cases (show u=Ap.ref a from rx);obtain⟨_,_,_,n,_,h1⟩:=(show cW X.prog X.w H s.heap a (.frz ob (.lst xs)) from I.hok a _ ea);exact DF KW I.kIn ⟨_,h1,rfl⟩ e (fun z=>nomatch z) h
 | @tup a xs ea=>
  cases (show u=Ap.ref a from rx);obtain⟨_,_,_,p⟩:=(show cW X.prog X.w H s.heap a (.tup xs) from I.hok a _ ea);obtain⟨o,h1,h2,_⟩:=p;exact DF PySem.W.kitx_tuple I.kIn ⟨o,h1,h2⟩ e (fun z=>nomatch z) h
 | @dK a kvs ea=>
  cases (show u=Ap.ref a from rx);obtain⟨_,_,vs,_,p⟩:=(show cW X.prog X.w H s.heap a (.dK kvs) from I.hok a _ ea);obtain⟨o,es,ep,h1,h2,_⟩:=p;exact DF K0 I.kIn ⟨o,h1,h2.1⟩ e (fun z=>nomatch z) h
 | @dT a kvs ea=>
  cases (show u=Ap.ref a from rx);obtain⟨_,_,xs,_,o,es,ep,h1,h2,_⟩:=(show cW X.prog X.w H s.heap a (.dT kvs) from I.hok a _ ea);exact DF K0 I.kIn ⟨o,h1,h2.1⟩ e (fun z=>nomatch z) h
 | @ins a C dx fs ea cl ha hn htk hm=>
  cases (show u=Ap.ref a from rx);obtain⟨mA,O,_⟩:=Yc I.hok ea;obtain⟨od,J,_⟩:=O.look;exact DF (PySem.W.kitx_own (cl.get _) cl.hd ha hn htk hm) I.kIn J e (fun z=>nomatch z) h
end
structure fK (k:Nat)(A:A3):Prop where
 hd:A.handled=none
 dp:A.depth+3*k+5<recursionLimit
 un:A.units+16*k+200<cLine
 gd:A.guards=some []
theorem fK.mono {j k:Nat}{A:A3}(r:fK k A)(h:j<=k):fK j A:=⟨r.hd,by have:=r.dp;omega,by have:=r.un;omega,r.gd⟩
theorem fK.deeper {k:Nat}{A:A3}(r:fK (k+1) A)(env:Env):fK k (A.deeper env):=
 ⟨r.hd,by have:=r.dp;show A.depth+1+3*k+5<_;omega,by have:=r.un;show A.units+3+16*k+200<_;omega,r.gd⟩
theorem Ik {A:A3}{C:Addr}{us:List Ap}{kw:List (Str×Ap)}:(A.under (.builtin "type.__call__" ⟨.ref C::us,kw⟩)).depth=A.depth+1:=by
 first|rfl|simp [A3.under,Code.weight,Code.isCreation,Code.isGuard,Code.isCaller,Code.frames,Code.isFrame,guardIds]
theorem Ij {A:A3}{C:Addr}{us:List Ap}{kw:List (Str×Ap)}:(A.under (.builtin "type.__call__" ⟨.ref C::us,kw⟩)).units=A.units+1:=by
 first|rfl|simp [A3.under,Code.cUnits,Code.frames,Code.isFrame]
theorem fK.make {k:Nat}{A:A3}(r:fK (k+1) A) (C:Addr) (us:List Ap) (kw:List (Str×Ap)):fK k (A.under (.builtin "type.__call__" ⟨.ref C::us,kw⟩)):=
 ⟨r.hd,by have:=r.dp;rw[Ik];omega,by have:=r.un;rw[Ij];omega,by have:=r.gd;first|exact this|simpa [A3.under,Code.guards,Code.isGuard,pushGuards,guardIds] using this⟩
theorem fK.depth {k:Nat}{A:A3}(r:fK k A):A.depth<recursionLimit:=by have:=r.dp;omega
theorem fK.bF {k:Nat}{A:A3}(r:fK k A):A.units<cLine:=by have:=r.un;omega
def wG:TA:=fun _ H Q=>Q [] H
def jo (ta:TE)(tr:TA):TA:=fun σ H Q=>ta σ H fun x H1=>tr σ H1 fun xs H2=>Q (x::xs) H2
section
variable {X:Cx}{e:Expr}{es:List Expr}{te:TE}{t:TA}{pos:Pos}
theorem aaG:PA X [] wG:=fun _ _ _ _ H Q I h=>F3 ⟨[],H,I,.nil,h⟩
theorem W8 (ha:PE X e te)(hr:PA X es t)(hs:AJ (e::es) X.env=(false,eval e X.env)::AJ es X.env:=by rfl):PA X (e::es) (jo te t):=by
 intro pos pins s σ H Q I h;rw[hs];show AE _ _ (spliced ((false,eval e X.env)::C8 pos (AJ es X.env))) _ _ s;refine FF (thE (ha pins s σ H _ I h) fun u s1 x H1 I1 r1 q1=>?_);exact thA (hr pos pins s1 σ H1 _ I1 q1) fun us s2 xs H2 I2 r2 q2=>⟨x::xs,H2,I2,.cons r1 r2,q2⟩
def Lk (t:TA):TE:=fun σ H Q=>t σ H fun xs H1=>xs.length<=AM/\∀p,H1 p=none->Q (.ref p) (upd H1 p (.tup xs))
def O4 (t:TA):TE:=fun σ H Q=>t σ H fun xs H1=>xs.length<=AM/\∀p,H1 p=none->Q (.ref p) (upd H1 p (.lst xs))
theorem aax {x1}(h:PA X es t):PE X (.Tuple es x1 pos) (Lk t):=by
 intro pins s σ H Q I hq;refine wpAny_Tuple_spliced (thn (h pos pins s σ H _ I hq) fun us s1 ⟨xs,H1,I1,r,z,q⟩=>⟨by rw[<- r.length];exact z,?_⟩);have hf:H1 s1.heap.objs.size=none:=I1.hok.fresh (AY _);refine⟨.ref s1.heap.objs.size,upd H1 s1.heap.objs.size (.tup xs),I1.laid (t':=s1.toks) (fun b u e=>AD _ e) (AY _) ?_,rfl,q _ hf⟩;exact⟨z,us,r,⟨_,A8 _ rfl,rfl,_,rfl⟩⟩
theorem aaC (h:PA X es t):PE X (.List es pos) (O4 t):=by
 intro pins s σ H Q I hq;refine wpAny_List_spliced (thn (h pos pins s σ H _ I hq) fun us s1 ⟨xs,H1,I1,r,z,q⟩=>⟨by rw[<- r.length];exact z,?_⟩);have hf:H1 s1.heap.objs.size=none:=I1.hok.fresh (AY _);refine⟨.ref s1.heap.objs.size,upd H1 s1.heap.objs.size (.lst xs),I1.laid (t':=s1.toks) (fun b u e=>AD _ e) (AY _) ?_,rfl,q _ hf⟩;exact⟨z,us,0,r,A8 _ rfl⟩
end
abbrev Sp:=List V->Hp->VK->XK->Prop
abbrev CXT:=List Env->Hp->AA->XK->Ap->AA->Prop
structure Jz (P:AW)(w:BC)(K:AC)(mg:Str->Option Ap)(base:Heap)(A:A3)(outer:List Env)(s:AA)(H:Hp):Prop where
 frames:A.frames=some outer
 mod:Mod K mg base
 bs:∀b o,base.get? b=some o->s.heap.get? b=some o/\H b=none
 bsz:base.objs.size<=s.heap.objs.size
 pK:s.heap.FunFrames base outer
 frf:∀b∈frs outer,H b=none
 hok:HOk P w H s.heap
 bare:JA s.gens
def CE (outer:List Env)(P:AW)(w:BC)(H:Hp)(s:AA)(Q:VK)(u:Ap)(s':AA):Prop:=
 ∃v H',s'.os=s.os/\JA s'.gens/\Un (frs outer) [] H H' s.heap s'.heap/\HOk P w H' s'.heap/\RelV v u/\Q v H'
def CR (CX:CXT)(outer:List Env)(P:AW)(w:BC)(H:Hp)(s:AA)(Q:VK)(E:XK)(r:Result)(s':AA):Prop:=
 match r with
 | .ok (.ret u)=>CE outer P w H s Q u s'
 | .ok _=>False
 | .error e=>CX outer H s E e s'
structure cU (P:AW)(w:BC)(K:AC)(mg:Str->Option Ap)(base:Heap)(CX:CXT)(k:Nat)(f:Addr)(fd:Dx)(ps:List Str)(sp:Sp):Prop where
 len:∀vs H Q E,sp vs H Q E->vs.length=ps.length
 run:∀(A:A3)(outer:List Env)(s:AA)(H:Hp)(args:Args)(us:List Ap)(vs:List V)(Q:VK)(E:XK),fK k A->Jz P w K mg base A outer s H->BindsTo s fd args (ps.zip us)->Vals vs us->sp vs H Q E ->
  FG (AH P w) A (.call (.ref f) args) (CR CX outer P w H s Q E) s
theorem Jz.make {P:AW}{w:BC}{K:AC}{mg:Str->Option Ap}{base:Heap}{A:A3}{outer:List Env}{s:AA}{H:Hp}(e:Jz P w K mg base A outer s H)(C:Addr)(us:List Ap)(kw:List (Str×Ap)) :
  Jz P w K mg base (A.under (.builtin "type.__call__" ⟨.ref C::us,kw⟩)) outer s H:=⟨by first|exact e.frames|(simpa [A3.under,Code.envs,Code.isFrame,pushEnvs] using e.frames),e.mod,e.bs,e.bsz,e.pK,e.frf,e.hok,e.bare⟩
section
variable {X:Cx}{pins:List (Addr×Obj)}{σ:St}{H:Hp}{s s':AA}
theorem Inv.env0 (I:Inv X pins σ H s):Jz X.prog X.w X.K X.mg X.base X.A X.stack s H:=
 ⟨I.ok.frames,I.ok.mod,I.bs,BN I.ok.bsz I.sz,I.stack,I.vV,I.hok,I.bare⟩
theorem Inv.after {Q:VK}{u:Ap}(I:Inv X pins σ H s)(h:CE X.stack X.prog X.w H s Q u s'):EP X pins σ Q u s':=by
 obtain⟨v,H',os,bare,un,hok,r,q⟩:=h;obtain⟨hh,g,d,t,os'⟩:=s';obtain rfl:os'=s.os:=os;exact⟨v,H',I.call (h':=hh) (g':=g) (d':=d) (t':=t) (ch:=[]) un hok bare (fun b z=>absurd z (by simp)),r,q⟩
end
def lG (sp:Sp)(dvs:List V)(E:XK)(t:TA):TE:=fun σ H Q=>t σ H fun vs H1=>sp (vs++dvs) H1 Q E
def Binds (K:AC)(fd:Dx)(ps:List Str)(ds:List Ap):Prop:=
 ∀(s:AA)(us:List Ap),K.In s.heap->(us++ds).length=ps.length->BindsTo s fd ⟨us,[]⟩ (ps.zip (us++ds))
theorem Binds.all {K:AC}{fd:Dx}{ps:List Str}(h:∀us:List Ap,us.length=ps.length->bindArgs fd ⟨us,[]⟩=pure (ps.zip us)):Binds K fd ps []:=fun s us _ hl=>by
 rw[DB] at hl |-;exact .of_eq (h us hl)
def rN (CX:CXT)(X:Cx)(E:XK):Prop:=∀(pins:List (Addr×Obj)) (σ:St) (H:Hp) (s:AA) (e:Ap) (s':AA),Inv X pins σ H s->CX X.stack H s E e s'->X.xe e s'
section
variable {X:Cx}{CX:CXT}{k:Nat}{f C:Addr}{fd:Dx}{ps:List Str}{sp:Sp}{dvs:List V}{ds:List Ap}{E:XK}{x m:Str}{p pos apos:Pos}{e o:Expr}{es:List Expr}{ta:TE}{t:TA}
theorem Z1 {pins:List (Addr×Obj)}{σ:St}{H:Hp}{s:AA}{Q:VK}{us:List Ap}{vs:List V}(F:cU X.prog X.w X.K X.mg X.base CX k f fd ps sp)(hr:fK k X.A)(hb:Binds X.K fd ps ds)(hd:Vals dvs ds)(hx:rN CX X E)
  (I:Inv X pins σ H s) (r:Vals vs us) (h:sp (vs++dvs) H Q E):AE (AH X.prog X.w) X.A (call (.ref f) us) (EP X pins σ Q) X.xe s:=by
 have r2:Vals (vs++dvs) (us++ds):=r.append hd;have hl:(us++ds).length=ps.length:=by rw[<- r2.length];exact F.len _ _ _ _ h
 refine Hb (HK (F.run X.A X.stack s H ⟨us,[]⟩ (us++ds) (vs++dvs) Q E hr I.env0 (hb s us I.kIn hl) r2 h) fun r s' hq=>?_);cases r with
 | error e=>exact hx pins σ H s e s' I hq
 | ok fl=>
  cases fl with
  | ret u=>exact I.after hq
  | next=>exact EH hq
  | brk=>exact EH hq
  | cont=>exact EH hq
theorem J9 (F:cU X.prog X.w X.K X.mg X.base CX k f fd ps sp)(hr:fK k X.A)(hg:Gl X x)(hm:X.mg x=some (.ref f))(hk:keepIn X.K (.ref f)=true)(hb:Binds X.K fd ps ds)(hd:Vals dvs ds)(hx:rN CX X E)
  (ha:PA X (e::es) t) (hdb:(x == ("__debug__" : Str))=false:=by decide) (he:AJ (e::es) X.env=(false,eval e X.env)::AJ es X.env:=by rfl) (hpl:(C8 pos (AJ es X.env)).any (·.1)=false:=by rfl) :
  PE X (.Call (.Name x p) (e::es) [] pos) (lG sp dvs E t):=by
 intro pins s σ H Q I h;refine Hd (wg I hg hm ?_ hdb);refine PySem.W.callWith_K (h₀:=X.base) I.ok.mod.kin hk (thA (ha pos pins s σ H _ I h) fun us s1 vs H1 I1 r q=>⟨I1.kIn,?_⟩) he hpl;exact Z1 F hr hb hd hx I1 r q
end
structure bA (N P:List Str)(sc:FA):Prop where
 kind:sc.kind=.function
 co:sc.isCoroutine=false
 gen:sc.isGenerator=false
 nd:N.Nodup
 pre:N.take P.length=P
 par:∀x∈P,sc.names.lookup x=some .local\/sc.names.lookup x=some .cell
 nofree:∀y∈sc.names,y.2≠.free
theorem Az {kindOf:Str->Option DS}{x:Str}:∀{binds:List (Str×Ap)}{m:Str->Option Ap},(∀v,(x,v)∉binds)->bindL kindOf binds m x=m x
 | [],_,_=>rfl
 | (n,v)::r,m,h=>by
  unfold bindL;rw[Az fun w hw=>h w (A4 _ hw)];split
  ·have:x≠n:=by rintro rfl;exact h v BE
   simp [this]
  rfl
theorem Bb {kindOf:Str->Option DS}{x:Str}:∀{binds:List (Str×Ap)}{m:Str->Option Ap},(∀v,(x,v)∉binds)->bindC kindOf binds m x=m x
 | [],_,_=>rfl
 | (n,v)::r,m,h=>by
  unfold bindC;rw[Bb fun w hw=>h w (A4 _ hw)];split
  ·rfl
  have:x≠n:=by rintro rfl;exact h v BE
  simp [this]
theorem Ba {kindOf:Str->Option DS}{x:Str}{v:Ap}:∀{P:List Str}{vs:List Ap}{i:Nat}{m:Str->Option Ap},P.Nodup->P[i]?=some x->vs[i]?=some v->kindOf x=some .local ->
  bindL kindOf (P.zip vs) m x=some v
 | [],_,_,_,_,h,_,_=>by simp at h
 | _::_,[],_,_,_,_,h,_=>by simp at h
 | p::P,w::vs,0,m,nd,h1,h2,hk=>by
  simp at h1 h2;subst h1;subst h2;show bindL kindOf ((p,w)::P.zip vs) m p=_;unfold bindL;rw[Az fun v hv=>(nodup_cons.mp nd).1 (of_mem_zip hv).1,if_pos hk];simp
 | p::P,w::vs,i+1,m,nd,h1,h2,hk=>by
  show bindL kindOf ((p,w)::P.zip vs) m x=_;unfold bindL;exact Ba (i:=i) (nodup_cons.mp nd).2 (by simpa using h1) (by simpa using h2) hk
theorem Bc {kindOf:Str->Option DS}{x:Str}{v:Ap}:∀{P:List Str}{vs:List Ap}{i:Nat}{m:Str->Option Ap},P.Nodup->P[i]?=some x->vs[i]?=some v->kindOf x≠some .local ->
  bindC kindOf (P.zip vs) m x=some v
 | [],_,_,_,_,h,_,_=>by simp at h
 | _::_,[],_,_,_,_,h,_=>by simp at h
 | p::P,w::vs,0,m,nd,h1,h2,hk=>by
  simp at h1 h2;subst h1;subst h2;show bindC kindOf ((p,w)::P.zip vs) m p=_;unfold bindC;rw[Bb fun v hv=>(nodup_cons.mp nd).1 (of_mem_zip hv).1,if_neg hk];simp
 | p::P,w::vs,i+1,m,nd,h1,h2,hk=>by
  show bindC kindOf ((p,w)::P.zip vs) m x=_;unfold bindC;exact Bc (i:=i) (nodup_cons.mp nd).2 (by simpa using h1) (by simpa using h2) hk
def start (N:List Str)(vs:List V):St:=vs.map some++BD (N.length-vs.length) none
def zH (CX:CXT)(P:AW)(w:BC)(K:AC)(mg:Str->Option Ap)(base:Heap)(N:List Str)(qual:Str)(scope:FA)(f:Addr)(cd:Ap)(A:A3)(outer:List Env)(s:AA)(H:Hp)(E:XK):Cx where
 prog:=P
 w:=w
 K:=K
 mg:=mg
 base:=base
 A:=A.deeper (F7 qual scope s.heap.objs.size f cd)
 N:=N
 s₀:=s
 H₀:=H
 env:=F7 qual scope s.heap.objs.size f cd
 outer:=outer
 stack:=F7 qual scope s.heap.objs.size f cd::outer
 ex:=[]
 calm:=true
 fn:=fun _=>true
 pn:=[]
 xe:=fun e s'=>AE (AH P w) (A.deeper (F7 qual scope s.heap.objs.size f cd)) (leaving (F7 qual scope s.heap.objs.size f cd) e) (fun _ s''=>CX outer H s E e s'') (fun e' s''=>CX outer H s E e' s'') s'
theorem FW {sc:FA}{n:Nat}{x:Str}(h:sc.names.lookup x=some .cell):∃c,(cellsFrom n sc.names []).lookup x=some c:=by
 have q:=PySem.W.cellsFrom_some sc.names n [] (.inl h);exact Option.isSome_iff_exists.mp q
theorem Nj {CX:CXT}{P:AW}{w:BC}{K:AC}{mg:Str->Option Ap}{base:Heap}{N ps:List Str}{qual:Str}{scope:FA}{f:Addr}{cd:Ap}{A:A3}{outer:List Env}{s s1:AA}{H:Hp}{E:XK}{us:List Ap}{vs:List V}
  (S:bA N ps scope) (hd:A.handled=none) (e0:Jz P w K mg base A outer s H) (hl:vs.length=ps.length) (r:Vals vs us)
  (x:InCallC s s.heap.objs.size (bindL (F7 qual scope s.heap.objs.size f cd).kindOf (ps.zip us) fun _=>none) (cellsFrom (s.heap.objs.size+1) scope.names []) (bindC (F7 qual scope s.heap.objs.size f cd).kindOf (ps.zip us) fun _=>none) s1) :
  Inv (zH CX P w K mg base N qual scope f cd A outer s H E) [] (start N vs) H s1:=by
 have hpl:ps.length<=N.length:=by have:=congrArg CF S.pre;rw[D4] at this;omega
 obtain⟨h1,tk,rfl,hk⟩:=x.done;have noA:∀b:Addr,b∉(zH CX P w K mg base N qual scope f cd A outer s H E).ex:=fun b z=>absurd (show b∈([]:List Addr) from z) (by simp);refine⟨⟨e0.mod,S.kind,rfl,rfl,AY _,fun y z c h1 h2=>?_,fun y hy=>?_,fun y c _ h=>?_,fun _=>hd,A3.frames_deeper e0.frames,.inr ⟨rfl,rfl⟩,fun b z=>absurd z (noA b),e0.bs,e0.bsz,fun b _ _=>noA b,fun b z=>absurd z (noA b),e0.pK,e0.frf⟩,
  rfl,e0.bare,Un.kept hk,⟨_,x.toInCall.ns,fun i y v h1 h2 h3=>?_⟩,fun y c h=>⟨_,x.cell y c h⟩,e0.hok.fresh (AY _),fun y c h=>?_,fun p hp=>absurd (show p∈([]:List (Addr×Obj)) from hp) (by simp),e0.hok.kept hk,?_⟩
 ·exact name_of_addr x.apart (DI h1) (DI h2)
 ·have hy:scope.names.lookup y=some .cell\/scope.names.lookup y=some .free:=hy;rcases hy with hy|hy
  ·exact FW hy
  exact absurd rfl (S.nofree _ (DI hy))
 ·exact IQ (x.above y c (DI h))
 ·have hi:i<vs.length:=by
   unfold start at h2;by_cases hi:i<vs.length
   ·exact hi
   rw[F2 (by simpa using hi)] at h2;rw[List.getElem?_replicate] at h2;split at h2 <;> cases h2
  have ha:vs[i]?=some v:=by
   unfold start at h2;rw[GV (by simpa using hi),BH] at h2;cases e:vs[i]? with
   | none=>rw[e] at h2;cases h2
   | some a=>rw[e] at h2;cases h2;rfl
  obtain⟨u,hu,rv⟩:=r.get ha;have hp:ps[i]?=some y:=by
   rw[<- S.pre,List.getElem?_take_of_lt ω];exact h1
  have ndP:ps.Nodup:=by rw[<- S.pre];exact S.nd.sublist (take_sublist _ _)
  refine⟨u,rv,?_⟩;rcases S.par y (BF hp) with k|k
  ·exact .inl ⟨k,Ba ndP hp hu k⟩
  obtain⟨c,e⟩:=FW (n:=s.heap.objs.size+1) k;refine .inr ⟨.inl k,c,e,?_⟩;have q:=x.cell y c e;rw[Bc ndP hp hu (by show scope.names.lookup y≠_;rw[k];decide)] at q;exact q
 ·exact e0.hok.fresh (IQ (x.above y c (DI h)))
 unfold start;show _=N.length;rw[AO,AV,List.length_replicate];omega
theorem Zt {CX:CXT}{P:AW}{w:BC}{K:AC}{mg:Str->Option Ap}{base:Heap}{k:Nat}{f:Addr}{name qual:Str}{params:Arguments}{body:List Stmt}{scope:FA}{dV kV doc pm cdv ct oc:Ap}{an od:Option Addr}
  {osl:Array (Option Ap)} {N ps:List Str} {sp:Sp} (lk:K.lookup f=some ⟨oc,od,.func (fnOf name qual params body scope dV kV doc pm an cdv ct),osl⟩) (hcd:codeIn K cdv qual=true) (S:bA N ps scope)
  (len:∀vs H Q E,sp vs H Q E->vs.length=ps.length)
  (hbody:∀(A:A3)(outer:List Env)(s:AA)(H:Hp)(vs:List V)(Q:VK)(E:XK),fK k (A.deeper (F7 qual scope s.heap.objs.size f cdv))->sp vs H Q E ->
   ∃t,PSs (zH CX P w K mg base N qual scope f cdv A outer s H E) body t/\t { nx:=fun _ H'=>Q .non H',rt:=Q } (start N vs) H) :
  cU P w K mg base CX (k+1) f (fnOf name qual params body scope dV kV doc pm an cdv ct) ps sp:=by
 refine⟨len,fun A outer s H args us vs Q E hr e0 hb r hsp=>?_⟩;have hl:=len _ _ _ _ hsp;have KX:K.In s.heap:=e0.mod.kin.keeps fun b o e=>(e0.bs b o e).1;have lim:s.heap.NoLimit:=e0.mod.nolimit.keeps fun b o e=>(e0.bs b o e).1;have hkind:∀y∈ps.zip us,scope.names.lookup y.1=some .local\/(scope.names.lookup y.1=some .cell/\((cellsFrom (s.heap.objs.size+1) scope.names []).lookup y.1).isSome=true):=fun⟨n,v⟩ hy=>by
  rcases S.par n (of_mem_zip hy).1 with q|q
  ·exact .inl q
  exact .inr ⟨q,PySem.W.cellsFrom_some _ _ _ (.inl q)⟩
 refine codeAny_call_function hr.depth (KX _ _ lk) rfl S.co S.gen rfl (PySem.W.codeRec_of KX hcd) (hb _ _ _ _ ?_);refine wpAny_newFunctionEnv_cells S.kind hkind fun env he s1 x=>?_;subst he;refine⟨lim.keeps x.toInCall.keep,codeAny_func ?_⟩;obtain⟨t,ht,hq⟩:=hbody A outer s H vs Q E (hr.deeper _) hsp;have I:Inv (zH CX P w K mg base N qual scope f cdv A outer s H E) [] (start N vs) H s1:=Nj S hr.hd e0 hl r x;refine BO (ht [] s1 (start N vs) H _ I hq) (fun fl s' hs=>?_) fun e s' hs=>hs;have fin:∀{σ':St}{H':Hp}{v:V}{u:Ap},Inv (zH CX P w K mg base N qual scope f cdv A outer s H E) [] σ' H' s'->RelV v u->Q v H'->CE outer P w H s Q u s':=
  fun {σ' H' v u} J rv q=>⟨v,H',J.os,J.bare,J.base,J.hok,rv,q⟩
 cases fl with
 | ret u=>
  obtain⟨v,σ',H',J,rv,q⟩:=hs;exact fin J rv q
 | next=>
  obtain⟨σ',H',J,q⟩:=hs;exact fin (v:=V.non) (u:=Ap.none) J rfl q
 | brk=>
  obtain⟨_,_,_,q⟩:=hs;exact EH q
 | cont=>
  obtain⟨_,_,_,q⟩:=hs;exact EH q
section
variable {X:Cx}{x:Str}{p pos:Pos}{e:Expr}{es:List Expr}{t:TA}{id T:String}{r:List V->Hp->VK->Prop}
def tCB (r:List V->Hp->VK->Prop)(t:TA):TE:=fun σ H Q=>t σ H fun vs H1=>r vs H1 Q
theorem Ro (hc:dw X (.builtin id) r) (hg:Gl X x) (hm:X.mg x=none) (hv:D0 x=some (.builtin id)) (ha:PA X (e::es) t) (hn:x ≠ "__name__" := by decide) (hdb:(x == ("__debug__" : Str))=false:=by decide)
  (he:AJ (e::es) X.env=(false,eval e X.env)::AJ es X.env:=by rfl) (hpl:(C8 pos (AJ es X.env)).any (·.1)=false:=by rfl):PE X (.Call (.Name x p) (e::es) [] pos) (tCB r t):=by
 intro pins s σ H Q I h;refine Hd (jV I hg hm hv ?_ hn hdb);exact PyProof.Rows.callWith_builtin1 (thA (ha pos pins s σ H _ I h) fun us s1 vs H1 I1 r1 q1=>hc pins s1 σ H1 vs us Q I1 r1 q1) he hpl
theorem Mw (hc:dw X (.type T) r) (hg:Gl X x) (hm:X.mg x=none) (hv:D0 x=some (.type T)) (ha:PA X (e::es) t) (hn:x ≠ "__name__" := by decide) (hdb:(x == ("__debug__" : Str))=false:=by decide)
  (he:AJ (e::es) X.env=(false,eval e X.env)::AJ es X.env:=by rfl) (hpl:(C8 pos (AJ es X.env)).any (·.1)=false:=by rfl):PE X (.Call (.Name x p) (e::es) [] pos) (tCB r t):=by
 intro pins s σ H Q I h;refine Hd (jV I hg hm hv ?_ hn hdb);exact CL (thA (ha pos pins s σ H _ I h) fun us s1 vs H1 I1 r1 q1=>hc pins s1 σ H1 vs us Q I1 r1 q1) he hpl
end
end L2
namespace HT
open PySem PyProof.Rows
section
variable {prog:AW}{w:BC}{A:A3}{E:Ap->AA->Prop}{s:AA}
def sIx (n d:Nat):Option Int->Nat
 | none=>d
 | some v=>if v<0 then (v+(n:Int)).toNat else min v.toNat n
theorem Z0 (n d:Nat)(hd:d<=n)(o:Option Int):sIx n d o<=n:=by
 cases o with
 | none=>exact hd
 | some v=>
  show(if v<0 then (v+(n:Int)).toNat else min v.toNat n)<=n;by_cases hv:v<0
  ·rw[if_pos hv];omega
  rw[if_neg hv];exact Nat.min_le_right _ _
theorem KY (v:Int)(n d:Nat):(if v<0 then max (v+(n:Int)) 0 else min v (n:Int))=((sIx n d (some v):Nat):Int):=by
 show(if v<0 then max (v+(n:Int)) 0 else min v (n:Int))=(((if v<0 then (v+(n:Int)).toNat else min v.toNat n):Nat):Int);by_cases hv:v<0
 ·simp only[if_pos hv];omega
 simp only[if_neg hv];omega
theorem Jx (lo hi:Option Int)(n:Nat):AX.Slice.sliceAdjust lo hi 1 (n:Int)=(((sIx n 0 lo:Nat):Int),((sIx n n hi:Nat):Int)):=by
 have h1:¬((1:Int)<0):=ω;unfold AX.Slice.sliceAdjust;simp only[h1,if_false];refine Prod.ext ?_ ?_
 ·cases lo with
  | none=>rfl
  | some v=>exact KY v n 0
 cases hi with
 | none=>rfl
 | some v=>exact KY v n n
theorem Hw (i j:Nat):AX.Slice.slicePlaces (i:Int) (j:Int) 1=j-i:=by
 unfold AX.Slice.slicePlaces;have h1:(1:Int)>0:=ω;simp only[h1,if_true,Int.ediv_one];split <;> omega
theorem wK {v:Ap}{o:Option Int}{Q:Option Int->AA->Prop}(p:IsPart v o)(h:Q o s):AE (AH prog w) A (AX.Slice.slicePartIndex v) Q E s:=by
 cases p with
 | none=>exact slicePart_none h
 | int i t=>exact slicePart_int h
theorem uG {sl:Addr}{vl vu:Ap}{lo hi:Option Int}{n:Nat}{Q:Int×Int×Nat->AA->Prop}(hs:s.heap.IsSliceOf sl vl vu .none)(pl:IsPart vl lo)(pu:IsPart vu hi)
  (h:Q (((sIx n 0 lo:Nat):Int),1,sIx n n hi-sIx n 0 lo) s):AE (AH prog w) A (AX.Slice.sliceApplied (.ref sl) (pure (n:Int))) Q E s:=by
 obtain⟨os,hos,hcs,hds⟩:=id hs;unfold AX.Slice.sliceApplied AX.Slice.sliceFields;refine An (An (Co hos hds (x:=vl) rfl (An (Co hos hds (x:=vu) rfl (An (Co hos hds (x:=.none) rfl (Au ?_)))))));refine An (slicePart_none ?_);show AE _ _ (if ((1:Int) == 0)=true then _ else _) _ _ s;rw[if_neg δ];refine An (wK pl (An (wK pu (An (Au ?_)))));show AE _ _ (match AX.Slice.sliceAdjust lo hi 1 (n:Int) with|(lo,hi)=>pure (lo,(1:Int),AX.Slice.slicePlaces lo hi 1)) _ _ s
 rw[Jx lo hi n];show AE _ _ (pure (((sIx n 0 lo:Nat):Int),(1:Int),AX.Slice.slicePlaces ((sIx n 0 lo:Nat):Int) ((sIx n n hi:Nat):Int) 1)) _ _ s;rw[Hw];exact Au h
theorem Rb (xs:Array Ap)(i k:Nat):((BS k).filterMap fun(m:Nat)=>xs[((i:Int)+(m:Int)*1).toNat]?).toArray=((xs.toList.drop i).take k).toArray:=by
 have e:(fun(m:Nat)=>xs[((i:Int)+(m:Int)*1).toNat]?)=fun m=>xs[i+m]?:=by
  funext m;have:((i:Int)+(m:Int)*1).toNat=i+m:=by omega
  rw[this]
 rw[e];have:=pick_run xs i k;rw[M0] at this;have e2:((fun x=>xs[x]?)∘fun x=>i+x)=fun m=>xs[i+m]?:=rfl;rw[e2] at this;rw[this]
theorem tZ {t sl:Addr}{items:Array Ap}{vl vu:Ap}{lo hi:Option Int}{Q:Ap->AA->Prop}(ht:IsTup s.heap t items)(hs:s.heap.IsSliceOf sl vl vu .none)(pl:IsPart vl lo)(pu:IsPart vu hi)
  (hw:¬(sIx items.size 0 lo=0/\sIx items.size items.size hi=items.size))
  (h:Q (.ref s.heap.objs.size) { s with heap:=s.heap.push { cls:=.type "tuple",data:=.seq ((items.toList.drop (sIx items.size 0 lo)).take (sIx items.size items.size hi-sIx items.size 0 lo)).toArray } })
  (hsz:items.size<=AM):AE (AH prog w) A (getItem (.ref t) (.ref sl)) Q E s:=by
 have htake:sizeOk (.seq ((items.toList.drop (sIx items.size 0 lo)).take (sIx items.size items.size hi-sIx items.size 0 lo)).toArray):=by
  show((items.toList.drop (sIx items.size 0 lo)).take (sIx items.size items.size hi-sIx items.size 0 lo)).toArray.size<=AM;rw[Bz,D4,F8,CC];omega
 have hj:sIx items.size items.size hi<=items.size:=Z0 _ _ (AY _) hi;obtain⟨os,hos,hcs,hds⟩:=id hs;have hTs:s.TypeIs (.ref sl) "slice" := ⟨os,hos,hcs⟩;unfold getItem
 try with_reducible refine BI ?_
 first|refine An (Au ?_)|skip
 refine An (wpAny_sequenceKey ht.typeIs δ ?_);refine An (CS (name:=FH "__getitem__") ht.typeIs Iq
  (CU Iq ht.typeIs entry_tuple_getitem ?_ (args_tuple_getitem _ _)))
 show AE _ _ (AX.Tuple.tupleItemsOf (.ref t) >>= _) _ _ s;refine An (tupleItemsOf_ ht ?_);refine An (JE hTs ?_);rw[if_pos δ];refine An (uG hs pl pu ?_);have hno:¬((((sIx items.size 0 lo:Nat):Int) == 0&&(1:Int) == 1&&(sIx items.size items.size hi-sIx items.size 0 lo) == items.size)=true):=by
  intro q;rw[C1,C1] at q;have q1:((sIx items.size 0 lo:Nat):Int)=0:=eq_of_beq q.1.1;have q2:sIx items.size items.size hi-sIx items.size 0 lo=items.size:=eq_of_beq q.2;exact hw ⟨ω,ω⟩
 show AE _ _ (if (((sIx items.size 0 lo:Nat):Int) == 0&&(1:Int) == 1&&(sIx items.size items.size hi-sIx items.size 0 lo) == items.size)=true then _ else _) _ _ s;rw[if_neg hno,Rb]
 first
  | exact An (m:=AX.Tuple.tupleExact _) (BM (Au ⟨_,rfl,Au h⟩) htake)
  | exact An (m:=AX.Tuple.tupleExact _) (BM (An (Au (Au ⟨_,rfl,Au h⟩))) htake)
  | exact An (An (m:=AX.Tuple.tupleExact _) (BM (Au (Au ⟨_,rfl,Au h⟩)) htake))
  | exact An (An (m:=AX.Tuple.tupleExact _) (BM (Au ⟨_,rfl,Au h⟩) htake))
end
end HT
namespace L2
open PySem PySem.Spec PyProof.Rows
abbrev TO:=St->Hp->(Option Int->Hp->Prop)->Prop
def PO (X:Cx)(e:Option Expr)(t:TO):Prop:=
 ∀(pins:List (Addr×Obj)) (s:AA) (σ:St) (H:Hp) (Q:Option Int->Hp->Prop),Inv X pins σ H s->t σ H Q ->
  AE (AH X.prog X.w) X.A (evalPart e X.env) (fun u s'=>∃o H',Inv X pins σ H' s'/\IsPart u o/\Q o H') X.xe s
def Bj:TO:=fun _ H Q=>Q none H
def O1 (t:TE):TO:=fun σ H Q=>t σ H fun x H1=>∃i,x=.int i/\Q (some i) H1
section
variable {X:Cx}{e:Expr}{te:TE}{lo hi:Option Expr}{tl th:TO}{pos p2:Pos}
theorem WD:PO X none Bj:=by
 intro pins s σ H Q I h;rw[evalPart_none];exact Au ⟨none,H,I,.none,h⟩
theorem Wz (h:PE X e te):PO X (some e) (O1 te):=by
 intro pins s σ H Q I hw;rw[evalPart_some];refine thE (h pins s σ H _ I hw) fun u s1 x H1 I1 r1 q1=>?_;obtain⟨i,rfl,q⟩:=q1;obtain⟨t,rfl⟩:=r1;exact⟨some i,H1,I1,.int i t,q⟩
def SlR (X:Cx)(r:V->Option Int->Option Int->Hp->VK->Prop):Prop:=
 ∀(pins:List (Addr×Obj)) (s:AA) (σ:St) (H:Hp) (x:V) (v vl vu:Ap) (lo hi:Option Int) (sl:Addr) (Q:VK),Inv X pins σ H s->RelV x v->s.heap.IsSliceOf sl vl vu .none->IsPart vl lo->IsPart vu hi->r x lo hi H Q ->
  ∃T id,He (.type T) "__getitem__" = pure (some (.builtin id))/\s.TypeIs v T/\AE (AH X.prog X.w) X.A (getItem v (.ref sl)) (EP X pins σ Q) X.xe s
def tSl (r:V->Option Int->Option Int->Hp->VK->Prop)(te:TE)(tl th:TO):TE:=fun σ H Q=>te σ H fun x H1=>tl σ H1 fun l H2=>th σ H2 fun u H3=>r x l u H3 Q
theorem Ri {r:V->Option Int->Option Int->Hp->VK->Prop}(hr:SlR X r)(he:PE X e te)(hl:PO X lo tl)(hu:PO X hi th):PE X (.Subscript e (.Slice lo hi none p2) pos) (tSl r te tl th):=by
 intro pins s σ H Q I h;refine Subscript_ (thE (he pins s σ H _ I h) fun v s1 x H1 I1 r1 q1=>?_);refine wpAny_Slice (thn (hl pins s1 σ H1 _ I1 q1) fun vl s2 ⟨l,H2,I2,pl,q2⟩=>thn (hu pins s2 σ H2 _ I2 q2) fun vu s3 ⟨u,H3,I3,pu,q3⟩=>?_);rw[evalPart_none];refine Au ?_;have I4:Inv X pins σ H3 { s3 with heap:=s3.heap.push { cls:=.type "slice",data:=.fields #[vl,vu,.none] } }:=I3.kept (t':=s3.toks) fun b ob q=>AD _ q;obtain⟨T,id,hT,ht,hg⟩:=hr pins { s3 with heap:=s3.heap.push { cls:=.type "slice",data:=.fields #[vl,vu,.none] } } σ H3 x v vl vu l u s3.heap.objs.size Q I4 r1 (Heap.IsSliceOf.new ..) pl pu q3;show AE (AH X.prog X.w) X.A (subscriptTail e (.Slice lo hi none p2) v (.ref s3.heap.objs.size)) (EP X pins σ Q) X.xe { s3 with heap:=s3.heap.push { cls:=.type "slice",data:=.fields #[vl,vu,.none] } };exact tail_any (ops:=[.ref s3.heap.objs.size,v]) ht hT hg (by with_unfolding_all rfl)
def rH (xs:List V)(lo hi:Option Int):List V:=(xs.drop (HT.sIx xs.length 0 lo)).take (HT.sIx xs.length xs.length hi-HT.sIx xs.length 0 lo)
theorem vC (xs:List V)(lo hi:Option Int):(rH xs lo hi).length<=xs.length:=by
 unfold rH;rw[D4,F8];omega
def acH (K:AC):V->Option Int->Option Int->Hp->VK->Prop:=fun x lo hi H Q=>∃a xs,x=.ref a/\SqT K H a xs /\
 ¬(HT.sIx xs.length 0 lo=0/\HT.sIx xs.length xs.length hi=xs.length)/\∀p,H p=none->Q (.ref p) (upd H p (.tup (rH xs lo hi)))
theorem ZV:SlR X (acH X.K):=by
 intro pins s σ H x v vl vu lo hi sl Q I rx hs pl pu h;obtain⟨a,xs,rfl,hx,hw,q⟩:=h;cases rx;obtain⟨its,r,ht,hz⟩:=I.tuple hx;have hlen:its.toArray.size=xs.length:=by rw[Bz];exact r.length.symm
 refine⟨"tuple",_,Iq.lookup,ht.typeIs,?_⟩;refine HT.tZ ht hs pl pu (by rw[hlen];exact hw) ?_ (by rw[hlen];exact hz);rw[hlen];refine⟨.ref s.heap.objs.size,_,I.laid (t':=s.toks) (o:=.tup (rH xs lo hi)) (fun b ob q=>AD _ q) (AY _) ?_,rfl,q _ (I.hok.fresh (AY _))⟩;exact⟨BN (vC xs lo hi) hz,_,(r.drop (HT.sIx xs.length 0 lo)).take (HT.sIx xs.length xs.length hi-HT.sIx xs.length 0 lo),IsTup.new _ _⟩
end
def ixN (n:Nat)(i:Int):Option Nat:=if 0<=i then (if i<n then some i.toNat else none) else if -(n:Int)<=i then some (i+n).toNat else none
def atI {α:Type}(xs:List α)(i:Int):Option α:=(ixN xs.length i).bind fun j=>xs[j]?
theorem Kq {n:Nat}{i:Int}{j:Nat}(h:ixN n i=some j):seqIndex? i n=some j/\j<n/\-(n:Int)<=i/\i<n:=by
 unfold ixN at h;by_cases h0:0<=i
 ·rw[if_pos h0] at h;by_cases h1:i<n
  ·rw[if_pos h1] at h;have e:i.toNat=j:=B7 h;exact⟨by rw[seqIndex_of h0 h1,e],ω,ω,h1⟩
  rw[if_neg h1] at h;cases h
 rw[if_neg h0] at h;by_cases h1:-(n:Int)<=i
 ·rw[if_pos h1] at h;have e:(i+n).toNat=j:=B7 h;exact⟨by rw[seqIndex_neg ω h1,e],ω,h1,ω⟩
 rw[if_neg h1] at h;cases h
theorem K7 {α:Type}{xs:List α}{i:Int}{v:α}(h:atI xs i=some v):∃j,seqIndex? i xs.length=some j/\xs[j]?=some v/\j<xs.length/\-(xs.length:Int)<=i/\i<xs.length:=by
 unfold atI at h;cases e:ixN xs.length i with
 | none=>rw[e] at h;cases h
 | some j=>
  rw[e] at h;obtain⟨h1,h2,h3,h4⟩:=Kq e;exact⟨j,h1,h,h2,h3,h4⟩
theorem fZ {α:Type}{xs:List α}{j:Nat}{v:α}(h:xs[j]?=some v):atI xs (j:Int)=some v:=by
 have hj:j<xs.length:=(AF.mp h).1;have e:ixN xs.length (j:Int)=some j:=by
  unfold ixN;rw[if_pos ω,if_pos ω];simp
 unfold atI;rw[e];exact h
def K9 (b:Expr):Prop:=∀o i,subscripted b false o i=operate [o,i] (getItem o i)
def IxR (X:Cx)(r:R2):Prop:=
 ∀(value slice:Expr)(pins:List (Addr×Obj)) (s:AA) (σ:St) (H:Hp) (x y:V) (v u:Ap) (Q:VK),Inv X pins σ H s->RelV x v->RelV y u->r x y H Q ->
  subscripted slice false v u=operate [v,u] (getItem v u)->AE (AH X.prog X.w) X.A (subscriptTail value slice v u) (EP X pins σ Q) X.xe s
section
variable {X:Cx}{a b:Expr}{ta tb:TE}{pos:Pos}
theorem ab4 {r:R2}(hr:IxR X r)(ha:PE X a ta)(hb:PE X b tb)(hs:K9 b):PE X (.Subscript a b pos) (tOp r ta tb):=by
 intro pins s σ H Q I h;exact Subscript_ (abE ha hb I h fun v u s2 x y H2 I2 rx ry q=>hr a b pins s2 σ H2 x y v u Q I2 rx ry q (hs _ _))
def abV (K:AC):R2:=fun x y H Q=>∃p xs i v,x=.ref p/\y=.int i/\SqL K H p xs/\atI xs i=some v/\Q v H
def acL (K:AC):R2:=fun x y H Q=>∃p xs i v,x=.ref p/\y=.int i/\SqT K H p xs/\atI xs i=some v/\Q v H
theorem Kp:IxR X (abV X.K):=by
 intro value slice pins s σ H x y v u Q I rx ry h hs;obtain⟨p,xs,i,z,rfl,rfl,hq,he,q⟩:=h;cases rx;obtain⟨t,rfl⟩:=ry;obtain⟨its,r,pl,hz⟩:=I.list hq;obtain⟨j,h1,h2,h3,h4,h5⟩:=K7 he;obtain⟨w,ew,rw'⟩:=r.get h2;have hl:=r.length;have hn:=xW;have fin:EP X pins σ Q w s:=⟨z,H,I,rw',q⟩;by_cases h0:0<=i
 ·have hj:i.toNat=j:=by
   rw[seqIndex_of h0 h5] at h1;exact B7 h1
  exact item_listR pl.isList h0 ω (by rw[hj];simpa using ew) fin hs
 have hj:(i+(its.toArray.size:Int)).toNat=j:=by
  rw[seqIndex_neg ω h4] at h1;rw[Bz,<- hl];exact B7 h1
 exact subscriptTail_builtinR (x:=w) pl.isList.typeIs slot_list_getitem.lookup
  (wpAny_getItem_list_neg (Q:=fun r s'=>r=w/\EP X pins σ Q r s') pl.isList ω (by rw[Bz] <;> omega) ω (by rw[hj];simpa using ew) ⟨rfl,fin⟩) hs
theorem abh:IxR X (acL X.K):=by
 intro value slice pins s σ H x y v u Q I rx ry h hs;obtain⟨p,xs,i,z,rfl,rfl,hq,he,q⟩:=h;cases rx;obtain⟨t,rfl⟩:=ry;obtain⟨its,r,pl,hz⟩:=I.tuple hq;obtain⟨j,h1,h2,h3,h4,h5⟩:=K7 he;obtain⟨w,ew,rw'⟩:=r.get h2;have hl:=r.length;have hn:=xW;have fin:EP X pins σ Q w s:=⟨z,H,I,rw',q⟩;exact subscriptTail_builtinR (x:=w) pl.typeIs slot_tuple_getitem.lookup
  (getItem_tuple (j:=j) (Q:=fun r s'=>r=w/\EP X pins σ Q r s') pl ω ω (by rw[Bz,<- hl];exact h1) (by simpa using ew) ⟨rfl,fin⟩) hs
theorem Ii (its:List Ap) (n j:Nat) (u:Ap):Cf (·.setIfInBounds j u) { cls:=.type "list",data:=.seq its.toArray n }={ cls:=.type "list",data:=.seq (its.set j u).toArray n }:=by
 simp [Cf]
theorem Inv.lst {pins:List (Addr×Obj)}{σ:St}{H:Hp}{s:AA}{p:Addr}{xs:List V}(I:Inv X pins σ H s)(h:H p=some (.lst xs)) :
  ∃(its:List Ap)(n:Nat),Vals xs its/\s.heap.get? p=some { cls:=.type "list",data:=.seq its.toArray n }/\xs.length<=AM:=by
 obtain⟨z,its,n,r,e⟩:=I.hok p _ h;exact⟨its,n,r,e,z⟩
theorem Inv.aa4 {pins:List (Addr×Obj)}{σ:St}{H:Hp}{s:AA}{p:Addr}{xs ys:List V}{its its':List Ap}{n n':Nat}{f:Obj->Obj}(I:Inv X pins σ H s)(h:H p=some (.lst xs))
  (ho:s.heap.get? p=some { cls:=.type "list",data:=.seq its.toArray n }) (hf:f { cls:=.type "list",data:=.seq its.toArray n }={ cls:=.type "list",data:=.seq its'.toArray n' }) (r:Vals ys its') (hz:ys.length<=AM) (t:Nat) :
  Inv X pins σ (upd H p (.lst ys)) { s with heap:=s.heap.update p f,toks:=t }:=by
 have e:(s.heap.update p f).get? p=some { cls:=.type "list",data:=.seq its'.toArray n' }:=by
  rw[ER f ho (by rw[hf] <;> rfl),hf]
 refine I.write (x:=p) (e:=p) (by rw[h];trivial) (.inl rfl) (fun b u hb q=>(BU _ _ (B2 hb)).trans q) ⟨_,e⟩ ?_;exact⟨hz,its',n',r,e⟩
def abU:V->V->V->Hp->(Hp->Prop)->Prop:=fun o i v H Q=>∃p xs k j,o=.ref p/\i=.int k/\H p=some (.lst xs)/\ixN xs.length k=some j/\Q (upd H p (.lst (xs.set j v)))
theorem set_list:Vd X abU:=by
 intro pins s σ H o i v ov iv u Q I ro ri rv h;obtain⟨p,xs,k,j,rfl,rfl,hp,hj,q⟩:=h;cases ro;obtain⟨t,rfl⟩:=ri;obtain⟨its,n,r,ho,hz⟩:=I.lst hp;obtain⟨h1,h2,h3,h4⟩:=Kq hj;have hl:=r.length;have hn:=xW;have I':Inv X pins σ (upd H p (.lst (xs.set j v))) { s with heap:=s.heap.update p (Cf (·.setIfInBounds j u)) }:=
  I.aa4 hp ho (Ii its n j u) (r.set rv j) (by rw[List.length_set];exact hz) s.toks
 by_cases h0:0<=k
 ·have hk:k.toNat=j:=by
   rw[seqIndex_of h0 h4] at h1;exact B7 h1
  exact PySem.W.ki_setAt ho h0 ω (by rw[Bz,<- hl];exact h4) (by rw[hk];exact⟨_,I',q⟩)
 have hk:(k+(its.toArray.size:Int)).toNat=j:=by
  rw[seqIndex_neg ω h3] at h1;rw[Bz,<- hl];exact B7 h1
 exact PySem.W.ki_setBack ho ω (by rw[Bz,<- hl];exact h3) ω (by rw[hk];exact⟨_,I',q⟩)
theorem Bo (lo hi:Option Int)(n:Nat):(IR lo hi none n).1=((HT.sIx n 0 lo:Nat):Int)/\(IR lo hi none n).2.1=((HT.sIx n n hi:Nat):Int)/\(IR lo hi none n).2.2=1:=by
 refine⟨?_,?_,rfl⟩
 ·cases lo with
  | none=>simp [IR,HT.sIx]
  | some i=>
   simp only[IR,HT.sIx,getD_none,show(1:Int)>0 by decide,if_true];by_cases h:i<0
   ·simp only[h,if_true] <;> omega
   simp only[h,if_false] <;> omega
 cases hi with
 | none=>simp [IR,HT.sIx]
 | some i=>
  simp only[IR,HT.sIx,getD_none,show(1:Int)>0 by decide,if_true];by_cases h:i<0
  ·simp only[h,if_true] <;> omega
  simp only[h,if_false] <;> omega
theorem yZ (its:List Ap)(lo hi:Option Int):slicePick its.toArray lo hi none=((its.drop (HT.sIx its.length 0 lo)).take (HT.sIx its.length its.length hi-HT.sIx its.length 0 lo)).toArray:=by
 obtain⟨h1,h2,h3⟩:=Bo lo hi its.toArray.size;unfold slicePick;rw[h1,h2,h3];simp only[sliceRange_one,pick_run,Bz] <;> rfl
def acI (K:AC):V->Option Int->Option Int->Hp->VK->Prop:=fun x lo hi H Q=>∃a xs,x=.ref a/\SqL K H a xs/\∀p,H p=none->Q (.ref p) (upd H p (.lst (rH xs lo hi)))
theorem VD:SlR X (acI X.K):=by
 intro pins s σ H x v vl vu lo hi sl Q I rx hs pl pu h;obtain⟨a,xs,rfl,hx,q⟩:=h;cases rx;obtain⟨its,r,ht,hz⟩:=I.list hx;have hlen:=r.length;refine⟨"list",_,slot_list_getitem.lookup,ht.isList.typeIs,?_⟩;refine wpAny_getItem_list_slice ht.isList hs pl pu .none (by simp) ?_ (by rw[Bz] <;> omega)
 rw[yZ,<- hlen];refine⟨.ref s.heap.objs.size,_,I.laid (t':=s.toks) (o:=.lst (rH xs lo hi)) (fun b ob q=>AD _ q) (AY _) ?_,rfl,q _ (I.hok.fresh (AY _))⟩;exact⟨BN (vC xs lo hi) hz,_,0,(r.drop (HT.sIx xs.length 0 lo)).take (HT.sIx xs.length xs.length hi-HT.sIx xs.length 0 lo),A8 _ rfl⟩
def iI:V->Bool
 | .non=>true
 | .bl _=>true
 | .int _=>true
 | .str _=>true
 | _=>false
def eqV:V->V->Bool
 | .non,.non=>true
 | .bl a,.bl b=>a == b
 | .bl a,.int b=>(if a then 1 else 0) == b
 | .int a,.bl b=>a == (if b then 1 else 0)
 | .int a,.int b=>a == b
 | .str a,.str b=>a == b
 | _,_=>false
theorem Ub {A:A3}{s:AA}{y x:V}{u v:Ap}(ry:RelV y u)(rx:RelV x v)(fy:iI y=true)(fx:iI x=true):C2 A s u v (eqV y x):=by
 cases y with
 | non=>
  cases ry;cases x with
  | non=>cases rx;exact C2.same _
  | bl b=>cases rx;exact C2.none_bool b
  | int b=>obtain⟨t,rfl⟩:=rx;exact C2.none_int b t
  | str b=>obtain⟨t,rfl⟩:=rx;exact C2.none_str b t
  | _=>exact absurd (show false=true from fx) A5
 | bl a=>
  cases ry;cases x with
  | non=>cases rx;exact C2.bool_none a
  | bl b=>cases rx;exact C2.bool_bool a b
  | int b=>obtain⟨t,rfl⟩:=rx;exact C2.bool_int a b t
  | str b=>obtain⟨t,rfl⟩:=rx;exact C2.bool_str a b t
  | _=>exact absurd (show false=true from fx) A5
 | int a=>
  obtain⟨t',rfl⟩:=ry;cases x with
  | non=>cases rx;exact C2.int_none a t'
  | bl b=>cases rx;exact C2.int_bool a t' b
  | int b=>obtain⟨t,rfl⟩:=rx;exact C2.int_int a t' b t
  | str b=>obtain⟨t,rfl⟩:=rx;exact C2.int_str a t' b t
  | _=>exact absurd (show false=true from fx) A5
 | str a=>
  obtain⟨t',rfl⟩:=ry;cases x with
  | non=>cases rx;exact C2.str_none a t'
  | bl b=>cases rx;exact C2.str_bool a t' b
  | int b=>obtain⟨t,rfl⟩:=rx;exact C2.str_int a t' b t
  | str b=>obtain⟨t,rfl⟩:=rx;exact C2.str_str a t' b t
  | _=>exact absurd (show false=true from fx) A5
 | _=>exact absurd (show false=true from fy) A5
def eqU (x:V)(u:Ap):Bool:=match u with
 | .none=>eqV .non x
 | .bool b=>eqV (.bl b) x
 | .int i _=>eqV (.int i) x
 | .str z _=>eqV (.str z) x
 | _=>false
theorem Ua {x y:V}{u:Ap}(r:RelV y u)(f:iI y=true):eqU x u=eqV y x:=by
 cases y with
 | non=>cases r;rfl
 | bl b=>cases r;rfl
 | int i=>obtain⟨t,rfl⟩:=r;rfl
 | str z=>obtain⟨t,rfl⟩:=r;rfl
 | _=>exact absurd (show false=true from f) A5
theorem Di {x:V}:∀{xs:List V}{us:List Ap},Vals xs us->xs.all iI=true->us.any (eqU x)=xs.any fun y=>eqV y x
 | _,_,.nil,_=>rfl
 | y::xs,u::us,.cons r t,f=>by
  rw[all_cons,C1] at f;rw[any_cons,any_cons,Ua r f.1,Di t f.2]
theorem xR {A:A3}{s:AA}{x:V}{v:Ap}(rx:RelV x v)(fx:iI x=true):∀{xs:List V}{us:List Ap},Vals xs us->xs.all iI=true->∀u∈us,C2 A s u v (eqU x u)
 | _,_,.nil,_=>fun u hu=>by cases hu
 | y::xs,u::us,.cons r t,f=>fun u' hu=>by
  rw[all_cons,C1] at f;rcases BB.mp hu with rfl|hu
  ·rw[Ua r f.1];exact Ub r rx f.1 fx
  exact xR rx fx t f.2 u' hu
def inV (x:V)(xs:List V):Bool:=xs.any fun y=>eqV y x
def rIn (K:AC)(neg:Bool):R2:=fun x y H Q=>∃p xs,y=.ref p/\(SqL K H p xs\/SqT K H p xs)/\iI x=true/\xs.all iI=true/\Q (.bl (if neg then !inV x xs else inV x xs)) H
theorem BX:OpR X (CO .NotIn) (rIn X.K true):=by
 intro pins s σ H x y v u Q I rx ry h;obtain⟨p,xs,rfl,hq,fx,fs,q⟩:=h;cases ry;rcases hq with hq|hq
 ·obtain⟨its,r,pl,hz⟩:=I.list hq;refine SeqAt.notIn_listAt (eqU x) pl.isList (fun w hw=>xR rx fx r fs w (by simpa using hw)) ⟨.bl _,H,I,rfl,?_⟩;rw[show its.toArray.any (eqU x)=its.any (eqU x) by simp,Di r fs];exact q
 obtain⟨its,r,pl,hz⟩:=I.tuple hq;refine SeqAt.notIn_tupleAt (eqU x) pl (fun w hw=>xR rx fx r fs w (by simpa using hw)) ⟨.bl _,H,I,rfl,?_⟩;rw[show its.toArray.any (eqU x)=its.any (eqU x) by simp,Di r fs];exact q
theorem jx:dw X (.builtin "len") (fun xs H Q=>∃p ys,xs=[.ref p]/\(SqL X.K H p ys\/SqT X.K H p ys)/\Q (.int ys.length) H):=by
 intro pins s σ H xs us Q I r h;obtain⟨p,ys,rfl,hq,q⟩:=h;obtain⟨u,rfl,rx⟩:=vals1 r;cases rx;have hn:=xW;rcases hq with hq|hq
 ·obtain⟨its,r',pl,hz⟩:=I.list hq;have hlen:=r'.length;exact Calls.call_len_list pl.isList (by simp only[Bz] <;> omega) ⟨.int ys.length,H,I.tok _,⟨s.toks+1,by rw[Bz,hlen]⟩,q⟩
 obtain⟨its,r',pl,hz⟩:=I.tuple hq;have hlen:=r'.length;exact len_tuple pl (by simp only[Bz] <;> omega) ⟨.int ys.length,H,I.tok _,⟨s.toks+1,by rw[Bz,hlen]⟩,q⟩
def tyV (K:AC)(T:String)(x:V)(H:Hp):Prop:=match x with
 | .str _=>T = "str"
 | .int _=>T = "int"
 | .ref p=>(T = "list" /\ ∃xs,SqL K H p xs)\/(T = "tuple" /\ ∃o,K.lookup p=some o/\o.cls=.type "tuple" /\ o.dict=none) \/
   (T = "dict" /\ ((∃kvs,H p=some (.dK kvs))\/∃kvs,H p=some (.dT kvs)))\/(T = "set" /\ ∃S n,H p=some (.set S n))
 | _=>False
theorem GC {pins:List (Addr×Obj)}{σ:St}{H:Hp}{s:AA}{T:String}{x:V}{v:Ap}(I:Inv X pins σ H s)(r:RelV x v)(ty:tyV X.K T x H) :
  s.TypeIs v T/\∀a,v=.ref a->∃ob,s.heap.get? a=some ob/\ob.dict=none:=by
 cases x with
 | str z=>
  obtain⟨t,rfl⟩:=r;cases (show T = "str" from ty);exact⟨typeIs_str s z t,fun _ e=>nomatch e⟩
 | int i=>
  obtain⟨t,rfl⟩:=r;cases (show T = "int" from ty);exact⟨Kx s i t,fun _ e=>nomatch e⟩
 | ref p=>
  cases r;rcases ty with⟨rfl,xs,hq⟩|⟨rfl,o,hk,hc,hd⟩|⟨rfl,hk⟩|⟨rfl,S,n,hk⟩
  ·obtain⟨its,_,pl,_⟩:=I.list hq;refine⟨pl.isList.typeIs,fun a e=>?_⟩;cases e;obtain⟨o,n,e,c,hd,_⟩:=pl;exact⟨o,e,hd⟩
  ·refine⟨⟨o,I.kIn p o hk,hc⟩,fun a e=>?_⟩;cases e;exact⟨o,I.kIn _ o hk,hd⟩
  ·have z:∃o,s.heap.get? p=some o/\o.ExactDict:=by
    rcases hk with⟨kvs,hk⟩|⟨kvs,hk⟩
    ·obtain⟨_,_,_,_,o,_,_,e,ex,_⟩:=I.hok p _ hk;exact⟨o,e,ex⟩
    obtain⟨_,_,_,_,o,_,_,e,ex,_⟩:=I.hok p _ hk;exact⟨o,e,ex⟩
   obtain⟨o,e,ex⟩:=z;refine⟨⟨o,e,ex.1⟩,fun a e2=>?_⟩;cases e2;exact⟨o,e,ex.2.1⟩
  obtain⟨o,_,_,_,e,ex,_⟩:=I.hok p _ hk;refine⟨⟨o,e,ex.1⟩,fun a e2=>?_⟩;cases e2;exact⟨o,e,ex.2.1⟩
 | _=>exact EH ty
variable {o e:Expr}{es:List Expr}{to:TE}{t:TA}{name:Str}{apos cpos:Pos}{T id:String}{r:V->List V->Hp->VK->Prop}
end
def MtM (X:Cx)(id:String)(r:V->List V->Hp->VK->Prop):Prop:=
 ∀(pins:List (Addr×Obj)) (s:AA) (σ:St) (H:Hp) (x:V) (xs:List V) (v:Ap) (us:List Ap) (Q:VK),Inv X pins σ H s->RelV x v->Vals xs us->r x xs H Q ->
  AE (AH X.prog X.w) X.A (call (.builtin id) (v::us)) (EP X pins σ Q) X.xe s
theorem Vals.one:∀{x:V}{us:List Ap},Vals [x] us->∃u,us=[u]/\RelV x u:=fun h=>by
 cases h with
 | cons r h=>
  cases h;exact⟨_,rfl,r⟩
theorem Vals.two:∀{x y:V}{us:List Ap},Vals [x,y] us->∃u v,us=[u,v]/\RelV x u/\RelV y v:=fun h=>by
 cases h with
 | cons r h=>
  cases h with
  | cons q h=>
   cases h;exact⟨_,_,rfl,r,q⟩
theorem Vals.rep {xs:List V}{us:List Ap}(h:Vals xs us):∀k:Nat,Vals (BD k xs).flatten (BD k us).flatten
 | 0=>.nil
 | k+1=>by
  rw[HL,HL,JJ,JJ];exact Vals.append h (Vals.rep h k)
theorem foldl_rep (its:List Ap):∀(k:Nat)(acc:List Ap),
  List.foldl (fun x1 x2=>x1++x2) acc.toArray (BD k its.toArray)=(acc++(BD k its).flatten).toArray
 | 0,acc=>by simp
 | k+1,acc=>by
  have e:acc.toArray++its.toArray=(acc++its).toArray:=by simp
  have e2:(acc++its)++(BD k its).flatten=acc++(BD (k+1) its).flatten:=by
   rw[HL,JJ,FK]
  rw[<- e2,<- foldl_rep its k (acc++its),<- e,HL,List.foldl_cons]
section
variable {X:Cx}{pins:List (Addr×Obj)}{σ:St}{H:Hp}{s:AA}{l b:Addr}{xs ys zs:List V}
theorem Inv.aco {its its':List Ap}{n:Nat}{f:Array Ap->Array Ap}{t':Nat}(I:Inv X pins σ H s)(hH:H l=some (.lst xs))
  (e:s.heap.get? l=some { cls:=.type "list",data:=.seq its.toArray n }) (hf:f its.toArray=its'.toArray) (hv:Vals ys its') (hz:ys.length<=AM) :
  Inv X pins σ (upd H l (.lst ys)) { s with heap:=s.heap.update l (Cf f),toks:=t' }:=by
 have q:=LI e f;rw[hf] at q;refine I.write (x:=l) (e:=l) (by rw[hH];exact trivial) (.inl rfl) (fun b' u hb hu=>(BU s.heap (Cf f) (B2 hb)).trans hu) ⟨_,q⟩ ?_;exact⟨hz,its',_,hv,q⟩
theorem Inv.acp {its:List Ap}{t':Nat}(I:Inv X pins σ H s)(hv:Vals ys its)(hz:ys.length<=AM) :
  Inv X pins σ (upd H s.heap.objs.size (.lst ys)) { s with heap:=s.heap.push { cls:=.type "list",data:=.seq its.toArray },toks:=t' }:=
 I.laid (fun _ _ q=>AD _ q) (AY _) ⟨hz,its,0,hv,A8 _ rfl⟩
theorem Inv.fresh (I:Inv X pins σ H s):H s.heap.objs.size=none:=I.hok.fresh (AY _)
theorem Inv.Nb (I:Inv X pins σ H s) (hH:H l=some (.lst xs)):xs.length<=AM/\∃(its:List Ap)(n:Nat),Vals xs its/\xs.length=its.length/\s.heap.get? l=some { cls:=.type "list",data:=.seq its.toArray n }:=by
 obtain⟨z,its,n,r,e⟩:=I.hok l _ hH;exact⟨z,its,n,r,r.length,e⟩
theorem Ep {n:Nat}(h:n<=AM):AX.List.listTooLong n=false:=by
 unfold AX.List.listTooLong;exact decide_eq_false ω
end
section
variable {X:Cx}
def V8:V->List V->Hp->VK->Prop:=fun x vs H Q=>∃l xs y,x=.ref l/\vs=[y]/\H l=some (.lst xs)/\xs.length<AM/\Q .non (upd H l (.lst (xs++[y])))
theorem M8:MtM X "list.append" V8:=by
 intro pins s σ H x vs v us Q I rx rv h;obtain⟨l,xs,y,rfl,rfl,hH,hz,q⟩:=h;cases rx;obtain⟨u,rfl,ru⟩:=rv.one;obtain⟨z,its,n,r,hl,e⟩:=I.Nb hH;refine Iy KA ⟨_,e,rfl⟩ Jn (IU _ _) (K2 l its.toArray n u (by rw[Bz];omega)) ⟨e,?_⟩;refine⟨.non,_,I.aco (its':=its++[u]) hH e (by simp) (r.append (.cons ru .nil)) ?_,rfl,q⟩;rw[AO,A9];omega
def V3:V->List V->Hp->VK->Prop:=fun x vs H Q=>∃l b xs zs,x=.ref l/\vs=[.ref b]/\H l=some (.lst xs)/\H b=some (.lst zs)/\xs.length+zs.length<=AM/\Q .non (upd H l (.lst (xs++zs)))
theorem M7:MtM X "list.extend" V3:=by
 intro pins s σ H x vs v us Q I rx rv h;obtain⟨l,b,xs,zs,rfl,rfl,hH,hB,hz,q⟩:=h;cases rx;obtain⟨u,rfl,ru⟩:=rv.one;cases ru;obtain⟨z,its,n,r,hl,e⟩:=I.Nb hH;obtain⟨z2,its2,n2,r2,hl2,e2⟩:=I.Nb hB;have hsz:its.toArray.size+its2.toArray.size<=AM:=by rw[Bz,Bz];omega
 have hlong:¬(!its.toArray.isEmpty&&AX.List.listTooLong (its.toArray.size+its2.toArray.size))=true:=by
  rw[Ep hsz,HM];exact A5
 refine Iy F.slot_list_extend ⟨_,e,rfl⟩ F.entry_list_extend (F.args_list_extend_2 _ _)
  (AutoSeq1.list_extend_list_list_0 l its.toArray n b its2.toArray n2 hlong (by rw[Bz];omega) ω) ⟨e,e2,?_⟩
 refine⟨.non,_,I.aco (its':=its++its2) hH e (by simp) (r.append r2) ?_,rfl,q⟩;rw[AO];omega
def acN:R2:=fun x y H Q=>∃l b xs zs,x=.ref l/\y=.ref b/\H l=some (.lst xs)/\H b=some (.lst zs)/\xs.length+zs.length<=AM/\∀p,H p=none->Q (.ref p) (upd H p (.lst (xs++zs)))
theorem aaJ:OpR X (Fk .Add) acN:=by
 intro pins s σ H x y v u Q I rx ry h;obtain⟨l,b,xs,zs,rfl,rfl,hH,hB,hz,q⟩:=h;cases rx;cases ry;obtain⟨z,its,n,r,hl,e⟩:=I.Nb hH;obtain⟨z2,its2,n2,r2,hl2,e2⟩:=I.Nb hB;refine PySem.P.add_list e e2 ?_ (by rw[Bz,Bz];omega);have ea:its.toArray++its2.toArray=(its++its2).toArray:=by simp
 rw[ea];exact⟨.ref _,_,I.acp (t':=s.toks) (r.append r2) (by rw[AO];omega),rfl,q _ I.fresh⟩
def acJ:R2:=fun x y H Q=>∃l k xs,x=.ref l/\y=.int k/\H l=some (.lst xs)/\-(2^63)<=k/\k<2^63/\xs.length*k.toNat<=AM /\
 ∀p,H p=none->Q (.ref p) (upd H p (.lst (BD k.toNat xs).flatten))
theorem len_rep {α:Type}(xs:List α)(k:Nat):(BD k xs).flatten.length=k*xs.length:=by
 induction k with
 | zero=>simp
 | succ k ih=>rw[HL,JJ,AO,ih,succ_mul,Nat.add_comm]
theorem aaH:OpR X (Fk .Mult) acJ:=by
 intro pins s σ H x y v u Q I rx ry h;obtain⟨l,k,xs,rfl,rfl,hH,h1,h2,hz,q⟩:=h;cases rx;obtain⟨t,rfl⟩:=ry;obtain⟨z,its,n,r,hl,e⟩:=I.Nb hH;have hlen:its.toArray.size*k.toNat<=AM:=by rw[Bz,<- hl];exact hz
 have hcap:¬its.toArray.size*k.toNat>(2^63-1)/8:=by
  have:(AM:Nat)<=(2^63-1)/8:=by decide
  omega
 have hfit:¬(!Builtin.List.listFitsIndex k)=true:=by
  rw[fitsIndex_both h1 h2];exact A5
 have hlong:¬AX.List.listTooLong (its.toArray.size*k.toNat)=true:=by
  rw[Ep hlen];exact A5
 have hnew:List.foldl (fun x1 x2=>x1++x2) #[] (BD (if its.toArray.isEmpty=true then 0 else k.toNat) its.toArray)=(BD k.toNat its).flatten.toArray:=by
  have f0:∀m:Nat,List.foldl (fun x1 x2=>x1++x2) #[] (BD m its.toArray)=(BD m its).flatten.toArray:=fun m=>by
   have:=foldl_rep its m [];rw[nil_append] at this;exact this
  rw[f0];cases its with
  | nil=>simp
  | cons a r'=>rw[if_neg (by simp)]
 refine wpAny_binaryOp_repeat_ref (T := "list") (U := "int") δ ⟨_,e,rfl⟩ (fun s'=>Kx s' k t) noFill_list_mul F.fills_int_mul F.slot_int_rmul repeat_list F.slot_int_index.lookup
  (Iy F.slot_int_rmul (Kx s k t) F.entry_int_rmul (F.args_int_rmul_2 _ _) (int___rmul___int_list k t l its.toArray n)
   ⟨e,rfl,⟨_,e,rfl⟩,Iy F.slot_list_mul ⟨_,e,rfl⟩ F.entry_list_mul (F.args_list_mul_2 _ _) (AutoListH.list___mul___list_int_3 l its.toArray n k t hfit hcap hlong) ⟨e,?_⟩⟩)
 rw[hnew];exact⟨.ref _,_,I.acp (t':=s.toks) (r.rep k.toNat) (by rw[len_rep,mul_comm];exact hz),rfl,q _ I.fresh⟩
end
end L2
namespace Att
open PySem PySem.W PySem.Calls PyProof.Rows
theorem vM {P:Params}{h:Heap}:∀(ns:List Int)(vs:List Ap),WellAll P h vs (ns.map WData.int)->D5 vs ns:=by
 intro ns
 induction ns with
 | nil=>
  intro vs w;rw[map_nil] at w;cases w;exact .nil
 | cons n ns ih=>
  intro vs w;rw[F9] at w;cases w with
  | cons a b=>
   cases a;exact .cons _ _ (ih _ b)
theorem Lw {l:OpenLaw}{n:Nat}(hn:l.most=some n){P:Params}{h:Heap}{args:List WData}{vals:List Ap}
  (hpre:l.row.toRowW.claim.pre args=true) (hwl:WellAll P h vals args) :
  ∃a vs ns,vals=[Ap.ref a]/\args=[WData.list (ns.map WData.int)]/\h.get? a=some { cls:=.type "list",data:=.seq vs.toArray }/\D5 vs ns/\ns.length<=n:=by
 have hsh:WShape.hasAll [] args [.list .int]=true:=(pre_splitW hpre).1;have hc:l.pre.holds [] { args:=args }=true:=(pre_splitW hpre).2;obtain⟨d,r,rfl,h1,h2⟩:=hasAllW_cons hsh;obtain rfl:=hasAllW_nil h2;obtain⟨xs,rfl,h3⟩:=hasW_list h1;obtain⟨ns,rfl⟩:=items_int h3;have hlen:ns.length<=n:=by
  unfold OpenLaw.pre at hc;have h4:(WTm.not (.lt (.lit (.int (n:Int))) (.len (.arg 0)))).holds [] { args:=[.list (ns.map .int)] }=true:=by
   have h4:=(holds_andW hc).1;rw[hn] at h4;exact h4
  have h5:=condW_of h4 (w_not (w_lt w_lit (w_len_list (w_arg rfl))));rw[AV] at h5;refine Nat.le_of_not_lt fun q=>?_;have q':(n:Int)<((ns.length:Nat):Int):=ω
  first
   | (rw[decide_eq_true q'] at h5;exact absurd h5 δ)
   | (simp at h5;omega)
 cases hwl with
 | cons w1 w2=>
  cases w2;cases w1 with
  | list ho hall=>exact⟨_,_,ns,rfl,rfl,ho,vM ns _ hall,hlen⟩
theorem Mr (l:OpenLaw)(args:List WData):l.row.toRowW.claim.post args (.bool true) args=true:=
 postW_of (r:=l.row.toRowW) (X:=(true == true))
  (show WShape.has [] (.bool true) .bool=true by first|rfl|decide|simp [WShape.has,WShape.arms,WShape.armsAll])
  (show(WTm.eq .res (.lit (.bool true))).value [] { args:=args,res:=some (.bool true),after:=args }=some (.bool (true == true)) from w_eq_bool (w_res rfl) w_lit) rfl
theorem Gq {l:OpenLaw}{n:Nat}{q:AW}{loose:List Str}{XP:(Str->Option Ap)->Heap->Prop}{YP:BC->Heap->Prop}{d:DefRec}
  (hn:l.most=some n) (hdf:d.params.defaults=[])
  (call:∀(w:BC)(s₀ s₁:AA)(mg mb:Str->Option Ap)(fa:Addr)(o:Obj)(pm cd doc:Ap)(a:Addr)(vs:List Ap)(ns:List Int),
   Ground q loose [] XP w s₀ mg mb s₁.heap->YP w s₁.heap ->
   s₁.heap.get? fa=some o->o.data=.func (docDef d.name d.params d.body d.scope pm cd doc)->s₁.heap.CodeRec cd d.name->mg d.name=some (.ref fa) ->
   s₁.heap.get? a=some { cls:=.type "list",data:=.seq vs.toArray }->D5 vs ns->ns.length<=n->s₁.gens=#[] ->
   FG (AH l.prog w) callerA (.call (.ref fa) ⟨[.ref a],[]⟩) (fun r s'=>r=.ok (.ret (.bool true))/\OldK s₁.heap s'.heap/\s'.os=s₁.os/\JA s'.gens) s₁) :
  WalkO q loose XP YP l.row.toRowW d [] (fun f vs=>PySem.call f vs):=by
 intro w s₀ s₁ mg mb G Y fa o pm cd doc dV kV ho hd hcd hD hmg hg args vals as hpre hlay hrd hwl hlo;obtain rfl:dV=.none:=Dflts.none hD hdf;obtain rfl:kV=.none:=Dflts.noKw hD;obtain⟨a,vs,ns,rfl,rfl,hobj,hints,hlen⟩:=Lw hn hpre hwl;refine enter_call (HK (call w s₀ s₁ mg mb fa o pm cd doc a vs ns G Y ho (fd_plain hd) hcd hmg hobj hints hlen hg) fun r s' hq=>?_);obtain⟨rfl,h2,h3,h4⟩:=hq;exact⟨.inl ⟨.bool true,.bool true,[],rfl,fun _=>rfl,.bool true,Mr l _,fun _=>⟨M1.nil,fun _ hm=>(nomatch hm)⟩⟩,h2,h3,h4⟩
end Att
namespace L2
open PySem PySem.Spec PyProof.Rows
theorem zP:∀{vs:List Ap}{ns:List Int},D5 vs ns->Vals (ns.map V.int) vs
 | _,_,.nil=>.nil
 | _,_,.cons n t h=>.cons ⟨t,rfl⟩ (zP h)
def Only (H:Hp):Prop:=∀b,H b=none\/∃o xs,H b=some (.frz o (.lst xs))
theorem SM {P:AW}{w:BC}{K:AC}{mg mb:Str->Option Ap}{CX:CXT}{k:Nat}{fa a:Addr}{fd:Dx}{x:Str}{sp:Sp}{s₁:AA}{vs:List Ap}{ns:List Int}
  (KX:K.In s₁.heap) (hns:s₁.heap.Ns Bi mg) (hb:s₁.heap.Ns builtinsNs mb) (hbb:∀x:Str,x ≠ "__name__" -> mb x=D0 x) (hlim:s₁.heap.NoLimit) (hg:s₁.gens=#[])
  (ha:s₁.heap.get? a=some { cls:=.type "list",data:=.seq vs.toArray }) (hi:D5 vs ns) (hl:ns.length<=AM) (hr:fK k callerA)
  (F:∀base:Heap,K.In base->base.Ns Bi mg->cU P w K mg base CX k fa fd [x] sp) (hbind:∀(s:AA)(u:Ap),BindsTo s fd ⟨[u],[]⟩ [(x,u)])
  (hsp:∀H:Hp,Only H->SqL K H a (ns.map V.int)->sp [.ref a] H (fun v _=>v=.bl true) fun _ _ _=>False)
  (hCX:∀H e s',CX [] H s₁ (fun _ _ _=>False) e s'->False) :
  FG (AH P w) callerA (.call (.ref fa) ⟨[.ref a],[]⟩) (fun r s'=>r=.ok (.ret (.bool true))/\OldK s₁.heap s'.heap/\s'.os=s₁.os/\JA s'.gens) s₁:=by
 have rv:=zP hi;have lenV:=hi.length
 -- from an abstract heap in which nothing but the script may be tracked
 have core:∀H:Hp,Only H->SqL K H a (ns.map V.int)->HOk P w H s₁.heap->(∀b,H b≠none->b=a)->(H a≠none->K.lookup a=none) ->
   FG (AH P w) callerA (.call (.ref fa) ⟨[.ref a],[]⟩) (fun r s'=>r=.ok (.ret (.bool true))/\OldK s₁.heap s'.heap/\s'.os=s₁.os/\JA s'.gens) s₁:=by
  intro H hO hS hok hA hK;have base_of:∀{b:Addr}{o:Obj},s₁.heap.get? b=some o->H b=none->(Cz s₁.heap H).get? b=some o:=fun e n=>Tj e n;have noA:∀{b:Addr}{o:Obj}{es:Array DictEntry}{ep:Nat},s₁.heap.get? b=some o->o.data=.dict es ep->H b=none:=fun {b o es ep} e d=>by
   cases q:H b with
   | none=>rfl
   | some u=>
    have e':b=a:=hA b (by rw[q];simp);subst e';rw[ha] at e;cases e;have d':FS vs.toArray _=Data.dict es ep:=d;cases d'
  have nsK:∀{b:Addr}{m:Str->Option Ap},s₁.heap.Ns b m->(Cz s₁.heap H).Ns b m:=fun {b m} ⟨o,es,ep,e,d,r⟩=>⟨o,es,ep,base_of e (noA e d),d,r⟩;have hKb:K.In (Cz s₁.heap H):=fun b o e=>base_of (KX b o e) (by
   cases q:H b with
   | none=>rfl
   | some u=>
    have e':b=a:=hA b (by rw[q];simp);subst e';rw[hK (by rw[q];simp)] at e;cases e)
  have hM:Mod K mg (Cz s₁.heap H):=⟨hKb,nsK hns,⟨mb,nsK hb,hbb⟩,let ⟨mc,h1,h2⟩:=hlim;⟨mc,nsK h1,h2⟩⟩;have e0:Jz P w K mg (Cz s₁.heap H) callerA [] s₁ H:=⟨rfl,hM,fun b o e=>Xh e,le_of_eq (Nk _ _),trivial,fun b hb=>absurd (show b∈([]:List Addr) from hb) (by simp),hok,.of_eq hg⟩;refine HK ((F _ hKb (nsK hns)).run callerA [] s₁ H ⟨[.ref a],[]⟩ [.ref a] [.ref a] _ _ hr e0 (hbind s₁ (.ref a)) (.cons rfl .nil) (hsp H hO hS)) fun r s' h=>?_;cases r with
  | error e=>exact(hCX H e s' h).elim
  | ok fl=>
   cases fl with
   | next=>exact EH h
   | brk=>exact EH h
   | cont=>exact EH h
   | ret u=>
    obtain⟨v,H',os,bare,un,hok',r',q⟩:=h;have q':v=.bl true:=q;subst q';obtain rfl:u=Ap.bool true:=r';refine⟨rfl,OldK.of_keep fun b o e=>?_,os,bare⟩;cases q:H b with
    | none=>exact un.keep b o e q (by intro z;exact absurd (show b∈([]:List Addr) from z) (by simp)) (by simp)
    | some u=>
     rcases hO b with z|⟨ob,xs,z⟩
     ·rw[q] at z;cases z
     have z2:=un.frzs b ob _ z;obtain⟨e1,_⟩:=hok b _ z;obtain⟨e2,_⟩:=hok' b _ z2;rw[e] at e1;cases e1;exact e2
 cases hk:K.lookup a with
 | some o=>
  -- the script is one of the module's own objects
  have e:=KX a o hk;rw[ha] at e;cases e;refine core (fun _=>none) (fun _=>.inl rfl) (.inr ⟨_,vs.toArray,_,hk,rfl,rfl,rfl,by rw[Bz,lenV];exact hl,by simpa using rv⟩) (fun b u z=>by have z':(none:Option HO)=some u:=z;cases z') (fun b z=>absurd rfl z) fun z=>absurd rfl z
 | none=>
  refine core (fun b=>if b=a then some (.frz { cls:=.type "list",data:=.seq vs.toArray } (.lst (ns.map V.int))) else none) (fun b=>?_) (.inl (.inr ⟨{ cls:=.type "list",data:=.seq vs.toArray },if_pos rfl⟩)) (fun b u z=>?_) (fun b z=>?_) fun _=>hk
  ·by_cases hb:b=a
   ·exact .inr ⟨_,_,if_pos hb⟩
   exact .inl (if_neg hb)
  ·by_cases hb:b=a
   ·have z':=(if_pos hb).symm.trans z;cases z';subst hb;exact⟨ha,by rw[AV];exact hl,vs,_,rv,ha⟩
   have z':=(if_neg hb).symm.trans z;cases z'
  by_cases hb:b=a
  ·exact hb
  exact absurd (if_neg hb) z
theorem Vj {l:PySem.W.OpenLaw}{n k:Nat}{q:AW}{loose:List Str}{XP:(Str->Option Ap)->Heap->Prop}{YP:BC->Heap->Prop}{d:DefRec}{K:Params->AC}{CX:BC->CXT}{sp:BC->Sp}{x:Str}
  (hn:l.most=some n) (hn2:n<=AM) (hdf:d.params.defaults=[]) (hr:fK k callerA)
  (hY:∀(w:BC)(h:Heap),YP w h->(K w.params).In h)
  (F:∀(w:BC)(mg:Str->Option Ap)(fa:Addr)(h:Heap),(K w.params).In h->h.Ns Bi mg->mg d.name=some (.ref fa) ->
   ∃fd:Dx,(∀(s:AA)(u:Ap),BindsTo s fd ⟨[u],[]⟩ [(x,u)]) /\
    ∀base:Heap,(K w.params).In base->base.Ns Bi mg->cU l.prog w (K w.params) mg base (CX w) k fa fd [x] (sp w))
  (hsp:∀(w:BC)(H:Hp)(a:Addr)(ns:List Int),ns.length<=n->Only H->SqL (K w.params) H a (ns.map V.int)->sp w [.ref a] H (fun v _=>v=.bl true) fun _ _ _=>False)
  (hCX:∀(w:BC)(H:Hp)(s:AA)(e:Ap)(s':AA),CX w [] H s (fun _ _ _=>False) e s'->False) :
  PySem.W.WalkO q loose XP YP l.row.toRowW d [] (fun f vs=>PySem.call f vs):=by
 refine Att.Gq hn hdf fun w s₀ s₁ mg mb fa o pm cd doc a vs ns G Y ho hd hcd hmg hobj hints hlen hg=>?_;have KX:=hY w _ Y;obtain⟨fd,hb,hF⟩:=F w mg fa _ KX G.T.g hmg;exact SM KX G.T.g G.T.b G.T.builtins G.T.nolimit hg hobj hints (BN hlen hn2) hr hF hb (fun H hO hS=>hsp w H a ns hlen hO hS) fun H e s'=>hCX w H s₁ e s'
def inClass (s:Stmt)(j:Nat):Stmt:=match s with
 | .ClassDef _ _ _ body _ _ _ _ _ _ _=>body.getD j (.Pass ⟨0,0,0,0⟩)
 | _=>.Pass ⟨0,0,0,0⟩
def fY (s:Stmt):Arguments:=match s with
 | .FunctionDef _ a _ _ _ _ _ _ _ _=>a
 | _=>{ posonlyargs:=[],args:=[],vararg:=none,kwonlyargs:=[],kw_defaults:=[],kwarg:=none,defaults:=[] }
def eG (s:Stmt):List Stmt:=match s with
 | .FunctionDef _ _ b _ _ _ _ _ _ _=>b
 | _=>[]
def aj (s:Stmt):FA:=match s with
 | .FunctionDef _ _ _ _ _ _ sc _ _ _=>sc
 | _=>{ kind:=.function,names:=[],isGenerator:=false,isCoroutine:=false }
abbrev CX0:CXT:=fun _ _ _ _ _ _=>False
abbrev E0:XK:=fun _ _ _=>False
theorem acd {X:Cx}:rN CX0 X E0:=fun _ _ _ _ _ _ _ h=>h.elim
structure Fun (K:AC)(x qual:Str)(st:Stmt)(f:Addr)(fd:Dx):Prop where
 ex:∃(oc:Ap)(od:Option Addr)(kV doc pm:Ap)(an:Option Addr)(cdv ct:Ap)(osl:Array (Option Ap)),
  fd=fnOf x qual (fY st) (eG st) (aj st) .none kV doc pm an cdv ct/\K.lookup f=some ⟨oc,od,.func fd,osl⟩/\codeIn K cdv qual=true
 kp:keepIn K (.ref f)=true
section
variable {P:AW}{w:BC}{K:AC}{mg:Str->Option Ap}{base:Heap}
theorem Fun.ok {x qual:Str}{st:Stmt}{f:Addr}{fd:Dx}{N ps:List Str}{k:Nat}{sp:Sp}(F:Fun K x qual st f fd)(S:bA N ps (aj st))(len:∀vs H Q E,sp vs H Q E->vs.length=ps.length)
  (hbody:∀(cdv:Ap)(A:A3)(outer:List Env)(s:AA)(H:Hp)(vs:List V)(Q:VK)(E:XK),fK k (A.deeper (F7 qual (aj st) s.heap.objs.size f cdv))->sp vs H Q E ->
   ∃t,PSs (zH CX0 P w K mg base N qual (aj st) f cdv A outer s H E).nox (eG st) t/\t { nx:=fun _ H'=>Q .non H',rt:=Q } (start N vs) H):cU P w K mg base CX0 (k+1) f fd ps sp:=by
 obtain⟨oc,od,kV,doc,pm,an,cdv,ct,osl,rfl,lk,hcd⟩:=F.ex;refine Zt lk hcd S len fun A outer s H vs Q E hr hsp=>?_;obtain⟨t,h,q⟩:=hbody cdv A outer s H vs Q E hr hsp;exact⟨t,h.nox,q⟩
theorem Fun.binds {x qual:Str}{st:Stmt}{f:Addr}{fd:Dx}{ps:List Str}(F:Fun K x qual st f fd)
  (h:∀(kV doc pm:Ap)(an:Option Addr)(cdv ct:Ap)(us:List Ap),us.length=ps.length->bindArgs (fnOf x qual (fY st) (eG st) (aj st) .none kV doc pm an cdv ct) ⟨us,[]⟩=pure (ps.zip us)):Binds K fd ps []:=by
 obtain⟨oc,od,kV,doc,pm,an,cdv,ct,osl,rfl,lk,hcd⟩:=F.ex;exact .all (h kV doc pm an cdv ct)
theorem Ji {x qual:Str}{st:Stmt}{f:Addr}{oc:Ap}{od an:Option Addr}{osl:Array (Option Ap)}{kV doc pm cdv ct:Ap}(l:K.lookup f=some ⟨oc,od,.func (fnOf x qual (fY st) (eG st) (aj st) .none kV doc pm an cdv ct),osl⟩)
  (c:codeIn K cdv qual=true) (k:keepIn K (.ref f)=true):Fun K x qual st f (fnOf x qual (fY st) (eG st) (aj st) .none kV doc pm an cdv ct):=⟨⟨oc,od,kV,doc,pm,an,cdv,ct,osl,rfl,l,c⟩,k⟩
end
def Same (H H':Hp):Prop:=∀b o,H b=some o->H' b=some o
theorem Same.refl (H:Hp):Same H H:=fun _ _ h=>h
theorem Same.trans {H H1 H2:Hp}(a:Same H H1)(b:Same H1 H2):Same H H2:=fun c o h=>b c o (a c o h)
theorem Same.seq {K:AC}{H H':Hp}{a:Addr}{xs:List V}(e:Same H H')(h:SqL K H a xs):SqL K H' a xs:=by
 rcases h with(h|⟨o,h⟩)|h
 ·exact .inl (.inl (e _ _ h))
 ·exact .inl (.inr ⟨o,e _ _ h⟩)
 exact .inr h
end L2
set_option maxHeartbeats 4000000
namespace L2
open PySem PySem.Spec PyProof.Rows
theorem yD {env:Env}:∀(names:List (Str×DS)) (acc:List (Str×Addr)),
  (∀y∈names,y.2=.free->∃c,env.cells.lookup y.1=some c)->(∀x c,acc.lookup x=some c->env.cells.lookup x=some c) ->
  ∃cl,(forIn names acc fun(y:Str×DS)(r:List (Str×Addr))=>(match y with
   | (name,kind)=>if (kind == .free)=true then (do let a <- cellOf env name;pure (EZ ((name,a)::r))) else pure (EZ r):Sem (ForInStep (List (Str×Addr)))))=pure cl /\
   (∀x c,cl.lookup x=some c->env.cells.lookup x=some c)/\(∀y∈names,y.2=.free->∃c,cl.lookup y.1=some c)/\(∀x c,acc.lookup x=some c->∃c',cl.lookup x=some c')
 | [],acc,_,ha=>⟨acc,rfl,ha,fun _ h=>(nomatch h),fun x c h=>⟨c,h⟩⟩
 | (n,k)::r,acc,hf,ha=>by
  have hf':∀y∈r,y.2=.free->∃c,env.cells.lookup y.1=some c:=fun y hy=>hf y (A4 _ hy);by_cases hk:k=.free
  ·subst hk;obtain⟨c0,e0⟩:=hf (n,.free) BE rfl;have hce:cellOf env n=pure c0:=by unfold cellOf;rw[e0]
   have ha2:∀x c,((n,c0)::acc).lookup x=some c->env.cells.lookup x=some c:=fun x c h=>by
    rw[Ex] at h;cases hx:x == n with
    | true=>
     rw[hx] at h;have e1:x=n:=by simpa using hx
     rw[e1,e0];exact h
    | false=>
     rw[hx] at h;exact ha x c h
   obtain⟨cl,e,h1,h2,h3⟩:=yD r ((n,c0)::acc) hf' ha2;refine⟨cl,?_,h1,fun y hy hz=>?_,fun x c h=>?_⟩
   ·rw[Fa];simp only[beq_self_eq_true,if_true,hce];exact e
   ·rcases BB.mp hy with q|q
    ·subst q;exact h3 n c0 (by simp)
    exact h2 y q hz
   cases hx:x == n with
   | true=>exact h3 x c0 (by rw[Ex,hx])
   | false=>exact h3 x c (by rw[Ex,hx];exact h)
  have hb:(k == DS.free)=false:=by simpa using hk
  obtain⟨cl,e,h1,h2,h3⟩:=yD r acc hf' ha;refine⟨cl,?_,h1,fun y hy hz=>?_,h3⟩
  ·rw[Fa];simp only[hb,EL,if_false];exact e
  rcases BB.mp hy with q|q
  ·subst q;exact absurd hz hk
  exact h2 y q hz
theorem CZ {env:Env}{scope:FA}(hf:∀y∈scope.names,y.2=.free->∃c,env.cells.lookup y.1=some c) :
  ∃cl,closureFor scope env=pure cl/\(∀x c,cl.lookup x=some c->env.cells.lookup x=some c)/\(∀y∈scope.names,y.2=.free->∃c,cl.lookup y.1=some c):=by
 obtain⟨cl,e,h1,h2,_⟩:=yD (env:=env) scope.names [] hf (fun x c h=>by simp at h);refine⟨cl,?_,h1,h2⟩;unfold closureFor;show(forIn scope.names [] _ >>= fun r=>pure r)=_;rw[show(forIn scope.names ([]:List (Str×Addr)) fun(y:Str×DS)(r:List (Str×Addr))=>(match y with
   | (name,kind)=>if (kind == .free)=true then (do let a <- cellOf env name;pure (EZ ((name,a)::r))) else pure (EZ r):Sem (ForInStep (List (Str×Addr)))))=pure cl from e]
 rfl
section
variable {prog:AW}{w:BC}{A:A3}{R:Result->AA->Prop}{s:AA}
theorem Aq {elt tg iter:Expr}{ifs:List Expr}{scope:FA}{pos:Pos}{it acc:Ap}{env:Env}(J:Nat->AA->Prop)
  (turn:∀n s,J n s->AE (AH prog w) A (F5 it) (fun r s1=>match r with
   | none=>R (.ok .next) s1
   | some v=>AE (AH prog w) A (EX tg it v) (fun _ s1'=>AE (AH prog w) A (GW tg env v) (fun _ s2=>
     AE (AH prog w) A (forIn ifs true fun c r=>if r=true then do let ok <- isTrue c env (eval c env);pure (EZ ok) else pure (EZ r)) (fun ok s3=>
      if ok=true then AE (AH prog w) A (eval elt env) (fun x s4=>
       AE (AH prog w) A (call (.builtin "list.append") [acc,x]) (fun _ s5=>∃m,m<n/\J m s5) (JO (AH prog w) A env fun e z=>R (.error e) z) s4) (JO (AH prog w) A env fun e z=>R (.error e) z) s3
      else ∃m,m<n/\J m s3) (JO (AH prog w) A env fun e z=>R (.error e) z) s2) (JO (AH prog w) A env fun e z=>R (.error e) z) s1') (JO (AH prog w) A env fun e z=>R (.error e) z) s1) (JO (AH prog w) A env fun e z=>R (.error e) z) s)
  (n:Nat) (h:J n s):FG (AH prog w) A (.compLoop (.ListComp elt [⟨tg,iter,ifs,0⟩] scope pos) 0 it acc env) R s:=by
 refine codeAny_loop rfl J (fun n z hJ=>?_) n h;show AE _ A ((compTurn (.ListComp elt [⟨tg,iter,ifs,0⟩] scope pos) 0 it acc env).onRaise (fun y=>do Hm y env;theTreesLotGoes y)) _ _ z;refine wpAny_noted ?_;rw[compTurn_list];refine An (DV (An (BO (turn n z hJ) (fun r s1 h1=>?_) fun _ _ q=>q)));cases r with
 | none=>exact Au h1
 | some v=>
  refine An (BO h1 (fun _ s1' h1'=>?_) fun _ _ q=>q);refine An (BO h1' (fun _ s2 h2=>An (BO h2 (fun ok s3 h3=>?_) fun _ _ q=>q)) fun _ _ q=>q);cases ok with
  | false=>exact Au ⟨rfl,h3⟩
  | true=>
   exact An (An (BO h3 (fun x s4 h4=>An (BO h4 (fun _ s5 h5=>Au (Au ⟨rfl,h5⟩)) fun _ _ q=>q)) fun _ _ q=>q))
end
def jq (mp:List (Option Nat))(σ:St):St:=mp.map fun o=>match o with
 | some j=>(σ[j]?).join
 | none=>none
def bD (X:Cx)(N:List Str)(scope:FA)(cl:List (Str×Addr))(C:Addr)(s:AA)(H:Hp)(fp:List Addr):Cx:=
 { X with N:=N,s₀:=s,H₀:=H,env:=HP scope cl C X.env,outer:=X.stack,stack:=X.stack,ex:=fp,fn:=fun _=>false,pn:=[],xe:=fun _ _=>False }
def qL (NX:List Str)(names:List (Str×DS)):List Str->List (Option Nat)->Bool
 | [],[]=>true
 | x::r,o::q=>(match o with
   | none=>names.lookup x == some .local
   | some j=>NX[j]? == some x&&names.lookup x == some .free)&&qL NX names r q
 | _,_=>false
theorem Ah {NX:List Str}{names:List (Str×DS)}:∀{N:List Str}{mp:List (Option Nat)}{i j:Nat}{x:Str},qL NX names N mp=true->N[i]?=some x->mp[i]?=some (some j)->NX[j]?=some x/\names.lookup x=some .free
 | [],_,i,_,_,_,h,_=>by simp at h
 | _::_,[],_,_,_,h,_,_=>by simp [qL] at h
 | y::r,o::q,0,j,x,h,h1,h2=>by
  simp at h1 h2;subst h1 h2;unfold qL at h;simp only[C1,beq_iff_eq] at h;exact h.1
 | y::r,o::q,i+1,j,x,h,h1,h2=>by
  unfold qL at h;rw[C1] at h;exact Ah (i:=i) h.2 (by simpa using h1) (by simpa using h2)
theorem Ag {NX:List Str}{names:List (Str×DS)}:∀{N:List Str}{mp:List (Option Nat)},qL NX names N mp=true->mp.length=N.length
 | [],[],_=>rfl
 | [],_::_,h=>by simp [qL] at h
 | _::_,[],h=>by simp [qL] at h
 | _::r,_::q,h=>by
  unfold qL at h;rw[C1] at h;simp [Ag h.2]
structure vH (NX:List Str)(kX:List (Str×DS))(N:List Str)(mp:List (Option Nat))(scope:FA):Prop where
 kind:scope.kind=.function
 nocell:∀y∈scope.names,y.2≠.cell
 locs:∀y∈scope.names,y.2=.local->scope.names.lookup y.1=some .local
 fre:∀y∈scope.names,y.2=.free->kX.lookup y.1=some .cell\/kX.lookup y.1=some .free
 map:qL NX scope.names N mp=true
def PTs (X:Cx)(cs:List Expr)(t:TT):Prop:=
 ∀(pins:List (Addr×Obj)) (s:AA) (σ:St) (H:Hp) (Q:Bool->Hp->Prop),Inv X pins σ H s->t σ H Q ->
  AE (AH X.prog X.w) X.A (forIn cs true fun c r=>if r=true then do let ok <- isTrue c X.env (eval c X.env);pure (EZ ok) else pure (EZ r)) (TP X pins σ Q) X.xe s
def Vs:TT:=fun _ H Q=>Q true H
theorem Wo {X:Cx}:PTs X [] Vs:=fun _ _ _ H _ I h=>wpAny_tests_nil ⟨H,I,h⟩
theorem Wn {X:Cx}{c:Expr}{t:TT}(h:PT X c t):PTs X [c] t:=fun pins s σ H Q I q=>wpAny_tests_one (h pins s σ H Q I q)
def zQ (mp:List (Option Nat))(wi:TI)(g:TG)(tc:TT)(te:TE):TE:=fun σ H Q=>wi σ H fun J H1=>
 ∃W:Nat->Nat->List V->St->Hp->Prop,(∃m,W 0 m [] (jq mp σ) H1)/\∀i m acc τ H2,W i m acc τ H2 ->
  (J.stop i H2/\∀d,H2 d=none->Q (.ref d) (upd H2 d (.lst acc))) \/
  (J.go i H2/\acc.length<AM/\∃N:List V->St->Hp->Prop,(∀acc' τ' H',N acc' τ' H'->∃m',m'<m/\W (i+1) m' acc' τ' H')/\∀x H3,J.yld i H2 x H3->g x τ H3 fun τ1 H4=>tc τ1 H4 fun b H5=>
   if b=true then te τ1 H5 fun v H6=>N (acc++[v]) τ1 H6 else N acc τ1 H5)
theorem iH {env:Env}:∀{names:List (Str×DS)}{x:Str}{k:DS},(names.map fun(n,k)=>if (k == DS.free&&env.scope.kind == .function&&env.kindOf n == some .cell) then (n,DS.cell) else (n,k)).lookup x=some k ->
  names.lookup x=some k\/(k=.cell/\names.lookup x=some .free)
 | [],_,_,h=>by simp at h
 | (n,k0)::r,x,k,h=>by
  have ih:=@iH env r x k;rw[F9] at h;by_cases hc:(k0 == DS.free&&env.scope.kind == .function&&env.kindOf n == some .cell)=true
  ·simp only[hc,if_true] at h;cases hx:x == n with
   | true=>
    rw[Ex,hx] at h;have hk:k0=.free:=by
     rw[C1,C1] at hc;simpa using hc.1.1
    right;refine⟨(B7 h).symm,?_⟩;rw[Ex,hx,hk]
   | false=>
    rw[Ex,hx] at h;rw[Ex,hx];exact ih h
  simp only[hc,if_false] at h;cases hx:x == n with
  | true=>
   rw[if_neg (by simp),Ex,hx] at h;rw[Ex,hx];exact .inl h
  | false=>
   rw[if_neg (by simp),Ex,hx] at h;rw[Ex,hx];exact ih h
theorem na0 {b D E:Nat}(h:b<E)(hD:E=D):b≠D:=by omega
theorem na1 {b D E C:Nat}(h:b<E)(hD:E=D)(hC:C=D+1):b≠C:=by omega
theorem na2 {C D:Nat}(hC:C=D+1):D≠C:=by omega
theorem na3 {C D E:Nat}(hD:E=D)(hC:C=D+1):E<=C:=by omega
theorem na4 {D E:Nat}(hD:E=D):E<=D:=by omega
section
variable {X:Cx}{NX N:List Str}{kX:List (Str×DS)}{mp:List (Option Nat)}{scope:FA}{pins:List (Addr×Obj)}{σ:St}{s s':AA}{H:Hp}{fp:List Addr}{cl:List (Str×Addr)}{C:Addr}
theorem CV (hkX:X.env.scope.names=kX)(S:vH NX kX N mp scope)(I:Inv X pins σ H s)(hfp:∀b∈fp,rT X pins H b)(hold:∀b∈fp,b<s.heap.objs.size)(hC:s.heap.objs.size<=C)
  (hsub:∀x c,cl.lookup x=some c->X.env.cells.lookup x=some c) (hhas:∀y∈scope.names,y.2=.free->∃c,cl.lookup y.1=some c):(bD X N scope cl C s H fp).Ok where
 mod:=I.ok.mod
 kind:=S.kind
 glob:=I.ok.glob
 blt:=I.ok.blt
 above:=hC
 inj:=fun x y c h1 h2=>I.ok.inj x y c (hsub x c h1) (hsub y c h2)
 has:=fun x h=>by
  have key:scope.names.lookup x=some .free:=by
   rcases h with h|h
   ·rcases iH (env:=X.env) (names:=scope.names) h with q|⟨_,q⟩
    ·exact absurd rfl (S.nocell _ (DI q))
    exact q
   rcases iH (env:=X.env) (names:=scope.names) h with q|⟨q,_⟩
   ·exact q
   cases q
  exact hhas _ (DI key) rfl
 cab:=fun x c h=>by cases h
 hd:=I.ok.hd
 frames:=I.ok.frames
 stk:=.inl rfl
 exf:=fun b hb=>⟨B4 (AN (hold b hb) hC),fun x c e=>(hfp b hb).2.2.2.2.1 x c (hsub x c e)⟩
 bs:=I.bs
 bsz:=BN I.ok.bsz I.sz
 noex:=fun b o e hb=>by
  rcases(hfp b hb).2.2.2.1 with q|q
  ·exact I.ok.noex b o e q
  exact absurd (AN (AN (AZ e) I.ok.bsz) q) (Db _)
 exfs:=fun b hb hz=>by
  obtain⟨_,h1,h2,_⟩:=hfp b hb;rcases BB.mp (I.qP b hz) with q|q
  ·exact h1 q
  exact h2 q
 pK:=I.stack
 frf:=I.vV
theorem CW (hNX:X.N=NX)(hkX:X.env.scope.names=kX)(S:vH NX kX N mp scope)(I:Inv X pins σ H s)(hfp:∀b∈fp,rT X pins H b)(hold:∀b∈fp,b<s.heap.objs.size)(hC:s.heap.objs.size<=C)
  (hsub:∀x c,cl.lookup x=some c->X.env.cells.lookup x=some c) (hhas:∀y∈scope.names,y.2=.free->∃c,cl.lookup y.1=some c)
  (ho:s'.os=s.os) (hg:s'.gens=s.gens) (hn:∃m,s'.heap.Ns C m) (hk:∀b o,s.heap.get? b=some o->s'.heap.get? b=some o) {pl:List (Addr×Obj)}
  (hp:∀p∈pl,s'.heap.get? p.1=some p.2/\H p.1=none/\p.1≠C/\p.1∉frs X.stack/\∀v,p.2.data≠.cell v) :
  Inv (bD X N scope cl C s H fp) pl (jq mp σ) H s' where
 ok:=CV hkX S I hfp hold hC hsub hhas
 os:=ho
 bare:=by rw[hg];exact I.bare
 base:=Un.kept hk
 loc:=by
  obtain⟨m,hm⟩:=hn;refine⟨m,hm,fun i x v h1 h2 h3=>?_⟩;have h2':(mp.map fun o=>match o with|some j=>(σ[j]?).join|none=>none)[i]?=some (some v):=h2
  rw[BH] at h2';cases e:mp[i]? with
  | none=>rw[e] at h2';cases h2'
  | some o=>
   rw[e] at h2';cases o with
   | none=>cases h2'
   | some j=>
    have h4:(σ[j]?).join=some v:=by simpa using h2'
    have h5:σ[j]?=some (some v):=by
     cases q:σ[j]? with
     | none=>rw[q] at h4;cases h4
     | some z=>rw[q] at h4;rw[show z=some v from h4]
    obtain⟨g1,g2⟩:=Ah S.map h1 e;have fk:=S.fre _ (DI g2) rfl;obtain⟨m0,_,hl⟩:=I.loc;have vis:Vis X.env.scope x:=by
     rcases fk with q|q
     ·exact .inr (.inl (by rw[hkX];exact q))
     exact .inr (.inr (by rw[hkX];exact q))
    obtain⟨u,r,l⟩:=hl j x v (by rw[hNX];exact g1) h5 vis;refine⟨u,r,.inr ?_⟩;have l':∃c,X.env.cells.lookup x=some c/\s.heap.IsCell c (some u):=by
     rcases l with⟨q,_⟩|⟨_,q⟩
     ·have q':X.env.scope.names.lookup x=some .local:=q;rw[hkX] at q';rcases fk with z|z
      ·rw[q'] at z;cases z
      rw[q'] at z;cases z
     exact q
    obtain⟨c,hc,oc,hoc,hd⟩:=l';obtain⟨c',hc'⟩:=hhas _ (DI g2) rfl;have ec:c'=c:=by
     have:=hsub x c' hc';rw[hc] at this;exact(B7 this).symm
    subst ec;refine⟨?_,c',hc',oc,hk _ _ hoc,hd⟩;rcases h3 with q|q|q
    ·rcases iH (env:=X.env) (names:=scope.names) q with z|⟨z,_⟩
     ·rw[g2] at z;cases z
     cases z
    ·exact .inl q
    exact .inr q
 cell:=fun x c e=>by
  obtain⟨v,o,h1,h2⟩:=I.cell x c (hsub x c e);exact⟨v,o,hk _ _ h1,h2⟩
 free:=I.hok.fresh hC
 freeC:=fun x c e=>I.freeC x c (hsub x c e)
 pin:=fun p hpp=>hp p (by simpa [bD] using hpp)
 hok:=I.hok.kept hk
 len:=by
  show(mp.map _).length=N.length;rw[AV];exact Ag S.map
set_option maxHeartbeats 8000000 in
theorem W0 {tg iter elt:Expr}{ifs:List Expr}{pos:Pos}{wi:TI}{g:TG}{tc:TT}{te:TE}(N:List Str)(mp:List (Option Nat))(hNX:X.N=NX)(hkX:X.env.scope.names=kX)(S:vH NX kX N mp scope)(hc:X.calm=true)
  (hi:PI X tg iter wi) (hg:∀cl C s H fp,PG (bD X N scope cl C s H fp) tg g) (ht:∀cl C s H fp,PTs (bD X N scope cl C s H fp) ifs tc) (he:∀cl C s H fp,PE (bD X N scope cl C s H fp) elt te)
  (hs:∀x,CY iter X.env x=pure x:=by intro _;rfl):PE X (.ListComp elt [⟨tg,iter,ifs,0⟩] scope pos) (zQ mp wi g tc te):=by
 intro pins s σ H Q I h;obtain⟨cl,hcl,hsub,hhas⟩:=CZ (env:=X.env) (scope:=scope) fun y hy hf=>I.ok.has y.1 (by
  rcases S.fre y hy hf with q|q
  ·exact .inl (show X.env.scope.names.lookup y.1=_ by rw[hkX];exact q)
  exact .inr (show X.env.scope.names.lookup y.1=_ by rw[hkX];exact q))
 rw[eval_ListComp];refine LB (use:=none) rfl hs hcl S.kind S.locs ?_;refine thn (hi pins s σ H _ I h) fun v s1 h1=>thn h1 fun itv s2 h2=>?_;obtain⟨it,fp,tn,J,H2,e,I2,T,st2,f2,W,⟨m0,w0⟩,turn⟩:=h2;subst e;refine BM (MA S.nocell (by intro y hy;simp at hy) (fun h3 hns hsb=>?_) S.kind);dsimp only at hns hsb |-;have hold:∀b∈fp,b<s2.heap.objs.size:=fun b hb=>by
  obtain⟨o,q,_⟩:=T.obj _ _ st2 b hb;exact AZ q
 generalize hD:s2.heap.objs.size=D at hns hsb;generalize hH2:s2.heap.push { cls:=.type "list",dict:=none,data:=.seq ([]:List Ap).toArray }=P2 at hns hsb |-;have hC:P2.objs.size=D+1:=by rw[<- hH2,D7,hD]
 generalize hC':P2.objs.size=C at hns hsb |-;rw[hC'] at hC;have old:∀b o,s2.heap.get? b=some o->h3.get? b=some o:=fun b o q=>by
  have hb:=AZ q;exact hsb.extBut b o (na1 hb hD hC) (AD _ (hH2 ▸ AD _ q))
 have accD:h3.get? D=some { cls:=.type "list",data:=.seq ([]:List Ap).toArray }:=
  hsb.extBut _ _ (na2 hC) (AD _ (by rw[<- hH2,<- hD];exact A8 _ rfl))
 have hfr:D∉frs X.stack:=fun z=>by
  rcases BB.mp (I2.qP D z) with q|q
  ·exact na0 I2.lt hD q.symm
  exact I2.Xi (na4 hD) q
 have I0:Inv (bD X N scope cl C s2 H2 fp) [(D,{ cls:=.type "list",data:=.seq ([]:List Ap).toArray })] (jq mp σ) H2 { s2 with heap:=h3,toks:=s2.toks+([]:List (Str×Ap)).length }:=
  CW (s':={ s2 with heap:=h3,toks:=s2.toks+([]:List (Str×Ap)).length }) hNX hkX S I2 f2 hold (na3 hD hC) hsub hhas rfl rfl ⟨_,hns⟩ old fun p hp=>by
   have ep:=AK.mp hp;subst ep;exact⟨accD,I2.hok.fresh (na4 hD),na2 hC,hfr,fun v z=>by cases z⟩
 have T0:tn 0 h3:=T.keep _ _ _ st2 fun b _ o q=>old b o q;have loop:∀z:AA,z={ s2 with heap:=h3,toks:=s2.toks+([]:List (Str×Ap)).length } ->
   FG (AH X.prog X.w) X.A (.compLoop (.ListComp elt [⟨tg,iter,ifs,0⟩] scope pos) 0 (.ref it) (.ref D) (HP scope cl C X.env))
    (compPost (AH X.prog X.w) X.A X.xe none (EP X pins σ Q) (.ref D) C) z:=by
  rintro z rfl;have stat:∀{H':Hp}{pl:List (Addr×Obj)},(∀b∈fp,H' b=none)->(∀p∈pl,p.1=D)->∀b∈fp,rT (bD X N scope cl C s2 H2 fp) pl H' b:=fun hn hp b hb=>by
   have hb2:=hold b hb;refine⟨hn b hb,na1 hb2 hD hC,(CV hkX S I2 f2 hold (na3 hD hC) hsub hhas).exfs b hb,.inl hb,fun x c q=>(f2 b hb).2.2.2.2.1 x c (hsub x c q),fun p hpp=>?_⟩;have hpD:=hp p (by simpa [bD] using hpp);rw[hpD];exact(na0 hb2 hD).symm
  refine Aq (env:=HP scope cl C X.env) (fun n z=>∃i acc τ H' its k,Inv (bD X N scope cl C s2 H2 fp) [(D,{ cls:=.type "list",data:=.seq (DM its) k })] τ H' z/\tn i z.heap/\(∀b∈fp,H' b=none)/\Vals acc its/\acc.length<=AM/\W i n acc τ H')
   ?_ m0 ⟨0,[],_,H2,[],0,I0,T0,fun b hb=>(f2 b hb).1,.nil,D2 _,w0⟩
  rintro n s5 ⟨i,acc,τ,H5,its,k,I5,st5,fr5,va,hz,w5⟩;rcases turn i n acc τ H5 w5 with⟨stop,qn⟩|⟨go,hz2,N9,hN9,step⟩
  ·refine thn (T.done (bD X N scope cl C s2 H2 fp) rfl rfl rfl hc i _ s5 τ H5 _ I5 (stat fr5 (by simp)) st5 stop) fun r s6 ⟨hr,I6⟩=>?_;subst hr;obtain⟨m6,hn6,_⟩:=I6.loc;refine⟨m6,hn6,fun h' sb=>?_⟩;obtain⟨dD,nD,_,_,_⟩:=I6.pin (D,_) (AQ _ (AK.mpr rfl));have U:=I6.base;have nC:H5 C=none:=I6.free;have ne:∀b o,s2.heap.get? b=some o->b≠C/\b≠D:=fun b o q=>by
    exact⟨na1 (AZ q) hD hC,na0 (AZ q) hD⟩
   have keepC:∀b o,b≠C->s6.heap.get? b=some o->h'.get? b=some o:=fun b o hb q=>(sb.2 b hb).trans q;have U':Un (frs X.stack) fp H2 (upd H5 D (.lst acc)) s2.heap h':=by
    refine⟨fun b o q n1 hb hx=>keepC b o (ne b o q).1 (U.keep b o q n1 hb hx),fun b o q n1 hb hx=>?_,fun b o q n1 hx=>?_,fun b o q hx=>?_,fun b xs q=>?_,fun b o xs q=>?_,fun b ps q=>?_⟩
    ·obtain⟨sl,z⟩:=U.slot b o q n1 hb hx;exact⟨sl,keepC b _ (ne b o q).1 z⟩
    ·rw[aF (ne b o q).2];exact U.free b o q n1 hx
    ·obtain⟨o',z⟩:=U.there b o q hx;exact⟨o',keepC b _ (ne b o q).1 z⟩
    ·have z:=U.tups b xs q;rw[aF (aG z nD)];exact z
    ·have z:=U.frzs b o xs q;rw[aF (aG z nD)];exact z
    obtain⟨more,z⟩:=U.tbls b ps q;exact⟨more,by rw[aF (aG z nD)];exact z⟩
   have hok:HOk X.prog X.w (upd H5 D (.lst acc)) h':=fun b u q=>by
    by_cases hb:b=D
    ·subst hb;rw[aB] at q;cases q;exact⟨hz,its,k,va,keepC _ _ (na2 hC) dD⟩
    rw[aF hb] at q;refine(I6.hok b u q).stay (fun c v hcc z=>keepC c v ?_ z) (fun c z=>by rw[aF (aG z nD)];exact z) fun c xs z=>by rw[aF (aG z nD)];exact z
    rcases hcc with z1|z1
    ·subst z1;exact aG q nC
    exact aG z1 nC
   have I7:Inv X pins σ (upd H5 D (.lst acc)) { s6 with heap:=h' }:=I2.call' (s':={ s6 with heap:=h' }) (ch:=fp) I6.os U' hok I6.bare fun b hb=>by
    obtain⟨_,a2,_,a4,a5,a6⟩:=f2 b hb;exact⟨a4,a2,a5,a6⟩
   exact⟨.ref D,_,I7,rfl,qn D nD⟩
  refine thn (T.item (bD X N scope cl C s2 H2 fp) rfl rfl rfl hc i _ s5 τ H5 _ I5 (stat fr5 (by simp)) st5 go) fun r s6 ⟨u,hr,h6⟩=>?_;subst hr;refine thn h6 fun _ s7 ⟨x,H7,I7,r7,y7,st7,fr7⟩=>?_;have I7':=I7.pinned (stat fr7 (by simp)) (T.obj _ _ st7);have no:∀{α:Type}{t:Sem α}{Q1 Q2:α->AA->Prop}{E:Ap->AA->Prop}{z:AA},AE (AH X.prog X.w) X.A t Q1 (fun _ _=>False) z->(∀a z,Q1 a z->Q2 a z)->AE (AH X.prog X.w) X.A t Q2 E z:=
   fun q f=>BO q f fun _ _ z=>z.elim
  refine no (hg cl C s2 H2 fp _ s7 τ H7 x u _ I7' r7 (step x H7 y7)) fun _ s8 ⟨τ1,H8,I8,q8⟩=>?_;refine no (ht cl C s2 H2 fp _ s8 τ1 H8 _ I8 q8) fun ok s9 ⟨H9,I9,q9⟩=>?_;have LH:∀{H':Hp}{z:AA}{its':List Ap}{k':Nat},Inv (bD X N scope cl C s2 H2 fp) ([(D,{ cls:=.type "list",data:=.seq (DM its') k' })]++gq fp s7.heap) τ1 H' z ->
    tn (i+1) z.heap/\(∀b∈fp,H' b=none)/\Inv (bD X N scope cl C s2 H2 fp) [(D,{ cls:=.type "list",data:=.seq (DM its') k' })] τ1 H' z:=fun {H' z its' k'} Iz=>by
   have get:∀b∈fp,∀o,s7.heap.get? b=some o->z.heap.get? b=some o/\H' b=none:=fun b hb o q=>by
    obtain⟨a1,a2,_⟩:=Iz.pin (b,o) (AQ _ (AQ _ (iZ hb q)));exact⟨a1,a2⟩
   refine⟨T.keep _ _ _ st7 fun b hb o q=>(get b hb o q).1,fun b hb=>?_,Iz.jC⟩;obtain⟨o,q,_⟩:=T.obj _ _ st7 b hb;exact(get b hb o q).2
  cases ok with
  | false=>
   rw[if_neg A5] at q9 |-;obtain⟨m',hm,w9⟩:=hN9 _ _ _ q9;obtain⟨a1,a2,a3⟩:=LH I9;exact⟨m',hm,i+1,acc,τ1,H9,its,k,a3,a1,a2,va,hz,w9⟩
  | true=>
   rw[if_pos rfl] at q9 |-;refine no (he cl C s2 H2 fp _ s9 τ1 H9 _ I9 q9) fun y s10 ⟨v,H10,I10,rv,q10⟩=>?_;obtain⟨m',hm,w10⟩:=hN9 _ _ _ q10;obtain⟨a1,a2,a3⟩:=LH I10;obtain⟨dD,nD,_,_,_⟩:=a3.pin (D,_) (AQ _ (AK.mpr rfl));have hlen:=va.length;refine Iy KA ⟨_,dD,rfl⟩ Jn (IU _ _) (K2 D its.toArray k y (by rw[Bz];omega)) ⟨dD,?_⟩;obtain⟨k',q⟩:∃k',(s10.heap.update D (Cf fun a=>a.push y)).get? D=some { cls:=.type "list",data:=.seq (its++[y]).toArray k' }:=by
    have q:=LI dD (fun a=>a.push y);rw[show its.toArray.push y=(its++[y]).toArray by simp] at q;exact⟨_,q⟩
   have a4:Inv (bD X N scope cl C s2 H2 fp) (gq fp s7.heap) τ1 H10 s10:=I10.kE fun p hp=>I10.pin p (AQ _ (AQ _ hp));have a5:Inv (bD X N scope cl C s2 H2 fp) (gq fp s7.heap) τ1 H10 { s10 with heap:=s10.heap.update D (Cf fun a=>a.push y),toks:=s10.toks }:=
    a4.turned (it:=D) (fun b o hb z=>(BU _ _ (B2 hb)).trans z) nD (na2 hC) (.inr (na4 hD))
     (fun x c z=>by
      obtain⟨_,o,h1,_⟩:=I2.cell x c (hsub x c z);exact na0 (AZ h1) hD) fun p hp=>by
      have hb:=(qe (by simpa [bD] using hp)).1;exact na0 (hold _ hb) hD
   obtain⟨b1,b2,b3⟩:=(show tn (i+1) (s10.heap.update D (Cf fun a=>a.push y))/\(∀b∈fp,H10 b=none)/\True from
    ⟨T.keep _ _ _ a1 fun b hb o z=>(BU _ _ (na0 (hold b hb) hD).symm).trans z,a2,trivial⟩)
   refine⟨m',hm,i+1,acc++[v],τ1,H10,its++[y],k',a5.kE fun p hp=>?_,b1,b2,va.append (.cons rv .nil),by rw[AO,A9];omega,w10⟩;have ep:=AK.mp hp;subst ep;exact⟨q,nD,na2 hC,hfr,fun v z=>by cases z⟩
 have e1:{ newEnv scope C X.env.globals cl X.env.qual none .none (some X.env) X.env.builtins with scope:=relabel scope X.env }=HP scope cl C X.env:=rfl;exact L6 (loop _ rfl) (T.self _ 0 _ _ _ T0 (loop _ rfl))
end
section
variable {X:Cx}{pins:List (Addr×Obj)}{σ:St}{H:Hp}{s:AA}
theorem Inv.Oz {ch:List Addr}{h':Heap}{t':Nat}(I:Inv X pins σ H s)(hf:∀b∈ch,rT X pins H b)(k:∀b o,b∉ch->s.heap.get? b=some o->h'.get? b=some o):Inv X pins σ H { s with heap:=h',toks:=t' }:=by
 have nit:∀b u,H b=some u->b∉ch:=fun b u e z=>by rw[(hf b z).1] at e;cases e
 refine I.step (g':=s.gens) (d':=s.drawn) (ch:=ch) (fun b hb=>?_) (fun b o _ _ hc e _=>k b o hc e) (fun b o _ _ hc e _=>⟨o.slots,k b o hc e⟩) (fun _ _ _ _ n=>n)
  (fun b o hc e=>⟨o,k b o hc e⟩) (fun _ _ e=>e) (fun _ _ _ e=>e) (fun b ps e=>⟨#[],by rw[e];simp⟩) (fun m hm=>?_) (fun b u e=>?_) I.bare
 ·obtain⟨_,a2,_,a4,a5,a6⟩:=hf b hb;exact⟨a4,a2,a5,a6⟩
 ·obtain⟨o,es,ep,ho,r⟩:=hm;exact⟨o,es,ep,k _ o (fun z=>(hf _ z).2.1 rfl) ho,r⟩
 refine(I.hok b u e).stay (fun c v hc q=>k c v ?_ q) (fun _ q=>q) fun _ _ q=>q;rcases hc with z|z
 ·rw[z];exact nit b u e
 exact nit c _ z
theorem Inv.Ox {ch:List Addr}{h':Heap}{t':Nat}{p:Addr}{o:HO}(I:Inv X pins σ H s)(hf:∀b∈ch,rT X pins H b)(k:∀b o,b∉ch->s.heap.get? b=some o->h'.get? b=some o)(hp:s.heap.objs.size<=p)
  (new:cW X.prog X.w (upd H p o) h' p o):Inv X pins σ (upd H p o) { s with heap:=h',toks:=t' }:=by
 have hn:H p=none:=I.hok.fresh hp;have nit:∀b u,H b=some u->b∉ch:=fun b u e z=>by rw[(hf b z).1] at e;cases e
 have lt:∀b u,s.heap.get? b=some u->b≠p:=fun b u e=>B4 (AN (AZ e) hp);refine I.step (g':=s.gens) (d':=s.drawn) (ch:=ch) (fun b hb=>?_) (fun b o _ _ hc e _=>k b o hc e) (fun b o _ _ hc e _=>⟨o.slots,k b o hc e⟩) (fun b o _ e n=>by rw[aF (lt b o e)];exact n)
  (fun b o hc e=>⟨o,k b o hc e⟩) (fun b xs e=>by rw[aF (aG e hn)];exact e) (fun b u xs e=>by rw[aF (aG e hn)];exact e) (fun b ps e=>⟨#[],by rw[aF (aG e hn),e];simp⟩) (fun m hm=>?_) (fun b u e=>?_) I.bare
 ·obtain⟨_,a2,_,a4,a5,a6⟩:=hf b hb;exact⟨a4,a2,a5,a6⟩
 ·obtain⟨o,es,ep,ho,r⟩:=hm;exact⟨o,es,ep,k _ o (fun z=>(hf _ z).2.1 rfl) ho,r⟩
 by_cases hb:b=p
 ·subst hb;rw[aB] at e;cases e;exact new
 rw[aF hb] at e;refine(I.hok b u e).stay (fun c v hc q=>k c v ?_ q) (fun c q=>by rw[aF (aG q hn)];exact q) fun c xs q=>by rw[aF (aG q hn)];exact q
 rcases hc with z|z
 ·rw[z];exact nit b u e
 exact nit c _ z
end
def Itz (K:AC)(a b:Addr):It:=
 ⟨fun i H=>∃xs ys x y,SqL K H a xs/\SqL K H b ys/\xs[i]?=some x/\ys[i]?=some y,
  fun i H v H'=>∃p x y,v=.ref p/\H p=none/\H'=upd H p (.tup [x,y])/\(∀xs,SqL K H a xs->xs[i]?=some x)/\∀ys,SqL K H b ys->ys[i]?=some y,
  fun i H=>∃xs ys,SqL K H a xs/\SqL K H b ys/\(xs[i]?=none\/ys[i]?=none)⟩
theorem Ov {P:AW}{w:BC}{K:AC}{es:List Expr}{kk:Nat}{tpos:Pos}{z TI TO i1 i2 l1 l2:Addr}(D:MD z TI TO i1 i2 l1 l2) :
  Turn P w K (.Tuple es kk tpos) (Itz K l1 l2) [z,TI,TO,i1,i2] z (fun i h=>IsZip h z TI TO .none/\ES h TI (.ref i1) (.ref i2)/\(∃a b,ES h TO a b)/\h.IsListIter i1 l1 i/\h.IsListIter i2 l2 i) where
 mem:=by simp
 obj:=fun i h st b hb=>by
  obtain⟨hz,hTI,⟨a,b',hTO⟩,⟨o1,e1,c1,d1⟩,⟨o2,e2,c2,d2⟩⟩:=st;simp only[BB,Cs,or_false] at hb;rcases hb with rfl|rfl|rfl|rfl|rfl
  ·exact⟨_,hz,fun v q=>by cases q⟩
  ·exact⟨_,hTI,fun v q=>by cases q⟩
  ·exact⟨_,hTO,fun v q=>by cases q⟩
  ·exact⟨o1,e1,fun v q=>by rw[d1] at q;cases q⟩
  exact⟨o2,e2,fun v q=>by rw[d2] at q;cases q⟩
 keep:=fun i h h' st k=>by
  obtain⟨hz,hTI,⟨a,b',hTO⟩,h1,h2⟩:=st;exact⟨k z (by simp) _ hz,k TI (by simp) _ hTI,⟨a,b',k TO (by simp) _ hTO⟩,h1.at fun o e=>k i1 (by simp) o e,h2.at fun o e=>k i2 (by simp) o e⟩
 item:=by
  intro X hP hw hK hc i pins s σ H E I hf st hg;subst hP hw hK;obtain⟨xs,ys,x,y,q1,q2,hx,hy⟩:=hg;obtain⟨its1,rv1,p1,hz1⟩:=I.list q1;obtain⟨its2,rv2,p2,hz2⟩:=I.list q2;obtain⟨u1,hu1,ru1⟩:=rv1.get hx;obtain⟨u2,hu2,ru2⟩:=rv2.get hy;obtain⟨hz,hTI,⟨a,b',hTO⟩,h1,h2⟩:=st;refine wpAny_pyNext_zip_item D hz hTI hTO h1 h2 p1.isList p2.isList (x:=u1) (y:=u2) (by simpa using hu1) (by simpa using hu2) fun h' a1 a2 a3 a4 a5 a6 hk=>?_;have new:cW X.prog X.w (upd H s.heap.objs.size (.tup [x,y])) h' s.heap.objs.size (.tup [x,y]):=⟨by show 2<=AM;decide,[u1,u2],.cons ru1 (.cons ru2 .nil),_,a5,rfl,_,rfl⟩;have I1:Inv X pins σ (upd H s.heap.objs.size (.tup [x,y])) { s with heap:=h' }:=I.Ox (t':=s.toks) (ch:=[z,TO,i1,i2]) (fun b hb=>hf b (by
   simp only[BB,Cs,or_false] at hb |-;rcases hb with r|r|r|r <;> simp [r]))
   (fun b o hb e=>hk b o (fun q=>hb (by simp [q])) (fun q=>hb (by simp [q])) (fun q=>hb (by simp [q])) (fun q=>hb (by simp [q])) e) (AY _) new
  have hTI':ES h' TI (.ref i1) (.ref i2):=hk _ _ D.TIz D.TITO D.TIi1 D.TIi2 hTI;have hsz:∀b,b∈[z,TI,TO,i1,i2]->b≠s.heap.objs.size:=fun b hb=>by
   obtain⟨_,_,hlt,_⟩:=hf b hb;have lt:∃o,s.heap.get? b=some o:=by
    simp only[BB,Cs,or_false] at hb;rcases hb with rfl|rfl|rfl|rfl|rfl
    ·exact⟨_,hz⟩
    ·exact⟨_,hTI⟩
    ·exact⟨_,hTO⟩
    ·obtain⟨o,e,_⟩:=h1;exact⟨o,e⟩
    obtain⟨o,e,_⟩:=h2;exact⟨o,e⟩
   obtain⟨o,e⟩:=lt;exact B4 (AZ e)
  refine⟨_,rfl,wpAny_letOwnedTupleGo_zip (s:={ s with heap:=h' }) a1 fun h'' z2 sb=>?_⟩;have fz:=hf z (by simp);have I2:Inv X pins σ (upd H s.heap.objs.size (.tup [x,y])) { s with heap:=h'' }:=Inv.turned (s:={ s with heap:=h' }) (it:=z) (t':=s.toks) I1 (fun b o hb e=>(sb.2 b hb).trans e) (by rw[aF (hsz z (by simp))];exact fz.1) fz.2.1 fz.2.2.2.1 fz.2.2.2.2.1 fz.2.2.2.2.2;refine⟨.ref s.heap.objs.size,_,I2,rfl,⟨_,x,y,rfl,I.fresh,rfl,fun xs' q=>by rw[I.tQ q q1];exact hx,fun ys' q=>by rw[I.tQ q q2];exact hy⟩,
   ⟨z2,(sb.2 _ D.TIz).trans hTI',⟨_,_,(sb.2 _ D.TOz).trans a2⟩,a3.extBut sb.extBut D.i1z,a4.extBut sb.extBut D.i2z⟩,fun b hb=>by rw[aF (hsz b hb)];exact(hf b hb).1⟩
 done:=by
  intro X hP hw hK hc i pins s σ H E I hf st hg;subst hP hw hK;obtain⟨xs,ys,q1,q2,hx⟩:=hg;obtain⟨its1,rv1,p1,hz1⟩:=I.list q1;obtain⟨its2,rv2,p2,hz2⟩:=I.list q2;obtain⟨hz,hTI,⟨a,b',hTO⟩,h1,h2⟩:=st;have hend:its1.toArray[i]?=none\/its2.toArray[i]?=none:=by
   rcases hx with r|r
   ·exact .inl (by simpa using rv1.none_of r)
   exact .inr (by simpa using rv2.none_of r)
  refine wpAny_pyNext_zip_end (I.ok.hd hc) D hz hTI hTO h1 h2 p1.isList p2.isList hend fun h' hk=>⟨rfl,?_⟩;exact I.Oz (t':=s.toks) (ch:=[z,TO,i1,i2]) (fun b hb=>hf b (by
   simp only[BB,Cs,or_false] at hb |-;rcases hb with r|r|r|r <;> simp [r]))
   (fun b o hb e=>hk b o (fun q=>hb (by simp [q])) (fun q=>hb (by simp [q])) (fun q=>hb (by simp [q])) (fun q=>hb (by simp [q])) e)
 self:=fun _ _ _ _ _ st h=>LJ st.1 h
def Ite (K:AC)(a:Addr):It:=
 ⟨fun i H=>∃xs x,SqL K H a xs/\xs[i]?=some x,
  fun i H v H'=>∃p x,v=.ref p/\H p=none/\H'=upd H p (.tup [.int (i:Nat),x])/\∀xs,SqL K H a xs->xs[i]?=some x,
  fun i H=>∃xs,SqL K H a xs/\xs[i]?=none⟩
theorem Lg {P:AW}{w:BC}{K:AC}{es:List Expr}{kk:Nat}{tpos:Pos}{e it l:Addr}(hne:e≠it) :
  Turn P w K (.Tuple es kk tpos) (Ite K l) [e,it] e (fun i h=>(∃old,IsEnum h e it ((i:Nat):Int) old)/\h.IsListIter it l i) where
 mem:=by simp
 obj:=fun i h st b hb=>by
  obtain⟨⟨old,he⟩,⟨o1,e1,c1,d1⟩⟩:=st;simp only[BB,Cs,or_false] at hb;rcases hb with rfl|rfl
  ·exact⟨_,he,fun v q=>by cases q⟩
  exact⟨o1,e1,fun v q=>by rw[d1] at q;cases q⟩
 keep:=fun i h h' st k=>by
  obtain⟨⟨old,he⟩,h1⟩:=st;exact⟨⟨old,k e (by simp) _ he⟩,h1.at fun o q=>k it (by simp) o q⟩
 item:=by
  intro X hP hw hK hc i pins s σ H E I hf st hg;subst hP hw hK;obtain⟨xs,x,q1,hx⟩:=hg;obtain⟨its1,rv1,p1,hz1⟩:=I.list q1;obtain⟨u1,hu1,ru1⟩:=rv1.get hx;obtain⟨⟨old,he⟩,h1⟩:=st;refine wpAny_pyNext_enum_item he h1 p1.isList (x:=u1) (by simpa using hu1) hne fun h' a1 a2 a3 a4 hk=>?_;have new:cW X.prog X.w (upd H s.heap.objs.size (.tup [.int (i:Nat),x])) h' s.heap.objs.size (.tup [.int (i:Nat),x]):=⟨by show 2<=AM;decide,[.int (i:Nat) s.toks,u1],.cons ⟨_,rfl⟩ (.cons ru1 .nil),_,a3,rfl,_,rfl⟩;have I1:Inv X pins σ (upd H s.heap.objs.size (.tup [.int (i:Nat),x])) { s with heap:=h',toks:=s.toks+1 }:=I.Ox (ch:=[e,it]) hf
   (fun b o hb q=>hk b o (fun z=>hb (by simp [z])) (fun z=>hb (by simp [z])) q) (AY _) new
  have hsz:∀b,b∈[e,it]->b≠s.heap.objs.size:=fun b hb=>by
   have lt:∃o,s.heap.get? b=some o:=by
    simp only[BB,Cs,or_false] at hb;rcases hb with rfl|rfl
    ·exact⟨_,he⟩
    obtain⟨o,q,_⟩:=h1;exact⟨o,q⟩
   obtain⟨o,q⟩:=lt;exact B4 (AZ q)
  refine⟨_,rfl,wpAny_letOwnedTupleGo_enum (s:={ s with heap:=h',toks:=s.toks+1 }) a1 fun h'' z2 sb=>?_⟩;have fz:=hf e (by simp);have I2:Inv X pins σ (upd H s.heap.objs.size (.tup [.int (i:Nat),x])) { s with heap:=h'',toks:=s.toks+1 }:=Inv.turned (s:={ s with heap:=h',toks:=s.toks+1 }) (it:=e) I1 (fun b o hb q=>(sb.2 b hb).trans q) (by rw[aF (hsz e (by simp))];exact fz.1) fz.2.1 fz.2.2.2.1 fz.2.2.2.2.1 fz.2.2.2.2.2;refine⟨.ref s.heap.objs.size,_,I2,rfl,⟨_,x,rfl,I.fresh,rfl,fun xs' q=>by rw[I.tQ q q1];exact hx⟩,
   ⟨⟨_,by simpa using z2⟩,a2.extBut sb.extBut hne.symm⟩,fun b hb=>by rw[aF (hsz b hb)];exact(hf b hb).1⟩
 done:=by
  intro X hP hw hK hc i pins s σ H E I hf st hg;subst hP hw hK;obtain⟨xs,q1,hx⟩:=hg;obtain⟨its1,rv1,p1,hz1⟩:=I.list q1;obtain⟨⟨old,he⟩,h1⟩:=st;refine wpAny_pyNext_enum_end (I.ok.hd hc) he h1 p1.isList (by simpa using rv1.none_of hx) fun h' hk=>⟨rfl,?_⟩;exact I.Oz (t':=s.toks) (ch:=[e,it]) hf (fun b o hb q=>hk b o (fun z=>hb (by simp [z])) q)
 self:=fun _ _ _ _ _ st h=>by
  obtain⟨⟨old,he⟩,_⟩:=st;exact wpAny_pyIter_enum he h
def xZ (K:AC)(ta:TA):TI:=fun σ H R=>ta σ H fun vs H1=>∃a,vs=[.ref a]/\(∃xs,SqL K H1 a xs)/\R (Ite K a) H1
section
variable {X:Cx}
theorem WN {es:List Expr}{kk:Nat}{tpos:Pos}{a:Expr}{ta:TA}{p pos:Pos}(hg:Gl X "enumerate") (hm:X.mg "enumerate" = none) (ha:PA X [a] ta) (hs:AJ [a] X.env=[(false,eval a X.env)]:=by rfl) :
  PI X (.Tuple es kk tpos) (.Call (.Name "enumerate" p) [a] [] pos) (xZ X.K ta):=by
 intro pins s σ H R I h;refine Call_ (jV I hg hm PyProof.Rows.Boot.«enumerate» (CL (thA (ha pos pins s σ H _ I h) fun us s1 vs H1 I1 r1 q1=>?_) hs rfl));obtain⟨l1,e,⟨xs,g1⟩,q⟩:=q1;subst e;cases r1 with
 | cons r rr=>
  cases rr;cases r;obtain⟨its1,rv1,p1,hz1⟩:=I1.list g1;refine call_enumerate_list p1.isList fun h' b1 b2 b3 hk=>?_;refine wpAny_pyIter_enum (s:={ s1 with heap:=h' }) b1 ?_;have I2:Inv X pins σ H1 { s1 with heap:=h' }:=I1.kept (t':=s1.toks) hk;refine⟨_,_,_,_,H1,rfl,I2,Lg (ne_of_gt (EK _)),⟨⟨_,b1⟩,b2⟩,fun b hb=>?_,q⟩;have hle:s1.heap.objs.size<=b:=by
   simp only[BB,Cs,or_false] at hb;rcases hb with rfl|rfl <;> simp
  exact I1.TY hle (I1.hok.fresh hle)
end
theorem Vals.bools:∀{bs:List Bool}{us:List Ap},Vals (bs.map V.bl) us->us=bs.map Ap.bool
 | [],_,.nil=>rfl
 | _::_,_,.cons r t=>by rw[Vals.bools t,(show _=Ap.bool _ from r)];rfl
section
variable {X:Cx}
theorem Oc (bs:List Bool):((BS bs.length).all fun i=>(bs[i]?).getD true)=bs.all id:=by
 rw[D3,Lc,Lc];constructor
 ·intro h b hb;obtain⟨i,hi,rfl⟩:=MY hb;have:=h i (DL.mpr hi);rw[AR hi] at this;exact this
 intro h i hi;have hi':=DL.mp hi;rw[AR hi'];exact h _ (ME hi')
theorem Ob (bs:List Bool):((BS bs.length).any fun i=>(bs[i]?).getD false)=bs.any id:=by
 rw[D3,EM,EM];constructor
 ·intro⟨i,hi,h⟩;have hi':=DL.mp hi;rw[AR hi'] at h;exact⟨_,ME hi',h⟩
 intro⟨b,hb,h⟩;obtain⟨i,hi,rfl⟩:=MY hb;exact⟨i,DL.mpr hi,by rw[AR hi];exact h⟩
def Qs (K:AC)(f:List Bool->Bool):List V->Hp->VK->Prop:=fun xs H Q=>∃p bs,xs=[.ref p]/\SqL K H p (LL V.bl bs)/\Q (.bl (f bs)) H
theorem Uq (hc:X.calm=true):dw X (.builtin "all") (Qs X.K fun bs=>bs.all id):=by
 intro pins s σ H xs us Q I r h;obtain⟨p,bs,rfl,hq,q⟩:=h;cases r with
 | cons r rr=>
  cases rr;cases r;obtain⟨its,rv,pl,hz⟩:=I.list hq;have e:=rv.bools;subst e;have lt:p<s.heap.objs.size:=by obtain⟨_,e,_⟩:=pl.isList;exact AZ e
  refine call_all_walk (HQ pl.isList ?_);refine⟨s.heap.objs.size,[s.heap.objs.size,p],[s.heap.objs.size],(bs.map Ap.bool).toArray.size,_,_,fun i=>(bs[i]?).getD true,rfl,Walks.list (A:=X.A.in1) (I.ok.hd hc) _ p (B4 lt) _,
   ⟨⟨_,A8 _ rfl,rfl,rfl⟩,pl.isList.push _⟩,fun i v s' Q' E' hP hQ=>?_,fun h' tk hk=>?_⟩
  ·have e:(bs.map Ap.bool)[i]?=some v:=by simpa using hP
   rw[BH] at e;cases z:bs[i]? with
   | none=>rw[z] at e;cases e
   | some b=>
    rw[z] at e;have e':Ap.bool b=v:=B7 e;subst e';dsimp only at hQ;rw[z] at hQ;exact Da hQ
  rw[Bz,AV,Oc];refine⟨.bl _,H,I.kept fun b o e=>hk b o (fun hm=>?_) (AD _ e),rfl,q⟩;rw[AK.mp hm] at e;exact Db _ (AZ e)
theorem Uo (hc:X.calm=true):dw X (.builtin "any") (Qs X.K fun bs=>bs.any id):=by
 intro pins s σ H xs us Q I r h;obtain⟨p,bs,rfl,hq,q⟩:=h;cases r with
 | cons r rr=>
  cases rr;cases r;obtain⟨its,rv,pl,hz⟩:=I.list hq;have e:=rv.bools;subst e;have lt:p<s.heap.objs.size:=by obtain⟨_,e,_⟩:=pl.isList;exact AZ e
  refine call_any_walk (HQ pl.isList ?_);refine⟨s.heap.objs.size,[s.heap.objs.size,p],[s.heap.objs.size],(bs.map Ap.bool).toArray.size,_,_,fun i=>(bs[i]?).getD false,rfl,Walks.list (A:=X.A.in1) (I.ok.hd hc) _ p (B4 lt) _,
   ⟨⟨_,A8 _ rfl,rfl,rfl⟩,pl.isList.push _⟩,fun i v s' Q' E' hP hQ=>?_,fun h' tk hk=>?_⟩
  ·have e:(bs.map Ap.bool)[i]?=some v:=by simpa using hP
   rw[BH] at e;cases z:bs[i]? with
   | none=>rw[z] at e;cases e
   | some b=>
    rw[z] at e;have e':Ap.bool b=v:=B7 e;subst e';dsimp only at hQ;rw[z] at hQ;exact Da hQ
  rw[Bz,AV,Ob];refine⟨.bl _,H,I.kept fun b o e=>hk b o (fun hm=>?_) (AD _ e),rfl,q⟩;rw[AK.mp hm] at e;exact Db _ (AZ e)
def acM (K:AC):List V->Hp->VK->Prop:=fun xs H Q=>∃x T t b,xs=[x,.ty T]/\qI K H x t/\E9 K t (.type T)=some b/\Q (.bl b) H
theorem Um:dw X (.builtin "isinstance") (acM X.K):=by
 intro pins s σ H xs us Q I r h;obtain⟨x,T,t,b,rfl,ty,e,q⟩:=h;cases r with
 | cons r rr=>
  cases rr with
  | cons r' rr=>
   cases rr;cases (show _=Ap.type T from r');exact Ni I r ty e fun tk=>⟨.bl b,H,I.tok tk,rfl,q⟩
def abW (K:AC):List V->Hp->VK->Prop:=fun xs H Q=>∃x p Ts t b,xs=[x,.ref p]/\SqT K H p (LL V.ty Ts)/\qI K H x t/\PySem.W.kitAny K t (Ts.map Ap.type)=some b/\Q (.bl b) H
theorem Vals.types:∀{bs:List String}{us:List Ap},Vals (bs.map V.ty) us->us=bs.map Ap.type
 | [],_,.nil=>rfl
 | _::_,_,.cons r t=>by rw[Vals.types t,(show _=Ap.type _ from r)];rfl
theorem acT {x:V}{u t:Ap}{pins:List (Addr×Obj)}{σ:St}{H:Hp}{s:AA}(I:Inv X pins σ H s)(rx:RelV x u)(ty:qI X.K H x t)(hl:∀a C dx fs,H a=some (.ins C dx fs)->x≠.ref a) :
  ∃Hh:Heap->Prop,PySem.W.KitX X.K u t Hh/\Hh s.heap/\u≠.builtin "__main__.__loader__#opaque" := by
 cases ty with
 | non=>cases (show u=Ap.none from rx);exact⟨_,PySem.W.kitx_none,F6,fun z=>nomatch z⟩
 | bl y=>cases (show u=Ap.bool y from rx);exact⟨_,PySem.W.kitx_bool,F6,fun z=>nomatch z⟩
 | int i=>obtain⟨t,q⟩:=(show ∃t,u=Ap.int i t from rx);cases q;exact⟨_,PySem.W.kitx_int,F6,fun z=>nomatch z⟩
 | str y=>obtain⟨t,q⟩:=(show ∃t,u=Ap.str y t from rx);cases q;exact⟨_,PySem.W.kitx_str,F6,fun z=>nomatch z⟩
 | flt y=>obtain⟨t,q⟩:=(show ∃t,u=Ap.float y t from rx);cases q;exact⟨_,PySem.W.kitx_float,F6,fun z=>nomatch z⟩
 | @lst a xs ea=>
  cases (show u=Ap.ref a from rx);obtain⟨_,_,n,_,h1⟩:=(show cW X.prog X.w H s.heap a (.lst xs) from I.hok a _ ea);exact⟨_,KW,⟨_,h1,rfl⟩,fun z=>nomatch z⟩
 | @frz a ob xs ea=>
  cases (show u=Ap.ref a from rx);obtain⟨_,_,_,n,_,h1⟩:=(show cW X.prog X.w H s.heap a (.frz ob (.lst xs)) from I.hok a _ ea);exact⟨_,KW,⟨_,h1,rfl⟩,fun z=>nomatch z⟩
 | @tup a xs ea=>
  cases (show u=Ap.ref a from rx);obtain⟨_,_,_,p⟩:=(show cW X.prog X.w H s.heap a (.tup xs) from I.hok a _ ea);obtain⟨o,h1,h2,_⟩:=p;exact⟨_,PySem.W.kitx_tuple,⟨o,h1,h2⟩,fun z=>nomatch z⟩
 | @dK a kvs ea=>
  cases (show u=Ap.ref a from rx);obtain⟨_,_,vs,_,p⟩:=(show cW X.prog X.w H s.heap a (.dK kvs) from I.hok a _ ea);obtain⟨o,es,ep,h1,h2,_⟩:=p;exact⟨_,K0,⟨o,h1,h2.1⟩,fun z=>nomatch z⟩
 | @dT a kvs ea=>
  cases (show u=Ap.ref a from rx);obtain⟨_,_,xs,_,o,es,ep,h1,h2,_⟩:=(show cW X.prog X.w H s.heap a (.dT kvs) from I.hok a _ ea);exact⟨_,K0,⟨o,h1,h2.1⟩,fun z=>nomatch z⟩
 | @ins a C dx fs ea cl ha hn htk hm=>exact absurd rfl (hl a C dx fs ea)
theorem NT:dw X (.builtin "isinstance") (fun xs H Q=>abW X.K xs H Q/\∀a C dx fs,H a=some (.ins C dx fs)->xs.head?≠some (.ref a)):=by
 intro pins s σ H xs us Q I r h;obtain⟨⟨x,p,Ts,t,b,rfl,hq,ty,e,q⟩,hl⟩:=h;cases r with
 | cons r rr=>
  cases rr with
  | cons r' rr=>
   cases rr;cases r';obtain⟨Hh,Z,hh,ne⟩:=acT I r ty fun a C dx fs z w'=>hl a C dx fs z (by rw[w'];rfl);obtain⟨its,rv,⟨o,ho,hcl,n,hd⟩,hz⟩:=I.tuple hq;have ei:=rv.types;subst ei;obtain⟨c0,d0,dt0,sl0⟩:=o;cases (show c0=Ap.type "tuple" from hcl);cases (show dt0=FS (LL Ap.type Ts).toArray n from hd);exact PySem.W.kia_tup Z I.kIn hh ho e ne fun tk=>⟨.bl b,H,I.tok tk,rfl,q⟩
end
inductive Tn (H:Hp):V->String->Prop where
 | non:Tn H .non "NoneType"
 | bl (b:Bool):Tn H (.bl b) "bool"
 | int (i:Int):Tn H (.int i) "int"
 | str (x:Str):Tn H (.str x) "str"
 | lst {a:Addr} {xs:List V} (e:H a=some (.lst xs)):Tn H (.ref a) "list"
 | tup {a:Addr} {xs:List V} (e:H a=some (.tup xs)):Tn H (.ref a) "tuple"
theorem Tn.ty {K:AC}{H:Hp}{x:V}{t:String}(h:Tn H x t):qI K H x (.type t):=by
 cases h with
 | non=>exact .non
 | bl b=>exact .bl b
 | int i=>exact .int i
 | str x=>exact .str x
 | lst e=>exact .lst e
 | tup e=>exact .tup e
def gM (t T:String):Bool:=t == T||(t == "bool" && T == "int")
def eF:List String:=["NoneType","bool","int","str","list","tuple"]
theorem Km (K:AC):∀t∈eF,∀T∈eF,E9 K (.type t) (.type T)=some (gM t T):=by
 intro t ht T hT;simp only[eF,BB,Cs,or_false] at ht hT;rcases ht with rfl|rfl|rfl|rfl|rfl|rfl <;> rcases hT with rfl|rfl|rfl|rfl|rfl|rfl <;> first|rfl|kernel_rfl
theorem Tn.known {H:Hp}{x:V}{t:String}(h:Tn H x t):t∈eF:=by cases h <;> decide
section
variable {X:Cx}
theorem N6:dw X (.builtin "isinstance") (fun xs H Q=>∃x T t,xs=[x,.ty T]/\Tn H x t/\T∈eF/\Q (.bl (gM t T)) H):=by
 intro pins s σ H xs us Q I r h;obtain⟨x,T,t,rfl,ty,hT,q⟩:=h;exact Um pins s σ H _ us Q I r ⟨x,T,_,_,rfl,ty.ty,Km X.K t ty.known T hT,q⟩
theorem Ko (K:AC){t:String}(ht:t∈eF):∀Ts:List String,(∀T∈Ts,T∈eF)->PySem.W.kitAny K (.type t) (Ts.map Ap.type)=some (Ts.any fun T=>gM t T)
 | [],_=>rfl
 | T::r,h=>by
  have e:=Km K t ht T (h T BE);have ih:=Ko K ht r fun T' h'=>h T' (A4 _ h');show(match E9 K (.type t) (.type T) with|some true=>some true|some false=>PySem.W.kitAny K (.type t) (r.map Ap.type)|none=>none)=_
  rw[e,any_cons];cases gM t T with
  | true=>rfl
  | false=>exact ih
theorem N5:dw X (.builtin "isinstance") (fun xs H Q=>∃x p Ts t,xs=[x,.ref p]/\H p=some (.tup (LL V.ty Ts))/\Tn H x t/\(∀T∈Ts,T∈eF)/\Q (.bl (Ts.any fun T=>gM t T)) H):=by
 intro pins s σ H xs us Q I r h;obtain⟨x,p,Ts,t,rfl,hp,ty,hT,q⟩:=h;refine NT pins s σ H _ us Q I r ⟨⟨x,p,Ts,_,_,rfl,SqT.of hp,ty.ty,Ko X.K ty.known Ts hT,q⟩,fun a C dx fs e z=>?_⟩;have z':x=.ref a:=by simpa using z
 subst z';cases ty with
 | lst e'=>rw[e] at e';cases e'
 | tup e'=>rw[e] at e';cases e'
def Zw (i j:Int):Prop:=0<j/\j<2^70
theorem Eo:OpR X (Fk .FloorDiv) (rI Zw fun i j=>.int (i/j)):=opI fun i j _ _ _ _ _ hc q=>by
 have h1:(0:Int)<j:=hc.1;have h2:j<2^70:=hc.2;refine floordiv_int ω (by rw[Int.fdiv_eq_ediv_of_nonneg i ω];exact q) (.inl (PyProof.noPylong_of_log2 ?_));have h3:j.natAbs≠0:=ω;have h4:j.natAbs.log2<70:=(log2_lt h3).mpr ω;omega
end
def dW (p:Addr)(H H':Hp):Prop:=∀b o,b≠p->H b=some o->H' b=some o
theorem dW.trans {p:Addr}{H H1 H2:Hp}(a:dW p H H1)(b:dW p H1 H2):dW p H H2:=fun c o n h=>b c o n (a c o n h)
theorem dW.upd {p:Addr}{H:Hp}{o:HO}:dW p H (upd H p o):=fun b u n h=>by rw[aF n];exact h
theorem Same.x {p:Addr}{H H':Hp}(h:Same H H'):dW p H H':=fun b o _ q=>h b o q
theorem aA {H:Hp}{p:Addr}{o:HO}(h:H p=none):Same H (upd H p o):=fun b u q=>by rw[aF (aG q h)];exact q
structure Cal (P:AW)(w:BC)(K:AC)(mg:Str->Option Ap)(base:Heap)(x:Str)(k:Nat)(ps:List Str)(sp:Sp):Prop where
 ex:∃(f:Addr)(fd:Dx),cU P w K mg base CX0 k f fd ps sp/\Binds K fd ps []/\keepIn K (.ref f)=true/\mg x=some (.ref f)
section
variable {X:Cx}{k:Nat}{ps:List Str}{sp:Sp}{x:Str}{p pos:Pos}{e:Expr}{es:List Expr}{t:TA}
theorem aaE (C:Cal X.prog X.w X.K X.mg X.base x k ps sp) (hr:fK k X.A) (hg:Gl X x) (ha:PA X (e::es) t) (hdb:(x == ("__debug__" : Str))=false:=by decide)
  (he:AJ (e::es) X.env=(false,eval e X.env)::AJ es X.env:=by rfl) (hpl:(C8 pos (AJ es X.env)).any (·.1)=false:=by rfl):PE X (.Call (.Name x p) (e::es) [] pos) (lG sp [] E0 t):=by
 obtain⟨f,fd,F,b,kp,hm⟩:=C.ex;exact J9 F hr hg hm kp b .nil acd ha hdb he hpl
end
structure Om (K:AC)(mg:Str->Option Ap)(x:Str)(st:Stmt)(ps:List Str)(f:Addr)(fd:Dx):Prop where
 fn:Fun K x x st f fd
 bd:Binds K fd ps []
 nm:mg x=some (.ref f)
theorem Om.cal {P:AW}{w:BC}{K:AC}{mg:Str->Option Ap}{base:Heap}{x:Str}{st:Stmt}{ps:List Str}{f:Addr}{fd:Dx}{k:Nat}{sp:Sp}(D:Om K mg x st ps f fd)(F:cU P w K mg base CX0 k f fd ps sp):Cal P w K mg base x k ps sp:=
 ⟨f,fd,F,D.bd,D.fn.kp,D.nm⟩
theorem gG {k:Nat}(h:k<=40):(2:Int)^k<=1099511627776:=by
 have h1:(2:Nat)^k<=2^40:=B6 δ h;have h2:((2^k:Nat):Int)=(2:Int)^k:=by simp
 have h3:(2:Nat)^40=1099511627776:=by decide
 omega
theorem Qf (i j:Int):Lx (.int i) (.int j)=true:=rfl
theorem VF (i j:Bool):Lx (.bl i) (.bl j)=true:=rfl
theorem Qd (i j:Str):Lx (.str i) (.str j)=true:=rfl
theorem Qe:Lx .non .non=true:=rfl
theorem K8 {α:Type}(a:α)(r:List α):atI (a::r) 0=some a:=fZ (j:=0) rfl
theorem U5 {α:Type}(a b:α)(r:List α):atI (a::b::r) 1=some b:=fZ (j:=1) rfl
theorem acz {α:Type}(a b c:α)(r:List α):atI (a::b::c::r) 2=some c:=fZ (j:=2) rfl
theorem S6:ixN 3 0=some 0/\ixN 3 1=some 1/\ixN 3 2=some 2:=⟨δ,δ,δ⟩
theorem aO {n:Nat}(h:n<=1000000):n<=AM:=BN h δ
def ixq (o:Option HO)(i:Int)(H:Hp)(Q:VK):Prop:=match o with
 | some (.lst xs)=>∃v,atI xs i=some v/\Q v H
 | some (.tup xs)=>∃v,atI xs i=some v/\Q v H
 | _=>False
def stq (o:Option HO)(p:Addr)(k:Int)(v:V)(H:Hp)(Q:Hp->Prop):Prop:=match o with
 | some (.lst xs)=>∃j,ixN xs.length k=some j/\Q (upd H p (.lst (xs.set j v)))
 | _=>False
def lnq (o:Option HO)(H:Hp)(Q:VK):Prop:=match o with
 | some (.lst ys)=>Q (.int ys.length) H
 | some (.tup ys)=>Q (.int ys.length) H
 | _=>False
def Hr:R2:=fun x y H Q=>match x,y with
 | .ref p,.int i=>ixq (H p) i H Q
 | _,_=>False
def Qq:V->V->V->Hp->(Hp->Prop)->Prop:=fun o i v H Q=>match o,i with
 | .ref p,.int k=>stq (H p) p k v H Q
 | _,_=>False
def Qy:List V->Hp->VK->Prop:=fun xs H Q=>match xs with
 | [.ref p]=>lnq (H p) H Q
 | _=>False
theorem Qz (p:Addr)(i:Int)(H:Hp)(Q:VK):Hr (.ref p) (.int i) H Q=ixq (H p) i H Q:=rfl
theorem Mh (p:Addr)(k:Int)(v:V)(H:Hp)(Q:Hp->Prop):Qq (.ref p) (.int k) v H Q=stq (H p) p k v H Q:=rfl
theorem Mi (p:Addr)(H:Hp)(Q:VK):Qy [.ref p] H Q=lnq (H p) H Q:=rfl
theorem Vx (xs:List V)(p:Addr)(k:Int)(v:V)(H:Hp)(Q:Hp->Prop):stq (some (.lst xs)) p k v H Q=∃j,ixN xs.length k=some j/\Q (upd H p (.lst (xs.set j v))):=rfl
theorem Xy (xs:List V)(H:Hp)(Q:VK):lnq (some (.lst xs)) H Q=Q (.int xs.length) H:=rfl
theorem Xx (xs:List V)(H:Hp)(Q:VK):lnq (some (.tup xs)) H Q=Q (.int xs.length) H:=rfl
section
variable {X:Cx}
theorem bY:IxR X Hr:=by
 intro value slice pins s σ H x y v u Q I rx ry h hs;unfold Hr at h;split at h
 ·rename_i p i;unfold ixq at h;split at h
  ·rename_i xs e;obtain⟨z,hz,q⟩:=h;exact Kp value slice pins s σ H _ _ v u Q I rx ry ⟨p,xs,i,z,rfl,rfl,SqL.of e,hz,q⟩ hs
  ·rename_i xs e;obtain⟨z,hz,q⟩:=h;exact abh value slice pins s σ H _ _ v u Q I rx ry ⟨p,xs,i,z,rfl,rfl,SqT.of e,hz,q⟩ hs
  exact h.elim
 exact h.elim
theorem JX:Vd X Qq:=by
 intro pins s σ H o i v ov iv u Q I ro ri rv h;unfold Qq at h;split at h
 ·rename_i p k;unfold stq at h;split at h
  ·rename_i xs e;obtain⟨j,hj,q⟩:=h;exact set_list pins s σ H _ _ v ov iv u Q I ro ri rv ⟨p,xs,k,j,rfl,rfl,e,hj,q⟩
  exact h.elim
 exact h.elim
theorem j7:dw X (.builtin "len") Qy:=by
 intro pins s σ H xs us Q I r h;unfold Qy at h;split at h
 ·rename_i p;unfold lnq at h;split at h
  ·rename_i ys e;exact jx pins s σ H _ us Q I r ⟨p,ys,rfl,.inl (SqL.of e),h⟩
  ·rename_i ys e;exact jx pins s σ H _ us Q I r ⟨p,ys,rfl,.inr (SqT.of e),h⟩
  exact h.elim
 exact h.elim
end
def QL:List V->Hp->VK->Prop:=fun xs H Q=>match xs with
 | [.int i]=>Q (.int i) H
 | [.bl k]=>Q (.int (if k then 1 else 0)) H
 | _=>False
theorem V2 (k:Bool)(H:Hp)(Q:VK):QL [.bl k] H Q=Q (.int (if k then 1 else 0)) H:=rfl
theorem m8 {X:Cx}:dw X (.type "int") QL:=by
 intro pins s σ H xs us Q I r h;unfold QL at h;split at h
 ·exact Av pins s σ H _ us Q I r (.inl ⟨_,rfl,h⟩)
 ·exact Av pins s σ H _ us Q I r (.inr ⟨_,rfl,h⟩)
 exact h.elim
theorem aK {t u:TS}{D:Ends}{σ:St}{H:Hp}(h:∀k,k=u D->t { D with nx:=k } σ H):GZ t u D σ H:=h _ rfl
theorem jr {wi:TI}{g:TG}{tb:TS}{D:Ends}{σ:St}{H:Hp}(h:∀R:It->Hp->Prop,R=(fun J H1=>∃W:Nat->Nat->St->Hp->Prop,(∃m,W 0 m σ H1)/\∀i m σ H,W i m σ H ->
  (J.stop i H/\D.nx σ H)\/(J.go i H/\∃N:St->Hp->Prop,(∀σ' H',N σ' H'->∃m',m'<m/\W (i+1) m' σ' H')/\∀x H',J.yld i H x H'->g x σ H' fun σ2 H2=>tb { D with nx:=N,ct:=N,bk:=D.nx } σ2 H2))->wi σ H R):Vv wi g tb D σ H:=h _ rfl
theorem yu {lo:Int}{n:Nat}{g:TG}{tb:TS}{D:Ends}{σ:St}{H:Hp}{R:It->Hp->Prop}(hR:R=(fun J H1=>∃W:Nat->Nat->St->Hp->Prop,(∃m,W 0 m σ H1)/\∀i m σ H,W i m σ H ->
  (J.stop i H/\D.nx σ H)\/(J.go i H/\∃N:St->Hp->Prop,(∀σ' H',N σ' H'->∃m',m'<m/\W (i+1) m' σ' H')/\∀x H',J.yld i H x H'->g x σ H' fun σ2 H2=>tb { D with nx:=N,ct:=N,bk:=D.nx } σ2 H2)))
  (Pv:Nat->St->Hp->Prop) (h0:Pv 0 σ H) (hs:∀i σ H,i<n->Pv i σ H->g (.int (lo+i)) σ H fun σ2 H2=>tb { D with nx:=Pv (i+1),ct:=Pv (i+1),bk:=D.nx } σ2 H2) (hd:∀σ H,Pv n σ H->D.nx σ H):R (Itr lo n) H:=by
 subst hR;exact Nt Pv h0 hs hd
theorem yw {K:AC}{a:Addr}{xs:List V}{g:TG}{tb:TS}{D:Ends}{σ:St}{H:Hp}{R:It->Hp->Prop}(hR:R=(fun J H1=>∃W:Nat->Nat->St->Hp->Prop,(∃m,W 0 m σ H1)/\∀i m σ H,W i m σ H ->
  (J.stop i H/\D.nx σ H)\/(J.go i H/\∃N:St->Hp->Prop,(∀σ' H',N σ' H'->∃m',m'<m/\W (i+1) m' σ' H')/\∀x H',J.yld i H x H'->g x σ H' fun σ2 H2=>tb { D with nx:=N,ct:=N,bk:=D.nx } σ2 H2)))
  (Pv:Nat->St->Hp->Prop) (h0:Pv 0 σ H) (hl:∀i σ H,i<=xs.length->Pv i σ H->SqL K H a xs) (hs:∀i x σ H,xs[i]?=some x->Pv i σ H->g x σ H fun σ2 H2=>tb { D with nx:=Pv (i+1),ct:=Pv (i+1),bk:=D.nx } σ2 H2) (hd:∀σ H,Pv xs.length σ H->D.nx σ H):R (Itl K a) H:=by
 subst hR;exact T3 Pv h0 hl hs hd
def Gw (mp:List (Option Nat))(g:TG)(tc:TT)(te:TE)(σ:St)(Q:VK)(J:It)(H1:Hp):Prop:=∃W:Nat->Nat->List V->St->Hp->Prop,(∃m,W 0 m [] (jq mp σ) H1)/\∀i m acc τ H2,W i m acc τ H2 ->
  (J.stop i H2/\∀d,H2 d=none->Q (.ref d) (upd H2 d (.lst acc))) \/
  (J.go i H2/\acc.length<AM/\∃N:List V->St->Hp->Prop,(∀acc' τ' H',N acc' τ' H'->∃m',m'<m/\W (i+1) m' acc' τ' H')/\∀x H3,J.yld i H2 x H3->g x τ H3 fun τ1 H4=>tc τ1 H4 fun b H5=>
   if b=true then te τ1 H5 fun v H6=>N (acc++[v]) τ1 H6 else N acc τ1 H5)
theorem gC {mp:List (Option Nat)}{wi:TI}{g:TG}{tc:TT}{te:TE}{σ:St}{H:Hp}{Q:VK}(h:∀R:It->Hp->Prop,R=Gw mp g tc te σ Q->wi σ H R):zQ mp wi g tc te σ H Q:=h _ rfl
theorem ur {J:It}{mp:List (Option Nat)}{g:TG}{tc:TT}{te:TE}{σ:St}{H:Hp}{Q:VK}{R:It->Hp->Prop}(hR:R=Gw mp g tc te σ Q)(n:Nat)(hz:n<=AM)(Pv:Nat->List V->St->Hp->Prop)(h0:Pv 0 [] (jq mp σ) H)
  (hl:∀i acc τ H,Pv i acc τ H->acc.length<=i) (hgo:∀i acc τ H,i<n->Pv i acc τ H->J.go i H) (hst:∀acc τ H,Pv n acc τ H->J.stop n H)
  (hs:∀i acc τ H x H3,i<n->Pv i acc τ H->J.yld i H x H3->g x τ H3 fun τ1 H4=>tc τ1 H4 fun b H5=>if b=true then te τ1 H5 fun v H6=>Pv (i+1) (acc++[v]) τ1 H6 else Pv (i+1) acc τ1 H5)
  (hd:∀acc τ H d,Pv n acc τ H->H d=none->Q (.ref d) (upd H d (.lst acc))):R J H:=by
 subst hR;refine⟨fun i m acc τ H2=>m=n-i/\i<=n/\Pv i acc τ H2,⟨_,rfl,D2 _,h0⟩,?_⟩;rintro i m acc τ H2 ⟨rfl,hi,p⟩;have q3:=hl i acc τ H2 p;by_cases hlt:i<n
 ·exact .inr ⟨hgo i acc τ H2 hlt p,ω,Pv (i+1),fun acc' τ' H' q=>⟨_,ω,rfl,hlt,q⟩,fun x H3 y=>hs i acc τ H2 x H3 hlt p y⟩
 have e:i=n:=ω;subst e;exact .inl ⟨hst acc τ H2 p,fun d hd'=>hd acc τ H2 d p hd'⟩
structure Nm (N:List Str)(sc:FA)(i:Nat)(x:Str):Prop where
 hN:N[i]?=some x
 hv:Loc sc x
 hd:(x == ("__debug__" : Str))=false
 hcd:(x == ("__classdict__" : Str))=false
def acj (N:List Str) (sc:FA) (i:Nat) (x:Str):Bool:=decide (N[i]?=some x)&&(decide (sc.names.lookup x=some .local)||decide (sc.names.lookup x=some .cell)) && !(x == ("__debug__" : Str)) && !(x == ("__classdict__" : Str))
theorem Nm.of {N:List Str}{sc:FA}{i:Nat}{x:Str}(h:acj N sc i x=true):Nm N sc i x:=by
 unfold acj at h;rw[C1,C1,C1,Bool.or_eq_true] at h;obtain⟨⟨⟨h1,h2⟩,h3⟩,h4⟩:=h;exact⟨of_decide_eq_true h1,h2.elim (fun z=>.inl (of_decide_eq_true z)) (fun z=>.inr (of_decide_eq_true z)),by simpa using h3,by simpa using h4⟩
structure Bn (x:Str):Prop where
 hn:x ≠ "__name__"
 hd:(x == ("__debug__" : Str))=false
section
variable {X:Cx}{i:Nat}{x:Str}{pos pos' p:Pos}{e:Expr}{es:List Expr}{te:TE}{t:TA}{k:Nat}{ps:List Str}{sp:Sp}{id T:String}{r:List V->Hp->VK->Prop}
theorem pn (n:Nm X.N X.env.scope i x):PE X (.Name x pos) (OJ i):=Rg n.hN (n.hv.elim .inl fun z=>.inr (.inl z)) n.hd n.hcd
theorem abZ (n:Nm X.N X.env.scope i x)(hN:X.N.Nodup)(he:PE X e te)(hs:Ix e (some (.Name x pos')) pos.line X.env=pure false:=by rfl)(hf:X.fn x=true\/X.env.scope.names.lookup x=some .local:=by exact .inl rfl) :
  PS X (.Assign [.Name x pos'] e pos) (vI te (jZ i)):=aap hN n.hN n.hv he hs hf
theorem ab1 (n:Nm X.N X.env.scope i x)(hN:X.N.Nodup)(hf:X.fn x=true\/X.env.scope.names.lookup x=some .local:=by exact .inl rfl):PG X (.Name x pos) (jZ i):=J8 hN n.hN n.hv hf
theorem ab6 (C:Cal X.prog X.w X.K X.mg X.base x k ps sp)(hr:fK k X.A)(hg:Gl X x)(hdb:Bn x)(ha:PA X (e::es) t)
  (he:AJ (e::es) X.env=(false,eval e X.env)::AJ es X.env:=by rfl) (hpl:(C8 pos (AJ es X.env)).any (·.1)=false:=by rfl):PE X (.Call (.Name x p) (e::es) [] pos) (lG sp [] E0 t):=
 aaE C hr hg ha hdb.hd he hpl
theorem ab7 (hc:dw X (.builtin id) r)(hg:Gl X x)(hm:X.mg x=none)(hv:D0 x=some (.builtin id))(b:Bn x)(ha:PA X (e::es) t)
  (he:AJ (e::es) X.env=(false,eval e X.env)::AJ es X.env:=by rfl) (hpl:(C8 pos (AJ es X.env)).any (·.1)=false:=by rfl):PE X (.Call (.Name x p) (e::es) [] pos) (tCB r t):=Ro hc hg hm hv ha b.hn b.hd he hpl
theorem ab5 (hc:dw X (.type T) r)(hg:Gl X x)(hm:X.mg x=none)(hv:D0 x=some (.type T))(b:Bn x)(ha:PA X (e::es) t)
  (he:AJ (e::es) X.env=(false,eval e X.env)::AJ es X.env:=by rfl) (hpl:(C8 pos (AJ es X.env)).any (·.1)=false:=by rfl):PE X (.Call (.Name x p) (e::es) [] pos) (tCB r t):=Mw hc hg hm hv ha b.hn b.hd he hpl
theorem ab8 (n:String)(hg:Gl X x)(hm:X.mg x=none)(hv:D0 x=some (.type n))(b:Bn x):PE X (.Name x pos) (tC (.ty n)):=W5 hg hm hv rfl b.hn b.hd
end
theorem rK:Bn "len" := ⟨ψ,ψ⟩
theorem Uu:Bn "abs" := ⟨ψ,ψ⟩
theorem Jr:Bn "min" := ⟨ψ,ψ⟩
theorem Us:Bn "max" := ⟨ψ,ψ⟩
theorem abA:Bn "all" := ⟨ψ,ψ⟩
theorem Ut:Bn "any" := ⟨ψ,ψ⟩
theorem aX:Bn "isinstance" := ⟨ψ,ψ⟩
theorem yH:Bn "int" := ⟨ψ,ψ⟩
theorem abz:Bn "sum" := ⟨ψ,ψ⟩
theorem Dd:Bn "list" := ⟨ψ,ψ⟩
theorem yG:Bn "tuple" := ⟨ψ,ψ⟩
theorem Jq:Bn "str" := ⟨ψ,ψ⟩
theorem Df:Bn "bool" := ⟨ψ,ψ⟩
theorem u9:Bn "sorted" := ⟨ψ,ψ⟩
theorem KZ:Bn "repr" := ⟨ψ,ψ⟩
def tyO:Option HO->Option String
 | some (.lst _)=>some "list"
 | some (.tup _)=>some "tuple"
 | _=>none
def tyN (x:V)(H:Hp):Option String:=match x with
 | .non=>some "NoneType"
 | .bl _=>some "bool"
 | .int _=>some "int"
 | .str _=>some "str"
 | .ref a=>tyO (H a)
 | _=>none
theorem Tn.of {x:V}{H:Hp}{t:String}(h:tyN x H=some t):Tn H x t:=by
 cases x with
 | non=>cases h;exact .non
 | bl b=>cases h;exact .bl b
 | int i=>cases h;exact .int i
 | str s=>cases h;exact .str s
 | ref a=>
  have h':tyO (H a)=some t:=h;cases e:H a with
  | none=>rw[e] at h';cases h'
  | some o=>
   rw[e] at h';cases o with
   | lst xs=>cases h';exact .lst e
   | tup xs=>cases h';exact .tup e
   | _=>cases h'
 | _=>cases h
def QK:List V->Hp->VK->Prop:=fun xs H Q=>match xs with
 | [x,.ty T]=>∃t,tyN x H=some t/\eF.contains T=true/\Q (.bl (gM t T)) H
 | _=>False
def i2q (o:Option HO)(x:V)(H:Hp)(Q:VK):Prop:=match o with
 | some (.tup [.ty T,.ty U])=>∃t,tyN x H=some t/\eF.contains T=true/\eF.contains U=true/\Q (.bl (gM t T||gM t U)) H
 | _=>False
def QF:List V->Hp->VK->Prop:=fun xs H Q=>match xs with
 | [x,.ref p]=>i2q (H p) x H Q
 | _=>False
theorem dU {X:Cx}:dw X (.builtin "isinstance") QK:=by
 intro pins s σ H xs us Q I r h;unfold QK at h;split at h
 ·obtain⟨t,e,k,q⟩:=h;exact N6 pins s σ H _ us Q I r ⟨_,_,t,rfl,Tn.of e,by simpa using k,q⟩
 exact h.elim
theorem NZ {X:Cx}:dw X (.builtin "isinstance") QF:=by
 intro pins s σ H xs us Q I r h;unfold QF at h;split at h
 ·rename_i x p;unfold i2q at h;split at h
  ·rename_i T U e;obtain⟨t,e1,k1,k2,q⟩:=h;refine N5 pins s σ H _ us Q I r ⟨x,p,[T,U],t,rfl,e,Tn.of e1,fun z hz=>?_,by simpa using q⟩;rcases BB.mp hz with rfl|hz
   ·simpa using k1
   obtain rfl:=AK.mp hz;simpa using k2
  exact h.elim
 exact h.elim
theorem QJ (x:V)(T:String)(H:Hp)(Q:VK):QK [x,.ty T] H Q=∃t,tyN x H=some t/\eF.contains T=true/\Q (.bl (gM t T)) H:=rfl
theorem QD (x:V)(p:Addr)(H:Hp)(Q:VK):QF [x,.ref p] H Q=i2q (H p) x H Q:=rfl
theorem abn (x:V)(T U:String)(H:Hp)(Q:VK):i2q (some (.tup [.ty T,.ty U])) x H Q=∃t,tyN x H=some t/\eF.contains T=true/\eF.contains U=true/\Q (.bl (gM t T||gM t U)) H:=rfl
theorem XH:eF.contains "list" = true:=by decide
theorem SQ:eF.contains "tuple" = true:=by decide
theorem abg:eF.contains "int" = true:=by decide
theorem abf:eF.contains "str" = true:=by decide
theorem kc_bool:eF.contains "bool" = true:=by decide
theorem ty_int (i:Int) (H:Hp):tyN (.int i) H=some "int" := rfl
theorem abQ (i:Bool) (H:Hp):tyN (.bl i) H=some "bool" := rfl
theorem ty_str (i:Str) (H:Hp):tyN (.str i) H=some "str" := rfl
theorem ZF (H:Hp):tyN .non H=some "NoneType" := rfl
theorem ZD (p:Addr)(H:Hp):tyN (.ref p) H=tyO (H p):=rfl
theorem Vm (xs:List V):tyO (some (.lst xs))=some "list" := rfl
theorem Vl (xs:List V):tyO (some (.tup xs))=some "tuple" := rfl
theorem vJ:gM "NoneType" "str" = false:=by decide
theorem uI:gM "NoneType" "list" = false:=by decide
theorem sJ:gM "NoneType" "tuple" = false:=by decide
theorem Bw:gM "bool" "bool" = true:=by decide
theorem Ec:gM "bool" "str" = false:=by decide
theorem Bv:gM "bool" "list" = false:=by decide
theorem zf:gM "bool" "tuple" = false:=by decide
theorem Eb:gM "int" "bool" = false:=by decide
theorem Hi:gM "int" "int" = true:=by decide
theorem Hg:gM "int" "str" = false:=by decide
theorem Ea:gM "int" "list" = false:=by decide
theorem Bu:gM "int" "tuple" = false:=by decide
theorem Hf:gM "str" "str" = true:=by decide
theorem DY:gM "str" "list" = false:=by decide
theorem Bs:gM "str" "tuple" = false:=by decide
theorem Bt:gM "list" "list" = true:=by decide
theorem zc:gM "list" "tuple" = false:=by decide
theorem zb:gM "tuple" "list" = false:=by decide
theorem wL:gM "tuple" "tuple" = true:=by decide
def gtq (o:Option HO)(n:Nat)(t:TGs)(σ:St)(H:Hp)(Q:St->Hp->Prop):Prop:=match o with
 | some (.tup xs)=>xs.length=n/\t xs σ H Q
 | _=>False
def Ku (n:Nat)(t:TGs):TG:=fun v σ H Q=>match v with
 | .ref a=>gtq (H a) n t σ H Q
 | _=>False
theorem Np (n:Nat)(t:TGs)(a:Addr)(σ:St)(H:Hp)(Q:St->Hp->Prop):Ku n t (.ref a) σ H Q=gtq (H a) n t σ H Q:=rfl
theorem Yi (xs:List V)(n:Nat)(t:TGs)(σ:St)(H:Hp)(Q:St->Hp->Prop):gtq (some (.tup xs)) n t σ H Q=(xs.length=n/\t xs σ H Q):=rfl
def qtq (o:Option HO)(f:List Bool->Bool)(H:Hp)(Q:VK):Prop:=match o with
 | some (.lst xs)=>∃bs,xs=LL V.bl bs/\Q (.bl (f bs)) H
 | _=>False
def sU (f:List Bool->Bool):List V->Hp->VK->Prop:=fun xs H Q=>match xs with
 | [.ref p]=>qtq (H p) f H Q
 | _=>False
theorem Ej (f:List Bool->Bool)(p:Addr)(H:Hp)(Q:VK):sU f [.ref p] H Q=qtq (H p) f H Q:=rfl
theorem Wb (f:List Bool->Bool)(xs:List V)(H:Hp)(Q:VK):qtq (some (.lst xs)) f H Q=∃bs,xs=LL V.bl bs/\Q (.bl (f bs)) H:=rfl
section
variable {X:Cx}{es:List Expr}{k:Nat}{t:TGs}{n:Nat}{pos:Pos}
theorem WR (hc:X.calm=true)(h:PGs X es t)(hn:(D6 es X.env).length=n:=by rfl)(hst:(D6 es X.env).findIdx? (·.1)=none:=by rfl):PG X (.Tuple es k pos) (Ku n t):=by
 intro pins s σ H v u Q I r hw;unfold Ku at hw;split at hw
 ·rename_i a;unfold gtq at hw;split at hw
  ·rename_i xs e;exact aaw hc h hn hst pins s σ H _ u Q I r ⟨a,xs,rfl,SqT.of e,hw.1,hw.2⟩
  exact hw.elim
 exact hw.elim
theorem N8 (hc:X.calm=true):dw X (.builtin "all") (sU fun bs=>bs.all id):=by
 intro pins s σ H xs us Q I r h;unfold sU at h;split at h
 ·rename_i p;unfold qtq at h;split at h
  ·rename_i ys e;obtain⟨bs,rfl,q⟩:=h;exact Uq hc pins s σ H _ us Q I r ⟨p,bs,rfl,SqL.of e,q⟩
  exact h.elim
 exact h.elim
theorem Aw (hc:X.calm=true):dw X (.builtin "any") (sU fun bs=>bs.any id):=by
 intro pins s σ H xs us Q I r h;unfold sU at h;split at h
 ·rename_i p;unfold qtq at h;split at h
  ·rename_i ys e;obtain⟨bs,rfl,q⟩:=h;exact Uo hc pins s σ H _ us Q I r ⟨p,bs,rfl,SqL.of e,q⟩
  exact h.elim
 exact h.elim
end
def Qv:List V->Hp->VK->Prop:=fun xs H Q=>match xs with
 | [.int i,.int j]=>Q (.int (if j<i then j else i)) H
 | _=>False
def Qx:List V->Hp->VK->Prop:=fun xs H Q=>match xs with
 | [.int i,.int j]=>Q (.int (if j>i then j else i)) H
 | _=>False
theorem Qu (i j:Int)(H:Hp)(Q:VK):Qv [.int i,.int j] H Q=Q (.int (if j<i then j else i)) H:=rfl
theorem Qw (i j:Int)(H:Hp)(Q:VK):Qx [.int i,.int j] H Q=Q (.int (if j>i then j else i)) H:=rfl
theorem u6 {X:Cx}(hc:X.calm=true):dw X (.builtin "min") Qv:=by
 intro pins s σ H xs us Q I r h;unfold Qv at h;split at h
 ·exact NP hc pins s σ H _ us Q I r ⟨_,_,rfl,h⟩
 exact h.elim
theorem Ar {X:Cx}(hc:X.calm=true):dw X (.builtin "max") Qx:=by
 intro pins s σ H xs us Q I r h;unfold Qx at h;split at h
 ·exact NQ hc pins s σ H _ us Q I r ⟨_,_,rfl,h⟩
 exact h.elim
structure QE (X:Cx)(e:Expr)(t:TE):Prop where
 h:PE X e t
structure QT (X:Cx)(e:Expr)(t:TT):Prop where
 h:PT X e t
structure QW (X:Cx)(e:Expr)(t:TT):Prop where
 h:PW X e t
structure QA (X:Cx)(es:List Expr)(t:TA):Prop where
 h:PA X es t
structure QS (X:Cx)(st:Stmt)(t:TS):Prop where
 h:PS X st t
structure QB (X:Cx)(st:List Stmt)(t:TS):Prop where
 h:PSs X st t
structure QG (X:Cx)(e:Expr)(t:TG):Prop where
 h:PG X e t
structure QGs (X:Cx)(es:List Expr)(t:TGs):Prop where
 h:PGs X es t
structure QI (X:Cx)(tg e:Expr)(t:TI):Prop where
 h:PI X tg e t
structure QC (X:Cx)(cs:List Expr)(t:TT):Prop where
 h:PTs X cs t
section
variable {X:Cx}{i:Nat}{x:Str}{pos pos' p tpos:Pos}{e a b c o:Expr}{es rest:List Expr}{te ta tb tc to ti:TE}{tA tB':TT}{t:TA}{k n kk:Nat}{ps:List Str}{sp:Sp}{id T:String}{r:List V->Hp->VK->Prop}{st:Stmt}{sts:List Stmt}{ts us:TS}{tg iter:Expr}{wi:TI}{g:TG}{gs:TGs}
theorem acP (h:Nm X.N X.env.scope i x):QE X (.Name x pos) (OJ i):=⟨pn h⟩
theorem acO (i:Nat) {x:Str}{pos:Pos}(hN:X.N[i]?=some x:=by rfl) (hv:Vis X.env.scope x:=by first|exact ET rfl|exact Or.inr (ET rfl)|exact Or.inr (Or.inr rfl)) (hd:(x == ("__debug__" : Str))=false:=by decide)
  (hcd:(x == ("__classdict__" : Str))=false:=by decide):QE X (.Name x pos) (OJ i):=⟨Rg hN hv hd hcd⟩
theorem aq {i j pos}:QE X (.Constant (.int i) j pos) (tC (.int i)):=⟨aaD⟩
theorem zW {b j pos}:QE X (.Constant (.bool b) j pos) (tC (.bl b)):=⟨ab9⟩
theorem jK {j pos}:QE X (.Constant .none j pos) (tC .non):=⟨aaB⟩
theorem dM {x j pos}:QE X (.Constant (.str x) j pos) (tC (.str x)):=⟨aay⟩
theorem aJ {op:Operator}{r:R2}(ho:OpR X (Fk op) r)(ha:QE X a ta)(hb:QE X b tb):QE X (.BinOp a op b pos) (tOp r ta tb):=⟨ab3 ho ha.h hb.h⟩
theorem nY {op:UnaryOp}{r:V->Hp->VK->Prop}(ho:UnR X (unaryOp op) r)(ha:QE X a ta):QE X (.UnaryOp op a pos) (tUn r ta):=⟨ab2 ho ha.h⟩
theorem aag (ha:QE X a ta):QE X (.UnaryOp .Not a pos) (O3 ta):=⟨aaA ha.h⟩
theorem gR {op:CmpOp}{r:R2}(ho:OpR X (CO op) r)(ha:QE X a ta)(hb:QE X b tb)(hm:IH op b=false):QE X (.Compare a [op] [b] pos) (tOp r ta tb):=⟨W4 ho ha.h hb.h hm⟩
theorem aU {op:CmpOp}{r:R2}(ho:OpR X (CO op) r)(ha:QE X a ta)(hb:QE X b tb)(hm:IH op b=false):QT X (.Compare a [op] [b] pos) (vg (tOp r ta tb)):=⟨Wq ho ha.h hb.h hm⟩
theorem El {op op':CmpOp}{r r':R2}(ho:OpR X (CO op) r)(ho':OpR X (CO op') r')(ha:QE X a ta)(hb:QE X b tb)(hc:QE X c tc)
  (hm:lastMarks [op,op'] [b,c]=false:=by with_unfolding_all rfl):QE X (.Compare a [op,op'] [b,c] pos) (wH r r' ta tb tc):=⟨Rn ho ho' ha.h hb.h hc.h hm⟩
theorem QV {op op':CmpOp}{r r':R2}(ho:OpR X (CO op) r)(ho':OpR X (CO op') r')(ha:QE X a ta)(hb:QE X b tb)(hc:QE X c tc)
  (hm:lastMarks [op,op'] [b,c]=false:=by with_unfolding_all rfl):QT X (.Compare a [op,op'] [b,c] pos) (vg (wH r r' ta tb tc)):=⟨Q8 ho ho' ha.h hb.h hc.h hm⟩
theorem BR {op}(h:QE X a ta):QE X (.BoolOp op [a] pos) ta:=⟨aaz h.h⟩
theorem wR (ha:QE X a ta)(hb:QE X (.BoolOp .And (b::rest) pos) tb):QE X (.BoolOp .And (a::b::rest) pos) (Pj ta tb):=⟨aaF ha.h hb.h⟩
theorem qJ (hc:QT X c tA)(ha:QE X a ta)(hb:QE X b tb):QE X (.IfExp c a b pos) (tIf tA ta tb):=⟨Rj hc.h ha.h hb.h⟩
theorem aY {r:R2}(hr:IxR X r)(ha:QE X a ta)(hb:QE X b tb)(hs:K9 b):QE X (.Subscript a b pos) (tOp r ta tb):=⟨ab4 hr ha.h hb.h hs⟩
theorem cO (h:QA X es t):QE X (.List es pos) (O4 t):=⟨aaC h.h⟩
theorem cI {x1}(h:QA X es t):QE X (.Tuple es x1 pos) (Lk t):=⟨aax h.h⟩
theorem au:QA X [] wG:=⟨aaG⟩
theorem ak (ha:QE X e te)(hr:QA X es t)(hs:AJ (e::es) X.env=(false,eval e X.env)::AJ es X.env:=by rfl):QA X (e::es) (jo te t):=⟨W8 ha.h hr.h hs⟩
theorem bG (C:Cal X.prog X.w X.K X.mg X.base x k ps sp)(hr:fK k X.A)(hg:Gl X x)(hdb:Bn x)(ha:QA X (e::es) t)
  (he:AJ (e::es) X.env=(false,eval e X.env)::AJ es X.env:=by rfl) (hpl:(C8 pos (AJ es X.env)).any (·.1)=false:=by rfl):QE X (.Call (.Name x p) (e::es) [] pos) (lG sp [] E0 t):=⟨ab6 C hr hg hdb ha.h he hpl⟩
theorem cF (hc:dw X (.builtin id) r)(hg:Gl X x)(hm:X.mg x=none)(hv:D0 x=some (.builtin id))(b:Bn x)(ha:QA X (e::es) t)
  (he:AJ (e::es) X.env=(false,eval e X.env)::AJ es X.env:=by rfl) (hpl:(C8 pos (AJ es X.env)).any (·.1)=false:=by rfl):QE X (.Call (.Name x p) (e::es) [] pos) (tCB r t):=⟨ab7 hc hg hm hv b ha.h he hpl⟩
theorem J6 (hc:dw X (.type T) r)(hg:Gl X x)(hm:X.mg x=none)(hv:D0 x=some (.type T))(b:Bn x)(ha:QA X (e::es) t)
  (he:AJ (e::es) X.env=(false,eval e X.env)::AJ es X.env:=by rfl) (hpl:(C8 pos (AJ es X.env)).any (·.1)=false:=by rfl):QE X (.Call (.Name x p) (e::es) [] pos) (tCB r t):=⟨ab5 hc hg hm hv b ha.h he hpl⟩
theorem kj (n:String)(hg:Gl X x)(hm:X.mg x=none)(hv:D0 x=some (.type n))(b:Bn x):QE X (.Name x pos) (tC (.ty n)):=⟨ab8 n hg hm hv b⟩
theorem QM (ha:QT X a tA):QT X (.UnaryOp .Not a pos) (Vu tA):=⟨aan ha.h⟩
theorem gO (h:QE X e te)(he:∀whole,isTrue e X.env whole=(do let v <- whole;G8 e.pos;Fc [v] (truthy v)):=by intro _;rfl):QT X e (tB te):=⟨aal h.h he⟩
theorem v5 (ha:QT X a tA):QW X (.BoolOp .And [a] pos) tA:=⟨Wl ha.h⟩
theorem uK (ha:QT X a tA):QW X (.BoolOp .Or [a] pos) tA:=⟨aai ha.h⟩
theorem wO (ha:QT X a tA)(hb:QW X (.BoolOp .And (b::rest) pos) tB'):QW X (.BoolOp .And (a::b::rest) pos) (Vw tA tB'):=⟨aak ha.h hb.h⟩
theorem wN (ha:QT X a tA)(hb:QW X (.BoolOp .Or (b::rest) pos) tB'):QW X (.BoolOp .Or (a::b::rest) pos) (tOr tA tB'):=⟨abY ha.h hb.h⟩
theorem zj (h:QW X e tA):QT X e tA:=⟨h.h.pt⟩
theorem bJ:QB X [] JF:=⟨Ws⟩
theorem aH (h:QS X st ts):QB X [st] ts:=⟨Wr h.h⟩
theorem aD (h:QS X st ts)(h2:QB X sts us):QB X (st::sts) (GZ ts us):=⟨Q9 h.h h2.h⟩
theorem aM (he:QE X e te):QS X (.Return (some e) pos) (DG te):=⟨aaq he.h⟩
theorem b8 {c:Expr}{a b:List Stmt}{tc:TT}(hc:QT X c tc)(ha:QB X a ts)(hb:QB X b us):QS X (.If c a b pos) (O6 tc ts us):=⟨ab0 hc.h ha.h hb.h⟩
theorem gP (he:QE X e te)(hs:Ix e none pos.line X.env=pure false:=by rfl):QS X (.Expr e pos) (O9 te):=⟨Wy he.h hs⟩
theorem bK (h:Nm X.N X.env.scope i x)(hN:X.N.Nodup)(he:QE X e te)(hs:Ix e (some (.Name x pos')) pos.line X.env=pure false:=by rfl)(hf:X.fn x=true\/X.env.scope.names.lookup x=some .local:=by exact .inl rfl) :
  QS X (.Assign [.Name x pos'] e pos) (vI te (jZ i)):=⟨abZ h hN he.h hs hf⟩
theorem jJ (he:QE X e te)(hg:QG X tg g)(hs:FX [tg] e pos.line X.env=pure false:=by rfl)(hw:IG [tg] e X.env=pure none:=by rfl)
  (h1:(D6 [tg] X.env).map (·.2)=[GW tg X.env]:=by rfl):QS X (.Assign [tg] e pos) (vI te g):=⟨aat he.h hg.h hs hw h1⟩
theorem Hs {i j:Nat}{x y:Str}{a b:Expr}{ta:TA}{px py pt:Pos}{kt k2 pt2}(hc:X.calm=true)(hN:X.N.Nodup)(hi:X.N[i]?=some x)(hj:X.N[j]?=some y)(hij:i≠j)
  (hx:X.env.scope.names.lookup x=some .local) (hy:X.env.scope.names.lookup y=some .local) (ha:QA X [a,b] ta)
  (hw:IG [.Tuple [.Name x px,.Name y py] kt pt] (.Tuple [a,b] k2 pt2) X.env=pure (some [x,y]))
  (hs:FX [.Tuple [.Name x px,.Name y py] kt pt] (.Tuple [a,b] k2 pt2) pos.line X.env=pure false:=by rfl) :
  QS X (.Assign [.Tuple [.Name x px,.Name y py] kt pt] (.Tuple [a,b] k2 pt2) pos) (ZQ i j ta):=⟨aar hc hN hi hj hij hx hy ha.h hw hs⟩
theorem QX {c:Expr}{body:List Stmt}{tc:TT}(hp:PassesOwn (AH X.prog X.w) X.A X.env X.xe)(hc:QT X c tc)(hb:QB X body ts):QS X (.While c body [] pos) (GX tc ts):=⟨Ra hp hc.h hb.h⟩
theorem fJ {body:List Stmt}(hp:PassesOwn (AH X.prog X.w) X.A X.env X.xe)(hc:X.calm=true)(hi:QI X tg iter wi)(hg:QG X tg g)(hb:QB X body ts)
  (hs:∀x,CY iter X.env x=pure x:=by intro _;rfl):QS X (.For tg iter body [] pos) (Vv wi g ts):=⟨aas hp hc hi.h hg.h hb.h hs⟩
theorem cB (h:Nm X.N X.env.scope i x)(hN:X.N.Nodup)(hf:X.fn x=true\/X.env.scope.names.lookup x=some .local:=by exact .inl rfl):QG X (.Name x pos) (jZ i):=⟨ab1 h hN hf⟩
theorem cM (i:Nat)(hN:X.N.Nodup)(hi:X.N[i]?=some x)(hx:Loc X.env.scope x)(hf:X.fn x=true\/X.env.scope.names.lookup x=some .local:=by first|exact .inl rfl|exact .inr rfl):QG X (.Name x pos) (jZ i):=⟨J8 hN hi hx hf⟩
theorem dF:QGs X [] abp:=⟨WQ⟩
theorem aQ (h1:QG X e g)(h2:QGs X es gs)(hs:(D6 (e::es) X.env).map (·.2)=GW e X.env::(D6 es X.env).map (·.2):=by rfl):QGs X (e::es) (TQ g gs):=⟨Rc h1.h h2.h hs⟩
theorem eX {n:Nat}(hc:X.calm=true)(h:QGs X es gs)(hn:(D6 es X.env).length=n:=by rfl)(hst:(D6 es X.env).findIdx? (·.1)=none:=by rfl):QG X (.Tuple es k pos) (Ku n gs):=⟨WR hc h.h hn hst⟩
theorem U7 (o:Expr)(c j)(p pos:Pos)(env:Env)(v:Ap):GW (.Subscript o (.Constant c j p) pos) env v=(do
   let ov <- Fc [v] (eval o env)
   let iv <- Fc [v,ov] (eval (.Constant c j p) env)
   G8 pos
   Fc [v,ov,iv] (setItem ov iv v)
   release [v,ov,iv] []):=rfl
theorem BP {c j}{t:Vb}(ho:QE X o to)(hi:QE X (.Constant c j p) ti)(hs:Vd X t):QG X (.Subscript o (.Constant c j p) pos) (Yl to ti t):=⟨Rf ho.h hi.h hs (fun v=>U7 o c j p pos X.env v)⟩
theorem gF (hg:Gl X "range") (hm:X.mg "range" = none) (ha:QA X [a] t) (hs:AJ [a] X.env=[(false,eval a X.env)]:=by rfl):QI X tg (.Call (.Name "range" p) [a] [] pos) (oZ t):=⟨Mu hg hm ha.h hs⟩
theorem Ml (hg:Gl X "range") (hm:X.mg "range" = none) (ha:QA X [a,b] t) (hs:AJ [a,b] X.env=[(false,eval a X.env),(false,eval b X.env)]:=by rfl) (hs2:AJ [b] X.env=[(false,eval b X.env)]:=by rfl):QI X tg (.Call (.Name "range" p) [a,b] [] pos) (Ti t):=⟨Mt hg hm ha.h hs hs2⟩
theorem sV (hg:Gl X "enumerate") (hm:X.mg "enumerate" = none) (ha:QA X [a] t) (hs:AJ [a] X.env=[(false,eval a X.env)]:=by rfl):QI X (.Tuple es kk tpos) (.Call (.Name "enumerate" p) [a] [] pos) (xZ X.K t):=⟨WN hg hm ha.h hs⟩
theorem nZ:QC X [] Vs:=⟨Wo⟩
theorem uL (h:QT X c tA):QC X [c] tA:=⟨Wn h.h⟩
theorem gQ {NX:List Str}{kX:List (Str×DS)}{scope:FA}{elt:Expr}{ifs:List Expr}{tc:TT}(N:List Str)(mp:List (Option Nat))(hNX:X.N=NX)(hkX:X.env.scope.names=kX)(S:vH NX kX N mp scope)(hc:X.calm=true)
  (hi:QI X tg iter wi) (hg:∀cl C s H fp,QG (bD X N scope cl C s H fp) tg g) (ht:∀cl C s H fp,QC (bD X N scope cl C s H fp) ifs tc) (he:∀cl C s H fp,QE (bD X N scope cl C s H fp) elt te)
  (hs:∀x,CY iter X.env x=pure x:=by intro _;rfl):QE X (.ListComp elt [⟨tg,iter,ifs,0⟩] scope pos) (zQ mp wi g tc te):=
 ⟨W0 N mp hNX hkX S hc hi.h (fun cl C s H fp=>(hg cl C s H fp).h) (fun cl C s H fp=>(ht cl C s H fp).h) (fun cl C s H fp=>(he cl C s H fp).h) hs⟩
end
section
variable {P:AW}{w:BC}{K:AC}{mg:Str->Option Ap}{base:Heap}
theorem Fun.okq {x qual:Str}{st:Stmt}{f:Addr}{fd:Dx}{N ps:List Str}{k:Nat}{sp:Sp}(F:Fun K x qual st f fd)(S:bA N ps (aj st))(len:∀vs H Q E,sp vs H Q E->vs.length=ps.length)
  (hbody:∀(cdv:Ap)(A:A3)(outer:List Env)(s:AA)(H:Hp)(vs:List V)(Q:VK)(E:XK),fK k (A.deeper (F7 qual (aj st) s.heap.objs.size f cdv))->sp vs H Q E ->
   ∃t,QB (zH CX0 P w K mg base N qual (aj st) f cdv A outer s H E).nox (eG st) t/\t { nx:=fun _ H'=>Q .non H',rt:=Q } (L2.start N vs) H):cU P w K mg base CX0 (k+1) f fd ps sp:=
 F.ok S len fun cdv A outer s H vs Q E hr hsp=>by
  obtain⟨t,h,q⟩:=hbody cdv A outer s H vs Q E hr hsp;exact⟨t,h.h,q⟩
end
theorem Hv:∀(ns:List Int),preSum (fun i=>(ns[i]?).getD 0) ns.length=ns.sum:=by
 have key:∀(f:Nat->Int)(n:Nat),preSum f (n+1)=preSum f n+f n:=fun f n=>rfl;have key2:∀(n:Nat)(f g:Nat->Int),(∀i,i<n->f i=g i)->preSum f n=preSum g n:=by
  intro n
  induction n with
  | zero=>intros;rfl
  | succ n ih=>intro f g h;rw[key,key,ih f g fun i hi=>h i (EN hi),h n (EK n)]
 have key3:∀(n:Nat)(f:Nat->Int),preSum f (n+1)=f 0+preSum (fun i=>f (i+1)) n:=by
  intro n
  induction n with
  | zero=>intro f;show(0:Int)+f 0=f 0+0;omega
  | succ n ih=>intro f;rw[key,ih,key];omega
 intro ns
 induction ns with
 | nil=>rfl
 | cons a r ih=>
  rw[BA,key3,MG,<- ih];rfl
def smq (o:Option HO)(H:Hp)(Q:VK):Prop:=match o with
 | some (.lst xs)=>∃ns:List Int,xs=ns.map V.int/\Q (.int ns.sum) H
 | _=>False
def Qo:List V->Hp->VK->Prop:=fun xs H Q=>match xs with
 | [.ref p]=>smq (H p) H Q
 | _=>False
theorem Mg (p:Addr)(H:Hp)(Q:VK):Qo [.ref p] H Q=smq (H p) H Q:=rfl
theorem Vz (xs:List V)(H:Hp)(Q:VK):smq (some (.lst xs)) H Q=∃ns:List Int,xs=ns.map V.int/\Q (.int ns.sum) H:=rfl
section
variable {X:Cx}
theorem Nz (hc:X.calm=true):dw X (.builtin "sum") Qo:=by
 intro pins s σ H xs us Q I r h;unfold Qo at h;split at h
 ·rename_i p;unfold smq at h;split at h
  ·rename_i ys e;obtain⟨ns,rfl,q⟩:=h;cases r with
   | cons r rr=>
    cases rr;cases r;obtain⟨its,rv,pl,hz⟩:=I.list (SqL.of e);have hl:=rv.length;have lt:p<s.heap.objs.size:=by obtain⟨_,e,_⟩:=pl.isList;exact AZ e
    refine call_sum_walkG (HQ pl.isList ?_);refine⟨s.heap.objs.size,[s.heap.objs.size,p],[s.heap.objs.size],its.toArray.size,_,_,fun i=>(ns[i]?).getD 0,rfl,Walks.list (A:=X.A.in1) (I.ok.hd hc) _ p (B4 lt) _,
     ⟨⟨_,A8 _ rfl,rfl,rfl⟩,pl.isList.push _⟩,?_,fun i v hP=>?_,fun h' tk t' hk=>?_⟩
    ·intro b hb;rw[D7];simp only[BB,Cs,or_false] at hb;rcases hb with rfl|rfl
     ·exact EK _
     exact EN lt
    ·have e1:its[i]?=some v:=by simpa using hP
     have hi:i<its.length:=by
      rcases C5 i its.length with z|z
      ·exact z
      rw[GL z] at e1;cases e1
     have hi2:i<ns.length:=by rw[<- hl,AV] at hi;exact hi
     obtain⟨u,hu,ru⟩:=rv.get (i:=i) (x:=.int ns[i]) (by rw[BH,AR hi2];rfl);rw[e1] at hu;cases hu;obtain⟨t,rfl⟩:=ru;exact⟨t,by show _=Ap.int ((ns[i]?).getD 0) t;rw[AR hi2];rfl⟩
    have e2:its.toArray.size=ns.length:=by rw[Bz,<- hl,AV]
    rw[e2,Hv];refine⟨.int _,H,I.kept fun b o e=>hk b o (fun hm=>?_) (AD _ e),⟨t',rfl⟩,q⟩;rw[AK.mp hm] at e;exact Db _ (AZ e)
  exact h.elim
 exact h.elim
def Qm (i:Int)(n:Nat):List V:=(BS n).map fun k=>V.int (i+(k:Nat))
def O5 (ta:TA):TE:=fun σ H Q=>ta σ H fun vs H1=>∃i j:Int,vs=[.int i,.int j]/\(-(2^62)<=i/\i<2^62/\-(2^62)<=j/\j<2^62)/\(j-i).toNat<=AM/\∀p,H1 p=none->Q (.ref p) (upd H1 p (.lst (Qm i (j-i).toNat)))
theorem JB:∀{xs:List V}{us:List Ap},xs.length=us.length->(∀(i:Nat) x u,xs[i]?=some x->us[i]?=some u->RelV x u)->Vals xs us
 | [],[],_,_=>.nil
 | [],_::_,h,_=>by cases h
 | _::_,[],h,_=>by cases h
 | x::xs,u::us,h,f=>.cons (f 0 x u rfl rfl) (JB (by simpa using h) fun i y v h1 h2=>f (i+1) y v h1 h2)
theorem aa7:AM<=2^24:=by decide
theorem WT {a b:Expr}{ta:TA}{p p2 pos pos2:Pos}(hc:X.calm=true) (hgl:Gl X "list") (hml:X.mg "list" = none) (hg:Gl X "range") (hm:X.mg "range" = none) (ha:PA X [a,b] ta)
  (hs:AJ [a,b] X.env=[(false,eval a X.env),(false,eval b X.env)]:=by rfl) (hs2:AJ [b] X.env=[(false,eval b X.env)]:=by rfl)
  (he:AJ [.Call (.Name "range" p2) [a,b] [] pos2] X.env=[(false,eval (.Call (.Name "range" p2) [a,b] [] pos2) X.env)]:=by rfl) :
  PE X (.Call (.Name "list" p) [.Call (.Name "range" p2) [a,b] [] pos2] [] pos) (O5 ta):=by
 intro pins s σ H Q I h;refine Hd (jV I hgl hml boot_list ?_ δ δ);refine CL ?_ he rfl;rw[he];show AE _ _ (spliced ((false,eval (.Call (.Name "range" p2) [a,b] [] pos2) X.env)::[])) _ _ s;refine FF ?_;refine Call_ (jV I hg hm boot_range (CL (thA (ha pos2 pins s σ H _ I h) fun us s1 vs H1 I1 r1 q1=>?_) (by rw[hs,hs2]) (by rw[hs2];rfl)));obtain⟨i,j,e,⟨q1,q2,q3,q4⟩,hz,q⟩:=q1;subst e;cases r1 with
 | cons r rr=>
  cases rr with
  | cons r' rr=>
   cases rr;obtain⟨t,rfl⟩:=r;obtain⟨t',rfl⟩:=r';refine call_range_2 (F3 ?_);refine call_list_range (n:=(j-i).toNat) (I1.ok.hd hc) (IsRange.new ..) (small_one q1 q2 q3 q4) (by rw[rangeSize_one];split <;> omega) (BN hz aa7) fun h' tk acc' c' kp e it=>?_
   have I2:Inv X pins σ H1 { s1 with heap:=s1.heap.push { cls:=.type "range",data:=.fields #[.int i t,.int j t',.int 1 s1.toks] },toks:=s1.toks+1 }:=I1.kept fun b o e=>AD _ e;have hf:H1 (s1.heap.push { cls:=.type "range",data:=.fields #[.int i t,.int j t',.int 1 s1.toks] }).objs.size=none:=I2.hok.fresh (AY _);refine⟨.ref _,_,I2.laid (t':=tk) kp (AY _) (show cW X.prog X.w _ h' _ (.lst (Qm i (j-i).toNat)) from⟨?_,acc'.toList,c',?_,by simpa using e⟩),rfl,q _ hf⟩
   ·simpa [Qm] using hz
   obtain⟨it1,it2⟩:=it;refine JB (by simp [Qm,it1]) fun k x u h1 h2=>?_;have h2':acc'[k]?=some u:=by simpa using h2
   obtain⟨t9,rfl⟩:=it2 k u h2';unfold Qm at h1;rw[BH] at h1;have hk:k<(j-i).toNat:=by
    rcases C5 k (j-i).toNat with z|z
    ·exact z
    rw[GL (by simpa using z)] at h1;cases h1
   rw[List.getElem?_range hk] at h1;cases h1;exact⟨t9,by rw[My]⟩
theorem Wh {a b:Expr}{ta:TA}{p p2 pos pos2:Pos}(hc:X.calm=true) (hgl:Gl X "list") (hml:X.mg "list" = none) (hg:Gl X "range") (hm:X.mg "range" = none) (ha:QA X [a,b] ta)
  (hs:AJ [a,b] X.env=[(false,eval a X.env),(false,eval b X.env)]:=by rfl) (hs2:AJ [b] X.env=[(false,eval b X.env)]:=by rfl)
  (he:AJ [.Call (.Name "range" p2) [a,b] [] pos2] X.env=[(false,eval (.Call (.Name "range" p2) [a,b] [] pos2) X.env)]:=by rfl) :
  QE X (.Call (.Name "list" p) [.Call (.Name "range" p2) [a,b] [] pos2] [] pos) (O5 ta):=⟨WT hc hgl hml hg hm ha.h hs hs2 he⟩
def adq (a b:Option HO)(H:Hp)(Q:VK):Prop:=match a,b with
 | some (.lst xs),some (.lst zs)=>xs.length+zs.length<=AM/\∀p,H p=none->Q (.ref p) (upd H p (.lst (xs++zs)))
 | _,_=>False
def Ek:R2:=fun x y H Q=>match x,y with
 | .int i,.int j=>Q (.int (i+j)) H
 | .ref p,.ref q=>adq (H p) (H q) H Q
 | _,_=>False
theorem Wa (i j:Int)(H:Hp)(Q:VK):Ek (.int i) (.int j) H Q=Q (.int (i+j)) H:=rfl
theorem V9 (p q:Addr)(H:Hp)(Q:VK):Ek (.ref p) (.ref q) H Q=adq (H p) (H q) H Q:=rfl
theorem Dj (xs zs:List V)(H:Hp)(Q:VK):adq (some (.lst xs)) (some (.lst zs)) H Q=(xs.length+zs.length<=AM/\∀p,H p=none->Q (.ref p) (upd H p (.lst (xs++zs)))):=rfl
theorem bw:OpR X (Fk .Add) Ek:=by
 intro pins s σ H x y v u Q I rx ry h;unfold Ek at h;split at h
 ·exact aaK pins s σ H _ _ v u Q I rx ry ⟨_,_,rfl,rfl,h⟩
 ·rename_i p q;unfold adq at h;split at h
  ·rename_i xs zs e1 e2;exact aaJ pins s σ H _ _ v u Q I rx ry ⟨p,q,xs,zs,rfl,rfl,e1,e2,h.1,h.2⟩
  exact h.elim
 exact h.elim
def eqL:List V->List V->Bool
 | [],[]=>true
 | x::xs,y::ys=>eqV x y&&eqL xs ys
 | _,_=>false
def Xl (a b:Option HO)(H:Hp)(Q:VK):Prop:=match a,b with
 | some (.lst xs),some (.lst zs)=>xs.all iI=true/\zs.all iI=true/\Q (.bl (!eqL xs zs)) H
 | _,_=>False
def Ho:R2:=fun x y H Q=>match x,y with
 | .ref p,.ref q=>Xl (H p) (H q) H Q
 | x,y=>rNe x y H Q
theorem Z7 (p q:Addr)(H:Hp)(Q:VK):Ho (.ref p) (.ref q) H Q=Xl (H p) (H q) H Q:=rfl
theorem Z8 (i j:Int)(H:Hp)(Q:VK):Ho (.int i) (.int j) H Q=rNe (.int i) (.int j) H Q:=rfl
theorem Z9 (i j:Bool)(H:Hp)(Q:VK):Ho (.bl i) (.bl j) H Q=rNe (.bl i) (.bl j) H Q:=rfl
theorem Z6 (i j:Str)(H:Hp)(Q:VK):Ho (.str i) (.str j) H Q=rNe (.str i) (.str j) H Q:=rfl
theorem Xk (xs zs:List V)(H:Hp)(Q:VK):Xl (some (.lst xs)) (some (.lst zs)) H Q=(xs.all iI=true/\zs.all iI=true/\Q (.bl (!eqL xs zs)) H):=rfl
theorem KC:∀(xs zs:List V),xs.length=zs.length->((BS xs.length).all fun j=>match xs[j]?,zs[j]? with|some a,some b=>eqV a b|_,_=>true)=eqL xs zs
 | [],[],_=>rfl
 | [],_::_,h=>by cases h
 | _::_,[],h=>by cases h
 | x::xs,z::zs,h=>by
  have ih:=KC xs zs (by simpa using h);rw[BA,List.range_succ_eq_map,all_cons,all_map];show(eqV x z&&_)=(eqV x z&&eqL xs zs);rw[<- ih];rfl
theorem Kz:∀(xs zs:List V),xs.length≠zs.length->eqL xs zs=false
 | [],[],h=>absurd rfl h
 | [],_::_,_=>rfl
 | _::_,[],_=>rfl
 | x::xs,z::zs,h=>by
  show(eqV x z&&eqL xs zs)=false;rw[Kz xs zs (by simpa using h),HM]
theorem kZ (hu:X.A.units<cLine):OpR X (CO .NotEq) Ho:=by
 intro pins s σ H x y v u Q I rx ry h;unfold Ho at h;split at h
 ·rename_i p q;unfold Xl at h;split at h
  ·rename_i xs zs e1 e2;obtain⟨f1,f2,q⟩:=h;cases rx;cases ry;obtain⟨its1,r1,pl1,hz1⟩:=I.list (SqL.of e1);obtain⟨its2,r2,pl2,hz2⟩:=I.list (SqL.of e2);have l1:=r1.length;have l2:=r2.length;by_cases hl:xs.length=zs.length
   ·refine SeqAt.RcNeAt.lists (e:=fun j=>match xs[j]?,zs[j]? with|some a,some b=>eqV a b|_,_=>true) pl1.isList pl2.isList (by simp only[Bz];omega) hu (fun j h1 h2=>?_) X.prog X.w X.xe (EP X pins σ Q) ?_
    ·have j1:j<xs.length:=by simp only[Bz] at h1;omega
     have j2:j<zs.length:=ω;have g1:xs[j]?=some xs[j]:=AR j1;have g2:zs[j]?=some zs[j]:=AR j2;obtain⟨u1,hu1,ru1⟩:=r1.get g1;obtain⟨u2,hu2,ru2⟩:=r2.get g2;have k1:its1.toArray[j]=u1:=by
      have:=AF.mp hu1;obtain⟨_,z⟩:=this;simpa using z
     have k2:its2.toArray[j]=u2:=by
      have:=AF.mp hu2;obtain⟨_,z⟩:=this;simpa using z
     rw[k1,k2,g1,g2];exact Ub ru1 ru2 (Lc.mp f1 _ (ME j1)) (Lc.mp f2 _ (ME j2))
    rw[show its1.toArray.size=xs.length by simp only[Bz];omega,KC xs zs hl];exact⟨.bl _,H,I,rfl,q⟩
   rw[Kz xs zs hl] at q;refine SeqAt.RcNeAt.lists_lengths pl1.isList pl2.isList (by simp only[Bz,bne_iff_ne,ne_eq];omega) hu X.prog X.w X.xe (EP X pins σ Q) ⟨.bl _,H,I,rfl,q⟩
  exact h.elim
 exact ace pins s σ H _ _ v u Q I rx ry h
def inq (neg:Bool)(o:Option HO)(x:V)(H:Hp)(Q:VK):Prop:=match o with
 | some (.lst xs)=>iI x=true/\xs.all iI=true/\Q (.bl (if neg then !inV x xs else inV x xs)) H
 | some (.tup xs)=>iI x=true/\xs.all iI=true/\Q (.bl (if neg then !inV x xs else inV x xs)) H
 | _=>False
def aad (neg:Bool):R2:=fun x y H Q=>match y with
 | .ref p=>inq neg (H p) x H Q
 | _=>False
theorem aac (neg:Bool)(x:V)(p:Addr)(H:Hp)(Q:VK):aad neg x (.ref p) H Q=inq neg (H p) x H Q:=rfl
theorem acu (neg:Bool)(x:V)(xs:List V)(H:Hp)(Q:VK):inq neg (some (.lst xs)) x H Q=(iI x=true/\xs.all iI=true/\Q (.bl (if neg then !inV x xs else inV x xs)) H):=rfl
theorem abl {neg:Bool}{o:Option HO}{x:V}{H:Hp}{Q:VK}{p:Addr}{K:AC}(e:H p=o)(h:inq neg o x H Q):rIn K neg x (.ref p) H Q:=by
 unfold inq at h;split at h
 ·rename_i xs;exact⟨p,xs,rfl,.inl (SqL.of e),h.1,h.2.1,h.2.2⟩
 ·rename_i xs;exact⟨p,xs,rfl,.inr (SqT.of e),h.1,h.2.1,h.2.2⟩
 exact h.elim
theorem Mx:OpR X (CO .NotIn) (aad true):=by
 intro pins s σ H x y v u Q I rx ry h;unfold aad at h;split at h
 ·exact BX pins s σ H _ _ v u Q I rx ry (abl rfl h)
 exact h.elim
end
theorem U4 {α:Type}(a b:α):atI [a,b] (-1)=some b:=rfl
theorem U3 {α:Type}(a b c:α):atI [a,b,c] (-1)=some c:=rfl
theorem Vi {c:TT}{tb:TS}{D:Ends}{σ:St}{H:Hp}(W:Nat->St->Hp->Prop)(m:Nat)(h0:W m σ H)
  (h:∀m σ H,W m σ H->c σ H fun b H1=>if b=true then ∃N:St->Hp->Prop,(∀σ' H',N σ' H'->∃m',m'<m/\W m' σ' H')/\tb { D with nx:=N,ct:=N,bk:=D.nx } σ H1 else D.nx σ H1):GX c tb D σ H:=⟨W,⟨m,h0⟩,h⟩
structure bM (H:Hp)(p:Addr)(B:Int):Prop where
 ex:∃a b c:Int,H p=some (.lst [.int a,.int b,.int c])/\0<=a/\0<=b/\b<2147483629/\0<=c/\c<=B
theorem bM.same {H H':Hp}{p:Addr}{B:Int}(h:bM H p B)(s:Same H H'):bM H' p B:=by
 obtain⟨a,b,c,e,r⟩:=h;exact⟨a,b,c,s _ _ e,r⟩
theorem bM.le {H:Hp}{p:Addr}{B B':Int}(h:bM H p B)(l:B<=B'):bM H p B':=by
 obtain⟨a,b,c,e,r1,r2,r3,r4,r5⟩:=h;exact⟨a,b,c,e,r1,r2,r3,r4,ω⟩
theorem bM.ne {H:Hp}{p q:Addr}{B:Int}(h:bM H p B)(n:H q=none):q≠p:=by
 obtain⟨a,b,c,e,_⟩:=h;exact(aG e n).symm
theorem bM.net {H:Hp}{p q:Addr}{B:Int}{xs:List V}(h:bM H p B)(n:H q=some (.tup xs)):q≠p:=by
 obtain⟨a,b,c,e,_⟩:=h;intro z;rw[z,e] at n;cases n
theorem two_pow_pos (k:Nat):(0:Int)<2^k:=Int.pow_pos δ
def PL (K:AC):Sp:=fun vs H Q _=>∃(a:Addr)(ns:List Int)(k:Int),vs=[.ref a,.int k]/\SqL K H a (ns.map V.int)/\0<=k/\∀v:Int,Q (.int v) H
def Pu (K:AC):Sp:=fun vs H Q _=>∃(a:Addr)(ns:List Int)(k:Int),vs=[.ref a,.int k]/\SqL K H a (ns.map V.int)/\0<=k/\k<=100/\∀p H',H p=none->Same H H'->bM H' p 0->Q (.ref p) H'
def gj (n:Nat):Sp:=fun vs H Q _=>∃(p:Addr)(m B:Int),vs=[.ref p,.int m]/\bM H p B/\B+(n:Int)<=1000100/\0<m/\m<2^70/\1<=n/\(1000000<=m->2<=n) /\
 ∀r H',0<=r->r<m->dW p H H'->bM H' p (B+n)->Q (.int r) H'
theorem aau (c:Int):∃v:Int,atI [V.int 2147483587,V.int 2147483579,V.int 2147483563,V.int 2147483549,V.int 2147483543,V.int 2147483497,V.int 2147483489] (c%7)=some (.int v)/\0<v:=by
 have h1:0<=c%7:=E4 _ δ;have h2:c%7<7:=EA _ δ;generalize c%7=d at h1 h2;have h3:d=0\/d=1\/d=2\/d=3\/d=4\/d=5\/d=6:=ω;rcases h3 with rfl|rfl|rfl|rfl|rfl|rfl|rfl
 ·exact⟨_,fZ (j:=0) rfl,δ⟩
 ·exact⟨_,fZ (j:=1) rfl,δ⟩
 ·exact⟨_,fZ (j:=2) rfl,δ⟩
 ·exact⟨_,fZ (j:=3) rfl,δ⟩
 ·exact⟨_,fZ (j:=4) rfl,δ⟩
 ·exact⟨_,fZ (j:=5) rfl,δ⟩
 exact⟨_,fZ (j:=6) rfl,δ⟩
def zT:Sp:=fun vs H Q _=>∃n w,vs=[.int n,.int w]/\1<=w/\w<=40/\Q (.int (n%2^w.toNat)) H
def wl (w s:Int):Int:=0-2^(w-1).toNat*s
theorem lR {w:Int}(h:1<=w):(2:Int)^w.toNat=2*2^(w-1).toNat:=by
 have e:w.toNat=(w-1).toNat+1:=ω;rw[e,Int.pow_succ];omega
theorem jy {w s:Int}(h1:1<=w)(h2:w<=40)(hs:s=0\/s=1):-1099511627776<=wl w s/\wl w s<=0/\0<wl w s+2^w.toNat/\wl w s+2^w.toNat<=1099511627776:=by
 have e:=lR h1;have p:=two_pow_pos (w-1).toNat;have q:=gG (k:=w.toNat) ω;unfold wl;rcases hs with rfl|rfl
 ·simp only[mul_zero,sub_zero,HR];omega
 simp only[My];omega
def sy:Sp:=fun vs H Q _=>∃w s,vs=[.int w,.int s]/\1<=w/\w<=40/\(s=0\/s=1)/\Q (.int (wl w s)) H
def Pz:Sp:=fun vs H Q _=>∃(p:Addr)(B:Int),vs=[.ref p]/\bM H p B/\0<=B/\B<=1000050 /\
 ∀(w s:Int)(t:Addr) H',1<=w->w<=40->(s=0\/s=1)->dW p H H'->bM H' p (B+10)->H' t=some (.tup [.int w,.int s])->Q (.ref t) H'
def Zh:Sp:=fun vs H Q _=>∃(p:Addr)(w s o B:Int),vs=[.ref p,.int w,.int s,.int o]/\bM H p B/\0<=B/\B<=1000050/\1<=w/\w<=40/\(s=0\/s=1) /\
 ∀(r:Int) H',wl w s<=r->r<wl w s+2^w.toNat->dW p H H'->bM H' p (B+10)->Q (.int r) H'
theorem abC (X k:Nat):((X:Int)/2^k)%2=if X.testBit k then 1 else 0:=by
 have e:(X:Int)/2^k%2=((X/2^k%2:Nat):Int):=by
  rw[Int.natCast_emod,Int.natCast_ediv,DC];rfl
 rw[e,Nat.testBit_eq_decide_div_mod_eq];have:=mod_lt (X/2^k) (show 0<2 by decide);by_cases h:X/2^k%2=1
 ·simp [h]
 have h0:X/2^k%2=0:=ω;simp [h0]
theorem Y5 (y:Int):AX.bitAnd y 1=y%2:=by
 have:=PySem.W.kbt_mask y 1;simpa using this
theorem Bp (X k:Nat):AX.bitAnd ((X:Int)/2^k) 1=if X.testBit k then 1 else 0:=by
 rw[Y5,abC]
theorem gD (a b:Nat):AX.bitAnd (a:Int) (b:Int)=((a &&& b:Nat):Int):=by
 unfold AX.bitAnd;simp
def isFree (m k:Nat):Bool:=!m.testBit k&&(BS k).any fun j=>m.testBit j
def frees (n m:Nat):List Nat:=(BS n).filter (isFree m)
def unset (n b m:Nat):Nat:=((BS n).filter fun k=>decide (b<=k) && !m.testBit k).length
theorem lD {α:Type}(p q:α->Bool):∀l:List α,(∀x∈l,p x=true->q x=true)->(l.filter p).length<=(l.filter q).length
 | [],_=>AY _
 | x::l,h=>by
  have ih:=lD p q l fun y hy=>h y (A4 _ hy);have hx:=h x BE;rw[DT,DT];cases hp:p x with
  | true=>
   rw[hx hp];simp only[if_true,BA];omega
  | false=>
   simp only[EL,if_false];split
   ·rw[BA];omega
   exact ih
theorem TX {n b m:Nat}(h:∀k,k<b->m.testBit k=false):(frees n m).length<=unset n b m:=by
 refine lD _ _ _ fun k hk hf=>?_;unfold isFree at hf;rw[C1,EM] at hf;obtain⟨h1,j,hj,hb⟩:=hf;have hj':=DL.mp hj;have:b<=j:=by
  rcases C5 j b with z|z
  ·rw[h j z] at hb;cases hb
  exact z
 rw[h1,FY];exact decide_eq_true ω
theorem Ou (n b m:Nat):unset n b m<=n-b:=by
 have key:∀n,((BS n).filter fun k=>decide (b<=k)).length<=n-b:=by
  intro n
  induction n with
  | zero=>exact D2 _
  | succ n ih=>
   rw[range_succ,Ee,AO];by_cases h:b<=n
   ·simp only[DT,h,decide_true,if_true,filter_nil,A9];omega
   simp only[DT,h,decide_false,EL,if_false,filter_nil,KB];omega
 refine BN (lD _ _ _ fun k hk hf=>?_) (key n);rw[C1] at hf;exact hf.1
theorem wC {n b m:Nat}(h:∀k,b<=k->k<n->m.testBit k=true):unset n b m=0:=by
 unfold unset;rw[KE,F4];intro k hk;have hk':=DL.mp hk;by_cases hb:b<=k
 ·simp [h k hb hk']
 simp [hb]
theorem Gy {n b m m' j:Nat}(h:∀k,m'.testBit k=(m.testBit k && !decide (k=j))):unset n b m'<=unset n b m+1:=by
 unfold unset
 induction n with
 | zero=>exact D2 _
 | succ n ih=>
  have one:∀(p:Nat->Bool),((BS (n+1)).filter p).length=((BS n).filter p).length+if p n then 1 else 0:=by
   intro p;rw[range_succ,Ee,AO];cases hp:p n <;> simp [hp]
  rw[one,one];by_cases hj:n=j
  ·subst hj;have same:((BS n).filter fun k=>decide (b<=k) && !m'.testBit k).length=((BS n).filter fun k=>decide (b<=k) && !m.testBit k).length:=by
    have:(BS n).filter (fun k=>decide (b<=k) && !m'.testBit k)=(BS n).filter fun k=>decide (b<=k) && !m.testBit k:=by
     refine filter_congr fun k hk=>?_;have hk':=DL.mp hk;rw[h k];have:decide (k=n)=false:=decide_eq_false ω;rw[this,EB,FY]
    rw[this]
   rw[same];split <;> split <;> omega
  rw[h n];have:decide (n=j)=false:=decide_eq_false hj;rw[this,EB,FY];omega
theorem rY {m j:Nat}(h:m.testBit j=true):∀k,(m-2^j).testBit k=(m.testBit k && !decide (k=j)):=by
 intro k;have p:0<2^j:=pow_pos δ;have hd:m/2^j%2=1:=by
  rw[Nat.testBit_eq_decide_div_mod_eq] at h;exact of_decide_eq_true h
 -- m=2^j*(2*a+1)+lo
 have e0:=Nat.div_add_mod m (2^j);have e1:m/2^j=2*(m/2^j/2)+1:=ω;generalize m/2^j/2=a at e1;have lo:=mod_lt m p;generalize m%2^j=l at e0 lo;rw[e1] at e0;have e2:m-2^j=2^j*(2*a)+l:=by
  rw[<- e0,mul_add,mul_one];omega
 rw[e2,<- e0,JP _ lo,JP _ lo];by_cases hk:k<j
 ·have:decide (k=j)=false:=decide_eq_false ω;rw[if_pos hk,if_pos hk,this,EB,FY]
 rw[if_neg hk,if_neg hk];by_cases hkj:k=j
 ·subst hkj;simp
 have:decide (k=j)=false:=decide_eq_false hkj;rw[this,EB,FY];obtain⟨d,hd⟩:∃d,k-j=d+1:=⟨k-j-1,ω⟩;rw[hd,Nat.testBit_succ,Nat.testBit_succ];congr 1;omega
theorem Y4 (m j:Nat):m &&& 2^j=if m.testBit j then 2^j else 0:=by
 refine DH fun k=>?_;rw[Hn,FU];by_cases hk:j=k
 ·subst hk;cases h:m.testBit j
  ·simp
  simp [FU]
 have:decide (j=k)=false:=decide_eq_false hk;rw[this,HM];split
 ·rw[FU,this]
 rw[Nat.zero_testBit]
theorem Sd (m j:Nat):∃m':Nat,(m:Int)-AX.bitAnd (m:Int) ((2:Int)^j)=(m':Int)/\m'<=m/\∀k,m'.testBit k=(m.testBit k && !decide (k=j)):=by
 have e:((2:Int)^j)=((2^j:Nat):Int):=by simp
 rw[e,gD,Y4];cases h:m.testBit j with
 | true=>
  have hle:2^j<=m:=EW h;refine⟨m-2^j,?_,Nat.sub_le _ _,rY h⟩;simp only[if_true];omega
 | false=>
  refine⟨m,by simp,AY _,fun k=>?_⟩;by_cases hk:k=j
  ·subst hk;simp [h]
  simp [hk]
def vU (W b m i:Nat):Prop:=m<2^W/\(∀k,k<b->m.testBit k=false)/\unset W b m<=i
theorem vU.frees {W b m i:Nat}(h:vU W b m i):(frees W m).length<=i:=BN (TX h.2.1) h.2.2
theorem j6 (k:Nat):(2:Int)^k=((2^k:Nat):Int):=by simp
theorem Ss {n k:Nat}(h:(n:Int)<2^k):n<2^k:=by
 rw[j6] at h;omega
theorem aaX {W T:Nat}(h:T<=W):∃m:Nat,((2:Int)^T-1)*2^(W-T)=(m:Int)/\vU W (W-T) m 0:=by
 have p:=pow_pos (n:=T) (show 0<2 by decide);have tb:∀k,((2^T-1)*2^(W-T)).testBit k=(decide (W-T<=k)&&decide (k-(W-T)<T)):=fun k=>by
  rw[Nat.testBit_mul_two_pow,JU]
 refine⟨(2^T-1)*2^(W-T),?_,?_,fun k hk=>?_,?_⟩
 ·rw[j6,j6,Int.natCast_mul,Int.natCast_sub p];rfl
 ·have e:2^W=2^T*2^(W-T):=by rw[<- pow_add,Nat.add_sub_cancel' h]
  rw[e];exact Nat.mul_lt_mul_of_pos_right ω (pow_pos δ)
 ·rw[tb,decide_eq_false ω,D1]
 rw[wC fun k h1 h2=>by rw[tb,decide_eq_true h1,decide_eq_true (show k-(W-T)<T by omega)];rfl];exact AY _
theorem aaZ (W:Nat):∃m:Nat,(2:Int)^W-1=(m:Int)/\vU W 0 m 0:=by
 have p:=pow_pos (n:=W) (show 0<2 by decide);refine⟨2^W-1,?_,ω,fun k hk=>ω,?_⟩
 ·rw[j6];omega
 rw[wC fun k h1 h2=>by rw[JU,decide_eq_true h2]];exact AY _
theorem Xn {W r:Nat}(h:4<=W)(hr:r<16):∃m:Nat,(r:Int)*2^(W-4)=(m:Int)/\vU W (W-4) m 4:=by
 refine⟨r*2^(W-4),?_,?_,fun k hk=>?_,?_⟩
 ·rw[j6,Int.natCast_mul]
 ·have e:2^W=16*2^(W-4):=by rw[show 16=2^4 from rfl,<- pow_add,Nat.add_sub_cancel' h]
  rw[e];exact Nat.mul_lt_mul_of_pos_right hr (pow_pos δ)
 ·rw[Nat.testBit_mul_two_pow,decide_eq_false ω,D1]
 have:=Ou W (W-4) (r*2^(W-4));omega
theorem aaY {W b m i:Nat}(h:vU W b m i)(j:Nat):∃m':Nat,(m:Int)-AX.bitAnd (m:Int) ((2:Int)^j)=(m':Int)/\vU W b m' (i+1):=by
 obtain⟨m',e,l,tb⟩:=Sd m j;refine⟨m',e,Nat.lt_of_le_of_lt l h.1,fun k hk=>?_,?_⟩
 ·rw[tb,h.2.1 k hk,D1]
 exact BN (Gy tb) (Nat.succ_le_succ h.2.2)
theorem vU.le {W b m i j:Nat}(h:vU W b m i)(l:i<=j):vU W b m j:=⟨h.1,h.2.1,BN h.2.2 l⟩
inductive It1 where
 | one (a:Int)
 | rng (a b:Int)
 | bits (m v:Nat)
def itV:It1->List V
 | .one a=>[.str "is",.int a]
 | .rng a b=>[.str "from",.int a,.int b]
 | .bits m v=>[.str "bits",.int m,.int v]
theorem XS (a:Int):itV (.one a)=[.str "is",.int a]:=rfl
theorem XQ (a b:Int):itV (.rng a b)=[.str "from",.int a,.int b]:=rfl
theorem S8 (m v:Nat):itV (.bits m v)=[.str "bits",.int m,.int v]:=rfl
structure pQ (H:Hp)(t:Addr)(it:It1):Prop where
 h:H t=some (.tup (itV it))
def cG (w s a:Int):Prop:=wl w s<=a/\a<wl w s+2^w.toNat
def It1.Ok (w s:Int):It1->Prop
 | .one a=>cG w s a
 | .rng a b=>cG w s a/\cG w s b/\a<=b
 | .bits m v=>m<2^w.toNat/\v<2^w.toNat/\(9<=w->(frees w.toNat m).length<=4)
def aZ (w:Int)(n:Int):It1->Bool
 | .one a=>decide (n=a)
 | .rng a b=>decide (a<=n)&&decide (n<=b)
 | .bits m v=>decide ((n%2^w.toNat).toNat &&& m=v)
def vY:Sp:=fun vs H Q _=>∃(w n:Int)(t:Addr)(it:It1),vs=[.int w,.ref t,.int n]/\1<=w/\w<=40/\pQ H t it/\Q (.bl (aZ w n it)) H
def Py:Sp:=fun vs H Q _=>∃(p:Addr)(w B:Int),vs=[.ref p,.int w]/\bM H p B/\0<=B/\B<=1000050/\1<=w/\w<=40 /\
 ∀(m:Nat) H',m<2^w.toNat->(9<=w->(frees w.toNat m).length<=4)->dW p H H'->bM H' p (B+20)->Q (.int m) H'
def PB:Sp:=fun vs H Q _=>∃(p:Addr)(w s o B:Int),vs=[.ref p,.int w,.int s,.int o]/\bM H p B/\0<=B/\B<=1000000/\1<=w/\w<=40/\(s=0\/s=1) /\
 ∀(it:It1)(t:Addr) H',It1.Ok w s it->dW p H H'->bM H' p (B+60)->pQ H' t it->Q (.ref t) H'
def PK:Sp:=fun vs H Q _=>∃(w:Int)(m:Nat),vs=[.int w,.int m]/\1<=w/\w<=40/\m<2^w.toNat /\
 ∀(p:Addr) H',H' p=some (.lst ((frees w.toNat m).map fun k=>V.int (k:Nat)))->Same H H'->Q (.ref p) H'
theorem aaj (n w:Int):(((n%2^w.toNat).toNat:Nat):Int)=n%2^w.toNat:=by
 have:=E4 n (Int.ne_of_gt (two_pow_pos w.toNat));omega
theorem wU (w n:Int)(m v:Nat):decide (AX.bitAnd (n%2^w.toNat) (m:Int)=(v:Int))=aZ w n (.bits m v):=by
 unfold aZ;rw[<- aaj n w,gD];simp only[decide_eq_decide,ofNat_inj,C0]
section
variable {mp:List (Option Nat)}{g:TG}{tc:TT}{te:TE}{σ:St}{H:Hp}{Q:VK}{R:It->Hp->Prop}{K:AC}
theorem Ui {lo:Int}{n:Nat}(hR:R=Gw mp g tc te σ Q)(hz:n<=AM)(Pv:Nat->List V->St->Hp->Prop)(h0:Pv 0 [] (jq mp σ) H)(hl:∀i acc τ H,Pv i acc τ H->acc.length<=i)
  (hs:∀i acc τ H,i<n->Pv i acc τ H->g (.int (lo+i)) τ H fun τ1 H4=>tc τ1 H4 fun b H5=>if b=true then te τ1 H5 fun v H6=>Pv (i+1) (acc++[v]) τ1 H6 else Pv (i+1) acc τ1 H5)
  (hd:∀acc τ H d,Pv n acc τ H->H d=none->Q (.ref d) (upd H d (.lst acc))):R (Itr lo n) H:=by
 refine ur hR n hz Pv h0 hl (fun i acc τ H hi _=>hi) (fun acc τ H _=>AY n) (fun i acc τ H x H3 hi p y=>?_) hd;obtain⟨rfl,rfl⟩:=y;exact hs i acc τ _ hi p
theorem rJ {a:Addr}{xs:List V}(hR:R=Gw mp g tc te σ Q)(hz:xs.length<=AM)(Pv:Nat->List V->St->Hp->Prop)(h0:Pv 0 [] (jq mp σ) H)(hl:∀i acc τ H,Pv i acc τ H->acc.length<=i)
  (hq:∀i acc τ H,Pv i acc τ H->SqL K H a xs)
  (hs:∀i x acc τ H,xs[i]?=some x->Pv i acc τ H->g x τ H fun τ1 H4=>tc τ1 H4 fun b H5=>if b=true then te τ1 H5 fun v H6=>Pv (i+1) (acc++[v]) τ1 H6 else Pv (i+1) acc τ1 H5)
  (hd:∀acc τ H d,Pv xs.length acc τ H->H d=none->Q (.ref d) (upd H d (.lst acc))):R (Itl K a) H:=by
 refine ur hR xs.length hz Pv h0 hl (fun i acc τ H hi p=>⟨xs,xs[i],hq i acc τ H p,AR hi⟩) (fun acc τ H p=>⟨xs,hq _ acc τ H p,AY _⟩) (fun i acc τ H x H3 hi p y=>?_) hd;obtain⟨rfl,hx⟩:=y;exact hs i x acc τ _ (hx xs (hq i acc τ _ p)) p
theorem Jk {a:Addr}{xs:List V}(hR:R=Gw mp g tc te σ Q)(hz:xs.length<=AM)(Pv:Nat->List V->St->Hp->Prop)(h0:Pv 0 [] (jq mp σ) H)(hl:∀i acc τ H,Pv i acc τ H->acc.length<=i)
  (hq:∀i acc τ H,Pv i acc τ H->SqL K H a xs)
  (hs:∀(i:Nat) x acc τ H p,xs[i]?=some x->Pv i acc τ H->H p=none->g (.ref p) τ (upd H p (.tup [.int (i:Nat),x])) fun τ1 H4=>tc τ1 H4 fun b H5=>if b=true then te τ1 H5 fun v H6=>Pv (i+1) (acc++[v]) τ1 H6 else Pv (i+1) acc τ1 H5)
  (hd:∀acc τ H d,Pv xs.length acc τ H->H d=none->Q (.ref d) (upd H d (.lst acc))):R (Ite K a) H:=by
 refine ur hR xs.length hz Pv h0 hl (fun i acc τ H hi p=>⟨xs,xs[i],hq i acc τ H p,AR hi⟩) (fun acc τ H p=>⟨xs,hq _ acc τ H p,GL (AY _)⟩) (fun i acc τ H x H3 hi p y=>?_) hd;obtain⟨q,x1,rfl,hq1,rfl,hx⟩:=y;exact hs i x1 acc τ _ q (hx xs (hq i acc τ _ p)) p hq1
end
def bW (l:List Nat):List V:=l.map fun k=>V.int (k:Nat)
def places (n m:Nat):List Nat:=(BS n).filter m.testBit
theorem zY (l:List Nat)(k:Nat):bW (l++[k])=bW l++[.int (k:Nat)]:=by simp [bW]
theorem cV (l:List Nat):(bW l).length=l.length:=by simp [bW]
theorem zZ (l:List Nat):(bW l).all iI=true:=by
 rw[Lc];intro x hx;obtain⟨k,_,rfl⟩:=EF.mp hx;rfl
theorem kO (p:Nat->Bool)(i:Nat):(BS (i+1)).filter p=(BS i).filter p++if p i then [i] else []:=by
 rw[range_succ,Ee];congr 1;cases h:p i <;> simp [h]
theorem lV (p:Nat->Bool)(i:Nat):((BS i).filter p).length<=i:=by
 have:=GM p (BS i);simpa using this
theorem Yd (k:Nat)(l:List Nat):inV (.int (k:Nat)) (bW l)=l.contains k:=by
 unfold inV bW;rw[any_map]
 induction l with
 | nil=>rfl
 | cons a r ih=>
  rw[any_cons,II,ih];congr 1;show((a:Int) == (k:Int))=(k == a);rw[D3,beq_iff_eq,beq_iff_eq];omega
theorem abv (x:V)(xs:List V):eqL (x::xs) []=false:=rfl
theorem Nr {n m k:Nat}(h:places n m=[])(hk:k<n):isFree m k=false:=by
 unfold isFree;rw[Bool.and_eq_false_iff];refine .inr ?_;rw[List.any_eq_false];intro j hj;have hj':=DL.mp hj;unfold places at h;rw[F4] at h;exact h j (DL.mpr ω)
theorem Nq {n m k a:Nat}{r:List Nat}(h:places n m=a::r)(hk:k<n):isFree m k=(decide (a<k) && !(a::r).contains k):=by
 have ha:a∈places n m:=by rw[h];exact BE
 have ha2:=(E8.mp ha).2;have mn:∀j,j<n->m.testBit j=true->a<=j:=by
  intro j hj hb;have hm:j∈places n m:=E8.mpr ⟨DL.mpr hj,hb⟩;have pw:(places n m).Pairwise (· < ·):=M1.filter _ Ll;rw[h] at pw hm;rcases BB.mp hm with rfl|hm
  ·exact AY _
  exact IQ ((EO.mp pw).1 j hm)
 have e1:((BS k).any fun j=>m.testBit j)=decide (a<k):=by
  rw[D3,EM,decide_eq_true_eq];constructor
  ·intro⟨j,hj,hb⟩;have hj':=DL.mp hj;have:=mn j ω hb;omega
  intro h1;exact⟨a,DL.mpr h1,ha2⟩
 have e2:(a::r).contains k=m.testBit k:=by
  rw[<- h,D3,List.contains_iff_mem];unfold places;rw[E8];exact⟨fun z=>z.2,fun z=>⟨DL.mpr hk,z⟩⟩
 unfold isFree;rw[e1,e2,Bool.and_comm]
theorem TV {n m k:Nat}(h:k∈frees n m):k<n:=DL.mp (E8.mp h).1
section
variable {X:Cx}{pos:Pos}
def O2 (i j k:Nat)(ta:TA):TS:=fun D σ H=>ta σ H fun vs H1=>∃u v w,vs=[u,v,w]/\D.nx (((σ.set i (some u)).set j (some v)).set k (some w)) H1
theorem Wu {i j k:Nat}{x y z:Str}{a b c:Expr}{ta:TA}{px py pz pt:Pos}{kt k2 pt2}(hc:X.calm=true)(hN:X.N.Nodup)(hi:X.N[i]?=some x)(hj:X.N[j]?=some y)(hk:X.N[k]?=some z)(hij:i≠j)(hik:i≠k)(hjk:j≠k)
  (hx:X.env.scope.names.lookup x=some .local) (hy:X.env.scope.names.lookup y=some .local) (hz:X.env.scope.names.lookup z=some .local) (ha:PA X [a,b,c] ta)
  (hw:IG [.Tuple [.Name x px,.Name y py,.Name z pz] kt pt] (.Tuple [a,b,c] k2 pt2) X.env=pure (some [x,y,z]))
  (hs:FX [.Tuple [.Name x px,.Name y py,.Name z pz] kt pt] (.Tuple [a,b,c] k2 pt2) pos.line X.env=pure false:=by rfl) :
  PS X (.Assign [.Tuple [.Name x px,.Name y py,.Name z pz] kt pt] (.Tuple [a,b,c] k2 pt2) pos) (O2 i j k ta):=by
 intro pins s σ H D I h;rw[exec_Assign_arm];refine An (DV ?_);rw[hs];refine An (Au ?_);rw[if_neg δ];refine An (Tuple_ (thA (ha _ pins s σ H _ I h) fun us s1 vs H1 I1 r1 q1=>?_));obtain⟨u,v,w,e1,q1⟩:=q1;subst e1;obtain⟨u1,u2,u3,rfl,ru,rv,rw'⟩:∃u1 u2 u3,us=[u1,u2,u3]/\RelV u u1/\RelV v u2/\RelV w u3:=by
  cases r1 with
  | cons p q=>
   cases q with
   | cons p' q'=>
    cases q' with
    | cons p'' q''=>
     cases q'';exact⟨_,_,_,rfl,p,p',p''⟩
 refine BM ?_ (by show 3<=AM;decide);have I2:Inv X pins σ H1 { s1 with heap:=s1.heap.push { cls:=.type "tuple",data:=.seq [u1,u2,u3].toArray } }:=I1.kept (t':=s1.toks) fun b o e=>AD _ e;rw[hw];refine An (Au ?_);show AE (AH X.prog X.w) X.A (do rule "assign.swapped-stores";let items <- unpackItems (.ref s1.heap.objs.size) 3 none;LA [fun v=>G0 X.env z v,fun v=>G0 X.env y v,fun v=>G0 X.env x v] items.reverse;pure Flow.next) _ _ _;refine An (De (An (unpackItems_tuple (items:=#[u1,u2,u3]) (I.ok.hd hc) (IsTup.new s1.heap _) fun h' hx'=>?_)));have I3:=I2.kept (h':=h') (t':=s1.toks) fun b o e=>hx' b o (B4 (AZ e)) e;show AE _ _ (LA [fun v=>G0 X.env z v,fun v=>G0 X.env y v,fun v=>G0 X.env x v] [u3,u2,u1] >>= fun _=>pure Flow.next) _ _ _;refine An (FE (Kt (jd I3 hN hk (.inl hz) rw' (fun s2 I4=>?_) (.inr hz))));refine FE (Kt (jd I4 hN hj (.inl hy) rv (fun s3 I5=>?_) (.inr hy)));refine FE (Kt (jd I5 hN hi (.inl hx) ru (fun s4 I6=>?_) (.inr hx)));refine assignInOrder_nil (Au ⟨_,H1,?_,q1⟩);have e:((σ.set k (some w)).set j (some v)).set i (some u)=((σ.set i (some u)).set j (some v)).set k (some w):=by
  rw[set_comm (some v) (some u) (B2 hij),set_comm (some w) (some u) (B2 hik),set_comm (some w) (some v) (B2 hjk)]
 rw[<- e];exact I6
theorem J3 {i j k:Nat}{x y z:Str}{a b c:Expr}{ta:TA}{px py pz pt:Pos}{kt k2 pt2}(hc:X.calm=true)(hN:X.N.Nodup)(hi:X.N[i]?=some x)(hj:X.N[j]?=some y)(hk:X.N[k]?=some z)(hij:i≠j)(hik:i≠k)(hjk:j≠k)
  (hx:X.env.scope.names.lookup x=some .local) (hy:X.env.scope.names.lookup y=some .local) (hz:X.env.scope.names.lookup z=some .local) (ha:QA X [a,b,c] ta)
  (hw:IG [.Tuple [.Name x px,.Name y py,.Name z pz] kt pt] (.Tuple [a,b,c] k2 pt2) X.env=pure (some [x,y,z]))
  (hs:FX [.Tuple [.Name x px,.Name y py,.Name z pz] kt pt] (.Tuple [a,b,c] k2 pt2) pos.line X.env=pure false:=by rfl) :
  QS X (.Assign [.Tuple [.Name x px,.Name y py,.Name z pz] kt pt] (.Tuple [a,b,c] k2 pt2) pos) (O2 i j k ta):=⟨Wu hc hN hi hj hk hij hik hjk hx hy hz ha.h hw hs⟩
end
theorem Ym (g:TG)(gs:TGs)(x:V)(xs:List V)(σ:St)(H:Hp)(Q:St->Hp->Prop):TQ g gs (x::xs) σ H Q=g x σ H fun σ1 H1=>gs xs σ1 H1 Q:=
 propext ⟨fun⟨_,_,e,h⟩=>by cases e;exact h,fun h=>⟨x,xs,rfl,h⟩⟩
theorem abo (σ:St)(H:Hp)(Q:St->Hp->Prop):abp [] σ H Q=Q σ H:=propext ⟨fun h=>h.2,fun h=>⟨rfl,h⟩⟩
theorem T8 {a b:Int}{P:Int->Int->Prop}:(∃v w,(a=v/\b=w)/\P v w)=P a b:=propext ⟨fun⟨_,_,⟨h1,h2⟩,h⟩=>h1 ▸ h2 ▸ h,fun h=>⟨a,b,⟨rfl,rfl⟩,h⟩⟩
theorem Yp {a b c:V}{P:V->V->V->Prop}:(∃u v w,(a=u/\b=v/\c=w)/\P u v w)=P a b c:=propext ⟨fun⟨_,_,_,⟨h1,h2,h3⟩,h⟩=>h1 ▸ h2 ▸ h3 ▸ h,fun h=>⟨a,b,c,⟨rfl,rfl,rfl⟩,h⟩⟩
theorem G6:((("from" : Str):Str)=("is" : Str))=False:=eq_false ψ
theorem G7:(("bits" : Str)=("is" : Str))=False:=eq_false ψ
theorem Bl:(("bits" : Str)=("from" : Str))=False:=eq_false ψ
theorem G5:(("is" : Str)=("bits" : Str))=False:=eq_false ψ
theorem Bk:(("from" : Str)=("bits" : Str))=False:=eq_false ψ
theorem acv {tc:TT}{ts us:TS}{D:Ends}{σ:St}{H:Hp}(h:∀kt ke,kt=ts D->ke=us D->tc σ H fun b H1=>if b=true then kt σ H1 else ke σ H1):O6 tc ts us D σ H:=h _ _ rfl rfl
theorem VN {p:Addr}{H H':Hp}(h:dW p H H')(e:H p=none):Same H H':=fun b o hb=>h b o (aG hb e) hb
section
variable {X:Cx}{e o:Expr}{te to:TE}{pos:Pos}
def apq (ob:Option HO)(l:Addr)(y:V)(H:Hp)(Q:VK):Prop:=match ob with
 | some (.lst xs)=>xs.length<AM/\Q .non (upd H l (.lst (xs++[y])))
 | _=>False
def isq (ob:Option HO):Prop:=match ob with
 | some (.lst _)=>True
 | _=>False
theorem tY (xs:List V):isq (some (.lst xs))=True:=rfl
theorem wk (xs:List V)(l:Addr)(y:V)(H:Hp)(Q:VK):apq (some (.lst xs)) l y H Q=(xs.length<AM/\Q .non (upd H l (.lst (xs++[y])))):=rfl
def abI (x:V)(te:TE)(σ:St)(H1:Hp)(Q:VK):Prop:=match x with
 | .ref l=>isq (H1 l)/\te σ H1 fun y H2=>apq (H2 l) l y H2 Q
 | _=>False
def Ph (to te:TE):TE:=fun σ H Q=>to σ H fun x H1=>abI x te σ H1 Q
theorem Pg (to te:TE)(σ:St)(H:Hp)(Q:VK):Ph to te σ H Q=to σ H fun x H1=>abI x te σ H1 Q:=rfl
theorem U8 (l:Addr)(te:TE)(σ:St)(H1:Hp)(Q:VK):abI (.ref l) te σ H1 Q=(isq (H1 l)/\te σ H1 fun y H2=>apq (H2 l) l y H2 Q):=rfl
theorem W7 {apos cpos:Pos}(ho:PE X o to)(he:PE X e te)
  (hbase:D9 o "append" X.env (eval o X.env)=eval o X.env:=by rfl)
  (hfew:((C8 cpos (AJ [e] X.env)).all (fun x=>!x.1)&&(LM cpos (HA [] X.env)).all (fun x=>x.1.isSome)
   && decide ([e].length+([]:List IJ).length+(if ([]:List IJ).isEmpty then 0 else 1)<30))=true:=by rfl)
  (hline:(apos.endLine == cpos.line)=true:=by rfl) (hs:AJ [e] X.env=(false,eval e X.env)::AJ [] X.env:=by rfl) (hplain:(C8 cpos (AJ [] X.env)).any (·.1)=false:=by rfl) :
  PE X (.Call (.Attribute o "append" apos) [e] [] cpos) (Ph to te):=by
 intro pins s σ H Q I h;refine L7 hbase hfew hline rfl (thE (ho pins s σ H _ I h) fun v s1 x H1 I1 r1 q=>?_);cases x with
 | ref l=>
  obtain⟨q1,q2⟩:=q;cases el:H1 l with
  | none=>rw[el] at q1;exact q1.elim
  | some ob=>
   cases ob with
   | lst xs=>
    obtain⟨h1,h2⟩:=GC (T := "list") I1 r1 (.inl ⟨rfl,xs,SqL.of el⟩);refine⟨"list","list.append",LP,PySem.F.slot_list_append,PySem.F.type_list_append,h1,h2,?_⟩;rw[hs];refine FL (by show(false||(C8 cpos (AJ [] X.env)).any (·.1))=false;rw[hplain] <;> rfl) (Gc ?_)
    refine FF (thE (he pins s1 σ H1 _ I1 q2) fun u s2 y H2 I2 r2 q3=>F3 ?_);replace q3:apq (H2 l) l y H2 Q:=q3;cases el2:H2 l with
    | none=>rw[el2] at q3;exact q3.elim
    | some ob2=>
     cases ob2 with
     | lst ys=>
      rw[el2] at q3;exact M8 pins s2 σ H2 (.ref l) [y] v [u] Q I2 r1 (.cons r2 .nil) ⟨l,ys,y,rfl,rfl,el2,q3.1,q3.2⟩
     | _=>rw[el2] at q3;exact q3.elim
   | _=>rw[el] at q1;exact q1.elim
 | _=>exact q.elim
theorem mH {apos cpos:Pos}(ho:QE X o to)(he:QE X e te)
  (hbase:D9 o "append" X.env (eval o X.env)=eval o X.env:=by rfl)
  (hfew:((C8 cpos (AJ [e] X.env)).all (fun x=>!x.1)&&(LM cpos (HA [] X.env)).all (fun x=>x.1.isSome)
   && decide ([e].length+([]:List IJ).length+(if ([]:List IJ).isEmpty then 0 else 1)<30))=true:=by rfl)
  (hline:(apos.endLine == cpos.line)=true:=by rfl) (hs:AJ [e] X.env=(false,eval e X.env)::AJ [] X.env:=by rfl) (hplain:(C8 cpos (AJ [] X.env)).any (·.1)=false:=by rfl) :
  QE X (.Call (.Attribute o "append" apos) [e] [] cpos) (Ph to te):=⟨W7 ho.h he.h hbase hfew hline hs hplain⟩
def slq (ob:Option HO)(lo hi:Option Int)(H:Hp)(Q:VK):Prop:=match ob with
 | some (.lst xs)=>∀p,H p=none->Q (.ref p) (upd H p (.lst (rH xs lo hi)))
 | some (.tup xs)=>¬(HT.sIx xs.length 0 lo=0/\HT.sIx xs.length xs.length hi=xs.length)/\∀p,H p=none->Q (.ref p) (upd H p (.tup (rH xs lo hi)))
 | _=>False
def Z4:V->Option Int->Option Int->Hp->VK->Prop:=fun x lo hi H Q=>match x with
 | .ref p=>slq (H p) lo hi H Q
 | _=>False
theorem Qp (p:Addr)(lo hi:Option Int)(H:Hp)(Q:VK):Z4 (.ref p) lo hi H Q=slq (H p) lo hi H Q:=rfl
theorem VB (xs:List V)(lo hi:Option Int)(H:Hp)(Q:VK):slq (some (.lst xs)) lo hi H Q=∀p,H p=none->Q (.ref p) (upd H p (.lst (rH xs lo hi))):=rfl
theorem ZW:SlR X Z4:=by
 intro pins s σ H x v vl vu lo hi sl Q I rx hs pl pu h;unfold Z4 at h;split at h
 ·rename_i p;unfold slq at h;split at h
  ·rename_i xs e;exact VD pins s σ H _ v vl vu lo hi sl Q I rx hs pl pu ⟨p,xs,rfl,SqL.of e,h⟩
  ·rename_i xs e;exact ZV pins s σ H _ v vl vu lo hi sl Q I rx hs pl pu ⟨p,xs,rfl,SqT.of e,h.1,h.2⟩
  exact h.elim
 exact h.elim
structure QO (X:Cx)(e:Option Expr)(t:TO):Prop where
 h:PO X e t
theorem BL:QO X none Bj:=⟨WD⟩
theorem BK (h:QE X e te):QO X (some e) (O1 te):=⟨Wz h.h⟩
theorem wQ {r:V->Option Int->Option Int->Hp->VK->Prop}{lo hi:Option Expr}{tl th:TO}{p2:Pos}(hr:SlR X r)(he:QE X e te)(hl:QO X lo tl)(hu:QO X hi th):QE X (.Subscript e (.Slice lo hi none p2) pos) (tSl r te tl th):=⟨Ri hr he.h hl.h hu.h⟩
def rpq (ob:Option HO)(k:Int)(H:Hp)(Q:VK):Prop:=match ob with
 | some (.lst xs)=>-(2^63)<=k/\k<2^63/\xs.length*k.toNat<=AM/\∀p,H p=none->Q (.ref p) (upd H p (.lst (BD k.toNat xs).flatten))
 | _=>False
def Qt:R2:=fun x y H Q=>match x,y with
 | .ref p,.int k=>rpq (H p) k H Q
 | x,y=>rI Oo (fun i j=>.int (i*j)) x y H Q
theorem V1 (i j:Int)(H:Hp)(Q:VK):Qt (.int i) (.int j) H Q=rI Oo (fun i j=>.int (i*j)) (.int i) (.int j) H Q:=rfl
theorem gW:OpR X (Fk .Mult) Qt:=by
 intro pins s σ H x y v u Q I rx ry h;unfold Qt at h;split at h
 ·rename_i p k;unfold rpq at h;split at h
  ·rename_i xs e;exact aaH pins s σ H _ _ v u Q I rx ry ⟨p,k,xs,rfl,rfl,e,h.1,h.2.1,h.2.2.1,h.2.2.2⟩
  exact h.elim
 exact aaI pins s σ H _ _ v u Q I rx ry h
def eqo (ob:Option HO)(H:Hp)(Q:VK):Prop:=match ob with
 | some (.lst _)=>Q (.bl false) H
 | some (.tup _)=>Q (.bl false) H
 | _=>False
def Mj:R2:=fun x y H Q=>match x,y with
 | .ref p,.str _=>eqo (H p) H Q
 | x,y=>rEq x y H Q
theorem V6 (i j:Int)(H:Hp)(Q:VK):Mj (.int i) (.int j) H Q=rEq (.int i) (.int j) H Q:=rfl
theorem V7 (i j:Bool)(H:Hp)(Q:VK):Mj (.bl i) (.bl j) H Q=rEq (.bl i) (.bl j) H Q:=rfl
theorem V4 (i j:Str)(H:Hp)(Q:VK):Mj (.str i) (.str j) H Q=rEq (.str i) (.str j) H Q:=rfl
theorem V5 (H:Hp)(Q:VK):Mj .non .non H Q=rEq .non .non H Q:=rfl
theorem bV (hu:X.A.units<cLine):OpR X (CO .Eq) Mj:=by
 intro pins s σ H x y v u Q I rx ry h;unfold Mj at h;split at h
 ·rename_i p z;cases rx;obtain⟨t,rfl⟩:=ry;unfold eqo at h;split at h
  ·rename_i xs e;obtain⟨its,r,pl,hz⟩:=I.list (SqL.of e);exact SeqAt.RcAt.list_str z t pl.isList hu X.prog X.w X.xe (EP X pins σ Q) ⟨.bl false,H,I,rfl,h⟩
  ·rename_i xs e;obtain⟨its,r,pl,hz⟩:=I.tuple (SqT.of e);exact SeqAt.RcAt.tuple_str z t pl hu X.prog X.w X.xe (EP X pins σ Q) ⟨.bl false,H,I,rfl,h⟩
  exact h.elim
 exact acg pins s σ H _ _ v u Q I rx ry h
theorem sW {x:Str}{v:V}{u:Ap}(hg:Gl X x)(hm:X.mg x=some u)(r:RelV v u)(b:Bn x):QE X (.Name x pos) (tC v):=⟨WW hg hm r b.hd⟩
end
mutual
inductive bC (ok:Addr->Prop)(H:Hp):V->A7->Prop
 | non:bC ok H .non .none
 | bl (b:Bool):bC ok H (.bl b) (.bool b)
 | int (i:Int):bC ok H (.int i) (.int i)
 | str (x:Str):bC ok H (.str x) (.str x)
 | lst {p:Addr} {xs:List V} {ds:List A7}:ok p->H p=some (.lst xs)->xs.length<=1000000->aN ok H xs ds->bC ok H (.ref p) (.list ds)
 | tup {p:Addr} {xs:List V} {ds:List A7}:ok p->H p=some (.tup xs)->xs.length<=1000000->aN ok H xs ds->bC ok H (.ref p) (.tuple ds)
inductive aN (ok:Addr->Prop)(H:Hp):List V->List A7->Prop
 | nil:aN ok H [] []
 | cons {x:V} {d:A7} {xs:List V} {ds:List A7}:bC ok H x d->aN ok H xs ds->aN ok H (x::xs) (d::ds)
end
mutual
theorem bC.keep {ok ok':Addr->Prop}{H H':Hp}(k:∀a o,ok a->H a=some o->ok' a/\H' a=some o):∀{v:V}{d:A7},bC ok H v d->bC ok' H' v d
 | _,_,.non=>.non
 | _,_,.bl b=>.bl b
 | _,_,.int i=>.int i
 | _,_,.str x=>.str x
 | _,_,.lst o e z t=>.lst (k _ _ o e).1 (k _ _ o e).2 z (aN.keep k t)
 | _,_,.tup o e z t=>.tup (k _ _ o e).1 (k _ _ o e).2 z (aN.keep k t)
theorem aN.keep {ok ok':Addr->Prop}{H H':Hp}(k:∀a o,ok a->H a=some o->ok' a/\H' a=some o):∀{vs:List V}{ds:List A7},aN ok H vs ds->aN ok' H' vs ds
 | _,_,.nil=>.nil
 | _,_,.cons t r=>.cons (bC.keep k t) (aN.keep k r)
end
theorem bC.same {ok:Addr->Prop}{H H':Hp}{v:V}{d:A7}(t:bC ok H v d)(s:Same H H'):bC ok H' v d:=t.keep fun a o h e=>⟨h,s a o e⟩
theorem aN.same {ok:Addr->Prop}{H H':Hp}{v:List V}{d:List A7}(t:aN ok H v d)(s:Same H H'):aN ok H' v d:=t.keep fun a o h e=>⟨h,s a o e⟩
theorem aN.length {ok:Addr->Prop}{H:Hp}:∀{vs:List V}{ds:List A7},aN ok H vs ds->vs.length=ds.length
 | _,_,.nil=>rfl
 | _,_,.cons _ r=>by rw[BA,BA,r.length]
theorem aN.append {ok:Addr->Prop}{H:Hp}:∀{vs ws:List V}{ds es:List A7},aN ok H vs ds->aN ok H ws es->aN ok H (vs++ws) (ds++es)
 | _,_,_,_,.nil,t=>t
 | _,_,_,_,.cons h r,t=>.cons h (r.append t)
theorem aN.get {ok:Addr->Prop}{H:Hp}:∀{vs:List V}{ds:List A7}{i:Nat}{v:V},aN ok H vs ds->vs[i]?=some v->∃d,ds[i]?=some d/\bC ok H v d
 | _,_,0,_,.cons h _,e=>by cases e;exact⟨_,rfl,h⟩
 | _,_,i+1,_,.cons _ r,e=>aN.get r (i:=i) e
theorem aN.take {ok:Addr->Prop}{H:Hp}:∀{vs:List V}{ds:List A7}(n:Nat),aN ok H vs ds->aN ok H (vs.take n) (ds.take n)
 | _,_,0,_=>.nil
 | _,_,_+1,.nil=>.nil
 | _,_,n+1,.cons h r=>.cons h (r.take n)
theorem aN.drop {ok:Addr->Prop}{H:Hp}:∀{vs:List V}{ds:List A7}(n:Nat),aN ok H vs ds->aN ok H (vs.drop n) (ds.drop n)
 | _,_,0,h=>h
 | _,_,_+1,.nil=>.nil
 | _,_,n+1,.cons _ r=>r.drop n
section
variable {X:Cx}{pins:List (Addr×Obj)}{σ:St}{H:Hp}{s:AA}{ok:Addr->Prop}
mutual
theorem bC.reads (I:Inv X pins σ H s):∀{v:V}{d:A7}{u:Ap},bC ok H v d->RelV v u->∃as,Reads s.heap u d as
 | _,_,_,.non,r=>by cases r;exact⟨_,.none⟩
 | _,_,_,.bl b,r=>by cases r;exact⟨_,.bool b⟩
 | _,_,_,.int i,r=>by obtain⟨t,rfl⟩:=r;exact⟨_,.int i t⟩
 | _,_,_,.str x,r=>by obtain⟨t,rfl⟩:=r;exact⟨_,.str x t⟩
 | _,_,_,.lst o e z t,r=>by
  cases r;obtain⟨its,rv,pl,hz⟩:=I.list (SqL.of e);obtain⟨ob,h1,h2,n,h3⟩:=pl.isList;obtain⟨as,h4⟩:=aN.reads I t rv;exact⟨_,.list h1 h2 h3 (by simpa using h4)⟩
 | _,_,_,.tup o e z t,r=>by
  cases r;obtain⟨its,rv,pl,hz⟩:=I.tuple (SqT.of e);obtain⟨ob,h1,h2,n,h3⟩:=pl;obtain⟨as,h4⟩:=aN.reads I t rv;exact⟨_,.tuple h1 h2 h3 (by simpa using h4)⟩
theorem aN.reads (I:Inv X pins σ H s):∀{vs:List V}{ds:List A7}{us:List Ap},aN ok H vs ds->Vals vs us->∃as,ReadsAll s.heap us ds as
 | _,_,_,.nil,r=>by cases r;exact⟨_,.nil⟩
 | _,_,_,.cons h t,r=>by
  cases r with
  | cons r1 r2=>
   obtain⟨as,h1⟩:=bC.reads I h r1;obtain⟨bs,h2⟩:=aN.reads I t r2;exact⟨_,.cons h1 h2⟩
end
end
mutual
def nodes:A7->Nat
 | .list ds=>1+fO ds
 | .tuple ds=>1+fO ds
 | _=>1
def fO:List A7->Nat
 | []=>0
 | d::ds=>nodes d+fO ds
end
mutual
def smD:A7->Bool
 | .none=>true
 | .bool _=>true
 | .int i=>decide (i.natAbs<2^50\/i.natAbs=10^20\/i.natAbs<2^55)
 | .str x=>decide ((reprText x).length<=50)
 | .list ds=>sE ds
 | .tuple ds=>sE ds
 | .dict _=>false
def sE:List A7->Bool
 | []=>true
 | d::ds=>smD d&&sE ds
end
theorem Kr {i:Int}(h:i.natAbs<2^70):(FH (toString i)).length<=71:=by
 rw[PySem.ofString_length];have:=int_text_length_le10 (a:=i) (k:=30) δ ω;omega
mutual
theorem zU:∀(d:A7),smD d=true->d.shown.length+2<=80*nodes d
 | .none,_=>by decide
 | .bool b,_=>by cases b <;> decide
 | .int i,h=>by
  have h1:i.natAbs<2^70:=by
   have:i.natAbs<2^50\/i.natAbs=10^20\/i.natAbs<2^55:=of_decide_eq_true (by simpa [smD] using h);omega
  have:=Kr h1;show(FH (toString i)).length+2<=80*1;omega
 | .str x,h=>by
  have h1:(reprText x).length<=50:=by simpa [smD] using h
  show(reprText x).length+2<=80*1;omega
 | .list ds,h=>by
  have h1:=mC ds (by simpa [smD] using h);have h2:=listText_len_le (A7.shownAll ds);rw[A7.shown.eq_5,nodes];omega
 | .tuple ds,h=>by
  have h1:=mC ds (by simpa [smD] using h);have h2:=tupleText_len_le (A7.shownAll ds);rw[A7.shown.eq_6,nodes];omega
 | .dict kvs,h=>by simp [smD] at h
theorem mC:∀(ds:List A7),sE ds=true->((A7.shownAll ds).map fun x=>x.length).sum+2*(A7.shownAll ds).length<=80*fO ds
 | [],_=>by simp [A7.shownAll,fO]
 | d::ds,h=>by
  rw[sE,C1] at h;have h1:=zU d h.1;have h2:=mC ds h.2;rw[A7.shownAll.eq_2,fO,F9,MG,BA];omega
end
mutual
theorem Bm:∀(d:A7),smD d=true->d.showable=true/\d.hasDict=false
 | .none,_=>⟨rfl,rfl⟩
 | .bool b,_=>⟨rfl,rfl⟩
 | .int i,h=>by
  refine⟨?_,rfl⟩;have h1:i.natAbs<2^70:=by
   have:i.natAbs<2^50\/i.natAbs=10^20\/i.natAbs<2^55:=of_decide_eq_true (by simpa [smD] using h);omega
  show decide (i.natAbs.log2<1920)=true;refine decide_eq_true ?_;by_cases z:i.natAbs=0
  ·rw[z];decide
  have:=(log2_lt z).mpr h1;omega
 | .str x,_=>⟨rfl,rfl⟩
 | .list ds,h=>by
  obtain⟨h1,h2⟩:=qQ ds (by simpa [smD] using h);exact⟨h1,h2⟩
 | .tuple ds,h=>by
  obtain⟨h1,h2⟩:=qQ ds (by simpa [smD] using h);exact⟨h1,h2⟩
 | .dict kvs,h=>by simp [smD] at h
theorem qQ:∀(ds:List A7),sE ds=true->A7.showableAll ds=true/\A7.hasDictAll ds=false
 | [],_=>⟨rfl,rfl⟩
 | d::ds,h=>by
  rw[sE,C1] at h;obtain⟨h1,h2⟩:=Bm d h.1;obtain⟨h3,h4⟩:=qQ ds h.2;refine⟨?_,?_⟩
  ·rw[A7.showableAll.eq_2,h1,h3];rfl
  rw[A7.hasDictAll.eq_2,h2,h4];rfl
end
structure Va (d:A7):Prop where
 sm:smD d=true
 nd:nodes d<=200000
 dp:d.depth<=100
theorem Va.len {d:A7}(t:Va d):d.shown.length<=AM:=by
 have h1:=zU d t.sm;have h2:=t.nd;have h3:16000000<=AM:=by decide
 omega
section
variable {X:Cx}{tg l:Expr}{tl:TE}
def itq (K:AC)(ob:Option HO)(a:Addr)(H:Hp)(R:It->Hp->Prop):Prop:=match ob with
 | some (.lst _)=>R (Itl K a) H
 | some (.tup _)=>R (Itt K a) H
 | _=>False
def itK (K:AC)(x:V)(H:Hp)(R:It->Hp->Prop):Prop:=match x with
 | .ref a=>itq K (H a) a H R
 | _=>False
def Ks (K:AC)(tl:TE):TI:=fun σ H R=>tl σ H fun x H1=>itK K x H1 R
theorem Tg (K:AC)(tl:TE)(σ:St)(H:Hp)(R:It->Hp->Prop):Ks K tl σ H R=tl σ H fun x H1=>itK K x H1 R:=rfl
theorem X3 (K:AC)(a:Addr)(H:Hp)(R:It->Hp->Prop):itK K (.ref a) H R=itq K (H a) a H R:=rfl
theorem XM (K:AC)(xs:List V)(a:Addr)(H:Hp)(R:It->Hp->Prop):itq K (some (.lst xs)) a H R=R (Itl K a) H:=rfl
theorem WM (hl:PE X l tl):PI X tg l (Ks X.K tl):=by
 intro pins s σ H R I h;refine thn (hl pins s σ H _ I h) fun v s1 ⟨x,H1,I1,r1,q1⟩=>?_;cases x with
 | ref a=>
  replace q1:itq X.K (H1 a) a H1 R:=q1;cases r1;unfold itq at q1;split at q1
  ·rename_i xs e;obtain⟨its,rv,p,hz⟩:=I1.list (SqL.of e);refine HQ p.isList ?_;refine⟨s1.heap.objs.size,[s1.heap.objs.size],_,_,H1,rfl,I1.kept (t':=s1.toks) fun b o e=>AD _ e,Le a _,⟨_,A8 _ rfl,rfl,rfl⟩,fun b hb=>?_,q1⟩;have e:b=s1.heap.objs.size:=by simpa using hb
   subst e;exact I1.TY (AY _) (I1.hok.fresh (AY _))
  ·rename_i xs e;obtain⟨its,rv,p,hz⟩:=I1.tuple (SqT.of e);refine wpAny_pyIter_tuple (show s1.heap.IsTuple a its.toArray from p) ?_;refine⟨s1.heap.objs.size,[s1.heap.objs.size],_,_,H1,rfl,I1.kept (t':=s1.toks) fun b o e=>AD _ e,GP a _,⟨_,A8 _ rfl,rfl,rfl⟩,fun b hb=>?_,q1⟩;have e:b=s1.heap.objs.size:=by simpa using hb
   subst e;exact I1.TY (AY _) (I1.hok.fresh (AY _))
  exact q1.elim
 | _=>exact q1.elim
theorem dB (hl:QE X l tl):QI X tg l (Ks X.K tl):=⟨WM hl.h⟩
end
section
variable {mp:List (Option Nat)}{g:TG}{tc:TT}{te:TE}{σ:St}{H:Hp}{Q:VK}{R:It->Hp->Prop}{K:AC}
def BoolsTo (H0:Hp)(f:V->Bool)(xs:List V)(i:Nat)(acc:List V)(H':Hp):Prop:=Same H0 H'/\acc=((xs.take i).map f).map V.bl
end
def NewOk (ok:Addr->Prop)(H0:Hp):Prop:=∀H p,Same H0 H->H p=none->ok p
def wI:Sp:=fun vs H Q _=>∃w s,vs=[.int w,.int s]/\1<=w/\w<=40/\(s=0\/s=1)/\Q (.int (wl w s)) H
def vZ:Sp:=fun vs H Q _=>∃w s,vs=[.int w,.int s]/\1<=w/\w<=40/\(s=0\/s=1)/\Q (.int (wl w s+2^w.toNat-1)) H
section
variable {X:Cx}{NX N:List Str}{kX:List (Str×DS)}{mp:List (Option Nat)}{scope:FA}
set_option maxHeartbeats 8000000 in
theorem Wt {tg iter elt:Expr}{ifs:List Expr}{pos pos' pos2:Pos}{wi:TI}{g:TG}{tc:TT}{te:TE}{i:Nat}{x:Str}(N:List Str)(mp:List (Option Nat))(hn:Nm X.N X.env.scope i x)(hNd:X.N.Nodup)(hNX:X.N=NX)(hkX:X.env.scope.names=kX)(S:vH NX kX N mp scope)(hc:X.calm=true)
  (hi:PI X tg iter wi) (hg:∀cl C s H fp,PG (bD X N scope cl C s H fp) tg g) (ht:∀cl C s H fp,PTs (bD X N scope cl C s H fp) ifs tc) (he:∀cl C s H fp,PE (bD X N scope cl C s H fp) elt te)
  (hf:X.fn x=true\/X.env.scope.names.lookup x=some .local:=by exact .inl rfl)
  (hsw:FX [.Name x pos'] (.ListComp elt [⟨tg,iter,ifs,0⟩] scope pos) pos2.line X.env=pure true:=by rfl)
  (h1:(D6 [.Name x pos'] X.env).map (·.2)=[GW (.Name x pos') X.env]:=by rfl)
  (hs:∀x,CY iter X.env x=pure x:=by intro _;rfl):PS X (.Assign [.Name x pos'] (.ListComp elt [⟨tg,iter,ifs,0⟩] scope pos) pos2) (vI (zQ mp wi g tc te) (jZ i)):=by
 intro pins s σ H Dn I h;rw[exec_Assign_arm];refine An (DV ?_);rw[hsw];refine An (Au ?_);rw[if_pos rfl,h1];replace h:zQ mp wi g tc te σ H (fun v H1=>Dn.nx (σ.set i (some v)) H1):=h;obtain⟨cl,hcl,hsub,hhas⟩:=CZ (env:=X.env) (scope:=scope) fun y hy hf=>I.ok.has y.1 (by
  rcases S.fre y hy hf with q|q
  ·exact .inl (show X.env.scope.names.lookup y.1=_ by rw[hkX];exact q)
  exact .inr (show X.env.scope.names.lookup y.1=_ by rw[hkX];exact q))
 generalize hQ:(fun(v:V)(H1:Hp)=>Dn.nx (σ.set i (some v)) H1)=Q at h
 let QQ:Ap->AA->Prop:=fun _ s'=>∃τ H',Inv X pins τ H' s'/\Dn.nx τ H'
 refine An (An (thn (Q:=QQ) (LB (e:=.ListComp elt [⟨tg,iter,ifs,0⟩] scope pos) (use:=some fun v=>assignAll v [GW (.Name x pos') X.env]) rfl hs hcl S.kind S.locs ?_) fun _ s' ⟨τ,H',I',q'⟩=>Au (Au ⟨τ,H',I',q'⟩)));refine thn (hi pins s σ H _ I h) fun v s1 h1=>thn h1 fun itv s2 h2=>?_;obtain⟨it,fp,tn,J,H2,e,I2,T,st2,f2,W,⟨m0,w0⟩,turn⟩:=h2;subst e;refine BM (MA S.nocell (by intro y hy;simp at hy) (fun h3 hns hsb=>?_) S.kind);dsimp only at hns hsb |-;have hold:∀b∈fp,b<s2.heap.objs.size:=fun b hb=>by
  obtain⟨o,q,_⟩:=T.obj _ _ st2 b hb;exact AZ q
 generalize hD:s2.heap.objs.size=D at hns hsb;generalize hH2:s2.heap.push { cls:=.type "list",dict:=none,data:=.seq ([]:List Ap).toArray }=P2 at hns hsb |-;have hC:P2.objs.size=D+1:=by rw[<- hH2,D7,hD]
 generalize hC':P2.objs.size=C at hns hsb |-;rw[hC'] at hC;have old:∀b o,s2.heap.get? b=some o->h3.get? b=some o:=fun b o q=>by
  have hb:=AZ q;exact hsb.extBut b o (na1 hb hD hC) (AD _ (hH2 ▸ AD _ q))
 have accD:h3.get? D=some { cls:=.type "list",data:=.seq ([]:List Ap).toArray }:=
  hsb.extBut _ _ (na2 hC) (AD _ (by rw[<- hH2,<- hD];exact A8 _ rfl))
 have hfr:D∉frs X.stack:=fun z=>by
  rcases BB.mp (I2.qP D z) with q|q
  ·exact na0 I2.lt hD q.symm
  exact I2.Xi (na4 hD) q
 have I0:Inv (bD X N scope cl C s2 H2 fp) [(D,{ cls:=.type "list",data:=.seq ([]:List Ap).toArray })] (jq mp σ) H2 { s2 with heap:=h3,toks:=s2.toks+([]:List (Str×Ap)).length }:=
  CW (s':={ s2 with heap:=h3,toks:=s2.toks+([]:List (Str×Ap)).length }) hNX hkX S I2 f2 hold (na3 hD hC) hsub hhas rfl rfl ⟨_,hns⟩ old fun p hp=>by
   have ep:=AK.mp hp;subst ep;exact⟨accD,I2.hok.fresh (na4 hD),na2 hC,hfr,fun v z=>by cases z⟩
 have T0:tn 0 h3:=T.keep _ _ _ st2 fun b _ o q=>old b o q;have loop:∀z:AA,z={ s2 with heap:=h3,toks:=s2.toks+([]:List (Str×Ap)).length } ->
   FG (AH X.prog X.w) X.A (.compLoop (.ListComp elt [⟨tg,iter,ifs,0⟩] scope pos) 0 (.ref it) (.ref D) (HP scope cl C X.env))
    (compPost (AH X.prog X.w) X.A X.xe (some fun v=>assignAll v [GW (.Name x pos') X.env]) QQ (.ref D) C) z:=by
  rintro z rfl;have stat:∀{H':Hp}{pl:List (Addr×Obj)},(∀b∈fp,H' b=none)->(∀p∈pl,p.1=D)->∀b∈fp,rT (bD X N scope cl C s2 H2 fp) pl H' b:=fun hn hp b hb=>by
   have hb2:=hold b hb;refine⟨hn b hb,na1 hb2 hD hC,(CV hkX S I2 f2 hold (na3 hD hC) hsub hhas).exfs b hb,.inl hb,fun x c q=>(f2 b hb).2.2.2.2.1 x c (hsub x c q),fun p hpp=>?_⟩;have hpD:=hp p (by simpa [bD] using hpp);rw[hpD];exact(na0 hb2 hD).symm
  refine Aq (env:=HP scope cl C X.env) (fun n z=>∃i acc τ H' its k,Inv (bD X N scope cl C s2 H2 fp) [(D,{ cls:=.type "list",data:=.seq (DM its) k })] τ H' z/\tn i z.heap/\(∀b∈fp,H' b=none)/\Vals acc its/\acc.length<=AM/\W i n acc τ H')
   ?_ m0 ⟨0,[],_,H2,[],0,I0,T0,fun b hb=>(f2 b hb).1,.nil,D2 _,w0⟩
  rintro n s5 ⟨i,acc,τ,H5,its,k,I5,st5,fr5,va,hz,w5⟩;rcases turn i n acc τ H5 w5 with⟨stop,qn⟩|⟨go,hz2,N9,hN9,step⟩
  ·refine thn (T.done (bD X N scope cl C s2 H2 fp) rfl rfl rfl hc i _ s5 τ H5 _ I5 (stat fr5 (by simp)) st5 stop) fun r s6 ⟨hr,I6⟩=>?_;subst hr;obtain⟨m6,hn6,_⟩:=I6.loc;obtain⟨dD,nD,_,_,_⟩:=I6.pin (D,_) (AQ _ (AK.mpr rfl));have U:=I6.base;have nC:H5 C=none:=I6.free;have ne:∀b o,s2.heap.get? b=some o->b≠C/\b≠D:=fun b o q=>by
    exact⟨na1 (AZ q) hD hC,na0 (AZ q) hD⟩
   have key:∀h',C3 C s6.heap h'->Inv X pins σ (upd H5 D (.lst acc)) { s6 with heap:=h' }:=fun h' sb=>by
    have keepC:∀b o,b≠C->s6.heap.get? b=some o->h'.get? b=some o:=fun b o hb q=>(sb.2 b hb).trans q;have U':Un (frs X.stack) fp H2 (upd H5 D (.lst acc)) s2.heap h':=by
     refine⟨fun b o q n1 hb hx=>keepC b o (ne b o q).1 (U.keep b o q n1 hb hx),fun b o q n1 hb hx=>?_,fun b o q n1 hx=>?_,fun b o q hx=>?_,fun b xs q=>?_,fun b o xs q=>?_,fun b ps q=>?_⟩
     ·obtain⟨sl,z⟩:=U.slot b o q n1 hb hx;exact⟨sl,keepC b _ (ne b o q).1 z⟩
     ·rw[aF (ne b o q).2];exact U.free b o q n1 hx
     ·obtain⟨o',z⟩:=U.there b o q hx;exact⟨o',keepC b _ (ne b o q).1 z⟩
     ·have z:=U.tups b xs q;rw[aF (aG z nD)];exact z
     ·have z:=U.frzs b o xs q;rw[aF (aG z nD)];exact z
     obtain⟨more,z⟩:=U.tbls b ps q;exact⟨more,by rw[aF (aG z nD)];exact z⟩
    have hok:HOk X.prog X.w (upd H5 D (.lst acc)) h':=fun b u q=>by
     by_cases hb:b=D
     ·subst hb;rw[aB] at q;cases q;exact⟨hz,its,k,va,keepC _ _ (na2 hC) dD⟩
     rw[aF hb] at q;refine(I6.hok b u q).stay (fun c v hcc z=>keepC c v ?_ z) (fun c z=>by rw[aF (aG z nD)];exact z) fun c xs z=>by rw[aF (aG z nD)];exact z
     rcases hcc with z1|z1
     ·subst z1;exact aG q nC
     exact aG z1 nC
    have I7:Inv X pins σ (upd H5 D (.lst acc)) { s6 with heap:=h' }:=I2.call' (s':={ s6 with heap:=h' }) (ch:=fp) I6.os U' hok I6.bare fun b hb=>by
     obtain⟨_,a2,_,a4,a5,a6⟩:=f2 b hb;exact⟨a4,a2,a5,a6⟩
    exact I7
   have I7:Inv X pins σ (upd H5 D (.lst acc)) s6:=key s6.heap (C3.refl _ _);have lC:X.env.locals≠C:=na1 I2.lt hD hC;have cC:∀y c,X.env.cells.lookup y=some c->c≠C:=fun y c z=>by
    obtain⟨_,o,h1,_⟩:=I2.cell y c z;exact na1 (AZ h1) hD hC
   show AE _ _ (GW (.Name x pos') X.env (.ref D)) _ _ s6;refine wpAny_assign_Name (zR (v:=.ref D) I7 hNd hn.hN hn.hv rfl (fun s7 I8 ⟨a,sa,ha⟩=>?_) hf);have aC:a≠C:=by
    rcases ha with rfl|ha
    ·exact lC
    exact cC _ _ ha
   obtain⟨o6,es6,ep6,g1,g2,g3,g4⟩:=hn6;refine⟨m6,⟨o6,es6,ep6,(sa.2 C (B2 aC)).trans g1,g2,g3,g4⟩,fun h' sb=>?_⟩;have q9:=qn D nD;rw[<- hQ] at q9;refine⟨_,_,I8.turned (it:=C) (t':=s7.toks) (fun b o hb q=>(sb.2 b hb).trans q) ?_ (B2 lC) (.inr (BN I2.sz (na3 hD hC))) cC (fun p hp=>?_),q9⟩
   ·rw[aF (B2 (na2 hC))];exact nC
   obtain⟨h1,_⟩:=I2.pin p hp;exact na1 (AZ h1) hD hC
  refine thn (T.item (bD X N scope cl C s2 H2 fp) rfl rfl rfl hc i _ s5 τ H5 _ I5 (stat fr5 (by simp)) st5 go) fun r s6 ⟨u,hr,h6⟩=>?_;subst hr;refine thn h6 fun _ s7 ⟨x,H7,I7,r7,y7,st7,fr7⟩=>?_;have I7':=I7.pinned (stat fr7 (by simp)) (T.obj _ _ st7);have no:∀{α:Type}{t:Sem α}{Q1 Q2:α->AA->Prop}{E:Ap->AA->Prop}{z:AA},AE (AH X.prog X.w) X.A t Q1 (fun _ _=>False) z->(∀a z,Q1 a z->Q2 a z)->AE (AH X.prog X.w) X.A t Q2 E z:=
   fun q f=>BO q f fun _ _ z=>z.elim
  refine no (hg cl C s2 H2 fp _ s7 τ H7 x u _ I7' r7 (step x H7 y7)) fun _ s8 ⟨τ1,H8,I8,q8⟩=>?_;refine no (ht cl C s2 H2 fp _ s8 τ1 H8 _ I8 q8) fun ok s9 ⟨H9,I9,q9⟩=>?_;have LH:∀{H':Hp}{z:AA}{its':List Ap}{k':Nat},Inv (bD X N scope cl C s2 H2 fp) ([(D,{ cls:=.type "list",data:=.seq (DM its') k' })]++gq fp s7.heap) τ1 H' z ->
    tn (i+1) z.heap/\(∀b∈fp,H' b=none)/\Inv (bD X N scope cl C s2 H2 fp) [(D,{ cls:=.type "list",data:=.seq (DM its') k' })] τ1 H' z:=fun {H' z its' k'} Iz=>by
   have get:∀b∈fp,∀o,s7.heap.get? b=some o->z.heap.get? b=some o/\H' b=none:=fun b hb o q=>by
    obtain⟨a1,a2,_⟩:=Iz.pin (b,o) (AQ _ (AQ _ (iZ hb q)));exact⟨a1,a2⟩
   refine⟨T.keep _ _ _ st7 fun b hb o q=>(get b hb o q).1,fun b hb=>?_,Iz.jC⟩;obtain⟨o,q,_⟩:=T.obj _ _ st7 b hb;exact(get b hb o q).2
  cases ok with
  | false=>
   rw[if_neg A5] at q9 |-;obtain⟨m',hm,w9⟩:=hN9 _ _ _ q9;obtain⟨a1,a2,a3⟩:=LH I9;exact⟨m',hm,i+1,acc,τ1,H9,its,k,a3,a1,a2,va,hz,w9⟩
  | true=>
   rw[if_pos rfl] at q9 |-;refine no (he cl C s2 H2 fp _ s9 τ1 H9 _ I9 q9) fun y s10 ⟨v,H10,I10,rv,q10⟩=>?_;obtain⟨m',hm,w10⟩:=hN9 _ _ _ q10;obtain⟨a1,a2,a3⟩:=LH I10;obtain⟨dD,nD,_,_,_⟩:=a3.pin (D,_) (AQ _ (AK.mpr rfl));have hlen:=va.length;refine Iy KA ⟨_,dD,rfl⟩ Jn (IU _ _) (K2 D its.toArray k y (by rw[Bz];omega)) ⟨dD,?_⟩;obtain⟨k',q⟩:∃k',(s10.heap.update D (Cf fun a=>a.push y)).get? D=some { cls:=.type "list",data:=.seq (its++[y]).toArray k' }:=by
    have q:=LI dD (fun a=>a.push y);rw[show its.toArray.push y=(its++[y]).toArray by simp] at q;exact⟨_,q⟩
   have a4:Inv (bD X N scope cl C s2 H2 fp) (gq fp s7.heap) τ1 H10 s10:=I10.kE fun p hp=>I10.pin p (AQ _ (AQ _ hp));have a5:Inv (bD X N scope cl C s2 H2 fp) (gq fp s7.heap) τ1 H10 { s10 with heap:=s10.heap.update D (Cf fun a=>a.push y),toks:=s10.toks }:=
    a4.turned (it:=D) (fun b o hb z=>(BU _ _ (B2 hb)).trans z) nD (na2 hC) (.inr (na4 hD))
     (fun x c z=>by
      obtain⟨_,o,h1,_⟩:=I2.cell x c (hsub x c z);exact na0 (AZ h1) hD) fun p hp=>by
      have hb:=(qe (by simpa [bD] using hp)).1;exact na0 (hold _ hb) hD
   obtain⟨b1,b2,b3⟩:=(show tn (i+1) (s10.heap.update D (Cf fun a=>a.push y))/\(∀b∈fp,H10 b=none)/\True from
    ⟨T.keep _ _ _ a1 fun b hb o z=>(BU _ _ (na0 (hold b hb) hD).symm).trans z,a2,trivial⟩)
   refine⟨m',hm,i+1,acc++[v],τ1,H10,its++[y],k',a5.kE fun p hp=>?_,b1,b2,va.append (.cons rv .nil),by rw[AO,A9];omega,w10⟩;have ep:=AK.mp hp;subst ep;exact⟨q,nD,na2 hC,hfr,fun v z=>by cases z⟩
 have e1:{ newEnv scope C X.env.globals cl X.env.qual none .none (some X.env) X.env.builtins with scope:=relabel scope X.env }=HP scope cl C X.env:=rfl;exact L6 (loop _ rfl) (T.self _ 0 _ _ _ T0 (loop _ rfl))
theorem BJ {tg iter elt:Expr}{ifs:List Expr}{pos pos' pos2:Pos}{wi:TI}{g:TG}{tc:TT}{te:TE}{i:Nat}{x:Str}(N:List Str)(mp:List (Option Nat))(hn:Nm X.N X.env.scope i x)(hNd:X.N.Nodup)(hNX:X.N=NX)(hkX:X.env.scope.names=kX)(S:vH NX kX N mp scope)(hc:X.calm=true)
  (hi:QI X tg iter wi) (hg:∀cl C s H fp,QG (bD X N scope cl C s H fp) tg g) (ht:∀cl C s H fp,QC (bD X N scope cl C s H fp) ifs tc) (he:∀cl C s H fp,QE (bD X N scope cl C s H fp) elt te)
  (hf:X.fn x=true\/X.env.scope.names.lookup x=some .local:=by exact .inl rfl)
  (hsw:FX [.Name x pos'] (.ListComp elt [⟨tg,iter,ifs,0⟩] scope pos) pos2.line X.env=pure true:=by rfl)
  (h1:(D6 [.Name x pos'] X.env).map (·.2)=[GW (.Name x pos') X.env]:=by rfl)
  (hs:∀x,CY iter X.env x=pure x:=by intro _;rfl):QS X (.Assign [.Name x pos'] (.ListComp elt [⟨tg,iter,ifs,0⟩] scope pos) pos2) (vI (zQ mp wi g tc te) (jZ i)):=
 ⟨Wt N mp hn hNd hNX hkX S hc hi.h (fun cl C s H fp=>(hg cl C s H fp).h) (fun cl C s H fp=>(ht cl C s H fp).h) (fun cl C s H fp=>(he cl C s H fp).h) hf hsw h1 hs⟩
end
def Dv (H0:Hp)(f:A7->Bool)(ds:List A7)(ok:St->Prop)(i:Nat)(acc:List V)(τ:St)(H':Hp):Prop:=Same H0 H'/\ok τ/\acc=((ds.take i).map f).map V.bl
section
variable {mp:List (Option Nat)}{g:TG}{te:TE}{σ:St}{H:Hp}{Q:VK}{R:It->Hp->Prop}{K:AC}{a:Addr}{xs:List V}{ds:List A7}{ok:Addr->Prop}
theorem take_snoc {α:Type}{l:List α}{i:Nat}{x:α}(h:l[i]?=some x):l.take (i+1)=l.take i++[x]:=by
 rw[CM,h];rfl
theorem Jp {f:A7->Bool}{d:A7}{i:Nat}(h:ds[i]?=some d):((ds.take (i+1)).map f).map V.bl=((ds.take i).map f).map V.bl++[V.bl (f d)]:=by
 rw[take_snoc h,DJ,DJ];rfl
theorem Oa (f:A7->Bool)(ds:List A7)(i:Nat):(((ds.take i).map f).map V.bl).length<=i:=by
 simp only[AV,D4];omega
theorem uw (f:A7->Bool)(okT:St->Prop)(hR:R=Gw mp g Vs te σ Q)(tr:aN ok H xs ds)(e:H a=some (.lst xs))(hz:xs.length<=1000000)(h0:okT (jq mp σ))
  (hs:∀x d τ H1 (Qn:V->St->Hp->Prop),d∈ds->Same H H1->bC ok H1 x d->okT τ->(∀τ1 H6,okT τ1->Same H1 H6->Qn (.bl (f d)) τ1 H6)->g x τ H1 fun τ1 H4=>te τ1 H4 fun v H6=>Qn v τ1 H6)
  (hd:∀H2 d,Same H H2->H2 d=none->Q (.ref d) (upd H2 d (.lst ((ds.map f).map V.bl)))):R (Itl K a) H:=by
 have hl:=tr.length;refine rJ hR (aO hz) (Dv H f ds okT) ⟨Same.refl _,h0,rfl⟩ (fun i acc τ H1 ⟨_,_,e⟩=>by rw[e];exact Oa f ds i) (fun i acc τ H1 ⟨s,_,_⟩=>SqL.of (s _ _ e)) (fun i x acc τ H1 hx ⟨s,k,ea⟩=>?_) (fun acc τ H1 d ⟨s,k,ea⟩ hn=>?_)
 ·obtain⟨d,hd2,td⟩:=tr.get hx;have z:=hs x d τ H1 (fun v τ1 H6=>Dv H f ds okT (i+1) (acc++[v]) τ1 H6) (BF hd2) s (td.same s) k fun τ1 H6 k1 s6=>⟨s.trans s6,k1,by rw[ea,Jp hd2]⟩;show g x τ H1 fun τ1 H4=>if true=true then te τ1 H4 fun v H6=>Dv H f ds okT (i+1) (acc++[v]) τ1 H6 else Dv H f ds okT (i+1) acc τ1 H4;simp only[if_true];exact z
 rw[ea,hl,DD];exact hd H1 d s hn
end
def itD:It1->A7
 | .one a=>.tuple [.str "is",.int a]
 | .rng a b=>.tuple [.str "from",.int a,.int b]
 | .bits m v=>.tuple [.str "bits",.int m,.int v]
def lW (its:List It1):A7:=.list (its.map itD)
def qm (w s:Int)(css:List (List It1)):A7:=.tuple [.int w,.int s,.list (css.map lW)]
theorem pQ.tree {H:Hp}{t:Addr}{it:It1}{ok:Addr->Prop}(h:pQ H t it)(o:ok t):bC ok H (.ref t) (itD it):=by
 cases it with
 | one a=>exact .tup o h.h (by show 2<=1000000;decide) (.cons (.str _) (.cons (.int _) .nil))
 | rng a b=>exact .tup o h.h (by show 3<=1000000;decide) (.cons (.str _) (.cons (.int _) (.cons (.int _) .nil)))
 | bits m v=>exact .tup o h.h (by show 3<=1000000;decide) (.cons (.str _) (.cons (.int _) (.cons (.int _) .nil)))
theorem yr {p c:Addr}{H Hk:Hp}{B:Int}(s:dW p H Hk)(t:bM Hk p B)(h:Hk c=none):c≠p/\H c=none:=by
 have n:=t.ne h;refine⟨n,?_⟩;cases e:H c with
 | none=>rfl
 | some o=>rw[s _ _ n e] at h;cases h
theorem pZ {p c:Addr}{H H':Hp}{o:HO}(s:dW p H H')(h:H c=none):dW p H (upd H' c o):=fun b u n e=>by
 rw[aF (aG e h)];exact s b u n e
theorem bM.upd {H:Hp}{p c:Addr}{B:Int}{o:HO}(t:bM H p B)(n:c≠p):bM (upd H c o) p B:=by
 obtain⟨a,b,c',e,r⟩:=t;exact⟨a,b,c',by rw[aF (B2 n)];exact e,r⟩
theorem yN {α:Type}(l:List α)(x:α):atI (l++[x]) (-1)=some x:=by
 unfold atI ixN;rw[if_neg δ,if_pos (by rw[AO,A9];omega)];show(l++[x])[_]?=some x;rw[F2 (by rw[AO,A9];omega)];rw[show(-1+((l++[x]).length:Int)).toNat-l.length=0 by rw[AO,A9];omega];rfl
def Pr:Sp:=fun vs H Q _=>∃(p:Addr)(B:Int),vs=[.ref p]/\bM H p B/\0<=B/\B<=900000 /\
 ∀(w s:Int)(t:Addr)(css:List (List It1)) H',1<=w->w<=40->(s=0\/s=1)->dW p H H'->bM H' p (B+6000)->bC (·≠p) H' (.ref t) (qm w s css) ->
  (∀its∈css,its.length<=6/\∀it∈its,it.Ok w s)->css.length<=12->Q (.ref t) H'
theorem Cy {w s:Int}:cG w s (wl w s):=⟨DE _,by have:=two_pow_pos w.toNat;omega⟩
structure Bd (n k:Nat)(d:A7):Prop where
 sm:smD d=true
 nd:nodes d<=n
 dp:d.depth<=k
theorem Bd.tell {n k:Nat}{d:A7}(b:Bd n k d)(h1:n<=200000)(h2:k<=100):Va d:=⟨b.sm,BN b.nd h1,BN b.dp h2⟩
theorem Jw {n k:Nat}:∀{ds:List A7},(∀d∈ds,Bd n k d)->sE ds=true/\fO ds<=ds.length*n/\A7.depthAll ds<=k
 | [],_=>⟨rfl,D2 _,D2 _⟩
 | d::ds,h=>by
  have h1:=h d BE;obtain⟨a,b,c⟩:=Jw fun x hx=>h x (A4 _ hx);have:=h1.nd;have:=h1.dp;refine⟨by rw[sE,h1.sm,a];rfl,?_,?_⟩
  ·rw[fO,BA,succ_mul];omega
  rw[A7.depthAll.eq_2];omega
theorem K4 {n k m:Nat}{ds:List A7}(h:∀d∈ds,Bd n k d)(hl:ds.length<=m):Bd (1+m*n) (k+1) (.list ds):=by
 obtain⟨a,b,c⟩:=Jw h;have:=Nat.mul_le_mul_right n hl;refine⟨a,?_,?_⟩
 ·show 1+fO ds<=_;omega
 rw[A7.depth.eq_1];omega
theorem yL {n k m:Nat}{ds:List A7}(h:∀d∈ds,Bd n k d)(hl:ds.length<=m):Bd (1+m*n) (k+1) (.tuple ds):=by
 obtain⟨a,b,c⟩:=Jw h;have:=Nat.mul_le_mul_right n hl;refine⟨a,?_,?_⟩
 ·show 1+fO ds<=_;omega
 rw[A7.depth.eq_2];omega
theorem yM {i:Int}(h:i.natAbs<2^55):Bd 1 0 (.int i):=⟨by show decide _=true;exact decide_eq_true (.inr (.inr h)),AY _,AY _⟩
theorem abG {x:Str}(h:(reprText x).length<=50):Bd 1 0 (.str x):=⟨by show decide _=true;exact decide_eq_true h,AY _,AY _⟩
theorem Dg {x:Str}(h:x = "is" \/ x = "from" \/ x = "bits"):Bd 1 0 (.str x):=by
 rcases h with rfl|rfl|rfl <;> exact abG ψ
theorem YS {w s:Int}{it:It1}(hw1:1<=w)(hw2:w<=40)(hs:s=0\/s=1)(h:it.Ok w s):Bd 4 1 (itD it):=by
 have b:=jy hw1 hw2 hs;have ik:∀{a:Int},cG w s a->a.natAbs<2^55:=fun {a} h=>by have:=h.1;have:=h.2;omega
 have nk:∀{a:Nat},a<2^w.toNat->((a:Int)).natAbs<2^55:=fun {a} h=>by
  have:2^w.toNat<=2^40:=B6 δ ω;omega
 cases it with
 | one a=>
  refine(yL (n:=1) (k:=0) (m:=3) ?_ (by show 2<=3;decide));intro d hd;simp only[BB,Cs,or_false] at hd;rcases hd with rfl|rfl
  ·exact Dg (.inl rfl)
  exact yM (ik h)
 | rng a c=>
  refine(yL (n:=1) (k:=0) (m:=3) ?_ (by show 3<=3;decide));intro d hd;simp only[BB,Cs,or_false] at hd;rcases hd with rfl|rfl|rfl
  ·exact Dg (.inr (.inl rfl))
  ·exact yM (ik h.1)
  exact yM (ik h.2.1)
 | bits m v=>
  refine(yL (n:=1) (k:=0) (m:=3) ?_ (by show 3<=3;decide));intro d hd;simp only[BB,Cs,or_false] at hd;rcases hd with rfl|rfl|rfl
  ·exact Dg (.inr (.inr rfl))
  ·exact yM (nk h.1)
  exact yM (nk h.2.1)
theorem YT {w s:Int}{its:List It1}{m:Nat}(hw1:1<=w)(hw2:w<=40)(hs:s=0\/s=1)(h:∀it∈its,it.Ok w s)(hl:its.length<=m):Bd (1+m*4) 2 (lW its):=
 K4 (fun d hd=>by
  obtain⟨it,hi,rfl⟩:=EF.mp hd;exact YS hw1 hw2 hs (h it hi)) (by rw[AV];exact hl)
theorem fK.Zb {k:Nat}{A:A3}(r:fK k A):A.units+200<cLine:=by have:=r.un;omega
theorem gY {prog:AW}{w:BC}{A:A3}{E:Ap->AA->Prop}{s:AA}{it t:Addr}{i:Nat}{items:Array Ap}{x:Ap}{Q:Ap->AA->Prop}(hit:s.heap.IsTupleIter it t i)(ht:s.heap.IsTuple t items)(hx:items[i]?=some x)
  (hQ:∀h',h'.IsTupleIter it t (i+1)->C3 it s.heap h'->Q x { s with heap:=h' }):AE (AH prog w) A (AX.SmallTypes.nextOf (Ap.ref it)) Q E s:=by
 obtain⟨o,ho,hc,hd⟩:=id hit;obtain⟨ol,hol,hcl,nl,hdl⟩:=ht;unfold AX.SmallTypes.nextOf;refine An (CS hit.typeIs Go (CU Go hit.typeIs F.entry_tuple_iterator_next ?_ (F.args_tuple_iterator_next_1 _)));refine An (Au (An (Co ho hd (i:=0) rfl ?_)));refine C6 rfl (An (Co ho hd (i:=1) rfl ?_));refine An (EC hol hdl ?_);show AE _ _ (match items[(i:Int).toNat]? with
  | some x=>(do G1 (.ref it) 1 (Fh ((i:Int)+1));ret x)
  | none=>_) _ _ _
 rw[C0,hx];refine An (wpAny_setField ho hd (EK 1) (Au ⟨x,rfl,Au (hQ _ ?_ ?_)⟩))
 ·refine⟨_,ER _ ho (Obj.isFreed_of_fields (Obj.data_mapFields hd _)),(Obj.cls_mapFields o _).trans hc,?_⟩;rw[Obj.data_mapFields hd];rfl
 exact C3.update s.heap it _
theorem lJ {prog:AW}{w:BC}{A:A3}{E:Ap->AA->Prop}{s:AA}{it t:Addr}{i:Nat}{items:Array Ap}{Q:Ap->AA->Prop}(hh:A.handled=none)(hit:s.heap.IsTupleIter it t i)(ht:s.heap.IsTuple t items)(hx:items[i]?=none)
  (hE:∀h' e,Heap.ExtBut it s.heap h'->(∃o,h'.get? e=some o/\o.cls=Ap.type "StopIteration")->E (.ref e) { s with heap:=h' }):AE (AH prog w) A (AX.SmallTypes.nextOf (Ap.ref it)) Q E s:=by
 obtain⟨o,ho,hc,hd⟩:=id hit;obtain⟨ol,hol,hcl,nl,hdl⟩:=ht;unfold AX.SmallTypes.nextOf;refine An (CS hit.typeIs Go (CU Go hit.typeIs F.entry_tuple_iterator_next ?_ (F.args_tuple_iterator_next_1 _)));refine An (Au (An (Co ho hd (i:=0) rfl ?_)));refine C6 rfl (An (Co ho hd (i:=1) rfl ?_));refine An (EC hol hdl ?_);show AE _ _ (match items[(i:Int).toNat]? with
  | some x=>_
  | none=>(do rule (toString "tuple_iterator.__next__" ++ toString ".end");G1 (.ref it) 0 .none;AX.SmallTypes.stopIteration)) _ _ _
 rw[C0,hx];refine An (De (An (wpAny_setField ho hd (HU 1) ?_)));unfold AX.SmallTypes.stopIteration newExc;refine An (An (BM ?_));refine An (Lm (a:=.none) rfl ?_);refine BM ?_;refine wpAny_raiseNew_none hh (hE _ _ ?_ ?_)
 ·exact fun b ob hb e=>AD _ (AD _ ((BU _ _ (B2 hb)).trans e))
 exact⟨_,A8 _ rfl,rfl⟩
theorem abq {J:It}{g:TG}{tb:TS}{D:Ends}{σ:St}{H:Hp}{R:It->Hp->Prop}(hR:R=(fun J H1=>∃W:Nat->Nat->St->Hp->Prop,(∃m,W 0 m σ H1)/\∀i m σ H,W i m σ H ->
  (J.stop i H/\D.nx σ H)\/(J.go i H/\∃N:St->Hp->Prop,(∀σ' H',N σ' H'->∃m',m'<m/\W (i+1) m' σ' H')/\∀x H',J.yld i H x H'->g x σ H' fun σ2 H2=>tb { D with nx:=N,ct:=N,bk:=D.nx } σ2 H2)))
  (n:Nat) (Pv:Nat->St->Hp->Prop) (h0:Pv 0 σ H) (hgo:∀i σ H,i<n->Pv i σ H->J.go i H) (hst:∀σ H,Pv n σ H->J.stop n H)
  (hs:∀i σ H x H3,i<n->Pv i σ H->J.yld i H x H3->g x σ H3 fun σ2 H2=>tb { D with nx:=Pv (i+1),ct:=Pv (i+1),bk:=D.nx } σ2 H2) (hd:∀σ H,Pv n σ H->D.nx σ H):R J H:=by
 subst hR;refine⟨fun i m σ H2=>m=n-i/\i<=n/\Pv i σ H2,⟨_,rfl,D2 _,h0⟩,?_⟩;rintro i m σ H2 ⟨rfl,hi,p⟩;by_cases hlt:i<n
 ·exact .inr ⟨hgo i σ H2 hlt p,Pv (i+1),fun σ' H' q=>⟨_,ω,rfl,hlt,q⟩,fun x H3 y=>hs i σ H2 x H3 hlt p y⟩
 have e:i=n:=ω;subst e;exact .inl ⟨hst σ H2 p,hd σ H2 p⟩
section
variable {X:Cx}{e o:Expr}{te to:TE}{pos:Pos}
def exq (ob oc:Option HO)(l:Addr)(H:Hp)(Q:VK):Prop:=match ob,oc with
 | some (.lst xs),some (.lst zs)=>xs.length+zs.length<=AM/\Q .non (upd H l (.lst (xs++zs)))
 | _,_=>False
def T9 (l:Addr)(y:V)(H:Hp)(Q:VK):Prop:=match y with
 | .ref b=>exq (H l) (H b) l H Q
 | _=>False
def exK (x:V)(te:TE)(σ:St)(H1:Hp)(Q:VK):Prop:=match x with
 | .ref l=>isq (H1 l)/\te σ H1 fun y H2=>T9 l y H2 Q
 | _=>False
def O8 (to te:TE):TE:=fun σ H Q=>to σ H fun x H1=>exK x te σ H1 Q
theorem DK (to te:TE)(σ:St)(H:Hp)(Q:VK):O8 to te σ H Q=to σ H fun x H1=>exK x te σ H1 Q:=rfl
theorem Ky (l:Addr)(te:TE)(σ:St)(H1:Hp)(Q:VK):exK (.ref l) te σ H1 Q=(isq (H1 l)/\te σ H1 fun y H2=>T9 l y H2 Q):=rfl
theorem Fz (l b:Addr)(H:Hp)(Q:VK):T9 l (.ref b) H Q=exq (H l) (H b) l H Q:=rfl
theorem T7 (xs zs:List V)(l:Addr)(H:Hp)(Q:VK):exq (some (.lst xs)) (some (.lst zs)) l H Q=(xs.length+zs.length<=AM/\Q .non (upd H l (.lst (xs++zs)))):=rfl
theorem WY {apos cpos:Pos}(ho:PE X o to)(he:PE X e te)
  (hbase:D9 o "extend" X.env (eval o X.env)=eval o X.env:=by rfl)
  (hfew:((C8 cpos (AJ [e] X.env)).all (fun x=>!x.1)&&(LM cpos (HA [] X.env)).all (fun x=>x.1.isSome)
   && decide ([e].length+([]:List IJ).length+(if ([]:List IJ).isEmpty then 0 else 1)<30))=true:=by rfl)
  (hline:(apos.endLine == cpos.line)=true:=by rfl) (hs:AJ [e] X.env=(false,eval e X.env)::AJ [] X.env:=by rfl) (hplain:(C8 cpos (AJ [] X.env)).any (·.1)=false:=by rfl) :
  PE X (.Call (.Attribute o "extend" apos) [e] [] cpos) (O8 to te):=by
 intro pins s σ H Q I h;refine L7 hbase hfew hline rfl (thE (ho pins s σ H _ I h) fun v s1 x H1 I1 r1 q=>?_);cases x with
 | ref l=>
  obtain⟨q1,q2⟩:=q;cases el:H1 l with
  | none=>rw[el] at q1;exact q1.elim
  | some ob=>
   cases ob with
   | lst xs=>
    obtain⟨h1,h2⟩:=GC (T := "list") I1 r1 (.inl ⟨rfl,xs,SqL.of el⟩);refine⟨"list","list.extend",LP,PySem.F.slot_list_extend,PySem.F.type_list_extend,h1,h2,?_⟩;rw[hs];refine FL (by show(false||(C8 cpos (AJ [] X.env)).any (·.1))=false;rw[hplain] <;> rfl) (Gc ?_)
    refine FF (thE (he pins s1 σ H1 _ I1 q2) fun u s2 y H2 I2 r2 q3=>F3 ?_);replace q3:T9 l y H2 Q:=q3;unfold T9 at q3;split at q3
    ·rename_i b;unfold exq at q3;split at q3
     ·rename_i ys zs e1 e2;exact M7 pins s2 σ H2 (.ref l) [.ref b] v [u] Q I2 r1 (.cons r2 .nil) ⟨l,b,ys,zs,rfl,rfl,e1,e2,q3.1,q3.2⟩
     exact q3.elim
    exact q3.elim
   | _=>rw[el] at q1;exact q1.elim
 | _=>exact q.elim
theorem J5 {apos cpos:Pos}(ho:QE X o to)(he:QE X e te)
  (hbase:D9 o "extend" X.env (eval o X.env)=eval o X.env:=by rfl)
  (hfew:((C8 cpos (AJ [e] X.env)).all (fun x=>!x.1)&&(LM cpos (HA [] X.env)).all (fun x=>x.1.isSome)
   && decide ([e].length+([]:List IJ).length+(if ([]:List IJ).isEmpty then 0 else 1)<30))=true:=by rfl)
  (hline:(apos.endLine == cpos.line)=true:=by rfl) (hs:AJ [e] X.env=(false,eval e X.env)::AJ [] X.env:=by rfl) (hplain:(C8 cpos (AJ [] X.env)).any (·.1)=false:=by rfl) :
  QE X (.Call (.Attribute o "extend" apos) [e] [] cpos) (O8 to te):=⟨WY ho.h he.h hbase hfew hline hs hplain⟩
end
mutual
def szD (a:Nat):A7->Prop
 | .none=>True
 | .bool _=>True
 | .int i=>i.natAbs<=10^20*2^a
 | .str x=>x.length<=30+a/\∀c∈x.cps.toList,c<16^8
 | .list ds=>ds.length<=210*5^a/\DN a ds
 | .tuple ds=>ds.length<=210*5^a/\DN a ds
 | .dict _=>False
def DN (a:Nat):List A7->Prop
 | []=>True
 | d::ds=>szD a d/\DN a ds
end
theorem Ln {a:Nat}:∀{ds:List A7},DN a ds ↔ ∀d∈ds,szD a d
 | []=>⟨fun _ d h=>(nomatch h),fun _=>trivial⟩
 | x::ds=>by
  show szD a x/\DN a ds↔_;rw[Ln (ds:=ds)];constructor
  ·intro⟨h1,h2⟩ d hd;rcases BB.mp hd with rfl|z
   ·exact h1
   exact h2 d z
  intro h;exact⟨h x BE,fun d hd=>h d (A4 _ hd)⟩
structure Shw (d:A7):Prop where
 sh:d.showable=true
 nd:d.hasDict=false
 dp:d.depth<=100
 ln:d.shown.length<=AM
def Z5:List V->Hp->VK->Prop:=fun xs H Q=>∃v ok d,xs=[v]/\bC ok H v d/\Shw d/\Q (.str d.shown) H
theorem yF {X:Cx}(hg:X.A.guards=some []) (hu:X.A.units+200<cLine):dw X (.builtin "repr") Z5:=by
 intro pins s σ H xs us Q I r h;obtain⟨v,ok,d,rfl,t,⟨sh,hd,hdp,hl⟩,q⟩:=h;obtain⟨u,rfl,rv⟩:=vals1 r;have nodict:∀as:List Addr,d.hasDict=true->¬sysModules∈as:=fun as z=>by rw[hd] at z;cases z
 cases t with
 | non=>cases rv;exact P.repr_of_none ⟨.str _,H,I.tok _,⟨_,rfl⟩,q⟩
 | bl b=>cases rv;exact P.repr_of_bool ⟨.str _,H,I.tok _,⟨_,rfl⟩,q⟩
 | int i=>
  obtain⟨t,rfl⟩:=rv;exact P.repr_of_int (of_decide_eq_true sh) ⟨.str _,H,I.tok _,⟨_,rfl⟩,q⟩
 | str x=>
  obtain⟨t,rfl⟩:=rv;exact P.repr_of_str ⟨.str _,H,I.tok _,⟨_,rfl⟩,q⟩ hl
 | lst o e z t=>
  obtain⟨as,rd⟩:=bC.reads I (bC.lst o e z t) rv;cases rv;exact repr_of_reads' rd sh (nodict as) hg ω (fun _ _ z=>z) (fun h' u tk k=>⟨.str _,H,I.kept k,⟨_,rfl⟩,q⟩) hl
 | tup o e z t=>
  obtain⟨as,rd⟩:=bC.reads I (bC.tup o e z t) rv;cases rv;exact repr_of_reads' rd sh (nodict as) hg ω (fun _ _ z=>z) (fun h' u tk k=>⟨.str _,H,I.kept k,⟨_,rfl⟩,q⟩) hl
theorem uq {x:A7}:∀{ds:List A7},x∈ds->x.depth<=A7.depthAll ds
 | y::ds,h=>by
  rw[A7.depthAll.eq_2];rcases BB.mp h with rfl|z
  ·omega
  have:=uq z;omega
inductive Dm (H:Hp):List V->List (List Nat)->Prop
 | nil:Dm H [] []
 | cons {t:Addr} {p:List Nat} {vs:List V} {ps:List (List Nat)}:H t=some (.tup (bW p))->Dm H vs ps->Dm H (.ref t::vs) (p::ps)
theorem LQ {H H':Hp}{l:Addr}{o:HO}(s:Same H H')(h:H l=none):Same H (upd H' l o):=fun b u e=>by
 rw[aF (aG e h)];exact s b u e
section
variable {X:Cx}{a:Expr}{ta:TE}
def trq (ob:Option HO)(H:Hp)(Q:Bool->Hp->Prop):Prop:=match ob with
 | some (.lst xs)=>Q (!xs.isEmpty) H
 | some (.tup xs)=>Q (!xs.isEmpty) H
 | _=>False
def ZJ (x:V)(H:Hp)(Q:Bool->Hp->Prop):Prop:=match x with
 | .ref p=>trq (H p) H Q
 | .bl b=>Q b H
 | .int i=>Q (i != 0) H
 | .non=>Q false H
 | _=>False
def ZM (te:TE):TT:=fun σ H Q=>te σ H fun x H1=>ZJ x H1 Q
theorem Vt (te:TE)(σ:St)(H:Hp)(Q:Bool->Hp->Prop):ZM te σ H Q=te σ H fun x H1=>ZJ x H1 Q:=rfl
theorem OD (p:Addr)(H:Hp)(Q:Bool->Hp->Prop):ZJ (.ref p) H Q=trq (H p) H Q:=rfl
theorem Vp (xs:List V)(H:Hp)(Q:Bool->Hp->Prop):trq (some (.lst xs)) H Q=Q (!xs.isEmpty) H:=rfl
theorem aam (ha:PE X a ta)(he:∀whole,isTrue a X.env whole=(do let v <- whole;G8 a.pos;Fc [v] (truthy v))):PT X a (ZM ta):=by
 intro pins s σ H Q I h;refine isTrue_plain (thE (ha pins s σ H _ I h) fun v s1 x H1 I1 r1 q1=>ZG pins s1 σ H1 x v Q I1 r1 ?_) (he _);cases x with
 | ref p=>
  replace q1:trq (H1 p) H1 Q:=q1;unfold trq at q1;split at q1
  ·rename_i xs e;exact⟨_,.inl ⟨xs,SqL.of e,rfl⟩,q1⟩
  ·rename_i xs e;exact⟨_,.inr (.inl ⟨xs,SqT.of e,rfl⟩),q1⟩
  exact q1.elim
 | bl b=>exact⟨_,rfl,q1⟩
 | int i=>exact⟨_,rfl,q1⟩
 | non=>exact⟨_,rfl,q1⟩
 | _=>exact(show False from q1).elim
theorem aae (h:QE X a ta)(he:∀whole,isTrue a X.env whole=(do let v <- whole;G8 a.pos;Fc [v] (truthy v)):=by intro _;rfl):QT X a (ZM ta):=⟨aam h.h he⟩
def acK:R2:=fun x y H Q=>∃p q xs,x=.ref p/\y=.ref q/\H p=some (.lst xs)/\H q=some (.lst [])/\Q (.bl (!xs.isEmpty)) H
theorem Rt (hu:X.A.units<cLine):OpR X (CO .NotEq) acK:=by
 intro pins s σ H x y v u Q I rx ry h;obtain⟨p,q,xs,rfl,rfl,e1,e2,qq⟩:=h;cases rx;cases ry;obtain⟨its1,r1,pl1,hz1⟩:=I.list (SqL.of e1);obtain⟨its2,r2,pl2,hz2⟩:=I.list (SqL.of e2);cases r2;cases xs with
 | nil=>
  cases r1;exact SeqAt.RcNeAt.lists (e:=fun _=>true) pl1.isList pl2.isList rfl hu (fun j h1 h2=>absurd h2 (Nat.not_lt_zero _)) X.prog X.w X.xe (EP X pins σ Q) ⟨.bl false,H,I,rfl,qq⟩
 | cons a b=>
  cases r1;exact SeqAt.RcNeAt.lists_lengths pl1.isList pl2.isList (by simp) hu X.prog X.w X.xe (EP X pins σ Q) ⟨.bl true,H,I,rfl,qq⟩
end
def stD (s:Int×Int×Int):A7:=.tuple [.int s.1,.int s.2.1,.int s.2.2]
structure abM (ss:List (Int×Int×Int)):Prop where
 lh:∀(i:Nat) s,ss[i]?=some s->s.1<=s.2.1/\0<=s.2.2/\s.2.2<=9
 nx:∀(i:Nat) s t,ss[i]?=some s->ss[i+1]?=some t->t.1=s.2.1+1
 bd:∀(i:Nat) s,ss[i]?=some s->-(10^12)<=s.1/\s.2.1<=10^9+(10^12+10)*(i+1)
theorem Va.shw {d:A7}(t:Va d):Shw d:=⟨(Bm d t.sm).1,(Bm d t.sm).2,t.dp,t.len⟩
section
variable {κ:Type}[DecidableEq κ]
def Gx (kvs:List (κ×V))(k:κ):Option V:=(kvs.find? fun kv=>decide (kv.1=k)).map (·.2)
def putK (kvs:List (κ×V))(k:κ)(v:V):List (κ×V):=
 if (kvs.any fun kv=>decide (kv.1=k))=true then kvs.map (fun kv=>if kv.1=k then (kv.1,v) else kv) else kvs++[(k,v)]
theorem valV_pos {p:κ×V}{r:List (κ×V)}{k:κ}(e:p.1=k):Gx (p::r) k=some p.2:=by simp [Gx,List.find?_cons,e]
theorem valV_neg {p:κ×V}{r:List (κ×V)}{k:κ}(e:¬p.1=k):Gx (p::r) k=Gx r k:=by simp [Gx,List.find?_cons,e]
theorem Dl.getD {o:Option V}{u:Option Ap}{d:V}{d':Ap}(r:Dl o u)(rd:RelV d d'):RelV (o.getD d) (u.getD d'):=by
 cases o with
 | none=>cases u with
  | none=>exact rd
  | some _=>exact(show False from r).elim
 | some _=>cases u with
  | none=>exact(show False from r).elim
  | some _=>exact r
theorem KV.any {kvs:List (κ×V)}{vs:List (κ×Ap)}(r:KV kvs vs)(k:κ):(kvs.any fun kv=>decide (kv.1=k))=vs.any fun kv=>decide (kv.1=k):=by
 unfold KV at r
 induction r with
 | nil=>rfl
 | cons h t ih=>rw[any_cons,any_cons,ih,h.1]
end
abbrev KT (H:Hp):List (List Key×V)->List (List Key×Addr×Ap)->Prop:=Paired fun p q=>p.1=q.1/\H q.2.1=some (.tup (p.1.map kV))/\RelV p.2 q.2.2
def DGet (H:Hp)(a:Addr)(y:V)(r:Option V):Prop:=
 (∃kvs k,Rd H a (.dK kvs)/\y=kV k/\r=Gx kvs k)\/∃kvs k b,Rd H a (.dT kvs)/\y=.ref b/\H b=some (.tup (k.map kV))/\r=Gx kvs k
def DPut (H:Hp)(a:Addr)(y v:V)(H':Hp):Prop:=
 (∃kvs k,H a=some (.dK kvs)/\y=kV k/\kvs.length<AM/\H'=upd H a (.dK (putK kvs k v))) \/
 ∃kvs k b,H a=some (.dT kvs)/\y=.ref b/\H b=some (.tup (k.map kV))/\kvs.length<AM/\H'=upd H a (.dT (putK kvs k v))
theorem fK.un1 {k:Nat}{A:A3}(r:fK k A):A.in1.units<cLine:=by
 have:=r.un;show A.units+1<cLine;omega
def PX (w:Str):List Int->Bool
 | [a]=>decide (w = "pick")&&decide (0<=a)
 | [_,_]=>decide (w = "is")||decide (w = "below")
 | [a,b,_]=>decide (w = "within")&&decide (a<=b)
 | [_,wd,bits,_]=>decide (w = "mask")&&((decide (1<=wd)&&decide (wd<=64))&&(decide (0<=bits)&&decide (bits<2^wd.toNat)))
 | _=>false
def Zo (is:List Int):List Int:=match is.getLast? with
 | some t=>[t]
 | none=>[]
def Tq (w:Str) (is:List Int):List Int:=if w = "pick" then [] else Zo is
def btw (own many:Int)(t:Int):Bool:=decide (own<t)&&decide (t<many)
theorem aN.ints {ok:Addr->Prop}{H:Hp}:∀{xs:List V}{is:List Int},aN ok H xs (is.map A7.int)->xs=is.map V.int
 | _,[],.nil=>rfl
 | _,i::is,.cons h r=>by
  cases h;rw[r.ints];rfl
theorem IV {w:Str}{is:List Int}{t:Int}(h:w ≠ "pick") (hl:is.getLast?=some t):Tq w is=[t]:=by
 unfold Tq Zo;rw[if_neg h,hl]
theorem Zr {K:AC}{a:Addr}{xs:List V}{g:TG}{tb:TS}{D:Ends}{σ:St}{H:Hp}{R:It->Hp->Prop}(hR:R=(fun J H1=>∃W:Nat->Nat->St->Hp->Prop,(∃m,W 0 m σ H1)/\∀i m σ H,W i m σ H ->
  (J.stop i H/\D.nx σ H)\/(J.go i H/\∃N:St->Hp->Prop,(∀σ' H',N σ' H'->∃m',m'<m/\W (i+1) m' σ' H')/\∀x H',J.yld i H x H'->g x σ H' fun σ2 H2=>tb { D with nx:=N,ct:=N,bk:=D.nx } σ2 H2)))
  (Pv:Nat->St->Hp->Prop) (h0:Pv 0 σ H) (hl:∀i σ H,Pv i σ H->H a=some (.lst xs))
  (hs:∀(i:Nat) x σ H p,xs[i]?=some x->Pv i σ H->H p=none->g (.ref p) σ (upd H p (.tup [.int (i:Nat),x])) fun σ2 H2=>tb { D with nx:=Pv (i+1),ct:=Pv (i+1),bk:=D.nx } σ2 H2) (hd:∀σ H,Pv xs.length σ H->D.nx σ H):R (Ite K a) H:=by
 refine abq hR xs.length Pv h0 (fun i σ H hi p=>?_) (fun σ H p=>?_) (fun i σ H x H3 hi p y=>?_) hd
 ·exact⟨xs,_,SqL.of (hl i σ H p),AR hi⟩
 ·exact⟨xs,SqL.of (hl _ σ H p),GL (AY _)⟩
 obtain⟨q,x1,rfl,hq,rfl,hx⟩:=y;exact hs i x1 σ H q (hx _ (SqL.of (hl i σ H p))) p hq
theorem Same.none {H H':Hp}(s:Same H H'){p:Addr}(h:H' p=none):H p=none:=by
 cases e:H p with
 | none=>rfl
 | some o=>rw[s _ _ e] at h;cases h
inductive ac3 where
 | ins (w:Str) (is:List Int)
 | tab (n:Int) (gs:List Int)
def acD (many own:Int):ac3->Prop
 | .ins w is=>w ≠ "table" /\ PX w is=true/\(Tq w is).all (btw own many)=true/\(∀i∈is,i.natAbs<=2^64)/\is.length<=4/\w.length<=10
 | .tab n gs=>gs≠[]/\gs.length<=200/\gs.all (btw own many)=true/\n.natAbs<=1000
mutual
def szB:A7->Bool
 | .none=>true
 | .bool _=>true
 | .int i=>decide (i.natAbs<=10^20)
 | .str x=>decide (x.length<=30)&&x.cps.toList.all fun c=>decide (c<16^8)
 | .list ds=>decide (ds.length<=210)&&ZR ds
 | .tuple ds=>decide (ds.length<=210)&&ZR ds
 | .dict _=>false
def ZR:List A7->Bool
 | []=>true
 | d::ds=>szB d&&ZR ds
end
structure Od (d:A7):Prop where
 sz:szD 2 d
 nd:nodes d<=300
 dp:d.depth<=90
structure Sm5 (d:A7):Prop where
 sz:szD 0 d
 nd:nodes d<=5
 dp:d.depth<=2
theorem wz {prog:AW}{w:BC}{A:A3}{E:Ap->AA->Prop}{s:AA}{z TI TO i1 i2 l1 l2:Addr}{k1 k2:Nat}{xs ys:Array Ap}{x y a b:Ap}{Q:Ap->AA->Prop}(D:MD z TI TO i1 i2 l1 l2)(hz:IsZip s.heap z TI TO Ap.none)(hTI:ES s.heap TI (Ap.ref i1) (Ap.ref i2))(hTO:ES s.heap TO a b)
  (h1:s.heap.IsTupleIter i1 l1 k1) (h2:s.heap.IsTupleIter i2 l2 k2) (hl1:s.heap.IsTuple l1 xs) (hl2:s.heap.IsTuple l2 ys) (hx:xs[k1]?=some x) (hy:ys[k2]?=some y)
  (hQ:∀h':Heap,IsZip h' z TI TO (Fh s.heap.objs.size)->ES h' TO x y->h'.IsTupleIter i1 l1 (k1+1)->h'.IsTupleIter i2 l2 (k2+1)->ES h' s.heap.objs.size x y->h'.objs.size=s.heap.objs.size+1->(∀c o,c≠z->c≠TO->c≠i1->c≠i2->s.heap.get? c=some o->h'.get? c=some o)->Q (Ap.ref s.heap.objs.size) { s with heap:=h' }) :
  AE (AH prog w) A (AX.«zip.__next__» { pos:=[Ap.ref z] }) (fun fin s'=>∃v,fin=Fin.done (Flow.ret v)/\Q v s') E s:=by
 show AE _ _ (field (Ap.ref z) 2 >>= _) _ _ _;refine An (Co hz rfl rfl ?_);show AE _ _ (field (Ap.ref z) 3 >>= _) _ _ _;refine An (Co hz rfl rfl ?_);refine An (EC hTI rfl ?_);show AE _ _ (AX.SmallTypes.ownedTupleIsFree (Ap.ref z) >>= _) _ _ _;refine An ?_;show AE _ _ (field (Ap.ref z) 0 >>= _) _ _ _;refine An (Co hz rfl rfl (Au ?_));show AE _ _ (rule _ >>= _) _ _ _;refine An (De (An (Co hz rfl rfl ?_)));show AE _ _ (G1 (Ap.ref z) 0 Ap.ellipsis >>= _) _ _ _;refine An (B0 hz (IL (HU 4)) fun h₁ hz₁ hs₁=>?_);have old1:∀c o,c≠z->s.heap.get? c=some o->h₁.get? c=some o:=fun c o hc e=>(hs₁.2 c hc).trans e;have h1a:h₁.IsTupleIter i1 l1 k1:=h1.at fun o e=>old1 i1 o D.i1z e;have h2a:h₁.IsTupleIter i2 l2 k2:=h2.at fun o e=>old1 i2 o D.i2z e;have tup:∀{h:Heap}{l:Addr}{vs:Array Ap},s.heap.IsTuple l vs->(∀o,s.heap.get? l=some o->h.get? l=some o)->h.IsTuple l vs:=fun⟨o,e,r⟩ k=>⟨o,k o e,r⟩;refine An ?_;show AE _ _ (forIn [(Ap.ref i1,0),(Ap.ref i2,1)] (none,()) _) _ _ _;rw[Fa];refine An ?_;show AE _ _ ((Sem.onRaise (AX.SmallTypes.nextOf (Ap.ref i1) >>= fun v=>pure (some v)) (fun _=>G1 (Ap.ref z) 0 Ap.none)) >>= _) _ _ _;refine An (IM (An (gY (s:={ s with heap:=h₁ }) h1a (tup hl1 fun o e=>old1 l1 o D.l1z e) hx fun h₂ h1b sb₂=>Au ?_)));have old2:∀c o,c≠z->c≠i1->s.heap.get? c=some o->h₂.get? c=some o:=fun c o hc hc1 e=>(sb₂.2 c hc1).trans (old1 c o hc e);have hTO2:ES h₂ TO a b:=old2 TO _ D.TOz D.TOi1 hTO;show AE _ _ (seqItems? (Ap.ref TO) >>= _) _ _ _;refine An (EC (s:={ s with heap:=h₂ }) hTO2 rfl ?_);show AE _ _ (updateSeq TO _ >>= _) _ _ _;refine An (MH (s:={ s with heap:=h₂ }) hTO2 fun h₃ g₃ sb₃=>?_);refine An (wpAny_letGo (Au ?_));show AE _ _ (forIn [(Ap.ref i2,1)] (none,()) _) _ _ _;rw[Fa];refine An ?_;have old3:∀c o,c≠z->c≠i1->c≠TO->s.heap.get? c=some o->h₃.get? c=some o:=fun c o hc hc1 hc2 e=>(sb₃.2 c hc2).trans (old2 c o hc hc1 e);have h2c:h₃.IsTupleIter i2 l2 k2:=h2.at fun o e=>old3 i2 o D.i2z (B2 D.i12) (B2 D.TOi2) e;have g₃':ES h₃ TO x b:=g₃;show AE _ _ ((Sem.onRaise (AX.SmallTypes.nextOf (Ap.ref i2) >>= fun v=>pure (some v)) (fun _=>G1 (Ap.ref z) 0 Ap.none)) >>= _) _ _ _;refine An (IM (An (gY (s:={ s with heap:=h₃ }) h2c (tup hl2 fun o e=>old3 l2 o D.l2z D.l2i1 D.l2TO e) hy fun h₄ h2d sb₄=>Au ?_)));have hTO4:ES h₄ TO x b:=(sb₄.2 TO D.TOi2).trans g₃';show AE _ _ (seqItems? (Ap.ref TO) >>= _) _ _ _;refine An (EC (s:={ s with heap:=h₄ }) hTO4 rfl ?_);show AE _ _ (updateSeq TO _ >>= _) _ _ _
 refine An (MH (s:={ s with heap:=h₄ }) hTO4 fun h₅ g₅ sb₅=>?_);refine An (wpAny_letGo (Au ?_));have g₅':ES h₅ TO x y:=g₅;show AE _ _ (forIn [] (none,()) _) _ _ _;rw[forIn_nil];refine Au ?_;show AE _ _ (seqItems? (Ap.ref TO) >>= _) _ _ _;refine An (EC (s:={ s with heap:=h₅ }) g₅' rfl ?_);show AE _ _ (newTuple [x,y] >>= _) _ _ _;refine An (HV ?_ (by show 2<=AM;decide));have sz:h₅.objs.size=s.heap.objs.size:=by
  rw[sb₅.1,sb₄.1,sb₃.1,sb₂.1,hs₁.1]
 have z5:h₅.get? z=_:=(sb₅.2 z (B2 D.TOz)).trans ((sb₄.2 z (B2 D.i2z)).trans ((sb₃.2 z (B2 D.TOz)).trans ((sb₂.2 z (B2 D.i1z)).trans hz₁)));have z6:(h₅.push { cls:=Ap.type "tuple",data:=FS #[x,y] }).get? z=_:=AD _ z5;refine An ?_;show AE _ _ (G1 (Ap.ref z) 0 (Fh h₅.objs.size) >>= fun _=>G1 (Ap.ref z) 1 (Ap.bool false)) _ _ _;refine An (B0 (s:={ s with heap:=h₅.push { cls:=Ap.type "tuple",data:=FS #[x,y] } }) z6 (IL (HU 4)) fun h₇ hz₇ hs₇=>?_);refine B0 (s:={ s with heap:=h₇ }) hz₇ (IL (HU 3)) fun h₈ hz₈ hs₈=>?_;have nzs:s.heap.objs.size≠z:=fun q=>by
  have:=AZ hz;rw[<- q] at this;exact Db _ this
 have old6:∀c o,h₅.get? c=some o->(h₅.push { cls:=Ap.type "tuple",data:=FS #[x,y] }).get? c=some o:=fun c o e=>AD _ e;have old8:∀c o,c≠z->h₅.get? c=some o->h₈.get? c=some o:=fun c o hc e=>(hs₈.2 c hc).trans ((hs₇.2 c hc).trans (old6 c o e));have new8:h₈.get? s.heap.objs.size=some { cls:=Ap.type "tuple",data:=FS #[x,y] }:=by
  refine(hs₈.2 _ nzs).trans ((hs₇.2 _ nzs).trans ?_);show(h₅.push { cls:=Ap.type "tuple",data:=FS #[x,y] }).get? s.heap.objs.size=_;rw[<- sz];exact A8 _ rfl
 refine Au ⟨_,rfl,?_⟩;rw[show(({ s with heap:=h₅ }:AA).heap.objs.size)=s.heap.objs.size from sz];refine hQ h₈ ?_ ?_ ?_ ?_ new8 ?_ ?_
 ·rw[sz] at hz₈;exact hz₈
 ·exact old8 TO _ D.TOz g₅'
 ·refine h1b.at fun o e=>old8 i1 o D.i1z ?_;exact(sb₅.2 i1 (B2 D.TOi1)).trans ((sb₄.2 i1 D.i12).trans ((sb₃.2 i1 (B2 D.TOi1)).trans e))
 ·refine h2d.at fun o e=>old8 i2 o D.i2z ?_;exact(sb₅.2 i2 (B2 D.TOi2)).trans e
 ·rw[hs₈.1,hs₇.1];show(h₅.push { cls:=Ap.type "tuple",data:=FS #[x,y] }).objs.size=_;rw[D7,sz]
 intro c o hc1 hc2 hc3 hc4 e;exact old8 c o hc1 ((sb₅.2 c hc2).trans ((sb₄.2 c hc4).trans (old3 c o hc1 hc3 hc2 e)))
theorem lY {prog:AW}{w:BC}{A:A3}{E:Ap->AA->Prop}{s:AA}{z TI TO i1 i2 l1 l2:Addr}{k1 k2:Nat}{xs ys:Array Ap}{x y a b:Ap}{Q:Option Ap->AA->Prop}(D:MD z TI TO i1 i2 l1 l2)(hz:IsZip s.heap z TI TO Ap.none)(hTI:ES s.heap TI (Ap.ref i1) (Ap.ref i2))(hTO:ES s.heap TO a b)
  (h1:s.heap.IsTupleIter i1 l1 k1) (h2:s.heap.IsTupleIter i2 l2 k2) (hl1:s.heap.IsTuple l1 xs) (hl2:s.heap.IsTuple l2 ys) (hx:xs[k1]?=some x) (hy:ys[k2]?=some y)
  (hQ:∀h':Heap,IsZip h' z TI TO (Fh s.heap.objs.size)->ES h' TO x y->h'.IsTupleIter i1 l1 (k1+1)->h'.IsTupleIter i2 l2 (k2+1)->ES h' s.heap.objs.size x y->h'.objs.size=s.heap.objs.size+1->(∀c o,c≠z->c≠TO->c≠i1->c≠i2->s.heap.get? c=some o->h'.get? c=some o)->Q (some (Ap.ref s.heap.objs.size)) { s with heap:=h' }) :
  AE (AH prog w) A (F5 (Ap.ref z)) Q E s:=by
 have hT:∃o,s.heap.get? z=some o/\o.cls=Ap.type "zip" := ⟨_,hz,rfl⟩;exact An (DZ (CS hT Mc (CU Mc hT F.entry_zip_next
  (wz D hz hTI hTO h1 h2 hl1 hl2 hx hy fun h' a1 a2 a3 a4 a5 a6 a7=>Au (hQ h' a1 a2 a3 a4 a5 a6 a7)) (F.args_zip_next_1 (Ap.ref z)))))
theorem yV {prog:AW}{w:BC}{A:A3}{E:Ap->AA->Prop}{s:AA}{z TI TO i1 i2 l1 l2:Addr}{k1 k2:Nat}{xs ys:Array Ap}{a b:Ap}{Q:PySem.Fin->AA->Prop}(hh:A.handled=none)(D:MD z TI TO i1 i2 l1 l2)(hz:IsZip s.heap z TI TO Ap.none)(hTI:ES s.heap TI (Ap.ref i1) (Ap.ref i2))(hTO:ES s.heap TO a b)
  (h1:s.heap.IsTupleIter i1 l1 k1) (h2:s.heap.IsTupleIter i2 l2 k2) (hl1:s.heap.IsTuple l1 xs) (hl2:s.heap.IsTuple l2 ys) (hend:xs[k1]?=none\/ys[k2]?=none)
  (hE:∀(h':Heap)(e:Addr),(∀c o,c≠z->c≠TO->c≠i1->c≠i2->s.heap.get? c=some o->h'.get? c=some o)->(∃o,h'.get? e=some o/\o.cls=Ap.type "StopIteration")->E (Ap.ref e) { s with heap:=h' }) :
  AE (AH prog w) A (AX.«zip.__next__» { pos:=[Ap.ref z] }) Q E s:=by
 show AE _ _ (field (Ap.ref z) 2 >>= _) _ _ _;refine An (Co hz rfl rfl ?_);show AE _ _ (field (Ap.ref z) 3 >>= _) _ _ _;refine An (Co hz rfl rfl ?_);refine An (EC hTI rfl ?_);show AE _ _ (AX.SmallTypes.ownedTupleIsFree (Ap.ref z) >>= _) _ _ _;refine An ?_;show AE _ _ (field (Ap.ref z) 0 >>= _) _ _ _;refine An (Co hz rfl rfl (Au ?_));show AE _ _ (rule _ >>= _) _ _ _;refine An (De (An (Co hz rfl rfl ?_)));show AE _ _ (G1 (Ap.ref z) 0 Ap.ellipsis >>= _) _ _ _;refine An (B0 hz (IL (HU 4)) fun h₁ hz₁ hs₁=>?_);have old1:∀c o,c≠z->s.heap.get? c=some o->h₁.get? c=some o:=fun c o hc e=>(hs₁.2 c hc).trans e;have h1a:h₁.IsTupleIter i1 l1 k1:=h1.at fun o e=>old1 i1 o D.i1z e;have tup:∀{h:Heap}{l:Addr}{vs:Array Ap},s.heap.IsTuple l vs->(∀o,s.heap.get? l=some o->h.get? l=some o)->h.IsTuple l vs:=fun⟨o,e,r⟩ k=>⟨o,k o e,r⟩;have out:∀{h:Heap}{e:Addr}{vs:Array Ap},h.get? z=some { cls:=Ap.type "zip",data:=BG vs }->0<vs.size->(∀c o,c≠z->c≠TO->c≠i1->c≠i2->s.heap.get? c=some o->h.get? c=some o)->(∃o,h.get? e=some o/\o.cls=Ap.type "StopIteration") ->
   AE (AH prog w) A (G1 (Ap.ref z) 0 Ap.none) (fun _ s''=>E (Ap.ref e) s'') E { s with heap:=h }:=fun {h e vs} ez hv hk he=>by
  refine B0 (s:={ s with heap:=h }) ez hv fun h' _ hs=>hE h' e (fun c o c1 c2 c3 c4 g=>(hs.2 c c1).trans (hk c o c1 c2 c3 c4 g)) ?_;obtain⟨o,ho,hc⟩:=he;refine⟨o,(hs.2 e fun q=>?_).trans ho,hc⟩;rw[q,ez] at ho;cases ho;injection hc with hc;exact absurd hc δ
 refine An ?_;show AE _ _ (forIn [(Ap.ref i1,0),(Ap.ref i2,1)] (none,()) _) _ _ _;rw[Fa];refine An ?_;show AE _ _ ((Sem.onRaise (AX.SmallTypes.nextOf (Ap.ref i1) >>= fun v=>pure (some v)) (fun _=>G1 (Ap.ref z) 0 Ap.none)) >>= _) _ _ _;cases hx:xs[k1]? with
 | none=>
  refine An (IM (An (lJ (s:={ s with heap:=h₁ }) hh h1a (tup hl1 fun o e=>old1 l1 o D.l1z e) hx fun h₂ e ext he=>?_)));exact out (h:=h₂) (ext z _ (B2 D.i1z) hz₁) (IL (HU 4)) (fun c o c1 c2 c3 c4 g=>ext c o c3 (old1 c o c1 g)) he
 | some x=>
  have hy:ys[k2]?=none:=by
   rcases hend with q|q
   ·rw[hx] at q;cases q
   exact q
  refine An (IM (An (gY (s:={ s with heap:=h₁ }) h1a (tup hl1 fun o e=>old1 l1 o D.l1z e) hx fun h₂ h1b sb₂=>Au ?_)));have old2:∀c o,c≠z->c≠i1->s.heap.get? c=some o->h₂.get? c=some o:=fun c o hc hc1 e=>(sb₂.2 c hc1).trans (old1 c o hc e);have hTO2:ES h₂ TO a b:=old2 TO _ D.TOz D.TOi1 hTO;show AE _ _ (seqItems? (Ap.ref TO) >>= _) _ _ _;refine An (EC (s:={ s with heap:=h₂ }) hTO2 rfl ?_);show AE _ _ (updateSeq TO _ >>= _) _ _ _;refine An (MH (s:={ s with heap:=h₂ }) hTO2 fun h₃ g₃ sb₃=>?_);refine An (wpAny_letGo (Au ?_));show AE _ _ (forIn [(Ap.ref i2,1)] (none,()) _) _ _ _;rw[Fa];refine An ?_;have old3:∀c o,c≠z->c≠i1->c≠TO->s.heap.get? c=some o->h₃.get? c=some o:=fun c o hc hc1 hc2 e=>(sb₃.2 c hc2).trans (old2 c o hc hc1 e);have h2c:h₃.IsTupleIter i2 l2 k2:=h2.at fun o e=>old3 i2 o D.i2z (B2 D.i12) (B2 D.TOi2) e;have z3:h₃.get? z=_:=(sb₃.2 z (B2 D.TOz)).trans ((sb₂.2 z (B2 D.i1z)).trans hz₁);show AE _ _ ((Sem.onRaise (AX.SmallTypes.nextOf (Ap.ref i2) >>= fun v=>pure (some v)) (fun _=>G1 (Ap.ref z) 0 Ap.none)) >>= _) _ _ _;refine An (IM (An (lJ (s:={ s with heap:=h₃ }) hh h2c (tup hl2 fun o e=>old3 l2 o D.l2z D.l2i1 D.l2TO e) hy fun h₄ e ext he=>?_)));exact out (h:=h₄) (ext z _ (B2 D.i2z) z3) (IL (HU 4)) (fun c o c1 c2 c3 c4 g=>ext c o c4 (old3 c o c1 c3 c2 g)) he
theorem nH {prog:AW}{w:BC}{A:A3}{E:Ap->AA->Prop}{s:AA}{z TI TO i1 i2 l1 l2:Addr}{k1 k2:Nat}{xs ys:Array Ap}{a b:Ap}{Q:Option Ap->AA->Prop}(hh:A.handled=none)(D:MD z TI TO i1 i2 l1 l2)(hz:IsZip s.heap z TI TO Ap.none)(hTI:ES s.heap TI (Ap.ref i1) (Ap.ref i2))(hTO:ES s.heap TO a b)
  (h1:s.heap.IsTupleIter i1 l1 k1) (h2:s.heap.IsTupleIter i2 l2 k2) (hl1:s.heap.IsTuple l1 xs) (hl2:s.heap.IsTuple l2 ys) (hend:xs[k1]?=none\/ys[k2]?=none)
  (hQ:∀h':Heap,(∀c o,c≠z->c≠TO->c≠i1->c≠i2->s.heap.get? c=some o->h'.get? c=some o)->Q none { s with heap:=h' }):AE (AH prog w) A (F5 (Ap.ref z)) Q E s:=by
 have hT:∃o,s.heap.get? z=some o/\o.cls=Ap.type "zip" := ⟨_,hz,rfl⟩;exact An (DZ (CS hT Mc (CU Mc hT F.entry_zip_next
  (yV hh D hz hTI hTO h1 h2 hl1 hl2 hend fun h' e hk he=>by
   obtain⟨o,ho,hc⟩:=he;exact An (LS ⟨o,ho,hc⟩ isSubtype_stop (Au (hQ h' hk)))) (F.args_zip_next_1 (Ap.ref z)))))
def tz1 (h:Heap) (l1:Addr):Heap:=h.push { cls:=Ap.type "tuple_iterator",data:=BG #[Ap.ref l1,Ap.int 0 0] }
def tz2 (h:Heap) (l1 l2:Addr):Heap:=(tz1 h l1).push { cls:=Ap.type "tuple_iterator",data:=BG #[Ap.ref l2,Ap.int 0 0] }
def tz3 (h:Heap) (l1 l2:Addr):Heap:=(tz2 h l1 l2).push { cls:=Ap.type "tuple",data:=FS #[Ap.ref h.objs.size,Ap.ref (tz1 h l1).objs.size] }
def tz4 (h:Heap) (l1 l2:Addr):Heap:=(tz3 h l1 l2).push { cls:=Ap.type "tuple",data:=FS #[Ap.none,Ap.none] }
def tz5 (h:Heap) (l1 l2:Addr):Heap:=(tz4 h l1 l2).push { cls:=Ap.type "zip",data:=BG #[Ap.none,Ap.bool false,Ap.bool false,Ap.ref (tz2 h l1 l2).objs.size,Ap.ref (tz3 h l1 l2).objs.size] }
theorem Oq (l1 l2:Addr) (xs ys:Array Ap):Meets (AX.«zip.__new__» { pos:=[Ap.type "zip",Ap.ref l1,Ap.ref l2] }) fun _ R s=>
  s.heap.IsTuple l1 xs/\s.heap.IsTuple l2 ys/\R (.ok (.ret (.ref (tz4 s.heap l1 l2).objs.size))) { s with heap:=tz5 s.heap l1 l2 }:=by
 refine Meets.of_wp fun prog w A R s h=>?_;obtain⟨ht1,ht2,hR⟩:=h;unfold AX.«zip.__new__» AX.SmallTypes.newClass;refine An (An (Au (C6 rfl (An (Lm sub_zip (C6 rfl (Au ?_)))))));show AE _ _ (AX.SmallTypes.iterAll [Ap.ref l1,Ap.ref l2] >>= _) _ _ _;refine An ?_;unfold AX.SmallTypes.iterAll;refine An ?_;rw[Fa];refine An (An (BI (wpAny_pyIter_tuple ht1 (Au ?_))));show AE _ _ (forIn [Ap.ref l2] #[Ap.ref s.heap.objs.size] _) _ _ _;rw[Fa];have ht2':(tz1 s.heap l1).IsTuple l2 ys:=by
  obtain⟨o,e,r⟩:=ht2;exact⟨o,AD _ e,r⟩
 refine An (An (BI (wpAny_pyIter_tuple (s:={ s with heap:=tz1 s.heap l1 }) ht2' (Au ?_))));show AE _ _ (forIn [] #[Ap.ref s.heap.objs.size,Ap.ref (tz1 s.heap l1).objs.size] _) _ _ _;rw[forIn_nil];refine Au (Au ?_);show AE _ _ (newTuple [Ap.ref s.heap.objs.size,Ap.ref (tz1 s.heap l1).objs.size] >>= _) _ _ { s with heap:=tz2 s.heap l1 l2 };refine An (HV ?_ (by show 2<=AM;decide));show AE _ _ (newTuple [Ap.none,Ap.none] >>= _) _ _ { s with heap:=tz3 s.heap l1 l2 };refine An (HV ?_ (by show 2<=AM;decide));show AE _ _ (newObj (.type "zip") (.fields #[.none,.bool false,.bool false,.ref (tz2 s.heap l1 l2).objs.size,.ref (tz3 s.heap l1 l2).objs.size]) >>= fun r=>ret r) _ _ { s with heap:=tz4 s.heap l1 l2 };refine An (BM ?_);exact Au ⟨_,rfl,hR⟩
theorem FZ {prog:AW}{w:BC}{A:A3}{E:Ap->AA->Prop}{s:AA}{l1 l2:Addr}{xs ys:Array Ap}{Q:Ap->AA->Prop}(hl1:s.heap.IsTuple l1 xs)(hl2:s.heap.IsTuple l2 ys)
  (h:∀h':Heap,IsZip h' (s.heap.objs.size+4) (s.heap.objs.size+2) (s.heap.objs.size+3) Ap.none->ES h' (s.heap.objs.size+2) (Ap.ref s.heap.objs.size) (Ap.ref (s.heap.objs.size+1))->ES h' (s.heap.objs.size+3) Ap.none Ap.none->h'.IsTupleIter s.heap.objs.size l1 0->h'.IsTupleIter (s.heap.objs.size+1) l2 0 ->
   h'.objs.size=s.heap.objs.size+5->(∀c o,s.heap.get? c=some o->h'.get? c=some o)->Q (Ap.ref (s.heap.objs.size+4)) { s with heap:=h' }):AE (AH prog w) A (call (Ap.type "zip") [Ap.ref l1,Ap.ref l2]) Q E s:=by
 refine callType_new F.called_zip δ (F.typeCall_zip_2 _ _) (F.newCall_zip_2 _ _) (fun obj=>F.args_object_init_3 obj _ _) F.entry_zip_new (Oq l1 l2 xs ys) ⟨hl1,hl2,?_⟩;have z1:(tz1 s.heap l1).objs.size=s.heap.objs.size+1:=D7 ..;have z2:(tz2 s.heap l1 l2).objs.size=s.heap.objs.size+2:=(D7 ..).trans (by rw[z1]);have z3:(tz3 s.heap l1 l2).objs.size=s.heap.objs.size+3:=(D7 ..).trans (by rw[z2]);have z4:(tz4 s.heap l1 l2).objs.size=s.heap.objs.size+4:=(D7 ..).trans (by rw[z3]);have z5:(tz5 s.heap l1 l2).objs.size=s.heap.objs.size+5:=(D7 ..).trans (by rw[z4]);have g5:(tz5 s.heap l1 l2).get? (tz4 s.heap l1 l2).objs.size=_:=A8 _ rfl;have g4:(tz5 s.heap l1 l2).get? (tz3 s.heap l1 l2).objs.size=_:=AD _ (A8 _ rfl);have g3:(tz5 s.heap l1 l2).get? (tz2 s.heap l1 l2).objs.size=_:=AD _ (AD _ (A8 _ rfl));have g2:(tz5 s.heap l1 l2).get? (tz1 s.heap l1).objs.size=_:=AD _ (AD _ (AD _ (A8 _ rfl)));have g1:(tz5 s.heap l1 l2).get? s.heap.objs.size=_:=AD _ (AD _ (AD _ (AD _ (A8 _ rfl))));have hk:∀c o,s.heap.get? c=some o->(tz5 s.heap l1 l2).get? c=some o:=fun c o e=>AD _ (AD _ (AD _ (AD _ (AD _ e))));rw[z4,z2,z3] at g5;rw[z3] at g4;rw[z2,z1] at g3;rw[z1] at g2;rw[z4];generalize tz5 s.heap l1 l2=h' at z5 g5 g4 g3 g2 g1 hk;exact⟨⟨_,g5,rfl⟩,h h' g5 g3 g4 ⟨_,g1,rfl,rfl⟩ ⟨_,g2,rfl,rfl⟩ z5 hk⟩
def Itu (K:AC)(a b:Addr):It:=
 ⟨fun i H=>∃xs ys x y,SqT K H a xs/\SqT K H b ys/\xs[i]?=some x/\ys[i]?=some y,
  fun i H v H'=>∃p x y,v=.ref p/\H p=none/\H'=upd H p (.tup [x,y])/\(∀xs,SqT K H a xs->xs[i]?=some x)/\∀ys,SqT K H b ys->ys[i]?=some y,
  fun i H=>∃xs ys,SqT K H a xs/\SqT K H b ys/\(xs[i]?=none\/ys[i]?=none)⟩
theorem Ld {P:AW}{w:BC}{K:AC}{es:List Expr}{kk:Nat}{tpos:Pos}{z TI TO i1 i2 l1 l2:Addr}(D:MD z TI TO i1 i2 l1 l2) :
  Turn P w K (.Tuple es kk tpos) (Itu K l1 l2) [z,TI,TO,i1,i2] z (fun i h=>IsZip h z TI TO .none/\ES h TI (.ref i1) (.ref i2)/\(∃a b,ES h TO a b)/\h.IsTupleIter i1 l1 i/\h.IsTupleIter i2 l2 i) where
 mem:=by simp
 obj:=fun i h st b hb=>by
  obtain⟨hz,hTI,⟨a,b',hTO⟩,⟨o1,e1,c1,d1⟩,⟨o2,e2,c2,d2⟩⟩:=st;simp only[BB,Cs,or_false] at hb;rcases hb with rfl|rfl|rfl|rfl|rfl
  ·exact⟨_,hz,fun v q=>by cases q⟩
  ·exact⟨_,hTI,fun v q=>by cases q⟩
  ·exact⟨_,hTO,fun v q=>by cases q⟩
  ·exact⟨o1,e1,fun v q=>by rw[d1] at q;cases q⟩
  exact⟨o2,e2,fun v q=>by rw[d2] at q;cases q⟩
 keep:=fun i h h' st k=>by
  obtain⟨hz,hTI,⟨a,b',hTO⟩,h1,h2⟩:=st;exact⟨k z (by simp) _ hz,k TI (by simp) _ hTI,⟨a,b',k TO (by simp) _ hTO⟩,h1.at fun o e=>k i1 (by simp) o e,h2.at fun o e=>k i2 (by simp) o e⟩
 item:=by
  intro X hP hw hK hc i pins s σ H E I hf st hg;subst hP hw hK;obtain⟨xs,ys,x,y,q1,q2,hx,hy⟩:=hg;obtain⟨its1,rv1,p1,hz1⟩:=I.tuple q1;obtain⟨its2,rv2,p2,hz2⟩:=I.tuple q2;obtain⟨u1,hu1,ru1⟩:=rv1.get hx;obtain⟨u2,hu2,ru2⟩:=rv2.get hy;obtain⟨hz,hTI,⟨a,b',hTO⟩,h1,h2⟩:=st;refine lY D hz hTI hTO h1 h2 p1 p2 (x:=u1) (y:=u2) (by simpa using hu1) (by simpa using hu2) fun h' a1 a2 a3 a4 a5 a6 hk=>?_;have new:cW X.prog X.w (upd H s.heap.objs.size (.tup [x,y])) h' s.heap.objs.size (.tup [x,y]):=⟨by show 2<=AM;decide,[u1,u2],.cons ru1 (.cons ru2 .nil),_,a5,rfl,_,rfl⟩;have I1:Inv X pins σ (upd H s.heap.objs.size (.tup [x,y])) { s with heap:=h' }:=I.Ox (t':=s.toks) (ch:=[z,TO,i1,i2]) (fun b hb=>hf b (by
   simp only[BB,Cs,or_false] at hb |-;rcases hb with r|r|r|r <;> simp [r]))
   (fun b o hb e=>hk b o (fun q=>hb (by simp [q])) (fun q=>hb (by simp [q])) (fun q=>hb (by simp [q])) (fun q=>hb (by simp [q])) e) (AY _) new
  have hTI':ES h' TI (.ref i1) (.ref i2):=hk _ _ D.TIz D.TITO D.TIi1 D.TIi2 hTI;have hsz:∀b,b∈[z,TI,TO,i1,i2]->b≠s.heap.objs.size:=fun b hb=>by
   obtain⟨_,_,hlt,_⟩:=hf b hb;have lt:∃o,s.heap.get? b=some o:=by
    simp only[BB,Cs,or_false] at hb;rcases hb with rfl|rfl|rfl|rfl|rfl
    ·exact⟨_,hz⟩
    ·exact⟨_,hTI⟩
    ·exact⟨_,hTO⟩
    ·obtain⟨o,e,_⟩:=h1;exact⟨o,e⟩
    obtain⟨o,e,_⟩:=h2;exact⟨o,e⟩
   obtain⟨o,e⟩:=lt;exact B4 (AZ e)
  refine⟨_,rfl,wpAny_letOwnedTupleGo_zip (s:={ s with heap:=h' }) a1 fun h'' z2 sb=>?_⟩;have fz:=hf z (by simp);have I2:Inv X pins σ (upd H s.heap.objs.size (.tup [x,y])) { s with heap:=h'' }:=Inv.turned (s:={ s with heap:=h' }) (it:=z) (t':=s.toks) I1 (fun b o hb e=>(sb.2 b hb).trans e) (by rw[aF (hsz z (by simp))];exact fz.1) fz.2.1 fz.2.2.2.1 fz.2.2.2.2.1 fz.2.2.2.2.2;refine⟨.ref s.heap.objs.size,_,I2,rfl,⟨_,x,y,rfl,I.fresh,rfl,fun xs' q=>by rw[I.uE q q1];exact hx,fun ys' q=>by rw[I.uE q q2];exact hy⟩,
   ⟨z2,(sb.2 _ D.TIz).trans hTI',⟨_,_,(sb.2 _ D.TOz).trans a2⟩,a3.extBut sb.extBut D.i1z,a4.extBut sb.extBut D.i2z⟩,fun b hb=>by rw[aF (hsz b hb)];exact(hf b hb).1⟩
 done:=by
  intro X hP hw hK hc i pins s σ H E I hf st hg;subst hP hw hK;obtain⟨xs,ys,q1,q2,hx⟩:=hg;obtain⟨its1,rv1,p1,hz1⟩:=I.tuple q1;obtain⟨its2,rv2,p2,hz2⟩:=I.tuple q2;obtain⟨hz,hTI,⟨a,b',hTO⟩,h1,h2⟩:=st;have hend:its1.toArray[i]?=none\/its2.toArray[i]?=none:=by
   rcases hx with r|r
   ·exact .inl (by simpa using rv1.none_of r)
   exact .inr (by simpa using rv2.none_of r)
  refine nH (I.ok.hd hc) D hz hTI hTO h1 h2 p1 p2 hend fun h' hk=>⟨rfl,?_⟩;exact I.Oz (t':=s.toks) (ch:=[z,TO,i1,i2]) (fun b hb=>hf b (by
   simp only[BB,Cs,or_false] at hb |-;rcases hb with r|r|r|r <;> simp [r]))
   (fun b o hb e=>hk b o (fun q=>hb (by simp [q])) (fun q=>hb (by simp [q])) (fun q=>hb (by simp [q])) (fun q=>hb (by simp [q])) e)
 self:=fun _ _ _ _ _ st h=>LJ st.1 h
def zpq (K:AC)(o1 o2:Option HO)(a b:Addr)(H:Hp)(R:It->Hp->Prop):Prop:=match o1,o2 with
 | some (.lst _),some (.lst _)=>R (Itz K a b) H
 | some (.tup _),some (.tup _)=>R (Itu K a b) H
 | _,_=>False
def zpK (K:AC)(vs:List V)(H:Hp)(R:It->Hp->Prop):Prop:=match vs with
 | [.ref a,.ref b]=>zpq K (H a) (H b) a b H R
 | _=>False
def Tf (K:AC)(ta:TA):TI:=fun σ H R=>ta σ H fun vs H1=>zpK K vs H1 R
theorem Te (K:AC)(ta:TA)(σ:St)(H:Hp)(R:It->Hp->Prop):Tf K ta σ H R=ta σ H fun vs H1=>zpK K vs H1 R:=rfl
theorem Zz (K:AC)(a b:Addr)(H:Hp)(R:It->Hp->Prop):zpK K [.ref a,.ref b] H R=zpq K (H a) (H b) a b H R:=rfl
theorem Zy (K:AC)(xs ys:List V)(a b:Addr)(H:Hp)(R:It->Hp->Prop):zpq K (some (.lst xs)) (some (.lst ys)) a b H R=R (Itz K a b) H:=rfl
theorem Zx (K:AC)(xs ys:List V)(a b:Addr)(H:Hp)(R:It->Hp->Prop):zpq K (some (.tup xs)) (some (.tup ys)) a b H R=R (Itu K a b) H:=rfl
section
variable {X:Cx}
theorem WL {es:List Expr}{kk:Nat}{tpos:Pos}{a b:Expr}{ta:TA}{p pos:Pos}(hg:Gl X "zip") (hm:X.mg "zip" = none) (ha:PA X [a,b] ta) (hs:AJ [a,b] X.env=[(false,eval a X.env),(false,eval b X.env)]:=by rfl) (hs2:AJ [b] X.env=[(false,eval b X.env)]:=by rfl) :
  PI X (.Tuple es kk tpos) (.Call (.Name "zip" p) [a,b] [] pos) (Tf X.K ta):=by
 intro pins s σ H R I h;refine Call_ (jV I hg hm boot_zip (CL (thA (ha pos pins s σ H _ I h) fun us s1 vs H1 I1 r1 q1=>?_) (by rw[hs,hs2]) (by rw[hs2];rfl)));replace q1:zpK X.K vs H1 R:=q1;unfold zpK at q1;split at q1
 ·rename_i l1 l2;unfold zpq at q1;cases r1 with
  | cons r rr=>
   cases rr with
   | cons r' rr=>
    cases rr;cases r;cases r';have apart:l1<s1.heap.objs.size->l2<s1.heap.objs.size->MD (s1.heap.objs.size+4) (s1.heap.objs.size+2) (s1.heap.objs.size+3) s1.heap.objs.size (s1.heap.objs.size+1) l1 l2:=by
     generalize s1.heap.objs.size=n;intro lt1 lt2;have lt1':@LT.lt Nat _ l1 n:=lt1;have lt2':@LT.lt Nat _ l2 n:=lt2;constructor <;> (intro(z:@Eq Nat _ _);omega)
    have fp:∀b∈[s1.heap.objs.size+4,s1.heap.objs.size+2,s1.heap.objs.size+3,s1.heap.objs.size,s1.heap.objs.size+1],rT X pins H1 b:=fun b hb=>by
     have hle:s1.heap.objs.size<=b:=by
      simp only[BB,Cs,or_false] at hb;rcases hb with rfl|rfl|rfl|rfl|rfl <;> simp
     exact I1.TY hle (I1.hok.fresh hle)
    split at q1
    ·rename_i xs ys e1 e2;obtain⟨its1,rv1,p1,hz1⟩:=I1.list (SqL.of e1);obtain⟨its2,rv2,p2,hz2⟩:=I1.list (SqL.of e2);have lt1:l1<s1.heap.objs.size:=by obtain⟨_,e,_⟩:=p1.isList;exact AZ e
     have lt2:l2<s1.heap.objs.size:=by obtain⟨_,e,_⟩:=p2.isList;exact AZ e
     refine call_zip_2 p1.isList p2.isList fun h' b1 b2 b3 b4 b5 b6 hk=>?_;refine LJ (s:={ s1 with heap:=h' }) b1 ?_;exact⟨_,_,_,_,H1,rfl,I1.kept (t':=s1.toks) hk,Ov (apart lt1 lt2),⟨b1,b2,⟨_,_,b3⟩,b4,b5⟩,fp,q1⟩
    ·rename_i xs ys e1 e2;obtain⟨its1,rv1,p1,hz1⟩:=I1.tuple (SqT.of e1);obtain⟨its2,rv2,p2,hz2⟩:=I1.tuple (SqT.of e2);have lt1:l1<s1.heap.objs.size:=by obtain⟨_,e,_⟩:=p1;exact AZ e
     have lt2:l2<s1.heap.objs.size:=by obtain⟨_,e,_⟩:=p2;exact AZ e
     refine FZ p1 p2 fun h' b1 b2 b3 b4 b5 b6 hk=>?_;refine LJ (s:={ s1 with heap:=h' }) b1 ?_;exact⟨_,_,_,_,H1,rfl,I1.kept (t':=s1.toks) hk,Ld (apart lt1 lt2),⟨b1,b2,⟨_,_,b3⟩,b4,b5⟩,fp,q1⟩
    exact q1.elim
 exact q1.elim
theorem Wd {es:List Expr}{kk:Nat}{tpos:Pos}{a b:Expr}{t:TA}{p pos:Pos}(hg:Gl X "zip") (hm:X.mg "zip" = none) (ha:QA X [a,b] t) (hs:AJ [a,b] X.env=[(false,eval a X.env),(false,eval b X.env)]:=by rfl) (hs2:AJ [b] X.env=[(false,eval b X.env)]:=by rfl):QI X (.Tuple es kk tpos) (.Call (.Name "zip" p) [a,b] [] pos) (Tf X.K t):=⟨WL hg hm ha.h hs hs2⟩
end
def su (n:Nat):Sp:=fun vs H Q _=>∃x y ok d,vs=[x,y]/\bC ok H x d/\bC ok H y d/\d.depth<n/\∀H',Same H H'->Q (.bl true) H'
theorem Ao {d:A7}{ds:List A7}(h:d∈ds):d.depth<(A7.list ds).depth/\d.depth<(A7.tuple ds).depth:=by
 have:=uq h;rw[A7.depth.eq_1,A7.depth.eq_2];omega
section
variable {K:AC}{mp:List (Option Nat)}{g:TG}{tc:TT}{te:TE}{σ:St}{H:Hp}{Q:VK}{R:It->Hp->Prop}
theorem Yx {a b:Addr}{xs ys:List V}(hR:R=Gw mp g tc te σ Q)(hz:xs.length<=AM)(hl2:xs.length=ys.length)(Pv:Nat->List V->St->Hp->Prop)(h0:Pv 0 [] (jq mp σ) H)(hl:∀i acc τ H,Pv i acc τ H->acc.length<=i)
  (hq:∀i acc τ H,Pv i acc τ H->H a=some (.lst xs)/\H b=some (.lst ys))
  (hs:∀i x y acc τ H p,xs[i]?=some x->ys[i]?=some y->Pv i acc τ H->H p=none->g (.ref p) τ (upd H p (.tup [x,y])) fun τ1 H4=>tc τ1 H4 fun b H5=>if b=true then te τ1 H5 fun v H6=>Pv (i+1) (acc++[v]) τ1 H6 else Pv (i+1) acc τ1 H5)
  (hd:∀acc τ H d,Pv xs.length acc τ H->H d=none->Q (.ref d) (upd H d (.lst acc))):R (Itz K a b) H:=by
 refine ur hR xs.length hz Pv h0 hl (fun i acc τ H hi p=>?_) (fun acc τ H p=>?_) (fun i acc τ H x H3 hi p y=>?_) hd
 ·obtain⟨e1,e2⟩:=hq i acc τ H p;exact⟨xs,ys,_,_,SqL.of e1,SqL.of e2,AR hi,AR ω⟩
 ·obtain⟨e1,e2⟩:=hq _ acc τ H p;exact⟨xs,ys,SqL.of e1,SqL.of e2,.inl (GL (AY _))⟩
 obtain⟨e1,e2⟩:=hq i acc τ H p;obtain⟨q,x1,y1,rfl,hq1,rfl,hx,hy⟩:=y;exact hs i x1 y1 acc τ H q (hx _ (SqL.of e1)) (hy _ (SqL.of e2)) p hq1
theorem Yw {a b:Addr}{xs ys:List V}(hR:R=Gw mp g tc te σ Q)(hz:xs.length<=AM)(hl2:xs.length=ys.length)(Pv:Nat->List V->St->Hp->Prop)(h0:Pv 0 [] (jq mp σ) H)(hl:∀i acc τ H,Pv i acc τ H->acc.length<=i)
  (hq:∀i acc τ H,Pv i acc τ H->H a=some (.tup xs)/\H b=some (.tup ys))
  (hs:∀i x y acc τ H p,xs[i]?=some x->ys[i]?=some y->Pv i acc τ H->H p=none->g (.ref p) τ (upd H p (.tup [x,y])) fun τ1 H4=>tc τ1 H4 fun b H5=>if b=true then te τ1 H5 fun v H6=>Pv (i+1) (acc++[v]) τ1 H6 else Pv (i+1) acc τ1 H5)
  (hd:∀acc τ H d,Pv xs.length acc τ H->H d=none->Q (.ref d) (upd H d (.lst acc))):R (Itu K a b) H:=by
 refine ur hR xs.length hz Pv h0 hl (fun i acc τ H hi p=>?_) (fun acc τ H p=>?_) (fun i acc τ H x H3 hi p y=>?_) hd
 ·obtain⟨e1,e2⟩:=hq i acc τ H p;exact⟨xs,ys,_,_,SqT.of e1,SqT.of e2,AR hi,AR ω⟩
 ·obtain⟨e1,e2⟩:=hq _ acc τ H p;exact⟨xs,ys,SqT.of e1,SqT.of e2,.inl (GL (AY _))⟩
 obtain⟨e1,e2⟩:=hq i acc τ H p;obtain⟨q,x1,y1,rfl,hq1,rfl,hx,hy⟩:=y;exact hs i x1 y1 acc τ H q (hx _ (SqT.of e1)) (hy _ (SqT.of e2)) p hq1
end
inductive RowC where
 | one (n t:Int)
 | rng (a b t:Int)
 | low (n t:Int)
 | msk (lo wd bits t:Int)
 | tab (lo:Int) (gs:List Int)
 | pik (l:Int)
def rowCD:RowC->A7
 | .one n t=>.tuple [.str "is",.int n,.int t]
 | .rng a b t=>.tuple [.str "within",.int a,.int b,.int t]
 | .low n t=>.tuple [.str "below",.int n,.int t]
 | .msk lo wd bits t=>.tuple [.str "mask",.int lo,.int wd,.int bits,.int t]
 | .tab lo gs=>.tuple [.str "table",.int lo,.tuple (gs.map A7.int)]
 | .pik l=>.tuple [.str "pick",.int l]
def RowCOk (m o:Int):RowC->Prop
 | .one _ t=>btw o m t=true
 | .rng _ _ t=>btw o m t=true
 | .low _ t=>btw o m t=true
 | .msk _ wd bits t=>btw o m t=true/\1<=wd/\wd<=64/\0<=bits
 | .tab _ gs=>gs.all (btw o m)=true
 | .pik _=>True
def acs:RowC->Bool
 | .pik _=>true
 | _=>false
def bitAt (bits place:Int):Bool:=decide (AX.bitAnd (bits/2^place.toNat) 1=1)
def Ze (c:RowC)(o n:Int):Option Int:=match c with
 | .one a t=>some (if n=a then t else o+1)
 | .rng a b t=>some (if a<=n/\n<=b then t else o+1)
 | .low a t=>some (if n<a then t else o+1)
 | .msk lo wd bits t=>if 0<=n-lo/\n-lo<wd then some (if bitAt bits (n-lo)=true then t else o+1) else none
 | .tab lo gs=>if 0<=n-lo/\n-lo<gs.length then gs[(n-lo).toNat]? else none
 | .pik _=>none
def runC (cs:List RowC)(n:Int):Nat->Int->Option Int×List Int
 | 0,a=>(none,[a])
 | k+1,a=>match cs[a.toNat]? with
  | some (.pik l)=>(some l,[a])
  | some c=>match Ze c a n with
   | none=>(none,[a])
   | some t=>((runC cs n k t).1,a::(runC cs n k t).2)
  | none=>(none,[a])
def runOf (cs:List RowC)(n:Int):Option Int×List Int:=runC cs n cs.length 0
def acG:RowC->Addr->List V
 | .one n t,_=>[.str "is",.int n,.int t]
 | .rng a b t,_=>[.str "within",.int a,.int b,.int t]
 | .low n t,_=>[.str "below",.int n,.int t]
 | .msk lo wd bits t,_=>[.str "mask",.int lo,.int wd,.int bits,.int t]
 | .tab lo _,g=>[.str "table",.int lo,.ref g]
 | .pik l,_=>[.str "pick",.int l]
def RowAt (H:Hp)(x:V)(c:RowC):Prop:=∃a g,x=.ref a/\H a=some (.tup (acG c g))/\∀lo gs,c=.tab lo gs->H g=some (.tup (gs.map V.int))
def scV:A7->Option V
 | .int i=>some (.int i)
 | .str z=>some (.str z)
 | _=>none
theorem bC.sc {ok:Addr->Prop}{H:Hp}{x v:V}{d:A7}(t:bC ok H x d)(h:scV d=some v):x=v:=by
 cases t with
 | int i=>exact B7 h
 | str z=>exact B7 h
 | _=>cases h
theorem aN.sc {ok:Addr->Prop}{H:Hp}:∀{xs vs:List V}{ds:List A7},aN ok H xs ds->ds.map scV=vs.map some->xs=vs
 | _,[],_,.nil,_=>rfl
 | _,v::vs,_,.nil,h=>by cases h
 | _,[],_,.cons _ _,h=>by cases h
 | _,v::vs,_,.cons t ts,h=>by
  rw[F9,F9] at h;injection h with h1 h2;rw[t.sc h1,ts.sc h2]
theorem aN.uncons {ok:Addr->Prop}{H:Hp}{xs:List V}{d:A7}{ds:List A7}(t:aN ok H xs (d::ds)):∃x r,xs=x::r/\bC ok H x d/\aN ok H r ds:=by
 cases t with
 | cons h r=>exact⟨_,_,rfl,h,r⟩
theorem bC.tupOf {ok:Addr->Prop}{H:Hp}{x:V}{ds:List A7}(t:bC ok H x (.tuple ds)):∃p xs,x=.ref p/\H p=some (.tup xs)/\aN ok H xs ds:=by
 cases t with
 | tup o e z ts=>exact⟨_,_,rfl,e,ts⟩
section
variable {X:Cx}{e o:Expr}{te to:TE}{pos:Pos}
def KTup (K:AC) (p:Addr) (xs:List V):Prop:=∃(o:Obj)(its:Array Ap)(n:Nat),K.lookup p=some o/\o.cls=.type "tuple" /\ o.dict=none/\o.data=.seq its n/\its.size<=AM/\Vals xs its.toList
end
inductive Pl where
 | pick (l:Int)
 | one (k:Nat) (r:Pl)
 | wit (k:Nat) (r:Pl)
 | low (k:Nat) (a b:Pl)
 | msk (l:Int) (r:Pl)
 | tab
def zm:Pl->Nat
 | .pick _=>1
 | .one _ r=>zm r+1
 | .wit _ r=>zm r+1
 | .low _ a b=>zm a+zm b+1
 | .msk _ r=>zm r+1
 | .tab=>1
abbrev Sts:=List (Int×Int×Int)
def yX (ss:Sts)(k:Nat):Int×Int×Int:=ss.getD k (0,0,0)
structure Lf (ss:Sts)(left:List Nat):Prop where
 ne:left≠[]
 lt:∀k∈left,k<ss.length
 up:left.Pairwise (· < ·)
def kids (ss:Sts):Pl->List Nat->List (List Nat×Pl)
 | .pick _,_=>[]
 | .tab,_=>[]
 | .one k r,left=>[(left.filter (·≠k),r)]
 | .wit k r,left=>[(left.filter (·≠k),r)]
 | .low k a b,left=>[(left.filter (· < k),a),(left.filter (k<=·),b)]
 | .msk l r,left=>[(left.filter fun k=>(yX ss k).2.2≠l,r)]
def Vc (ss:Sts):Pl->List Nat->Prop
 | .pick _,left=>Lf ss left
 | .tab,left=>Lf ss left
 | .one k r,left=>Lf ss left/\Vc ss r (left.filter (·≠k))
 | .wit k r,left=>Lf ss left/\Vc ss r (left.filter (·≠k))
 | .low k a b,left=>Lf ss left/\Vc ss a (left.filter (· < k))/\Vc ss b (left.filter (k<=·))
 | .msk l r,left=>Lf ss left/\Vc ss r (left.filter fun k=>(yX ss k).2.2≠l)
def Zf (ss:Sts)(left:List Nat):Int:=(yX ss (left.getLast?.getD 0)).2.1-(yX ss (left.head?.getD 0)).1+1
theorem Ue (xs:List V)(n:Nat)(h:n<=xs.length):rH xs (some (n:Int)) none=xs.drop n:=by
 unfold rH;have e1:HT.sIx xs.length 0 (some (n:Int))=n:=by
  simp only[HT.sIx];split
  ·omega
  omega
 have e2:HT.sIx xs.length xs.length none=xs.length:=by simp [HT.sIx]
 rw[e1,e2];exact HZ (by rw[F8];exact AY _)
theorem Wf (K:AC){X:Cx}{tg l:Expr}{tl:TE}(hl:QE X l tl)(hK:X.K=K:=by rfl):QI X tg l (Ks K tl):=by
 subst hK;exact dB hl
def lbl (ss:Sts)(k:Nat):Int:=(yX ss k).2.2
def kY (ss:Sts):Pl->List Nat->List (List Nat×Pl)
 | .pick l,left=>[(left,.pick l)]
 | .tab,left=>[(left,.tab)]
 | .one k r,left=>(left,.one k r)::kY ss r (left.filter (·≠k))
 | .wit k r,left=>(left,.wit k r)::kY ss r (left.filter (·≠k))
 | .low k a b,left=>(left,.low k a b)::(kY ss b (left.filter (k<=·))++kY ss a (left.filter (· < k)))
 | .msk l r,left=>(left,.msk l r)::kY ss r (left.filter fun k=>(yX ss k).2.2≠l)
def Pn (ss:Sts)(W:List (List Nat×Pl)):List (List Nat×Pl):=(W.reverse.map fun x=>kY ss x.2 x.1).flatten
theorem steps_kids (ss:Sts)(p:Pl)(left:List Nat):kY ss p left=(left,p)::Pn ss (kids ss p left):=by
 cases p <;> simp [kY,Pn,kids]
def VL (ss:Sts)(left:List Nat):Pl->Prop
 | .pick l=>∀k∈left,lbl ss k=l
 | .tab=>Zf ss left<=200
 | .one k _=>k∈left/\(yX ss k).1=(yX ss k).2.1
 | .wit k _=>k∈left
 | .low k _ _=>k∈left
 | .msk l _=>Zf ss left<=64/\∃k∈left,lbl ss k=l
def PlV (ss:Sts):Pl->List Nat->Prop
 | .pick l,left=>Lf ss left/\VL ss left (.pick l)
 | .tab,left=>Lf ss left/\VL ss left .tab
 | .one k r,left=>(Lf ss left/\VL ss left (.one k r))/\PlV ss r (left.filter (·≠k))
 | .wit k r,left=>(Lf ss left/\VL ss left (.wit k r))/\PlV ss r (left.filter (·≠k))
 | .low k a b,left=>(Lf ss left/\VL ss left (.low k a b))/\PlV ss a (left.filter (· < k))/\PlV ss b (left.filter (k<=·))
 | .msk l r,left=>(Lf ss left/\VL ss left (.msk l r))/\PlV ss r (left.filter fun k=>(yX ss k).2.2≠l)
def ni:Pl->Nat->List (Nat×Nat)
 | .pick _,_=>[]
 | .tab,_=>[]
 | .one _ r,p=>ni r (p+1)
 | .wit _ r,p=>ni r (p+1)
 | .msk _ r,p=>ni r (p+1)
 | .low _ a b,p=>ni b (p+1)++(p,p+1+zm b)::ni a (p+1+zm b)
def Yn:List Pl->List Nat->Nat->List (Nat×Nat)
 | [],_,_=>[]
 | c::rest,T,p=>ni c p++(match T with | []=>[]|t::T'=>match rest with | []=>[]|_::_=>(t,p+zm c)::Yn rest T' (p+zm c))
theorem futA_one (c:Pl)(T:List Nat)(p:Nat):Yn [c] T p=ni c p:=by
 cases T <;> exact DB _
theorem abx (xs:List V)(n:Nat)(h:n<=xs.length):rH xs none (some (n:Int))=xs.take n:=by
 unfold rH;have e1:HT.sIx xs.length 0 none=0:=by simp [HT.sIx]
 have e2:HT.sIx xs.length xs.length (some (n:Int))=n:=by
  simp only[HT.sIx];split
  ·omega
  omega
 rw[e1,e2];rfl
def Wlk (h:Heap)(i l:Addr)(k:Nat)(xs:Array Ap):Prop:=(h.IsTupleIter i l k/\h.IsTuple l xs)\/(h.IsListIter i l k/\h.IsList l xs)
@[reducible] def IsZip2 (h:Heap) (z TI TO a:Addr) (b:Bool):Prop:=h.get? z=some { cls:=Ap.type "zip",data:=BG #[Fh a,Ap.bool b,Ap.bool false,Ap.ref TI,Ap.ref TO] }
def slc (ws:List Int)(i j:Nat):List Int:=(ws.drop i).take (j-i)
inductive Tr:List Int->Int->Prop
 | leaf (w:Int):Tr [w] 0
 | node {a b:List Int} {x y:Int}:Tr a x->Tr b y->Tr (a++b) ((a++b).sum+(x+y))
inductive PTr (ss:Sts)(ws:List Int):Nat->Nat->Pl->Int->Prop
 | leaf {i:Nat}:i<ss.length->PTr ss ws i (i+1) (.pick (yX ss i).2.2) 0
 | node {i k j:Nat} {a b:Pl} {x y:Int}:i<k->k<j->PTr ss ws i k a x->PTr ss ws k j b y->PTr ss ws i j (.low k a b) ((slc ws i j).sum+(x+y))
theorem range_lt {i k j:Nat}(h1:i<=k)(h2:k<=j):(Lo i (j-i)).filter (· < k)=Lo i (k-i):=by
 have e:j-i=(k-i)+(j-k):=ω;rw[e,<- MI,Ee,List.filter_eq_self.mpr,F4.mpr,DB]
 ·intro a ha;rw[L8] at ha;simp only[decide_eq_true_eq];omega
 intro a ha;rw[L8] at ha;simp only[decide_eq_true_eq];omega
theorem range_ge {i k j:Nat}(h1:i<=k)(h2:k<=j):(Lo i (j-i)).filter (k<=·)=Lo k (j-k):=by
 have e:j-i=(k-i)+(j-k):=ω;rw[e,<- MI,Ee,F4.mpr,List.filter_eq_self.mpr,nil_append]
 ·rw[show i+(k-i)=k by omega]
 ·intro a ha;rw[L8] at ha;simp only[decide_eq_true_eq];omega
 intro a ha;rw[L8] at ha;simp only[decide_eq_true_eq];omega
theorem PTr.siz {ss:Sts}{ws:List Int}{i j:Nat}{p:Pl}{c:Int}(h:PTr ss ws i j p c):zm p+1<=2*(j-i):=by
 induction h with
 | leaf h=>show 1+1<=_;omega
 | node h1 h2 t1 t2 a b=>
  show _+_+1+1<=_;omega
def key2 (a b:Int):List Key:=[KS a,KS b]
theorem BZ {M:Model}{A:A3}{E:Ap->AA->Prop}{s:AA}{base:Heap}{env:Env}{outer:List Env}{L e:Addr}{oe:Obj}{vs:Array Ap}{head:Ap}{b0:Bool}{Q:Unit->AA->Prop}(hfr:A.frames=some (env::outer))(hl:s.heap.FunFrames base (env::outer))(hf:env.frame=some L)
  (he:s.heap.get? e=some oe) (hd:oe.data=BG vs) (h1s:1<vs.size) (hen:e∉B1 (fun x=>x.frame) (env::outer))
  (hQ:∀(h':Heap)(T:Addr)(ts:Array Ap),h'.get? e=some { cls:=oe.cls,dict:=oe.dict,data:=BG (vs.setIfInBounds 1 (Ap.ref T)),slots:=oe.slots }->h'.get? T=some { cls:=Ap.type "traceback",data:=BG ts }->ts[3]?=some (Fh L)->T≠e->s.heap.objs.size<=T ->
   (∀b o,b≠e->b∉B1 (fun x=>x.frame) (env::outer)->s.heap.get? b=some o->h'.get? b=some o)->(∀b o,b∈B1 (fun x=>x.frame) (env::outer)->s.heap.get? b=some o->∃sl,h'.get? b=some { cls:=o.cls,dict:=o.dict,data:=o.data,slots:=sl })->Q () { s with heap:=h' }) :
  AE M A (do
   let a <- PySem.frameOf env
   let pl <- entryPlaceOf L b0
   let b <- EntryCells.newEntry head a Ap.none (Fh ↑L) Ap.none pl
   G1 (Ap.ref e) 1 b) Q E s:=by
 refine An (wpAny_frameOf_fun hfr hl hf fun h₁ so=>?_);refine An (wpAny_entryPlaceOf fun pl hpl=>?_);have he1:h₁.get? e=some oe:=(so.2.1 e hen).trans he;refine An ?_;unfold EntryCells.newEntry newFields;refine BM ?_ ?_
 ·have he2:=AD (h:=h₁) { cls:=Ap.type "traceback",data:=BG ([head,Ap.ref L,Ap.none,Fh ↑L,Ap.none]++if pl.isEmpty=true then BD 6 Ap.none else pl).toArray } he1;refine wpAny_setField (s:={ s with heap:=h₁.push { cls:=Ap.type "traceback",data:=BG ([head,Ap.ref L,Ap.none,Fh ↑L,Ap.none]++if pl.isEmpty=true then BD 6 Ap.none else pl).toArray } }) he2 hd h1s ?_;have hne:h₁.objs.size≠e:=fun z=>by
   have:=AZ he1;rw[z] at this;exact Db _ this
  refine hQ _ h₁.objs.size ([head,Ap.ref L,Ap.none,Fh ↑L,Ap.none]++if pl.isEmpty=true then BD 6 Ap.none else pl).toArray ?_ ?_ (by simp) hne (by rw[so.1];exact AY _) (fun b o hb hbf g=>?_) (fun b o hbf g=>?_)
  ·have:=ER (f:=Obj.mapFields fun x=>x.setIfInBounds 1 (Ap.ref h₁.objs.size)) he2 ?_
   ·rw[this];obtain⟨c,d,dt,sl⟩:=oe;cases hd;rfl
   obtain⟨c,d,dt,sl⟩:=oe;cases hd;rfl
  ·refine(BU _ _ hne.symm).trans ?_;exact A8 _ rfl
  ·refine(BU _ _ (B2 hb)).trans (AD _ ((so.2.1 b hbf).trans g))
  obtain⟨sl,q⟩:=so.2.2 b o g;refine⟨sl,(BU _ _ fun z=>hen (by rw[z];exact hbf)).trans (AD _ q)⟩
 have hp:=hpl;unfold IsPlace at hp;show([head,Ap.ref L,Ap.none,Fh ↑L,Ap.none]++if pl.isEmpty=true then BD 6 Ap.none else pl).toArray.size<=AM+2;rw[Bz,AO];split
 ·rw[List.length_replicate];show 5+6<=_;decide
 rcases hp with rfl|⟨_,_,_,_,_,_,_,rfl⟩
 ·show 5+0<=_;decide
 show 5+6<=_;decide
theorem Xz {prog:AW}{w:BC}{A:A3}{E:Ap->AA->Prop}{s:AA}{base:Heap}{env:Env}{outer:List Env}{L e:Addr}{oe:Obj}{vs:Array Ap}{Q:Unit->AA->Prop}(hfr:A.frames=some (env::outer))(hl:s.heap.FunFrames base (env::outer))(hf:env.frame=some L)
  (he:s.heap.get? e=some oe) (hd:oe.data=BG vs) (h1s:1<vs.size) (hen:e∉B1 (fun x=>x.frame) (env::outer))
  (ht:vs[1]?=some Ap.none\/∃T ts,vs[1]?=some (Ap.ref T)/\T≠e/\s.heap.get? T=some { cls:=Ap.type "traceback",data:=BG ts }/\ts[3]?=some Ap.none)
  (hQ:∀(h':Heap)(T:Addr)(ts:Array Ap),h'.get? e=some { cls:=oe.cls,dict:=oe.dict,data:=BG (vs.setIfInBounds 1 (Ap.ref T)),slots:=oe.slots }->h'.get? T=some { cls:=Ap.type "traceback",data:=BG ts }->ts[3]?=some Ap.none->T≠e->s.heap.objs.size<=T ->
   (∀b o,b≠e->b∉B1 (fun x=>x.frame) (env::outer)->vs[1]?≠some (Ap.ref b)->s.heap.get? b=some o->h'.get? b=some o)->(∀b o,b∈B1 (fun x=>x.frame) (env::outer)->s.heap.get? b=some o->∃sl,h'.get? b=some { cls:=o.cls,dict:=o.dict,data:=o.data,slots:=sl })->Q () { s with heap:=h' }) :
  AE (AH prog w) A (leaving env (Ap.ref e)) Q E s:=by
 unfold leaving;have fin:∀(h₂:Heap)(T:Addr)(ts:Array Ap),h₂.get? e=some { cls:=oe.cls,dict:=oe.dict,data:=BG (vs.setIfInBounds 1 (Ap.ref T)),slots:=oe.slots }->h₂.get? T=some { cls:=Ap.type "traceback",data:=BG ts }->ts[3]?=some (Fh L)->T≠e->s.heap.objs.size<=T->T∉B1 (fun x=>x.frame) (env::outer) ->
   (∀b o,b≠e->b∉B1 (fun x=>x.frame) (env::outer)->vs[1]?≠some (Ap.ref b)->s.heap.get? b=some o->h₂.get? b=some o)->(∀b o,b∈B1 (fun x=>x.frame) (env::outer)->s.heap.get? b=some o->∃sl,h₂.get? b=some { cls:=o.cls,dict:=o.dict,data:=o.data,slots:=sl }) ->
   AE (AH prog w) A (HC (Ap.ref e) none) Q E { s with heap:=h₂ }:=fun h₂ T ts g1 g2 g3 g4 g5 g6 g7 g8=>by
  unfold HC;have v1:(vs.setIfInBounds 1 (Ap.ref T))[1]?=some (Ap.ref T):=by
   rw[C7 h1s]
  refine An (Co g1 rfl v1 (Fm rfl ?_));refine B0 (s:={ s with heap:=h₂ }) g2 (Be.mp g3).1 fun h₃ q1 q2=>?_;refine hQ h₃ T _ ((q2.2 e (B2 g4)).trans g1) q1 ?_ g4 g5 (fun b o c1 c2 c3 g=>?_) (fun b o c1 g=>?_)
  ·rw[C7 (Be.mp g3).1];rfl
  ·have hb:b≠T:=fun z=>by
    have:=AZ g;rw[z] at this;exact absurd this (not_lt.mpr g5)
   exact(q2.2 b hb).trans (g7 b o c1 c2 c3 g)
  obtain⟨sl,q⟩:=g8 b o c1 g;exact⟨sl,(q2.2 b fun z=>g6 (by rw[<- z];exact c1)).trans q⟩
 refine An ?_;unfold Hm;rw[hf];have fresh:∀{T:Addr},s.heap.objs.size<=T->T∉B1 (fun x=>x.frame) (env::outer):=fun {T} hT hm=>by
  obtain⟨_,o,g,_⟩:=hl.mem hm;exact absurd (AZ g) (not_lt.mpr hT)
 rcases ht with ht|⟨T0,ts0,ht,hTe,hT0,h30⟩
 ·refine An (Co he hd ht (C6 rfl ?_));exact BZ hfr hl hf he hd h1s hen fun h₂ T ts g1 g2 g3 g4 g5 g6 g7=>fin h₂ T ts g1 g2 g3 g4 g5 (fresh g5) (fun b o c1 c2 _ g=>g6 b o c1 c2 g) g7
 refine An (Co he hd ht (Fm rfl ?_));refine An (Co hT0 rfl h30 (C6 rfl ?_));refine An (B0 hT0 (Be.mp h30).1 fun h₁ q1 q2=>?_);have hT0f:T0∉B1 (fun x=>x.frame) (env::outer):=fun hm=>by
  obtain⟨_,o,g,nf⟩:=hl.mem hm;rw[hT0] at g;cases g;exact nf _ rfl
 have hl1:h₁.FunFrames base (env::outer):=hl.of_keeps fun b o g nf=>⟨o,(q2.2 b fun z=>by rw[z,hT0] at g;cases g;exact nf _ rfl).trans g,rfl⟩;refine BZ (s:={ s with heap:=h₁ }) hfr hl1 hf ((q2.2 e (B2 hTe)).trans he) hd h1s hen fun h₂ T ts g1 g2 g3 g4 g5 g6 g7=>?_;have g5':s.heap.objs.size<=T:=by rw[<- q2.1];exact g5
 refine fin h₂ T ts g1 g2 g3 g4 g5' (fresh g5') (fun b o c1 c2 c3 g=>g6 b o c1 c2 ((q2.2 b fun z=>c3 (by rw[z];exact ht)).trans g)) fun b o c1 g=>?_;exact g7 b o c1 ((q2.2 b fun z=>hT0f (by rw[<- z];exact c1)).trans g)
theorem Tv {h:Heap}{a:Addr}(hl:h.objs.size<=a):h.get? a=none:=by
 cases e:h.get? a with
 | none=>rfl
 | some o=>exact absurd (AZ e) (not_lt.mpr hl)
theorem Gz {prog:AW}{w:BC}{A:A3}{E:Ap->AA->Prop}{h:Heap}{g:Array HI}{d:Drawn}{t:Nat}{os:OsState}{nm q:Str}{C N:Addr}{bs bm bmB bmN:List Ap}{hdct:Bool}{sn:List Str}{sub:List Ap}{ab:Bool}{col:Option Bool}{dd:Option Addr}{k0 k1 k2 k3 k5:Option Ap}{B Bn newId nid initId inN:String}
  (Fn:L9 Bn newId inN bmN) (hBn:bmB.contains (Ap.type Bn)=true) (F:L9 B nid initId bmB) (T:OwnTail h bmB bm) {mN:Str->Option Ap} {rest:List Ap} {fI:Addr} {oI:Obj} {Q:PySem.Fin->AA->Prop}
  (hC:h.get? C=some (FC nm q C N bs bm hdct sn sub ab col dd k0 k1 k2 k3 k5 newId)) (hn:h.Ns N mN) (hi:mN (FH "__init__")=some (Ap.ref fI)) (hfI:h.get? fI=some oI) (hfc:oI.cls=Ap.type "function")
  (hq:∀(h':Heap)(e:Addr),h.objs.size<=e->h.MadeExcOf h' e (Ap.ref C) rest->AE (AH prog w) A (call (Ap.ref fI) (Ap.ref e::rest)) (fun r s'=>r=Ap.none/\Q (Fin.done (Flow.ret (Ap.ref e))) s') E { heap:=h',gens:=g,drawn:=d,toks:=t,os:=os }) (hrest:rest.length<=AM) :
  AE (AH prog w) A (AX.«type.__call__» { pos:=Ap.ref C::rest }) Q E { heap:=h,gens:=g,drawn:=d,toks:=t,os:=os }:=by
 unfold AX.«type.__call__»;refine C6 rfl ?_;refine An ?_;unfold mroOf;refine An (An (wpAny_load' hC (Au (Au ?_))));refine C6 rfl ?_;refine An (wpAny_madeBy_exc hC ?_);refine An (Au ?_);refine An (BI (Hb (codeAny_call_builtin_code (Code.quiet_builtin { pos:=Ap.ref C::rest } Fn.quiet) (wpAny_check_new_subU Fn hBn T hC (codeAny_exc_new_subU Fn hBn F T hC ?_ hrest)))));generalize hh2:(h.push { cls:=Ap.type "tuple",data:=FS rest.toArray }).push { cls:=Ap.ref C,data:=BG #[Ap.ref h.objs.size,Ap.none,Ap.none,Ap.none,Ap.bool false,Ap.none] }=h2;have kp:∀b o,h.get? b=some o->h2.get? b=some o:=fun b o e=>by
  rw[<- hh2];exact AD _ (AD _ e)
 have z1:(h.push { cls:=Ap.type "tuple",data:=FS rest.toArray }).objs.size=h.objs.size+1:=D7 ..;have hget:h2.get? (h.objs.size+1)=some { cls:=Ap.ref C,data:=BG #[Ap.ref h.objs.size,Ap.none,Ap.none,Ap.none,Ap.bool false,Ap.none] }:=by
  rw[<- hh2,<- z1];exact A8 _ rfl
 have htup:h2.get? h.objs.size=some { cls:=Ap.type "tuple",data:=FS rest.toArray }:=by
  rw[<- hh2];exact AD _ (A8 _ rfl)
 have made:h.MadeExcOf h2 (h.objs.size+1) (Ap.ref C) rest:=⟨kp,Tv (MV _),h.objs.size,hget,Tv (AY _),htup⟩;have hC1:=kp _ _ hC;have hn1:h2.Ns N mN:=by
  obtain⟨o,es,ep,e,r⟩:=hn;exact⟨o,es,ep,kp _ _ e,r⟩
 show AE _ _ (KF (Ap.ref (h.objs.size+1)) (Ap.ref C) >>= _) _ _ _;refine An ?_;unfold KF typeOf;refine An (An (E5 hget (Au ?_)));refine GY hC1 ?_;rw[show(Ap.ref C::bm).contains (Ap.ref C)=true by simp];refine C6 rfl ?_;refine An (BI ?_);unfold callSpecial? specialOf typeOf;refine An (An (An (E5 hget (Au ?_))));refine wpAny_typeLookup_tail hC1 hn1 (T.keeps kp) F.mroIs F.init.lookup ?_;rw[hi];refine BI ?_;refine An ?_;unfold bindSpecial;refine An (JE (T := "function") ⟨oI,kp _ _ hfI,hfc⟩ (Fm rfl (Au ?_)));refine An (BO (hq h2 _ (MV _) made) (fun r s' ⟨e1,e2⟩=>?_) fun _ _ z=>z);subst e1;refine Au ?_;exact C6 rfl (Au e2)
theorem N7 {prog:AW}{w:BC}{A:A3}{E:Ap->AA->Prop}{h:Heap}{g:Array HI}{d:Drawn}{t:Nat}{os:OsState}{nm q:Str}{C N:Addr}{bs bm bmB bmN:List Ap}{hdct:Bool}{sn:List Str}{sub:List Ap}{ab:Bool}{col:Option Bool}{dd:Option Addr}{k0 k1 k2 k3 k5:Option Ap}{B Bn newId nid initId inN:String}
  (Fn:L9 Bn newId inN bmN) (hBn:bmB.contains (Ap.type Bn)=true) (F:L9 B nid initId bmB) (T:OwnTail h bmB bm) {mN:Str->Option Ap} {rest:List Ap} {fI:Addr} {oI:Obj} {Q:Ap->AA->Prop}
  (hC:h.get? C=some (FC nm q C N bs bm hdct sn sub ab col dd k0 k1 k2 k3 k5 newId)) (hn:h.Ns N mN) (hi:mN (FH "__init__")=some (Ap.ref fI)) (hfI:h.get? fI=some oI) (hfc:oI.cls=Ap.type "function")
  (hq:∀(h':Heap)(e:Addr),h.objs.size<=e->h.MadeExcOf h' e (Ap.ref C) rest->AE (AH prog w) (A.under (Code.builtin "type.__call__" { pos:=Ap.ref C::rest })) (call (Ap.ref fI) (Ap.ref e::rest)) (fun r s'=>r=Ap.none/\Q (Ap.ref e) s') E { heap:=h',gens:=g,drawn:=d,toks:=t,os:=os }) (hrest:rest.length<=AM) :
  AE (AH prog w) A (call (Ap.ref C) rest) Q E { heap:=h,gens:=g,drawn:=d,toks:=t,os:=os }:=by
 have hT:(⟨h,g,d,t,os⟩:AA).TypeIs (Ap.ref C) "type" := ⟨_,hC,rfl⟩;refine Hb (Md ?_);show AE _ _ (load C >>= _) _ _ _;refine An (wpAny_load' hC ?_);show AE _ _ (callAny.viaDunder (Ap.ref C) { pos:=rest }) _ _ _;unfold callAny.viaDunder;refine An (wpAny_specialOf hT tc_lookup ?_);refine An (Lm (tc_bind (Ap.ref C)) ?_);refine An ?_;show AE _ _ (pure true) _ _ _;refine Au (Fm rfl (Au ⟨rfl,?_⟩));refine codeAny_call_builtin_at (Code.quiet_builtin _ ψ) entry_typeCall (wpAny_check_type_call_sub hC ?_);exact Gz Fn hBn F T hC hn hi hfI hfc (fun h' e hs hm=>hq h' e hs hm) hrest
structure Lies (s s':AA)(H':Hp)(x:Addr)(ox:Obj)(vs:Array Ap):Prop where
 at_:s'.heap.get? x=some ox
 dat:ox.data=BG vs
 siz:1<vs.size
 new:s.heap.objs.size<=x
 fre:H' x=none
 tb:vs[1]?=some Ap.none\/∃T ts,vs[1]?=some (Ap.ref T)/\T≠x/\s'.heap.get? T=some { cls:=Ap.type "traceback",data:=BG ts }/\ts[3]?=some Ap.none/\s.heap.objs.size<=T/\H' T=none
def CX1 (P:AW)(w:BC):CXT:=fun outer H s E e s'=>∃(x:Addr)(ox:Obj)(vs:Array Ap)(H':Hp),e=Ap.ref x/\Lies s s' H' x ox vs /\
 s'.os=s.os/\JA s'.gens/\Un (frs outer) [] H H' s.heap s'.heap/\HOk P w H' s'.heap/\E ox.cls ox.dict H'
theorem own1 {P:AW}{w:BC}{K:AC}{mg:Str->Option Ap}{base:Heap}{N:List Str}{qual:Str}{scope:FA}{f:Addr}{cd:Ap}{A:A3}{outer:List Env}{s:AA}{H:Hp}{E:XK}{CX:CXT} :
  PassesOwn (AH P w) (A.deeper (F7 qual scope s.heap.objs.size f cd)) (F7 qual scope s.heap.objs.size f cd) (zH CX P w K mg base N qual scope f cd A outer s H E).xe:=by
 show PassesOwn _ _ _ (fun e s'=>AE (AH P w) (A.deeper (F7 qual scope s.heap.objs.size f cd)) (leaving (F7 qual scope s.heap.objs.size f cd) e) (fun _ s''=>CX outer H s E e s'') (fun e' s''=>CX outer H s E e' s'') s');exact PassesOwn.leaving
section
variable {M:Model}{A:A3}{E:Ap->AA->Prop}{env:Env}
variable {nm q:Str}{C N:Addr}{bs bm:List Ap}{hdct:Bool}{sn:List Str}{sub:List Ap}{ab:Bool}{col:Option Bool}{dd:Option Addr}{k0 k1 k2 k3 k5:Option Ap}{newId:String}
theorem V0 {s:AA}{x:Sem Ap}{Q:Flow->AA->Prop}(hbase:bm.contains (Ap.type "BaseException")=true) (hh:A.handled=none)
  (h:AE M A x (fun v s₁=>∃e t dx,v=Ap.ref e/\s₁.heap.get? C=some (FC nm q C N bs bm hdct sn sub ab col dd k0 k1 k2 k3 k5 newId) /\
   s₁.heap.get? e=some { cls:=Ap.ref C,dict:=dx,data:=BG #[Ap.ref t,Ap.none,Ap.none,Ap.none,Ap.bool false,Ap.none] }/\E (Ap.ref e) s₁) E s) :
  AE M A (raiseStmt env (some x) none) Q E s:=by
 have hcB:(Ap.ref C::bm).contains (Ap.type "BaseException")=true:=by rw[II,hbase,JY]
 unfold raiseStmt;refine An (BO h (fun v s₁ h₁=>?_) fun _ _ x=>x);obtain⟨e,t,dx,rfl,hC,he,hE⟩:=h₁;obtain⟨hp,g,d,tk,os⟩:=s₁
 repeat (first|with_reducible refine E5 he ?_|with_reducible refine E5 hC ?_|(with_reducible refine GY hC ?_;rw[hcB])|wp_step)
 exact wpAny_raiseNew_none hh hE
end
section
variable {prog:AW}{w:BC}{A:A3}{E:Ap->AA->Prop}
variable {nm q:Str}{C N:Addr}{bs bm bmB:List Ap}{hdct:Bool}{sn:List Str}{sub:List Ap}{ab:Bool}{col:Option Bool}{dd:Option Addr}{k0 k1 k2 k3 k5:Option Ap}{nwId B newId initId:String}
theorem abm {hp:Heap}{g:Array HI}{d:Drawn}{tk:Nat}{os:OsState}{e t:Addr}{dx:Option Addr}{rest:List Ap}{Q:Ap->AA->Prop}(F:L9 B newId initId bmB)(hB:bm.contains (Ap.type B)=true)
  (hC:hp.get? C=some (FC nm q C N bs bm hdct sn sub ab col dd k0 k1 k2 k3 k5 nwId))
  (he:hp.get? e=some { cls:=Ap.ref C,dict:=dx,data:=BG #[Ap.ref t,Ap.none,Ap.none,Ap.none,Ap.bool false,Ap.none] })
  (hq:∀h':Heap,(∀b o,b≠e->hp.get? b=some o->h'.get? b=some o)->h'.get? e=some { cls:=Ap.ref C,dict:=dx,data:=BG #[Ap.ref hp.objs.size,Ap.none,Ap.none,Ap.none,Ap.bool false,Ap.none] }->Q Ap.none ⟨h',g,d,tk,os⟩)
  (hrest:rest.length<=AM):AE (AH prog w) A (call (Ap.builtin initId) (Ap.ref e::rest)) Q E ⟨hp,g,d,tk,os⟩:=by
 have hcB:(Ap.ref C::bm).contains (Ap.type B)=true:=by rw[II,hB,JY]
 refine Hb (E6 F.init.plain F.initEntry ?_);have hshort:=F.noStar;simp only[checkBuiltinCall,F.initKind,F.initSplit,F.initRow];unfold KF
 repeat (first|with_reducible refine E5 he ?_|(with_reducible refine GY hC ?_;rw[hcB])|wp_step)
 refine IM ?_;rw[show ∀(a b:String)(n:Nat),Bind.check ⟨.positional, "*",B,.self,[⟨"args",.varPos,false⟩]⟩ a b n (LL (fun x=>x.fst) ({ pos:=Ap.ref e::rest }:Args).kw)=pure () from
  fun a b n=>check_star_args _ _ _ _ _ _]
 refine Au ?_;have he2:=AD (h:=hp) { cls:=Ap.type "tuple",data:=FS rest.toArray } he
 wp_walk
 refine hq _ (fun b o hb g=>(BU _ _ (B2 hb)).trans (AD _ g)) ?_;rw[ER _ he2 rfl];rfl
end
open PySem.W (Frag clsIn findIn takerIn InstAt looks_clsIn looks_findIn looks_takesIn Looks check_slot looks_mroIn mroIn set_plain osa_eq)
open Builtin Builtin.ObjectAttr
def vbm:List Ap:=[.type "ValueError",.type "Exception",.type "BaseException",.type "object"]
theorem Rq (self:Ap) (C D:Addr):refuseLoop self "__setattr__" (.ref C :: .ref D::vbm)=pure ():=by
 rw[refuseLoop_ref,refuseLoop_ref];exact PySem.F.store_ValueError.passes self
section
variable {prog:AW}{w:BC}{A:A3}{E:Ap->AA->Prop}{K:Frag}{h:Heap}{g:Array HI}{d:Drawn}{t:Nat}{os:OsState}{x C D:Addr}{cd:ClassData}{name:Str}{v:Ap}{o:Obj}{vs:Array Ap}
theorem abR {Q:Unit->AA->Prop}(X:K.In h) (hc:clsIn K C=some cd) (hmro:cd.mro=.ref C :: .ref D::vbm) (hhd:cd.hasDict=true) (hset:IA K (.ref C) "__setattr__" = some (some (.builtin "object.__setattr__"))) (hno:IA K (.ref C) name=some none)
  (hx:h.get? x=some o) (hcl:o.cls=.ref C) (hdn:o.dict=none) (hda:o.data=.fields vs)
  (hq:∀(h':Heap)(tk':Nat),h'.get? x=some { cls:=o.cls,dict:=some h.objs.size,data:=o.data,slots:=o.slots }->h'.Ns1 h.objs.size (fun y=>if y=name then some v else none) ->
   (∀b ob,b≠x->h.get? b=some ob->h'.get? b=some ob)->Q () ⟨h',g,d,tk',os⟩) :
  AE (AH prog w) A (setAttr (.ref x) name v) Q E ⟨h,g,d,t,os⟩:=by
 have I:∀tk:Nat,InstAt (⟨h,g,d,tk,os⟩:AA).heap x o C none:=fun _=>⟨hx,hcl,by obtain⟨_,_,dt,_⟩:=o;cases hda;rfl,by rw[hdn];trivial⟩;refine set_plain X (I t) hset ?_;have SF:=PySem.F.store_object;have ne:cd.mro.isEmpty=false:=by rw[hmro];rfl
 have sub:D8 (AH prog w) h (KF (.ref x) (.type "object")) true:=(I t).type.andThen (HE X (by unfold mroIn;rw[hc,bind_some,if_neg (by rw[ne];decide),hmro];rfl));refine E6 SF.slot.plain SF.entry (@IB (AH prog w) _ _ ⟨h,g,d,t+1,os⟩ "object.__setattr__" "object" "__setattr__" (.ref x) [.str name t,v] [] _ SF.kind SF.split sub (SF.args (.ref x) (.str name t) v) ?_);have hm:D8 (AH prog w) h (mroOf (.ref C)) cd.mro:=(GA X hc).andThen .now;have IT:D8 (AH prog w) h (typeOf (.ref x)) (.ref C):=(I t).type;have LF:D8 (AH prog w) h (He (.ref C) name) none:=Ev X hno;rw[osa_eq,refuse_eq];refine An (An (IT.here (An (hm.here ?_))));rw[hmro,Rq];refine Au (An (IT.here (An (LF.here (An (Au ?_))))));dsimp only;have LC:D8 (AH prog w) h (classData C) cd:=GA X hc;obtain⟨oc,odi,oda,osl⟩:=o;dsimp only at hcl hdn hda;subst hcl hdn hda;refine An (Au (An ?_));show AE _ _ (Kb x true) _ _ _;unfold Kb;refine An (KI hx (An (LC.here ?_)));rw[hhd];have hx₁:(h.push { cls:=.type "dict",data:=.dict #[] }).get? x=some { cls:=.ref C,data:=.fields vs,slots:=osl }:=AD _ hx;have hxs:x≠h.objs.size:=B4 (AZ hx);rw[if_neg δ];dsimp only;rw[if_neg (by simp [typeHasDict])];refine An (wpAny_alloc' ?_);refine An (wpAny_update' hx₁ ?_);refine Au ?_;have hgd:((h.push { cls:=.type "dict",data:=.dict #[] }).update x fun o=>{ cls:=o.cls,dict:=some h.objs.size,data:=o.data,slots:=o.slots }).get? h.objs.size
   = some { cls:=.type "dict",data:=.dict #[] }:=
  (Heap.get?_update_ne _ _ _ _ hxs.symm).trans (Heap.get?_push_at rfl rfl)
 have hnd:((h.push { cls:=.type "dict",data:=.dict #[] }).update x fun o=>{ cls:=o.cls,dict:=some h.objs.size,data:=o.data,slots:=o.slots }).Ns h.objs.size (fun _=>none):=
  ⟨_,#[],_,hgd,rfl,fun e he=>absurd he (by simp),fun _=>rfl⟩
 show AE _ _ (storeInDict h.objs.size (.str name t) name v) _ _ _;unfold storeInDict newKeyGuard;refine An (Au (An (wpAny_nsSet1 (Heap.Ns1.of_empty hnd) fun h' hn' hs=>?_)));obtain⟨oD,esD,epD,hoD,hdD,hcD⟩:=hn'.count (Within.cons name v Within.nil);refine An (wpAny_lookBehind hoD (by rw[hdD];exact pastItsLine_dict (BN hcD (by rw[BA,KB,E3];omega))) ?_);refine Au ?_;refine hq h' _ ?_ hn' (fun b ob hbx hb=>?_)
 ·refine(hs.2 x hxs).trans (ER _ hx₁ ?_);exact(Heap.get?_some_iff.mp hx).2
 exact(hs.2 b (B4 (AZ hb))).trans ((Heap.get?_update_ne _ _ _ _ hbx).trans (AD _ hb))
end
open PySem.W (Frag clsIn findIn takerIn InstAt looks_clsIn looks_findIn looks_takesIn Looks check_slot looks_mroIn mroIn handedIn handedOut_of)
section
variable {prog:AW}{w:BC}{A:A3}{E:Ap->AA->Prop}{K:Frag}{h:Heap}{g:Array HI}{d:Drawn}{t:Nat}{os:OsState}{x C D dx:Addr}{cd:ClassData}{name:Str}{v:Ap}{o:Obj}{vs:Array Ap}{m:Str->Option Ap}{expr:Bool}
theorem acw {Q:Ap->AA->Prop}(X:K.In h) (hc:clsIn K C=some cd) (hmro:cd.mro=.ref C :: .ref D::vbm) (hhd:cd.hasDict=true) (hga:IA K (.ref C) "__getattribute__" = some (some (.builtin "BaseException.__getattribute__"))) (hk:IA K (.ref C) "__getattr__" = some none) (hno:IA K (.ref C) name=some none)
  (hx:h.get? x=some o) (hcl:o.cls=.ref C) (hdx:o.dict=some dx) (hda:o.data=.fields vs) (hn:h.Ns dx m) (hm:m name=some v) (hh:handedIn v=true) (hq:Q v ⟨h,g,d,t+1,os⟩) :
  AE (AH prog w) A (getAttr (.ref x) name expr) Q E ⟨h,g,d,t,os⟩:=by
 obtain⟨oc,odi,oda,osl⟩:=o;dsimp only at hcl hdx hda;subst hcl hdx hda;have IT:D8 (AH prog w) h (typeOf (.ref x)) (.ref C):=(D8.ld hx).andThen .now;have L1:D8 (AH prog w) h (He (.ref C) "__getattribute__") (some (.builtin "BaseException.__getattribute__")):=Ev X hga;have LK:D8 (AH prog w) h (He (.ref C) "__getattr__") none:=Ev X hk;have LF:D8 (AH prog w) h (He (.ref C) name) none:=Ev X hno;have LC:D8 (AH prog w) h (classData C) cd:=GA X hc;have ne:cd.mro.isEmpty=false:=by rw[hmro];rfl
 have sub:D8 (AH prog w) h (KF (.ref x) (.type "BaseException")) true:=IT.andThen (HE X (by unfold mroIn;rw[hc,bind_some,if_neg (by rw[ne];decide),hmro];rfl));have FB:=PySem.F.attrBase_ValueError;refine An (wpAny_mkText (BI (An (IT _ _ _ _ (fun _ _ e=>e) (An (L1 _ _ _ _ (fun _ _ e=>e) ?_))))));dsimp only;have hx2:(Ap.builtin "BaseException.__getattribute__" == Ap.builtin "object.__getattribute__")=false:=by decide +kernel
 rw[show(MW (Ap.ref C)&&Ap.builtin "BaseException.__getattribute__" == Ap.builtin "object.__getattribute__")=false from by rw[hx2];rfl,if_neg δ];unfold getAttrByItsOwn;have HB:D8 (AH prog w) h (hookBefore (.ref C)) none:=by
  unfold hookBefore;rw[if_pos (show MW (Ap.ref C)=true from rfl)];exact LK
 refine An (HB _ _ _ _ (fun _ _ e=>e) (An (DZ (BI ?_))));unfold callGetattribute;rw[show(expr&&MW (Ap.builtin "BaseException.__getattribute__"))=false from HM _,if_neg δ];unfold boundAndCalled;rw[FB.ga.bind];refine An (Au ?_);show AE _ _ (call (.builtin "BaseException.__getattribute__") [.ref x,.str name t]) _ _ _;refine Hb ?_;refine E6 FB.ga.plain F.entry_bexc_ga ?_;refine @IB (AH prog w) _ _ ⟨h,g,d,t+1,os⟩ "BaseException.__getattribute__" "BaseException" "__getattribute__" (.ref x) [.str name t] [] _ ψ ψ sub (F.args_bexc_ga (.ref x) (.str name t)) ?_;unfold AX.«object.__getattribute__»;have LO:D8 (AH prog w) h (inOwnDict name (.ref x)) (some v):=by
  intro A Q E s k q;refine An (An (KI (k _ _ hx) ?_));show AE _ _ (Kb x false) _ _ _;unfold Kb;refine An (KI (k _ _ hx) (An (LC A _ E s k ?_)));rw[hhd];refine Au (a:=some dx) ?_;exact wpAny_nsGet (hn.keeps k) (by rw[hm];exact q)
 have LV:D8 (AH prog w) h (find (.ref x) (.ref C) name) (.value v):=by
  refine LF.andThen (D8.now.andThen (D8.now.andThen (LO.andThen ?_)));exact D8.tag .now
 refine An (Au (An (Au (An (IT _ _ _ _ (fun _ _ e=>e) (An (LV _ _ _ _ (fun _ _ e=>e) (Au ?_))))))));show AE _ _ (handedOut v) _ _ _;rw[handedOut_of hh];exact Au hq
end
def XO (a C:Addr)(dx:Option Addr):HO:=.ext fun h=>∃t,h.get? a=some { cls:=.ref C,dict:=dx,data:=.fields #[.ref t,.none,.none,.none,.bool false,.none] }
structure nM (K:AC)(C D N fI:Addr):Prop where
 obj:∃nm q bs sn sub ab col dd k0 k1 k2 k3 k5,K.lookup C=some (FC nm q C N bs (.ref D::vbm) true sn sub ab col dd k0 k1 k2 k3 k5 "ValueError.__new__")
 tail:tailIn K vbm (.ref D::vbm)=true
 nsok:nsOkIn K N=true
 init:nsIn K N "__init__" = some (some (.ref fI))
 set:B5 K (.ref C) "__setattr__" = some (some (.builtin "object.__setattr__"))
 ga:B5 K (.ref C) "__getattribute__" = some (some (.builtin "BaseException.__getattribute__"))
 gk:B5 K (.ref C) "__getattr__" = some none
structure XBase (K:AC)(D:Addr):Prop where
 reads:readsIn K D (.type "type")=true
 sp:KU K (.ref D) "__getattribute__" = some (some (.builtin "type.__getattribute__"))
 fnd:findCls K (.ref D) (.type "type") "__init__" = some (.val (.builtin "ValueError.__init__"))
section
variable {X:Cx}{C D N fI:Addr}{x:Str}{np apos cpos:Pos}{e:Expr}{es:List Expr}{t:TA}
def tBI (C:Addr)(t:TA):TE:=fun σ H Q=>t σ H fun vs H1=>∃a rest dx,vs=.ref a::rest/\rest.length<=1000/\H1 a=some (XO a C dx)/\Q .non H1
theorem ZC {H:Hp}{a:Addr}{o:HO}(h:H a=some o):upd H a o=H:=by
 funext b;unfold upd;split
 ·rename_i z;rw[z,h]
 rfl
theorem Rp {pl:Sem Bool}(XC:nM X.K C D N fI) (XD:XBase X.K D) (hg:Gl X x) (hm:X.mg x=some (.ref D)) (ha:PA X (e::es) t) (hdb:(x == ("__debug__" : Str))=false:=by decide)
  (hst:AJ (e::es) X.env=(false,eval e X.env)::AJ es X.env:=by rfl) (hpl:(C8 cpos (AJ es X.env)).any (·.1)=false:=by rfl)
  (ht:eval (.Call (.Attribute (.Name x np) "__init__" apos) (e::es) [] cpos) X.env=(do
   let ov <- eval (.Name x np) X.env
   G8 apos.atName
   let (f,first) <- Fc [ov] (getMethod ov "__init__" pl)
   callWith cpos f first (C8 cpos (AJ (e::es) X.env)) (LM cpos (HA [] X.env))):=by rfl) :
  PE X (.Call (.Attribute (.Name x np) "__init__" apos) (e::es) [] cpos) (tBI C t):=by
 intro pins s σ H Q I h;refine PySem.W.methodCall_KW (pl:=pl) (wg I hg hm ?_ hdb) ht;refine PySem.W.method_cls I.kIn XD.sp (PySem.W.cls_value I.kIn XD.reads XD.fnd ψ ?_);have I1:=I.tok (s.toks+1);have hA:=ha cpos pins _ σ H _ I1 h;rw[hst] at hA |-;refine FL (by show(false||(C8 cpos (AJ es X.env)).any (·.1))=false;rw[hpl] <;> rfl) (Gc ?_)
 refine thn hA fun us s2 ⟨vs,H2,I2,r2,a,rest,dx,ev,hl,hH,q⟩=>?_;subst ev;cases r2 with
 | cons ra rr=>
  obtain rfl:=(show _=Ap.ref a from ra);obtain⟨t0,ht0⟩:=(show ∃t,_ from((I2.hok a _ hH).1));obtain⟨nm,q',bs,sn,sub,ab,col,dd,k0,k1,k2,k3,k5,hC⟩:=XC.obj;obtain⟨hp,g,d,tk,os⟩:=s2;refine abm (rest:=_) KL (bm:=.ref D::vbm) rfl (I2.kIn _ _ hC) ht0 (fun h' k1 k2=>?_) ?_
  ·have I3:=I2.write (x:=a) (e:=a) (o:=XO a C dx) (t':=tk) (h':=h') (by rw[hH];trivial) (.inl rfl) k1 ⟨_,k2⟩ ⟨⟨_,k2⟩,⟨_,k2⟩,fun h1 h2 ⟨t,z⟩ z2=>⟨t,z2 _ z⟩⟩;rw[ZC hH] at I3;exact⟨.non,H2,I3,rfl,q⟩
  rw[<- rr.length];exact BN hl (by rw[E3];decide)
end
section
variable {X:Cx}{C D N fI:Addr}{f:Str}{o value:Expr}{pos pos':Pos}{ta tv:TE}
def Qk (K:AC)(C:Addr)(ta tv:TE)(f:Str):TS:=fun D σ H=>tv σ H fun y H1=>ta σ H1 fun x H2=>∃a,x=.ref a/\H2 a=some (XO a C none)/\B5 K (.ref C) f=some none /\
 ∀dx,H2 dx=none->dx≠a->D.nx σ (upd (upd H2 dx (.xd [(f,y)])) a (XO a C (some dx)))
theorem Eg {f:Str}{y:V}{u:Ap}(r:RelV y u)(f':Str):Dl ([(f,y)].lookup f') (if f'=f then some u else none):=by
 unfold GB;by_cases h:f'=f
 ·subst h;rw[if_pos rfl,show(f' == f')=true from beq_self_eq_true f'];exact r
 rw[if_neg h,show(f' == f)=false from beq_eq_false_iff_ne.mpr h];exact trivial
theorem nM.cls {K:AC}(c:nM K C D N fI):∃cd,PySem.W.clsIn K C=some cd/\cd.mro=.ref C :: .ref D::vbm/\cd.hasDict=true:=by
 obtain⟨nm,q',bs,sn,sub,ab,col,dd,k0,k1,k2,k3,k5,hC⟩:=c.obj;unfold PySem.W.clsIn;rw[hC];exact⟨_,rfl,rfl,rfl⟩
theorem Wx (XC:nM X.K C D N fI)(ha:PE X o ta)(hv:PE X value tv)(hs:Ix value (some (.Attribute o f pos')) pos.line X.env=pure false):PS X (.Assign [.Attribute o f pos'] value pos) (Qk X.K C ta tv f):=by
 intro pins s σ H Dn I h;refine plainObj_wpAny_Assign_Attribute (thE (hv pins s σ H _ I h) fun u s1 y H1 I1 ry q=>thn (ha pins s1 σ H1 _ I1 q) fun ov s2 ⟨x,H2,I2,rx,a,ex,ea,hno,q2⟩=>?_) hs;subst ex;obtain rfl:ov=Ap.ref a:=rx;obtain⟨cd,c1,c2,c3⟩:=XC.cls;obtain⟨t0,ht0⟩:=(show ∃t,_ from((I2.hok a _ ea).1));obtain⟨hp,g,d,tk,os⟩:=s2;refine abR I2.kIn c1 c2 c3 XC.set hno ht0 rfl rfl rfl fun h' tk' g1 g2 g3=>?_;have hfr:H2 hp.objs.size=none:=I2.hok.fresh (AY _);have hne:hp.objs.size≠a:=fun z=>by
  have:=AZ ht0;rw[z] at this;exact Db _ this
 have old:∀b u,H2 b=some u->b≠hp.objs.size:=fun b u e z=>by rw[z,hfr] at e;cases e
 have oth:∀b u,H2 b=some u->u≠XO a C none->upd (upd H2 hp.objs.size (.xd [(f,y)])) a (XO a C (some hp.objs.size)) b=some u:=fun b u e ne=>by
  rw[aF (fun z=>ne (by rw[z,ea] at e;exact(B7 e).symm)),aF (old b u e),e]
 have lt:∀b ob,hp.get? b=some ob->b≠hp.objs.size:=fun b ob e z=>by
  have:=AZ e;rw[z] at this;exact Db _ this
 refine⟨σ,_,I2.un (h':=h') (t':=tk') ?_ ?_,q2 _ hfr hne⟩
 ·refine⟨fun b ob e n _ _=>?_,fun b ob e n _ _=>⟨ob.slots,?_⟩,fun b ob e n _=>?_,fun b ob e _=>?_,fun b xs e=>oth b _ e (by unfold XO;exact fun z=>nomatch z),fun b ob u e=>oth b _ e (by unfold XO;exact fun z=>nomatch z),fun b ps e=>⟨#[],by rw[append_empty];exact oth b _ e (by unfold XO;exact fun z=>nomatch z)⟩⟩
  ·exact g3 b ob (fun z=>by rw[z,ea] at n;cases n) e
  ·exact g3 b ob (fun z=>by rw[z,ea] at n;cases n) e
  ·rw[aF (fun z=>by rw[z,ea] at n;cases n),aF (lt b ob e),n]
  by_cases z:b=a
  ·rw[z];exact⟨_,g1⟩
  exact⟨_,g3 b ob z e⟩
 intro c u e;by_cases z:c=a
 ·subst z;rw[aB] at e;cases e;exact⟨⟨t0,g1⟩,⟨_,g1⟩,fun h1 h2 ⟨t,z⟩ z2=>⟨t,z2 _ z⟩⟩
 rw[aF z] at e;by_cases z2:c=hp.objs.size
 ·rw[z2,aB] at e;cases e;rw[z2];exact⟨_,g2,fun f'=>Eg ry f'⟩
 rw[aF z2] at e;refine(I2.hok c u e).stay (fun b ob hb eb=>g3 b ob (fun zz=>?_) eb) (fun b hb=>oth b _ hb (by unfold XO;exact fun z=>nomatch z)) fun b xs hb=>oth b _ hb (by unfold XO;exact fun z=>nomatch z);rcases hb with hb|hb
 ·exact z (hb.symm.trans zz)
 rw[zz,ea] at hb;cases hb
end
abbrev TJ:=St->Hp->(Hp->Prop)->Prop
def PJ (X:Cx)(es:List Expr)(t:TJ):Prop:=
 ∀(pins:List (Addr×Obj)) (s:AA) (σ:St) (H:Hp) (acc:Str) (R:Hp->Prop) (Q:Str->AA->Prop),Inv X pins σ H s->acc.length+400*es.length<=AM->t σ H R ->
  (∀out s' H',Inv X pins σ H' s'->out.length<=AM->R H'->Q out s')->Joins (AH X.prog X.w) X.A X.xe (evalEach es X.env) acc Q s
section
variable {X:Cx}{e:Expr}{es:List Expr}{t:TJ}{te:TE}{x:Str}{j:Nat}{pos:Pos}
theorem aav:PJ X [] (fun _ H R=>R H):=fun pins s σ H acc R Q I hl h k=>k acc s H I (BN (Nat.le_add_right _ _) hl) h
theorem Hx {kd}(hx:x.length<=400)(hr:PJ X es t):PJ X (.Constant (.str x) kd pos::es) t:=by
 intro pins s σ H acc R Q I hl h k;show AE (AH X.prog X.w) X.A (eval (.Constant (.str x) kd pos) X.env) _ X.xe s;refine Calls.Constant_str ⟨x,_,rfl,?_,hr pins _ σ H (acc++x) R Q (I.tok _) ?_ h k⟩
 ·rw[M2];rw[BA] at hl;omega
 rw[M2];rw[BA] at hl;omega
theorem Hy (he:PE X e te)(hr:PJ X es t):PJ X (.FormattedValue e (-1) none pos::es) (fun σ H R=>te σ H fun v H1=>∃i:Int,v=.int i/\(-(2^70)<i/\i<2^70)/\t σ H1 R):=by
 intro pins s σ H acc R Q I hl h k;show AE (AH X.prog X.w) X.A (eval (.FormattedValue e (-1) none pos) X.env) _ X.xe s;refine wpAny_FormattedValue_plain (thn (he pins s σ H _ I h) fun u s1 ⟨v,H1,I1,rv,i,ev,hb,q⟩=>?_);subst ev;obtain⟨tk,rfl⟩:=(show ∃tk,u=Ap.int i tk from rv);have hlg:i.natAbs.log2<1920:=by
  have:i.natAbs<2^70:=by omega
  by_cases z:i.natAbs=0
  ·rw[z];decide
  have:=(log2_lt z).mpr this;omega
 have h4:=Kr (i:=i) ω;rw[BA] at hl;refine wpAny_formatField_int hlg ⟨_,_,rfl,?_,hr pins _ σ H1 _ R Q (I1.tok _) ?_ q k⟩
 ·rw[M2];omega
 rw[M2];omega
theorem Mv {v₁ v₂:Expr}{rest:List Expr}(h:PJ X (v₁::v₂::rest) t)(hl:(v₁::v₂::rest).length<=100):PE X (.JoinedStr (v₁::v₂::rest) pos) (fun σ H Q=>t σ H fun H1=>∀x,Q (.str x) H1):=by
 intro pins s σ H Q I ht;refine wpAny_JoinedStr (h pins s σ H Str.empty _ _ I ?_ ht fun out s' H' I' ho q=>⟨ho,.str out,H',I'.tok _,⟨_,rfl⟩,q out⟩);show 0+400*_<=_;rw[E3];omega
end
structure abO (X:Cx)(s:AA)(H:Hp)(x:Addr)(ox:Obj)(vs:Array Ap):Prop where
 at_:s.heap.get? x=some ox
 dat:ox.data=BG vs
 siz:1<vs.size
 new:X.s₀.heap.objs.size<=x
 loc:x≠X.env.locals
 fre:H x=none
 tb:vs[1]?=some Ap.none\/∃T ts,vs[1]?=some (Ap.ref T)/\T≠x/\s.heap.get? T=some { cls:=Ap.type "traceback",data:=BG ts }/\ts[3]?=some Ap.none/\X.s₀.heap.objs.size<=T/\H T=none
def abK (X:Cx)(E:XK):Prop:=∀(pins:List (Addr×Obj)) (σ:St) (H:Hp) (s:AA) (x:Addr) (ox:Obj) (vs:Array Ap),Inv X pins σ H s->abO X s H x ox vs->E ox.cls ox.dict H->X.xe (.ref x) s
theorem acQ {P:AW}{w:BC}{K:AC}{mg:Str->Option Ap}{base:Heap}{N:List Str}{qual:Str}{scope:FA}{f:Addr}{cd:Ap}{A:A3}{outer:List Env}{s:AA}{H:Hp}{E:XK} :
  abK (zH (CX1 P w) P w K mg base N qual scope f cd A outer s H E) E:=by
 intro pins σ H2 s2 x ox vs I2 L q;have hst:=I2.stack;have hen:x∉frs (F7 qual scope s.heap.objs.size f cd::outer):=fun hm=>by
  rcases BB.mp (I2.qP x hm) with z|z
  ·exact L.loc z
  obtain⟨_,o,g,_⟩:=I2.ok.pK.mem z;exact absurd (AZ g) (not_lt.mpr L.new)
 have hfree:=I2.vV;show AE (AH P w) (A.deeper (F7 qual scope s.heap.objs.size f cd)) (leaving (F7 qual scope s.heap.objs.size f cd) (Ap.ref x)) _ _ s2;refine Xz (base:=base) (outer:=outer) (L:=s.heap.objs.size) I2.ok.frames hst rfl L.at_ L.dat L.siz hen ?_ ?_
 ·rcases L.tb with z|⟨T,ts,z1,z2,z3,z4,_,_⟩
  ·exact .inl z
  exact .inr ⟨T,ts,z1,z2,z3,z4⟩
 intro h' T ts g1 g2 g3 g4 g5 g6 g7;have hT0:∀b,vs[1]?=some (Ap.ref b)->s.heap.objs.size<=b/\H2 b=none:=fun b hb=>by
  rcases L.tb with z|⟨T0,_,z,_,_,_,z5,z6⟩
  ·rw[z] at hb;cases hb
  rw[z] at hb;cases hb;exact⟨z5,z6⟩
 have old:∀b o,s.heap.get? b=some o->b<s.heap.objs.size/\b≠x/\vs[1]?≠some (Ap.ref b):=fun b o g=>by
  have hb:=AZ g;have hn:s.heap.objs.size<=x:=L.new;refine⟨hb,fun z=>?_,fun z=>?_⟩
  ·subst z;exact absurd (AN hb hn) (Db _)
  exact absurd (AN hb (hT0 b z).1) (Db _)
 have hH2T:H2 T=none:=I2.hok.fresh g5;refine⟨x,_,_,H2,rfl,⟨g1,rfl,?_,L.new,L.fre,.inr ⟨T,ts,?_,g4,g2,g3,?_,hH2T⟩⟩,I2.os,I2.bare,?_,?_,q⟩
 ·rw[Array.size_setIfInBounds];exact L.siz
 ·rw[C7 L.siz]
 ·exact BN I2.sz g5
 ·have B:=I2.base;refine⟨fun b o g n hf hx=>?_,fun b o g n hf hx=>?_,B.free,fun b o g hx=>?_,B.tups,B.frzs,B.tbls⟩
  ·obtain⟨c1,c2,c3⟩:=old b o g;refine g6 b o c2 (fun z=>?_) c3 (B.keep b o g n hf hx);rcases BB.mp (show b∈s.heap.objs.size::frs outer from z) with z|z
   ·rw[z] at c1;exact absurd c1 (Db _)
   exact hf z
  ·obtain⟨sl,g'⟩:=B.slot b o g n hf hx;obtain⟨sl',g''⟩:=g7 b _ (A4 _ hf) g';exact⟨sl',g''⟩
  obtain⟨c1,c2,c3⟩:=old b o g;obtain⟨o',g'⟩:=B.there b o g hx;by_cases hm:b∈frs (F7 qual scope s.heap.objs.size f cd::outer)
  ·obtain⟨sl,g''⟩:=g7 b o' hm g';exact⟨_,g''⟩
  exact⟨_,g6 b o' c2 hm c3 g'⟩
 intro a o ha;refine(I2.hok a o ha).stay (fun b u hb gb=>?_) (fun _ z=>z) fun _ _ z=>z;have hb':H2 b≠none:=by
  rcases hb with rfl|hb
  ·rw[ha];exact fun z=>nomatch z
  rw[hb];exact fun z=>nomatch z
 refine g6 b u (fun z=>hb' (by rw[z];exact L.fre)) (fun z=>hb' (hfree b z)) (fun z=>hb' (hT0 b z).2) gb
def unt (H:Hp)(a:Addr):Hp:=fun b=>if b=a then none else H b
theorem Dw {H:Hp}{a:Addr}:unt H a a=none:=by unfold unt;rw[if_pos rfl]
theorem Bg {H:Hp}{a b:Addr}(h:b≠a):unt H a b=H b:=by unfold unt;rw[if_neg h]
theorem Inv.forget {X:Cx}{pins:List (Addr×Obj)}{σ:St}{H:Hp}{s:AA}{e C:Addr}{dx:Option Addr}(I:Inv X pins σ H s)(he:H e=some (XO e C dx)):Inv X pins σ (unt H e) s:=by
 have oth:∀b u,H b=some u->u≠XO e C dx->unt H e b=some u:=fun b u h n=>by
  rw[Bg (fun z=>n (by rw[z,he] at h;exact(B7 h).symm)),h]
 have non:∀b,H b=none->unt H e b=none:=fun b h=>by
  unfold unt;split
  ·rfl
  exact h
 have B:=I.base;refine⟨I.ok,I.os,I.bare,⟨B.keep,B.slot,fun b o g n hx=>non b (B.free b o g n hx),B.there,fun b xs h=>oth b _ (B.tups b xs h) (by unfold XO;exact fun z=>nomatch z),fun b o u h=>oth b _ (B.frzs b o u h) (by unfold XO;exact fun z=>nomatch z),fun b ps h=>?_⟩,I.loc,I.cell,non _ I.free,fun x c h=>non _ (I.freeC x c h),fun p hp=>?_,fun a o ha=>?_,I.len⟩
 ·obtain⟨m,hm⟩:=B.tbls b ps h;exact⟨m,oth b _ hm (by unfold XO;exact fun z=>nomatch z)⟩
 ·obtain⟨z1,z2,z3⟩:=I.pin p hp;exact⟨z1,non _ z2,z3⟩
 have hne:a≠e:=fun z=>by rw[z,Dw] at ha;cases ha
 rw[Bg hne] at ha;exact(I.hok a o ha).stay (fun b u _ g=>g) (fun b h=>oth b _ h (by unfold XO;exact fun z=>nomatch z)) fun b xs h=>oth b _ h (by unfold XO;exact fun z=>nomatch z)
theorem MN {K:AC}{h:Heap}{N:Addr}{mg:Str->Option Ap}{n:Str}{v:Ap}(X:K.In h)(G:h.Ns N mg)(e:nsIn K N n=some (some v)):mg n=some v:=by
 obtain⟨o,es,ep,ho,hd,_,hf⟩:=G;unfold nsIn at e;split at e
 ·rename_i q;have q:=(X _ _ q).symm.trans ho;cases q;cases hd;split at e
  ·rename_i he;cases e;rw[<- hf];unfold nsFind findBy;rw[<- Array.find?_toList,he];rfl
  split at e <;> cases e
 cases e
section
variable {X:Cx}{C D N fI:Addr}{x:Str}{np cpos pos:Pos}{e:Expr}{es:List Expr}{t:TA}{k:Nat}{fd:Dx}{ps:List Str}{sp:Sp}{E:XK}
def G3 (C:Addr)(sp:Sp)(E:XK)(t:TA):TS:=fun _ σ H=>t σ H fun vs H1=>vs.length<=1000/\∀a,H1 a=none ->
 sp (.ref a::vs) (upd H1 a (XO a C none)) (fun v H2=>v=.non/\∃dx,H2 a=some (XO a C (some dx))/\E (.ref C) (some dx) (unt H2 a)) E0
theorem Mq (XC:nM X.K C D N fI) (F:cU X.prog X.w X.K X.mg X.base CX0 k fI fd ps sp) (hr:fK (k+1) X.A) (hb:Binds X.K fd ps []) (hfI:∃oI,X.K.lookup fI=some oI/\oI.cls=.type "function") (hcalm:X.calm=true) (hout:abK X E)
  (hg:Gl X x) (hm:X.mg x=some (.ref C)) (ha:PA X (e::es) t) (hdb:(x == ("__debug__" : Str))=false:=by decide)
  (hst:AJ (e::es) X.env=(false,eval e X.env)::AJ es X.env:=by rfl) (hpl:(C8 cpos (AJ es X.env)).any (·.1)=false:=by rfl) :
  PS X (.Raise (some (.Call (.Name x np) (e::es) [] cpos)) none pos) (G3 C sp E t):=by
 intro pins s σ H Dn I h;have hplain:(C8 cpos (AJ (e::es) X.env)).any (·.1)=false:=by
  rw[hst];show(false||(C8 cpos (AJ es X.env)).any (·.1))=false;rw[hpl] <;> rfl
 obtain⟨nm,q',bs,sn,sub,ab,col,dd,k0,k1,k2,k3,k5,hC⟩:=XC.obj;obtain⟨oI,hoI,hoc⟩:=hfI;have hA:=ha cpos pins s σ H _ I h;have hE:AE (AH X.prog X.w) X.A (evalArgs (.ref C) true (C8 cpos (AJ (e::es) X.env)) []) (fun a s2=>a.kw=[]/\AP X pins σ (fun vs H1=>vs.length<=1000/\∀a,H1 a=none ->
   sp (.ref a::vs) (upd H1 a (XO a C none)) (fun v H2=>v=.non/\∃dx,H2 a=some (XO a C (some dx))/\E (.ref C) (some dx) (unt H2 a)) E0) a.pos s2) X.xe s:=by
  rw[hst] at hA |-;exact Gc (thn hA fun us s2 z=>⟨rfl,z⟩)
 rw[arm_exec_Raise];refine An (DV (V0 (C:=C) (nm:=nm) (q:=q') (N:=N) (bs:=bs) (bm:=.ref D::vbm) (hdct:=true) (sn:=sn) (sub:=sub) (ab:=ab) (col:=col) (dd:=dd) (k0:=k0) (k1:=k1) (k2:=k2) (k3:=k3) (k5:=k5) (newId := "ValueError.__new__") rfl (I.ok.hd hcalm) ?_));refine An (BO (wpAny_Call_ofName (wg I hg hm ?_ hdb)) (fun v s₃ h₃=>An (DV (Au h₃))) fun _ _ x=>x);unfold callWith;refine An (BI (BO hE (fun a s₂ h₂=>An (DV ?_)) fun _ _ x=>x));obtain⟨apos,akw⟩:=a;obtain⟨hkw,vs,H1,I1,rv,hl,hsp⟩:=h₂;obtain rfl:akw=[]:=hkw;obtain⟨hp,g,d,tk,os⟩:=s₂;simp only[hplain];have hC1:=I1.kIn _ _ hC;refine An (wpAny_keeperOf_exc hC1 ?_);refine An ?_;have T:OwnTail hp vbm (.ref D::vbm):=PySem.W.tail_of_in I1.kIn XC.tail;have hNs:hp.Ns N (hp.nsMap N):=.of_isNs (PySem.W.isNs_of_in I1.kIn XC.nsok);refine N7 (B := "ValueError") (Bn := "ValueError") (bmB:=vbm) (bmN:=vbm) KL rfl KL T hC1 hNs (MN I1.kIn hNs XC.init) (I1.kIn _ _ hoI) hoc ?_ ?_
 ·intro h' ea hs hmk;obtain⟨tt,hget,_,_⟩:=hmk.there;have I2:=I1.laid (a:=ea) (o:=XO ea C none) (t':=tk) (h':=h') hmk.keeps hs ⟨⟨tt,hget⟩,⟨_,hget⟩,fun h1 h2 ⟨t,z⟩ z2=>⟨t,z2 _ z⟩⟩;have hq:=hsp ea (I1.hok.fresh hs);have r2:Vals (V.ref ea::vs) (Ap.ref ea::apos):=.cons rfl rv;have hln:(Ap.ref ea::apos++[]).length=ps.length:=by
   rw[DB,<- r2.length];exact F.len _ _ _ _ hq
  have hbn:=hb _ (Ap.ref ea::apos) I2.kIn hln;rw[DB] at hbn;refine Hb (HK (F.run _ X.stack _ _ ⟨Ap.ref ea::apos,[]⟩ (Ap.ref ea::apos) _ _ E0 (hr.make C apos []) (I2.env0.make C apos []) hbn r2 hq) fun r s' hq'=>?_);cases r with
  | error e'=>exact EH hq'
  | ok fl=>
   cases fl with
   | ret u=>
    obtain⟨v,H3,I3,ru,ev,dx,hH,hEE⟩:=I2.after hq';subst ev;obtain⟨t3,ht3⟩:=(show ∃t,_ from((I3.hok ea _ hH).1));refine⟨ru,An (BI (wpAny_point (Au ⟨ea,t3,some dx,rfl,I3.kIn _ _ hC,ht3,?_⟩)))⟩;refine hout pins σ (unt H3 ea) s' ea _ _ (I3.forget hH) ⟨ht3,rfl,by show 1<6;decide,BN I1.sz hs,fun z=>?_,Dw,.inl rfl⟩ hEE;have:=I1.lt;rw[<- z] at this;exact Db _ (AN this hs)
   | next=>exact EH hq'
   | brk=>exact EH hq'
   | cont=>exact EH hq'
 show apos.length<=_;rw[<- (show Vals vs apos from rv).length];exact BN hl (by rw[E3];decide)
end
section
variable {M:Model}{A:A3}{E:Ap->AA->Prop}
variable {nm q nmD qD:Str}{C N D ND:Addr}{bs bm bsD bmD:List Ap}{hdct hdctD:Bool}{sn snD:List Str}{sub subD:List Ap}{ab abD:Bool}{col colD:Option Bool}{dd ddD:Option Addr}{k0 k1 k2 k3 k5 j0 j1 j2 j3 j5:Option Ap}{newId newIdD:String}
theorem Yo {h:Heap}{g:Array HI}{d:Drawn}{t:Nat}{os:OsState}{e:Addr}{oe:Obj}{Q:Bool->AA->Prop}
  (hC:h.get? C=some (FC nm q C N bs bm hdct sn sub ab col dd k0 k1 k2 k3 k5 newId)) (hD:h.get? D=some (FC nmD qD D ND bsD bmD hdctD snD subD abD colD ddD j0 j1 j2 j3 j5 newIdD)) (he:h.get? e=some oe) (hcls:oe.cls=.ref C)
  (hbase:bmD.contains (.type "BaseException")=true) (hs:bm.contains (.ref D)=true) (hq:Q true ⟨h,g,d,t,os⟩):AE M A (excMatches (.ref e) (.ref D)) Q E ⟨h,g,d,t,os⟩:=by
 have hcB:(Ap.ref D::bmD).contains (.type "BaseException")=true:=by rw[II,hbase,JY]
 have hcS:(Ap.ref C::bm).contains (.ref D)=true:=by rw[II,hs,JY]
 have f1:=tc_notTuple;have hT:(⟨h,g,d,t,os⟩:AA).TypeIs (.ref D) "type" := ⟨_,hD,rfl⟩;unfold excMatches
 repeat (any_goals (first|assumption|(with_reducible refine E5 he ?_;rw[hcls])|with_reducible refine E5 hD ?_|(with_reducible refine GY hD ?_;rw[hcB])|(with_reducible refine GY hC ?_;rw[hcS])|wp_step))
end
theorem wj {X:Cx}{pins:List (Addr×Obj)}{σ:St}{H:Hp}{s:AA}{M:Model}{A:A3}{E:Ap->AA->Prop}{i:Nat}{n:Str}{pos:Pos}{Q:Unit->AA->Prop}(I:Inv X pins σ H s)(hN:X.N.Nodup)(hi:X.N[i]?=some n)(hk:X.env.scope.names.lookup n=some .local)
  (h:∀s',Inv X pins (σ.set i none) H s'->Q () s'):AE M A (do G0 X.env n .none;unbindBehindTheSuite X.env n pos) Q E s:=by
 obtain⟨m,hn,hl⟩:=id I.loc;have hcls:(X.env.scope.kind == .class||(X.env.scope.kind == .module&&X.env.locals != X.env.globals))=false:=by rw[I.ok.kind];rfl
 have hiσ:i<σ.length:=by rw[I.len];exact(AF.mp hi).1
 have cne:=I.cne;have tracked:∀{a:Addr}{h':Heap},(∃o,s.heap.get? a=some o/\H a=none)->C3 a s.heap h'->HOk X.prog X.w H h':=fun {a h'} ha hs b ob e=>by
  obtain⟨_,_,hfree⟩:=ha;refine(I.hok b ob e).stay (fun c w' hc q=>(hs.2 c ?_).trans q) (fun _ q=>q) fun _ _ q=>q;rintro rfl;rcases hc with rfl|hc
  ·rw[hfree] at e;cases e
  rw[hfree] at hc;cases hc
 refine wpAny_nameGoes_keeps (show X.env.kindOf n=some .local from hk) hn hcls fun h' v hn' hs=>?_;obtain⟨oL,_,_,hoL,_⟩:=id hn;refine h _ ⟨I.ok,I.os,I.bare,⟨fun b o e n hb hx=>?_,fun b o e n hb hx=>?_,I.base.free,fun b o e hx=>?_,I.base.tups,I.base.frzs,I.base.tbls⟩,⟨_,hn',fun j y v' e1 e2 e3=>?_⟩,fun y c e=>?_,I.free,I.freeC,fun p hp=>?_,tracked ⟨oL,hoL,I.free⟩ hs,by simpa using I.len⟩
 ·exact(hs.2 b (B4 (AN (AZ e) I.ok.above))).trans (I.base.keep b o e n hb hx)
 ·obtain⟨sl,e1⟩:=I.base.slot b o e n hb hx;exact⟨sl,(hs.2 b (B4 (AN (AZ e) I.ok.above))).trans e1⟩
 ·obtain⟨o',e1⟩:=I.base.there b o e hx;exact⟨o',(hs.2 b (B4 (AN (AZ e) I.ok.above))).trans e1⟩
 ·by_cases hj:j=i
  ·subst hj;rw[L5 hiσ] at e2;cases e2
  rw[Mo (B2 hj)] at e2;obtain⟨u',r',q⟩:=hl j y v' e1 e2 e3;refine⟨u',r',?_⟩;rcases q with⟨k,e⟩|⟨k,c,e,z⟩
  ·refine .inl ⟨k,?_⟩;have:y≠n:=fun e=>hj (wW hN e1 (e ▸ hi));simp [this,e]
  exact .inr ⟨k,c,e,z.sameBut hs (cne y c e)⟩
 ·obtain⟨w',z⟩:=I.cell y c e;exact⟨w',z.sameBut hs (cne y c e)⟩
 obtain⟨e,n,ne,nf,d⟩:=I.pin p hp;exact⟨(hs.2 p.1 ne).trans e,n,ne,nf,d⟩
theorem XF {prog:AW}{w:BC}{A:A3}{E:Ap->AA->Prop}{s:AA}{base:Heap}{env:Env}{outer:List Env}{L e:Addr}{oe:Obj}{vs:Array Ap}{Q:Unit->AA->Prop}(hfr:A.frames=some (env::outer))(hl:s.heap.FunFrames base (env::outer))(hf:env.frame=some L)
  (he:s.heap.get? e=some oe) (hd:oe.data=BG vs) (h1s:1<vs.size) (hen:e∉B1 (fun x=>x.frame) (env::outer))
  (ht:vs[1]?=some Ap.none\/∃T ts,vs[1]?=some (Ap.ref T)/\T≠e/\s.heap.get? T=some { cls:=Ap.type "traceback",data:=BG ts }/\ts[3]?=some Ap.none)
  (hQ:∀(h':Heap)(T:Addr)(ts:Array Ap),h'.get? e=some { cls:=oe.cls,dict:=oe.dict,data:=BG (vs.setIfInBounds 1 (Ap.ref T)),slots:=oe.slots }->h'.get? T=some { cls:=Ap.type "traceback",data:=BG ts }->ts[3]?=some Ap.none->T≠e->s.heap.objs.size<=T ->
   (∀b o,b≠e->b∉B1 (fun x=>x.frame) (env::outer)->vs[1]?≠some (Ap.ref b)->s.heap.get? b=some o->h'.get? b=some o)->(∀b o,b∈B1 (fun x=>x.frame) (env::outer)->s.heap.get? b=some o->∃sl,h'.get? b=some { cls:=o.cls,dict:=o.dict,data:=o.data,slots:=sl })->Q () { s with heap:=h' }) :
  AE (AH prog w) A (Hm (Ap.ref e) env) (fun _ s'=>AE (AH prog w) A (HC (Ap.ref e) none) Q E s') E s:=by
 have fin:∀(h₂:Heap)(T:Addr)(ts:Array Ap),h₂.get? e=some { cls:=oe.cls,dict:=oe.dict,data:=BG (vs.setIfInBounds 1 (Ap.ref T)),slots:=oe.slots }->h₂.get? T=some { cls:=Ap.type "traceback",data:=BG ts }->ts[3]?=some (Fh L)->T≠e->s.heap.objs.size<=T->T∉B1 (fun x=>x.frame) (env::outer) ->
   (∀b o,b≠e->b∉B1 (fun x=>x.frame) (env::outer)->vs[1]?≠some (Ap.ref b)->s.heap.get? b=some o->h₂.get? b=some o)->(∀b o,b∈B1 (fun x=>x.frame) (env::outer)->s.heap.get? b=some o->∃sl,h₂.get? b=some { cls:=o.cls,dict:=o.dict,data:=o.data,slots:=sl }) ->
   AE (AH prog w) A (HC (Ap.ref e) none) Q E { s with heap:=h₂ }:=fun h₂ T ts g1 g2 g3 g4 g5 g6 g7 g8=>by
  unfold HC;have v1:(vs.setIfInBounds 1 (Ap.ref T))[1]?=some (Ap.ref T):=by
   rw[C7 h1s]
  refine An (Co g1 rfl v1 (Fm rfl ?_));refine B0 (s:={ s with heap:=h₂ }) g2 (Be.mp g3).1 fun h₃ q1 q2=>?_;refine hQ h₃ T _ ((q2.2 e (B2 g4)).trans g1) q1 ?_ g4 g5 (fun b o c1 c2 c3 g=>?_) (fun b o c1 g=>?_)
  ·rw[C7 (Be.mp g3).1];rfl
  ·have hb:b≠T:=fun z=>by
    have:=AZ g;rw[z] at this;exact absurd this (not_lt.mpr g5)
   exact(q2.2 b hb).trans (g7 b o c1 c2 c3 g)
  obtain⟨sl,q⟩:=g8 b o c1 g;exact⟨sl,(q2.2 b fun z=>g6 (by rw[<- z];exact c1)).trans q⟩
 unfold Hm;rw[hf];have fresh:∀{T:Addr},s.heap.objs.size<=T->T∉B1 (fun x=>x.frame) (env::outer):=fun {T} hT hm=>by
  obtain⟨_,o,g,_⟩:=hl.mem hm;exact absurd (AZ g) (not_lt.mpr hT)
 rcases ht with ht|⟨T0,ts0,ht,hTe,hT0,h30⟩
 ·refine An (Co he hd ht (C6 rfl ?_));exact BZ hfr hl hf he hd h1s hen fun h₂ T ts g1 g2 g3 g4 g5 g6 g7=>fin h₂ T ts g1 g2 g3 g4 g5 (fresh g5) (fun b o c1 c2 _ g=>g6 b o c1 c2 g) g7
 refine An (Co he hd ht (Fm rfl ?_));refine An (Co hT0 rfl h30 (C6 rfl ?_));refine An (B0 hT0 (Be.mp h30).1 fun h₁ q1 q2=>?_);have hT0f:T0∉B1 (fun x=>x.frame) (env::outer):=fun hm=>by
  obtain⟨_,o,g,nf⟩:=hl.mem hm;rw[hT0] at g;cases g;exact nf _ rfl
 have hl1:h₁.FunFrames base (env::outer):=hl.of_keeps fun b o g nf=>⟨o,(q2.2 b fun z=>by rw[z,hT0] at g;cases g;exact nf _ rfl).trans g,rfl⟩;refine BZ (s:={ s with heap:=h₁ }) hfr hl1 hf ((q2.2 e (B2 hTe)).trans he) hd h1s hen fun h₂ T ts g1 g2 g3 g4 g5 g6 g7=>?_;have g5':s.heap.objs.size<=T:=by rw[<- q2.1];exact g5
 refine fin h₂ T ts g1 g2 g3 g4 g5' (fresh g5') (fun b o c1 c2 c3 g=>g6 b o c1 c2 ((q2.2 b fun z=>c3 (by rw[z];exact ht)).trans g)) fun b o c1 g=>?_;exact g7 b o c1 ((q2.2 b fun z=>hT0f (by rw[<- z];exact c1)).trans g)
theorem Iv {prog:AW}{w:BC}{A:A3}{E:Ap->AA->Prop}{s:AA}{env:Env}{e:Addr}{D:Addr}{t:Expr}{n:Str}{b₀:Stmt}{suite:List Stmt}{pos:Pos}{rest:List ExceptHandler}{Q:Flow->AA->Prop}
  (h:AE (AH prog w) (A.mark (some (.ref e))) (eval t env) (fun c s₁=>c=.ref D/\(∀(Q':Bool->AA->Prop) A' E',Q' true s₁->AE (AH prog w) A' (excMatches (.ref e) (.ref D)) Q' E' s₁) /\
   AE (AH prog w) (A.mark (some (.ref e))) (HC (.ref e) none) (fun _ s₂=>
     AE (AH prog w) (A.mark (some (.ref e))) (storeName env n (.ref e)) (fun _ s₃=>
      AE (AH prog w) (A.mark (some (.ref e))) (execs (b₀::suite) env)
       (fun f s₄=>AE (AH prog w) A (do G0 env n .none;unbindBehindTheSuite env n pos) (fun _ s₅=>Q f s₅) E s₄)
       (AsSuiteRaised (AH prog w) (A.mark (some (.ref e))) env n pos (JO (AH prog w) (A.mark (some (.ref e))) env (cameBackBy (AH prog w) A env E))) s₃) (JO (AH prog w) (A.mark (some (.ref e))) env (cameBackBy (AH prog w) A env E)) s₂) (JO (AH prog w) (A.mark (some (.ref e))) env (cameBackBy (AH prog w) A env E)) s₁) (JO (AH prog w) (A.mark (some (.ref e))) env (cameBackBy (AH prog w) A env E)) s) :
  AE (AH prog w) A (handleBy (.ref e) env (.ExceptHandler (some t) (some n) (b₀::suite) pos::rest)) Q E s:=by
 refine wpAny_handleBy_cons (codeAny_handlers_test (BO h (fun c s₁ h₁=>?_) fun _ _ y=>y)) (by intro q;cases q);obtain⟨rfl,hm,hk⟩:=h₁;exact hm _ _ _ (codeAny_handlers_suite_as hk)
def GR (X:Cx)(pins:List (Addr×Obj))(xe:Ap->AA->Prop):Cx:={ X with xe:=xe,pn:=X.pn++pins }
def Kg (X:Cx)(x:Addr):Cx:={ X with A:=X.A.mark (some (.ref x)),calm:=false,xe:=fun _ _=>False }
section
variable {X:Cx}{pins pins':List (Addr×Obj)}{σ:St}{H:Hp}{s:AA}{xe:Ap->AA->Prop}{x:Addr}
theorem X8 (I:Inv X pins σ H s):Inv (GR X pins xe) [] σ H s:=
 ⟨⟨I.ok.mod,I.ok.kind,I.ok.glob,I.ok.blt,I.ok.above,I.ok.inj,I.ok.has,I.ok.cab,I.ok.hd,I.ok.frames,I.ok.stk,I.ok.exf,I.ok.bs,I.ok.bsz,I.ok.noex,I.ok.exfs,I.ok.pK,I.ok.frf⟩,I.os,I.bare,I.base,I.loc,I.cell,I.free,I.freeC,
  fun p hp=>I.pin p (by rw[DB] at hp;exact hp),I.hok,I.len⟩
theorem jB (I:Inv (GR X pins xe) pins' σ H s):Inv X pins σ H s:=
 ⟨⟨I.ok.mod,I.ok.kind,I.ok.glob,I.ok.blt,I.ok.above,I.ok.inj,I.ok.has,I.ok.cab,I.ok.hd,I.ok.frames,I.ok.stk,I.ok.exf,I.ok.bs,I.ok.bsz,I.ok.noex,I.ok.exfs,I.ok.pK,I.ok.frf⟩,I.os,I.bare,I.base,I.loc,I.cell,I.free,I.freeC,
  fun p hp=>I.pin p (Cc _ hp),I.hok,I.len⟩
theorem Td (I:Inv X pins σ H s):Inv (Kg X x) pins σ H s:=
 ⟨⟨I.ok.mod,I.ok.kind,I.ok.glob,I.ok.blt,I.ok.above,I.ok.inj,I.ok.has,I.ok.cab,fun z=>(nomatch z),I.ok.frames,I.ok.stk,I.ok.exf,I.ok.bs,I.ok.bsz,I.ok.noex,I.ok.exfs,I.ok.pK,I.ok.frf⟩,I.os,I.bare,I.base,I.loc,I.cell,I.free,I.freeC,I.pin,I.hok,I.len⟩
theorem mU (ok:X.Ok)(I:Inv (Kg X x) pins σ H s):Inv X pins σ H s:=
 ⟨ok,I.os,I.bare,I.base,I.loc,I.cell,I.free,I.freeC,I.pin,I.hok,I.len⟩
theorem rZ {D:Ends}{f:Flow}(h:SP (GR X pins xe) [] D f s):SP X pins D f s:=by
 cases f with
 | next=>obtain⟨σ',H',I,q⟩:=h;exact⟨σ',H',jB I,q⟩
 | brk=>obtain⟨σ',H',I,q⟩:=h;exact⟨σ',H',jB I,q⟩
 | cont=>obtain⟨σ',H',I,q⟩:=h;exact⟨σ',H',jB I,q⟩
 | ret u=>obtain⟨v,σ',H',I,r,q⟩:=h;exact⟨v,σ',H',jB I,r,q⟩
end
def XR (x C:Addr)(dx:Option Addr):HO:=.ext fun h=>∃vs sl,h.get? x=some { cls:=.ref C,dict:=dx,data:=.fields vs,slots:=sl }
def Vr:Option Ap->List Addr
 | some (.ref b)=>[b]
 | _=>[]
theorem R9 {o:Option Ap}{b:Addr}(h:b∈Vr o):o=some (.ref b):=by
 unfold Vr at h;split at h
 ·rw[AK.mp h]
 cases h
structure Zu (s:AA)(x T:Addr)(ox:Obj)(vs ts:Array Ap):Prop where
 at_:s.heap.get? x=some ox
 dat:ox.data=.fields vs
 one:vs[1]?=some (.ref T)
 ent:s.heap.get? T=some { cls:=.type "traceback",data:=.fields ts }
 fl:ts[3]?=some .none
 ne:T≠x
section
variable {X:Cx}{pins:List (Addr×Obj)}{σ:St}{H1 H2:Hp}{s1 s2:AA}{x C:Addr}{ox:Obj}{vs:Array Ap}
theorem Ul {E:Ap->AA->Prop}{Q:Unit->AA->Prop}(hstk:X.stack=X.env::X.outer/\X.env.frame=some X.env.locals)(I1:Inv X pins σ H1 s1)(L:Lies s1 s2 H2 x ox vs)(hc:ox.cls=.ref C)
  (hos:s2.os=s1.os) (hg:JA s2.gens) (un:Un (frs X.stack) [] H1 H2 s1.heap s2.heap) (hok:HOk X.prog X.w H2 s2.heap)
  (hQ:∀s3 T ox3 vs3 ts,Inv X pins σ (upd H2 x (XR x C ox.dict)) s3->Zu s3 x T ox3 vs3 ts->Q () s3) :
  AE (AH X.prog X.w) X.A (Hm (.ref x) X.env) (fun _ s'=>AE (AH X.prog X.w) X.A (HC (.ref x) none) Q E s') E s2:=by
 have I2:Inv X pins σ H2 s2:=I1.call' (ch:=[]) hos un hok hg (fun b z=>absurd z (by simp));have hfree:=I2.vV;have hst:=I2.stack;have hfrm:=I2.ok.frames;have hold:∀b o,s1.heap.get? b=some o->b≠x:=fun b o g z=>by
  have h1:=AZ g;have h2:=L.new;rw[z] at h1;exact absurd (AN h1 h2) (Db _)
 have hen:x∉frs X.stack:=fun hm=>by
  obtain⟨_,o,g,_⟩:=I1.stack.mem hm;exact hold x o g rfl
 rw[hstk.1] at hen hst hfrm;have hT0:∀b,vs[1]?=some (Ap.ref b)->s1.heap.objs.size<=b/\H2 b=none:=fun b hb=>by
  rcases L.tb with z|⟨T0,_,z,_,_,_,z5,z6⟩
  ·rw[z] at hb;cases hb
  rw[z] at hb;cases hb;exact⟨z5,z6⟩
 refine XF (base:=X.base) (outer:=X.outer) (L:=X.env.locals) hfrm hst hstk.2 L.at_ L.dat L.siz hen ?_ ?_
 ·rcases L.tb with z|⟨T,ts,z1,z2,z3,z4,_,_⟩
  ·exact .inl z
  exact .inr ⟨T,ts,z1,z2,z3,z4⟩
 intro h' T ts g1 g2 g3 g4 g5 g6 g7
 let chs:List Addr:=x::Vr vs[1]?
 have hchs:∀b∈chs,b=x\/vs[1]?=some (.ref b):=fun b hb=>by
  rcases BB.mp hb with z|z
  ·exact .inl z
  exact .inr (R9 z)
 have hch2:∀b,vs[1]?=some (.ref b)->b∈chs:=fun b hb=>by
  show b∈x::Vr vs[1]?;rw[hb];exact A4 _ (AK.mpr rfl)
 have hnew:∀b∈chs,s1.heap.objs.size<=b:=fun b hb=>by
  rcases hchs b hb with z|z
  ·rw[z];exact L.new
  exact(hT0 b z).1
 have hno:∀b∈chs,∀c o,s1.heap.get? c=some o->c≠b:=fun b hb c o g z=>by
  have h1:=AZ g;rw[z] at h1;exact absurd (AN h1 (hnew b hb)) (Db _)
 have hfr2:∀b,b∉frs X.stack->b∉B1 (fun x=>x.frame) (X.env::X.outer):=fun b hb=>by
  rw[hstk.1] at hb;exact hb
 have hfr3:∀b,b∈frs X.stack->b∈B1 (fun x=>x.frame) (X.env::X.outer):=fun b hb=>by
  rw[hstk.1] at hb;exact hb
 have u3:Un (frs X.stack) chs H2 (upd H2 x (XR x C ox.dict)) s2.heap h':=by
  refine⟨fun b o g n hf hx=>?_,fun b o g n hf hx=>?_,fun b o g n hx=>?_,fun b o g hx=>?_,fun b xs e=>?_,fun b o u e=>?_,fun b ps e=>⟨#[],?_⟩⟩
  ·exact g6 b o (fun z=>hx (by rw[z];exact BE)) (hfr2 b hf) (fun z=>hx (hch2 b z)) g
  ·exact g7 b o (hfr3 b hf) g
  ·rw[aF (fun z=>hx (by rw[z];exact BE)),n]
  ·by_cases hm:b∈frs X.stack
   ·obtain⟨sl,g''⟩:=g7 b o (hfr3 b hm) g;exact⟨_,g''⟩
   exact⟨_,g6 b o (fun z=>hx (by rw[z];exact BE)) (hfr2 b hm) (fun z=>hx (hch2 b z)) g⟩
  ·rw[aF (fun z=>by rw[z,L.fre] at e;cases e),e]
  ·rw[aF (fun z=>by rw[z,L.fre] at e;cases e),e]
  rw[aF (fun z=>by rw[z,L.fre] at e;cases e),e,append_empty]
 have hok3:HOk X.prog X.w (upd H2 x (XR x C ox.dict)) h':=by
  intro a o ha;by_cases z:a=x
  ·subst z;rw[aB] at ha;cases ha;rw[hc] at g1;exact⟨⟨_,_,g1⟩,⟨_,g1⟩,fun h1 h2 ⟨v,sl,z⟩ z2=>⟨v,sl,z2 _ z⟩⟩
  rw[aF z] at ha;refine(I2.hok a o ha).stay (fun b u hb gb=>?_) (fun b hb=>by rw[aF (fun z=>by rw[z,L.fre] at hb;cases hb),hb]) fun b xs hb=>by rw[aF (fun z=>by rw[z,L.fre] at hb;cases hb),hb]
  have hb':H2 b≠none:=by
   rcases hb with rfl|hb
   ·rw[ha];exact fun z=>nomatch z
   rw[hb];exact fun z=>nomatch z
  exact g6 b u (fun z=>hb' (by rw[z];exact L.fre)) (fun z=>hb' (hfree b (by rw[hstk.1];exact z))) (fun z=>hb' (hT0 b z).2) gb
 have I3:Inv X pins σ (upd H2 x (XR x C ox.dict)) { s2 with heap:=h' }:=by
  refine I2.call (g':=s2.gens) (t':=s2.toks) (d':=s2.drawn) (ch:=chs) u3 hok3 hg fun b hb=>⟨.inr (BN I1.sz (hnew b hb)),fun z=>?_,fun y c e z=>?_,fun p hp z=>?_⟩
  ·obtain⟨m,⟨o,_,_,ho,_⟩,_⟩:=I1.loc;exact hno b hb _ o ho z.symm
  ·obtain⟨v,o,ho,_⟩:=I1.cell y c e;exact hno b hb c o ho z
  obtain⟨e,_⟩:=I1.pin p hp;exact hno b hb p.1 p.2 e z
 exact hQ _ T _ _ ts I3 ⟨g1,rfl,by rw[C7 L.siz],g2,g3,g4⟩
theorem set_same {ts:Array Ap}{i:Nat}{v:Ap}(h:ts[i]?=some v):ts.setIfInBounds i v=ts:=by
 apply Array.ext_getElem?;intro j;rw[Array.getElem?_setIfInBounds];split
 ·rename_i z;subst z;split
  ·exact h.symm
  rename_i z;have:=(Be.mp h).1;exact absurd this z
 rfl
theorem T4 {prog:AW}{w:BC}{A:A3}{E:Ap->AA->Prop}{Q:Unit->AA->Prop}{H:Hp}{s:AA}{T:Addr}{ts:Array Ap}(I:Inv X pins σ H s)(n:Zu s x T ox vs ts)(hQ:∀s',Inv X pins σ H s'->Q () s'):AE (AH prog w) A (HC (.ref x) none) Q E s:=by
 unfold HC;refine An (Co n.at_ n.dat n.one (Fm rfl ?_));refine B0 n.ent (Be.mp n.fl).1 fun h₃ q1 q2=>?_;refine hQ _ (I.kept (t':=s.toks) fun b u g=>?_);by_cases z:b=T
 ·subst z;rw[n.ent] at g;cases g;rw[q1];exact congrArg (fun a=>some ({ cls:=Ap.type "traceback",data:=BG a }:Obj)) (set_same n.fl)
 exact(q2.2 b z).trans g
end
section
variable {X:Cx}{C D N fI ND:Addr}{dn n:Str}{i:Nat}{body suite:List Stmt}{b₀:Stmt}{np hpos pos:Pos}{tb:XK->TS}{ts:TS}
def CT (i:Nat)(Dn:Ends):Ends:={ nx:=fun σ H=>Dn.nx (σ.set i none) H,rt:=Dn.rt,bk:=fun σ H=>Dn.bk (σ.set i none) H,ct:=fun σ H=>Dn.ct (σ.set i none) H }
def Za (C:Addr)(len i:Nat)(ts:TS)(Dn:Ends):XK:=fun c dx H'=>c=.ref C/\∀(x:Addr)(σ':St),σ'.length=len->H' x=none->ts (CT i Dn) (σ'.set i (some (.ref x))) (upd H' x (XR x C dx))
def ZL (C:Addr)(len i:Nat)(tb:XK->TS)(ts:TS):TS:=fun Dn σ H=>tb (Za C len i ts Dn) Dn σ H
structure Y7 (K:AC)(D ND:Addr):Prop where
 obj:∃nm q bs hd sn sub ab col dd k0 k1 k2 k3 k5 nid,K.lookup D=some (FC nm q D ND bs vbm hd sn sub ab col dd k0 k1 k2 k3 k5 nid)
theorem aao (hstk:X.stack=X.env::X.outer/\X.env.frame=some X.env.locals)(hN:X.N.Nodup)(hi:X.N[i]?=some n)(hk:X.env.scope.names.lookup n=some .local)(hg:Gl X dn)(hm:X.mg dn=some (.ref D))(XD:Y7 X.K D ND)(XC:nM X.K C D N fI)
  (hbody:∀(E1:XK)(xe:Ap->AA->Prop)(pins:List (Addr×Obj)),rN (CX1 X.prog X.w) (GR X pins xe) E1->PSs (GR X pins xe) body (tb E1)) (hsuite:∀x,PSs (Kg X x) (b₀::suite) ts) (hdb:(dn == ("__debug__" : Str))=false:=by decide) :
  PS X (.Try body [.ExceptHandler (some (.Name dn np)) (some n) (b₀::suite) hpos] [] [] pos) (ZL C X.N.length i tb ts):=by
 intro pins s σ H Dn I h;obtain⟨nm,q',bs,sn,sub,ab,col,dd,k0,k1,k2,k3,k5,hC⟩:=XC.obj;obtain⟨nmD,qD,bsD,hdD,snD,subD,abD,colD,ddD,j0,j1,j2,j3,j5,nid,hD⟩:=XD.obj;refine wpAny_Try_except ?_;have hb:=hbody (Za C X.N.length i ts Dn) (fun e s₁=>AE (AH X.prog X.w) X.A (Hm e X.env) (fun _ s₂=>AE (AH X.prog X.w) X.A (HC e none) (fun _ s₃=>AE (AH X.prog X.w) X.A (handleBy e X.env [.ExceptHandler (some (.Name dn np)) (some n) (b₀::suite) hpos]) (SP X pins Dn) X.xe s₃) X.xe s₂) X.xe s₁) pins ?_ [] s σ H Dn (X8 I) h
 ·refine BO hb (fun f s' hs=>?_) (fun e s' hs=>hs);cases f with
  | next=>exact Au (rZ hs)
  | brk=>exact rZ hs
  | cont=>exact rZ hs
  | ret u=>exact rZ hs
 intro pins' σ' H1 s1 e s2 I1 ⟨x,ox,vs,H2,he,L,hos,hgn,un,hok,hc,hts⟩;subst he;show AE (AH X.prog X.w) X.A (Hm (.ref x) X.env) _ _ s2;refine Ul hstk (jB I1) L hc hos hgn un hok fun s3 T ox3 vs3 tts I3 n3=>?_;refine Iv (D:=D) ?_;refine Kn I3.ok.kind hg (Calls.loadGlobal_global (by rw[I3.ok.glob];exact I3.mod.glob.keeps I3.bk) hm ⟨rfl,fun Q' A' E' q=>?_,?_⟩) hdb
 ·obtain⟨vx,sx,hx⟩:=(show ∃vs sl,_ from(I3.hok x _ aB).1);obtain⟨hh,g,d,tk,os⟩:=s3;exact Yo (I3.kIn _ _ hC) (I3.kIn _ _ hD) hx rfl rfl (by rw[II,beq_self_eq_true,Bool.true_or]) q
 refine T4 I3 n3 fun s4 I4=>jd I4 hN hi (.inl hk) (show RelV (.ref x) (.ref x) from rfl) (fun s5 I5=>?_) (.inr hk);have hs5:=hsuite x pins s5 _ _ (CT i Dn) (Td I5) (hts x σ' (jB I1).len L.fre);refine BO hs5 (fun f s6 hs=>?_) (fun e s6 z=>z.elim);cases f with
 | next=>
  obtain⟨σ6,H6,I6,q6⟩:=hs;exact wj (mU I5.ok I6) hN hi hk fun s7 I7=>⟨_,_,I7,q6⟩
 | brk=>
  obtain⟨σ6,H6,I6,q6⟩:=hs;exact wj (mU I5.ok I6) hN hi hk fun s7 I7=>⟨_,_,I7,q6⟩
 | cont=>
  obtain⟨σ6,H6,I6,q6⟩:=hs;exact wj (mU I5.ok I6) hN hi hk fun s7 I7=>⟨_,_,I7,q6⟩
 | ret u=>
  obtain⟨v,σ6,H6,I6,r6,q6⟩:=hs;exact wj (mU I5.ok I6) hN hi hk fun s7 I7=>⟨v,_,_,I7,r6,q6⟩
end
open PySem.W (Frag clsIn findIn takerIn InstAt looks_clsIn looks_findIn looks_takesIn looks_specialIn specialIn takesIn Looks check_slot looks_mroIn mroIn handedIn handedOut_of class_get KitX)
structure XIs (K:Frag)(C:Addr):Prop where
 ga:IA K (.ref C) "__getattribute__" = some (some (.builtin "BaseException.__getattribute__"))
 gk:IA K (.ref C) "__getattr__" = some none
 ha:IA K (.ref C) "__class__" = some (some (.builtin "object.__class__"))
 hn:specialIn K (.builtin "object.__class__") "__get__" = some (some (.builtin "getset_descriptor.__get__"))
 htk:takesIn K (.builtin "object.__class__")=some true
 hm:mroIn K C (.type "object")=some true
 hb:mroIn K C (.type "BaseException")=some true
 cl:(clsIn K C).isSome=true
section
variable {prog:AW}{w:BC}{A:A3}{E:Ap->AA->Prop}{s:AA}{K:Frag}{x C:Addr}{ox:Obj}{od:Option Obj}
theorem YB {Q:Option Ap->AA->Prop}(Z:XIs K C)(X:K.In s.heap)(I:InstAt s.heap x ox C od)(hq:Q (some (.ref C)) { s with toks:=s.toks+1 }) :
  AE (AH prog w) A (getAttr? (.ref x) "__class__") Q E s:=by
 have IT:D8 (AH prog w) s.heap (typeOf (.ref x)) (.ref C):=I.type;have L1:D8 (AH prog w) s.heap (He (.ref C) "__getattribute__") (some (.builtin "BaseException.__getattribute__")):=Ev X Z.ga;have LK:D8 (AH prog w) s.heap (He (.ref C) "__getattr__") none:=Ev X Z.gk;have LF:D8 (AH prog w) s.heap (He (.ref C) "__class__") (some (.builtin "object.__class__")):=Ev X Z.ha;have LN:D8 (AH prog w) s.heap (specialOf (.builtin "object.__class__") "__get__") (some (.builtin "getset_descriptor.__get__")):=looks_specialIn X Z.hn;have LT:D8 (AH prog w) s.heap (takesStores (.builtin "object.__class__")) true:=LG X Z.htk;have sub:D8 (AH prog w) s.heap (KF (.ref x) (.type "BaseException")) true:=IT.andThen (HE X Z.hb);have FB:=PySem.F.attrBase_ValueError;unfold getAttr? getAttrBy?;refine An (wpAny_mkText (An (DZ ?_)));unfold getAttrBy;refine BI (An (IT _ _ _ _ (fun _ _ e=>e) (An (L1 _ _ _ _ (fun _ _ e=>e) ?_))));dsimp only;have hx2:(Ap.builtin "BaseException.__getattribute__" == Ap.builtin "object.__getattribute__")=false:=by decide +kernel
 rw[show(MW (Ap.ref C)&&Ap.builtin "BaseException.__getattribute__" == Ap.builtin "object.__getattribute__")=false from by rw[hx2];rfl,if_neg δ];unfold getAttrByItsOwn;have HB:D8 (AH prog w) s.heap (hookBefore (.ref C)) none:=by
  unfold hookBefore;rw[if_pos (show MW (Ap.ref C)=true from rfl)];exact LK
 refine An (HB _ _ _ _ (fun _ _ e=>e) (An (DZ (BI ?_))));unfold callGetattribute;rw[show(false&&MW (Ap.builtin "BaseException.__getattribute__"))=false from rfl,if_neg δ];unfold boundAndCalled;rw[FB.ga.bind];refine An (Au ?_);show AE _ _ (call (.builtin "BaseException.__getattribute__") [.ref x,.str "__class__" s.toks]) _ _ _;refine Hb ?_;refine E6 FB.ga.plain F.entry_bexc_ga ?_;refine @IB (AH prog w) _ _ { s with toks:=s.toks+1 } "BaseException.__getattribute__" "BaseException" "__getattribute__" (.ref x) [.str "__class__" s.toks] [] _ ψ ψ sub (F.args_bexc_ga (.ref x) (.str "__class__" s.toks)) ?_;unfold AX.«object.__getattribute__»;have LD:D8 (AH prog w) s.heap (dataDescriptor? (some (.builtin "object.__class__")) (some (.builtin "getset_descriptor.__get__"))) (some (.builtin "getset_descriptor.__get__",.builtin "object.__class__")):=LT.andThen .now;have LV:D8 (AH prog w) s.heap (find (.ref x) (.ref C) "__class__") (.bind (.builtin "getset_descriptor.__get__") (.builtin "object.__class__")):=by
  refine LF.andThen (LN.andThen (LD.andThen ?_));exact D8.tag .now
 refine An (Au (An (Au (An (IT _ _ _ _ (fun _ _ e=>e) (An (LV _ _ _ _ (fun _ _ e=>e) ?_)))))));show AE _ _ (Fc [.builtin "object.__class__"] (call (.builtin "getset_descriptor.__get__") [.builtin "object.__class__",.ref x,.ref C]) >>= ret) _ _ _;refine An (BI (Hb (class_get (s:={ s with toks:=s.toks+1 }) X I Z.hm ?_)));refine Au ?_;show AE _ _ (handedOut (.ref C)) _ _ _;rw[handedOut_of (show handedIn (.ref C)=true from rfl)];exact Au (Au hq)
theorem SN (Z:XIs K C):KitX K (.ref x) (.ref C) (fun h=>∃ox od,InstAt h x ox C od) where
 ty:=fun _ _ _ ⟨_,_,I⟩=>I.type
 it:=fun _ _ X _=>by
  have hcD:=Z.cl;unfold clsIn at hcD;split at hcD
  ·rename_i c' d' cd' sl' ho;intro A' Q' E' s' k q;unfold isType loadHead;exact An (KI (k _ _ (X _ _ ho)) (Au q))
  cases hcD
 ne:=fun h tp dd its n sl X htp=>by
  have hcD:=Z.cl;refine B3.mpr fun q=>?_;have e:C=tp:=Ap.ref.inj (beq_iff_eq.mp q);subst e;unfold clsIn at hcD;split at hcD
  ·rename_i c' d' cd' sl' ho;have z:=(X _ _ ho).symm.trans htp;cases z
  cases hcD
 ca:=fun X ⟨_,_,I⟩ k=>YB Z X I k
end
section
variable {X:Cx}{pins:List (Addr×Obj)}{σ:St}{H:Hp}{s:AA}{A:A3}{E:Ap->AA->Prop}{Q:Ap->AA->Prop}{c:Ap}{b:Bool}{x C dx:Addr}{fs:List (Str×V)}
theorem Yb (I:Inv X pins σ H s)(hx:H x=some (XR x C (some dx)))(hd:H dx=some (.xd fs)):∃ox od,InstAt s.heap x ox C od:=by
 obtain⟨vs,sl,h1⟩:=(show ∃vs sl,_ from(I.hok x _ hx).1);obtain⟨mA,⟨od,es,ep,h2,_⟩,_⟩:=(show cW X.prog X.w H s.heap dx (.xd fs) from I.hok dx _ hd);exact⟨_,some od,h1,rfl,rfl,h2⟩
theorem Tc (Z:XIs X.K C)(I:Inv X pins σ H s)(hx:H x=some (XR x C (some dx)))(hd:H dx=some (.xd fs))(e:E9 X.K (.ref C) c=some b)(h:∀tk,Q (.bool b) { s with toks:=tk }) :
  AE (AH X.prog X.w) A (call (.builtin "isinstance") [.ref x,c]) Q E s:=
 DF (SN Z) I.kIn (Yb I hx hd) e (fun z=>nomatch z) h
theorem Iw:∀{y:V}{u:Ap},RelV y u->handedIn u=true
 | .non,_,r=>by rw[show _=Ap.none from r];rfl
 | .bl _,_,r=>by rw[show _=Ap.bool _ from r];rfl
 | .int _,_,⟨_,r⟩=>by rw[r];rfl
 | .str _,_,⟨_,r⟩=>by rw[r];rfl
 | .byt _,_,⟨_,r⟩=>by rw[r];rfl
 | .flt _,_,⟨_,r⟩=>by rw[r];rfl
 | .ref _,_,r=>by rw[show _=Ap.ref _ from r];rfl
 | .ty _,_,r=>by rw[show _=Ap.type _ from r];rfl
variable {D N fI:Addr}{e:Expr}{f:Str}{pos:Pos}{ta:TE}
def O7 (K:AC)(C:Addr)(ta:TE)(f:Str):TE:=fun σ H Q=>ta σ H fun v H1=>∃x dx fs y,v=.ref x/\H1 x=some (XR x C (some dx))/\H1 dx=some (.xd fs)/\fs.lookup f=some y/\IA K (.ref C) f=some none/\Q y H1
theorem WX (XC:nM X.K C D N fI)(he:PE X e ta)(hb:D9 e f X.env (eval e X.env)=eval e X.env):PE X (.Attribute e f pos) (O7 X.K C ta f):=by
 intro pins s σ H Q I h;refine YZ hb (thn (he pins s σ H _ I h) fun u s1 ⟨v,H1,I1,rv,x,dx,fs,y,ev,hx,hd,hf,hno,q⟩=>?_);subst ev;obtain rfl:u=Ap.ref x:=rv;obtain⟨cd,c1,c2,c3⟩:=XC.cls;obtain⟨vs,sl,h1⟩:=(show ∃vs sl,_ from(I1.hok x _ hx).1);obtain⟨mA,h2,h3⟩:=(show cW X.prog X.w H1 s1.heap dx (.xd fs) from I1.hok dx _ hd);have h4:=h3 f;rw[hf] at h4;cases hm:mA f with
 | none=>rw[hm] at h4;exact h4.elim
 | some uy=>
  rw[hm] at h4;obtain⟨hp,g,d,tk,os⟩:=s1;exact acw I1.kIn c1 c2 c3 XC.ga XC.gk hno h1 rfl rfl rfl h2.ns hm (Iw h4) ⟨y,H1,I1.tok (tk+1),h4,q⟩
end
structure Y8 (P:AW)(w:BC)(K:AC)(mg:Str->Option Ap)(base:Heap)(x:Str)(k:Nat)(ps:List Str)(sp:Sp):Prop where
 ex:∃(f:Addr)(fd:Dx),cU P w K mg base (CX1 P w) k f fd ps sp/\Binds K fd ps []/\keepIn K (.ref f)=true/\mg x=some (.ref f)
structure abL (P:AW)(w:BC)(K:AC)(mg:Str->Option Ap)(base:Heap)(x:Str)(C D:Addr)(k:Nat)(ps:List Str)(sp:Sp):Prop where
 ex:∃(N fI:Addr)(fd:Dx),nM K C D N fI/\cU P w K mg base CX0 k fI fd ps sp/\Binds K fd ps []/\(∃oI,K.lookup fI=some oI/\oI.cls=.type "function")/\mg x=some (.ref C)
section
variable {P:AW}{w:BC}{K:AC}{mg:Str->Option Ap}{base:Heap}
theorem Fun.acR {x qual:Str}{st:Stmt}{f:Addr}{fd:Dx}{N ps:List Str}{k:Nat}{sp:Sp}(F:Fun K x qual st f fd)(S:bA N ps (aj st))(len:∀vs H Q E,sp vs H Q E->vs.length=ps.length)
  (hbody:∀(cdv:Ap)(A:A3)(outer:List Env)(s:AA)(H:Hp)(vs:List V)(Q:VK)(E:XK),fK k (A.deeper (F7 qual (aj st) s.heap.objs.size f cdv))->sp vs H Q E ->
   ∃t,QB (zH (CX1 P w) P w K mg base N qual (aj st) f cdv A outer s H E) (eG st) t/\t { nx:=fun _ H'=>Q .non H',rt:=Q } (L2.start N vs) H):cU P w K mg base (CX1 P w) (k+1) f fd ps sp:=by
 obtain⟨oc,od,kV,doc,pm,an,cdv,ct,osl,rfl,lk,hcd⟩:=F.ex;refine Zt lk hcd S len fun A outer s H vs Q E hr hsp=>?_;obtain⟨t,h,q⟩:=hbody cdv A outer s H vs Q E hr hsp;exact⟨t,h.h,q⟩
theorem Om.acY {x:Str}{st:Stmt}{ps:List Str}{f:Addr}{fd:Dx}{k:Nat}{sp:Sp}(D:Om K mg x st ps f fd)(F:cU P w K mg base (CX1 P w) k f fd ps sp):Y8 P w K mg base x k ps sp:=
 ⟨f,fd,F,D.bd,D.fn.kp,D.nm⟩
end
section
variable {X:Cx}{k:Nat}{ps:List Str}{sp:Sp}{x f:Str}{p np apos cpos pos pos':Pos}{e o value:Expr}{es:List Expr}{t:TA}{E:XK}{C D N fI:Addr}{te ta tv:TE}
theorem Wj (c:Y8 X.prog X.w X.K X.mg X.base x k ps sp) (hr:fK k X.A) (hg:Gl X x) (hx:rN (CX1 X.prog X.w) X E) (ha:QA X (e::es) t) (hdb:(x == ("__debug__" : Str))=false:=by decide)
  (he:AJ (e::es) X.env=(false,eval e X.env)::AJ es X.env:=by rfl) (hpl:(C8 pos (AJ es X.env)).any (·.1)=false:=by rfl):QE X (.Call (.Name x p) (e::es) [] pos) (lG sp [] E t):=by
 obtain⟨f,fd,F,b,kp,hm⟩:=c.ex;exact⟨J9 F hr hg hm kp b .nil hx ha.h hdb he hpl⟩
theorem QZ (c:abL X.prog X.w X.K X.mg X.base x C D k ps sp) (hr:fK (k+1) X.A) (hg:Gl X x) (hcalm:X.calm=true) (ho:abK X E) (ha:QA X (e::es) t) (hdb:(x == ("__debug__" : Str))=false:=by decide)
  (hst:AJ (e::es) X.env=(false,eval e X.env)::AJ es X.env:=by rfl) (hpl:(C8 cpos (AJ es X.env)).any (·.1)=false:=by rfl) :
  QS X (.Raise (some (.Call (.Name x np) (e::es) [] cpos)) none pos) (G3 C sp E t):=by
 obtain⟨N,fI,fd,XC,F,b,hf,hm⟩:=c.ex;exact⟨Mq XC F hr b hf hcalm ho hg hm ha.h hdb hst hpl⟩
theorem Q6 {pl:Sem Bool}(XC:nM X.K C D N fI) (XD:XBase X.K D) (hg:Gl X x) (hm:X.mg x=some (.ref D)) (ha:QA X (e::es) t) (hdb:(x == ("__debug__" : Str))=false:=by decide)
  (hst:AJ (e::es) X.env=(false,eval e X.env)::AJ es X.env:=by rfl) (hpl:(C8 cpos (AJ es X.env)).any (·.1)=false:=by rfl)
  (ht:eval (.Call (.Attribute (.Name x np) "__init__" apos) (e::es) [] cpos) X.env=(do
   let ov <- eval (.Name x np) X.env
   G8 apos.atName
   let (f,first) <- Fc [ov] (getMethod ov "__init__" pl)
   callWith cpos f first (C8 cpos (AJ (e::es) X.env)) (LM cpos (HA [] X.env))):=by rfl) :
  QE X (.Call (.Attribute (.Name x np) "__init__" apos) (e::es) [] cpos) (tBI C t):=⟨Rp XC XD hg hm ha.h hdb hst hpl ht⟩
theorem Wc (XC:nM X.K C D N fI)(ha:QE X o ta)(hv:QE X value tv)(hs:Ix value (some (.Attribute o f pos')) pos.line X.env=pure false:=by rfl):QS X (.Assign [.Attribute o f pos'] value pos) (Qk X.K C ta tv f):=⟨Wx XC ha.h hv.h hs⟩
theorem sX (XC:nM X.K C D N fI)(he:QE X e ta)(hb:D9 e f X.env (eval e X.env)=eval e X.env:=by rfl):QE X (.Attribute e f pos) (O7 X.K C ta f):=⟨WX XC he.h hb⟩
theorem Mp {v₁ v₂:Expr}{rest:List Expr}{tj:TJ}(h:PJ X (v₁::v₂::rest) tj)(hl:(v₁::v₂::rest).length<=100:=by decide):QE X (.JoinedStr (v₁::v₂::rest) pos) (fun σ H Q=>tj σ H fun H1=>∀x,Q (.str x) H1):=⟨Mv h hl⟩
theorem aaf {dn n:Str}{i:Nat}{ND:Addr}{body suite:List Stmt}{b₀:Stmt}{hpos:Pos}{tb:XK->TS}{ts:TS}(hstk:X.stack=X.env::X.outer/\X.env.frame=some X.env.locals)(hN:X.N.Nodup)(hi:X.N[i]?=some n)(hk:X.env.scope.names.lookup n=some .local)(hg:Gl X dn)(hm:X.mg dn=some (.ref D))(XD:Y7 X.K D ND)(XC:nM X.K C D N fI)
  (hbody:∀(E1:XK)(xe:Ap->AA->Prop)(pins:List (Addr×Obj)),rN (CX1 X.prog X.w) (GR X pins xe) E1->QB (GR X pins xe) body (tb E1)) (hsuite:∀x,QB (Kg X x) (b₀::suite) ts) (hdb:(dn == ("__debug__" : Str))=false:=by decide) :
  QS X (.Try body [.ExceptHandler (some (.Name dn np)) (some n) (b₀::suite) hpos] [] [] pos) (ZL C X.N.length i tb ts):=
 ⟨aao hstk hN hi hk hg hm XD XC (fun E1 xe pins hp=>(hbody E1 xe pins hp).h) (fun x=>(hsuite x).h) hdb⟩
def abX (K:AC):List V->Hp->VK->Prop:=fun xs H Q=>∃x c C dx fs b,xs=[.ref x,c]/\H x=some (XR x C (some dx))/\H dx=some (.xd fs)/\XIs K C/\(∀u,RelV c u->E9 K (.ref C) u=some b)/\Q (.bl b) H
theorem lX:dw X (.builtin "isinstance") (abX X.K):=by
 intro pins s σ H xs us Q I r h;obtain⟨x,c,C,dx,fs,b,rfl,hx,hd,Z,hk,q⟩:=h;obtain⟨u,v,rfl,r1,r2⟩:=Vals.two r;obtain rfl:u=Ap.ref x:=r1;exact Tc Z I hx hd (hk v r2) fun tk=>⟨.bl b,H,I.tok tk,rfl,q⟩
end
section
variable {X:Cx}{k:Nat}{ps:List Str}{sp:Sp}{x:Str}{p pos:Pos}{e:Expr}{es:List Expr}{t:TA}{E:XK}
theorem aah (c:Y8 X.prog X.w X.K X.mg X.base x k ps sp)(hr:fK k X.A)(hg:Gl X x)(b:Bn x)(hx:rN (CX1 X.prog X.w) X E)(ha:QA X (e::es) t)
  (he:AJ (e::es) X.env=(false,eval e X.env)::AJ es X.env:=by rfl) (hpl:(C8 pos (AJ es X.env)).any (·.1)=false:=by rfl):QE X (.Call (.Name x p) (e::es) [] pos) (lG sp [] E t):=Wj c hr hg hx ha b.hd he hpl
end
section
variable {X:Cx}{e o:Expr}{te to:TE}{pos:Pos}
def acX (xs:List V)(y:V)(n:Nat):Prop:=∃(bl:List Bool)(b:Bool),xs=bl.map V.bl/\y=.bl b/\n=bl.count b
def Zd (K:AC)(to te:TE):TE:=fun σ H Q=>to σ H fun x H1=>∃(p:Addr),x=.ref p/\(∃xs,SqL K H1 p xs)/\te σ H1 fun y H2=>∃(xs:List V)(n:Nat),SqL K H2 p xs/\acX xs y n/\Q (.int (n:Nat)) H2
def isB (w:Bool):Ap->Bool
 | .bool z=>z == w
 | _=>false
theorem KR (w:Bool):∀{is:List Bool}{its:List Ap},Vals (is.map V.bl) its->its.countP (isB w)=is.count w
 | [],_,.nil=>rfl
 | i::is,_,.cons r rs=>by
  obtain rfl:=(show _=Ap.bool i from r);rw[List.countP_cons,List.count_cons,KR w rs];rfl
theorem JC:∀{is:List Bool}{its:List Ap},Vals (is.map V.bl) its->∀{y},y∈its->∃b,y=Ap.bool b
 | [],_,.nil,_,h=>by cases h
 | i::is,_,.cons r rs,y,h=>by
  rcases BB.mp h with z|z
  ·exact⟨i,z.trans r⟩
  exact JC rs z
theorem W3 {apos cpos:Pos}(hu:X.A.in1.units<cLine)(ho:PE X o to)(he:PE X e te)
  (hbase:D9 o "count" X.env (eval o X.env)=eval o X.env:=by rfl)
  (hfew:((C8 cpos (AJ [e] X.env)).all (fun x=>!x.1)&&(LM cpos (HA [] X.env)).all (fun x=>x.1.isSome)
   && decide ([e].length+([]:List IJ).length+(if ([]:List IJ).isEmpty then 0 else 1)<30))=true:=by rfl)
  (hline:(apos.endLine == cpos.line)=true:=by rfl) (hs:AJ [e] X.env=(false,eval e X.env)::AJ [] X.env:=by rfl) (hplain:(C8 cpos (AJ [] X.env)).any (·.1)=false:=by rfl) :
  PE X (.Call (.Attribute o "count" apos) [e] [] cpos) (Zd X.K to te):=by
 intro pins s σ H Q I h;refine L7 hbase hfew hline rfl (thE (ho pins s σ H _ I h) fun v s1 x H1 I1 r1 q=>?_);obtain⟨p,rfl,⟨xs0,hq⟩,q⟩:=q;obtain⟨h1,h2⟩:=GC (T := "list") I1 r1 (.inl ⟨rfl,_,hq⟩);refine⟨"list","list.count",LP,PySem.F.slot_list_count,PySem.F.type_list_count,h1,h2,?_⟩;rw[hs];refine FL (by show(false||(C8 cpos (AJ [] X.env)).any (·.1))=false;rw[hplain] <;> rfl) (Gc ?_)
 refine FF (thn (he pins s1 σ H1 _ I1 q) fun u s2 ⟨y,H2,I2,r2,xs,n,hq2,hc,q3⟩=>F3 ?_);cases r1;obtain⟨its,rv,pl,hz⟩:=I2.list hq2;obtain⟨ob,nn,eo,ec,ed,es⟩:=pl;cases ob with
 | mk cls dict data slots=>
  cases ec;cases es;obtain⟨bl,b,rfl,rfl,rfl⟩:=hc;obtain rfl:u=Ap.bool b:=r2;refine Iy F.slot_list_count ⟨_,eo,rfl⟩ F.entry_list_count (F.args_list_count_2 _ _) (SeqAt.list_countAt p its.toArray nn _ _ _ (isB b)) ⟨eo,fun y hy=>?_,?_⟩
  ·have hy':y∈its:=by simpa using hy
   obtain⟨b',rfl⟩:=JC rv hy';exact C2.bool_bool b' b
  rw[show its.toArray.toList=its from rfl,KR b rv];exact⟨.int (bl.count b:Nat),H2,I2.tok _,⟨_,rfl⟩,q3⟩
theorem Wi (K:AC){apos cpos:Pos}(hu:X.A.in1.units<cLine)(ho:QE X o to)(he:QE X e te)(hK:X.K=K:=by rfl)
  (hbase:D9 o "count" X.env (eval o X.env)=eval o X.env:=by rfl)
  (hfew:((C8 cpos (AJ [e] X.env)).all (fun x=>!x.1)&&(LM cpos (HA [] X.env)).all (fun x=>x.1.isSome)
   && decide ([e].length+([]:List IJ).length+(if ([]:List IJ).isEmpty then 0 else 1)<30))=true:=by rfl)
  (hline:(apos.endLine == cpos.line)=true:=by rfl) (hs:AJ [e] X.env=(false,eval e X.env)::AJ [] X.env:=by rfl) (hplain:(C8 cpos (AJ [] X.env)).any (·.1)=false:=by rfl) :
  QE X (.Call (.Attribute o "count" apos) [e] [] cpos) (Zd K to te):=by
 subst hK;exact⟨W3 hu ho.h he.h hbase hfew hline hs hplain⟩
end
theorem vQ:D0 "ValueError" = some (.type "ValueError"):=by decide +kernel
theorem zJ:Bn "ValueError" := ⟨ψ,ψ⟩
theorem uP {K:AC}{x C dx:Addr}{fs:List (Str×V)}{c:V}{b:Bool}{H:Hp}{Q:VK}(Z:XIs K C)(hx:H x=some (XR x C (some dx)))(hd:H dx=some (.xd fs))(hk:∀u,RelV c u->E9 K (.ref C) u=some b)(q:Q (.bl b) H):abX K [.ref x,c] H Q:=
 ⟨x,c,C,dx,fs,b,rfl,hx,hd,Z,hk,q⟩
theorem tX {K:AC}{C a:Addr}{b:Bool}(h:E9 K (.ref C) (.ref a)=some b):∀u,RelV (.ref a) u->E9 K (.ref C) u=some b:=fun u r=>by
 obtain rfl:u=Ap.ref a:=r;exact h
theorem aa8 {K:AC}{C:Addr}{n:String}{b:Bool}(h:E9 K (.ref C) (.type n)=some b):∀u,RelV (.ty n) u->E9 K (.ref C) u=some b:=fun u r=>by
 obtain rfl:u=Ap.type n:=r;exact h
open Builtin
mutual
def noL:A7->Bool
 | .list _=>false
 | .tuple ds=>aci ds
 | _=>true
def aci:List A7->Bool
 | []=>true
 | d::ds=>noL d&&aci ds
end
def Fit (cs:List RowC)(p:Nat)(R:List RowC):Prop:=∀(i:Nat) c,R[i]?=some c->cs[p+i]?=some c
def abk:Pl->Bool
 | .pick _=>true
 | .tab=>true
 | _=>false
def T5 (ss:Sts)(C:List (List Nat×Pl)):List (List Nat×Pl):=(C.map fun x=>kY ss x.2 x.1).flatten
def SJ (S:List (List Nat×Pl)):Nat->Bool
 | 0=>false
 | i+1=>match S[i]? with
  | some x=>abk x.2
  | none=>false
structure AhSt (ss:Sts)(S:List (List Nat×Pl))(tot:List (Nat×Nat))(i:Nat)(C:List (List Nat×Pl))(T:List Nat)(done:List (Nat×Nat)):Prop where
 fl:S.drop i=T5 ss C
 no:SJ S i=false->T.length+1=C.length/\tot=done++Yn (C.map (·.2)) T i
 yes:SJ S i=true->T.length=C.length/\((C=[]/\tot=done)\/∃t T',T=t::T'/\tot=done++(t,i)::Yn (C.map (·.2)) T' i)
theorem flat_cons (ss:Sts)(x:List Nat×Pl)(C:List (List Nat×Pl)):T5 ss (x::C)=kY ss x.2 x.1++T5 ss C:=rfl
theorem abM.pre {a b:Sts}(h:abM (a++b)):abM a:=by
 have get:∀(i:Nat) s,a[i]?=some s->(a++b)[i]?=some s:=fun i s e=>by
  rw[GV (AF.mp e).1];exact e
 exact⟨fun i s e=>h.lh i s (get i s e),fun i s t e f=>h.nx i s t (get i s e) (get _ t f),fun i s e=>h.bd i s (get i s e)⟩
theorem Ud (xs:List V):rH xs none (some (-1))=xs.dropLast:=by
 unfold rH;have e1:HT.sIx xs.length 0 none=0:=by simp [HT.sIx]
 have e2:HT.sIx xs.length xs.length (some (-1))=xs.length-1:=by
  simp only[HT.sIx];split
  ·omega
  omega
 rw[e1,e2,List.drop_zero,Nat.sub_zero,Mk]
def RowOkC (many own:Int):RowC->Prop
 | .one _ t=>btw own many t=true
 | .rng a b t=>a<=b/\btw own many t=true
 | .low _ t=>btw own many t=true
 | .msk _ wd bits t=>(1<=wd/\wd<=64)/\(0<=bits/\bits<2^wd.toNat)/\btw own many t=true
 | .tab _ gs=>gs≠[]/\gs.all (btw own many)=true
 | .pik l=>0<=l
theorem ln1 {α:Type}{us:List α}(h:us.length=1):∃a,us=[a]:=by
 cases us with
 | nil=>cases h
 | cons a r=>
  cases r with
  | nil=>exact⟨a,rfl⟩
  | cons b r=>cases h
theorem ln2 {α:Type}{us:List α}(h:us.length=2):∃a0 a1,us=[a0,a1]:=by
 cases us with
 | nil=>cases h
 | cons a0 r=>
  obtain⟨a1,rfl⟩:=ln1 (Nat.succ.inj h);exact⟨a0,a1,rfl⟩
theorem ln3 {α:Type}{us:List α}(h:us.length=3):∃a0 a1 a2,us=[a0,a1,a2]:=by
 cases us with
 | nil=>cases h
 | cons a0 r=>
  obtain⟨a1,a2,rfl⟩:=ln2 (Nat.succ.inj h);exact⟨a0,a1,a2,rfl⟩
theorem ln4 {α:Type}{us:List α}(h:us.length=4):∃a0 a1 a2 a3,us=[a0,a1,a2,a3]:=by
 cases us with
 | nil=>cases h
 | cons a0 r=>
  obtain⟨a1,a2,a3,rfl⟩:=ln3 (Nat.succ.inj h);exact⟨a0,a1,a2,a3,rfl⟩
def tV (i:Nat):TE:=fun σ H Q=>match σ[i]? with
 | some (some x)=>Q x H
 | _=>False
theorem Zc {i:Nat}{σ:St}{H:Hp}{Q:VK}(h:tV i σ H Q):OJ i σ H Q:=by
 unfold tV at h;split at h
 ·rename_i x e;exact⟨x,e,h⟩
 exact h.elim
section
variable {X:Cx}{i:Nat}{x:Str}{pos:Pos}
theorem ao (h:Nm X.N X.env.scope i x):QE X (.Name x pos) (tV i):=⟨fun pins s σ H Q I q=>(acP h).h pins s σ H Q I (Zc q)⟩
theorem bR (i:Nat) {x:Str}{pos:Pos}(hN:X.N[i]?=some x:=by rfl) (hv:Vis X.env.scope x:=by first|exact ET rfl|exact Or.inr (ET rfl)|exact Or.inr (Or.inr rfl)) (hd:(x == ("__debug__" : Str))=false:=by decide)
  (hcd:(x == ("__classdict__" : Str))=false:=by decide):QE X (.Name x pos) (tV i):=⟨fun pins s σ H Q I q=>(acO i hN hv hd hcd).h pins s σ H Q I (Zc q)⟩
end
def atq (o:Option V)(H:Hp)(Q:VK):Prop:=∃v,o=some v/\Q v H
theorem U0 (v:V)(H:Hp)(Q:VK):atq (some v) H Q=Q v H:=propext ⟨fun⟨_,e,h⟩=>by cases e;exact h,fun h=>⟨v,rfl,h⟩⟩
theorem S5 (xs:List V)(i:Int)(H:Hp)(Q:VK):ixq (some (.lst xs)) i H Q=atq (atI xs i) H Q:=rfl
theorem SX (xs:List V)(i:Int)(H:Hp)(Q:VK):ixq (some (.tup xs)) i H Q=atq (atI xs i) H Q:=rfl
theorem abu {b:Bool}{P:Bool->Prop}:(∃k,V.bl b=V.bl k/\P k)=P b:=propext ⟨fun⟨_,e,h⟩=>by cases e;exact h,fun h=>⟨b,rfl,h⟩⟩
theorem Ys {a:Int}{P:Int->Prop}:(∃k,V.int a=V.int k/\P k)=P a:=propext ⟨fun⟨_,e,h⟩=>by cases e;exact h,fun h=>⟨a,rfl,h⟩⟩
theorem Yr {a b:Int}{P:Int->Int->Prop}:(∃i j,V.int a=V.int i/\V.int b=V.int j/\P i j)=P a b:=propext ⟨fun⟨_,_,e,f,h⟩=>by cases e;cases f;exact h,fun h=>⟨a,b,rfl,rfl,h⟩⟩
theorem Yq {a b:V}{P:V->V->Prop}:(∃i j,[a,b]=[i,j]/\P i j)=P a b:=propext ⟨fun⟨_,_,e,h⟩=>by cases e;exact h,fun h=>⟨a,b,rfl,h⟩⟩
def ry0:=AB @GZ.eq_1 (AB @vg.eq_1 (AB @tOp.eq_1 (AB @rI.eq_1 (AB @rI0.eq_1 (AB @rU.eq_1 (AB @tUn.eq_1 (AB @tC.eq_1 (AB @DG.eq_1 (AB @lG.eq_1 (AB @jo.eq_1 (AB @wG.eq_1 (AB @tCB.eq_1 (AB @tIf.eq_1 (AB @tB.eq_1 (AB @tOr.eq_1 (AB @Pj.eq_1 (AB @O3.eq_1 (AB @O4.eq_1 (AB @Lk.eq_1 (AB @vI.eq_1 (AB @jZ.eq_1 (AB @Yl.eq_1 (AB @Np (AB @Yi (AB @Ej (AB @Qu (AB @Qw (AB @Wb (AB @Vs.eq_1 (AB @Ym @abo))))))))))))))))))))))))))))))
def ry1:=AB @Qz (AB @Mh (AB @Mi (AB @V2 (AB @S5 (AB @SX (AB @Vx (AB @Xy (AB @Xx (AB S6.1 (AB S6.2.1 (AB S6.2.2 (AB @K8 (AB @U5 (AB @acz (AB @aB (AB @QJ (AB @QD (AB @abn (AB @XH (AB @SQ (AB @abg (AB @abf (AB @kc_bool (AB @ty_int (AB @abQ (AB @ty_str (AB @ZF (AB @ZD (AB @Vm (AB @Vl (AB @vJ (AB @uI (AB @sJ (AB @Bw @Ec))))))))))))))))))))))))))))))))))
def ry2:=AB @Bv (AB @zf (AB @Eb (AB @Hi (AB @Hg (AB @Ea (AB @Bu (AB @Hf (AB @DY (AB @Bs (AB @Bt (AB @zc (AB @zb (AB @wL (AB @Bool.or_false (AB @Bool.or_self (AB @JY (AB @F0 (AB @EB (AB @EL (AB @decide_true (AB @decide_false (AB @O9.eq_1 (AB @rEq.eq_1 (AB @rNe.eq_1 @Wa))))))))))))))))))))))))
def ry3:=AB @V9 (AB @Dj (AB @Z7 (AB @Z8 (AB @Z9 (AB @Z6 (AB @Xk (AB @aac (AB @acu (AB @Mg (AB @Vz (AB @O5.eq_1 (AB @U4 (AB @U3 (AB @ZQ.eq_1 (AB @wH.eq_1 (AB @Qf (AB @VF (AB @Qd (AB @Qe (AB @Oo.eq_1 (AB @Y9.eq_1 (AB @Zw.eq_1 (AB @L2.start.eq_1 (AB @F9.{0,0} (AB @map_nil.{0,0} (AB @BA.{0} (AB @KB.{0} (AB @List.cons_append.{0} (AB @nil_append.{0} (AB @HL.{0} (AB @List.replicate_zero.{0} (AB @DB.{0} (AB @EU.{0} @CB.{0})))))))))))))))))))))))))))))))))
def ry4:=AB @set_cons_zero.{0} (AB @set_cons_succ.{0} (AB @sub_self (AB @Option.some.injEq.{0} (AB @exists_eq_left'.{1} (AB @T8 (AB @Yp (AB @O2.eq_1 (AB @V.int.injEq (AB @V.str.injEq (AB @G6 (AB @G7 (AB @Bl (AB @G5 (AB @Bk (AB @XS (AB @XQ (AB @S8 (AB @V.bl.injEq (AB @V.ref.injEq (AB @List.cons.injEq.{0} (AB @and_true (AB @true_and (AB @exists_and_left.{1} (AB @exists_and_right.{1} (AB @decide_eq_true_eq (AB @Pg (AB @U8 (AB @tY (AB @wk (AB @Qp (AB @VB (AB @tSl.eq_1 (AB @Bj.eq_1 @O1.eq_1)))))))))))))))))))))))))))))))))
def ry5:=AB @V1 (AB @V6 (AB @V7 (AB @V4 (AB @V5 (AB @Tg (AB @X3 (AB @XM (AB @Vt (AB @OD (AB @Vp (AB @Te (AB @Zz (AB @Zy @Zx)))))))))))))
def ry6:=AB @U0 (AB @abu (AB @Ys (AB @Yr @Yq)))
def rdy:=AB ry0 (AB ry1 (AB ry2 (AB ry3 (AB ry4 (AB ry5 (AB ry6 @tV.eq_1))))))
theorem abw {K:AC}{h:Heap}{mg:Str->Option Ap}{x:Str}{st:Stmt}{ps:List Str}{f:Addr}{oc:Ap}{od an:Option Addr}{osl:Array (Option Ap)}{kV doc pm cdv ct:Ap}(X:K.In h)(G:h.Ns Bi mg)(a:nsIn K Bi x=some (some (.ref f)))
  (l:K.lookup f=some ⟨oc,od,.func (fnOf x x (fY st) (eG st) (aj st) .none kV doc pm an cdv ct),osl⟩) (c:codeIn K cdv x=true) (k:keepIn K (.ref f)=true)
  (hb:∀(kV doc pm:Ap)(an:Option Addr)(cdv ct:Ap)(us:List Ap),us.length=ps.length->bindArgs (fnOf x x (fY st) (eG st) (aj st) .none kV doc pm an cdv ct) ⟨us,[]⟩=pure (ps.zip us)):Om K mg x st ps f (fnOf x x (fY st) (eG st) (aj st) .none kV doc pm an cdv ct):=
 ⟨Ji (st:=st) l c k,(Ji (st:=st) l c k).binds hb,mg_of X G a⟩
end L2
set_option maxHeartbeats 4100000
namespace SRT
open PySem PyProof.Rows
def Ris (xs:Array Nat):Prop:=xs.toList.Pairwise (· < ·)
theorem Ris.lt {xs:Array Nat}(h:Ris xs){i k x y:Nat}(hx:xs[i]?=some x)(hy:xs[k]?=some y)(hik:i<k):x<y:=by
 rw[<- Ct] at hx hy;obtain⟨h1,rfl⟩:=AF.mp hx;obtain⟨h2,rfl⟩:=AF.mp hy;exact DU.mp h i k h1 h2 hik
theorem Yj {xs:Array Nat}(hr:Ris xs)(j:Nat):∀fuel lo hi,hi-lo<=fuel->lo<=hi->hi<=xs.size->(∀i x,xs[i]?=some x->i<lo->x<j)->(∀i x,xs[i]?=some x->hi<=i->j<=x) ->
  (∀i x,xs[i]?=some x->(i<AU.below.go xs j fuel lo hi↔x<j))/\AU.below.go xs j fuel lo hi<=xs.size:=by
 intro fuel
 induction fuel with
 | zero=>
  intro lo hi h1 h2 h3 h4 h5;have e:hi=lo:=ω;subst e;refine⟨fun i x hx=>⟨fun hl=>h4 i x hx hl,fun hl=>?_⟩,h3⟩;show i<hi;refine Nat.lt_of_not_le fun hle=>?_;have:=h5 i x hx hle;omega
 | succ fuel ih=>
  intro lo hi h1 h2 h3 h4 h5;show(∀i x,xs[i]?=some x->(i<(if lo<hi then if xs.getD ((lo+hi)/2) j<j then AU.below.go xs j fuel ((lo+hi)/2+1) hi else AU.below.go xs j fuel lo ((lo+hi)/2) else lo)↔x<j))/\(if lo<hi then if xs.getD ((lo+hi)/2) j<j then AU.below.go xs j fuel ((lo+hi)/2+1) hi else AU.below.go xs j fuel lo ((lo+hi)/2) else lo)<=xs.size;by_cases hl:lo<hi
  ·rw[if_pos hl];have hm:(lo+hi)/2<xs.size:=ω;have hg:xs[(lo+hi)/2]?=some xs[(lo+hi)/2]:=by simp [hm]
   have hd:xs.getD ((lo+hi)/2) j=xs[(lo+hi)/2]:=by simp [Array.getD,hm]
   rw[hd];by_cases hc:xs[(lo+hi)/2]<j
   ·rw[if_pos hc];refine ih _ _ ω ω h3 (fun i x hx hi'=>?_) h5;by_cases e:i=(lo+hi)/2
    ·subst e;rw[hg] at hx;cases hx;exact hc
    exact Nat.lt_trans (hr.lt hx hg ω) hc
   rw[if_neg hc];refine ih _ _ ω ω ω h4 (fun i x hx hi'=>?_);by_cases e:i=(lo+hi)/2
   ·subst e;rw[hg] at hx;cases hx;omega
   have:=hr.lt hg hx ω;omega
  rw[if_neg hl];have e:hi=lo:=ω;subst e;refine⟨fun i x hx=>⟨fun hl=>h4 i x hx hl,fun hl=>?_⟩,h3⟩;refine Nat.lt_of_not_le fun hle=>?_;have:=h5 i x hx hle;omega
theorem rM {xs:Array Nat}(hr:Ris xs)(j:Nat):(∀i x,xs[i]?=some x->(i<AU.below xs j↔x<j))/\AU.below xs j<=xs.size:=by
 unfold AU.below;refine Yj hr j _ _ _ ω ω (AY _) (fun _ _ _ h=>absurd h ω) fun i x hx hi=>?_;have:=(Be.mp hx).1;omega
theorem Gn {xs:Array Nat}(hr:Ris xs){j:Nat}(hn:xs[AU.below xs j]?≠some j):∀x∈xs.toList,x≠j:=by
 intro x hx e;subst e;obtain⟨i,hi,e⟩:=IZ.mp hx;have hg:xs[i]?=some x:=by rw[<- Ct,AR hi,e]
 have hs:=rM hr x;have h1:=(hs.1 i x hg);have h2:AU.below xs x<=i:=by
  refine Nat.le_of_not_lt fun h=>?_;exact Db _ (h1.mp h)
 rcases C5 (AU.below xs x) i with h|h
 ·have hi':i<xs.size:=by simpa using hi
  have hb:AU.below xs x<xs.size:=ω;have hgb:xs[AU.below xs x]?=some xs[AU.below xs x]:=by simp [hb]
  have l1:=hr.lt hgb hg h;have:=(hs.1 _ _ hgb).mpr l1;omega
 have e:AU.below xs x=i:=ω;rw[e] at hn;exact hn hg
theorem zA {α:Type}(xs:Array α)(p:Nat)(x:α):(AU.insertAt xs p x).toList=xs.toList.take p++x::xs.toList.drop p:=by
 unfold AU.insertAt;simp [KM,Ki,HZ]
theorem Hj {xs:Array Nat}(hr:Ris xs){j:Nat}(hn:xs[AU.below xs j]?≠some j):Ris (AU.insertAt xs (AU.below xs j) j):=by
 have hs:=rM hr j;have hne:=Gn hr hn;show(AU.insertAt xs (AU.below xs j) j).toList.Pairwise (· < ·);rw[zA];have hx:xs.toList.Pairwise (· < ·):=hr;rw[BQ,EO];refine⟨hx.sublist (take_sublist _ _),⟨fun y hy=>?_,hx.sublist (Kj _ _)⟩,fun a ha b hb=>?_⟩
 ·obtain⟨i,hi,e⟩:=IZ.mp hy;rw[List.getElem_drop] at e;have hl:AU.below xs j+i<xs.toList.length:=by rw[F8] at hi;omega
  have hg:xs[AU.below xs j+i]?=some y:=by rw[<- Ct,AR hl,e]
  have h1:=hs.1 _ _ hg;have h2:=hne y (List.mem_of_mem_drop hy);have:¬(y<j):=fun h=>by have:=h1.mpr h;omega
  omega
 have l1:a<j:=by
  obtain⟨i,hi,e⟩:=IZ.mp ha;rw[List.getElem_take] at e;have hl:i<AU.below xs j/\i<xs.toList.length:=by rw[D4] at hi;omega
  have hg:xs[i]?=some a:=by rw[<- Ct,AR hl.2,e]
  exact(hs.1 _ _ hg).mp hl.1
 rcases BB.mp hb with rfl|hb
 ·exact l1
 obtain⟨i,hi,e⟩:=IZ.mp hb;rw[List.getElem_drop] at e;have hl:AU.below xs j+i<xs.toList.length:=by rw[F8] at hi;omega
 have hg:xs[AU.below xs j+i]?=some b:=by rw[<- Ct,AR hl,e]
 have h1:=hs.1 _ _ hg;have:¬(b<j):=fun h=>by have:=h1.mpr h;omega
 omega
def TOk (b:Bool)(t:AU):Prop:=Ris t.place/\t.dummies=#[]/\t.led=b
theorem Lh {b:Bool}{t:AU}(h:TOk b t)(p:Bool):TOk b { t with plain:=p }:=h
theorem Ma (n:Nat):Ris (Array.range n):=by
 show(Array.range n).toList.Pairwise (· < ·);rw[Array.toList_range];exact Ll
theorem kh {b:Bool}{t:AU}(h:TOk b t)(n:Nat):TOk b (t.standIn n):=⟨Ma n,rfl,h.2.2⟩
theorem yW {b:Bool}{t:AU}(h:TOk b t)(n:Nat):TOk b (t.orStandIn n):=by
 unfold AU.orStandIn;split
 ·exact h
 exact kh h n
theorem Li (f m:Nat)(b:Bool):TOk b (AU.fresh f m b):=⟨M1.nil,rfl,rfl⟩
theorem Hu {t:AU}(hd:t.dummies=#[]){f:Nat->Int}{h:Int}(hf:∀i,(f i == h)=false):∀(fuel:Nat)(p:AU.Probe),p.dummy=none ->
  ∀m,AU.probe.go t f h fuel p=some m->∃j,m=.empty j none/\t.place[AU.below t.place j]?≠some j:=by
 intro fuel
 induction fuel with
 | zero=>intro p _ m e;exact absurd e (by simp [AU.probe.go])
 | succ fuel ih=>
  intro p hp m e;unfold AU.probe.go at e;have hnd:∀j,AU.has t.dummies j=false:=fun j=>by rw[hd];simp [AU.has]
  have hadv:∀q:AU.Probe,q.dummy=none->(t.advance q).dummy=none:=fun q hq=>by
   unfold AU.advance;split
   ·exact hq
   exact hq
  split at e
  ·rename_i hs;cases e;refine⟨p.j,by rw[hp],fun hc=>?_⟩;unfold AU.slot at hs;simp [hc] at hs
  ·rename_i hs;unfold AU.slot at hs;dsimp only at hs;split at hs
   ·cases hs
   rw[hnd] at hs;simp at hs
  rw[hf,if_neg (by simp)] at e;exact ih _ (hadv _ hp) m e
theorem Fy {t:AU}(hd:t.dummies=#[]){h:Int}{j:Nat}{b:Bool}(e:t.freeSlot h=some (j,b)):t.place[AU.below t.place j]?≠some j:=by
 unfold AU.freeSlot AU.probe at e;split at e
 ·rename_i j' d hp;obtain⟨j2,e2,hn⟩:=Hu hd (f:=fun _=>h+1) (h:=h) (fun i=>by simp;omega) _ _ rfl _ hp;cases e2;simp at e;rw[<- e.1];exact hn
 cases e
theorem Ir {b:Bool}{t:AU}(ht:TOk b t)(es:Array (Int×Ap))(h:Int)(x:Ap):TOk b (layNew t es h x).2.1:=by
 unfold layNew;split
 ·rename_i slot wd hs;have hn:=Fy ht.2.1 hs;refine yW ?_ _;unfold AU.put;refine⟨Hj ht.1 hn,?_,ht.2.2⟩;show(if AU.has t.dummies slot=true then AU.eraseAt t.dummies (AU.below t.dummies slot) else t.dummies)=#[];rw[ht.2.1];rfl
 exact kh ht _
theorem Bx {b:Bool}{t:AU}(ht:TOk b t)(es:Array (Int×Ap))(n:Nat):TOk b (relayAll t es n).2.1:=by
 unfold relayAll;split
 ·rename_i t' order hr;dsimp only;split
  ·unfold AU.relaid AU.laid at hr;cases ho:AU.layClean (AU.sizeAbove n-1) (es.map (·.1)) with
   | none=>rw[ho] at hr;cases hr
   | some owner=>
    rw[ho] at hr;simp only[Option.bind_eq_bind,bind_some,Option.pure_def,Option.some.injEq,Prod.mk.injEq] at hr;obtain⟨rfl,-⟩:=hr;refine⟨?_,rfl,ht.2.2⟩;show(LL _ _).toArray.toList.Pairwise (· < ·);rw[List.toList_toArray,GN,List.pairwise_filterMap];refine Ll.imp fun {a c} hac p hp q hq=>?_;simp only[B8] at hp hq;obtain⟨_,_,rfl⟩:=hp;obtain⟨_,_,rfl⟩:=hq;exact hac
  exact kh ht _
 exact kh ht _
end SRT
namespace SRT
open PySem PyProof.Rows
section
variable {prog:AW}{w:BC}{K:Type}[DecidableEq K]
def SetT (knd:KeyKind prog w K)(b:Bool)(h:Heap)(a:Addr)(S:K->Bool)(n:Nat):Prop:=
 ∃o es ep t,h.get? a=some o/\o.ExactSet/\o.data=.set es ep t/\(ElemsOf knd es.toList/\(∀k,S k=true ↔ ∃e∈es.toList,knd.is k e.2=true)/\es.size<HG)/\t.fits es.size=true/\es.size=n/\TOk b t
variable {knd:KeyKind prog w K}{A:A3}{E:Ap->AA->Prop}{s:AA}{b:Bool}
theorem SetT.get {h h':Heap}{a:Addr}{S:K->Bool}{n:Nat}(hS:SetT knd b h a S n)(hk:∀o,h.get? a=some o->h'.get? a=some o):SetT knd b h' a S n:=
 let ⟨o,es,ep,t,ho,r⟩:=hS;⟨o,es,ep,t,hk o ho,r⟩
theorem SetT.congr {h:Heap}{a:Addr}{S S':K->Bool}{n n':Nat}(hS:SetT knd b h a S n)(e:∀k,S k=S' k)(en:n=n'):SetT knd b h a S' n':=by
 have:S=S':=funext e;subst this;subst en;exact hS
theorem zV {h:Heap}{a:Addr}{o:Obj}{es:Array (Int×Ap)}{ep:Nat}{t:AU}(ho:h.get? a=some o)(hex:o.ExactSet)(hd:o.data=.set es ep t)
  {es':Array (Int×Ap)} {t':AU} {S':K->Bool} (hel:ElemsOf knd es'.toList/\(∀k,S' k=true ↔ ∃e∈es'.toList,knd.is k e.2=true)/\es'.size<HG) (hf:t'.fits es'.size=true) (ht:TOk b t') :
  (h.update a (Obj.putSet es' t')).get? a=some { o with data:=.set es' (ep+1) t' }/\SetT knd b (h.update a (Obj.putSet es' t')) a S' es'.size:=by
 have hg:(h.update a (Obj.putSet es' t')).get? a=some { o with data:=.set es' (ep+1) t' }:=by
  have q:=ER (Obj.putSet es' t') ho (by rw[putSet_of es' t' hd];rfl);rw[putSet_of es' t' hd] at q;exact q
 exact⟨hg,_,es',ep+1,t',hg,hex,rfl,hel,hf,rfl,ht⟩
theorem Gu {g:Bool->Sem Unit}(hg:∀(c:Bool)(s₁:AA)(Q':Unit->AA->Prop),Q' () s₁->AE (AH prog w) A (g c) Q' E s₁)
  {a:Addr} {o:Obj} {es:Array (Int×Ap)} {ep:Nat} {t:AU} (ho:s.heap.get? a=some o) (hex:o.ExactSet) (hd:o.data=.set es ep t)
  {es1:Array (Int×Ap)} {t2:AU} {S':K->Bool} (hel:ElemsOf knd es1.toList/\(∀k,S' k=true ↔ ∃e∈es1.toList,knd.is k e.2=true)/\es1.size<HG)
  (hf:t2.fits es1.size=true) (ht:TOk b t2) {wd:Bool} {R:Option Bool->AA->Prop}
  (h:∀h',C3 a s.heap h'->SetT knd b h' a S' es1.size->R (some true) { s with heap:=h' }) :
  AE (AH prog w) A (storeSet a es1 t2 >>= fun _=>if (!wd&&t2.tooFull)=true then (g (relayAll t2 es1 (AU.grown es1.size)).2.2 >>= fun _=>storeSet a (relayAll t2 es1 (AU.grown es1.size)).1 (relayAll t2 es1 (AU.grown es1.size)).2.1 >>= fun _=>pure (some true)) else pure (some true)) R E s:=by
 refine An (wpAny_storeSet_of ho hd ?_ (fits_of_scanBound hel.2.2));obtain⟨ho1,hS1⟩:=zV (knd:=knd) ho hex hd hel hf ht;have hsb1:=C3.update s.heap a (Obj.putSet es1 t2);by_cases hc:(!wd&&t2.tooFull)=true
 ·rw[if_pos hc];have hp:=relayAll_perm t2 es1 (AU.grown es1.size);have hfr:=relayAll_fits t2 es1 (AU.grown es1.size);have htr:=Bx ht es1 (AU.grown es1.size);generalize relayAll t2 es1 (AU.grown es1.size)=Rl at hp hfr htr |-;obtain⟨es2,t3,gv⟩:=Rl;dsimp only at hp hfr htr |-;have hsz:es2.size=es1.size:=by rw[<- CC,hp.length_eq,CC]
  have hel2:ElemsOf knd es2.toList/\(∀k,S' k=true ↔ ∃e∈es2.toList,knd.is k e.2=true)/\es2.size<HG:=
   ⟨hel.1.perm hp,fun k=>(hel.2.1 k).trans ⟨fun⟨e,he,q⟩=>⟨e,hp.mem_iff.mpr he,q⟩,fun⟨e,he,q⟩=>⟨e,hp.mem_iff.mp he,q⟩⟩,by rw[hsz];exact hel.2.2⟩
  refine An (hg _ _ _ (An (wpAny_storeSet_of ho1 rfl ?_ (fits_of_scanBound hel2.2.2))));obtain⟨_,hS2⟩:=zV (knd:=knd) ho1 hex rfl hel2 hfr htr;rw[hsz] at hS2;exact Au (h _ (hsb1.trans (C3.update _ a _)) hS2)
 rw[if_neg hc];exact Au (h _ hsb1 hS1)
theorem Qc {a:Addr}{S:K->Bool}{n:Nat}{k:K}{x:Ap}{Q:Bool->AA->Prop}(hkey:knd.is k x=true)(hsc:x.scannable=true)(hS:SetT knd b s.heap a S n)(hroom:n+1<HG)
  (h:∀h',C3 a s.heap h'->SetT knd b h' a (fun k'=>S k'||decide (k'=k)) (if S k then n else n+1)->Q (!S k) { s with heap:=h' }) :
  AE (AH prog w) A (setAddHashed a x (knd.hash k)) Q E s:=by
 obtain⟨o,es,ep,t,ho,hex,hd,hel,hf,hn,ht⟩:=hS;unfold setAddHashed setAddHashedIn;refine BI (An (wpAny_setState_of ho hd hf ?_));dsimp only;rw[byScan_of hsc hel.2.2 hel.1,if_pos rfl];unfold setAddByScan;refine An (An (De (An (wpAny_setScan_of hkey ho hd hf hel.1 ?_))));cases hr:List.findIdx? (fun e=>knd.is k e.2) es.toList with
 | some j=>
  dsimp only;obtain⟨hj,hpj,_⟩:=List.findIdx?_eq_some_iff_getElem.mp hr;have hSk:S k=true:=(hel.2.1 k).mpr ⟨es.toList[j],ME hj,hpj⟩;refine Au (Au ?_);have q:=h s.heap (C3.refl a s.heap) ⟨o,es,ep,t,ho,hex,hd,⟨hel.1,fun k'=>by
   rw[Bool.or_eq_true,decide_eq_true_eq,<- hel.2.1 k'];exact⟨fun hk=>hk.elim id (fun e=>e ▸ hSk),.inl⟩,hel.2.2⟩,hf,by rw[hSk];exact hn,ht⟩
  rw[hSk] at q;exact q
 | none=>
  dsimp only;have hSk:S k=false:=by
   cases hk:S k with
   | false=>rfl
   | true=>
    obtain⟨e,he,hp⟩:=(hel.2.1 k).mp hk;have q:=List.findIdx?_eq_none_iff.mp hr e he;rw[hp] at q;exact Bool.noConfusion q
  have hgw:∀(c:Bool){s₁:AA}{Q':Unit->AA->Prop},Q' () s₁->AE (AH prog w) A (match c with|true=>rule "set.scan.the-table-gave-way" | false=>pure ()) Q' E s₁:=
   fun c s₁ Q' hq=>by cases c <;> first|exact Au hq|exact De hq
  have hperm:=layNew_perm t es (knd.hash k) x;have hfits:=layNew_fits t es (knd.hash k) x;have htok:=Ir ht es (knd.hash k) x;generalize layNew t es (knd.hash k) x=L at hperm hfits htok |-;obtain⟨es1,t1,wd,gv⟩:=L;dsimp only at hperm hfits htok |-;rw[ED] at hperm;have hsz1:es1.size=n+1:=by rw[<- CC,hperm.length_eq,AO,CC,hn];rfl
  have hel1:ElemsOf knd es1.toList/\(∀k',(S k'||decide (k'=k))=true ↔ ∃e∈es1.toList,knd.is k' e.2=true)/\es1.size<HG:=
   ⟨(hel.1.push hkey hsc).perm hperm,mem_push_iff hkey hel.2.1 hperm,by rw[hsz1];exact hroom⟩
  have hend:∀h',C3 a s.heap h'->SetT knd b h' a (fun k'=>S k'||decide (k'=k)) es1.size->Q true { s with heap:=h' }:=by
   intro h' hsb hS';have q:=h h' hsb;rw[hSk] at q;rw[hsz1] at hS';exact q hS'
  refine An (hgw _ ?_);by_cases hpl:t1.plain=true
  ·rw[if_pos hpl,hashByValue_scannable 8 hsc];refine An (Au ?_);refine Gu (b:=b) ?_ ho hex hd hel1 (t2:=if plainKind x=true then t1 else { t1 with plain:=false }) ?_ ?_ ?_
   ·intro c s₁ Q' hq;cases c <;> first|exact Au hq|exact De hq
   ·split
    ·exact hfits
    exact AU.fits_plain_off hfits
   ·split
    ·exact htok
    exact Lh htok false
   intro h' hsb hS';dsimp only;exact Au (hend h' hsb hS')
  rw[if_neg hpl];refine An (Au ?_);refine Gu (b:=b) ?_ ho hex hd hel1 hfits htok ?_
  ·intro c s₁ Q' hq;cases c <;> first|exact Au hq|exact De hq
  intro h' hsb hS';dsimp only;exact Au (hend h' hsb hS')
end
end SRT
namespace SRT
open PySem PyProof.Rows
abbrev bt (w:BC):Bool:=w.params.followText "set-order"
section
variable {prog:AW}{w:BC}{A:A3}{R:Result->AA->Prop}{I:Addr}{fp wr:List Addr}{G:Array HI->Array HI->Prop}{n:Nat}{P:Nat->Ap->Prop}{St:Nat->AA->Prop}{b:Bool}
theorem Ot (W:WalksS prog w A.in1 I fp wr G n P St)(S:Addr)(hSf:S∉fp)(val:Nat->Int)(hval:∀i v,P i v->∃t,v=.int (val i) t)(hb:n+1<HG) :
  ∀(k i:Nat)(s:AA),n-i=k->i<=n->St i s->SetT (IE prog w) b s.heap S (fun k'=>(FV val i).any (· == k')) (FV val i).length ->
   (∀s',Moved (S::wr) G s s'->SetT (IE prog w) b s'.heap S (fun k'=>(FV val n).any (· == k')) (FV val n).length->R (.ok (.ret .none)) s') ->
   FG (AH prog w) A (.builtin "set.update.loop" ⟨[.ref S,.ref I],[]⟩) R s:=by
 have hSw:S∉wr:=fun h=>hSf (W.sub _ h);have hsub:∀c∈wr,c∈S::wr:=fun c hc=>A4 _ hc;intro k
 induction k with
 | zero=>
  intro i s hk hi hst hS hR;have hin:i=n:=ω;subst hin;refine Ha F.entry_set_update_loop ?_;rw[A3.under_plainId LU _];show AE _ A.in1 (F5 (.ref I) >>= _) _ _ s;refine An (W.done s _ _ hst fun s' hm=>?_);show AE _ A.in1 (ret Ap.none) _ _ s';exact Au (hR s' (hm.mono hsub) (hS.get fun o e=>hm.heap S _ hSw e))
 | succ k ih=>
  intro i s hk hi hst hS hR;have hlt:i<n:=ω;refine Ha F.entry_set_update_loop ?_;rw[A3.under_plainId LU _];show AE _ A.in1 (F5 (.ref I) >>= _) _ _ s;refine An (W.item i s _ _ hlt hst fun v s' hP hst' hm=>?_);obtain⟨t,rfl⟩:=hval i v hP;have hS':=hS.get fun o e=>hm.heap S _ hSw e;show AE _ A.in1 (Fc [Ap.int (val i) t] (setAdd S (.int (val i) t)) >>= _) _ _ s';refine An (BI ?_);unfold setAdd;refine BI (An ((IE prog w).pyHash (k:=val i) (intKind_is _ _ _ _) ?_));have hroom:(FV val i).length+1<HG:=by have:=firstMet_length_le val i;omega
  refine Qc (knd:=IE prog w) (s:={ s' with toks:=s'.toks+1 }) (intKind_is _ _ _ _) rfl hS' hroom fun h' hsb hS2=>?_;have hSi:SetT (IE prog w) b h' S (fun k'=>(FV val (i+1)).any (· == k')) (FV val (i+1)).length:=
   hS2.congr (fun k'=>by rw[firstMet_succ,step_any]) (by rw[firstMet_succ,step_length])
  refine Au ⟨M3 LU _,ih (i+1) _ ω hlt (W.frame _ s' _ _ hst' (MV _) fun c hc o e=>?_) hSi fun s'' hm'' hS''=>?_⟩
  ·rw[hsb.2 c (fun h:c=S=>hSf (by rw[<- h];exact hc))];exact e
  refine hR s'' (Moved.trans W.gtrans ((hm.mono hsub).then_heap (MV _) fun c o hc e=>?_) hm'') hS'';rw[hsb.2 c (fun h:c=S=>hc (by rw[h];exact BE))];exact e
end
abbrev za (w:BC):Obj:={ cls:=.type "set",dict:=none,data:=.set #[] 0 (.fresh 0 0 (!bt w)) }
section
variable {prog:AW}{w:BC}{A:A3}{E:Ap->AA->Prop}{s:AA}
theorem Nx (a:Ap){Q₁:Ap->AA->Prop}(h:Q₁ (.ref s.heap.objs.size) { s with heap:=s.heap.push (za w) }) :
  FG (AH prog w) A (.call (.builtin "set.__new__") ⟨[.type "set",a],[]⟩) (wants Q₁ E) s:=by
 refine Md (show AE _ A.in1 (checkBuiltinCall "set.__new__" ⟨[.type "set",a],[]⟩ >>= fun _=>LH (.builtin "set.__new__" ⟨[.type "set",a],[]⟩)) _ _ s from ?_);refine An (Lm (F.newCall_set_1 a) (Au ⟨M3 F.plain_set_new _,Ha F.entry_set_new ?_⟩));rw[A3.under_plainId F.plain_set_new _];unfold AX.«set.__new__» AX.Frozenset.newClass;have hsub:=sub_set_self;obtain⟨hp,g,d,tk,os⟩:=s;dsimp only
 wp_walk
 refine Fs (Au ?_);dsimp only;simp only[newObj];exact An (wpAny_alloc (Au (Au h)))
set_option maxHeartbeats 3200000 in
theorem NK {l:Addr}{items:Array Ap}{ns:List Int}{Q:Ap->AA->Prop}(hh:A.handled=none)(hl:s.heap.IsList l items)(hi:D5 items.toList ns)(hb:items.size+1<HG)
  (h:∀(h':Heap)(tk:Nat),SetT (IE prog w) (!bt w) h' s.heap.objs.size (fun k'=>(FV (fun i=>ns.getD i 0) items.size).any (· == k')) (FV (fun i=>ns.getD i 0) items.size).length ->
   (∀c o,c<s.heap.objs.size->s.heap.get? c=some o->h'.get? c=some o)->Q (.ref s.heap.objs.size) { s with heap:=h',toks:=tk }) :
  AE (AH prog w) A (call (.type "set") [.ref l]) Q E s:=by
 obtain⟨c,tl,hmro⟩:=GO.mro;have hmade:=GO.made;have hsub:=GO.sub;refine Hb (Md (show AE _ _ (callAny (.type "set") _) _ _ _ from Au ⟨Code.quiet_builtin _ ψ,Ha F.entry_type_call ?_⟩));rw[A3.under_plain (weight_type_call_type "set" [.ref l] []) rfl];have h1:=GO.notType;have h2:=GO.canCreate;have hct:=F.typeCall_set_1 (.ref l)
 repeat (any_goals (first|assumption|wp_step))
 refine HK (Nx (.ref l) (E:=E) (Q₁:=fun obj s₁=>obj=.ref s.heap.objs.size/\s₁={ s with heap:=s.heap.push (za w) }) ⟨rfl,rfl⟩) fun r s₁ hr=>?_;cases r with
 | error e=>exact hr
 | ok fl=>
  cases fl with
  | ret obj=>
   obtain⟨rfl,rfl⟩:=hr;have hS:(s.heap.push (za w)).get? s.heap.objs.size=some (za w):=A8 _ rfl;have hT:AA.TypeIs { s with heap:=s.heap.push (za w) } (.ref s.heap.objs.size) "set" := ⟨_,hS,rfl⟩;have hli:=GO.init.lookup;have hbi:=GO.init.bind (.ref s.heap.objs.size)
   repeat (any_goals (first|assumption|wp_step))
   refine HK (E6 (R:=wants (fun r s₂=>r=.none/\∃h' tk,s₂={ s with heap:=h',toks:=tk } /\
     SetT (IE prog w) (!bt w) h' s.heap.objs.size (fun k'=>(FV (fun i=>ns.getD i 0) items.size).any (· == k')) (FV (fun i=>ns.getD i 0) items.size).length /\
     (∀c o,c<s.heap.objs.size->s.heap.get? c=some o->h'.get? c=some o)) E) GO.init.plain F.entry_set_init (check_set_init_1 hT ?_)) fun r₂ s₂ hr₂=>?_
   ·obtain⟨ol,hol,hcl,nl,hdl⟩:=hl;obtain⟨ocls,odict,odata,oslots⟩:=ol;simp only at hcl hdl;subst hcl;subst hdl;have hol':(s.heap.push (za w)).get? l=some { cls:=.type "list",dict:=odict,data:=.seq items nl,slots:=oslots }:=AD _ hol;have hsls:=F.sub_list_set;have hslf:=F.sub_list_frozenset;have hne:(Ap.type "list" == Ap.type "dict")=false:=by decide
    have hl1:(s.heap.push (za w)).IsList l items:=⟨_,hol',rfl,nl,rfl⟩;unfold AX.«set.__init__» noKeywords AX.Frozenset.updateFrom;generalize hPI:pyIter=PI
    wp_walk
    subst hPI;refine HQ hl1 (An (wpAny_runValue ?_));have hlS:l<s.heap.objs.size:=AZ hol;have hh3:A.in1.in1.in1.handled=none:=by simp [hh]
    have hneI:l≠(s.heap.push (za w)).objs.size:=by
     rw[D7];exact B4 (EN hlS)
    have hSf:s.heap.objs.size∉[(s.heap.push (za w)).objs.size,l]:=by
     rw[D7];simp only[BB,AK,Cs,or_false,not_or];exact⟨B4 (EK _),ne_of_gt hlS⟩
    have hval:∀(i:Nat)(v:Ap),items[i]?=some v->∃t,v=.int ((fun i=>ns.getD i 0) i) t:=fun i v hv=>D5.int_at hi i v (by rw[Ct];exact hv);refine Ot (b:=!bt w) ((Walks.list hh3 _ l hneI items).toS) s.heap.objs.size hSf (fun i=>ns.getD i 0) hval hb (items.size-0) 0 _ ω (D2 _)
     ⟨⟨_,A8 _ rfl,rfl,rfl⟩,(hl1.push _)⟩ ?hS0 ?hR
    case hS0=>exact⟨_,#[],0,_,AD _ hS,⟨rfl,rfl,rfl⟩,rfl,⟨fun e he=>by simp at he,fun k=>by simp [firstMet_zero],δ⟩,by rfl,rfl,Li _ _ _⟩
    case hR=>
     intro s' hm hS';obtain⟨h',g',d',tk',os'⟩:=s';have eg:g'=s.gens:=hm.gens;have ed:d'=s.drawn:=hm.drawn;have eo:os'=s.os:=hm.os;subst eg;subst ed;subst eo;show AE _ _ _ _ _ _;refine Au (show AE _ _ (ret Ap.none) _ _ _ from Au ⟨rfl,h',tk',rfl,hS',fun c o hc e=>?_⟩);have hc1:c≠s.heap.objs.size:=B4 hc;have hc2:c≠(s.heap.push (za w)).objs.size:=by
      rw[D7];exact B4 (EN hc)
     exact hm.heap c o (by simp only[BB,AK,Cs,or_false,not_or];exact⟨hc1,hc2⟩) (AD _ (AD _ e))
   cases r₂ with
   | error e=>exact hr₂
   | ok fl₂=>
    cases fl₂ with
    | ret r=>
     obtain⟨rfl,h',tk,rfl,hS',hk'⟩:=hr₂
     repeat (any_goals (first|assumption|wp_step))
     exact h _ _ hS' hk'
    | _=>exact hr₂.elim
  | _=>exact hr.elim
end
end SRT
namespace SRT
open PySem PyProof.Rows
theorem qU {α:Type}:∀{l:List α}{i:Nat}(h:i<l.length),(l[i]::l.eraseIdx i).Perm l
 | x::l,0,_=>CD.refl _
 | x::l,i+1,h=>by
  have h':i<l.length:=by simpa using h
  show(l[i]::x::l.eraseIdx i).Perm (x::l);exact(CD.swap _ _ _).trans (CD.cons _ (qU h'))
section
variable {prog:AW}{w:BC}{A:A3}{E:Ap->AA->Prop}
theorem wp_choose {s:AA}{src:Source}{n:Nat}{Q:Nat->AA->Prop}(hn:n≠0)(h:∀k d,k<n->Q k { s with drawn:=d }):AE (AH prog w) A (choose src n) Q E s:=
 fun _ _ _=>⟨hn,h _ _ (mod_lt _ (Nat.pos_of_ne_zero hn))⟩
theorem Yt {α:Type}:∀(n:Nat)(xs:List α)(s:AA){Q:List α->AA->Prop},xs.length=n->(∀ys d,ys.Perm xs->Q ys { s with drawn:=d })->AE (AH prog w) A (drawOrder n xs) Q E s:=by
 intro n
 induction n with
 | zero=>
  intro xs s Q hl h;have e:xs=[]:=KE.mp hl;subst e;exact Au (h [] s.drawn (CD.refl _))
 | succ n ih=>
  intro xs s Q hl h;cases xs with
  | nil=>cases hl
  | cons x xs=>
   unfold drawOrder;refine An (wp_choose (by simp) fun i d hi=>?_);have hg:(x::xs)[i]?=some (x::xs)[i]:=AR hi;rw[hg];dsimp only;refine An (ih _ _ (by rw[List.length_eraseIdx,if_pos hi];simpa using hl) fun ys d' hp=>Au (h _ d' ?_));exact(CD.cons _ hp).trans (qU hi)
end
theorem WK {α:Type}(next:Nat->Nat):∀(fuel k:Nat)(left:List α)(out:Array α),left.length=fuel->(Kk.go next fuel k left out).toList.Perm (out.toList++left):=by
 intro fuel
 induction fuel with
 | zero=>
  intro k left out hl;have e:left=[]:=KE.mp hl;subst e;show out.toList.Perm _;rw[DB]
 | succ fuel ih=>
  intro k left out hl;unfold Kk.go;have hi:next k%left.length<left.length:=mod_lt _ ω;rw[AR hi];dsimp only;refine(ih (k+1) _ _ (by rw[List.length_eraseIdx,if_pos hi];omega)).trans ?_;rw[ED,FK];exact CD.append_left _ (qU hi)
theorem Ms {α:Type}(next:Nat->Nat)(xs:Array α):(Kk next xs).toList.Perm xs.toList:=by
 have:=WK next xs.size 0 xs.toList #[] (by simp);simpa [Kk] using this
def iJ (h:Heap)(S:Addr)(es:Array (Int×Ap))(ep:Nat)(t:AU):Prop:=∃o,h.get? S=some o/\o.ExactSet/\o.data=.set es ep t
def fL (h:Heap)(I:Addr)(first:Ap)(i:Nat)(S:Addr)(n ep:Nat):Prop:=
 h.get? I=some { cls:=.type "set_iterator",dict:=none,data:=.fields #[first,.int i 0,.ref S,.int n 0,.int ep 0],slots:=#[] }
theorem iJ.get {h h':Heap}{S:Addr}{es:Array (Int×Ap)}{ep:Nat}{t:AU}(hS:iJ h S es ep t)(hk:∀o,h.get? S=some o->h'.get? S=some o):iJ h' S es ep t:=
 let ⟨o,ho,r⟩:=hS;⟨o,hk o ho,r⟩
section
variable {prog:AW}{w:BC}{A:A3}{E:Ap->AA->Prop}{s:AA}{S:Addr}{es:Array (Int×Ap)}{ep:Nat}{t:AU}
theorem nP {Q:(Array (Int×Ap)×Nat×AU)->AA->Prop}(hS:iJ s.heap S es ep t)(hf:t.fits es.size=true)(h:Q (es,ep,t) s):AE (AH prog w) A (setState S) Q E s:=
 let ⟨_,ho,_,hd⟩:=hS;wpAny_setState_of ho hd hf h
theorem below_at {xs:Array Nat}(hr:Ris xs){i:Nat}(hi:i<=xs.size):AU.below xs (if i=0 then 0 else xs.getD (i-1) 0+1)=i:=by
 have hs:=rM hr (if i=0 then 0 else xs.getD (i-1) 0+1);generalize hb:AU.below xs (if i=0 then 0 else xs.getD (i-1) 0+1)=b at hs;by_cases h0:i=0
 ·subst h0;simp only[↓reduceIte] at hs;rcases Nat.eq_zero_or_pos b with h|h
  ·exact h
  have hl:0<xs.size:=ω;have hg:xs[0]?=some xs[0]:=by simp [hl]
  have:=(hs.1 0 _ hg).mp h;omega
 rw[if_neg h0] at hs;have hl:i-1<xs.size:=ω;have hg:xs[i-1]?=some xs[i-1]:=by simp [hl]
 have hd:xs.getD (i-1) 0=xs[i-1]:=by simp [Array.getD,hl]
 rw[hd] at hs;have h1:i-1<b:=(hs.1 _ _ hg).mpr ω;rcases C5 i b with h|h
 ·have hl2:i<xs.size:=ω;have hg2:xs[i]?=some xs[i]:=by simp [hl2]
  have h2:=(hs.1 _ _ hg2).mp h;have h3:=hr.lt hg hg2 ω;omega
 omega
theorem Xj (hf:t.fits es.size=true)(ht:TOk (!bt w) t)(hd:bt w=true\/(!t.plain&&decide (es.size>1))=false) :
  ∃(vs:List Ap)(sl:Nat->Nat),sl 0=0/\vs.Perm (es.toList.map (·.2))/\∀(i:Nat)(s:AA)(A:A3)(E:Ap->AA->Prop)(Q:Option (Ap×Nat)->AA->Prop),i<=vs.length->iJ s.heap S es ep t ->
   Q (vs[i]?.map fun x=>(x,sl (i+1))) s->AE (AH prog w) A (setNext S (sl i) i ep) Q E s:=by
 by_cases hb:bt w=true
 ·refine⟨(Kk (w.params.setOrder S ep) es).toList.map (·.2),fun _=>0,rfl,(Ms _ es).map _,fun i s A E Q hi hS h=>?_⟩;unfold setNext;refine An (nP hS hf ?_);dsimp only;unfold setsByText;refine An (An (Fs (Au ?_)));show AE _ _ (if bt w=true then _ else _) _ _ _;rw[if_pos hb,if_neg (by simp)];unfold setWalk;refine An (An (nP hS hf ?_));dsimp only;unfold setsByText;refine An (An (Fs (Au ?_)));show AE _ _ (if bt w=true then _ else _) _ _ _;rw[if_pos hb];refine An (Fs (Au (Au ?_)));have e:((Kk (w.params.setOrder S ep) es)[i]?).map (fun e=>(e.2,0))=(((Kk (w.params.setOrder S ep) es).toList.map (·.2))[i]?).map fun x=>(x,0):=by
   rw[BH,Option.map_map,Ct];rfl
  show Q (((Kk (w.params.setOrder S ep) es)[i]?).map (fun e=>(e.2,0))) s;rw[e];exact h
 have hb':bt w=false:=by simpa using hb
 have hdr:=hd.resolve_left hb;have hps:t.place.size=es.size:=by
  have:=hf;unfold AU.fits at this;simp only[C1,beq_iff_eq] at this;exact this.1
 refine⟨es.toList.map (·.2),fun i=>if i=0 then 0 else t.place.getD (i-1) 0+1,rfl,CD.refl _,fun i s A E Q hi hS h=>?_⟩;unfold setNext;refine An (nP hS hf ?_);dsimp only;unfold setsByText;refine An (An (Fs (Au ?_)));show AE _ _ (if bt w=true then _ else _) _ _ _;rw[if_neg hb];show AE _ _ (if (!t.plain&&decide (es.size>1))=true then _ else _) _ _ _;rw[if_neg (by rw[hdr];simp)];refine An ?_;show AE _ _ (if (!t.led && !es.isEmpty)=true then _ else _) _ _ _;have hled:t.led=true:=by rw[ht.2.2,hb'];rfl
 rw[if_neg (by rw[hled];simp)];refine Au (Au ?_);have hi':i<=es.size:=by simpa using hi
 rw[below_at ht.1 (by rw[hps];exact hi')];rcases C5 i es.size with hlt|hge
 ·have g1:es[i]?=some es[i]:=by simp [hlt]
  have g2:t.place[i]?=some t.place[i]:=by simp [hps,hlt]
  have g3:(es.toList.map (·.2))[i]?=some es[i].2:=by rw[BH,Ct,g1];rfl
  rw[g1,g2];rw[g3] at h;have g4:t.place.getD i 0=t.place[i]'(by rw[hps];exact hlt):=by simp [Array.getD,hps,hlt]
  simp only[Option.map_some,Nat.add_one_ne_zero,if_false,ML,g4] at h;exact h
 have g1:es[i]?=none:=by simp [hge]
 have g3:(es.toList.map (·.2))[i]?=none:=by rw[BH,Ct,g1];rfl
 rw[g1];rw[g3] at h;exact h
end
end SRT
namespace SRT
open PySem PyProof.Rows
theorem FP:entryFor table "set.__iter__" = some AX.«frozenset.__iter__»:=entryFor_alias (id' := "frozenset.__iter__") (by kernel_rfl) rfl ψ (by kernel_rfl)
theorem cY:Slot "set_iterator" "__next__" "set_iterator.__next__" :=
 .of (owner := "set_iterator") (n := "__next__") (by rw[typeLookup_type,builtinLookup_eq_fast];kernel_rfl) ψ ψ ψ (by first|exact .inl ψ|exact .inr ψ) (by rw[isSubtype_type];kernel_rfl)
theorem wJ:Slot "set_iterator" "__iter__" "set_iterator.__iter__" :=
 .of (owner := "set_iterator") (n := "__iter__") (by rw[typeLookup_type,builtinLookup_eq_fast];kernel_rfl) ψ ψ ψ (by first|exact .inl ψ|exact .inr ψ) (by rw[isSubtype_type];kernel_rfl)
theorem kW:entryFor table "set_iterator.__next__" = some AX.«set_iterator.__next__»:=entryFor_of_tree (by kernel_rfl)
theorem FN:entryFor table "set_iterator.__iter__" = some AX.«dict_keyiterator.__iter__»:=entryFor_alias (id' := "dict_keyiterator.__iter__") (by kernel_rfl) rfl ψ (by kernel_rfl)
theorem m9 (a:Ap):argsOk "set_iterator.__next__" ⟨[a],[]⟩:=by unfold argsOk;kernel_rfl
theorem Jv (a:Ap):argsOk "set_iterator.__iter__" ⟨[a],[]⟩:=by unfold argsOk;kernel_rfl
section
variable {prog:AW}{w:BC}{A:A3}{E:Ap->AA->Prop}{s:AA}{S I:Addr}{es:Array (Int×Ap)}{ep:Nat}{t:AU}
theorem fL.ty {h:AA}{first:Ap}{i n:Nat}(hI:fL h.heap I first i S n ep):h.TypeIs (.ref I) "set_iterator" := ⟨_,hI,rfl⟩
theorem fL.get {h h':Heap}{first:Ap}{i n:Nat}(hI:fL h I first i S n ep)(hk:∀o,h.get? I=some o->h'.get? I=some o):fL h' I first i S n ep:=hk _ hI
theorem j4 {Q:Array (Int×Ap)->AA->Prop}(hS:iJ s.heap S es ep t)(hf:t.fits es.size=true)(h:Q es s):AE (AH prog w) A (setEntries S) Q E s:=
 let ⟨_,ho,_,hd⟩:=hS;wpAny_setEntries_of ho hd hf h
theorem FJ {Q:Nat->AA->Prop}(hS:iJ s.heap S es ep t)(hf:t.fits es.size=true)(h:Q ep s):AE (AH prog w) A (setEpoch S) Q E s:=
 let ⟨_,ho,_,hd⟩:=hS;wpAny_setEpoch_of ho hd hf h
theorem JH (hh:A.handled=none) {s:AA}{P:Fin->AA->Prop}{E':Ap->AA->Prop}(h:∀(h':Heap)(e:Ap),(∀c o,s.heap.get? c=some o->h'.get? c=some o)->AA.TypeIs { s with heap:=h' } e "StopIteration" -> E' e { s with heap:=h' }) :
  AE (AH prog w) A (newExc (.type "StopIteration") [] >>= fun e=>(raiseNew e:Sem Fin)) P E' s:=by
 refine An ?_;simp only[newExc,newTuple];refine An (BM (An (m:=firstArgMember _ _) (Lm (a:=Ap.none) (by first|rfl|(simp only[firstArgMember];rfl)) ?_)) (by size_fits))
 refine BM ?_ (by size_fits);simp only[raiseNew];refine An (wpAny_handled ?_);rw[hh];refine An (Au (wpAny_throw (h _ (.ref _) (fun c o e=>AD _ (AD _ e)) ⟨_,A8 _ rfl,rfl⟩)))
theorem next_item {n i:Nat}{first:Nat}{v:Ap}{sl:Nat}{Q:Option Ap->AA->Prop}(hI:fL s.heap I (.int first 0) i S es.size ep)(hS:iJ s.heap S es ep t)(hf:t.fits es.size=true)
  (hn:∀(s:AA)(A:A3)(E:Ap->AA->Prop)(Q:Option (Ap×Nat)->AA->Prop),iJ s.heap S es ep t->Q (some (v,sl)) s->AE (AH prog w) A (setNext S first i ep) Q E s)
  (hne:S≠I) (hQ:∀h',fL h' I (.int sl 0) (i+1) S es.size ep->C3 I s.heap h'->Q (some v) { s with heap:=h' }):AE (AH prog w) A (F5 (.ref I)) Q E s:=by
 unfold F5;refine An (DZ (CS (name:=FH "__next__") hI.ty cY (CU cY hI.ty kW ?_ (m9 _))));show AE _ _ (fieldsOf (.ref I) >>= _) _ _ s;refine An (MM hI rfl ?_);refine An (j4 hS hf ?_);rw[if_neg (by simp)];dsimp only;refine An (hn s _ _ _ hS ?_);dsimp only;refine An (B0 hI (by simp) fun h1 g1 b1=>?_);refine An (B0 (s:={ s with heap:=h1 }) g1 (by simp) fun h2 g2 b2=>?_);exact Au ⟨_,rfl,Au (hQ h2 g2 (b1.trans b2))⟩
end
end SRT
namespace SRT
open PySem PyProof.Rows
section
variable {prog:AW}{w:BC}{A:A3}{E:Ap->AA->Prop}{s:AA}{S I T:Addr}{es:Array (Int×Ap)}{ep:Nat}{t:AU}
theorem Ed {a:Addr}{h h' h'':Heap}(b:C3 a h h')(k:∀c o,h'.get? c=some o->h''.get? c=some o)(c:Addr)(o:Obj)(hc:c≠a)(e:h.get? c=some o):h''.get? c=some o:=k c o (b.extBut c o hc e)
theorem next_end {i first:Nat}{Q:Option Ap->AA->Prop}(hh:A.handled=none)(hI:fL s.heap I (.int first 0) i S es.size ep)(hS:iJ s.heap S es ep t)(hf:t.fits es.size=true)
  (hn:∀(s:AA)(A:A3)(E:Ap->AA->Prop)(Q:Option (Ap×Nat)->AA->Prop),iJ s.heap S es ep t->Q none s->AE (AH prog w) A (setNext S first i ep) Q E s)
  (hQ:∀h',(∀c o,c≠I->s.heap.get? c=some o->h'.get? c=some o)->Q none { s with heap:=h' }):AE (AH prog w) A (F5 (.ref I)) Q E s:=by
 unfold F5;refine An (DZ (CS (name:=FH "__next__") hI.ty cY (CU cY hI.ty kW ?_ (m9 _))));show AE _ _ (fieldsOf (.ref I) >>= _) _ _ s;refine An (MM hI rfl (An (j4 hS hf ?_)));rw[if_neg (by simp)];dsimp only;refine An (hn s _ _ _ hS ?_);dsimp only;refine An (B0 hI (by simp) fun h1 g1 b1=>?_);refine JH (s:={ s with heap:=h1 }) (by simpa using hh) fun h2 e k2 ty=>An (LS ty isSubtype_stop (Au (hQ h2 fun c o hc x=>Ed b1 k2 c o hc x)))
def TupAt (h:Heap) (T:Addr) (ds:List Nat):Prop:=h.get? T=some { cls:=.type "tuple",data:=.seq (ds.map fun(i:Nat)=>Fh i).toArray }
theorem Jj {i d:Nat}{ds:List Nat}{v:Ap}{Q:Option Ap->AA->Prop}(hI:fL s.heap I (.ref T) i S es.size ep)(hS:iJ s.heap S es ep t)(hT:TupAt s.heap T ds)(hf:t.fits es.size=true)
  (hd:ds[i]?=some d) (hv:(es[d]?).map (·.2)=some v) (hne:S≠I)
  (hQ:∀h',fL h' I (.ref T) (i+1) S es.size ep->C3 I s.heap h'->Q (some v) { s with heap:=h' }):AE (AH prog w) A (F5 (.ref I)) Q E s:=by
 unfold F5;refine An (DZ (CS (name:=FH "__next__") hI.ty cY (CU cY hI.ty kW ?_ (m9 _))));show AE _ _ (fieldsOf (.ref I) >>= _) _ _ s;refine An (MM hI rfl (An (j4 hS hf ?_)));rw[if_neg (by simp)];dsimp only;refine An (EC hT rfl ?_);dsimp only;have hg:(ds.map fun(i:Nat)=>Fh i).toArray[(i:Int).toNat]?=some (.int (d:Int) 0):=by
  rw[C0,Mm,BH,hd];rfl
 rw[hg];dsimp only;unfold setNextDrawn;refine An (An (nP hS hf ?_));dsimp only;rw[if_neg (by simp)];obtain⟨⟨hh,x⟩,he,rfl⟩:=B8.mp hv;rw[C0,he];dsimp only;refine Au ?_;refine An (B0 hI (by simp) fun h1 g1 b1=>?_);exact Au ⟨_,rfl,Au (hQ h1 g1 b1)⟩
theorem Nu {i:Nat}{ds:List Nat}{Q:Option Ap->AA->Prop}(hh:A.handled=none)(hI:fL s.heap I (.ref T) i S es.size ep)(hS:iJ s.heap S es ep t)(hT:TupAt s.heap T ds)(hf:t.fits es.size=true)
  (hd:ds[i]?=none) (hQ:∀h',(∀c o,c≠I->s.heap.get? c=some o->h'.get? c=some o)->Q none { s with heap:=h' }):AE (AH prog w) A (F5 (.ref I)) Q E s:=by
 unfold F5;refine An (DZ (CS (name:=FH "__next__") hI.ty cY (CU cY hI.ty kW ?_ (m9 _))));show AE _ _ (fieldsOf (.ref I) >>= _) _ _ s;refine An (MM hI rfl (An (j4 hS hf ?_)));rw[if_neg (by simp)];dsimp only;refine An (EC hT rfl ?_);dsimp only;have hg:(ds.map fun(i:Nat)=>Fh i).toArray[(i:Int).toNat]?=none:=by
  rw[C0,Mm,BH,hd];rfl
 rw[hg];dsimp only;refine An (B0 hI (by simp) fun h1 g1 b1=>?_);refine An (B0 (s:={ s with heap:=h1 }) g1 (by simp) fun h2 g2 b2=>?_);refine JH (s:={ s with heap:=h2 }) (by simpa using hh) fun h3 e k3 ty=>An (LS ty isSubtype_stop (Au (hQ h3 fun c o hc x=>Ed (b1.trans b2) k3 c o hc x)))
theorem JZ {first:Ap}{i n:Nat}{Q:Ap->AA->Prop}(hI:fL s.heap I first i S n ep)(h:Q (.ref I) s):AE (AH prog w) A (pyIter (.ref I)) Q E s:=by
 refine wpAny_pyIter_slot hI.ty wJ (CU wJ hI.ty FN ?_ (Jv _));show AE _ _ (ret (.ref I)) _ _ s;exact Au ⟨_,rfl, "set_iterator",_,hI.ty,cY.lookup,h⟩
theorem Qa {Q:Ap->AA->Prop}(hh:A.handled=none)(hS:iJ s.heap S es ep t)(hf:t.fits es.size=true)(ht:TOk (!bt w) t)(hz:es.size<=AM)
  (h:∀(s':AA)(I:Addr)(fp:List Addr)(vs:List Ap)(St:Nat->AA->Prop),(∀c o,s.heap.get? c=some o->s'.heap.get? c=some o)->s'.gens=s.gens->s'.os=s.os->s'.toks=s.toks->vs.Perm (es.toList.map (·.2))->I=s'.heap.objs.size-1->s.heap.objs.size<=I->I<s'.heap.objs.size ->
   (∀A':A3,A'.handled=none->WalksS prog w A' I fp [I] (fun a b=>b=a) vs.length (fun i v=>vs[i]?=some v) St)->St 0 s'->(∀b∈fp,b<s'.heap.objs.size/\(b=S\/s.heap.objs.size<=b))->Q (.ref I) s') :
  AE (AH prog w) A (pyIter (.ref S)) Q E s:=by
 obtain⟨o,ho,hx,hd⟩:=id hS;have hty:s.TypeIs (.ref S) "set" := ⟨o,ho,hx.1⟩;have lt:S<s.heap.objs.size:=AZ ho;refine wpAny_pyIter_slot hty F.slot_set_iter (CU F.slot_set_iter hty FP ?_ (F.args_set_iter_1 _));unfold AX.«frozenset.__iter__»;show AE _ _ (AX.Frozenset.sizeOf S >>= _) _ _ s;unfold AX.Frozenset.sizeOf;refine An (An (j4 hS hf (Au ?_)));unfold setDrawn setsByText;refine An (An (nP hS hf ?_));dsimp only;refine An (An (Fs (Au (Au ?_))));show AE _ _ (if (!bt w&&(!t.plain&&decide (es.size>1)))=true then _ else _) _ _ _;have arith:∀{n m:Nat},m=n+1->n=m-1:=by intros;omega
 by_cases hc:(!bt w&&(!t.plain&&decide (es.size>1)))=true
 ·rw[if_pos hc];refine An (Yt es.size (BS es.size) _ (length_range) fun ds d hp=>?_);have hdl:ds.length=es.size:=by rw[hp.length_eq,length_range]
  refine An (HV ?_ (by rw[AV,hdl];exact hz));have hS1:iJ (s.heap.push { cls:=.type "tuple",data:=.seq (ds.map fun(i:Nat)=>Fh i).toArray }) S es ep t:=hS.get fun o e=>AD _ e;have hT1:TupAt (s.heap.push { cls:=.type "tuple",data:=.seq (ds.map fun(i:Nat)=>Fh i).toArray }) s.heap.objs.size ds:=A8 _ rfl;have hz1:(s.heap.push { cls:=.type "tuple",data:=.seq (ds.map fun(i:Nat)=>Fh i).toArray }).objs.size=s.heap.objs.size+1:=D7 ..;have hk1:∀c o,s.heap.get? c=some o->(s.heap.push { cls:=.type "tuple",data:=.seq (ds.map fun(i:Nat)=>Fh i).toArray }).get? c=some o:=fun c o e=>AD _ e;generalize s.heap.push { cls:=.type "tuple",data:=.seq (ds.map fun(i:Nat)=>Fh i).toArray }=h1 at hS1 hT1 hz1 hk1 |-;refine An (FJ (s:={ s with drawn:=d,heap:=h1 }) hS1 hf (An (BM ?_)));have hI:fL (h1.push { cls:=.type "set_iterator",data:=.fields #[.ref s.heap.objs.size,.int (0:Nat) 0,.ref S,.int (es.size:Nat) 0,.int (ep:Nat) 0] }) h1.objs.size (.ref s.heap.objs.size) 0 S es.size ep:=A8 _ rfl;refine Au ⟨_,rfl, "set_iterator",_,⟨_,hI,rfl⟩,cY.lookup,?_⟩;have hz2:(h1.push { cls:=.type "set_iterator",data:=.fields #[.ref s.heap.objs.size,.int (0:Nat) 0,.ref S,.int (es.size:Nat) 0,.int (ep:Nat) 0] }).objs.size=h1.objs.size+1:=D7 ..;have hk2:∀c o,h1.get? c=some o->(h1.push { cls:=.type "set_iterator",data:=.fields #[.ref s.heap.objs.size,.int (0:Nat) 0,.ref S,.int (es.size:Nat) 0,.int (ep:Nat) 0] }).get? c=some o:=fun c o e=>AD _ e;show Q (.ref h1.objs.size) { s with drawn:=d,heap:=h1.push { cls:=.type "set_iterator",data:=.fields #[.ref s.heap.objs.size,.int (0:Nat) 0,.ref S,.int (es.size:Nat) 0,.int (ep:Nat) 0] } };generalize h1.push { cls:=.type "set_iterator",data:=.fields #[.ref s.heap.objs.size,.int (0:Nat) 0,.ref S,.int (es.size:Nat) 0,.int (ep:Nat) 0] }=h2 at hI hz2 hk2 |-;have n1:S≠h1.objs.size:=by rw[hz1];exact B4 (EN lt)
  have n2:s.heap.objs.size≠h1.objs.size:=by rw[hz1];exact B4 (EK _)
  have hmem:∀i d:Nat,ds[i]?=some d->∃x:Ap,(es[d]?).map (fun(e:Int×Ap)=>e.2)=some x/\(ds.map fun d=>(es.toList.map (·.2)).getD d .none)[i]?=some x:=by
   intro i d hi;have:d<es.size:=by have:=hp.mem_iff.mp (BF hi);simpa using this
   refine⟨es[d].2,by simp [this],?_⟩;rw[BH,hi];simp [this]
  refine h { s with drawn:=d,heap:=h2 } h1.objs.size [h1.objs.size,S,s.heap.objs.size] (ds.map fun d=>(es.toList.map (·.2)).getD d .none)
   (fun i s'=>fL s'.heap h1.objs.size (.ref s.heap.objs.size) i S es.size ep/\iJ s'.heap S es ep t/\TupAt s'.heap s.heap.objs.size ds)
   (fun c o e=>hk2 c o (hk1 c o e)) rfl rfl rfl ?_ (arith hz2) (by rw[hz1];exact MV _) (by show h1.objs.size<h2.objs.size;rw[hz2];exact EK _) (fun A' hh'=>?_) ⟨hI,hS1.get (hk2 S),hk2 _ _ hT1⟩ ?_
  ·have e:(BS es.size).map (fun d=>(es.toList.map (·.2)).getD d .none)=es.toList.map (·.2):=by
    refine ext_getElem (by simp) fun i h1 h2=>?_;simp at h1 h2;simp [h2]
   exact(hp.map fun d=>(es.toList.map fun(x:Int×Ap)=>x.2).getD d Ap.none).trans (CD.of_eq e)
  ·have hlen:(ds.map fun d=>(es.toList.map (·.2)).getD d .none).length=ds.length:=AV _;exact {
    sub:=fun b hb=>by simp at hb;simp [hb]
    grefl:=fun _=>rfl
    gtrans:=fun a b c e f=>f.trans e
    frame:=fun i s1 h' tk st _ hk=>⟨st.1.get fun o e=>hk _ (by simp) o e,st.2.1.get fun o e=>hk _ (by simp) o e,hk _ (by simp) _ st.2.2⟩
    item:=fun i s1 Q1 E1 hi st hQ1=>by
     rw[hlen] at hi;obtain⟨x,e1,e2⟩:=hmem i ds[i] (AR hi);refine Jj st.1 st.2.1 st.2.2 hf (AR hi) e1 n1 fun h' i' b'=>?_;exact hQ1 x { s1 with heap:=h' } e2 ⟨i',st.2.1.get fun o e=>b'.extBut _ o n1 e,b'.extBut _ _ n2 st.2.2⟩ ⟨fun b o hb e=>b'.extBut b o (fun z=>hb (by simp [z])) e,rfl,rfl,rfl,AY _⟩
    done:=fun s1 Q1 E1 st hQ1=>by
     refine Nu hh' st.1 st.2.1 st.2.2 hf (by rw[hlen];simp) fun h' k'=>?_;exact hQ1 { s1 with heap:=h' } ⟨fun b o hb e=>k' b o (fun z=>hb (by simp [z])) e,rfl,rfl,rfl,AY _⟩
    self:=fun i s1 Q1 E1 st hQ1=>JZ st.1 hQ1 }
  intro b hb;show b<h2.objs.size/\_;have l0:=EN lt;simp only[BB,Cs,or_false] at hb;rw[hz2,hz1];rcases hb with rfl|rfl|rfl
  ·rw[hz1];exact⟨EK _,.inr (MV _)⟩
  ·exact⟨EN l0,.inl rfl⟩
  exact⟨EN (EK _),.inr (AY _)⟩
 rw[if_neg hc];obtain⟨vs,sl,sl0,hp,hn⟩:=Xj (prog:=prog) (w:=w) (S:=S) (ep:=ep) hf ht (by
  cases hb:bt w with
  | true=>exact .inl rfl
  | false=>rw[hb] at hc;exact .inr (by simpa using hc))
 refine An (Au (An (FJ hS hf (An (BM ?_)))));have hI:fL (s.heap.push { cls:=.type "set_iterator",data:=.fields #[.int (0:Nat) 0,.int (0:Nat) 0,.ref S,.int (es.size:Nat) 0,.int (ep:Nat) 0] }) s.heap.objs.size (.int (sl 0) 0) 0 S es.size ep:=by rw[sl0];exact A8 _ rfl
 refine Au ⟨_,rfl, "set_iterator",_,⟨_,hI,rfl⟩,cY.lookup,?_⟩;have hz2:(s.heap.push { cls:=.type "set_iterator",data:=.fields #[.int (0:Nat) 0,.int (0:Nat) 0,.ref S,.int (es.size:Nat) 0,.int (ep:Nat) 0] }).objs.size=s.heap.objs.size+1:=D7 ..;have hk2:∀c o,s.heap.get? c=some o->(s.heap.push { cls:=.type "set_iterator",data:=.fields #[.int (0:Nat) 0,.int (0:Nat) 0,.ref S,.int (es.size:Nat) 0,.int (ep:Nat) 0] }).get? c=some o:=fun c o e=>AD _ e;show Q (.ref s.heap.objs.size) { s with heap:=s.heap.push { cls:=.type "set_iterator",data:=.fields #[.int (0:Nat) 0,.int (0:Nat) 0,.ref S,.int (es.size:Nat) 0,.int (ep:Nat) 0] } };generalize s.heap.push { cls:=.type "set_iterator",data:=.fields #[.int (0:Nat) 0,.int (0:Nat) 0,.ref S,.int (es.size:Nat) 0,.int (ep:Nat) 0] }=h2 at hI hz2 hk2 |-;have n1:S≠s.heap.objs.size:=B4 lt;refine h { s with heap:=h2 } s.heap.objs.size [s.heap.objs.size,S] vs (fun i s'=>fL s'.heap s.heap.objs.size (.int (sl i) 0) i S es.size ep/\iJ s'.heap S es ep t)
  (fun c o e=>hk2 c o e) rfl rfl rfl hp (arith hz2) (AY _) (by show s.heap.objs.size<h2.objs.size;rw[hz2];exact EK _) (fun A' hh'=>?_) ⟨hI,hS.get (hk2 S)⟩ ?_
 ·exact {
   sub:=fun b hb=>by simp at hb;simp [hb]
   grefl:=fun _=>rfl
   gtrans:=fun a b c e f=>f.trans e
   frame:=fun i s1 h' tk st _ hk=>⟨st.1.get fun o e=>hk _ (by simp) o e,st.2.get fun o e=>hk _ (by simp) o e⟩
   item:=fun i s1 Q1 E1 hi st hQ1=>by
    have hv:vs[i]?=some vs[i]:=AR hi;refine next_item (n:=0) st.1 st.2 hf (v:=vs[i]) (sl:=sl (i+1)) (fun s2 A2 E2 Q2 st2 hQ2=>hn i s2 A2 E2 Q2 (IQ hi) st2 (by rw[hv];exact hQ2)) n1 fun h' i' b'=>?_;exact hQ1 vs[i] { s1 with heap:=h' } hv ⟨i',st.2.get fun o e=>b'.extBut _ o n1 e⟩ ⟨fun b o hb e=>b'.extBut b o (fun z=>hb (by simp [z])) e,rfl,rfl,rfl,AY _⟩
   done:=fun s1 Q1 E1 st hQ1=>by
    have hv:vs[vs.length]?=none:=by simp
    refine next_end hh' st.1 st.2 hf (fun s2 A2 E2 Q2 st2 hQ2=>hn vs.length s2 A2 E2 Q2 (AY _) st2 (by rw[hv];exact hQ2)) fun h' k'=>?_;exact hQ1 { s1 with heap:=h' } ⟨fun b o hb e=>k' b o (fun z=>hb (by simp [z])) e,rfl,rfl,rfl,AY _⟩
   self:=fun i s1 Q1 E1 st hQ1=>JZ st.1 hQ1 }
 intro b hb;show b<h2.objs.size/\_;rw[hz2];simp only[BB,Cs,or_false] at hb;rcases hb with rfl|rfl
 ·exact⟨EK _,.inr (AY _)⟩
 exact⟨EN lt,.inl rfl⟩
end
end SRT
namespace SRT
open PySem PyProof.Rows
def Yk:Bool->A0->Array A0->Nat->Nat->Nat->StateT Ch Sem (Option Nat):=sortPriv% PySem.Builtin.gallop
def R5:Array A0->Array A0->StateT Ch Sem (Array A0):=sortPriv% PySem.Builtin.mergeLo
def R7:Array A0->Array A0->StateT Ch Sem (Array A0):=sortPriv% PySem.Builtin.mergeHi
def IK (p:A0):Prop:=∃n t,p.1=.int n t
def AllIK (xs:Array A0):Prop:=∀(i:Nat) p,xs[i]?=some p->IK p
section
variable {prog:AW}{w:BC}{s:AA}{A:A3}{E:Ap->AA->Prop}
theorem bI {st:Ch}{xs:Array A0}{i:Nat}{Q:A0->Ch->Prop}(hi:i<xs.size)(h:∀p,xs[i]?=some p->Q p st):wpS (AH prog w) A E s (elem' xs i) Q st:=by
 rw[elem'_eq];have e:xs[i]?=some xs[i]:=getElem?_pos xs i hi;rw[e];exact AI (h _ e)
end
end SRT
namespace SRT
open PySem PyProof.Rows
abbrev j9 (st:Ch)(g:Nat):Ch:=Ch.mk' (kindOf st) (AL st) (A1 st) g (IX st)
section
variable {prog:AW}{w:BC}{s:AA}{A:A3}{E:Ap->AA->Prop}
def dY (a b out:Array A0)(i j:Nat):List A0:=out.toList++(a.toList.drop i++b.toList.drop j)
theorem Xw {a b out:Array A0}{i j:Nat}:(out++a.extract i a.size++b.extract j b.size).toList=dY a b out i j:=by
 unfold dY;simp [HZ]
theorem Xv {a b out:Array A0}{i j:Nat}:(out++b.extract j b.size++a.extract i a.size).toList.Perm (dY a b out i j):=by
 unfold dY;simp [HZ];exact CD.append_left _ IC
theorem Sy {a b out:Array A0}{i j:Nat}{p:A0}(h:a[i]?=some p):(dY a b (out.push p) (i+1) j).Perm (dY a b out i j):=by
 unfold dY;have hi:i<a.toList.length:=by
  have:=(Be.mp h).1;simpa using this
 have e:a.toList.drop i=p::a.toList.drop (i+1):=by
  rw[IY hi];have:=(Be.mp h).2;simp [this]
 rw[e];simp
theorem Sx {a b out:Array A0}{i j:Nat}{p:A0}(h:b[j]?=some p):(dY a b (out.push p) i (j+1)).Perm (dY a b out i j):=by
 unfold dY;have hi:j<b.toList.length:=by
  have:=(Be.mp h).1;simpa using this
 have e:b.toList.drop j=p::b.toList.drop (j+1):=by
  rw[IY hi];have:=(Be.mp h).2;simp [this]
 rw[e];simp;exact CD.append_left _ List.perm_middle.symm
theorem Xu {a b out:Array A0}{i j k:Nat}:(dY a b (out++a.extract i (i+k)) (i+k) j).Perm (dY a b out i j):=by
 unfold dY;have e:a.toList.drop i=(a.extract i (i+k)).toList++a.toList.drop (i+k):=by
  rw[KM];rw[show i+k=i+k from rfl];simp [Ki,<- drop_drop]
 rw[e];simp
theorem Xr {a b out:Array A0}{i j k:Nat}:(dY a b (out++b.extract j (j+k)) i (j+k)).Perm (dY a b out i j):=by
 unfold dY;have e:b.toList.drop j=(b.extract j (j+k)).toList++b.toList.drop (j+k):=by
  rw[KM];simp [Ki,<- drop_drop]
 rw[e];simp only[Cb,FK];refine(CD.append_left _ ?_);rw[<- FK];rw[<- FK];exact(CD.append_right _ IC)
end
end SRT
namespace SRT
open PySem PyProof.Rows
section
variable {prog:AW}{w:BC}{s:AA}{A:A3}{E:Ap->AA->Prop}
def iW (a b out:Array A0)(i j:Nat):List A0:=(a.toList.take i++b.toList.take j)++out.toList
theorem Yh {a b out:Array A0}{i j:Nat}:(a.extract 0 i++b.extract 0 j++out.reverse).toList.Perm (iW a b out i j):=by
 unfold iW;simp;exact CD.append_left _ (CD.append_left _ (reverse_perm _))
theorem Tp {a b out:Array A0}{i j:Nat}:(b.extract 0 j++a.extract 0 i++out.reverse).toList.Perm (iW a b out i j):=by
 unfold iW;simp;rw[<- FK];rw[<- FK];exact CD.append IC (reverse_perm _)
theorem Dz {xs:List A0}{x i:Nat}(h:x<=i):xs.take i=xs.take x++(xs.drop x).take (i-x):=by
 conv=>lhs;rw[show i=x+(i-x) by omega,List.take_add]
theorem Yg {a b out:Array A0}{i j x:Nat}(h:x<=i):(iW a b (out++(a.extract x i).reverse) x j).Perm (iW a b out i j):=by
 unfold iW;rw[Dz (xs:=a.toList) h];simp [Ki];refine(CD.append_left _ ?_);rw[<- FK];refine(IC (l₁:=List.take j b.toList++out.toList)).trans ?_;exact CD.append_right _ (reverse_perm _)
theorem Ye {a b out:Array A0}{i j x:Nat}(h:x<=j):(iW a b (out++(b.extract x j).reverse) i x).Perm (iW a b out i j):=by
 unfold iW;rw[Dz (xs:=b.toList) h];simp [Ki];refine CD.append_left _ (CD.append_left _ ?_);exact IC.trans (CD.append_right _ (reverse_perm _))
theorem Kw {a:Array A0}{i:Nat}{p:A0}(h:a[i]?=some p):(a.extract i (i+1)).reverse=#[p]:=by
 have:=(Be.mp h);obtain⟨h1,h2⟩:=this;apply Array.ext';simp [Ki];rw[IY (by simpa using h1)];simp [h2]
end
end SRT
namespace SRT
open PySem PyProof.Rows
def Chain:List (Nat×Nat×Nat)->Nat->Nat->Prop
 | [],a,b=>a=b
 | (p,n,_)::t,a,b=>p=a/\1<=n/\Chain t (a+n) b
theorem Chain.le:∀{l:List (Nat×Nat×Nat)}{a b:Nat},Chain l a b->a<=b
 | [],_,_,h=>le_of_eq h
 | (_,n,_)::_,a,_,⟨_,_,h⟩=>BN (Nat.le_add_right a n) h.le
theorem Chain.two:∀{pre post:List (Nat×Nat×Nat)}{sa na w sb nb v a b:Nat},Chain (pre++(sa,na,w)::(sb,nb,v)::post) a b ->
  sb=sa+na/\1<=na/\1<=nb/\sb+nb<=b/\Chain (pre++(sa,na+nb,w)::post) a b
 | [],post,sa,na,w,sb,nb,v,a,b,⟨h1,h2,h3,h4,h5⟩=>by
  have:=h5.le;refine⟨ω,h2,h4,ω,h1,ω,?_⟩;rw[<- Nat.add_assoc];exact h5
 | (_,_,_)::pre,post,sa,na,w,sb,nb,v,a,b,⟨h1,h2,h3⟩=>by
  obtain⟨k1,k2,k3,k4,k5⟩:=Chain.two h3;exact⟨k1,k2,k3,k4,h1,h2,k5⟩
theorem Chain.snoc:∀{l:List (Nat×Nat×Nat)}{a b n w:Nat},Chain l a b->1<=n->Chain (l++[(b,n,w)]) a (b+n)
 | [],a,b,n,w,h,h1=>by cases h;exact⟨rfl,h1,rfl⟩
 | (_,_,_)::t,a,b,n,w,⟨k1,k2,k3⟩,h1=>⟨k1,k2,k3.snoc h1⟩
theorem Chain.Ef:∀{l:List (Nat×Nat×Nat)}{a b p n w v:Nat},Chain (l++[(p,n,w)]) a b->Chain (l++[(p,n,v)]) a b
 | [],a,b,p,n,w,v,h=>h
 | (_,_,_)::t,a,b,p,n,w,v,⟨k1,k2,k3⟩=>⟨k1,k2,k3.Ef⟩
theorem BV:∀(m:List A0)(k:Nat)(l1 l2 l3:List A0)(sa:Nat),l1.length=sa+k->l2.length=m.length->∀a:Array A0,a.toList=l1++(l2++l3) ->
  ((m.zipIdx k).foldl (fun a (x:A0×Nat)=>a.setIfInBounds (sa+x.2) x.1) a).toList=l1++(m++l3)
 | [],k,l1,l2,l3,sa,h1,h2,a,ha=>by
  have:l2=[]:=List.eq_nil_of_length_eq_zero h2;subst this;exact ha
 | x::m,k,l1,[],l3,sa,h1,h2,a,ha=>by cases h2
 | x::m,k,l1,y::l2,l3,sa,h1,h2,a,ha=>by
  rw[zipIdx_cons,List.foldl_cons];have h2':l2.length=m.length:=by simpa using h2
  have:=BV m (k+1) (l1++[x]) l2 l3 sa (by simp;omega) h2' (a.setIfInBounds (sa+k) x) (by
   rw[Array.toList_setIfInBounds,ha,Mn _ _ ω,h1,sub_self];simp)
  rw[this];simp
theorem Q7 {a m:Array A0}{sa sb e:Nat}(h1:sa<=sb)(h2:sb<=e)(h3:e<=a.size)(hm:m.toList.Perm ((a.extract sa sb).toList++(a.extract sb e).toList)) :
  (m.toList.zipIdx.foldl (fun a (x:A0×Nat)=>a.setIfInBounds (sa+x.2) x.1) a).toList.Perm a.toList:=by
 have ea:a.toList=a.toList.take sa++(((a.extract sa sb).toList++(a.extract sb e).toList)++a.toList.drop e):=by
  apply List.ext_getElem?;intro i;simp only[KM,List.extract_eq_take_drop,List.getElem?_append,List.getElem?_take,List.getElem?_drop,D4,AO,F8,CC];split
  ·rw[if_pos ω]
  split
  ·split
   ·rw[if_pos ω];congr 1;omega
   rw[if_pos ω];congr 1;omega
  congr 1;omega
 have:=BV m.toList 0 (a.toList.take sa) _ (a.toList.drop e) sa (by simp;omega) hm.length_eq.symm a ea;rw[this]
 conv=>rhs;rw[ea]
 exact CD.append_left _ (CD.append_right _ hm)
section
variable {prog:AW}{w:BC}{s:AA}{A:A3}{E:Ap->AA->Prop}{a₀:Array A0}
structure MB (a₀:Array A0)(st:Ch):Prop where
 kind:kindOf st=oneType'
 perm:(AL st).toList.Perm a₀.toList
 fail:IX st=none
theorem MB.size {st:Ch}(h:MB a₀ st):(AL st).size=a₀.size:=by simpa using h.perm.length_eq
theorem Vh {σ:Type}{x st:σ}{Q:PUnit->σ->Prop}(h:Q ⟨⟩ x):wpS (AH prog w) A E s (set x:StateT σ Sem PUnit) Q st:=by
 unfold wpS;rw[StateT.run_set];exact Au ⟨rfl,h⟩
theorem zO {σ:Type}{st:σ}{b:Bool}{Q:Bool->σ->Prop}(hb:b=true)(h:Q true st):wpS (AH prog w) A E s (pure b:StateT σ Sem Bool) Q st:=by
 subst hb;exact AI h
end
end SRT
namespace SRT
open PySem PyProof.Rows
end SRT
namespace SRT
open PySem PyProof.Rows
section
variable {prog:AW}{w:BC}{s:AA}{A:A3}{E:Ap->AA->Prop}{a₀:Array A0}{pd:Array (Nat×Nat×Nat)}
def MC (a₀:Array A0)(hi:Nat)(st:Ch):Prop:=MB a₀ st/\Chain (A1 st).toList 0 hi
theorem aby:∀(l:List (Nat×Nat×Nat)) (i:Nat),i+1<l.length->∃pre x y post,l=pre++x::y::post/\pre.length=i
 | [],i,h=>by simp at h
 | [x],i,h=>by simp at h
 | x::y::t,0,h=>⟨[],x,y,t,rfl,rfl⟩
 | x::y::t,i+1,h=>by
  obtain⟨pre,u,v,post,e,hl⟩:=aby (y::t) i (by simpa using h);exact⟨x::pre,u,v,post,by rw[e];rfl,by simp [hl]⟩
theorem Vy:∀(l:List (Nat×Nat×Nat)),l≠[]->∃t p n v,l=t++[(p,n,v)]
 | l,h=>⟨l.dropLast,(l.getLast h).1,(l.getLast h).2.1,(l.getLast h).2.2,(List.dropLast_concat_getLast h).symm⟩
theorem vA {α:Type}(f:α->α)(x:α):∀t:List α,(t++[x]).modify t.length f=t++[f x]
 | []=>rfl
 | y::t=>congrArg (y :: ·) (vA f x t)
theorem MC.push {st:Ch}{lo n:Nat}(h:MC a₀ lo st)(h1:1<=n):MC a₀ (lo+n) (setPending st ((A1 st).push (lo,n,0))):=by
 refine⟨⟨h.1.kind,h.1.perm,h.1.fail⟩,?_⟩;show Chain ((A1 st).push (lo,n,0)).toList 0 (lo+n);rw[ED];exact h.2.snoc h1
theorem abi {c:Prop}[Decidable c]{n:Nat}(h:¬n<=1):(if c then n-2-1 else n-2)+1<n:=by split <;> omega
theorem K5 (a:Array (Nat×Nat×Nat))(i:Nat)(h:i<a.size):∃x y z,a[i]?=some (x,y,z):=⟨a[i].1,a[i].2.1,a[i].2.2,by rw[getElem?_pos a i h]⟩
theorem Bf {σ α:Type}{c:Prop}[Decidable c]{m n:StateT σ Sem α}{st:σ}{Q:α->σ->Prop}(h1:c->wpS (AH prog w) A E s m Q st)(h2:¬c->wpS (AH prog w) A E s n Q st):wpS (AH prog w) A E s (if c then m else n) Q st:=by
 by_cases h:c
 ·rw[if_pos h];exact h1 h
 rw[if_neg h];exact h2 h
end
end SRT
namespace SRT
open PySem PyProof.Rows
section
variable {prog:AW}{w:BC}{s:AA}{A:A3}{E:Ap->AA->Prop}
theorem qd (vs:List Ap):((EG vs).map (·.2)).toList=vs:=by
 unfold EG;simp [List.map_snd_zip]
end
end SRT
namespace SRT
open PySem PyProof.Rows
theorem Al {vs xs:List Ap}(hp:xs.Perm vs):∀{ns:List Int},D5 vs ns->∃ns',D5 xs ns'/\ns'.Perm ns:=by
 induction hp with
 | nil=>intro ns h;exact⟨ns,h,CD.refl _⟩
 | cons x _ ih=>
  intro ns h;cases h with
  | cons n t h=>
   obtain⟨ns',h1,h2⟩:=ih h;exact⟨n::ns',.cons n t h1,h2.cons n⟩
 | swap x y l=>
  intro ns h;cases h with
  | cons n t h=>
   cases h with
   | cons m u h=>exact⟨m::n::_,.cons m u (.cons n t h),CD.swap _ _ _⟩
 | trans _ _ ih1 ih2=>
  intro ns h;obtain⟨n1,a1,b1⟩:=ih2 h;obtain⟨n2,a2,b2⟩:=ih1 a1;exact⟨n2,a2,b2.trans b1⟩
theorem qK {α:Type}[DecidableEq α]:∀{l ks:List α},l.Nodup->(∀x∈l,x∈ks)->ks.length=l.length->ks.Perm l
 | [],ks,_,_,h=>by rw[KE.mp h]
 | x::l,ks,hn,hs,hl=>by
  obtain⟨h1,h2⟩:=nodup_cons.mp hn;have hx:x∈ks:=hs x (BE ..);refine(List.perm_cons_erase hx).trans (CD.cons _ (qK h2 (fun y hy=>?_) ?_))
  ·have:y≠x:=fun e=>h1 (e ▸ hy);exact(List.mem_erase_of_ne this).mpr (hs y (A4 _ hy))
  rw[List.length_erase_of_mem hx,hl];rfl
theorem pO (val:Nat->Int):∀i,(FV val i).Nodup
 | 0=>List.nodup_nil
 | i+1=>by
  rw[firstMet_succ];unfold step_dedup;have ih:=pO val i;split
  ·exact ih
  rename_i h;rw[List.nodup_append];refine⟨ih,by simp,fun a ha b hb e=>?_⟩;simp only[AK] at hb;exact h (EM.mpr ⟨a,ha,by simp [e,hb]⟩)
def ded (ns:List Int):List Int:=FV (fun i=>ns.getD i 0) ns.length
theorem Nv (ns:List Int):(ded ns).Nodup:=pO _ _
theorem KD (ns:List Int):(ded ns).length<=ns.length:=firstMet_length_le _ _
theorem Yu {ns:List Int}{k:Int}:k∈ded ns↔k∈ns:=by
 have e:=firstMet_any (fun i=>ns.getD i 0) ns.length k;have hr:(BS ns.length).map (fun i=>ns.getD i 0)=ns:=by
  refine ext_getElem (by simp) fun i h1 h2=>?_;simp at h1 h2;simp [h2]
 rw[hr] at e;have a1:∀l:List Int,l.any (· == k)=true↔k∈l:=fun l=>by simp
 rw[<- a1,<- a1];unfold ded;rw[e]
section
variable {prog:AW}{w:BC}{A:A3}{E:Ap->AA->Prop}{s:AA}{S:Addr}{es:Array (Int×Ap)}{ep:Nat}{t:AU}
theorem yC:∀{l:List (Int×Ap)},ElemsOf (IE prog w) l->∃ks:List Int,D5 (l.map (·.2)) ks/\∀k,k∈ks ↔ ∃e∈l,(IE prog w).is k e.2=true
 | [],_=>⟨[],.nil,fun k=>by simp⟩
 | (h,v)::l,he=>by
  obtain⟨⟨k,hk,_⟩,_⟩:=he.head;obtain⟨tk,e⟩:=Ap.isInt_shape hk;dsimp only at e hk;subst e;obtain⟨ks,h1,h2⟩:=yC he.tail;refine⟨k::ks,.cons k tk h1,fun j=>?_⟩;rw[BB,h2];constructor
  ·rintro(rfl|⟨e,a,b⟩)
   ·exact⟨_,BE ..,hk⟩
   exact⟨e,A4 _ a,b⟩
  rintro⟨e,a,b⟩;rcases BB.mp a with rfl|a
  ·exact .inl ((IE prog w).inj _ _ _ b hk)
  exact .inr ⟨e,a,b⟩
theorem S7 {vs:List Ap}{acc:Array Ap}(h:ItemsOf (fun i v=>vs[i]?=some v) acc vs.length):acc.toList=vs:=by
 refine ext_getElem (by simpa using h.1) fun i h1 h2=>?_;have:vs[i]?=some acc[i]:=h.2 i acc[i] (by simp);rw[AR h2] at this;simpa using this.symm
theorem FT {Q:List Ap->AA->Prop}(hh:A.handled=none)(hS:iJ s.heap S es ep t)(hf:t.fits es.size=true)(ht:TOk (!bt w) t)(hz:es.size<=AM)
  (hQ:∀(s':AA)(vs:List Ap),vs.Perm (es.toList.map (·.2))->(∀c o,s.heap.get? c=some o->s'.heap.get? c=some o)->s'.gens=s.gens->s'.os=s.os->s.heap.objs.size<=s'.heap.objs.size->Q vs s') :
  AE (AH prog w) A (collect (.ref S)) Q E s:=by
 obtain⟨o,ho,hx,hd⟩:=id hS;have hty:s.TypeIs (.ref S) "set" := ⟨o,ho,hx.1⟩;have lt:S<s.heap.objs.size:=AZ ho;unfold collect;refine An (wpAny_runValue (Ha F.entry_proto_collect ?_));rw[A3.under_plainId F.plain_proto_collect _];show AE _ A.in1 (newList [] >>= fun l=>LH (.builtin "list.__iadd__" ⟨[l,.ref S],[]⟩)) _ _ s;refine An (BM ?_);refine Au ⟨M3 F.plain_list_iadd _,Ha F.entry_list_iadd ?_⟩;rw[A3.under_plainId F.plain_list_iadd _];have hS1:iJ (s.heap.push { cls:=.type "list",data:=.seq ([]:List Ap).toArray }) S es ep t:=hS.get fun o e=>AD _ e;have hL1:(s.heap.push { cls:=.type "list",data:=.seq ([]:List Ap).toArray }).get? s.heap.objs.size=some { cls:=.type "list",data:=.seq ([]:List Ap).toArray }:=A8 _ rfl;have hk1:∀c o,s.heap.get? c=some o->(s.heap.push { cls:=.type "list",data:=.seq ([]:List Ap).toArray }).get? c=some o:=fun c o e=>AD _ e;have hty1:AA.TypeIs { s with heap:=s.heap.push { cls:=.type "list",data:=.seq ([]:List Ap).toArray } } (.ref S) "set" := ⟨o,hk1 _ _ ho,hx.1⟩;generalize s.heap.push { cls:=.type "list",data:=.seq ([]:List Ap).toArray }=h1 at hS1 hL1 hk1 hty1 |-;have ne1:s.heap.objs.size≠S:=ne_of_gt lt;show AE _ A.in1 (AX.List.listExtendWith (.ref s.heap.objs.size) (.ref S) (.ref s.heap.objs.size)) _ _ _;unfold AX.List.listExtendWith;refine An (JE hty1 ?_);have q1:AX.List.listSameRef (.ref s.heap.objs.size) (.ref S)=false:=by simp [AX.List.listSameRef,ne1]
 rw[if_neg (by rw[q1];decide)];refine An (Qa (s:={ s with heap:=h1 }) hh hS1 hf ht hz fun s2 I fp vs St hk2 hg2 ho2 ht2 hp hI hle hlt W st0 hfp=>?_);have hty2:s2.TypeIs (.ref S) "set" := ⟨o,hk2 _ _ (hk1 _ _ ho),hx.1⟩;refine An (BI ?_);unfold AX.List.listLengthHint;refine An (wpAny_specialOf hty2 F.slot_set_len.lookup ?_)
 (generalize hid:("set.__len__" : String)=id0;(fail_if_success (clear hid id0));wp_delta;rw[show splitId id0=some ("set","__len__") from by subst hid;decide +kernel];subst hid)
 refine An (LS (b:=true) hty2 sub_set_self ?_);refine C6 rfl (Fm ψ (An (JE hty2 (Au ?_))));rw[if_pos δ];have hSf:s.heap.objs.size∉fp:=fun z=>by
  have l1:s.heap.objs.size<h1.objs.size:=AZ hL1;rcases(hfp _ z).2 with e|e
  ·exact ne1 e
  exact Db _ (AN l1 e)
 have hL2:=hk2 _ _ hL1;refine An (De (An ?_));show AE _ A.in1 (updateSeq s.heap.objs.size (·.push .none) >>= fun _=>updateSeq s.heap.objs.size (·.pop)) _ _ _;refine An (wpAny_updateSeq hL2 rfl ?_);have hL3:=ER (Cf (·.push Ap.none)) hL2 rfl;refine wpAny_updateSeq hL3 rfl ?_;have hL4:=ER (Cf (·.pop)) hL3 rfl;have oth:∀b o,b≠s.heap.objs.size->s2.heap.get? b=some o->((s2.heap.update s.heap.objs.size (Cf (·.push Ap.none))).update s.heap.objs.size (Cf (·.pop))).get? b=some o:=
  fun b o hb e=>(BU _ _ (B2 hb)).trans ((BU _ _ (B2 hb)).trans e)
 have W1:=W A.in1 (by simpa using hh);refine Au ⟨M3 F.plain_extend_loop _,codeAny_extend_loopS W1 (by rw[hp.length_eq,AV,CC];exact hz) _ hSf _ vs.length 0 _ _ _ rfl (D2 _)
  (W1.frame 0 s2 _ s2.toks st0 (AY _) fun b hb o e=>oth b o (fun z=>hSf (z ▸ hb)) e) hL4 (ItemsOf.nil _) fun s' acc' c' hm hS' hacc=>?_⟩
 show AE _ A (load s.heap.objs.size >>= _) _ _ s';refine An (wpAny_load hS' (Au ?_));rw[S7 hacc];have l2:s.heap.objs.size<s'.heap.objs.size:=AZ hS';refine hQ s' vs hp (fun c o e=>?_) (hm.gens.trans hg2) (hm.os.trans ho2) (IQ l2);have lc:c<s.heap.objs.size:=AZ e;have nI:c≠I:=fun z=>by
  have l3:s.heap.objs.size<h1.objs.size:=AZ hL1;have l4:h1.objs.size<=I:=hle;rw[z] at lc;exact Db _ (AN (Nat.lt_trans lc l3) l4)
 exact hm.heap c o (by simp only[BB,Cs,or_false,not_or];exact⟨B4 lc,nI⟩) (oth c o (B4 lc) (hk2 _ _ (hk1 _ _ e)))
end
end SRT
set_option maxHeartbeats 4000000
namespace L2
open PySem PySem.Spec PyProof.Rows
theorem wA:∀{xs:List Int}{us:List Ap},Vals (xs.map V.int) us->D5 us xs
 | [],_,h=>by cases h;exact .nil
 | x::xs,_,h=>by
  cases h with
  | cons r h=>
   obtain⟨t,rfl⟩:=r;exact .cons x t (wA h)
theorem Ak:∀{us:List Ap}{xs:List Int},D5 us xs->Vals (xs.map V.int) us
 | _,_,.nil=>.nil
 | _,_,.cons n t h=>.cons ⟨t,rfl⟩ (Ak h)
section
variable {X:Cx}{pins:List (Addr×Obj)}{s:AA}{σ:St}{H:Hp}
theorem Inv.drawn (I:Inv X pins σ H s)(d:Drawn):Inv X pins σ H { s with drawn:=d }:=
 I.step (g':=s.gens) (d':=d) (t':=s.toks) (h':=s.heap) (ch:=[]) (fun _ z=>nomatch z) (fun b o _ _ _ e _=>e) (fun b o _ _ _ e _=>⟨o.slots,e⟩) (fun _ _ _ _ n=>n) (fun b o _ e=>⟨o,e⟩) (fun _ _ e=>e) (fun _ _ _ e=>e) (fun b ps e=>⟨#[],by rw[e];simp⟩) (fun _ h=>h) I.hok I.bare
end
theorem pW {ok:Addr->Prop}{H:Hp}{x:V}{it:It1}(t:bC ok H x (itD it)):∃p,x=.ref p/\ok p/\pQ H p it:=by
 cases it with
 | one a=>
  cases t with
  | tup o e z ts=>cases ts with|cons t1 ts=>cases t1;cases ts with|cons t2 ts=>cases t2;cases ts;exact⟨_,rfl,o,⟨e⟩⟩
 | rng a b=>
  cases t with
  | tup o e z ts=>cases ts with|cons t1 ts=>cases t1;cases ts with|cons t2 ts=>cases t2;cases ts with|cons t3 ts=>cases t3;cases ts;exact⟨_,rfl,o,⟨e⟩⟩
 | bits m v=>
  cases t with
  | tup o e z ts=>cases ts with|cons t1 ts=>cases t1;cases ts with|cons t2 ts=>cases t2;cases ts with|cons t3 ts=>cases t3;cases ts;exact⟨_,rfl,o,⟨e⟩⟩
theorem jz {ok:Addr->Prop}{H:Hp}{x:V}{its:List It1}(t:bC ok H x (lW its)):∃q us,x=.ref q/\ok q/\H q=some (.lst us)/\us.length<=1000000/\aN ok H us (its.map itD):=by
 cases t with
 | lst o e z ts=>exact⟨_,_,rfl,o,e,z,ts⟩
theorem jc {ok:Addr->Prop}{H:Hp}{x:V}{w s:Int}{css:List (List It1)}(t:bC ok H x (qm w s css)) :
  ∃p c vs,x=.ref p/\ok p/\H p=some (.tup [.int w,.int s,.ref c])/\ok c/\H c=some (.lst vs)/\vs.length<=1000000/\aN ok H vs (css.map lW):=by
 cases t with
 | tup o e z ts=>cases ts with|cons t1 ts=>cases t1;cases ts with|cons t2 ts=>cases t2;cases ts with|cons t3 ts=>cases ts;cases t3 with|lst o2 e2 z2 ts2=>exact⟨_,_,_,rfl,o,e,o2,e2,z2,ts2⟩
theorem JG:("from" : Str) ≠ "bits" := by decide +kernel
theorem X4:∀{a b:It1},itD a=itD b->a=b:=by
 intro a b h;cases a <;> cases b <;> simp only[itD,A7.tuple.injEq,List.cons.injEq,A7.str.injEq,A7.int.injEq,and_true,true_and,reduceCtorEq,and_false] at h
 ·rw[h]
 ·rw[h.1,h.2]
 ·exact absurd h.1 JG
 ·exact absurd h.1.symm JG
 obtain⟨h1,h2⟩:=h;rw[ofNat_inj.mp h1,ofNat_inj.mp h2]
open Classical in
noncomputable def pickD (w n:Int)(d:A7):Bool:=decide (∃it,d=itD it/\aZ w n it=true)
theorem wV (w n:Int)(it:It1):pickD w n (itD it)=aZ w n it:=by
 unfold pickD;cases h:aZ w n it with
 | true=>exact @decide_eq_true _ (_) ⟨it,rfl,h⟩
 | false=>exact @decide_eq_false _ (_) fun⟨it2,e,q⟩=>by rw[<- X4 e,h] at q;cases q
theorem Gr (w n:Int)(its:List It1):((its.map itD).map (pickD w n)).any id=its.any (aZ w n):=by
 rw[map_map,any_map];congr 1;funext it;exact wV w n it
def xX (w n:Int):List (List It1)->Nat
 | []=>0
 | its::r=>if its.any (aZ w n)=true then 0 else xX w n r+1
theorem Fq {w n:Int}{its:List It1}:∀{css:List (List It1)}{i:Nat},css[i]?=some its->(∀(j:Nat)(cs:List It1),j<i->css[j]?=some cs->cs.any (aZ w n)=false)->its.any (aZ w n)=true->xX w n css=i
 | c::css,0,h,_,e=>by
  simp only[EU,Option.some.injEq] at h;subst h;unfold xX;rw[if_pos e]
 | c::css,i+1,h,hb,e=>by
  unfold xX;rw[if_neg (by rw[hb 0 c ω rfl];decide),Fq (i:=i) (by simpa using h) (fun j cs hj hc=>hb (j+1) cs ω (by simpa using hc)) e]
theorem Aj {w n:Int}:∀{css:List (List It1)},(∀(j:Nat)(cs:List It1),css[j]?=some cs->cs.any (aZ w n)=false)->xX w n css=css.length
 | [],_=>rfl
 | c::css,hb=>by
  unfold xX;rw[if_neg (by rw[hb 0 c rfl];decide),Aj fun j cs hc=>hb (j+1) cs (by simpa using hc)];rfl
def JS:Sp:=fun vs H Q _=>∃(w n:Int)(x:V)(ok:Addr->Prop)(its:List It1),vs=[.int w,x,.int n]/\1<=w/\w<=40/\bC ok H x (lW its)/\∀H',Same H H'->Q (.bl (its.any (aZ w n))) H'
section
variable {prog:AW}{w:BC}{A:A3}{R:Result->AA->Prop}{s:AA}
abbrev pP (elt tg iter tg2 iter2:Expr)(scope:FA)(pos:Pos):Expr:=.ListComp elt [⟨tg,iter,[],0⟩,⟨tg2,iter2,[],0⟩] scope pos
theorem Ow (elt tg iter tg2 iter2:Expr)(scope:FA)(pos:Pos)(it acc:Ap)(env:Env) :
  compTurn (pP elt tg iter tg2 iter2 scope pos) 0 it acc env=(G8 iter.pos >>= fun _=>F5 it >>= fun r=>match r with
   | none=>pure (.done .next)
   | some v=>EX tg it v >>= fun _=>GW tg env v >>= fun _=>
    eval iter2 env >>= fun x=>G8 iter2.pos >>= fun _=>CY iter2 env x >>= fun x=>Fc [x] (pyIter x) >>= fun it2=>runOwn (.compStart (pP elt tg iter tg2 iter2 scope pos) 1 it2 acc env) env >>= fun _=>
     LH (.compLoop (pP elt tg iter tg2 iter2 scope pos) 0 it acc env)):=by rfl
theorem Vo (elt tg iter tg2 iter2:Expr)(scope:FA)(pos:Pos)(it acc:Ap)(env:Env) :
  compTurn (pP elt tg iter tg2 iter2 scope pos) 1 it acc env=(G8 iter2.pos >>= fun _=>F5 it >>= fun r=>match r with
   | none=>pure (.done .next)
   | some v=>EX tg2 it v >>= fun _=>GW tg2 env v >>= fun _=>
    (eval elt env >>= fun x=>call (.builtin "list.append") [acc,x] >>= fun _=>pure ()) >>= fun _=>
     LH (.compLoop (pP elt tg iter tg2 iter2 scope pos) 1 it acc env)):=by rfl
theorem Pq {elt tg iter tg2 iter2:Expr}{scope:FA}{pos:Pos}{it acc:Ap}{env:Env}
  (h0:FG (AH prog w) A (.compLoop (pP elt tg iter tg2 iter2 scope pos) 1 it acc env) R s)
  (h:AE (AH prog w) A (pyIter it) (fun it' s'=>FG (AH prog w) A (.compLoop (pP elt tg iter tg2 iter2 scope pos) 1 it' acc env) R s') (JO (AH prog w) A env fun x s'=>R (.error x) s') s) :
  FG (AH prog w) A (.compStart (pP elt tg iter tg2 iter2 scope pos) 1 it acc env) R s:=by
 refine Md (show AE _ _ ((compStart (pP elt tg iter tg2 iter2 scope pos) 1 it acc env).onRaise (fun x=>do Hm x env;G8 theWindowsPlace)) _ _ s from wpAny_notedAt ?_);unfold compStart;show AE _ _ (ask >>= _) _ _ s;refine An (Fs (wpAny_ite ?_));split
 ·exact Au (AB rfl h0)
 refine An (De ?_);show AE _ _ (G8 iter2.pos >>= _) _ _ s;exact An (DV (An (BO h (fun it' s' h'=>Au (AB rfl h')) fun _ _ x=>x)))
theorem Sw {elt tg iter tg2 iter2:Expr}{scope:FA}{pos:Pos}{it acc:Ap}{env:Env}(hs2:∀x,CY iter2 env x=pure x)(J:Nat->AA->Prop)
  (turn:∀n s,J n s->AE (AH prog w) A (F5 it) (fun r s1=>match r with
   | none=>R (.ok .next) s1
   | some v=>AE (AH prog w) A (EX tg it v) (fun _ s1'=>AE (AH prog w) A (GW tg env v) (fun _ s2=>
     AE (AH prog w) A (eval iter2 env) (fun x s3=>AE (AH prog w) A (pyIter x) (fun it2 s4=>
      FG (AH prog w) A (.compStart (pP elt tg iter tg2 iter2 scope pos) 1 it2 acc env) (fun r s5=>match r with | .ok _=>∃m,m<n/\J m s5 | .error _=>False) s4)
      (fun _ _=>False) s3) (fun _ _=>False) s2) (fun _ _=>False) s1') (fun _ _=>False) s1) (fun _ _=>False) s)
  (n:Nat) (h:J n s):FG (AH prog w) A (.compLoop (pP elt tg iter tg2 iter2 scope pos) 0 it acc env) R s:=by
 refine codeAny_loop rfl J (fun n z hJ=>?_) n h;show AE _ A ((compTurn (pP elt tg iter tg2 iter2 scope pos) 0 it acc env).onRaise (fun y=>do Hm y env;theTreesLotGoes y)) _ _ z;refine wpAny_noted ?_;rw[Ow];refine An (DV (An (BO (turn n z hJ) (fun r s1 h1=>?_) fun _ _ q=>q.elim)));cases r with
 | none=>exact Au h1
 | some v=>
  refine An (BO h1 (fun _ s1' h1'=>?_) fun _ _ q=>q.elim);refine An (BO h1' (fun _ s2 h2=>An (BO h2 (fun x s3 h3=>?_) fun _ _ q=>q.elim)) fun _ _ q=>q.elim);refine An (DV (An (Lm (hs2 x) (An (BI (BO h3 (fun it2 s4 h4=>?_) fun _ _ q=>q.elim))))));refine An (wpAny_runOwn (HK h4 fun r s5 h5=>?_));cases r with
  | ok f=>exact Au ⟨rfl,h5⟩
  | error e=>exact h5.elim
theorem Xq {elt tg iter tg2 iter2:Expr}{scope:FA}{pos:Pos}{it acc:Ap}{env:Env}(J:Nat->AA->Prop)
  (turn:∀n s,J n s->AE (AH prog w) A (F5 it) (fun r s1=>match r with
   | none=>R (.ok .next) s1
   | some v=>AE (AH prog w) A (EX tg2 it v) (fun _ s1'=>AE (AH prog w) A (GW tg2 env v) (fun _ s2=>
     AE (AH prog w) A (eval elt env) (fun x s4=>AE (AH prog w) A (call (.builtin "list.append") [acc,x]) (fun _ s5=>∃m,m<n/\J m s5) (fun _ _=>False) s4) (fun _ _=>False) s2) (fun _ _=>False) s1') (fun _ _=>False) s1) (fun _ _=>False) s)
  (n:Nat) (h:J n s):FG (AH prog w) A (.compLoop (pP elt tg iter tg2 iter2 scope pos) 1 it acc env) R s:=by
 refine codeAny_loop rfl J (fun n z hJ=>?_) n h;show AE _ A ((compTurn (pP elt tg iter tg2 iter2 scope pos) 1 it acc env).onRaise (fun y=>do Hm y env;theTreesLotGoes y)) _ _ z;refine wpAny_noted ?_;rw[Vo];refine An (DV (An (BO (turn n z hJ) (fun r s1 h1=>?_) fun _ _ q=>q.elim)));cases r with
 | none=>exact Au h1
 | some v=>
  refine An (BO h1 (fun _ s1' h1'=>?_) fun _ _ q=>q.elim);refine An (BO h1' (fun _ s2 h2=>An (An (BO h2 (fun x s3 h3=>?_) fun _ _ q=>q.elim))) fun _ _ q=>q.elim);exact An (BO h3 (fun _ s5 h5=>Au (Au ⟨rfl,h5⟩)) fun _ _ q=>q.elim)
end
end L2
set_option maxHeartbeats 8000000
namespace L2
open PySem PySem.Spec PyProof.Rows
def G4 (mp:List (Option Nat))(wi:TI)(g:TG)(wi2:TI)(g2:TG)(te:TE):TE:=fun σ H Q=>wi σ H fun J H1=>
 ∃W:Nat->Nat->List V->St->Hp->Prop,(∃m,W 0 m [] (jq mp σ) H1)/\∀i m acc τ H2,W i m acc τ H2 ->
  (J.stop i H2/\∀d,H2 d=none->Q (.ref d) (upd H2 d (.lst acc))) \/
  (J.go i H2/\∃N:List V->St->Hp->Prop,(∀acc' τ' H',N acc' τ' H'->∃m',m'<m/\W (i+1) m' acc' τ' H')/\∀x H3,J.yld i H2 x H3->g x τ H3 fun τ1 H4=>wi2 τ1 H4 fun J2 H5=>
   ∃W2:Nat->Nat->List V->St->Hp->Prop,(∃m2,W2 0 m2 acc τ1 H5)/\∀j m2 acc2 τ2 H6,W2 j m2 acc2 τ2 H6 ->
    (J2.stop j H6/\N acc2 τ2 H6) \/
    (J2.go j H6/\acc2.length<AM/\∃N2:List V->St->Hp->Prop,(∀acc' τ' H',N2 acc' τ' H'->∃m',m'<m2/\W2 (j+1) m' acc' τ' H')/\∀x2 H7,J2.yld j H6 x2 H7->g2 x2 τ2 H7 fun τ3 H8=>te τ3 H8 fun v H9=>N2 (acc2++[v]) τ3 H9))
section
variable {X:Cx}{NX N:List Str}{kX:List (Str×DS)}{mp:List (Option Nat)}{scope:FA}
theorem Rm {tg iter tg2 iter2 elt:Expr}{pos:Pos}{wi wi2:TI}{g g2:TG}{te:TE}(N:List Str)(mp:List (Option Nat))(hNX:X.N=NX)(hkX:X.env.scope.names=kX)(S:vH NX kX N mp scope)(hc:X.calm=true)
  (hi:PI X tg iter wi) (hg:∀cl C s H fp,PG (bD X N scope cl C s H fp) tg g) (hi2:∀cl C s H fp,PI (bD X N scope cl C s H fp) tg2 iter2 wi2) (hg2:∀cl C s H fp,PG (bD X N scope cl C s H fp) tg2 g2) (he:∀cl C s H fp,PE (bD X N scope cl C s H fp) elt te)
  (hs:∀x,CY iter X.env x=pure x:=by intro _;rfl) (hs2:∀env x,CY iter2 env x=pure x:=by intro _ _;rfl):PE X (pP elt tg iter tg2 iter2 scope pos) (G4 mp wi g wi2 g2 te):=by
 intro pins s σ H Q I h;obtain⟨cl,hcl,hsub,hhas⟩:=CZ (env:=X.env) (scope:=scope) fun y hy hf=>I.ok.has y.1 (by
  rcases S.fre y hy hf with q|q
  ·exact .inl (show X.env.scope.names.lookup y.1=_ by rw[hkX];exact q)
  exact .inr (show X.env.scope.names.lookup y.1=_ by rw[hkX];exact q))
 rw[eval_ListComp];refine LB (use:=none) rfl hs hcl S.kind S.locs ?_;refine thn (hi pins s σ H _ I h) fun v s1 h1=>thn h1 fun itv s2 h2=>?_;obtain⟨it,fp,tn,J,H2,e,I2,T,st2,f2,W,⟨m0,w0⟩,turn⟩:=h2;subst e;refine BM (MA S.nocell (by intro y hy;simp at hy) (fun h3 hns hsb=>?_) S.kind);dsimp only at hns hsb |-;have hold:∀b∈fp,b<s2.heap.objs.size:=fun b hb=>by
  obtain⟨o,q,_⟩:=T.obj _ _ st2 b hb;exact AZ q
 generalize hD:s2.heap.objs.size=D at hns hsb;generalize hH2:s2.heap.push { cls:=.type "list",dict:=none,data:=.seq ([]:List Ap).toArray }=P2 at hns hsb |-;have hC:P2.objs.size=D+1:=by rw[<- hH2,D7,hD]
 generalize hC':P2.objs.size=C at hns hsb |-;rw[hC'] at hC;have old:∀b o,s2.heap.get? b=some o->h3.get? b=some o:=fun b o q=>by
  have hb:=AZ q;exact hsb.extBut b o (na1 hb hD hC) (AD _ (hH2 ▸ AD _ q))
 have accD:h3.get? D=some { cls:=.type "list",data:=.seq ([]:List Ap).toArray }:=
  hsb.extBut _ _ (na2 hC) (AD _ (by rw[<- hH2,<- hD];exact A8 _ rfl))
 have hfr:D∉frs X.stack:=fun z=>by
  rcases BB.mp (I2.qP D z) with q|q
  ·exact na0 I2.lt hD q.symm
  exact I2.Xi (na4 hD) q
 have I0:Inv (bD X N scope cl C s2 H2 fp) [(D,{ cls:=.type "list",data:=.seq ([]:List Ap).toArray })] (jq mp σ) H2 { s2 with heap:=h3,toks:=s2.toks+([]:List (Str×Ap)).length }:=
  CW (s':={ s2 with heap:=h3,toks:=s2.toks+([]:List (Str×Ap)).length }) hNX hkX S I2 f2 hold (na3 hD hC) hsub hhas rfl rfl ⟨_,hns⟩ old fun p hp=>by
   have ep:=AK.mp hp;subst ep;exact⟨accD,I2.hok.fresh (na4 hD),na2 hC,hfr,fun v z=>by cases z⟩
 have T0:tn 0 h3:=T.keep _ _ _ st2 fun b _ o q=>old b o q;have no:∀{α:Type}{t:Sem α}{Q1 Q2:α->AA->Prop}{E:Ap->AA->Prop}{z:AA},AE (AH X.prog X.w) X.A t Q1 (fun _ _=>False) z->(∀a z,Q1 a z->Q2 a z)->AE (AH X.prog X.w) X.A t Q2 E z:=
  fun q f=>BO q f fun _ _ z=>z.elim
 have loop:∀z:AA,z={ s2 with heap:=h3,toks:=s2.toks+([]:List (Str×Ap)).length } ->
   FG (AH X.prog X.w) X.A (.compLoop (pP elt tg iter tg2 iter2 scope pos) 0 (.ref it) (.ref D) (HP scope cl C X.env))
    (compPost (AH X.prog X.w) X.A X.xe none (EP X pins σ Q) (.ref D) C) z:=by
  rintro z rfl;have stat:∀{H':Hp}{pl:List (Addr×Obj)},(∀b∈fp,H' b=none)->(∀p∈pl,p.1=D)->∀b∈fp,rT (bD X N scope cl C s2 H2 fp) pl H' b:=fun hn hp b hb=>by
   have hb2:=hold b hb;refine⟨hn b hb,na1 hb2 hD hC,(CV hkX S I2 f2 hold (na3 hD hC) hsub hhas).exfs b hb,.inl hb,fun x c q=>(f2 b hb).2.2.2.2.1 x c (hsub x c q),fun p hpp=>?_⟩;have hpD:=hp p (by simpa [bD] using hpp);rw[hpD];exact(na0 hb2 hD).symm
  refine Sw (env:=HP scope cl C X.env) (hs2 _) (fun n z=>∃i acc τ H' its k,Inv (bD X N scope cl C s2 H2 fp) [(D,{ cls:=.type "list",data:=.seq (DM its) k })] τ H' z/\tn i z.heap/\(∀b∈fp,H' b=none)/\Vals acc its/\acc.length<=AM/\W i n acc τ H')
   ?_ m0 ⟨0,[],_,H2,[],0,I0,T0,fun b hb=>(f2 b hb).1,.nil,D2 _,w0⟩
  rintro n s5 ⟨i,acc,τ,H5,its,k,I5,st5,fr5,va,hz,w5⟩;rcases turn i n acc τ H5 w5 with⟨stop,qn⟩|⟨go,N9,hN9,step⟩
  ·refine no (T.done (bD X N scope cl C s2 H2 fp) rfl rfl rfl hc i _ s5 τ H5 _ I5 (stat fr5 (by simp)) st5 stop) fun r s6 ⟨hr,I6⟩=>?_;subst hr;obtain⟨m6,hn6,_⟩:=I6.loc;refine⟨m6,hn6,fun h' sb=>?_⟩;obtain⟨dD,nD,_,_,_⟩:=I6.pin (D,_) (AQ _ (AK.mpr rfl));have U:=I6.base;have nC:H5 C=none:=I6.free;have ne:∀b o,s2.heap.get? b=some o->b≠C/\b≠D:=fun b o q=>by
    exact⟨na1 (AZ q) hD hC,na0 (AZ q) hD⟩
   have keepC:∀b o,b≠C->s6.heap.get? b=some o->h'.get? b=some o:=fun b o hb q=>(sb.2 b hb).trans q;have U':Un (frs X.stack) fp H2 (upd H5 D (.lst acc)) s2.heap h':=by
    refine⟨fun b o q n1 hb hx=>keepC b o (ne b o q).1 (U.keep b o q n1 hb hx),fun b o q n1 hb hx=>?_,fun b o q n1 hx=>?_,fun b o q hx=>?_,fun b xs q=>?_,fun b o xs q=>?_,fun b ps q=>?_⟩
    ·obtain⟨sl,z⟩:=U.slot b o q n1 hb hx;exact⟨sl,keepC b _ (ne b o q).1 z⟩
    ·rw[aF (ne b o q).2];exact U.free b o q n1 hx
    ·obtain⟨o',z⟩:=U.there b o q hx;exact⟨o',keepC b _ (ne b o q).1 z⟩
    ·have z:=U.tups b xs q;rw[aF (aG z nD)];exact z
    ·have z:=U.frzs b o xs q;rw[aF (aG z nD)];exact z
    obtain⟨more,z⟩:=U.tbls b ps q;exact⟨more,by rw[aF (aG z nD)];exact z⟩
   have hok:HOk X.prog X.w (upd H5 D (.lst acc)) h':=fun b u q=>by
    by_cases hb:b=D
    ·subst hb;rw[aB] at q;cases q;exact⟨hz,its,k,va,keepC _ _ (na2 hC) dD⟩
    rw[aF hb] at q;refine(I6.hok b u q).stay (fun c v hcc z=>keepC c v ?_ z) (fun c z=>by rw[aF (aG z nD)];exact z) fun c xs z=>by rw[aF (aG z nD)];exact z
    rcases hcc with z1|z1
    ·subst z1;exact aG q nC
    exact aG z1 nC
   have I7:Inv X pins σ (upd H5 D (.lst acc)) { s6 with heap:=h' }:=I2.call' (s':={ s6 with heap:=h' }) (ch:=fp) I6.os U' hok I6.bare fun b hb=>by
    obtain⟨_,a2,_,a4,a5,a6⟩:=f2 b hb;exact⟨a4,a2,a5,a6⟩
   exact⟨.ref D,_,I7,rfl,qn D nD⟩
  refine no (T.item (bD X N scope cl C s2 H2 fp) rfl rfl rfl hc i _ s5 τ H5 _ I5 (stat fr5 (by simp)) st5 go) fun r s6 ⟨u,hr,h6⟩=>?_;subst hr;refine no h6 fun _ s7 ⟨x,H7,I7,r7,y7,st7,fr7⟩=>?_;have I7':=I7.pinned (stat fr7 (by simp)) (T.obj _ _ st7);have LH:∀{H':Hp}{z:AA}{its':List Ap}{k':Nat}{τ1:St},Inv (bD X N scope cl C s2 H2 fp) ([(D,{ cls:=.type "list",data:=.seq (DM its') k' })]++gq fp s7.heap) τ1 H' z ->
    tn (i+1) z.heap/\(∀b∈fp,H' b=none)/\Inv (bD X N scope cl C s2 H2 fp) [(D,{ cls:=.type "list",data:=.seq (DM its') k' })] τ1 H' z:=fun {H' z its' k' τ1} Iz=>by
   have get:∀b∈fp,∀o,s7.heap.get? b=some o->z.heap.get? b=some o/\H' b=none:=fun b hb o q=>by
    obtain⟨a1,a2,_⟩:=Iz.pin (b,o) (AQ _ (AQ _ (iZ hb q)));exact⟨a1,a2⟩
   refine⟨T.keep _ _ _ st7 fun b hb o q=>(get b hb o q).1,fun b hb=>?_,Iz.jC⟩;obtain⟨o,q,_⟩:=T.obj _ _ st7 b hb;exact(get b hb o q).2
  refine no (hg cl C s2 H2 fp _ s7 τ H7 x u _ I7' r7 (step x H7 y7)) fun _ s8 ⟨τ1,H8,I8,q8⟩=>?_
  -- the second walk
  refine no (hi2 cl C s2 H2 fp _ s8 τ1 H8 _ I8 q8) fun v9 s9 h9=>no h9 fun itv2 s10 h10=>?_;obtain⟨it2,fp2,tn2,J2,H10,e2,I10,T2,st10,f10,W2,⟨m2,w10⟩,turn2⟩:=h10;subst e2;have stat2:∀{H':Hp}{its':List Ap}{k':Nat},(∀b∈fp2,H' b=none)->∀b∈fp2,rT (bD X N scope cl C s2 H2 fp) ([(D,{ cls:=.type "list",data:=.seq (DM its') k' })]++gq fp s7.heap) H' b:=fun {H' its' k'} hn b hb=>by
   obtain⟨_,a2,a3,a4,a5,a6⟩:=f10 b hb;refine⟨hn b hb,a2,a3,a4,a5,fun p hp=>?_⟩;rcases A6.mp hp with z|z
   ·exact a6 p (Cc _ z)
   rcases A6.mp z with z|z
   ·have ep:=AK.mp z;subst ep;exact a6 (D,{ cls:=.type "list",data:=.seq (DM its) k }) (AQ _ (Cc _ (AK.mpr rfl)))
   exact a6 p (AQ _ (AQ _ z))
  have nD2:∀b∈fp2,b≠D:=fun b hb=>by
   obtain⟨_,_,_,_,_,a6⟩:=f10 b hb;exact(a6 (D,{ cls:=.type "list",data:=.seq (DM its) k }) (AQ _ (Cc _ (AK.mpr rfl)))).symm
  have inner:FG (AH X.prog X.w) X.A (.compLoop (pP elt tg iter tg2 iter2 scope pos) 1 (.ref it2) (.ref D) (HP scope cl C X.env))
    (fun r s5=>match r with | .ok _=>∃m,m<n/\∃i acc τ H' its k,Inv (bD X N scope cl C s2 H2 fp) [(D,{ cls:=.type "list",data:=.seq (DM its) k })] τ H' s5/\tn i s5.heap/\(∀b∈fp,H' b=none)/\Vals acc its/\acc.length<=AM/\W i m acc τ H' | .error _=>False) s10:=by
   refine Xq (env:=HP scope cl C X.env) (fun n z=>∃j acc τ H' its k,Inv (bD X N scope cl C s2 H2 fp) ([(D,{ cls:=.type "list",data:=.seq (DM its) k })]++gq fp s7.heap) τ H' z/\tn2 j z.heap/\(∀b∈fp2,H' b=none)/\Vals acc its/\acc.length<=AM/\W2 j n acc τ H')
    ?_ m2 ⟨0,acc,τ1,H10,its,k,I10,st10,fun b hb=>(f10 b hb).1,va,hz,w10⟩
   rintro n2 s11 ⟨j,acc2,τ2,H11,its2,k2,I11,st11,fr11,va2,hz2,w11⟩;rcases turn2 j n2 acc2 τ2 H11 w11 with⟨stop,qn⟩|⟨go2,hlt,N2,hN2,step2⟩
   ·refine no (T2.done (bD X N scope cl C s2 H2 fp) rfl rfl rfl hc j _ s11 τ2 H11 _ I11 (stat2 fr11) st11 stop) fun r s12 ⟨hr,I12⟩=>?_;subst hr;obtain⟨m',hm,w12⟩:=hN9 _ _ _ qn;obtain⟨a1,a2,a3⟩:=LH I12;exact⟨m',hm,i+1,acc2,τ2,H11,its2,k2,a3,a1,a2,va2,hz2,w12⟩
   refine no (T2.item (bD X N scope cl C s2 H2 fp) rfl rfl rfl hc j _ s11 τ2 H11 _ I11 (stat2 fr11) st11 go2) fun r s12 ⟨u2,hr,h12⟩=>?_;subst hr;refine no h12 fun _ s13 ⟨x2,H13,I13,r13,y13,st13,fr13⟩=>?_;have I13':=I13.pinned (stat2 fr13) (T2.obj _ _ st13);refine no (hg2 cl C s2 H2 fp _ s13 τ2 H13 x2 u2 _ I13' r13 (step2 x2 H13 y13)) fun _ s14 ⟨τ3,H14,I14,q14⟩=>?_;refine no (he cl C s2 H2 fp _ s14 τ3 H14 _ I14 q14) fun y s15 ⟨v,H15,I15,rv,q15⟩=>?_;obtain⟨m',hm,w15⟩:=hN2 _ _ _ q15;have get2:∀b∈fp2,∀o,s13.heap.get? b=some o->s15.heap.get? b=some o/\H15 b=none:=fun b hb o q=>by
    obtain⟨a1,a2,_⟩:=I15.pin (b,o) (AQ _ (AQ _ (iZ hb q)));exact⟨a1,a2⟩
   have t15:tn2 (j+1) s15.heap:=T2.keep _ _ _ st13 fun b hb o q=>(get2 b hb o q).1;have f15:∀b∈fp2,H15 b=none:=fun b hb=>by
    obtain⟨o,q,_⟩:=T2.obj _ _ st13 b hb;exact(get2 b hb o q).2
   have I16:=I15.jC;obtain⟨dD,nD,_,_,_⟩:=I16.pin (D,_) (AQ _ (Cc _ (AK.mpr rfl)));have hlen:=va2.length;refine Iy KA ⟨_,dD,rfl⟩ Jn (IU _ _) (K2 D its2.toArray k2 y (by rw[Bz];omega)) ⟨dD,?_⟩;obtain⟨k',q⟩:∃k',(s15.heap.update D (Cf fun a=>a.push y)).get? D=some { cls:=.type "list",data:=.seq (its2++[y]).toArray k' }:=by
    have q:=LI dD (fun a=>a.push y);rw[show its2.toArray.push y=(its2++[y]).toArray by simp] at q;exact⟨_,q⟩
   have a4:Inv (bD X N scope cl C s2 H2 fp) (gq fp s7.heap) τ3 H15 s15:=I16.kE fun p hp=>I16.pin p (AQ _ (AQ _ hp));have a5:Inv (bD X N scope cl C s2 H2 fp) (gq fp s7.heap) τ3 H15 { s15 with heap:=s15.heap.update D (Cf fun a=>a.push y),toks:=s15.toks }:=
    a4.turned (it:=D) (fun b o hb z=>(BU _ _ (B2 hb)).trans z) nD (na2 hC) (.inr (na4 hD))
     (fun x c z=>by
      obtain⟨_,o,h1,_⟩:=I2.cell x c (hsub x c z);exact na0 (AZ h1) hD) fun p hp=>by
      have hb:=(qe (by simpa [bD] using hp)).1;exact na0 (hold _ hb) hD
   refine⟨m',hm,j+1,acc2++[v],τ3,H15,its2++[y],k',a5.kE fun p hp=>?_,T2.keep _ _ _ t15 fun b hb o z=>(BU _ _ (nD2 b hb).symm).trans z,f15,va2.append (.cons rv .nil),by rw[AO,A9];omega,w15⟩;rcases A6.mp hp with z|z
   ·have ep:=AK.mp z;subst ep;exact⟨q,nD,na2 hC,hfr,fun v z=>by cases z⟩
   exact a5.pin p (AQ _ z)
  exact Pq inner (T2.self _ 0 _ _ _ st10 inner)
 exact L6 (loop _ rfl) (T.self _ 0 _ _ _ T0 (loop _ rfl))
end
end L2
set_option maxHeartbeats 4000000
namespace L2
open PySem PySem.Spec PyProof.Rows
def InW (g2:TG)(te:TE)(N:List V->St->Hp->Prop)(acc:List V)(τ1:St)(J2:It)(H5:Hp):Prop:=
 ∃W2:Nat->Nat->List V->St->Hp->Prop,(∃m2,W2 0 m2 acc τ1 H5)/\∀j m2 acc2 τ2 H6,W2 j m2 acc2 τ2 H6 ->
  (J2.stop j H6/\N acc2 τ2 H6) \/
  (J2.go j H6/\acc2.length<AM/\∃N2:List V->St->Hp->Prop,(∀acc' τ' H',N2 acc' τ' H'->∃m',m'<m2/\W2 (j+1) m' acc' τ' H')/\∀x2 H7,J2.yld j H6 x2 H7->g2 x2 τ2 H7 fun τ3 H8=>te τ3 H8 fun v H9=>N2 (acc2++[v]) τ3 H9)
def Zv (mp:List (Option Nat))(g:TG)(wi2:TI)(g2:TG)(te:TE)(σ:St)(Q:VK)(J:It)(H1:Hp):Prop:=
 ∃W:Nat->Nat->List V->St->Hp->Prop,(∃m,W 0 m [] (jq mp σ) H1)/\∀i m acc τ H2,W i m acc τ H2 ->
  (J.stop i H2/\∀d,H2 d=none->Q (.ref d) (upd H2 d (.lst acc))) \/
  (J.go i H2/\∃N:List V->St->Hp->Prop,(∀acc' τ' H',N acc' τ' H'->∃m',m'<m/\W (i+1) m' acc' τ' H')/\∀x H3,J.yld i H2 x H3->g x τ H3 fun τ1 H4=>wi2 τ1 H4 (InW g2 te N acc τ1))
section
variable {mp:List (Option Nat)}{wi wi2:TI}{g g2:TG}{te:TE}{σ τ1:St}{H:Hp}{Q:VK}{R:It->Hp->Prop}{K:AC}{a:Addr}{xs:List V}
theorem Yz (h:∀R:It->Hp->Prop,R=Zv mp g wi2 g2 te σ Q->wi σ H R):G4 mp wi g wi2 g2 te σ H Q:=h _ rfl
theorem Yy (hR:R=Zv mp g wi2 g2 te σ Q)(Pv:Nat->List V->St->Hp->Prop)(h0:Pv 0 [] (jq mp σ) H)
  (hq:∀i acc τ H,Pv i acc τ H->SqL K H a xs)
  (hs:∀i x acc τ H,xs[i]?=some x->Pv i acc τ H->g x τ H fun τ1 H4=>∀R2:It->Hp->Prop,R2=InW g2 te (Pv (i+1)) acc τ1->wi2 τ1 H4 R2)
  (hg:∀x τ H k k',(∀τ' H',k τ' H'->k' τ' H')->g x τ H k->g x τ H k')
  (hd:∀acc τ H d,Pv xs.length acc τ H->H d=none->Q (.ref d) (upd H d (.lst acc))):R (Itl K a) H:=by
 subst hR;refine⟨fun i m acc τ H2=>m=xs.length-i/\i<=xs.length/\Pv i acc τ H2,⟨_,rfl,D2 _,h0⟩,?_⟩;rintro i m acc τ H2 ⟨rfl,hi,p⟩;by_cases hlt:i<xs.length
 ·refine .inr ⟨⟨xs,xs[i],hq i acc τ H2 p,AR hlt⟩,Pv (i+1),fun acc' τ' H' q=>⟨_,ω,rfl,hlt,q⟩,fun x H3 y=>?_⟩;obtain⟨rfl,hx⟩:=y;exact hg _ _ _ _ _ (fun τ' H' z=>z _ rfl) (hs i x acc τ _ (hx xs (hq i acc τ _ p)) p)
 have e:i=xs.length:=ω;subst e;exact .inl ⟨⟨xs,hq _ acc τ H2 p,AY _⟩,fun d hd'=>hd acc τ H2 d p hd'⟩
theorem acV {N:List V->St->Hp->Prop}{acc0:List V}(hR:R=InW g2 te N acc0 τ1)(Pw:Nat->List V->St->Hp->Prop)(h0:Pw 0 acc0 τ1 H)
  (hl:∀j acc τ H,j<xs.length->Pw j acc τ H->acc.length<AM) (hq:∀i acc τ H,Pw i acc τ H->SqL K H a xs)
  (hs:∀i x acc τ H,xs[i]?=some x->Pw i acc τ H->g2 x τ H fun τ3 H8=>te τ3 H8 fun v H9=>Pw (i+1) (acc++[v]) τ3 H9)
  (hd:∀acc τ H,Pw xs.length acc τ H->N acc τ H):R (Itl K a) H:=by
 subst hR;refine⟨fun i m acc τ H2=>m=xs.length-i/\i<=xs.length/\Pw i acc τ H2,⟨_,rfl,D2 _,h0⟩,?_⟩;rintro i m acc τ H2 ⟨rfl,hi,p⟩;by_cases hlt:i<xs.length
 ·refine .inr ⟨⟨xs,xs[i],hq i acc τ H2 p,AR hlt⟩,hl i acc τ H2 hlt p,Pw (i+1),fun acc' τ' H' q=>⟨_,ω,rfl,hlt,q⟩,fun x H3 y=>?_⟩;obtain⟨rfl,hx⟩:=y;exact hs i x acc τ _ (hx xs (hq i acc τ _ p)) p
 have e:i=xs.length:=ω;subst e;exact .inl ⟨⟨xs,hq _ acc τ H2 p,AY _⟩,hd acc τ H2 p⟩
end
section
variable {X:Cx}
theorem Q5 {NX:List Str}{kX:List (Str×DS)}{scope:FA}{tg iter tg2 iter2 elt:Expr}{pos:Pos}{wi wi2:TI}{g g2:TG}{te:TE}(N:List Str)(mp:List (Option Nat))(hNX:X.N=NX)(hkX:X.env.scope.names=kX)(S:vH NX kX N mp scope)(hc:X.calm=true)
  (hi:QI X tg iter wi) (hg:∀cl C s H fp,QG (bD X N scope cl C s H fp) tg g) (hi2:∀cl C s H fp,QI (bD X N scope cl C s H fp) tg2 iter2 wi2) (hg2:∀cl C s H fp,QG (bD X N scope cl C s H fp) tg2 g2) (he:∀cl C s H fp,QE (bD X N scope cl C s H fp) elt te)
  (hs:∀x,CY iter X.env x=pure x:=by intro _;rfl) (hs2:∀env x,CY iter2 env x=pure x:=by intro _ _;rfl):QE X (.ListComp elt [⟨tg,iter,[],0⟩,⟨tg2,iter2,[],0⟩] scope pos) (G4 mp wi g wi2 g2 te):=
 ⟨Rm N mp hNX hkX S hc hi.h (fun cl C s H fp=>(hg cl C s H fp).h) (fun cl C s H fp=>(hi2 cl C s H fp).h) (fun cl C s H fp=>(hg2 cl C s H fp).h) (fun cl C s H fp=>(he cl C s H fp).h) hs hs2⟩
end
section
variable {X:Cx}{o e:Expr}{p pos:Pos}{to ti:TE}
theorem U6 (o:Expr)(u)(e:Expr)(p pos:Pos)(env:Env)(v:Ap):GW (.Subscript o (.UnaryOp u e p) pos) env v=(do
   let ov <- Fc [v] (eval o env)
   let iv <- Fc [v,ov] (eval (.UnaryOp u e p) env)
   G8 pos
   Fc [v,ov,iv] (setItem ov iv v)
   release [v,ov,iv] []):=rfl
theorem Wg {u}{t:Vb}(ho:QE X o to)(hi:QE X (.UnaryOp u e p) ti)(hs:Vd X t):QG X (.Subscript o (.UnaryOp u e p) pos) (Yl to ti t):=⟨Rf ho.h hi.h hs (fun v=>U6 o u e p pos X.env v)⟩
end
end L2
namespace SRT
open PySem PySem.Builtin PySem.Builtin.List PyProof.Rows
def jt:EJ:=(sortPriv% PySem.Builtin.KeyKind.tuples) true
section
variable {prog:AW}{w:BC}{s:AA}{A:A3}{E:Ap->AA->Prop}
theorem HD {a b:Int}{t u:Tok}{Q:Bool->AA->Prop}(h:Q (decide (a<b)) s):AE (AH prog w) A (oneLt' false (.int a t) (.int b u)) Q E s:=by
 rw[oneLt'_eq];refine An (wpAny_richCompare_same (op:=.Lt) (T := "int") (Kx s a t) (Kx s b u) slot_int_lt (call_int_lt ⟨(by intro h;cases h),?_⟩));exact Da h
end
end SRT
namespace SRT
open PySem PyProof.Rows
def Rk (f:A0->Int)(xs:Array A0)(i:Nat):Int:=match xs[i]? with
 | some p=>f p
 | none=>0
theorem Rk.at {f:A0->Int}{xs ys:Array A0}{i j:Nat}(h:xs[i]?=ys[j]?):Rk f xs i=Rk f ys j:=by
 unfold Rk;rw[h]
def Asc (f:A0->Int)(xs:Array A0)(n:Nat):Prop:=∀i j,i<j->j<n->Rk f xs i<Rk f xs j
def Dsc (f:A0->Int)(xs:Array A0)(n:Nat):Prop:=∀i j,i<j->j<n->Rk f xs j<Rk f xs i
structure RB (a₀:Array A0)(st:Ch):Prop where
 kind:kindOf st=jt
 perm:(AL st).toList.Perm a₀.toList
 fail:IX st=none
 pend:A1 st=#[]
theorem RB.size {a₀:Array A0}{st:Ch}(h:RB a₀ st):(AL st).size=a₀.size:=by
 have:=h.perm.length_eq;simpa using this
end SRT
namespace SRT
open PySem PyProof.Rows
end SRT
namespace SRT
open PySem PyProof.Rows
section
variable {prog:AW}{w:BC}{s:AA}{A:A3}{E:Ap->AA->Prop}
theorem Dy {v:Ap}{vs:List Ap}{ns:List Int}(hI:D5 (v::vs) ns):oneTypeOnly' (v::vs).toArray=pure (some (.type "int")):=by
 simp only[oneTypeOnly'_eq,mapM_toArray,mapM_typeOf_ints hI,map_pure,pure_bind,F9,Mm,EU];rw[if_pos ?_];rw[List.all_toArray,all_cons];have e:(Ap.type "int" == Ap.type "int")=true:=rfl;rw[e,F1,all_map];exact Lc.mpr fun _ _=>rfl
theorem gU {vs:List Ap}{p:A0}(h:p∈(EG vs).toList):p.1∈vs/\p.2=p.1:=by
 unfold EG at h;rw[Array.toList_zip] at h;obtain⟨i,hi,rfl⟩:=MY h;simp
end
end SRT
namespace SRT
open PySem PyProof.Rows
end SRT
namespace L2
open PySem PySem.Spec PyProof.Rows
theorem uD:∀{ps:List Addr}{us:List Ap},Vals (ps.map V.ref) us->us=ps.map Ap.ref
 | [],_,h=>by cases h;rfl
 | p::ps,_,h=>by
  cases h with
  | cons r h=>
   cases r;rw[uD h];rfl
theorem uJ:∀(ps:List Addr),Vals (ps.map V.ref) (ps.map Ap.ref)
 | []=>.nil
 | p::ps=>.cons rfl (uJ ps)
theorem zX:∀{xs:List Ap}{ps:List Addr},xs.Perm (ps.map Ap.ref)->∃qs:List Addr,xs=qs.map Ap.ref/\qs.Perm ps:=fun {xs ps} h=>by
 have hx:∀v∈xs,∃p,v=Ap.ref p:=fun v hv=>by
  obtain⟨p,_,e⟩:=EF.mp (h.mem_iff.mp hv);exact⟨p,e.symm⟩
 obtain⟨qs,rfl⟩:∃qs:List Addr,xs=qs.map Ap.ref:=by
  clear h
  induction xs with
  | nil=>exact⟨[],rfl⟩
  | cons v xs ih=>
   obtain⟨p,rfl⟩:=hx v (BE ..);obtain⟨qs,rfl⟩:=ih fun x m=>hx x (A4 _ m);exact⟨p::qs,rfl⟩
 refine⟨qs,rfl,?_⟩;have:=h.filterMap fun v=>match v with | .ref p=>some p|_=>none
 simpa [M0,Function.comp_def] using this
end L2
namespace SRT
open PySem PyProof.Rows
def TP (s:AA) (x:Ap) (a:Int):Prop:=∃q o n t z,x=.ref q/\s.heap.get? q=some o/\o.cls=.type "tuple" /\ o.data=.seq #[.int a t,z] n
section
variable {prog:AW}{w:BC}{s:AA}{A:A3}{E:Ap->AA->Prop}
theorem abt {v:Ap}{a:Int}{Q:Option Ap->AA->Prop}(h:TP s v a)(q:∀t,Q (some (.int a t)) s):AE (AH prog w) A (Na v) Q E s:=by
 obtain⟨p,o,n,t,z,rfl,ho,hc,hs⟩:=h;show AE _ _ (typeOf (.ref p) >>= fun ty=>_) _ _ s;refine An (JE (T := "tuple") (show s.TypeIs (.ref p) "tuple" from⟨o,ho,hc⟩) ?_);rw[if_neg δ];exact An (GS ho hs (Au (q t)))
theorem firstsP:∀{vs:List Ap}{Q:List (Option Ap)->AA->Prop},(∀v∈vs,∃a,TP s v a)->(∀(ws:List Ap)(ns:List Int),D5 ws ns->ws.length=vs.length->Q (ws.map some) s)->AE (AH prog w) A (vs.mapM Na) Q E s
 | [],Q,_,q=>by
  rw[mapM_nil];exact Au (q [] [] .nil rfl)
 | v::vs,Q,h,q=>by
  rw[List.mapM_cons];obtain⟨a,hv⟩:=h v (BE ..);refine An (abt hv fun t=>?_);refine An (firstsP (vs:=vs) (fun x hx=>h x (A4 _ hx)) fun ws ns hI hl=>?_);exact Au (q (.int a t::ws) (a::ns) (.cons a t hI) (by rw[BA,BA,hl]))
theorem acr {vs:List Ap}{Q:EJ->AA->Prop}(h:∀v∈vs,∃a,TP s v a)(hn:1<=vs.length)(q:Q jt s):AE (AH prog w) A (keyKind' vs.toArray) Q E s:=by
 rw[keyKind'_eq];rw[mapM_toArray];rw[map_eq_pure_bind];refine An (An (firstsP h fun ws ns hI hl=>Au ?_));have ha:(ws.map some).toArray.all (·.isSome)=true:=by simp
 rw[if_pos ha];have hfm:(ws.map some).toArray.filterMap id=ws.toArray:=by simp [M0]
 rw[hfm];cases ws with
 | nil=>rw[<- hl] at hn;cases hn
 | cons v ws=>
  rw[Dy hI];refine An (De ?_);exact An (Au (Au q))
end
end SRT
namespace L2
open PySem PySem.Spec PyProof.Rows
def rkP (key:Addr->Int):Ap->Int
 | .ref p=>key p
 | _=>0
end L2
namespace SRT
open PySem PyProof.Rows
def Inn (a₀ xs:Array A0):Prop:=∀(i:Nat) p,xs[i]?=some p->p∈a₀.toList
theorem bO {f:A0->Int}{xs:Array A0}{i:Nat}{p:A0}(h:xs[i]?=some p):Rk f xs i=f p:=by unfold Rk;rw[h]
end SRT
namespace SRT
open PySem PyProof.Rows
section
variable {κ:EJ}{prog:AW}{w:BC}{s:AA}{A:A3}{E:Ap->AA->Prop}{a₀:Array A0}{f:A0->Int}
abbrev Upl (f:A0->Int)(xs:List A0):Prop:=xs.Pairwise fun x y=>f x<f y
structure SI (f:A0->Int)(a b out:Array A0)(i j:Nat):Prop where
 pm:(dY a b out i j).Perm (a.toList++b.toList)
 up:Upl f out.toList
 ga:∀o,o∈out.toList->∀t,i<=t->t<a.size->f o<Rk f a t
 gb:∀o,o∈out.toList->∀t,j<=t->t<b.size->f o<Rk f b t
def RetQ (f:A0->Int)(a b:Array A0)(c:Option (Array A0)):Prop:=∃r,c=some r/\r.toList.Perm (a.toList++b.toList)/\Upl f r.toList
end
end SRT
namespace SRT
open PySem PyProof.Rows
section
variable {κ:EJ}{prog:AW}{w:BC}{s:AA}{A:A3}{E:Ap->AA->Prop}{a₀:Array A0}{f:A0->Int}
structure SH (f:A0->Int)(a b out:Array A0)(i j:Nat):Prop where
 pm:(iW a b out i j).Perm (a.toList++b.toList)
 up:out.toList.Pairwise fun x y=>f y<f x
 ga:∀o,o∈out.toList->∀t,t<i->t<a.size->Rk f a t<f o
 gb:∀o,o∈out.toList->∀t,t<j->t<b.size->Rk f b t<f o
end
end SRT
namespace SRT
open PySem PyProof.Rows
section
variable {κ:EJ}{prog:AW}{w:BC}{s:AA}{A:A3}{E:Ap->AA->Prop}{a₀:Array A0}{f:A0->Int}{pd:Array (Nat×Nat×Nat)}
def acF (f:A0->Int)(xs:Array A0)(lo hi:Nat):Prop:=∀i j,lo<=i->i<j->j<hi->Rk f xs i<Rk f xs j
structure QB (κ:EJ)(a₀:Array A0)(pd:Array (Nat×Nat×Nat))(st:Ch):Prop where
 kind:kindOf st=κ
 perm:(AL st).toList.Perm a₀.toList
 fail:IX st=none
 pend:A1 st=pd
theorem QB.size {st:Ch}(h:QB κ a₀ pd st):(AL st).size=a₀.size:=by simpa using h.perm.length_eq
theorem QB.set {st:Ch}{xs:Array A0}(h:QB κ a₀ pd st)(hp:xs.Perm (AL st)):QB κ a₀ pd (setArr st xs):=⟨h.kind,(Array.perm_iff_toList_perm.mp hp).trans h.perm,h.fail,h.pend⟩
theorem QB.inn {st:Ch}(h:QB κ a₀ pd st):Inn a₀ (AL st):=fun i p e=>h.perm.mem_iff.mp (by simpa using Array.mem_of_getElem? e)
end
end SRT
namespace SRT
open PySem PyProof.Rows
theorem Wm {a m:Array A0}{c e:Nat}(h:c+m.size=e)(he:e<=a.size)(t:Nat):(m.toList.zipIdx.foldl (fun a (x:A0×Nat)=>a.setIfInBounds (c+x.2) x.1) a)[t]?=if t<c then a[t]? else if t<e then m[t-c]? else a[t]?:=by
 have ea:a.toList=a.toList.take c++((a.toList.drop c).take m.size++a.toList.drop e):=by
  rw[<- h,<- drop_drop,LW,LW]
 have:=BV m.toList 0 (a.toList.take c) ((a.toList.drop c).take m.size) (a.toList.drop e) c (by simp;omega) (by simp;omega) a ea;rw[<- Ct,this];by_cases c1:t<c
 ·rw[if_pos c1,GV (by simp;omega),List.getElem?_take,if_pos c1,Ct]
 rw[if_neg c1,F2 (by simp;omega)];have l1:(a.toList.take c).length=c:=by simp;omega
 rw[l1];by_cases c2:t<e
 ·rw[if_pos c2,GV (by simp;omega),Ct]
 rw[if_neg c2,F2 (by simp;omega),List.getElem?_drop,Ct];congr 1;simp;omega
theorem Chain.len:∀{l:List (Nat×Nat×Nat)}{a b:Nat},Chain l a b->a+l.length<=b
 | [],_,_,h=>le_of_eq h
 | (_,n,_)::t,a,_,⟨_,h1,h⟩=>by have:=h.len;rw[BA];omega
theorem Chain.mem:∀{l:List (Nat×Nat×Nat)}{a b:Nat},Chain l a b->∀r,r∈l->a<=r.1/\r.1+r.2.1<=b
 | [],_,_,_,r,m=>by cases m
 | (p,n,v)::t,a,b,⟨e,h1,h⟩,r,m=>by
  rcases BB.mp m with rfl|m
  ·have:=h.le;exact⟨by show a<=p;omega,by show p+n<=b;omega⟩
  have:=h.mem r m;omega
theorem Chain.parts:∀{pre post:List (Nat×Nat×Nat)}{sa na w sb nb v a b:Nat},Chain (pre++(sa,na,w)::(sb,nb,v)::post) a b->(∀r,r∈pre->r.1+r.2.1<=sa)/\∀r,r∈post->sb+nb<=r.1
 | [],post,sa,na,w,sb,nb,v,a,b,⟨h1,h2,h3,h4,h5⟩=>⟨fun r m=>(by cases m),fun r m=>by have:=(h5.mem r m).1;omega⟩
 | (p,n,u)::pre,post,sa,na,w,sb,nb,v,a,b,⟨h1,h2,h3⟩=>by
  obtain⟨k1,k2⟩:=Chain.parts h3;refine⟨fun r m=>?_,k2⟩;rcases BB.mp m with rfl|m
  ·have:=(h3.mem (sa,na,w) (by simp)).1;show p+n<=sa;omega
  exact k1 r m
section
variable {κ:EJ}{prog:AW}{w:BC}{s:AA}{A:A3}{E:Ap->AA->Prop}{a₀:Array A0}{f:A0->Int}{pd:Array (Nat×Nat×Nat)}
structure QC (κ:EJ)(a₀:Array A0)(f:A0->Int)(hi:Nat)(st:Ch):Prop where
 b:QB κ a₀ (A1 st) st
 c:Chain (A1 st).toList 0 hi
 u:∀r,r∈(A1 st).toList->acF f (AL st) r.1 (r.1+r.2.1)
theorem QC.push {st:Ch}{lo n:Nat}(h:QC κ a₀ f lo st)(h1:1<=n)(hu:acF f (AL st) lo (lo+n)):QC κ a₀ f (lo+n) (setPending st ((A1 st).push (lo,n,0))):=by
 refine⟨⟨h.b.kind,h.b.perm,h.b.fail,rfl⟩,?_,fun r m=>?_⟩
 ·show Chain ((A1 st).push (lo,n,0)).toList 0 (lo+n);rw[ED];exact h.c.snoc h1
 replace m:r∈((A1 st).push (lo,n,0)).toList:=m;rw[ED] at m;rcases A6.mp m with m|m
 ·exact h.u r m
 rw[AK.mp m];exact hu
end
end SRT
namespace SRT
open PySem PyProof.Rows
end SRT
namespace L2
open PySem PySem.Spec PyProof.Rows
end L2
namespace SRT
open PySem PyProof.Rows
def uz (κ:EJ)(prog:AW)(w:BC)(A:A3)(E:Ap->AA->Prop)(s:AA)(a₀:Array A0)(f:A0->Int):Prop:=
 ∀(st:Ch)(x y:A0)(Q:Option Bool->Ch->Prop),kindOf st=κ->x∈a₀.toList->y∈a₀.toList->Q (some (decide (f x<f y))) st->wpS (AH prog w) A E s (lt' x y) Q st
def Bey (left:Bool)(k r:Int):Bool:=if left then decide (r<k) else !decide (k<r)
theorem UL {left:Bool}{k r:Int}(h:Bey left k r=true):r<=k:=by
 unfold Bey at h;cases left <;> simp at h <;> omega
theorem Kf {left:Bool}{k r:Int}(h:Bey left k r=false):k<=r:=by
 unfold Bey at h;cases left <;> simp at h <;> omega
theorem Gm {left:Bool}{k r q:Int}(hr:r<=q)(h:Bey left k q=true):Bey left k r=true:=by
 unfold Bey at h |-;cases left <;> simp at h |- <;> omega
section
variable {κ:EJ}{prog:AW}{w:BC}{s:AA}{A:A3}{E:Ap->AA->Prop}{a₀:Array A0}{f:A0->Int}
theorem kJ {st:Ch}{left:Bool}{key:A0}{arr:Array A0}{base n hint:Nat}{Q:Option Nat->Ch->Prop}(O:uz κ prog w A E s a₀ f)(hk:kindOf st=κ)(hkey:key∈a₀.toList)(ha:Inn a₀ arr)(hb:base+n<=arr.size)(hh:hint<n)
  (up:∀i j,i<j->j<n->Rk f arr (base+i)<=Rk f arr (base+j))
  (h:∀k,k<=n->(∀i,i<k->Rk f arr (base+i)<=f key)->(∀i,k<=i->i<n->f key<=Rk f arr (base+i))->Q (some k) st) :
  wpS (AH prog w) A E s (Yk left key arr base n hint) Q st:=by
 have beyok:∀(i:Nat)(Q':Option Bool->Ch->Prop),i<n->Q' (some (Bey left (f key) (Rk f arr (base+i)))) st->wpS (AH prog w) A E s (do
   let p <- elem' arr (base+i)
   if left=true then lt' p key else do
    let r <- lt' key p
    pure (r.map fun z=>!z)) Q' st:=by
  intro i Q' hi hq;refine AG (bI ω fun p hp=>?_);rw[bO hp] at hq;cases left with
  | true=>exact O st p key Q' hk (ha _ p hp) hkey hq
  | false=>exact AG (O st key p _ hk hkey (ha _ p hp) (AI hq))
 have upw:∀{i j:Nat},i<=j->j<n->Rk f arr (base+i)<=Rk f arr (base+j):=fun {i j} hij hj=>by
  by_cases c:i=j
  ·rw[c];exact DE _
  exact up i j ω hj
 have below:∀{i j:Nat},i<=j->j<n->Bey left (f key) (Rk f arr (base+j))=true->Bey left (f key) (Rk f arr (base+i))=true:=fun {i j} hij hj hl=>Gm (upw hij hj) hl;have above:∀{i j:Nat},j<=i->i<n->Bey left (f key) (Rk f arr (base+j))=false->Bey left (f key) (Rk f arr (base+i))=false:=fun {i j} hij hi hl=>
  B3.mpr fun z=>B3.mp hl (Gm (upw hij hi) z)
 refine AG (beyok hint _ hh ?_);by_cases cr:Bey left (f key) (Rk f arr (base+hint))=true
 ·rw[cr];refine AG (EE (CH (I:=fun x c st'=>st'=st/\∃a b,c=(none,a,b)/\a<b/\x+1<=b/\hint+a<n/\Bey left (f key) (Rk f arr (base+(hint+a)))=true) (Q:=fun c st'=>st'=st/\∃a b,c=(none,a,b)/\a<b/\hint+a<n/\Bey left (f key) (Rk f arr (base+(hint+a)))=true/\(b<n-hint->Bey left (f key) (Rk f arr (base+(hint+b)))=false)) ?_ ?_ ⟨rfl,0,1,rfl,δ,δ,hh,cr⟩) ?_)
  ·rintro x c st' _ _ ⟨rfl,a,b,rfl,q1,q2,q3,q4⟩;dsimp only;split
   ·exact AI ⟨rfl,a,b,rfl,q1,q3,q4,fun z=>ω⟩
   rename_i hab;refine AG (beyok _ _ ω ?_);by_cases c:Bey left (f key) (Rk f arr (base+(hint+b)))=true
   ·rw[c];exact AI ⟨rfl,b,2*b+1,rfl,ω,ω,ω,c⟩
   rw[B3.mpr c];exact AI ⟨rfl,a,b,rfl,q1,q3,q4,fun _=>B3.mpr c⟩
  ·rintro c st' ⟨rfl,a,b,rfl,q1,q2,q3,q4⟩;exact⟨rfl,a,b,rfl,q1,q3,q4,fun z=>ω⟩
  rintro c st' ⟨rfl,a,b,rfl,q1,q3,q4,q5⟩;refine AG (EE (CH (I:=fun x c z=>z=st'/\∃l r,c=(none,l,r)/\l<=r/\r<=n/\r-l<=n-x/\(∀i,i<l->Bey left (f key) (Rk f arr (base+i))=true)/\(∀i,r<=i->i<n->Bey left (f key) (Rk f arr (base+i))=false)) (Q:=fun c z=>z=st'/\∃r,c=(none,r,r)/\r<=n/\(∀i,i<r->Bey left (f key) (Rk f arr (base+i))=true)/\(∀i,r<=i->i<n->Bey left (f key) (Rk f arr (base+i))=false)) ?_ ?_ ⟨rfl,hint+a+1,hint+min b (n-hint),rfl,ω,ω,ω,fun i hi=>below (j:=hint+a) ω q3 q4,fun i h1 h2=>above (j:=hint+b) ω h2 (q5 ω)⟩) ?_)
  ·rintro x c z _ hx ⟨rfl,l,r,rfl,p1,p2,p3,p4,p5⟩;dsimp only;split
   ·have:l=r:=by omega
    subst this;exact AI ⟨rfl,l,rfl,p2,p4,p5⟩
   rename_i hab;refine AG (beyok _ _ ω ?_);by_cases c:Bey left (f key) (Rk f arr (base+(l+(r-l)/2)))=true
   ·rw[c];exact AI ⟨rfl,_,_,rfl,ω,p2,ω,fun i hi=>below (j:=l+(r-l)/2) ω ω c,p5⟩
   rw[B3.mpr c];exact AI ⟨rfl,_,_,rfl,ω,ω,ω,p4,fun i h1 h2=>above (j:=l+(r-l)/2) h1 h2 (B3.mpr c)⟩
  ·rintro c z ⟨rfl,l,r,rfl,p1,p2,p3,p4,p5⟩;have:l=r:=by omega
   subst this;exact⟨rfl,l,rfl,p2,p4,p5⟩
  rintro c z ⟨rfl,r,rfl,p2,p4,p5⟩;exact AI (h r p2 (fun i hi=>UL (p4 i hi)) (fun i h1 h2=>Kf (p5 i h1 h2)))
 rw[B3.mpr cr];have cr2:Bey left (f key) (Rk f arr (base+hint))=false:=B3.mpr cr;refine AG (EE (CH (I:=fun x c st'=>st'=st/\∃a b,c=(none,a,b)/\a<b/\x+1<=b/\a<=hint/\Bey left (f key) (Rk f arr (base+(hint-a)))=false) (Q:=fun c st'=>st'=st/\∃a b,c=(none,a,b)/\a<b/\a<=hint/\Bey left (f key) (Rk f arr (base+(hint-a)))=false/\(b<hint+1->Bey left (f key) (Rk f arr (base+(hint-b)))=true)) ?_ ?_ ⟨rfl,0,1,rfl,δ,δ,D2 _,cr2⟩) ?_)
 ·rintro x c st' _ _ ⟨rfl,a,b,rfl,q1,q2,q3,q4⟩;dsimp only;split
  ·exact AI ⟨rfl,a,b,rfl,q1,q3,q4,fun z=>ω⟩
  rename_i hab;refine AG (beyok _ _ ω ?_);by_cases c:Bey left (f key) (Rk f arr (base+(hint-b)))=true
  ·rw[c];exact AI ⟨rfl,a,b,rfl,q1,q3,q4,fun _=>c⟩
  rw[B3.mpr c];exact AI ⟨rfl,b,2*b+1,rfl,ω,ω,ω,B3.mpr c⟩
 ·rintro c st' ⟨rfl,a,b,rfl,q1,q2,q3,q4⟩;exact⟨rfl,a,b,rfl,q1,q3,q4,fun z=>ω⟩
 rintro c st' ⟨rfl,a,b,rfl,q1,q3,q4,q5⟩;refine AG (EE (CH (I:=fun x c z=>z=st'/\∃l r,c=(none,l,r)/\l<=r/\r<=n/\r-l<=n-x/\(∀i,i<l->Bey left (f key) (Rk f arr (base+i))=true)/\(∀i,r<=i->i<n->Bey left (f key) (Rk f arr (base+i))=false)) (Q:=fun c z=>z=st'/\∃r,c=(none,r,r)/\r<=n/\(∀i,i<r->Bey left (f key) (Rk f arr (base+i))=true)/\(∀i,r<=i->i<n->Bey left (f key) (Rk f arr (base+i))=false)) ?_ ?_ ⟨rfl,hint+1-min b (hint+1),hint-a,rfl,ω,ω,ω,fun i hi=>below (j:=hint-b) ω ω (q5 ω),fun i h1 h2=>above (j:=hint-a) h1 h2 q4⟩) ?_)
 ·rintro x c z _ hx ⟨rfl,l,r,rfl,p1,p2,p3,p4,p5⟩;dsimp only;split
  ·have:l=r:=by omega
   subst this;exact AI ⟨rfl,l,rfl,p2,p4,p5⟩
  rename_i hab;refine AG (beyok _ _ ω ?_);by_cases c:Bey left (f key) (Rk f arr (base+(l+(r-l)/2)))=true
  ·rw[c];exact AI ⟨rfl,_,_,rfl,ω,p2,ω,fun i hi=>below (j:=l+(r-l)/2) ω ω c,p5⟩
  rw[B3.mpr c];exact AI ⟨rfl,_,_,rfl,ω,ω,ω,p4,fun i h1 h2=>above (j:=l+(r-l)/2) h1 h2 (B3.mpr c)⟩
 ·rintro c z ⟨rfl,l,r,rfl,p1,p2,p3,p4,p5⟩;have:l=r:=by omega
  subst this;exact⟨rfl,l,rfl,p2,p4,p5⟩
 rintro c z ⟨rfl,r,rfl,p2,p4,p5⟩;exact AI (h r p2 (fun i hi=>UL (p4 i hi)) (fun i h1 h2=>Kf (p5 i h1 h2)))
end
end SRT
namespace SRT
open PySem PyProof.Rows
def iQ (f:A0->Int)(xs:Array A0)(n:Nat):Prop:=∀i j,i<j->j<n->Rk f xs i<=Rk f xs j
section
variable {κ:EJ}{prog:AW}{w:BC}{s:AA}{A:A3}{E:Ap->AA->Prop}{a₀:Array A0}{f:A0->Int}
abbrev Gv (f:A0->Int)(xs:List A0):Prop:=xs.Pairwise fun x y=>f x<=f y
theorem Y0 {a:Array A0}(h:iQ f a a.size):Gv f a.toList:=by
 refine DU.mpr fun i j hi hj hij=>?_;have hi':i<a.size:=by simpa using hi
 have hj':j<a.size:=by simpa using hj
 have:=h i j hij hj';rw[bO (getElem?_pos a i hi'),bO (getElem?_pos a j hj')] at this;simpa using this
theorem Vk {a:Array A0}(h:Gv f a.toList):iQ f a a.size:=fun i j hij hj=>by
 have hi:i<a.size:=ω;have:=(DU.mp h) i j (by simpa using hi) (by simpa using hj) hij;rw[bO (getElem?_pos a i hi),bO (getElem?_pos a j hj)];simpa using this
theorem fX {a:Array A0}(h:iQ f a a.size)(x y:Nat):Gv f (a.extract x y).toList:=by
 rw[KM];exact(Y0 h).sublist ((take_sublist _ _).trans (Kj _ _))
theorem bH {a:Array A0}{x y:Nat}{p:A0}(h:p∈(a.extract x y).toList):∃t,x<=t/\t<y/\t<a.size/\a[t]?=some p:=by
 obtain⟨i,hi,e⟩:=IZ.mp h;have hi':i<min y a.size-x:=by
  have:=hi;simp at this;omega
 have e2:(a.extract x y).toList[i]?=some p:=by rw[AR hi,e]
 rw[Ct,LX,if_pos ω] at e2;exact⟨x+i,ω,ω,ω,e2⟩
structure SIw (f:A0->Int)(a b out:Array A0)(i j:Nat):Prop where
 pm:(dY a b out i j).Perm (a.toList++b.toList)
 up:Gv f out.toList
 ga:∀o,o∈out.toList->∀t,i<=t->t<a.size->f o<=Rk f a t
 gb:∀o,o∈out.toList->∀t,j<=t->t<b.size->f o<=Rk f b t
theorem SIw.vm {a b out:Array A0}{i j:Nat}{p:A0}(h:SIw f a b out i j)(ub:iQ f b b.size)(hp:b[j]?=some p)(hlt:∀t,i<=t->t<a.size->Rk f b j<=Rk f a t):SIw f a b (out.push p) i (j+1):=by
 have hj:j<b.size:=(Be.mp hp).1;have e:=bO (f:=f) hp;refine⟨(Sx hp).trans h.pm,?_,fun o m t h1 h2=>?_,fun o m t h1 h2=>?_⟩
 ·rw[ED];refine BQ.mpr ⟨h.up,FM _ _,fun x mx y my=>?_⟩;rw[AK.mp my,<- e];exact h.gb x mx j (AY _) hj
 ·rw[ED] at m;rcases A6.mp m with m|m
  ·exact h.ga o m t h1 h2
  rw[AK.mp m,<- e];exact hlt t h1 h2
 rw[ED] at m;rcases A6.mp m with m|m
 ·exact h.gb o m t ω h2
 rw[AK.mp m,<- e];exact ub j t ω h2
theorem SIw.nA {a b out:Array A0}{i j:Nat}{p:A0}(h:SIw f a b out i j)(ua:iQ f a a.size)(hp:a[i]?=some p)(hlt:∀t,j<=t->t<b.size->Rk f a i<=Rk f b t):SIw f a b (out.push p) (i+1) j:=by
 have hi:i<a.size:=(Be.mp hp).1;have e:=bO (f:=f) hp;refine⟨(Sy hp).trans h.pm,?_,fun o m t h1 h2=>?_,fun o m t h1 h2=>?_⟩
 ·rw[ED];refine BQ.mpr ⟨h.up,FM _ _,fun x mx y my=>?_⟩;rw[AK.mp my,<- e];exact h.ga x mx i (AY _) hi
 ·rw[ED] at m;rcases A6.mp m with m|m
  ·exact h.ga o m t ω h2
  rw[AK.mp m,<- e];exact ua i t ω h2
 rw[ED] at m;rcases A6.mp m with m|m
 ·exact h.gb o m t h1 h2
 rw[AK.mp m,<- e];exact hlt t h1 h2
theorem SIw.VP {a b out:Array A0}{i j k:Nat}(h:SIw f a b out i j)(ua:iQ f a a.size)(hlt:∀t,i<=t->t<i+k->t<a.size->∀u,j<=u->u<b.size->Rk f a t<=Rk f b u):SIw f a b (out++a.extract i (i+k)) (i+k) j:=by
 refine⟨Xu.trans h.pm,?_,fun o m t h1 h2=>?_,fun o m t h1 h2=>?_⟩
 ·rw[Cb];refine BQ.mpr ⟨h.up,fX ua _ _,fun x mx y my=>?_⟩;obtain⟨t,t1,t2,t3,e⟩:=bH my;rw[<- bO (f:=f) e];exact h.ga x mx t t1 t3
 ·rw[Cb] at m;rcases A6.mp m with m|m
  ·exact h.ga o m t ω h2
  obtain⟨u,t1,t2,t3,e⟩:=bH m;rw[<- bO (f:=f) e];exact ua u t ω h2
 rw[Cb] at m;rcases A6.mp m with m|m
 ·exact h.gb o m t h1 h2
 obtain⟨u,t1,t2,t3,e⟩:=bH m;rw[<- bO (f:=f) e];exact hlt u t1 t2 t3 t h1 h2
theorem SIw.LR {a b out:Array A0}{i j k:Nat}(h:SIw f a b out i j)(ub:iQ f b b.size)(hlt:∀t,j<=t->t<j+k->t<b.size->∀u,i<=u->u<a.size->Rk f b t<=Rk f a u):SIw f a b (out++b.extract j (j+k)) i (j+k):=by
 refine⟨Xr.trans h.pm,?_,fun o m t h1 h2=>?_,fun o m t h1 h2=>?_⟩
 ·rw[Cb];refine BQ.mpr ⟨h.up,fX ub _ _,fun x mx y my=>?_⟩;obtain⟨t,t1,t2,t3,e⟩:=bH my;rw[<- bO (f:=f) e];exact h.gb x mx t t1 t3
 ·rw[Cb] at m;rcases A6.mp m with m|m
  ·exact h.ga o m t h1 h2
  obtain⟨u,t1,t2,t3,e⟩:=bH m;rw[<- bO (f:=f) e];exact hlt u t1 t2 t3 t h1 h2
 rw[Cb] at m;rcases A6.mp m with m|m
 ·exact h.gb o m t ω h2
 obtain⟨u,t1,t2,t3,e⟩:=bH m;rw[<- bO (f:=f) e];exact ub u t ω h2
def qN (f:A0->Int)(a b:Array A0)(c:Option (Array A0)):Prop:=∃r,c=some r/\r.toList.Perm (a.toList++b.toList)/\Gv f r.toList
theorem SIw.dn {a b out:Array A0}{i j:Nat}(h:SIw f a b out i j)(ua:iQ f a a.size)(ub:iQ f b b.size)(he:b.size<=j\/a.size<=i):qN f a b (some (out++a.extract i a.size++b.extract j b.size)):=by
 refine⟨_,rfl,by rw[Xw];exact h.pm,?_⟩;rw[Cb,Cb];refine BQ.mpr ⟨BQ.mpr ⟨h.up,fX ua _ _,fun x mx y my=>?_⟩,fX ub _ _,fun x mx y my=>?_⟩
 ·obtain⟨t,t1,t2,t3,e⟩:=bH my;rw[<- bO (f:=f) e];exact h.ga x mx t t1 t3
 obtain⟨t,t1,t2,t3,e⟩:=bH my;rcases A6.mp mx with mx|mx
 ·rw[<- bO (f:=f) e];exact h.gb x mx t t1 t3
 obtain⟨u,u1,u2,u3,e2⟩:=bH mx;omega
theorem SIw.ls {a b out:Array A0}{i j:Nat}(h:SIw f a b out i j)(ua:iQ f a a.size)(ub:iQ f b b.size)(hi:i+1=a.size)(hL:∀t,t<b.size->Rk f b t<=Rk f a (a.size-1)):qN f a b (some (out++b.extract j b.size++a.extract i a.size)):=by
 refine⟨_,rfl,Xv.trans h.pm,?_⟩;rw[Cb,Cb];refine BQ.mpr ⟨BQ.mpr ⟨h.up,fX ub _ _,fun x mx y my=>?_⟩,fX ua _ _,fun x mx y my=>?_⟩
 ·obtain⟨t,t1,t2,t3,e⟩:=bH my;rw[<- bO (f:=f) e];exact h.gb x mx t t1 t3
 obtain⟨t,t1,t2,t3,e⟩:=bH my;rw[<- bO (f:=f) e];rcases A6.mp mx with mx|mx
 ·exact h.ga x mx t t1 t3
 obtain⟨u,u1,u2,u3,e2⟩:=bH mx;rw[<- bO (f:=f) e2,show t=a.size-1 by omega];exact hL u u3
def Ve (f:A0->Int)(a b out:Array A0)(i j:Nat):Prop:=SIw f a b out i j/\i+1<a.size/\j<b.size
theorem R0 {st:Ch}{a b:Array A0}{Q:Array A0->Ch->Prop}(O:uz κ prog w A E s a₀ f)(hk:kindOf st=κ)(ha:Inn a₀ a)(hb:Inn a₀ b)(ua:iQ f a a.size)(ub:iQ f b b.size)(h1:1<=a.size)(h2:1<=b.size)(h0:Rk f b 0<=Rk f a 0)(hL:Rk f b (b.size-1)<=Rk f a (a.size-1))
  (h:∀out g,out.toList.Perm (a.toList++b.toList)->Gv f out.toList->Q out (j9 st g)):wpS (AH prog w) A E s (R5 a b) Q st:=by
 have hLa:∀t,t<b.size->Rk f b t<=Rk f a (a.size-1):=fun t ht=>by
  by_cases c:t=b.size-1
  ·rw[c];exact hL
  have:=ub t (b.size-1) ω ω;omega
 have ale:∀{i t:Nat},i<=t->t<a.size->Rk f a i<=Rk f a t:=fun {i t} h1 h2=>by
  by_cases c:i=t
  ·rw[c];omega
  have:=ua i t ω h2;omega
 have ble:∀{i t:Nat},i<=t->t<b.size->Rk f b i<=Rk f b t:=fun {i t} h1 h2=>by
  by_cases c:i=t
  ·rw[c];omega
  have:=ub i t ω h2;omega
 refine AG (KO (De (AB rfl ?_)));refine AG (bI ω fun p hp=>?_);dsimp only;have p0:SIw f a b #[p] 0 1:=by
  have z:SIw f a b #[] 0 0:=⟨by unfold dY;simp,.nil,fun o m=>(by cases m),fun o m=>(by cases m)⟩;have:=z.vm ub hp fun t _ ht=>by have:=ale (D2 t) ht;omega
  exact this
 by_cases hb1:(1 == b.size)=true
 ·rw[if_pos hb1];obtain⟨r,e,q1,q2⟩:=p0.dn ua ub (.inl (by have:1=b.size:=(by simpa using hb1);omega));cases e;exact AI (h _ (gallopOf st) q1 q2)
 rw[if_neg hb1];by_cases ha1:(0+1 == a.size)=true
 ·rw[if_pos ha1];obtain⟨r,e,q1,q2⟩:=p0.ls ua ub (by simpa using ha1) hLa;cases e;exact AI (h _ (gallopOf st) q1 q2)
 rw[if_neg ha1];have hb1':1<b.size:=by have:¬(1=b.size):=(by simpa using hb1);omega
 have ha1':0+1<a.size:=by have:¬(0+1=a.size):=(by simpa using ha1);omega
 refine AG (GU ?_);refine AG (EE (CH (I:=fun x c z=>∃g,z=j9 st g/\∃out i j m,c=(none,out,i,j,m)/\Ve f a b out i j/\x<=i+j) (Q:=fun c z=>∃g,z=j9 st g/\qN f a b c.1) ?step ?fin ⟨gallopOf st,rfl,_,_,_,_,rfl,⟨p0,ha1',hb1'⟩,D2 _⟩) ?post)
 case post=>
  rintro c z ⟨g,rfl,r,hr,hp,hu⟩;rw[hr];exact AI (h r g hp hu)
 case fin=>
  rintro c z ⟨g,rfl,out,i,j,m,rfl,⟨_,l1,l2⟩,hx⟩;exfalso;omega
 case step=>
  rintro x c z _ hx ⟨g,rfl,out,i,j,m,rfl,hI,hxi⟩;dsimp only;refine AG (EE (CH (I:=fun y c z=>z=j9 st g/\∃out i j ac bc,c=(none,out,i,j,ac,bc)/\Ve f a b out i j/\x+y<=i+j) (Q:=fun c z=>z=j9 st g/\(qN f a b c.1\/∃out i j ac bc,c=(none,out,i,j,ac,bc)/\Ve f a b out i j/\x+1<=i+j)) ?step1 ?fin1 ⟨rfl,_,_,_,_,_,rfl,hI,hxi⟩) ?post1)
  case fin1=>
   rintro c z ⟨rfl,out,i,j,ac,bc,rfl,⟨_,l1,l2⟩,hy⟩;exfalso;omega
  case step1=>
   rintro y c z _ hy ⟨rfl,out,i,j,ac,bc,rfl,⟨si,l1,l2⟩,hyi⟩;dsimp only;refine AG (bI l2 fun q hq=>?_);refine AG (bI (show i<a.size by omega) fun r hr=>?_);refine AG (O _ _ _ _ hk (hb _ _ hq) (ha _ _ hr) ?_);rw[<- bO (f:=f) hq,<- bO (f:=f) hr];by_cases o:Rk f b j<Rk f a i
   ·rw[decide_eq_true o];refine AG (bI l2 fun q hq=>?_);have s2:=si.vm ub hq fun t t1 t2=>by have:=ale t1 t2;omega
    split
    ·rename_i hj;exact AI ⟨rfl,.inl (s2.dn ua ub (.inl (by have:j+1=b.size:=(by simpa using hj);omega)))⟩
    rename_i hj;have l2':j+1<b.size:=by have:¬(j+1=b.size):=(by simpa using hj);omega
    split
    ·exact AI ⟨rfl,.inr ⟨_,_,_,_,_,rfl,⟨s2,l1,l2'⟩,ω⟩⟩
    exact AI ⟨rfl,_,_,_,_,_,rfl,⟨s2,l1,l2'⟩,ω⟩
   rw[decide_eq_false o];refine AG (bI (show i<a.size by omega) fun r hr=>?_);have s2:=si.nA ua hr fun t t1 t2=>by have:=ble t1 t2;omega
   split
   ·rename_i hj;exact AI ⟨rfl,.inl (s2.ls ua ub (by simpa using hj) hLa)⟩
   rename_i hj;have l1':i+1+1<a.size:=by have:¬(i+1+1=a.size):=(by simpa using hj);omega
   split
   ·exact AI ⟨rfl,.inr ⟨_,_,_,_,_,rfl,⟨s2,l1',l2⟩,ω⟩⟩
   exact AI ⟨rfl,_,_,_,_,_,rfl,⟨s2,l1',l2⟩,ω⟩
  case post1=>
   rintro c z ⟨rfl,hc⟩;rcases hc with⟨r,hr,hp,hu⟩|⟨out,i,j,ac,bc,rfl,hI1,hxi1⟩
   ·rw[hr];exact AI ⟨g,rfl,r,rfl,hp,hu⟩
   dsimp only;refine AG (KO (De (AB rfl ?_)));refine AG (EE (CH (I:=fun y c z=>∃g,z=j9 st g/\∃out i j m ac bc,c=(none,out,i,j,m,ac,bc)/\Ve f a b out i j/\x+1<=i+j) (Q:=fun c z=>∃g,z=j9 st g/\(qN f a b c.1\/∃out i j m ac bc,c=(none,out,i,j,m,ac,bc)/\Ve f a b out i j/\x+1<=i+j)) ?step2 (fun c z ⟨g,hz,hc⟩=>⟨g,hz,.inr hc⟩) ⟨g,rfl,_,_,_,_,_,_,rfl,hI1,hxi1⟩) ?post2)
   case post2=>
    rintro c z ⟨g,rfl,hc⟩;rcases hc with⟨r,hr,hp,hu⟩|⟨out,i,j,m,ac,bc,rfl,hI1,hxi1⟩
    ·rw[hr];exact AI ⟨g,rfl,r,rfl,hp,hu⟩
    refine AG (EV ?_);exact AI ⟨m+1,rfl,_,_,_,_,rfl,hI1,hxi1⟩
   case step2=>
    rintro y c z _ hy ⟨g,rfl,out,i,j,m,ac,bc,rfl,⟨si,l1,l2⟩,hyi⟩;dsimp only;by_cases hm:m>1
    all_goals first|rw[if_pos hm]|rw[if_neg hm]
    all_goals
     refine AG (EV ?_);refine AG (bI l2 fun q hq=>?_);refine AG (kJ O hk (hb _ _ hq) ha ω ω (fun x y h1 h2=>ua _ _ ω ω) fun k hkn g1 g2=>?_);rw[<- bO (f:=f) hq] at g1 g2;have s1:=si.VP (k:=k) ua fun t t1 t2 t3 u u1 u2=>by
      have:=g1 (t-i) ω;rw[show i+(t-i)=t by omega] at this;have:=ble u1 u2;omega
     have gB:∀t,i+k<=t->t<a.size->Rk f b j<=Rk f a t:=fun t t1 t2=>by
      have:=g2 (t-i) ω ω;rwa [show i+(t-i)=t by omega] at this
     dsimp only;by_cases hk0:k>0
     ·rw[if_pos hk0];by_cases e1:(i+k+1 == a.size)=true
      ·rw[if_pos e1];exact AI ⟨_,rfl,.inl (s1.ls ua ub (by simpa using e1) hLa)⟩
      rw[if_neg e1];by_cases e2:(i+k == a.size)=true
      ·rw[if_pos e2];exact AI ⟨_,rfl,.inl (s1.dn ua ub (.inr (by have:i+k=a.size:=(by simpa using e2);omega)))⟩
      rw[if_neg e2];have l1':i+k+1<a.size:=by
       have:¬(i+k+1=a.size):=(by simpa using e1);have:¬(i+k=a.size):=(by simpa using e2);omega
      refine AG (bI l2 fun q2 hq2=>?_);have s2:=s1.vm ub hq2 gB;by_cases e3:(j+1 == b.size)=true
      ·rw[if_pos e3];exact AI ⟨_,rfl,.inl (s2.dn ua ub (.inl (by have:j+1=b.size:=(by simpa using e3);omega)))⟩
      rw[if_neg e3];have l2':j+1<b.size:=by
       have:¬(j+1=b.size):=(by simpa using e3);omega
      refine AG (bI (show i+k<a.size by omega) fun r2 hr2=>?_);refine AG (kJ O hk (ha _ _ hr2) hb ω ω (fun x y h1 h2=>ub _ _ ω ω) fun k2 hk2 g3 g4=>?_);rw[<- bO (f:=f) hr2] at g3 g4;have s3:=s2.LR (k:=k2) ub fun t t1 t2 t3 u u1 u2=>by
       have:=g3 (t-(j+1)) ω;rw[show j+1+(t-(j+1))=t by omega] at this;have:=ale u1 u2;omega
      have gA:∀t,j+1+k2<=t->t<b.size->Rk f a (i+k)<=Rk f b t:=fun t t1 t2=>by
       have:=g4 (t-(j+1)) ω ω;rwa [show j+1+(t-(j+1))=t by omega] at this
      dsimp only;by_cases k20:k2>0
      ·rw[if_pos k20];by_cases e4:(j+1+k2 == b.size)=true
       ·rw[if_pos e4];exact AI ⟨_,rfl,.inl (s3.dn ua ub (.inl (by have:j+1+k2=b.size:=(by simpa using e4);omega)))⟩
       rw[if_neg e4];have l2'':j+1+k2<b.size:=by
        have:¬(j+1+k2=b.size):=(by simpa using e4);omega
       refine AG (bI (show i+k<a.size by omega) fun r3 hr3=>?_);have s4:=s3.nA ua hr3 gA;by_cases e5:(i+k+1+1 == a.size)=true
       ·rw[if_pos e5];exact AI ⟨_,rfl,.inl (s4.ls ua ub (by simpa using e5) hLa)⟩
       rw[if_neg e5];have l9:i+k+1+1<a.size:=by
        have:¬(i+k+1+1=a.size):=(by simpa using e5);omega
       split
       ·exact AI ⟨_,rfl,.inr ⟨_,_,_,_,_,_,rfl,⟨s4,l9,l2''⟩,ω⟩⟩
       exact AI ⟨_,rfl,_,_,_,_,_,_,rfl,⟨s4,l9,l2''⟩,ω⟩
      rw[if_neg k20];have e20:k2=0:=ω;subst e20;refine AG (bI (show i+k<a.size by omega) fun r3 hr3=>?_);have s4:=s2.nA ua hr3 gA;by_cases e5:(i+k+1+1 == a.size)=true
      ·rw[if_pos e5];exact AI ⟨_,rfl,.inl (s4.ls ua ub (by simpa using e5) hLa)⟩
      rw[if_neg e5];have l9:i+k+1+1<a.size:=by
       have:¬(i+k+1+1=a.size):=(by simpa using e5);omega
      split
      ·exact AI ⟨_,rfl,.inr ⟨_,_,_,_,_,_,rfl,⟨s4,l9,l2'⟩,ω⟩⟩
      exact AI ⟨_,rfl,_,_,_,_,_,_,rfl,⟨s4,l9,l2'⟩,ω⟩
     rw[if_neg hk0];have e00:k=0:=ω;subst e00;refine AG (bI l2 fun q2 hq2=>?_);have s2:=si.vm ub hq2 gB;by_cases e3:(j+1 == b.size)=true
     ·rw[if_pos e3];exact AI ⟨_,rfl,.inl (s2.dn ua ub (.inl (by have:j+1=b.size:=(by simpa using e3);omega)))⟩
     rw[if_neg e3];have l2':j+1<b.size:=by
      have:¬(j+1=b.size):=(by simpa using e3);omega
     refine AG (bI (show i<a.size by omega) fun r2 hr2=>?_);refine AG (kJ O hk (ha _ _ hr2) hb ω ω (fun x y h1 h2=>ub _ _ ω ω) fun k2 hk2 g3 g4=>?_);rw[<- bO (f:=f) hr2] at g3 g4;have s3:=s2.LR (k:=k2) ub fun t t1 t2 t3 u u1 u2=>by
      have:=g3 (t-(j+1)) ω;rw[show j+1+(t-(j+1))=t by omega] at this;have:=ale u1 u2;omega
     have gA:∀t,j+1+k2<=t->t<b.size->Rk f a i<=Rk f b t:=fun t t1 t2=>by
      have:=g4 (t-(j+1)) ω ω;rwa [show j+1+(t-(j+1))=t by omega] at this
     dsimp only;by_cases k20:k2>0
     ·rw[if_pos k20];by_cases e4:(j+1+k2 == b.size)=true
      ·rw[if_pos e4];exact AI ⟨_,rfl,.inl (s3.dn ua ub (.inl (by have:j+1+k2=b.size:=(by simpa using e4);omega)))⟩
      rw[if_neg e4];have l2'':j+1+k2<b.size:=by
       have:¬(j+1+k2=b.size):=(by simpa using e4);omega
      refine AG (bI (show i<a.size by omega) fun r3 hr3=>?_);have s4:=s3.nA ua hr3 gA;by_cases e5:(i+1+1 == a.size)=true
      ·rw[if_pos e5];exact AI ⟨_,rfl,.inl (s4.ls ua ub (by simpa using e5) hLa)⟩
      rw[if_neg e5];have l9:i+1+1<a.size:=by
       have:¬(i+1+1=a.size):=(by simpa using e5);omega
      split
      ·exact AI ⟨_,rfl,.inr ⟨_,_,_,_,_,_,rfl,⟨s4,l9,l2''⟩,ω⟩⟩
      exact AI ⟨_,rfl,_,_,_,_,_,_,rfl,⟨s4,l9,l2''⟩,ω⟩
     rw[if_neg k20];have e20:k2=0:=ω;subst e20;refine AG (bI (show i<a.size by omega) fun r3 hr3=>?_);have s4:=s2.nA ua hr3 gA;by_cases e5:(i+1+1 == a.size)=true
     ·rw[if_pos e5];exact AI ⟨_,rfl,.inl (s4.ls ua ub (by simpa using e5) hLa)⟩
     rw[if_neg e5];have l9:i+1+1<a.size:=by
      have:¬(i+1+1=a.size):=(by simpa using e5);omega
     split
     ·exact AI ⟨_,rfl,.inr ⟨_,_,_,_,_,_,rfl,⟨s4,l9,l2'⟩,ω⟩⟩
     exact AI ⟨_,rfl,_,_,_,_,_,_,rfl,⟨s4,l9,l2'⟩,ω⟩
end
end SRT
namespace SRT
open PySem PyProof.Rows
section
variable {κ:EJ}{prog:AW}{w:BC}{s:AA}{A:A3}{E:Ap->AA->Prop}{a₀:Array A0}{f:A0->Int}
structure SHw (f:A0->Int)(a b out:Array A0)(i j:Nat):Prop where
 pm:(iW a b out i j).Perm (a.toList++b.toList)
 up:out.toList.Pairwise fun x y=>f y<=f x
 ga:∀o,o∈out.toList->∀t,t<i->t<a.size->Rk f a t<=f o
 gb:∀o,o∈out.toList->∀t,t<j->t<b.size->Rk f b t<=f o
theorem SHw.VP {a b out:Array A0}{i j x:Nat}(h:SHw f a b out i j)(ua:iQ f a a.size)(hx:x<=i)(hlt:∀t,x<=t->t<i->t<a.size->∀u,u<j->u<b.size->Rk f b u<=Rk f a t):SHw f a b (out++(a.extract x i).reverse) x j:=by
 refine⟨(Yg hx).trans h.pm,?_,fun o m t h1 h2=>?_,fun o m t h1 h2=>?_⟩
 ·rw[Cb,Fu];refine BQ.mpr ⟨h.up,LY.mpr (fX ua _ _),fun p mp q mq=>?_⟩;obtain⟨t,t1,t2,t3,e⟩:=bH (FD.mp mq);rw[<- bO (f:=f) e];exact h.ga p mp t t2 t3
 ·rw[Cb,Fu] at m;rcases A6.mp m with m|m
  ·exact h.ga o m t ω h2
  obtain⟨u,t1,t2,t3,e⟩:=bH (FD.mp m);rw[<- bO (f:=f) e];exact ua t u ω t3
 rw[Cb,Fu] at m;rcases A6.mp m with m|m
 ·exact h.gb o m t h1 h2
 obtain⟨u,t1,t2,t3,e⟩:=bH (FD.mp m);rw[<- bO (f:=f) e];exact hlt u t1 t2 t3 t h1 h2
theorem SHw.LR {a b out:Array A0}{i j x:Nat}(h:SHw f a b out i j)(ub:iQ f b b.size)(hx:x<=j)(hlt:∀t,x<=t->t<j->t<b.size->∀u,u<i->u<a.size->Rk f a u<=Rk f b t):SHw f a b (out++(b.extract x j).reverse) i x:=by
 refine⟨(Ye hx).trans h.pm,?_,fun o m t h1 h2=>?_,fun o m t h1 h2=>?_⟩
 ·rw[Cb,Fu];refine BQ.mpr ⟨h.up,LY.mpr (fX ub _ _),fun p mp q mq=>?_⟩;obtain⟨t,t1,t2,t3,e⟩:=bH (FD.mp mq);rw[<- bO (f:=f) e];exact h.gb p mp t t2 t3
 ·rw[Cb,Fu] at m;rcases A6.mp m with m|m
  ·exact h.ga o m t h1 h2
  obtain⟨u,t1,t2,t3,e⟩:=bH (FD.mp m);rw[<- bO (f:=f) e];exact hlt u t1 t2 t3 t h1 h2
 rw[Cb,Fu] at m;rcases A6.mp m with m|m
 ·exact h.gb o m t ω h2
 obtain⟨u,t1,t2,t3,e⟩:=bH (FD.mp m);rw[<- bO (f:=f) e];exact ub t u ω t3
theorem SHw.nA {a b out:Array A0}{i j:Nat}{p:A0}(h:SHw f a b out i j)(ua:iQ f a a.size)(h1:1<=i)(hp:a[i-1]?=some p)(hlt:∀u,u<j->u<b.size->Rk f b u<=Rk f a (i-1)):SHw f a b (out.push p) (i-1) j:=by
 have:=h.VP (x:=i-1) ua ω fun t t1 t2 t3 u u1 u2=>by rw[show t=i-1 by omega];exact hlt u u1 u2
 rw[show a.extract (i-1) i=a.extract (i-1) (i-1+1) by rw[show i-1+1=i by omega],Kw hp] at this;exact this
theorem SHw.vm {a b out:Array A0}{i j:Nat}{p:A0}(h:SHw f a b out i j)(ub:iQ f b b.size)(h1:1<=j)(hp:b[j-1]?=some p)(hlt:∀u,u<i->u<a.size->Rk f a u<=Rk f b (j-1)):SHw f a b (out.push p) i (j-1):=by
 have:=h.LR (x:=j-1) ub ω fun t t1 t2 t3 u u1 u2=>by rw[show t=j-1 by omega];exact hlt u u1 u2
 rw[show b.extract (j-1) j=b.extract (j-1) (j-1+1) by rw[show j-1+1=j by omega],Kw hp] at this;exact this
theorem SHw.dn {a b out:Array A0}{i j:Nat}(h:SHw f a b out i j)(ua:iQ f a a.size)(ub:iQ f b b.size)(he:i=0\/j=0):qN f a b (some (a.extract 0 i++b.extract 0 j++out.reverse)):=by
 refine⟨_,rfl,Yh.trans h.pm,?_⟩;rw[Cb,Cb,Fu];refine BQ.mpr ⟨BQ.mpr ⟨fX ua _ _,fX ub _ _,fun x mx y my=>?_⟩,LY.mpr h.up,fun x mx y my=>?_⟩
 ·obtain⟨t,t1,t2,t3,e⟩:=bH mx;obtain⟨u,u1,u2,u3,e2⟩:=bH my;omega
 rcases A6.mp mx with mx|mx
 ·obtain⟨t,t1,t2,t3,e⟩:=bH mx;rw[<- bO (f:=f) e];exact h.ga y (FD.mp my) t t2 t3
 obtain⟨t,t1,t2,t3,e⟩:=bH mx;rw[<- bO (f:=f) e];exact h.gb y (FD.mp my) t t2 t3
theorem SHw.fs {a b out:Array A0}{i j:Nat}(h:SHw f a b out i j)(ua:iQ f a a.size)(ub:iQ f b b.size)(hj:j=1)(h0:∀t,t<a.size->Rk f b 0<=Rk f a t):qN f a b (some (b.extract 0 j++a.extract 0 i++out.reverse)):=by
 refine⟨_,rfl,Tp.trans h.pm,?_⟩;rw[Cb,Cb,Fu];refine BQ.mpr ⟨BQ.mpr ⟨fX ub _ _,fX ua _ _,fun x mx y my=>?_⟩,LY.mpr h.up,fun x mx y my=>?_⟩
 ·obtain⟨t,t1,t2,t3,e⟩:=bH mx;obtain⟨u,u1,u2,u3,e2⟩:=bH my;rw[<- bO (f:=f) e,<- bO (f:=f) e2,show t=0 by omega];exact h0 u u3
 rcases A6.mp mx with mx|mx
 ·obtain⟨t,t1,t2,t3,e⟩:=bH mx;rw[<- bO (f:=f) e];exact h.gb y (FD.mp my) t t2 t3
 obtain⟨t,t1,t2,t3,e⟩:=bH mx;rw[<- bO (f:=f) e];exact h.ga y (FD.mp my) t t2 t3
def Vg (f:A0->Int)(a b out:Array A0)(i j:Nat):Prop:=SHw f a b out i j/\0<i/\1<j/\i<=a.size/\j<=b.size
theorem R6 {st:Ch}{a b:Array A0}{Q:Array A0->Ch->Prop}(O:uz κ prog w A E s a₀ f)(hk:kindOf st=κ)(ha:Inn a₀ a)(hb:Inn a₀ b)(ua:iQ f a a.size)(ub:iQ f b b.size)(h1:1<=a.size)(h2:1<=b.size)(h0:Rk f b 0<=Rk f a 0)(hL:Rk f b (b.size-1)<=Rk f a (a.size-1))
  (h:∀out g,out.toList.Perm (a.toList++b.toList)->Gv f out.toList->Q out (j9 st g)):wpS (AH prog w) A E s (R7 a b) Q st:=by
 have ale:∀{i t:Nat},i<=t->t<a.size->Rk f a i<=Rk f a t:=fun {i t} h1 h2=>by
  by_cases c:i=t
  ·rw[c];omega
  have:=ua i t ω h2;omega
 have ble:∀{i t:Nat},i<=t->t<b.size->Rk f b i<=Rk f b t:=fun {i t} h1 h2=>by
  by_cases c:i=t
  ·rw[c];omega
  have:=ub i t ω h2;omega
 have hF:∀t,t<a.size->Rk f b 0<=Rk f a t:=fun t ht=>by have:=ale (D2 t) ht;omega
 refine AG (KO (De (AB rfl ?_)));refine AG (bI (show a.size-1<a.size by omega) fun p hp=>?_);dsimp only;have p0:SHw f a b #[p] (a.size-1) b.size:=by
  have z:SHw f a b #[] a.size b.size:=⟨by unfold iW;simp [HZ],.nil,fun o m=>(by cases m),fun o m=>(by cases m)⟩;exact z.nA ua h1 hp fun u u1 u2=>by have:=ble (i:=u) (t:=b.size-1) ω ω;omega
 by_cases ha1:(a.size-1 == 0)=true
 ·rw[if_pos ha1];obtain⟨r,e,q1,q2⟩:=p0.dn ua ub (.inl (by simpa using ha1));cases e;exact AI (h _ (gallopOf st) q1 q2)
 rw[if_neg ha1];by_cases hb1:(b.size == 1)=true
 ·rw[if_pos hb1];obtain⟨r,e,q1,q2⟩:=p0.fs ua ub (by simpa using hb1) hF;cases e;exact AI (h _ (gallopOf st) q1 q2)
 rw[if_neg hb1];have hb1':1<b.size:=by
  have:¬(b.size=1):=(by simpa using hb1);omega
 have ha1':0<a.size-1:=by
  have:¬(a.size-1=0):=(by simpa using ha1);omega
 refine AG (GU ?_);refine AG (EE (CH (I:=fun x c z=>∃g,z=j9 st g/\∃i j out m,c=(none,i,j,out,m)/\Vg f a b out i j/\i+j+x<=a.size+b.size) (Q:=fun c z=>∃g,z=j9 st g/\qN f a b c.1) ?step ?fin ⟨gallopOf st,rfl,_,_,_,_,rfl,⟨p0,ha1',hb1',ω,AY _⟩,ω⟩) ?post)
 case post=>
  rintro c z ⟨g,rfl,r,hr,hp,hu⟩;rw[hr];exact AI (h r g hp hu)
 case fin=>
  rintro c z ⟨g,rfl,i,j,out,m,rfl,⟨_,l1,l2,_,_⟩,hx⟩;exfalso;omega
 case step=>
  rintro x c z _ hx ⟨g,rfl,i,j,out,m,rfl,hI,hxi⟩;dsimp only;refine AG (EE (CH (I:=fun y c z=>z=j9 st g/\∃i j out ac bc,c=(none,i,j,out,ac,bc)/\Vg f a b out i j/\i+j+(x+y)<=a.size+b.size) (Q:=fun c z=>z=j9 st g/\(qN f a b c.1\/∃i j out ac bc,c=(none,i,j,out,ac,bc)/\Vg f a b out i j/\i+j+(x+1)<=a.size+b.size)) ?step1 ?fin1 ⟨rfl,_,_,_,_,_,rfl,hI,hxi⟩) ?post1)
  case fin1=>
   rintro c z ⟨rfl,i,j,out,ac,bc,rfl,⟨_,l1,l2,_,_⟩,hy⟩;exfalso;omega
  case step1=>
   rintro y c z _ hy ⟨rfl,i,j,out,ac,bc,rfl,⟨si,l1,l2,u1,u2⟩,hyi⟩;dsimp only;refine AG (bI (show j-1<b.size by omega) fun q hq=>?_);refine AG (bI (show i-1<a.size by omega) fun r hr=>?_);refine AG (O _ _ _ _ hk (hb _ _ hq) (ha _ _ hr) ?_);rw[<- bO (f:=f) hq,<- bO (f:=f) hr];by_cases o:Rk f b (j-1)<Rk f a (i-1)
   ·rw[decide_eq_true o];refine AG (bI (show i-1<a.size by omega) fun r hr=>?_);have s2:=si.nA ua ω hr fun u v1 v2=>by have:=ble (i:=u) (t:=j-1) ω ω;omega
    split
    ·rename_i hj;exact AI ⟨rfl,.inl (s2.dn ua ub (.inl (by simpa using hj)))⟩
    rename_i hj;have l1':0<i-1:=by
     have:¬(i-1=0):=(by simpa using hj);omega
    split
    ·exact AI ⟨rfl,.inr ⟨_,_,_,_,_,rfl,⟨s2,l1',l2,ω,u2⟩,ω⟩⟩
    exact AI ⟨rfl,_,_,_,_,_,rfl,⟨s2,l1',l2,ω,u2⟩,ω⟩
   rw[decide_eq_false o];refine AG (bI (show j-1<b.size by omega) fun q hq=>?_);have s2:=si.vm ub ω hq fun u v1 v2=>by have:=ale (i:=u) (t:=i-1) ω ω;omega
   split
   ·rename_i hj;exact AI ⟨rfl,.inl (s2.fs ua ub (by simpa using hj) hF)⟩
   rename_i hj;have l2':1<j-1:=by
    have:¬(j-1=1):=(by simpa using hj);omega
   split
   ·exact AI ⟨rfl,.inr ⟨_,_,_,_,_,rfl,⟨s2,l1,l2',u1,ω⟩,ω⟩⟩
   exact AI ⟨rfl,_,_,_,_,_,rfl,⟨s2,l1,l2',u1,ω⟩,ω⟩
  case post1=>
   rintro c z ⟨rfl,hc⟩;rcases hc with⟨r,hr,hp,hu⟩|⟨i,j,out,ac,bc,rfl,hI1,hxi1⟩
   ·rw[hr];exact AI ⟨g,rfl,r,rfl,hp,hu⟩
   dsimp only;refine AG (KO (De (AB rfl ?_)));refine AG (EE (CH (I:=fun y c z=>∃g,z=j9 st g/\∃i j out m ac bc,c=(none,i,j,out,m,ac,bc)/\Vg f a b out i j/\i+j+(x+1)<=a.size+b.size) (Q:=fun c z=>∃g,z=j9 st g/\(qN f a b c.1\/∃i j out m ac bc,c=(none,i,j,out,m,ac,bc)/\Vg f a b out i j/\i+j+(x+1)<=a.size+b.size)) ?step2 (fun c z ⟨g,hz,hc⟩=>⟨g,hz,.inr hc⟩) ⟨g,rfl,_,_,_,_,_,_,rfl,hI1,hxi1⟩) ?post2)
   case post2=>
    rintro c z ⟨g,rfl,hc⟩;rcases hc with⟨r,hr,hp,hu⟩|⟨i,j,out,m,ac,bc,rfl,hI1,hxi1⟩
    ·rw[hr];exact AI ⟨g,rfl,r,rfl,hp,hu⟩
    refine AG (EV ?_);exact AI ⟨m+1,rfl,_,_,_,_,rfl,hI1,hxi1⟩
   case step2=>
    rintro y c z _ hy ⟨g,rfl,i,j,out,m,ac,bc,rfl,⟨si,l1,l2,u1,u2⟩,hyi⟩;dsimp only;by_cases hm:m>1
    all_goals first|rw[if_pos hm]|rw[if_neg hm]
    all_goals
     refine AG (EV ?_);refine AG (bI (show j-1<b.size by omega) fun q hq=>?_);refine AG (kJ O hk (hb _ _ hq) ha ω ω (fun x y h1 h2=>ua _ _ ω ω) fun x1 hx1 g1 g2=>?_);rw[<- bO (f:=f) hq] at g1 g2;simp only[zero_add] at g1 g2;have s1:=si.VP (x:=x1) ua hx1 fun t t1 t2 t3 u v1 v2=>by
      have:=g2 t t1 t2;have:=ble (i:=u) (t:=j-1) ω ω;omega
     have gB:∀u,u<x1->u<a.size->Rk f a u<=Rk f b (j-1):=fun u v1 v2=>g1 u v1;dsimp only;by_cases hk0:i-x1>0
     ·rw[if_pos hk0];by_cases e1:(x1 == 0)=true
      ·rw[if_pos e1];exact AI ⟨_,rfl,.inl (s1.dn ua ub (.inl (by simpa using e1)))⟩
      rw[if_neg e1];have l1':0<x1:=by
       have:¬(x1=0):=(by simpa using e1);omega
      refine AG (bI (show j-1<b.size by omega) fun q2 hq2=>?_);have s2:=s1.vm ub ω hq2 gB;by_cases e3:(j-1 == 1)=true
      ·rw[if_pos e3];exact AI ⟨_,rfl,.inl (s2.fs ua ub (by simpa using e3) hF)⟩
      rw[if_neg e3];have l2':1<j-1:=by
       have:¬(j-1=1):=(by simpa using e3);omega
      refine AG (bI (show x1-1<a.size by omega) fun r2 hr2=>?_);refine AG (kJ O hk (ha _ _ hr2) hb ω ω (fun x y h1 h2=>ub _ _ ω ω) fun x2 hx2 g3 g4=>?_);rw[<- bO (f:=f) hr2] at g3 g4;simp only[zero_add] at g3 g4;have s3:=s2.LR (x:=x2) ub hx2 fun t t1 t2 t3 u v1 v2=>by
       have:=g4 t t1 t2;have:=ale (i:=u) (t:=x1-1) ω ω;omega
      have gA:∀u,u<x2->u<b.size->Rk f b u<=Rk f a (x1-1):=fun u v1 v2=>g3 u v1;dsimp only;by_cases k20:j-1-x2>0
      ·rw[if_pos k20];by_cases e4:(x2 == 1)=true
       ·rw[if_pos e4];exact AI ⟨_,rfl,.inl (s3.fs ua ub (by simpa using e4) hF)⟩
       rw[if_neg e4];by_cases e6:(x2 == 0)=true
       ·rw[if_pos e6];exact AI ⟨_,rfl,.inl (s3.dn ua ub (.inr (by simpa using e6)))⟩
       rw[if_neg e6];have l2'':1<x2:=by
        have:¬(x2=1):=(by simpa using e4);have:¬(x2=0):=(by simpa using e6);omega
       refine AG (bI (show x1-1<a.size by omega) fun r3 hr3=>?_);have s4:=s3.nA ua ω hr3 gA;by_cases e5:(x1-1 == 0)=true
       ·rw[if_pos e5];exact AI ⟨_,rfl,.inl (s4.dn ua ub (.inl (by simpa using e5)))⟩
       rw[if_neg e5];have l9:0<x1-1:=by
        have:¬(x1-1=0):=(by simpa using e5);omega
       split
       ·exact AI ⟨_,rfl,.inr ⟨_,_,_,_,_,_,rfl,⟨s4,l9,l2'',ω,ω⟩,ω⟩⟩
       exact AI ⟨_,rfl,_,_,_,_,_,_,rfl,⟨s4,l9,l2'',ω,ω⟩,ω⟩
      rw[if_neg k20];have e20:x2=j-1:=ω;subst e20;refine AG (bI (show x1-1<a.size by omega) fun r3 hr3=>?_);have s4:=s2.nA ua ω hr3 gA;by_cases e5:(x1-1 == 0)=true
      ·rw[if_pos e5];exact AI ⟨_,rfl,.inl (s4.dn ua ub (.inl (by simpa using e5)))⟩
      rw[if_neg e5];have l9:0<x1-1:=by
       have:¬(x1-1=0):=(by simpa using e5);omega
      split
      ·exact AI ⟨_,rfl,.inr ⟨_,_,_,_,_,_,rfl,⟨s4,l9,l2',ω,ω⟩,ω⟩⟩
      exact AI ⟨_,rfl,_,_,_,_,_,_,rfl,⟨s4,l9,l2',ω,ω⟩,ω⟩
     rw[if_neg hk0];have e00:x1=i:=ω;subst e00;refine AG (bI (show j-1<b.size by omega) fun q2 hq2=>?_);have s2:=si.vm ub ω hq2 gB;by_cases e3:(j-1 == 1)=true
     ·rw[if_pos e3];exact AI ⟨_,rfl,.inl (s2.fs ua ub (by simpa using e3) hF)⟩
     rw[if_neg e3];have l2':1<j-1:=by
      have:¬(j-1=1):=(by simpa using e3);omega
     refine AG (bI (show x1-1<a.size by omega) fun r2 hr2=>?_);refine AG (kJ O hk (ha _ _ hr2) hb ω ω (fun x y h1 h2=>ub _ _ ω ω) fun x2 hx2 g3 g4=>?_);rw[<- bO (f:=f) hr2] at g3 g4;simp only[zero_add] at g3 g4;have s3:=s2.LR (x:=x2) ub hx2 fun t t1 t2 t3 u v1 v2=>by
      have:=g4 t t1 t2;have:=ale (i:=u) (t:=x1-1) ω ω;omega
     have gA:∀u,u<x2->u<b.size->Rk f b u<=Rk f a (x1-1):=fun u v1 v2=>g3 u v1;dsimp only;by_cases k20:j-1-x2>0
     ·rw[if_pos k20];by_cases e4:(x2 == 1)=true
      ·rw[if_pos e4];exact AI ⟨_,rfl,.inl (s3.fs ua ub (by simpa using e4) hF)⟩
      rw[if_neg e4];by_cases e6:(x2 == 0)=true
      ·rw[if_pos e6];exact AI ⟨_,rfl,.inl (s3.dn ua ub (.inr (by simpa using e6)))⟩
      rw[if_neg e6];have l2'':1<x2:=by
       have:¬(x2=1):=(by simpa using e4);have:¬(x2=0):=(by simpa using e6);omega
      refine AG (bI (show x1-1<a.size by omega) fun r3 hr3=>?_);have s4:=s3.nA ua ω hr3 gA;by_cases e5:(x1-1 == 0)=true
      ·rw[if_pos e5];exact AI ⟨_,rfl,.inl (s4.dn ua ub (.inl (by simpa using e5)))⟩
      rw[if_neg e5];have l9:0<x1-1:=by
       have:¬(x1-1=0):=(by simpa using e5);omega
      split
      ·exact AI ⟨_,rfl,.inr ⟨_,_,_,_,_,_,rfl,⟨s4,l9,l2'',ω,ω⟩,ω⟩⟩
      exact AI ⟨_,rfl,_,_,_,_,_,_,rfl,⟨s4,l9,l2'',ω,ω⟩,ω⟩
     rw[if_neg k20];have e20:x2=j-1:=ω;subst e20;refine AG (bI (show x1-1<a.size by omega) fun r3 hr3=>?_);have s4:=s2.nA ua ω hr3 gA;by_cases e5:(x1-1 == 0)=true
     ·rw[if_pos e5];exact AI ⟨_,rfl,.inl (s4.dn ua ub (.inl (by simpa using e5)))⟩
     rw[if_neg e5];have l9:0<x1-1:=by
      have:¬(x1-1=0):=(by simpa using e5);omega
     split
     ·exact AI ⟨_,rfl,.inr ⟨_,_,_,_,_,_,rfl,⟨s4,l9,l2',ω,ω⟩,ω⟩⟩
     exact AI ⟨_,rfl,_,_,_,_,_,_,rfl,⟨s4,l9,l2',ω,ω⟩,ω⟩
end
end SRT
namespace SRT
open PySem PyProof.Rows
section
variable {κ:EJ}{prog:AW}{w:BC}{s:AA}{A:A3}{E:Ap->AA->Prop}{a₀:Array A0}{f:A0->Int}{pd:Array (Nat×Nat×Nat)}
def cT (f:A0->Int)(xs:Array A0)(lo hi:Nat):Prop:=∀i j,lo<=i->i<j->j<hi->Rk f xs i<=Rk f xs j
theorem cT.snoc {xs:Array A0}{lo n:Nat}(h:cT f xs lo n)(h1:lo<n)(hl:Rk f xs (n-1)<=Rk f xs n):cT f xs lo (n+1):=fun i j hi hij hj=>by
 by_cases e:j=n
 ·subst e;by_cases e2:i=j-1
  ·subst e2;exact hl
  have:=h i (j-1) hi ω ω;omega
 exact h i j hi hij ω
theorem cT.at {xs ys:Array A0}{lo hi:Nat}(h:cT f xs lo hi)(e:∀i,lo<=i->i<hi->ys[i]?=xs[i]?):cT f ys lo hi:=fun i j h1 h2 h3=>by
 rw[Rk.at (e i h1 ω),Rk.at (e j ω h3)];exact h i j h1 h2 h3
theorem QB.mirror {st:Ch}(h:QB κ a₀ pd st)(i j d:Nat):QB κ a₀ pd (setArr st (mirror (AL st) i j d)):=h.set (mirror_perm _ _ _ _)
theorem M9 {st:Ch}{i j:Nat}{Q:Option Bool->Ch->Prop}(O:uz κ prog w A E s a₀ f)(hB:QB κ a₀ pd st)(hi:i<a₀.size)(hj:j<a₀.size)
  (h:Q (some (decide (Rk f (AL st) i<Rk f (AL st) j))) st):wpS (AH prog w) A E s (ltAt' i j) Q st:=by
 have hz:=hB.size;rw[ltAt'_eq];refine AG (GU ?_);refine AG (bI ω fun p hp=>?_);refine AG (bI ω fun q hq=>?_);rw[bO hp,bO hq] at h;exact O _ _ _ _ hB.kind (hB.inn _ _ hp) (hB.inn _ _ hq) h
structure vG (κ:EJ)(a₀:Array A0)(pd:Array (Nat×Nat×Nat))(f:A0->Int)(lo:Nat)(z0 z:Ch):Prop where
 b:QB κ a₀ pd z
 o:∀i,i<lo->(AL z)[i]?=(AL z0)[i]?
 r:∀i,Rk f (AL z) i=Rk f (AL z0) i
theorem vG.rev {z0 z:Ch}{lo i j:Nat}(h:vG κ a₀ pd f lo z0 z)(hi:lo<=i)(hj:j<=a₀.size)(flat:∀k,i<=k->k<j->Rk f (AL z0) k=Rk f (AL z0) (j-1)):vG κ a₀ pd f lo z0 (setArr z (mirror (AL z) i j ((j-i)/2))):=by
 have hz:=h.b.size;have mi:=fun k=>getElem?_mirror_all (xs:=AL z) (i:=i) (j:=j) ω k;refine⟨h.b.mirror _ _ _,fun k hk=>?_,fun k=>?_⟩
 ·have e:=mi k;rw[if_neg ω] at e;exact e.trans (h.o k hk)
 have e:=mi k;show Rk f (mirror (AL z) i j ((j-i)/2)) k=_;by_cases c:i<=k/\k<j
 ·rw[if_pos c] at e;rw[Rk.at e,h.r,flat _ ω ω,flat k c.1 c.2]
 rw[if_neg c] at e;rw[Rk.at e,h.r]
theorem Yv {st:Ch}{lo nrem:Nat}{Q:Option Nat->Ch->Prop}(O:uz κ prog w A E s a₀ f)(hB:QB κ a₀ pd st)(h1:1<=nrem)(hn:lo+nrem<=a₀.size)
  (h:∀n st',1<=n->n<=nrem->QB κ a₀ pd st'->(∀i,i<lo->(AL st')[i]?=(AL st)[i]?)->cT f (AL st') lo (lo+n)->Q (some n) st'):wpS (AH prog w) A E s (countRun' lo nrem) Q st:=by
 refine AG (EE (CH (I:=fun x c z=>z=st/\c=(none,x)/\cT f (AL st) lo (lo+x)) (Q:=fun c z=>z=st/\∃n,c=(none,n)/\1<=n/\n<=nrem/\cT f (AL st) lo (lo+n)/\(n<nrem->Rk f (AL st) (lo+n)<Rk f (AL st) (lo+n-1))) ?_ ?_ ⟨rfl,rfl,fun i j a b c=>ω⟩) ?_)
 ·rintro x c z h1x hx ⟨rfl,rfl,ha⟩;dsimp only;refine AG (M9 O hB ω ω ?_);by_cases e:Rk f (AL z) (lo+x)<Rk f (AL z) (lo+x-1)
  ·rw[decide_eq_true e];exact AI ⟨rfl,x,rfl,h1x,ω,ha,fun _=>e⟩
  rw[decide_eq_false e];exact AI ⟨rfl,rfl,ha.snoc ω ω⟩
 ·rintro c z ⟨rfl,rfl,ha⟩;rw[max_eq_right h1] at ha |-;exact⟨rfl,_,rfl,ω,ω,ha,fun q=>ω⟩
 rintro c z0 ⟨rfl,n,rfl,k1,k2,ha,hx⟩;dsimp only;by_cases he:(n == nrem)=true
 ·rw[if_pos he];exact AI (h n z0 k1 k2 hB (fun _ _=>rfl) ha)
 rw[if_neg he];have k3:n<nrem:=by have:¬(n=nrem):=(by simpa using he);omega
 have z00:vG κ a₀ pd f lo z0 z0:=⟨hB,fun _ _=>rfl,fun _=>rfl⟩;refine' (fun(tail:∀z,vG κ a₀ pd f lo z0 z->(∀i j,lo<=i->i<j->j<lo+(n+1)->Rk f (AL z0) j<=Rk f (AL z0) i)->wpS (AH prog w) A E s _ Q z)=>?main) ?tail
 case main=>
  by_cases hg:n>1
  ·rw[if_pos hg];refine AG (M9 O hB ω ω ?_);by_cases e:Rk f (AL z0) lo<Rk f (AL z0) (lo+n-1)
   ·rw[decide_eq_true e];exact AI (h n z0 k1 k2 hB (fun _ _=>rfl) ha)
   rw[decide_eq_false e];have fl:∀k,lo<=k->k<lo+n->Rk f (AL z0) k=Rk f (AL z0) (lo+n-1):=fun k a b=>by
    have q1:Rk f (AL z0) lo<=Rk f (AL z0) k:=by
     by_cases c:lo=k
     ·rw[c];exact DE _
     exact ha lo k (AY _) ω b
    have q2:Rk f (AL z0) k<=Rk f (AL z0) (lo+n-1):=by
     by_cases c:k=lo+n-1
     ·rw[c];exact DE _
     exact ha k (lo+n-1) a ω ω
    omega
   apply AG;apply wpS_reverse;refine tail _ (z00.rev (AY _) ω fl) fun i j a b c=>?_;have q1:=fl i a ω;by_cases c2:j=lo+n
   ·have:=hx k3;rw[c2];omega
   have q2:=fl j ω ω;omega
  rw[if_neg hg];refine tail z0 z00 fun i j a b c=>?_;have e1:n=1:=ω;subst e1;have:i=lo:=by omega
  have:j=lo+1:=by omega
  subst i;subst j;have:=hx k3;rw[show lo+1-1=lo by omega] at this;omega
 case tail=>
  intro z hz hd;refine AG (KO (De (AB rfl ?_)));refine AG (EE (CH (I:=fun x c z'=>∃q,vG κ a₀ pd f lo z0 z'/\c=(none,x,q)/\(∀i j,lo<=i->i<j->j<lo+x->Rk f (AL z0) j<=Rk f (AL z0) i)/\q+1<=x/\∀k,lo+x-(q+1)<=k->k<lo+x->Rk f (AL z0) k=Rk f (AL z0) (lo+x-1))
   (Q:=fun c z'=>∃x q,vG κ a₀ pd f lo z0 z'/\c=(none,x,q)/\2<=x/\x<=nrem/\(∀i j,lo<=i->i<j->j<lo+x->Rk f (AL z0) j<=Rk f (AL z0) i)/\q+1<=x/\∀k,lo+x-(q+1)<=k->k<lo+x->Rk f (AL z0) k=Rk f (AL z0) (lo+x-1)) ?_ ?_ ⟨0,hz,rfl,hd,ω,fun k a b=>by rw[show k=lo+(n+1)-1 by omega]⟩) ?_)
  ·rintro x c z' h2x hx2 ⟨q,hZ,rfl,hD,hq1,hq2⟩;dsimp only;refine AG (M9 O hZ.b ω ω ?_);rw[hZ.r,hZ.r];have hD1:Rk f (AL z0) (lo+x)<=Rk f (AL z0) (lo+x-1)->∀i j,lo<=i->i<j->j<lo+(x+1)->Rk f (AL z0) j<=Rk f (AL z0) i:=fun e i j a b c=>by
    by_cases ej:j=lo+x
    ·subst ej;by_cases ei:i=lo+x-1
     ·rw[ei];exact e
     have:=hD i (lo+x-1) a ω ω;omega
    exact hD i j a b ω
   by_cases e:Rk f (AL z0) (lo+x)<Rk f (AL z0) (lo+x-1)
   ·rw[decide_eq_true e];dsimp only;rw[if_pos rfl];have one:∀k,lo+(x+1)-(0+1)<=k->k<lo+(x+1)->Rk f (AL z0) k=Rk f (AL z0) (lo+(x+1)-1):=fun k a b=>by rw[show k=lo+(x+1)-1 by omega]
    by_cases hq:q>0
    ·rw[if_pos hq];apply AG;apply wpS_reverse;exact AI ⟨0,hZ.rev ω ω hq2,rfl,hD1 ω,ω,one⟩
    rw[if_neg hq];exact AI ⟨0,hZ,rfl,hD1 ω,ω,one⟩
   rw[decide_eq_false e];dsimp only;rw[if_neg (A5)];refine AG (M9 O hZ.b ω ω ?_);rw[hZ.r,hZ.r];by_cases e2:Rk f (AL z0) (lo+x-1)<Rk f (AL z0) (lo+x)
   ·rw[decide_eq_true e2];exact AI ⟨x,q,hZ,rfl,ω,ω,hD,hq1,hq2⟩
   rw[decide_eq_false e2];refine AI ⟨q+1,hZ,rfl,hD1 ω,ω,fun k a b=>?_⟩;rw[show lo+(x+1)-1=lo+x by omega];by_cases c:k=lo+x
   ·rw[c]
   have:=hq2 k ω ω;omega
  ·rintro c z' ⟨q,hZ,rfl,hD,hq1,hq2⟩;rw[max_eq_right ω] at hD hq1 hq2 |-;exact⟨_,q,hZ,rfl,ω,AY _,hD,hq1,hq2⟩
  rintro c z' ⟨n,q,hZ,rfl,q1,q2,hD,hq1,hq2⟩;dsimp only;refine' (fun(tail2:∀z',vG κ a₀ pd f lo z0 z'->wpS (AH prog w) A E s _ Q z')=>?main2) ?tail2
  case main2=>
   by_cases hq:q>0
   ·rw[if_pos hq];apply AG;apply wpS_reverse;exact tail2 _ (hZ.rev ω ω hq2)
   rw[if_neg hq];exact tail2 _ hZ
  case tail2=>
   intro z' hZ;have hz:=hZ.b.size;apply AG;apply wpS_reverse;have hB':QB κ a₀ pd (setArr z' (mirror (AL z') lo (lo+n) ((lo+n-lo)/2))):=hZ.b.mirror _ _ _;have mi:=fun k=>getElem?_mirror_all (xs:=AL z') (i:=lo) (j:=lo+n) ω k;have ha':cT f (AL (setArr z' (mirror (AL z') lo (lo+n) ((lo+n-lo)/2)))) lo (lo+n):=fun i j a b c=>by
    have e1:=mi i;have e2:=mi j;rw[if_pos ⟨a,ω⟩] at e1;rw[if_pos ⟨ω,c⟩] at e2;show Rk f (mirror (AL z') lo (lo+n) ((lo+n-lo)/2)) i<=Rk f (mirror (AL z') lo (lo+n) ((lo+n-lo)/2)) j;rw[Rk.at e1,Rk.at e2,hZ.r,hZ.r];exact hD _ _ ω ω ω
   have hsame:∀i,i<lo->(AL (setArr z' (mirror (AL z') lo (lo+n) ((lo+n-lo)/2))))[i]?=(AL z0)[i]?:=fun i hi=>by
    have e1:=mi i;rw[if_neg ω] at e1;exact e1.trans (hZ.o i hi)
   generalize setArr z' (mirror (AL z') lo (lo+n) ((lo+n-lo)/2))=st2 at hB' ha' hsame |-;refine AG (EE (CH (I:=fun x c z=>z=st2/\c=(none,x)/\cT f (AL st2) lo (lo+x)) (Q:=fun c z=>z=st2/\∃n,c=(none,n)/\1<=n/\n<=nrem/\cT f (AL st2) lo (lo+n)) ?_ ?_ ⟨rfl,rfl,ha'⟩) ?_)
   ·rintro x c z h1x hx ⟨rfl,rfl,ha⟩;dsimp only;refine AG (M9 O hB' ω ω ?_);by_cases e:Rk f (AL z) (lo+x)<Rk f (AL z) (lo+x-1)
    ·rw[decide_eq_true e];exact AI ⟨rfl,x,rfl,ω,ω,ha⟩
    rw[decide_eq_false e];exact AI ⟨rfl,rfl,ha.snoc ω ω⟩
   ·rintro c z ⟨rfl,rfl,ha⟩;rw[max_eq_right ω] at ha |-;exact⟨rfl,_,rfl,ω,AY _,ha⟩
   rintro c z ⟨rfl,n,rfl,k1,k2,ha⟩;exact AI (h n z k1 k2 hB' hsame ha)
theorem Dh {xs:Array A0}{K L lo:Nat}(h:cT f xs lo K)(hK:K<xs.size)(hL:lo<=L)(hL2:L<=K)(h1:∀i,lo<=i->i<L->Rk f xs i<=Rk f xs K)(h2:∀i,L<=i->i<K->Rk f xs K<=Rk f xs i):cT f (bubble xs K (K-L)) lo (K+1):=by
 have g:∀i,Rk f (bubble xs K (K-L)) i=if i=L then Rk f xs K else if L<i/\i<=K then Rk f xs (i-1) else Rk f xs i:=fun i=>by
  have e:=getElem?_bubble hK (K-L) ω i;rw[show K-(K-L)=L by omega] at e;split
  ·rename_i c;rw[if_pos c] at e;exact Rk.at e
  rename_i c;rw[if_neg c] at e;split
  ·rename_i c2;rw[if_pos c2] at e;exact Rk.at e
  rename_i c2;rw[if_neg c2] at e;exact Rk.at e
 intro i j hlo hij hj;rw[g i,g j];by_cases a1:i=L
 ·rw[if_pos a1,if_neg ω,if_pos ω];exact h2 _ ω ω
 rw[if_neg a1];by_cases a2:L<i/\i<=K
 ·rw[if_pos a2,if_neg ω,if_pos ω];exact h _ _ ω ω ω
 rw[if_neg a2];by_cases b1:j=L
 ·rw[if_pos b1];exact h1 _ hlo ω
 rw[if_neg b1];by_cases b2:L<j/\j<=K
 ·rw[if_pos b2];by_cases c:i=j-1
  ·omega
  exact h _ _ hlo ω ω
 rw[if_neg b2];exact h _ _ hlo ω ω
theorem acy {st:Ch}{lo n ok:Nat}{Q:Bool->Ch->Prop}(O:uz κ prog w A E s a₀ f)(hB:QB κ a₀ pd st)(hn:lo+n<=a₀.size)(hok:1<=ok)(hon:ok<=n)(ha:cT f (AL st) lo (lo+ok))
  (h:∀st',QB κ a₀ pd st'->(∀i,i<lo->(AL st')[i]?=(AL st)[i]?)->cT f (AL st') lo (lo+n)->Q true st'):wpS (AH prog w) A E s (binarySort' lo n ok) Q st:=by
 have hm:max ok 1=ok:=ω;refine AG (EE (CH (I:=fun x c z=>QB κ a₀ pd z/\c=(none,())/\(∀i,i<lo->(AL z)[i]?=(AL st)[i]?)/\cT f (AL z) lo (lo+x)) (Q:=fun c z=>QB κ a₀ pd z/\c=(none,())/\(∀i,i<lo->(AL z)[i]?=(AL st)[i]?)/\cT f (AL z) lo (lo+n)) ?_ (fun c z hh=>by rw[hm,max_eq_right hon] at hh;exact hh) ⟨hB,rfl,fun _ _=>rfl,by rw[hm];exact ha⟩) ?_)
 ·rintro k c z hk1 hk ⟨hz,rfl,hsm,hk2⟩;dsimp only;have hsz:=hz.size;refine AG (EE (CH (I:=fun x c z'=>z'=z/\∃l r,c=(none,l,r)/\l<=r/\r<=k/\r-l<=k-x/\(∀i,lo<=i->i<lo+l->Rk f (AL z) i<=Rk f (AL z) (lo+k))/\(∀i,lo+r<=i->i<lo+k->Rk f (AL z) (lo+k)<=Rk f (AL z) i)) (Q:=fun c z'=>z'=z/\∃l,c=(none,l,l)/\l<=k/\(∀i,lo<=i->i<lo+l->Rk f (AL z) i<=Rk f (AL z) (lo+k))/\(∀i,lo+l<=i->i<lo+k->Rk f (AL z) (lo+k)<=Rk f (AL z) i)) ?_ ?_ ⟨rfl,0,k,rfl,D2 _,AY _,ω,fun i a b=>ω,fun i a b=>ω⟩) ?_)
  ·rintro x c z' _ hx ⟨rfl,l,r,rfl,q1,q2,q3,q4,q5⟩;dsimp only;by_cases hl:l≥r
   ·rw[if_pos hl];have:l=r:=by omega
    subst this;exact AI ⟨rfl,l,rfl,q2,q4,q5⟩
   rw[if_neg hl];refine AG (M9 O hz ω ω ?_);by_cases e:Rk f (AL z') (lo+k)<Rk f (AL z') (lo+(l+r)/2)
   ·rw[decide_eq_true e];refine AI ⟨rfl,l,(l+r)/2,rfl,ω,ω,ω,q4,fun i h1 h2=>?_⟩;by_cases c:i=lo+(l+r)/2
    ·rw[c];exact Int.le_of_lt e
    have:=hk2 (lo+(l+r)/2) i ω ω h2;omega
   rw[decide_eq_false e];refine AI ⟨rfl,(l+r)/2+1,r,rfl,ω,q2,ω,fun i h0 h1=>?_,q5⟩;by_cases c:i=lo+(l+r)/2
   ·rw[c];omega
   have:=hk2 i (lo+(l+r)/2) h0 ω ω;omega
  ·rintro c z' ⟨rfl,l,r,rfl,q1,q2,q3,q4,q5⟩;have:l=r:=by omega
   subst this;exact⟨rfl,l,rfl,q2,q4,q5⟩
  rintro c z' ⟨rfl,l,rfl,q2,q4,q5⟩;dsimp only;refine AG (EV (AI ⟨hz.set (bubble_perm _ _ _),rfl,fun i hi=>?_,?_⟩))
  ·have e:=getElem?_bubble (xs:=AL z') (src:=lo+k) ω (lo+k-(lo+l)) ω i;rw[if_neg ω,if_neg ω] at e;exact e.trans (hsm i hi)
  exact Dh (xs:=AL z') (K:=lo+k) (L:=lo+l) hk2 (show lo+k<(AL z').size by omega) ω ω q4 q5
 rintro c z ⟨hz,rfl,hsm,hk⟩;exact AI (h z hz hsm hk)
end
end SRT
namespace SRT
open PySem PyProof.Rows
section
variable {κ:EJ}{prog:AW}{w:BC}{s:AA}{A:A3}{E:Ap->AA->Prop}{a₀:Array A0}{f:A0->Int}{pd:Array (Nat×Nat×Nat)}
theorem Af {st:Ch}{Q:Bool->Ch->Prop}{pre post:List (Nat×Nat×Nat)}{sa na pw sb nb pv:Nat}(O:uz κ prog w A E s a₀ f)(hB:QB κ a₀ pd st)
  (hp:(A1 st).toList=pre++(sa,na,pw)::(sb,nb,pv)::post) (hs:sb=sa+na) (ha:1<=na) (hb:1<=nb) (he:sb+nb<=a₀.size) (ua:cT f (AL st) sa sb) (ub:cT f (AL st) sb (sb+nb))
  (h:∀st',QB κ a₀ (A1 st') st'->(A1 st').toList=pre++(sa,na+nb,pw)::post->(∀i,i<sa\/sb+nb<=i->(AL st')[i]?=(AL st)[i]?)->cT f (AL st') sa (sb+nb)->Q true st'):wpS (AH prog w) A E s (mergeAt' pre.length) Q st:=by
 have hz:=hB.size;have hI:=hB.inn;refine AG (GU ?_);have e1:(A1 st)[pre.length]?=some (sa,na,pw):=by rw[<- Ct,hp];simp
 have e2:(A1 st)[pre.length+1]?=some (sb,nb,pv):=by rw[<- Ct,hp];simp
 have e3:(((A1 st).setIfInBounds pre.length (sa,na+nb,pw)).eraseIdxIfInBounds (pre.length+1)).toList=pre++(sa,na+nb,pw)::post:=by
  simp [hp,Mn,List.eraseIdx_append_of_length_le]
 dsimp only [A1] at e1 e2;dsimp only;rw[e1,e2];dsimp only;refine AG (Vh ?_);refine AG (bI (show sb<(AL st).size by omega) fun q hq=>?_);refine AG (kJ O hB.kind (hI _ _ hq) hI (show sa+na<=(AL st).size by omega) (show 0<na by omega) (fun i j h1 h2=>ua _ _ ω ω ω) fun k hk g1 g2=>?_);rw[<- bO (f:=f) hq] at g1 g2;have g1':∀i,sa<=i->i<sa+k->Rk f (AL st) i<=Rk f (AL st) sb:=fun i h1 h2=>by
  have:=g1 (i-sa) ω;rwa [show sa+(i-sa)=i by omega] at this
 have ble:∀{i t:Nat},sb<=i->i<=t->t<sb+nb->Rk f (AL st) i<=Rk f (AL st) t:=fun {i t} h0 h1 h2=>by
  by_cases c:i=t
  ·rw[c];omega
  have:=ub i t h0 ω h2;omega
 have ale:∀{i t:Nat},sa<=i->i<=t->t<sb->Rk f (AL st) i<=Rk f (AL st) t:=fun {i t} h0 h1 h2=>by
  by_cases c:i=t
  ·rw[c];omega
  have:=ua i t h0 ω h2;omega
 dsimp only;by_cases hk0:(na-k == 0)=true
 ·rw[if_pos hk0];have hk1:k=na:=by have:na-k=0:=(by simpa using hk0);omega
  refine AI (h _ ⟨hB.kind,hB.perm,hB.fail,rfl⟩ e3 (fun _ _=>rfl) fun i j h1 h2 h3=>?_);show Rk f (AL st) i<=Rk f (AL st) j;by_cases c1:j<sb
  ·exact ua i j h1 h2 c1
  by_cases c2:sb<=i
  ·exact ub i j c2 h2 h3
  have:=g1' i h1 ω;have:=ble (i:=sb) (t:=j) (AY _) ω h3;omega
 rw[if_neg hk0];have hk1:k<na:=by have:¬(na-k=0):=(by simpa using hk0);omega
 refine AG (bI (show sa+k+(na-k)-1<(AL st).size by omega) fun q2 hq2=>?_);have hl1:sa+k+(na-k)-1=sb-1:=ω;refine AG (kJ O hB.kind (hI _ _ hq2) hI (show sb+nb<=(AL st).size by omega) (show nb-1<nb by omega) (fun i j h1 h2=>ub _ _ ω ω ω) fun m hm g3 g4=>?_);rw[<- bO (f:=f) hq2,hl1] at g3 g4;have g4':∀i,sb+m<=i->i<sb+nb->Rk f (AL st) (sb-1)<=Rk f (AL st) i:=fun i h1 h2=>by
  have:=g4 (i-sb) ω ω;rwa [show sb+(i-sb)=i by omega] at this
 dsimp only;by_cases hm0:(m == 0)=true
 ·rw[if_pos hm0];have hm1:m=0:=by simpa using hm0
  refine AI (h _ ⟨hB.kind,hB.perm,hB.fail,rfl⟩ e3 (fun _ _=>rfl) fun i j h1 h2 h3=>?_);show Rk f (AL st) i<=Rk f (AL st) j;by_cases c1:j<sb
  ·exact ua i j h1 h2 c1
  by_cases c2:sb<=i
  ·exact ub i j c2 h2 h3
  have:=g4' j ω h3;have:=ale (i:=i) (t:=sb-1) h1 ω ω;omega
 rw[if_neg hm0];have hm1:0<m:=by have:¬(m=0):=(by simpa using hm0);omega
 have zx:((AL st).extract (sa+k) sb).size=sb-(sa+k):=by rw[Array.size_extract];omega
 have zy:((AL st).extract sb (sb+m)).size=m:=by rw[Array.size_extract];omega
 have rx:∀i,i<sb-(sa+k)->Rk f ((AL st).extract (sa+k) sb) i=Rk f (AL st) (sa+k+i):=fun i hi=>Rk.at (by rw[LX,if_pos ω]);have ry:∀i,i<m->Rk f ((AL st).extract sb (sb+m)) i=Rk f (AL st) (sb+i):=fun i hi=>Rk.at (by rw[LX,if_pos ω]);have ix:∀x y,Inn a₀ ((AL st).extract x y):=fun x y i p e=>by
  rw[LX] at e;split at e
  ·exact hI _ p e
  cases e
 have fin:∀(out:Array A0)(z:Ch),out.toList.Perm (((AL st).extract (sa+k) sb).toList++((AL st).extract sb (sb+m)).toList)->Gv f out.toList->kindOf z=κ->IX z=none->(A1 z).toList=pre++(sa,na+nb,pw)::post->AL z=out.toList.zipIdx.foldl (fun a (x:A0×Nat)=>a.setIfInBounds (sa+k+x.2) x.1) (AL st)->Q true z:=by
  intro out z ho hu kz fz pz az;have zo:out.size=sb-(sa+k)+m:=by
   have:=ho.length_eq;rw[AO] at this;simp only[CC] at this;omega
  have get:∀t,(AL z)[t]?=if t<sa+k then (AL st)[t]? else if t<sb+m then out[t-(sa+k)]? else (AL st)[t]?:=fun t=>by
   rw[az];exact Wm ω ω t
  have uo:=Vk hu;have bnd:∀t,t<out.size->(∃u,sa+k<=u/\u<sb+m/\Rk f out t=Rk f (AL st) u):=fun t ht=>by
   have e:=getElem?_pos out t ht;have mem:out[t]∈out.toList:=by simp
   rw[bO e];rcases A6.mp (ho.mem_iff.mp mem) with mm|mm
   ·obtain⟨u,u1,u2,u3,eu⟩:=bH mm;exact⟨u,u1,ω,(bO eu).symm⟩
   obtain⟨u,u1,u2,u3,eu⟩:=bH mm;exact⟨u,ω,u2,(bO eu).symm⟩
  have lows:∀i u,sa<=i->i<sa+k->sa+k<=u->u<sb+nb->Rk f (AL st) i<=Rk f (AL st) u:=fun i u h1 h2 h3 h4=>by
   by_cases c:u<sb
   ·exact ua i u h1 ω c
   have:=g1' i h1 h2;have:=ble (i:=sb) (t:=u) (AY _) ω h4;omega
  have highs:∀u j,sa<=u->u<sb+m->sb+m<=j->j<sb+nb->Rk f (AL st) u<=Rk f (AL st) j:=fun u j h1 h2 h3 h4=>by
   by_cases c:u<sb
   ·have:=g4' j h3 h4;have:=ale (i:=u) (t:=sb-1) h1 ω ω;omega
   exact ub u j ω ω h4
  refine h z ⟨kz,?_,fz,rfl⟩ pz (fun i hi=>?_) fun i j h1 h2 h3=>?_
  ·rw[az];exact(Q7 (a:=AL st) ω (Nat.le_add_right _ _) (show sb+m<=(AL st).size by omega) ho).trans hB.perm
  ·rw[get];split
   ·rfl
   rw[if_neg ω]
  by_cases ci:i<sa+k
  ·have ei:=get i;rw[if_pos ci] at ei;rw[Rk.at ei];by_cases cj:j<sa+k
   ·have ej:=get j;rw[if_pos cj] at ej;rw[Rk.at ej];exact ua i j h1 h2 ω
   by_cases cj2:j<sb+m
   ·have ej:=get j;rw[if_neg cj,if_pos cj2] at ej;rw[Rk.at ej];obtain⟨u,u1,u2,eu⟩:=bnd (j-(sa+k)) ω;rw[eu];exact lows i u h1 ci u1 ω
   have ej:=get j;rw[if_neg cj,if_neg cj2] at ej;rw[Rk.at ej];exact lows i j h1 ci ω h3
  by_cases ci2:i<sb+m
  ·have ei:=get i;rw[if_neg ci,if_pos ci2] at ei;rw[Rk.at ei];by_cases cj2:j<sb+m
   ·have ej:=get j;rw[if_neg ω,if_pos cj2] at ej;rw[Rk.at ej];exact uo _ _ ω ω
   have ej:=get j;rw[if_neg ω,if_neg cj2] at ej;rw[Rk.at ej];obtain⟨u,u1,u2,eu⟩:=bnd (i-(sa+k)) ω;rw[eu];exact highs u j ω u2 ω h3
  have ei:=get i;rw[if_neg ci,if_neg ci2] at ei;have ej:=get j;rw[if_neg ω,if_neg ω] at ej;rw[Rk.at ei,Rk.at ej];exact ub i j ω h2 h3
 have cux:iQ f ((AL st).extract (sa+k) sb) ((AL st).extract (sa+k) sb).size:=fun i j h1 h2=>by
  rw[zx] at h2;rw[rx i ω,rx j h2];exact ua _ _ ω ω ω
 have cuy:iQ f ((AL st).extract sb (sb+m)) ((AL st).extract sb (sb+m)).size:=fun i j h1 h2=>by
  rw[zy] at h2;rw[ry i ω,ry j h2];exact ub _ _ ω ω ω
 have c0:Rk f ((AL st).extract sb (sb+m)) 0<=Rk f ((AL st).extract (sa+k) sb) 0:=by
  rw[ry 0 hm1,rx 0 ω];exact g2 k (AY _) hk1
 have cL:Rk f ((AL st).extract sb (sb+m)) (((AL st).extract sb (sb+m)).size-1)<=Rk f ((AL st).extract (sa+k) sb) (((AL st).extract (sa+k) sb).size-1):=by
  rw[zx,zy,ry (m-1) ω,rx _ ω,show sa+k+(sb-(sa+k)-1)=sb-1 by omega];exact g3 (m-1) ω
 have l1:1<=((AL st).extract (sa+k) sb).size:=ω;have l2:1<=((AL st).extract sb (sb+m)).size:=ω;by_cases hle:na-k<=m
 ·rw[if_pos hle];refine AG (R0 O hB.kind (ix _ _) (ix _ _) cux cuy l1 l2 c0 cL fun out g ho hu=>?_);exact AG (EV (AG (GU (zO (by show(IX st).isNone=true;rw[hB.fail];rfl) (fin out _ ho hu hB.kind hB.fail e3 rfl)))))
 rw[if_neg hle];refine AG (R6 O hB.kind (ix _ _) (ix _ _) cux cuy l1 l2 c0 cL fun out g ho hu=>?_);exact AG (EV (AG (GU (zO (by show(IX st).isNone=true;rw[hB.fail];rfl) (fin out _ ho hu hB.kind hB.fail e3 rfl)))))
structure QCw (κ:EJ)(a₀:Array A0)(f:A0->Int)(hi:Nat)(st:Ch):Prop where
 b:QB κ a₀ (A1 st) st
 c:Chain (A1 st).toList 0 hi
 u:∀r,r∈(A1 st).toList->cT f (AL st) r.1 (r.1+r.2.1)
theorem R8 {st:Ch}{i hi:Nat}{Q:Bool->Ch->Prop}(O:uz κ prog w A E s a₀ f)(hB:QCw κ a₀ f hi st)(hh:hi<=a₀.size)(h2:i+1<(A1 st).size)
  (h:∀st',QCw κ a₀ f hi st'->(A1 st').size+1=(A1 st).size->Q true st'):wpS (AH prog w) A E s (mergeAt' i) Q st:=by
 obtain⟨pre,⟨sa,na,pw⟩,⟨sb,nb,pv⟩,post,e,hl⟩:=aby (A1 st).toList i (by simpa using h2);have hc:=hB.c;have hu:=hB.u;rw[e] at hc hu;obtain⟨k1,k2,k3,k4,k5⟩:=hc.two;obtain⟨o1,o2⟩:=hc.parts;subst hl;have ua:=hu (sa,na,pw) (by simp);have ub:=hu (sb,nb,pv) (by simp);replace ua:cT f (AL st) sa (sa+na):=ua;refine Af O hB.b e k1 k2 k3 ω (by rw[k1];exact ua) ub fun st' hB' hp hsm hup=>h st' ⟨hB',by rw[hp];exact k5,fun r m=>?_⟩ ?_
 ·rw[hp] at m;rcases A6.mp m with m|m
  ·refine(hu r (Cc _ m)).at fun x _ hx=>hsm x (.inl ?_);have:=o1 r m;omega
  rcases BB.mp m with rfl|m
  ·show cT f (AL st') sa (sa+(na+nb));rw[show sa+(na+nb)=sb+nb by omega];exact hup
  refine(hu r (AQ _ (A4 _ (A4 _ m)))).at fun x hx _=>hsm x (.inr ?_);have:=o2 r m;omega
 rw[<- CC,<- CC,hp,e];simp;omega
theorem QCw.Ef {st:Ch}{hi pw:Nat}(h:QCw κ a₀ f hi st):QCw κ a₀ f hi (setPending st ((A1 st).modify ((A1 st).size-1) fun(x,len,_)=>(x,len,pw))):=by
 have key:∃l,((A1 st).modify ((A1 st).size-1) fun(x,len,_)=>(x,len,pw)).toList=l/\Chain l 0 hi/\∀r,r∈l->cT f (AL st) r.1 (r.1+r.2.1):=by
  have hc:=h.c;have hu:=h.u;by_cases he:(A1 st).toList=[]
  ·have:A1 st=#[]:=by simpa using he
   rw[this] at hc hu |-;exact⟨[],by simp,by simpa using hc,fun r m=>(by cases m)⟩
  obtain⟨t,p,n,v,e⟩:=Vy _ he;have e2:A1 st=(t++[(p,n,v)]).toArray:=by rw[<- e]
  rw[e] at hc hu;rw[e2];refine⟨t++[(p,n,pw)],by simp [vA],hc.Ef,fun r m=>?_⟩;rcases A6.mp m with m|m
  ·exact hu r (Cc _ m)
  rw[AK.mp m];exact hu (p,n,v) (by simp)
 obtain⟨l,e,c,u⟩:=key;exact⟨⟨h.b.kind,h.b.perm,h.b.fail,rfl⟩,by show Chain ((A1 st).modify ((A1 st).size-1) fun(x,len,_)=>(x,len,pw)).toList 0 hi;rw[e];exact c,fun r m=>u r (by rw[<- e];exact m)⟩
theorem QCw.push {st:Ch}{lo n:Nat}(h:QCw κ a₀ f lo st)(h1:1<=n)(hu:cT f (AL st) lo (lo+n)):QCw κ a₀ f (lo+n) (setPending st ((A1 st).push (lo,n,0))):=by
 refine⟨⟨h.b.kind,h.b.perm,h.b.fail,rfl⟩,?_,fun r m=>?_⟩
 ·show Chain ((A1 st).push (lo,n,0)).toList 0 (lo+n);rw[ED];exact h.c.snoc h1
 replace m:r∈((A1 st).push (lo,n,0)).toList:=m;rw[ED] at m;rcases A6.mp m with m|m
 ·exact h.u r m
 rw[AK.mp m];exact hu
theorem QCw.of {st st':Ch}{lo:Nat}(h:QCw κ a₀ f lo st)(h':QB κ a₀ (A1 st) st')(hs:∀i,i<lo->(AL st')[i]?=(AL st)[i]?):QCw κ a₀ f lo st':=by
 refine⟨⟨h'.kind,h'.perm,h'.fail,rfl⟩,by rw[h'.pend];exact h.c,fun r m=>?_⟩;rw[h'.pend] at m;exact(h.u r m).at fun x _ hx=>hs x (by have:=(h.c.mem r m).2;omega)
theorem Fl {st:Ch}{i lo n:Nat}{Q:Bool->Ch->Prop}(O:uz κ prog w A E s a₀ f)(hB:QCw κ a₀ f lo st)(hh:lo<=a₀.size)(h2:i+1<(A1 st).size)(hu:cT f (AL st) lo (lo+n))
  (h:∀st',QCw κ a₀ f lo st'->cT f (AL st') lo (lo+n)->Q true st'):wpS (AH prog w) A E s (mergeAt' i) Q st:=by
 obtain⟨pre,⟨sa,na,pw⟩,⟨sb,nb,pv⟩,post,e,hl⟩:=aby (A1 st).toList i (by simpa using h2);have hc:=hB.c;have hu':=hB.u;rw[e] at hc hu';obtain⟨k1,k2,k3,k4,k5⟩:=hc.two;obtain⟨o1,o2⟩:=hc.parts;subst hl;have ua:=hu' (sa,na,pw) (by simp);have ub:=hu' (sb,nb,pv) (by simp);replace ua:cT f (AL st) sa (sa+na):=ua;refine Af O hB.b e k1 k2 k3 ω (by rw[k1];exact ua) ub fun st' hB' hp hsm hup=>h st' ⟨hB',by rw[hp];exact k5,fun r m=>?_⟩ (hu.at fun x hx _=>hsm x (.inr ω));rw[hp] at m;rcases A6.mp m with m|m
 ·refine(hu' r (Cc _ m)).at fun x _ hx=>hsm x (.inl ?_);have:=o1 r m;omega
 rcases BB.mp m with rfl|m
 ·show cT f (AL st') sa (sa+(na+nb));rw[show sa+(na+nb)=sb+nb by omega];exact hup
 refine(hu' r (AQ _ (A4 _ (A4 _ m)))).at fun x hx _=>hsm x (.inr ?_);have:=o2 r m;omega
theorem Ql {st:Ch}{Q:Unit->Ch->Prop}(O:uz κ prog w A E s a₀ f)(hB:QB κ a₀ #[] st)(h:∀st',(AL st').toList.Perm a₀.toList->IX st'=none->iQ f (AL st') a₀.size->Q () st'):wpS (AH prog w) A E s sortRuns' Q st:=by
 refine AG (GU ?_);dsimp only;have hs:=hB.size;dsimp only [AL] at hs;simp only[hs];generalize (sortPriv% PySem.Builtin.minRun) a₀.size a₀.size 0=mr;have h00:QCw κ a₀ f 0 st:=⟨⟨hB.kind,hB.perm,hB.fail,rfl⟩,by rw[hB.pend];rfl,fun r m=>by rw[hB.pend] at m;cases m⟩;refine AG (EE (CH (I:=fun x c z=>∃lo,c=(none,lo)/\QCw κ a₀ f lo z/\x<=lo/\lo<=a₀.size) (Q:=fun c z=>∃lo,c=(none,lo)/\QCw κ a₀ f a₀.size z) ?step ?fin ⟨0,rfl,h00,AY _,D2 _⟩) ?post)
 case fin=>
  rintro c z ⟨lo,rfl,hz,k1,k2⟩;have:lo=a₀.size:=by omega
  subst this;exact⟨_,rfl,hz⟩
 case step=>
  rintro x c z _ hx ⟨lo,rfl,hz,k1,k2⟩;dsimp only;by_cases hlo:lo≥a₀.size
  ·rw[if_pos hlo];have:lo=a₀.size:=by omega
   subst this;exact AI ⟨_,rfl,hz⟩
  rw[if_neg hlo];refine AG (Yv O hz.b (show 1<=a₀.size-lo by omega) ω fun n z' n1 n2 hz' hsm hup=>?_);replace hz:=hz.of hz' hsm;dsimp only;clear hz' hsm;revert hz hup;generalize z'=z;intro hup hz;by_cases hmr:n<mr
  ·rw[if_pos hmr];refine AG (KO (De (AB rfl ?_)));refine AG (acy O hz.b (show lo+min (a₀.size-lo) mr<=a₀.size by omega) n1 ω hup fun z' hz' hsm hup=>?_);replace hz:=hz.of hz' hsm;clear hz' hsm;revert hz hup;generalize z'=z;intro hup hz;rw[if_neg (show ¬((!true)=true) by decide)];refine AG (GU ?_);cases hbk:(A1 z).back? with
   | none=>
    exact AG (EV (AI ⟨_,rfl,hz.push ω hup,ω,ω⟩))
   | some bk=>
    obtain⟨s1,n1',v1⟩:=bk;dsimp only;refine AG (EE (CH (I:=fun _ c z=>c=(none,())/\QCw κ a₀ f lo z/\cT f (AL z) lo (lo+min (a₀.size-lo) mr)) (Q:=fun c z=>c=(none,())/\QCw κ a₀ f lo z/\cT f (AL z) lo (lo+min (a₀.size-lo) mr)) ?_ (fun _ _ hh=>hh) ⟨rfl,hz,hup⟩) ?_)
    ·rintro x c z _ _ ⟨rfl,hz,hup⟩;refine AG (GU ?_);by_cases hg:(A1 z).size>1
     ·obtain⟨p1,p2,p3,e⟩:=K5 (A1 z) ((A1 z).size-2) ω;have hg2:=hg;dsimp only [A1] at e hg;rw[if_pos hg,e];dsimp only;refine Bf (fun _=>AI ⟨rfl,hz,hup⟩) fun _=>?_;exact AG (Fl O hz k2 (show(A1 z).size-2+1<(A1 z).size by omega) hup fun z hz hup=>AI ⟨rfl,hz,hup⟩)
     dsimp only [A1] at hg;rw[if_neg hg];exact AI ⟨rfl,hz,hup⟩
    rintro c z ⟨rfl,hz,hup⟩;dsimp only;exact AG (EV (AG (EV (AI ⟨_,rfl,hz.Ef.push ω hup,ω,ω⟩))))
  rw[if_neg hmr];refine AG (GU ?_);cases hbk:(A1 z).back? with
  | none=>
   exact AG (EV (AI ⟨_,rfl,hz.push n1 hup,ω,ω⟩))
  | some bk=>
   obtain⟨s1,n1',v1⟩:=bk;dsimp only;refine AG (EE (CH (I:=fun _ c z=>c=(none,())/\QCw κ a₀ f lo z/\cT f (AL z) lo (lo+n)) (Q:=fun c z=>c=(none,())/\QCw κ a₀ f lo z/\cT f (AL z) lo (lo+n)) ?_ (fun _ _ hh=>hh) ⟨rfl,hz,hup⟩) ?_)
   ·rintro x c z _ _ ⟨rfl,hz,hup⟩;refine AG (GU ?_);by_cases hg:(A1 z).size>1
    ·obtain⟨p1,p2,p3,e⟩:=K5 (A1 z) ((A1 z).size-2) ω;have hg2:=hg;dsimp only [A1] at e hg;rw[if_pos hg,e];dsimp only;refine Bf (fun _=>AI ⟨rfl,hz,hup⟩) fun _=>?_;exact AG (Fl O hz k2 (show(A1 z).size-2+1<(A1 z).size by omega) hup fun z hz hup=>AI ⟨rfl,hz,hup⟩)
    dsimp only [A1] at hg;rw[if_neg hg];exact AI ⟨rfl,hz,hup⟩
   rintro c z ⟨rfl,hz,hup⟩;dsimp only;exact AG (EV (AG (EV (AI ⟨_,rfl,hz.Ef.push ω hup,ω,ω⟩))))
 case post=>
  rintro c z ⟨lo,rfl,hz⟩;dsimp only;have hl0:=hz.c.len;rw[CC] at hl0;refine AG (EE (CH (I:=fun x c z=>c=(none,())/\QCw κ a₀ f a₀.size z/\((A1 z).size<=1\/(A1 z).size+x<=a₀.size)) (Q:=fun c z=>c=(none,())/\QCw κ a₀ f a₀.size z/\(A1 z).size<=1) ?_ ?_ ⟨rfl,hz,.inr ω⟩) ?_)
  ·rintro x c z _ _ ⟨rfl,hz,hl⟩;refine AG (GU ?_);refine Bf (fun hg=>AI ⟨rfl,hz,hg⟩) fun hg=>?_;have hg2:¬(A1 z).size<=1:=hg;refine AG (R8 O hz (AY _) ?_ fun z' hz' hl'=>AI ⟨rfl,hz',?_⟩)
   ·exact abi hg2
   right;rcases hl with hl|hl <;> omega
  ·rintro c z ⟨rfl,hz,hl⟩;exact⟨rfl,hz,by rcases hl with hl|hl <;> omega⟩
  rintro c z ⟨rfl,hz,hl⟩;refine AI (h z hz.b.perm hz.b.fail ?_);have hc:=hz.c;have hu:=hz.u;rw[<- CC] at hl;generalize (A1 z).toList=l at hc hu hl
  match l,hc,hu,hl with
  | [],hc,_,_=>exact fun i j _ hj=>by have:(0:Nat)=a₀.size:=hc;omega
  | [(p,n,v)],hc,hu,_=>
   obtain⟨e1,e2,e3⟩:=hc;have e3:0+n=a₀.size:=e3;have:=hu (p,n,v) (by simp);exact fun i j hij hj=>this i j (by show p<=i;omega) hij (by show j<p+n;omega)
  | _::_::_,_,_,hl=>exact absurd hl (by simp)
end
end SRT
namespace SRT
open PySem PyProof.Rows
def TL (s:AA) (x:Ap) (a b:Int):Prop:=∃q o n t u,x=.ref q/\s.heap.get? q=some o/\o.cls=.type "tuple" /\ o.data=.seq #[.int a t,.int b u] n
theorem TL.tp {s:AA}{x:Ap}{a b:Int}(h:TL s x a b):TP s x a:=by
 obtain⟨q,o,n,t,u,e,ho,hc,hd⟩:=h;exact⟨q,o,n,t,_,e,ho,hc,hd⟩
structure yQ (s:AA)(p1 p2 g:Ap->Int)(vs:List Ap):Prop where
 tk:∀v∈vs,TL s v (p1 v) (p2 v)
 lx:∀x∈vs,∀y∈vs,g x<g y↔p1 x<p1 y\/p1 x=p1 y/\p2 x<p2 y
theorem yQ.keep {p1 p2 g:Ap->Int}{vs:List Ap}{s s':AA}(h:yQ s p1 p2 g vs) (k:∀q o,s.heap.get? q=some o->o.cls=.type "tuple" -> s'.heap.get? q=some o):yQ s' p1 p2 g vs:=
 ⟨fun v hv=>by
  obtain⟨q,o,n,t,u,e,ho,hc,hs⟩:=h.tk v hv;exact⟨q,o,n,t,u,e,k q o ho hc,hc,hs⟩,h.lx⟩
theorem yO {g:Ap->Int}{vs:List Ap}{xs:Array A0}(hp:xs.toList.Perm (EG vs).toList)(h:iQ (fun p=>g p.1) xs (EG vs).size):((xs.map (·.2)).toList.map g).Pairwise (·<=·):=by
 have hz:xs.size=(EG vs).size:=by
  have:=hp.length_eq;simpa using this
 refine DU.mpr fun i j hi hj hij=>?_;have hix:i<xs.size:=by simpa using hi
 have hjx:j<xs.size:=by simpa using hj
 have e:∀(k:Nat)(hk:k<xs.size),g xs[k].2=Rk (fun p=>g p.1) xs k:=fun k hk=>by
  have m:xs[k]∈(EG vs).toList:=hp.mem_iff.mp (by simp);unfold Rk;rw[getElem?_pos xs k hk];show g _=g _;rw[(gU m).2]
 have a1:=h i j hij ω;rw[<- e i hix,<- e j hjx] at a1;simpa using a1
section
variable {prog:AW}{w:BC}{s:AA}{A:A3}{E:Ap->AA->Prop}
theorem acB {p1 p2 g:Ap->Int}{vs:List Ap}(h:yQ s p1 p2 g vs):uz jt prog w A E s (EG vs) fun p=>g p.1:=by
 intro st x y Q hk hx hy q;have h1:=h.tk x.1 (gU hx).1;have h4:=h.tk y.1 (gU hy).1;have hl:=h.lx x.1 (gU hx).1 y.1 (gU hy).1;replace q:Q (some (decide (g x.1<g y.1))) st:=q;have q2:Q (some (decide (p1 x.1<p1 y.1\/p1 x.1=p1 y.1/\p2 x.1<p2 y.1))) st:=(congrArg (fun b=>Q (some b) st) (decide_eq_decide.mpr hl)).mp q;clear q;clear hl;have q:=q2;clear q2;rw[lt'_eq];refine AG (GU ?_);rw[hk];refine AG (KO (DZ ?_));obtain⟨p,o,n,t,u,e,ho,hc,hs⟩:=h1;obtain⟨p',o',n',t',u',e',ho',hc',hs'⟩:=h4;generalize p1 x.1=a at *;generalize p1 y.1=b at *;generalize p2 x.1=k at *;generalize p2 y.1=l at *;rw[e,e'];show AE _ _ (AX.List.listItems (.ref p) >>= fun xs=>AX.List.listItems (.ref p') >>= _) _ _ s;refine An (GS ho hs ?_);refine An (GS ho' hs' ?_);show AE _ _ (forIn [((Ap.int a t,Ap.int b t'),0),((Ap.int k u,Ap.int l u'),1)] _ _ >>= _) _ _ s;rw[Fa];refine An (An (An (GI ?_)));by_cases c:a=b
 ·subst c;rw[beq_self_eq_true];refine Au ?_;simp only[Fa];refine An (An (GI ?_));by_cases c2:k=l
  ·subst c2;rw[beq_self_eq_true];rw[decide_eq_false ω] at q;refine Au ?_;simp only[forIn_nil];exact Au (Au ⟨rfl,AI q⟩)
  rw[beq_false_of_ne c2];rw[show decide (a<a\/a=a/\k<l)=decide (k<l) from decide_eq_decide.mpr ω] at q;exact An (HD (Au (Au (Au ⟨rfl,AI q⟩))))
 rw[beq_false_of_ne c];rw[show decide (a<b\/a=b/\k<l)=decide (a<b) from decide_eq_decide.mpr ω] at q;exact An (oneLt_int (Au (Au (Au ⟨rfl,AI q⟩))))
def KG (prog:AW) (w:BC) (s:AA) (g:Ap->Int) (vs:List Ap):Prop:=∀(A:A3)(E:Ap->AA->Prop)(s':AA),(∀q o,s.heap.get? q=some o->o.cls=.type "tuple" -> s'.heap.get? q=some o) ->
 uz jt prog w A E s' (EG vs) (fun p=>g p.1)/\∀Q:EJ->AA->Prop,1<=vs.length->Q jt s'->AE (AH prog w) A (keyKind' vs.toArray) Q E s'
theorem aa6 {a:Addr}{vs:List Ap}{n:Nat}{P:Fin->AA->Prop}{g:Ap->Int}(ho:s.heap.get? a=some (EI "list" vs.toArray n)) (hR:KG prog w s g vs)
  (hlen:vs.length<=1000000) (h:∀xs:Array Ap,xs.toList.Perm vs->(xs.toList.map g).Pairwise (·<=·)->P (.done (.ret .none)) { s with heap:=sortedHeap s.heap a vs xs }):AE (AH prog w) A (AX.«list.sort» ⟨[.ref a],[]⟩) P E s:=by
 rw[list_sort_plain];have la:a<s.heap.objs.size:=AZ ho;refine An (GS ho rfl (An (IP ho rfl ?_)));obtain⟨e,he⟩:∃e,(s.heap.update a (Cf fun _=>#[])).get? a=some (EI "list" #[] e):=⟨_,get?_update_seq ho fun _=>#[]⟩;refine An (Lu he rfl (An (HV (An (Nc (BI ?_))))));have h6:(((s.heap.update a (Cf fun _=>#[])).push (EI "tuple" vs.toArray 0)).push (EI "list" #[] 0)).get? a=some (EI "list" #[] e):=by
  rw[get?_push_ne _ _ _ (by rw[size_push',MO];exact B4 (Nat.le_succ_of_le la)),get?_push_ne _ _ _ (by rw[MO];exact B4 la),he]
 have hR6:=hR A E { s with heap:=((s.heap.update a (Cf fun _=>#[])).push (EI "tuple" vs.toArray 0)).push (EI "list" #[] 0) } fun q o hq hc=>by
  have hne:q≠a:=fun z=>by
   rw[z,ho] at hq;cases hq;exact absurd (show Ap.type "list" = Ap.type "tuple" from hc) δ
  exact AD _ (AD _ ((BU _ _ (B2 hne)).trans hq))
 show AE _ A _ P E { s with heap:=((s.heap.update a (Cf fun _=>#[])).push (EI "tuple" vs.toArray 0)).push (EI "list" #[] 0) };dsimp only;by_cases h2:(vs.toArray.size<2)
 ·rw[if_pos h2,if_pos h2];refine(An (Au ?_));rw[StateT.run_pure];refine An (Au (An (Lu h6 rfl (An (IP h6 rfl ?_ (hsz2:=?z))))))
  case z=>rw[size_map];show(EG vs).size<=_;rw[pairsOf_size,E3];omega
  simp only[EL,bne_self_eq_false,if_false];have e0:((vs.toArray.zip vs.toArray).map (·.2)).toList=vs:=by rw[show(vs.toArray.zip vs.toArray).map (·.2)=(EG vs).map (·.2) from rfl,qd]
  refine Au (h _ (by rw[e0]) ?_);rw[e0]
  match vs,h2 with
  | [],_=>exact .nil
  | [v],_=>exact FM _ _
  | _::_::t,h2=>exact absurd h2 (by simp)
 rw[if_neg h2,if_neg h2];refine An (hR6.2 _ (by simp at h2;omega) ?_);refine An (BO (Ql (κ:=jt) (a₀:=EG vs) (f:=fun p=>g p.1) (st:=Ch.mk' jt (vs.toArray.zip vs.toArray) #[] 7 none) (Q:=fun _ z=>(AL z).toList.Perm (EG vs).toList/\IX z=none/\iQ (fun p=>g p.1) (AL z) (EG vs).size) hR6.1 ⟨rfl,CD.refl _,rfl,rfl⟩ fun z d1 d2 d3=>⟨d1,d2,d3⟩) ?_ fun _ _ e=>e);rintro⟨⟨⟩,z⟩ s' ⟨rfl,d1,d2,d3⟩;have hm:((AL z).map (·.2)).toList.Perm vs:=by
  have:=d1.map (·.2);rw[<- toList_map,<- toList_map,qd] at this;exact this
 refine An (Lu h6 rfl (An (IP h6 rfl ?_ (hsz2:=?z))))
 case z=>
  have:=hm.length_eq;rw[CC] at this;show((AL z).map (·.2)).size<=_;rw[this,E3];omega
 dsimp only;rw[d2];simp only[EL,bne_self_eq_false,if_false];exact Au (h _ hm (yO d1 d3))
theorem JV {l:Addr}{vs:List Ap}{Q:Ap->AA->Prop}{g:Ap->Int}(hl:s.heap.IsList l vs.toArray)(hR:KG prog w s g vs)(hlen:vs.length<=1000000)
  (h:∀xs:Array Ap,xs.toList.Perm vs->(xs.toList.map g).Pairwise (·<=·)->Q (.ref (s.heap.objs.size+1)) { s with heap:=sortedAll s.heap vs xs }):AE (AH prog w) A (call (.builtin "sorted") [.ref l]) Q E s:=by
 refine Calls.call_function_entry kind_sorted plain_sorted entry_sorted (args_sorted1 (.ref l)) ?_;unfold AX.«sorted»;refine An (m:=checkCount "sorted" 1 1 _) (Au (An (collect_list hl (An (Nc ?_)))));have hz:((s.heap.push (EI "list" #[] 0)).update s.heap.objs.size (Cf (· ++ vs.toArray))).objs.size=s.heap.objs.size+1:=MO .. |>.trans (size_push' _ _);have hL:(((s.heap.push (EI "list" #[] 0)).update s.heap.objs.size (Cf (· ++ vs.toArray))).push (EI "list" vs.toArray 0)).get? (s.heap.objs.size+1)=some (EI "list" vs.toArray 0):=hz ▸ A8 _ rfl;show AE (AH prog w) A.in1 _ _ E { s with heap:=((s.heap.push (EI "list" #[] 0)).update s.heap.objs.size (Cf (· ++ vs.toArray))).push (EI "list" vs.toArray 0) };rw[hz];refine An (BI (CU slot_list_sort ⟨_,hL,rfl⟩ entry_list_sort (aa6 hL (fun A' E' s'' kp=>hR A' E' s'' fun q o hq hc=>kp q o ?_ hc) hlen fun xs hp ho=>⟨_,rfl,Au ⟨_,rfl,h xs hp ho⟩⟩) (args_list_sort _)));have hne:s.heap.objs.size≠q:=fun z=>by
  exact B4 (AZ hq) z.symm
 exact AD _ ((BU _ _ hne).trans (AD _ hq))
end
end SRT
set_option maxHeartbeats 4100000
namespace SRT
open PySem PyProof.Rows
def gI:Ap->Int
 | .int n _=>n
 | _=>0
theorem Cw:∀{vs:List Ap}{ns:List Int},D5 vs ns->vs.map gI=ns
 | _,_,.nil=>rfl
 | _,_,.cons n t h=>congrArg (n :: ·) (Cw h)
section
variable {prog:AW}{w:BC}{A:A3}{E:Ap->AA->Prop}{s:AA}
theorem acC {vs:List Ap}{ns:List Int}(hI:D5 vs ns):uz oneType' prog w A E s (EG vs) fun p=>gI p.1:=by
 intro st x y Q hk hx hy h;obtain⟨a,t,ea⟩:=hI.intKeys x hx;obtain⟨b,u,eb⟩:=hI.intKeys y hy;have e:decide (gI x.1<gI y.1)=decide (a<b):=by rw[ea,eb];rfl
 dsimp only at h;rw[e] at h;rw[lt'_eq];refine AG (GU ?_);rw[hk,keyLt'_oneType,ea,eb];exact AG (KO (DZ (oneLt_int ⟨rfl,AI h⟩)))
theorem aa5 {a:Addr}{vs:List Ap}{n:Nat}{P:Fin->AA->Prop}(ho:s.heap.get? a=some (EI "list" vs.toArray n)) {ns:List Int}(hI:D5 vs ns)
  (hnd:ns.Nodup) (hlen:vs.length<=1000000) (h:∀xs:Array Ap,xs.toList.Perm vs->(xs.toList.map gI).Pairwise (· < ·)->P (.done (.ret .none)) { s with heap:=sortedHeap s.heap a vs xs }):AE (AH prog w) A (AX.«list.sort» ⟨[.ref a],[]⟩) P E s:=by
 rw[list_sort_plain];have la:a<s.heap.objs.size:=AZ ho;refine An (GS ho rfl (An (IP ho rfl ?_)));obtain⟨e,he⟩:∃e,(s.heap.update a (Cf fun _=>#[])).get? a=some (EI "list" #[] e):=⟨_,get?_update_seq ho fun _=>#[]⟩;refine An (Lu he rfl (An (HV (An (Nc (BI ?_))))));have h6:(((s.heap.update a (Cf fun _=>#[])).push (EI "tuple" vs.toArray 0)).push (EI "list" #[] 0)).get? a=some (EI "list" #[] e):=by
  rw[get?_push_ne _ _ _ (by rw[size_push',MO];exact B4 (Nat.le_succ_of_le la)),get?_push_ne _ _ _ (by rw[MO];exact B4 la),he]
 show AE _ A _ P E { s with heap:=((s.heap.update a (Cf fun _=>#[])).push (EI "tuple" vs.toArray 0)).push (EI "list" #[] 0) };dsimp only;by_cases h2:(vs.toArray.size<2)
 ·rw[if_pos h2,if_pos h2];refine(An (Au ?_));rw[StateT.run_pure];refine An (Au (An (Lu h6 rfl (An (IP h6 rfl ?_ (hsz2:=?z))))))
  case z=>rw[size_map];show(EG vs).size<=_;rw[pairsOf_size,E3];omega
  simp only[EL,bne_self_eq_false,if_false];have e0:((vs.toArray.zip vs.toArray).map (·.2)).toList=vs:=by rw[show(vs.toArray.zip vs.toArray).map (·.2)=(EG vs).map (·.2) from rfl,qd]
  refine Au (h _ (by rw[e0]) ?_);rw[e0]
  match vs,h2 with
  | [],_=>exact .nil
  | [v],_=>exact FM _ _
  | _::_::t,h2=>exact absurd h2 (by simp)
 rw[if_neg h2,if_neg h2];obtain⟨x,y,t,e2⟩:∃x y t,vs=x::y::t:=by
  cases vs with
  | nil=>simp at h2
  | cons x t=>cases t with
   | nil=>simp at h2
   | cons y t=>exact⟨x,y,t,rfl⟩
 rw[show keyKind' vs.toArray=pure oneType' by subst e2;exact keyKind_ints hI];refine(An (Au ?_));refine An (BO (Ql (κ:=oneType') (a₀:=EG vs) (f:=fun p=>gI p.1) (st:=Ch.mk' oneType' (vs.toArray.zip vs.toArray) #[] 7 none) (Q:=fun _ z=>(AL z).toList.Perm (EG vs).toList/\IX z=none/\iQ (fun p=>gI p.1) (AL z) (EG vs).size) (acC hI) ⟨rfl,CD.refl _,rfl,rfl⟩ fun z d1 d2 d3=>⟨d1,d2,d3⟩) ?_ fun _ _ e=>e);rintro⟨⟨⟩,z⟩ s' ⟨rfl,d1,d2,d3⟩;have hm:((AL z).map (·.2)).toList.Perm vs:=by
  have:=d1.map (·.2);rw[<- toList_map,<- toList_map,qd] at this;exact this
 refine An (Lu h6 rfl (An (IP h6 rfl ?_ (hsz2:=?z))))
 case z=>
  have:=hm.length_eq;rw[CC] at this;show((AL z).map (·.2)).size<=_;rw[this,E3];omega
 dsimp only;rw[d2];simp only[EL,bne_self_eq_false,if_false];have hw:=yO d1 d3;have hne:(((AL z).map (·.2)).toList.map gI).Pairwise (·≠·):=by
  refine(hm.map gI).nodup_iff.mpr ?_;rw[Cw hI];exact hnd
 exact Au (h _ hm ((hw.and hne).imp fun z=>Int.lt_iff_le_and_ne.mpr z))
theorem Nf {a:Addr}{vs:List Ap}{ns:List Int}{n:Nat}{P:Fin->AA->Prop}(ho:s.heap.get? a=some (EI "list" vs.toArray n)) (hI:D5 vs ns) (hnd:ns.Nodup) (hlen:vs.length<=1000000)
  (h:∀(xs:Array Ap)(ns':List Int),D5 xs.toList ns'->ns'.Perm ns->ns'.Pairwise (· < ·)->P (.done (.ret .none)) { s with heap:=sortedHeap s.heap a vs xs }) :
  AE (AH prog w) A (AX.«list.sort» ⟨[.ref a],[]⟩) P E s:=by
 refine aa5 ho hI hnd hlen fun xs hp ho=>?_;obtain⟨ns',a1,a2⟩:=Al hp hI;exact h xs ns' a1 a2 (by rw[<- Cw a1];exact ho)
end
section
variable {prog:AW}{w:BC}{A:A3}{E:Ap->AA->Prop}{s:AA}{S:Addr}{es:Array (Int×Ap)}{ep:Nat}{t:AU}
theorem Lr {l:List Int}{Q:Ap->AA->Prop}(hh:A.handled=none)(hS:SetT (IE prog w) (!bt w) s.heap S (fun k'=>l.any (· == k')) l.length)(hnd:l.Nodup)
  (h:∀(s':AA)(L:Addr)(xs:List Ap)(ns':List Int)(k:Nat),s'.heap.get? L=some (EI "list" xs.toArray k)->D5 xs ns'->ns'.Perm l->ns'.Pairwise (· < ·) ->
   (∀c o,s.heap.get? c=some o->s'.heap.get? c=some o)->s'.gens=s.gens->s'.os=s.os->s.heap.objs.size<=L->Q (.ref L) s'):AE (AH prog w) A (call (.builtin "sorted") [.ref S]) Q E s:=by
 obtain⟨o,es,ep,t,ho,hex,hd,⟨hel,hmem,hb⟩,hf,hn,ht⟩:=hS;have hz:es.size<=AM:=fits_of_scanBound hb;obtain⟨ks,hks,hkm⟩:=yC hel;have hkp:ks.Perm l:=qK hnd (fun x hx=>(hkm x).mpr ((hmem x).mp (by simpa using hx))) (by rw[<- hn,<- CC,<- D5.length hks,AV]);refine Calls.call_function_entry kind_sorted plain_sorted entry_sorted (args_sorted1 (.ref S)) ?_;unfold AX.«sorted»;refine An (m:=checkCount "sorted" 1 1 _) (Au (An (FT (by simpa using hh) ⟨o,ho,hex,hd⟩ hf ht hz fun s1 vs hp hk1 hg1 ho1 hl1=>An (Nc ?_ ?_))))
 ·obtain⟨ms,hms,hmp⟩:=Al hp hks;have hvl:vs.length=l.length:=by rw[D5.length hms,hmp.length_eq,hkp.length_eq]
  have hL:(s1.heap.push (EI "list" vs.toArray 0)).get? s1.heap.objs.size=some (EI "list" vs.toArray 0):=A8 _ rfl;show AE (AH prog w) A.in1 _ _ E { s1 with heap:=s1.heap.push (EI "list" vs.toArray 0) };refine An (BI (CU slot_list_sort ⟨_,hL,rfl⟩ entry_list_sort (Nf hL hms ((hmp.trans hkp).nodup_iff.mpr hnd) ?_ fun xs ns' a1 a2 a3=>⟨_,rfl,Au ⟨_,rfl,?_⟩⟩) (args_list_sort _)))
  ·rw[hvl,<- hn];exact BN (IQ hb) δ
  obtain⟨e,he⟩:=sortedHeap_at (out:=xs) hL;refine h _ _ xs.toList ns' e (by simpa using he) a1 (a2.trans (hmp.trans hkp)) a3 (fun c o x=>?_) hg1 ho1 hl1;have lc:c<s1.heap.objs.size:=AZ (hk1 c o x);show(sortedHeap _ _ _ _).get? c=some o;rw[sortedHeap_old (B4 lc) (by rw[size_push'];exact EN lc)];exact AD _ (hk1 c o x)
 rw[hp.length_eq,AV,CC];exact hz
end
end SRT
set_option maxHeartbeats 4000000
namespace L2
open PySem PySem.Spec PyProof.Rows
def ZP (K:AC)(ta:TA):TE:=fun σ H Q=>ta σ H fun vs H1=>∃(l:Addr)(xs:List Int),vs=[.ref l]/\SqL K H1 l (xs.map V.int)/\xs.length<4000 /\
 ∀(p:Addr)(ys:List Int),H1 p=none->ys.Perm (SRT.ded xs)->ys.Pairwise (· < ·)->Q (.ref p) (upd H1 p (.lst (ys.map V.int)))
section
variable {X:Cx}{pins:List (Addr×Obj)}{s:AA}{σ:St}{H:Hp}
theorem Rh {a:Expr}{ta:TA}{p p2 pos pos2:Pos}(hc:X.calm=true) (hgl:Gl X "sorted") (hml:X.mg "sorted" = none) (hg:Gl X "set") (hm:X.mg "set" = none) (ha:PA X [a] ta)
  (hs:AJ [a] X.env=[(false,eval a X.env)]:=by rfl)
  (he:AJ [.Call (.Name "set" p2) [a] [] pos2] X.env=[(false,eval (.Call (.Name "set" p2) [a] [] pos2) X.env)]:=by rfl) :
  PE X (.Call (.Name "sorted" p) [.Call (.Name "set" p2) [a] [] pos2] [] pos) (ZP X.K ta):=by
 intro pins s σ H Q I h;refine Hd (jV I hgl hml G2 ?_ δ δ);refine PyProof.Rows.callWith_builtin1 ?_ he rfl;rw[he];show AE _ _ (spliced ((false,eval (.Call (.Name "set" p2) [a] [] pos2) X.env)::[])) _ _ s;refine FF ?_;refine Call_ (jV I hg hm PyProof.Rows.boot_set (CL (thA (ha pos2 pins s σ H _ I h) fun us s1 vs H1 I1 r1 q1=>?_) hs rfl));obtain⟨l,xs,rfl,sq,hn,q⟩:=q1;cases r1 with
 | cons r rr=>
  cases rr;cases r;obtain⟨its,rv,pl,hz⟩:=I1.list sq;have hI:=wA rv;have hlen:its.length=xs.length:=D5.length hI;refine SRT.NK (I1.ok.hd hc) pl.isList (by simpa using hI) (by simp [hlen,HG];omega) fun h2 t2 hS hk=>F3 ?_;have eq:FV (fun i=>xs.getD i 0) its.toArray.size=SRT.ded xs:=by unfold SRT.ded;rw[Bz,hlen]
  rw[eq] at hS;have hk2:∀c o,s1.heap.get? c=some o->h2.get? c=some o:=fun c o e=>hk c o (AZ e) e;refine SRT.Lr (s:={ s1 with heap:=h2,toks:=t2 }) (I1.ok.hd hc) hS (SRT.Nv xs) fun s3 L ys ns k gL iL pL oL k3 g3 o3 l3=>?_;have le:s1.heap.objs.size<=L:=by
   obtain⟨o,_,_,_,e,_⟩:=hS;exact BN (IQ (AZ e)) l3
  have hf:H1 L=none:=I1.hok.fresh le;obtain⟨h3,g3',d3,t3,o3'⟩:=s3;cases g3;cases o3;have hl:ns.length<=AM:=by
   rw[pL.length_eq];exact BN (SRT.KD xs) (BN (IQ hn) δ)
  refine⟨.ref L,_,((I1.drawn d3).laid (t':=t3) (h':=h3) (fun c o e=>k3 c o (hk2 c o e)) le (show cW X.prog X.w _ h3 _ (.lst (ns.map V.int)) from⟨by simpa using hl,ys,k,Ak iL,gL⟩)),rfl,q L ns hf pL oL⟩
theorem Q0 {a:Expr}{ta:TA}{p p2 pos pos2:Pos}(hc:X.calm=true) (hgl:Gl X "sorted") (hml:X.mg "sorted" = none) (hg:Gl X "set") (hm:X.mg "set" = none) (ha:QA X [a] ta)
  (hs:AJ [a] X.env=[(false,eval a X.env)]:=by rfl)
  (he:AJ [.Call (.Name "set" p2) [a] [] pos2] X.env=[(false,eval (.Call (.Name "set" p2) [a] [] pos2) X.env)]:=by rfl) :
  QE X (.Call (.Name "sorted" p) [.Call (.Name "set" p2) [a] [] pos2] [] pos) (ZP X.K ta):=⟨Rh hc hgl hml hg hm ha.h hs he⟩
end
def blK (x:V)(H:Hp)(Q:VK):Prop:=match x with
 | .int i=>Q (.int (AX.Int.intBits i:Nat)) H
 | _=>False
def Pb (to:TE):TE:=fun σ H Q=>to σ H fun x H1=>blK x H1 Q
theorem Pa (to:TE)(σ:St)(H:Hp)(Q:VK):Pb to σ H Q=to σ H fun x H1=>blK x H1 Q:=rfl
theorem YM (i:Int)(H:Hp)(Q:VK):blK (.int i) H Q=Q (.int (AX.Int.intBits i:Nat)) H:=rfl
section
variable {X:Cx}{o:Expr}{to:TE}
theorem W6 {apos cpos:Pos}(ho:PE X o to) (hbase:D9 o "bit_length" X.env (eval o X.env)=eval o X.env:=by rfl) (hline:(apos.endLine == cpos.line)=true:=by rfl) :
  PE X (.Call (.Attribute o "bit_length" apos) [] [] cpos) (Pb to):=by
 intro pins s σ H Q I h;refine wpAny_Call_method0_late hbase hline (thE (ho pins s σ H _ I h) fun v s1 x H1 I1 r1 q=>?_);cases x with
 | int i=>
  replace q:Q (.int (AX.Int.intBits i:Nat)) H1:=q;obtain⟨t,rfl⟩:=r1;have c:AE (AH X.prog X.w) X.A (call (.builtin "int.bit_length") [.int i t]) (EP X pins σ Q) X.xe s1:=
   call_givesAt (P:=fun _=>True) F.slot_int_bit_length (Kx s1 i t) F.entry_int_bit_length (F.args_int_bit_length_1 _) (PySem.AutoIntG2.int_bit_length_int_0 i t).at trivial
    (show EP X pins σ Q _ _ from⟨.int _,H1,I1.tok _,⟨_,rfl⟩,q⟩)
  exact⟨"int","int.bit_length",F.plainAttrs_int,F.slot_int_bit_length,F.type_int_bit_length,Kx s1 i t,(fun a (e:Ap.int i t=.ref a)=>nomatch e),FL rfl (PySem.evalArgs_none c)⟩
 | _=>exact q.elim
theorem Wk {apos cpos:Pos}(ho:QE X o to) (hbase:D9 o "bit_length" X.env (eval o X.env)=eval o X.env:=by rfl) (hline:(apos.endLine == cpos.line)=true:=by rfl) :
  QE X (.Call (.Attribute o "bit_length" apos) [] [] cpos) (Pb to):=⟨W6 ho.h hbase hline⟩
end
def Vf (k1 k2:Addr->Int)(p q:Addr):Prop:=k1 p<k1 q\/(k1 p=k1 q/\k2 p<=k2 q)
def abT:List V->Hp->VK->Prop:=fun vs H Q=>∃(l:Addr)(ps:List Addr)(k1 k2:Addr->Int),vs=[.ref l]/\H l=some (.lst (ps.map V.ref))/\ps.length<=1000000 /\
 (∀p∈ps,H p=some (.tup [.int (k1 p),.int (k2 p)])/\-1267650600228229401496703205376<k2 p/\k2 p<1267650600228229401496703205376) /\
 ∀(d:Addr)(qs:List Addr),H d=none->qs.Perm ps->qs.Pairwise (Vf k1 k2)->Q (.ref d) (upd H d (.lst (qs.map V.ref)))
section
variable {X:Cx}
theorem yE:dw X (.builtin "sorted") abT:=by
 intro pins s σ H xs us Q I rv h;obtain⟨l,ps,k1,k2,rfl,el,hl,hp,q⟩:=h;cases rv with
 | cons r rr=>
  cases rr;cases r;obtain⟨its,rl,pl,hz⟩:=I.list (SqL.of el);have e:=uD rl;subst e;have hR:SRT.yQ s (rkP k1) (rkP k2) (rkP fun p=>k1 p*2535301200456458802993406410752+k2 p) (ps.map Ap.ref):=by
   refine⟨fun v hv=>?_,fun x hx y hy=>?_⟩
   ·obtain⟨p,hm,rfl⟩:=EF.mp hv;obtain⟨ep,_⟩:=hp p hm;obtain⟨ts,rt,pt,_⟩:=I.tuple (SqT.of ep);obtain⟨ob,g1,g2,n,g3⟩:=pt;cases rt with
    | cons r1 rt=>
     cases rt with
     | cons r2 rt=>
      cases rt;obtain⟨t,rfl⟩:=r1;obtain⟨u,rfl⟩:=r2;exact⟨p,ob,n,t,u,rfl,g1,g2,g3⟩
   obtain⟨p,hm,rfl⟩:=EF.mp hx;obtain⟨p',hm',rfl⟩:=EF.mp hy;have b1:=(hp p hm).2;have b2:=(hp p' hm').2;show k1 p*2535301200456458802993406410752+k2 p<k1 p'*2535301200456458802993406410752+k2 p'↔k1 p<k1 p'\/k1 p=k1 p'/\k2 p<k2 p';omega
  refine SRT.JV (g:=rkP fun p=>k1 p*2535301200456458802993406410752+k2 p) pl.isList (fun A E s' kp=>⟨SRT.acB (hR.keep kp),fun Q hn q=>SRT.acr (fun v hv=>⟨_,((hR.keep kp).tk v hv).tp⟩) hn q⟩) (by rw[AV];exact hl) fun ys hy ho=>?_;obtain⟨qs,e,hq⟩:=zX hy;rw[e,map_map] at ho;have ho2:qs.Pairwise (Vf k1 k2):=by
   refine(GN.mp ho).imp_of_mem fun {p p'} hm hm' z=>?_;have b1:=(hp p (hq.mem_iff.mp hm)).2;have b2:=(hp p' (hq.mem_iff.mp hm')).2;replace z:k1 p*2535301200456458802993406410752+k2 p<=k1 p'*2535301200456458802993406410752+k2 p':=z;unfold Vf;omega
  obtain⟨n,he⟩:=sortedAll_at s.heap (ps.map Ap.ref) ys;have le:s.heap.objs.size<=s.heap.objs.size+1:=MV _;have hf:H (s.heap.objs.size+1)=none:=I.hok.fresh le;refine⟨.ref (s.heap.objs.size+1),_,I.laid (t':=s.toks) (fun c o z=>sortedAll_old z) le (show cW X.prog X.w _ _ _ (.lst (qs.map V.ref)) from⟨aO (by rw[AV,hq.length_eq];omega),qs.map Ap.ref,n,uJ qs,?_⟩),rfl,q _ qs hf hq ho2⟩;rw[he];have:ys=(qs.map Ap.ref).toArray:=by rw[<- e]
  rw[this]
end
def acE (prog:AW)(w:BC)(h:Heap)(rs:List (Key×Ap))(ps:Array Ap)(bad:List Addr):Prop:=
 ps.size=rs.length/\∀(j:Nat) kv,rs[j]?=some kv->∃p u,ps[j]?=some (.ref p)/\IsTup h p #[u,kv.2]/\(mR prog w).is kv.1 u=true/\p∉bad
theorem abJ {r j:Nat}(h:r.testBit j=false):r+2^j=r ||| 2^j:=by
 have hb:(r ||| 2^j).testBit j=true:=by rw[testBit_or,Nat.testBit_two_pow_self,JY]
 have e:(r ||| 2^j)-2^j=r:=DH fun k=>by
  rw[rY hb,testBit_or,FU];by_cases c:j=k
  ·subst c;simp [h]
  simp [c,B2 c]
 have:=EW hb;omega
theorem Dk {r j:Nat}(h:r.testBit j=false)(k:Nat):(r+2^j).testBit k=(r.testBit k||decide (j=k)):=by
 rw[abJ h,testBit_or,FU]
def bh (mask value t:Nat):Nat->List Nat
 | 0=>[value]
 | n+1=>if mask.testBit (t+1+n) then bh mask value t n else bh mask value t n++(bh mask value t n).map (· + 2^(t+1+n))
theorem eE {mask value t:Nat}(hv:∀i,value.testBit i=true->mask.testBit i=true):∀{n s:Nat},s∈bh mask value t n ↔ ∀i,(i<=t\/t+1+n<=i\/mask.testBit i=true)->s.testBit i=value.testBit i
 | 0,s=>by
  unfold bh;rw[AK];constructor
  ·rintro rfl i _;rfl
  intro h;exact DH fun i=>h i ω
 | n+1,s=>by
  unfold bh;split
  ·rename_i hm;rw[eE hv];constructor
   ·intro h i hi;exact h i (hi.imp_right (Lv fun z=>ω))
   intro h i hi;by_cases c:i=t+1+n
   ·exact h i (.inr (.inr (by rw[c];exact hm)))
   exact h i (hi.imp_right (Lv fun z=>ω))
  rename_i hm;have v0:value.testBit (t+1+n)=false:=B3.mpr fun z=>hm (hv _ z);rw[A6,EF];constructor
  ·rintro(h|⟨r,hr,rfl⟩) i hi
   ·exact(eE hv).mp h i (hi.imp_right (Lv fun z=>ω))
   have hr':=(eE hv).mp hr;have r0:r.testBit (t+1+n)=false:=by rw[hr' _ ω,v0]
   have ne:t+1+n≠i:=by
    rintro rfl;rcases hi with h|h|h
    ·omega
    ·omega
    exact hm h
   rw[Dk r0,decide_eq_false ne,Bool.or_false];exact hr' i (hi.imp_right (Lv fun z=>ω))
  intro h;cases hb:s.testBit (t+1+n) with
  | false=>
   refine .inl ((eE hv).mpr fun i hi=>?_);by_cases c:i=t+1+n
   ·rw[c,hb,v0]
   exact h i (hi.imp_right (Lv fun z=>ω))
  | true=>
   have hge:=EW hb;refine .inr ⟨s-2^(t+1+n),(eE hv).mpr fun i hi=>?_,ω⟩;rw[rY hb];by_cases c:i=t+1+n
   ·rw[c,v0];simp
   rw[decide_eq_false c];simpa using h i (hi.imp_right (Lv fun z=>ω))
theorem T6 {W mask value t p:Nat}(hv:value &&& mask=value)(hm:mask<2^W)(ht:mask.testBit t=true)(hl:∀i,i<t->mask.testBit i=false)(hp:p<2^W) :
  p &&& mask=value ↔ ∃s∈bh mask value t (W-(t+1)),s<=p/\p<s+2^t:=by
 have vb:∀i,value.testBit i=true->mask.testBit i=true:=fun i h=>by
  rw[<- hv,Hn] at h;simp at h;exact h.2
 have tW:t<W:=by
  rcases C5 t W with c|c
  ·exact c
  rw[Cn (AN hm (B6 δ c))] at ht;cases ht
 have vW:value<2^W:=by
  have:value<=mask:=by rw[<- hv];exact and_le_right
  omega
 have hi0:∀{y i:Nat},y<2^W->W<=i->y.testBit i=false:=fun hy h=>Cn (AN hy (B6 δ h));constructor
 ·intro h;have hb:∀i,value.testBit i=(p.testBit i&&mask.testBit i):=fun i=>by rw[<- h,Hn]
  refine⟨2^t*(p/2^t),(eE vb).mpr fun i hi=>?_,?_,?_⟩
  ·rw[HH];by_cases c:i<t
   ·rw[decide_eq_false ω,D1,hb,hl i c,HM]
   rw[decide_eq_true ω,F1,Ff,Ic ω,hb];by_cases c2:W<=i
   ·rw[hi0 hp c2];rfl
   have:mask.testBit i=true:=by
    rcases hi with a|a|a
    ·rw[show i=t by omega];exact ht
    ·omega
    exact a
   rw[this,FY]
  ·exact Nat.mul_div_le p (2^t)
  have:=Nat.lt_mul_div_succ p (show 0<2^t from Me t);rw[mul_add,mul_one] at this;exact this
 rintro⟨s,hs,h1,h2⟩;have hsb:=(eE vb).mp hs;have slow:∀i,i<t->s.testBit i=false:=fun i hi=>by
  rw[hsb i ω];exact B3.mpr fun z=>by
   have:=vb i z;rw[hl i hi] at this;cases this
 have sd:2^t*(s/2^t)=s:=DH fun i=>by
  rw[HH];by_cases c:i<t
  ·rw[decide_eq_false ω,D1,slow i c]
  rw[decide_eq_true ω,F1,Ff,Ic ω]
 have pd:p/2^t=s/2^t:=by
  refine Nat.div_eq_of_lt_le ?_ ?_
  ·rw[mul_comm,sd];exact h1
  rw[mul_comm,mul_add,sd,mul_one];exact h2
 refine DH fun i=>?_;rw[Hn];cases hmi:mask.testBit i with
 | false=>
  rw[HM];exact(B3.mpr fun z=>by rw[vb i z] at hmi;cases hmi).symm
 | true=>
  rw[FY,<- hsb i (.inr (.inr hmi))];have ti:t<=i:=by
   rcases C5 i t with c|c
   ·rw[hl i c] at hmi;cases hmi
   exact c
  have e:∀y:Nat,y.testBit i=(y/2^t).testBit (i-t):=fun y=>by rw[Ff,Ic ti]
  rw[e p,e s,pd]
def cov (xs:List (Int×Int))(n:Int):Prop:=∃s,s∈xs/\s.1<=n/\n<=s.2
theorem KQ {n:Int}:¬cov [] n:=fun⟨s,m,_⟩=>by cases m
theorem ql {xs ys:List (Int×Int)}{n:Int}:cov (xs++ys) n↔cov xs n\/cov ys n:=by
 constructor
 ·rintro⟨s,m,h⟩;rcases A6.mp m with m|m
  ·exact .inl ⟨s,m,h⟩
  exact .inr ⟨s,m,h⟩
 rintro(⟨s,m,h⟩|⟨s,m,h⟩)
 ·exact⟨s,Cc _ m,h⟩
 exact⟨s,AQ _ m,h⟩
theorem qj {s:Int×Int}{n:Int}:cov [s] n↔s.1<=n/\n<=s.2:=by
 constructor
 ·rintro⟨t,m,h⟩;rw[AK.mp m] at h;exact h
 exact fun h=>⟨s,AK.mpr rfl,h⟩
theorem Ug {xs ys:List (Int×Int)}(h:xs.Perm ys){n:Int}:cov xs n↔cov ys n:=
 ⟨fun⟨s,m,q⟩=>⟨s,h.mem_iff.mp m,q⟩,fun⟨s,m,q⟩=>⟨s,h.mem_iff.mpr m,q⟩⟩
structure Gap (xs:List (Int×Int)):Prop where
 ne:∀s,s∈xs->s.1<=s.2
 up:xs.Pairwise fun a b=>a.2+1<b.1
structure Dis (xs:List (Int×Int)):Prop where
 ne:∀s,s∈xs->s.1<=s.2
 df:xs.Pairwise fun a b=>a.2<b.1\/b.2<a.1
theorem Gap.nil:Gap []:=⟨fun s m=>(by cases m),.nil⟩
structure JI (zs told:List (Int×Int))(i:Nat):Prop where
 gap:Gap told
 cv:∀n,cov told n↔cov (zs.take i) n
 be:∀t,t∈told->∀z,z∈zs.drop i->t.2<z.1
 fs:∀t,t∈told->∃z,z∈zs/\z.1=t.1
 ln:told.length<=i
theorem Bh {α:Type}{zs:List α}{i:Nat}{z:α}(h:zs[i]?=some z):zs.take (i+1)=zs.take i++[z]:=by
 rw[CM,h];rfl
theorem m7 {α:Type}{zs:List α}{i:Nat}{z:α}(h:zs[i]?=some z):zs.drop i=z::zs.drop (i+1):=by
 obtain⟨hi,e⟩:=AF.mp h;rw[IY hi,e]
def newOf (out:List (Int×(Int×Int)))(g:Int):List (Int×Int):=(out.filter fun x=>x.1 == g).map (·.2)
structure Sent (ss:List (Int×Int))(ws:List (Int×Int×Int))(out:List (Int×(Int×Int))):Prop where
 fr:∀x,x∈out->x.2.1<=x.2.2/\∃s w,s∈ss/\w∈ws/\w.2.2=x.1/\w.1<=x.2.1/\x.2.2<=w.2.1/\s.1<=x.2.1/\x.2.2<=s.2/\(x.2.1=w.1\/x.2.1=s.1)
 up:out.Pairwise fun x y=>x.2.2<y.2.1
 al:∀s w n,s∈ss->w∈ws->s.1<=n->n<=s.2->w.1<=n->n<=w.2.1->cov (newOf out w.2.2) n
def nOf (W:Nat)(sg:Int)(p:Nat):Int:=if sg≠0/\2^(W-1)<=p then (p:Int)-2^W else p
def lu (W:Nat)(sg:Int):Int:=if sg=0 then 0 else -2^(W-1)
theorem Gj {t W s:Nat}(ht:t<W)(hd:2^t*(s/2^t)=s):(s<2^(W-1)->s+2^t<=2^(W-1))/\(s<2^W->s+2^t<=2^W):=by
 have key:∀u,t<=u->s<2^u->s+2^t<=2^u:=fun u hu h=>by
  have e:2^u=2^t*2^(u-t):=by rw[<- pow_add];congr 1;omega
  rw[e,<- hd] at h;have hc:s/2^t<2^(u-t):=Nat.lt_of_mul_lt_mul_left h;have:=Nat.mul_le_mul_left (2^t) hc;rw[Nat.mul_succ,hd] at this;rw[e];exact this
 exact⟨key _ ω,key _ ω⟩
theorem aaW {W:Nat}{sg n:Int}(hW:1<=W)(h1:lu W sg<=n)(h2:n<lu W sg+2^W):(0<=n/\n%2^W=n)\/(n<0/\n%2^W=n+2^W/\sg≠0/\2^(W-1)<=n+2^W):=by
 have e:(2:Int)^W=2*2^(W-1):=by
  obtain⟨V,rfl⟩:∃V,W=V+1:=⟨W-1,ω⟩;rw[ML,Int.pow_succ,Int.mul_comm]
 have hp:(0:Int)<2^(W-1):=Int.pow_pos δ;unfold lu at h1 h2;by_cases c:0<=n
 ·left;refine⟨c,Int.emod_eq_of_lt c ?_⟩;split at h2 <;> omega
 right;have hs:sg≠0:=by
  rintro rfl;rw[if_pos rfl] at h1;omega
 rw[if_neg hs] at h1 h2;refine⟨ω,?_,hs,ω⟩;rw[<- Int.add_emod_right n ((2:Int)^W)];exact Int.emod_eq_of_lt ω ω
theorem Gi {W t s:Nat}{sg n:Int}(hW:1<=W)(ht:t<W)(hs:s<2^W)(hd:2^t*(s/2^t)=s)(h1:lu W sg<=n)(h2:n<lu W sg+2^W) :
  (nOf W sg s<=n/\n<=nOf W sg s+2^t-1)↔(s<=(n%2^W).toNat/\(n%2^W).toNat<s+2^t):=by
 obtain⟨k1,k2⟩:=Gj ht hd;replace k2:=k2 hs;have eN:2^W=2*2^(W-1):=by
  obtain⟨V,rfl⟩:∃V,W=V+1:=⟨W-1,ω⟩;rw[ML,pow_succ,mul_comm]
 have c1:((2^W:Nat):Int)=2^W:=by rw[DC];rfl
 have c2:((2^(W-1):Nat):Int)=2^(W-1):=by rw[DC];rfl
 have c3:((2^t:Nat):Int)=2^t:=by rw[DC];rfl
 have hm:=aaW hW h1 h2;have hl:lu W sg=if sg=0 then 0 else -((2^(W-1):Nat):Int):=by rw[c2];rfl
 rw[hl,<- c1] at h2;rw[hl] at h1;unfold nOf;rw[<- c1,<- c2] at hm;rw[<- c1,<- c3];clear hl;generalize (n%((2^W:Nat):Int))=p at *;generalize 2^(W-1)=H at *;clear c1 c2 c3 hd;generalize (2:Nat)^W=D at *;generalize 2^t=T at *;by_cases g:sg=0
 ·subst g;rw[if_pos rfl] at h1 h2;rw[if_neg (by simp)];omega
 rw[if_neg g] at h1 h2;by_cases c:H<=s
 ·rw[if_pos ⟨g,c⟩];omega
 rw[if_neg (fun z=>c z.2)];have:=k1 ω;omega
def K3 (W:Nat)(sg:Int)(m v t:Nat):List (Int×Int):=(bh m v t (W-(t+1))).map fun s=>(nOf W sg s,nOf W sg s+2^t-1)
theorem vd {W m v t:Nat}{sg n:Int}(hW:1<=W)(hv:v &&& m=v)(hm:m<2^W)(ht:m.testBit t=true)(hl:∀i,i<t->m.testBit i=false)(h1:lu W sg<=n)(h2:n<lu W sg+2^W) :
  cov (K3 W sg m v t) n↔(n%2^W).toNat &&& m=v:=by
 have tW:t<W:=by
  rcases C5 t W with c|c
  ·exact c
  rw[Cn (AN hm (B6 δ c))] at ht;cases ht
 have hp:(n%2^W).toNat<2^W:=by
  have a:=EA n (show(0:Int)<2^W from Int.pow_pos δ);have b:=E4 n (show(2:Int)^W≠0 from Int.ne_of_gt (Int.pow_pos δ));have c1:((2^W:Nat):Int)=2^W:=by rw[DC];rfl
  omega
 have vb:∀i,v.testBit i=true->m.testBit i=true:=fun i h=>by
  rw[<- hv,Hn] at h;simp at h;exact h.2
 have vW:v<2^W:=by
  have:v<=m:=by rw[<- hv];exact and_le_right
  omega
 have fact:∀s∈bh m v t (W-(t+1)),s<2^W/\2^t*(s/2^t)=s:=fun s hs=>by
  have hsb:=(eE vb).mp hs;have slow:∀i,i<t->s.testBit i=false:=fun i hi=>by
   rw[hsb i ω];exact B3.mpr fun z=>by
    have:=vb i z;rw[hl i hi] at this;cases this
  refine⟨KP s fun i hi=>?_,DH fun i=>?_⟩
  ·rw[hsb i ω];exact Cn (AN vW (B6 δ hi))
  rw[HH];by_cases c:i<t
  ·rw[decide_eq_false ω,D1,slow i c]
  rw[decide_eq_true ω,F1,Ff,Ic ω]
 rw[T6 hv hm ht hl hp];constructor
 ·rintro⟨x,mx,a,b⟩;obtain⟨s,ms,rfl⟩:=EF.mp mx;exact⟨s,ms,(Gi hW tW (fact s ms).1 (fact s ms).2 h1 h2).mp ⟨a,b⟩⟩
 rintro⟨s,ms,h⟩;obtain⟨a,b⟩:=(Gi hW tW (fact s ms).1 (fact s ms).2 h1 h2).mpr h;exact⟨_,EF.mpr ⟨s,ms,rfl⟩,a,b⟩
structure JW (zs told:List (Int×Int))(i:Nat):Prop where
 gap:Gap told
 cv:∀n,cov told n↔cov (zs.take i) n
 be:∀t,t∈told->∀z,z∈zs.drop i->t.1<=z.1
 fs:∀t,t∈told->∃z,z∈zs/\z.1=t.1
 ln:told.length<=i
theorem JW.start (zs:List (Int×Int)):JW zs [] 0:=⟨.nil,fun n=>Iff.rfl,fun t m=>(by cases m),fun t m=>(by cases m),AY _⟩
theorem JW.fresh {zs told:List (Int×Int)}{i:Nat}{z:Int×Int}(h:JW zs told i)(hz:zs[i]?=some z)(hn:∀s,s∈zs->s.1<=s.2)(hu:zs.Pairwise fun a b=>a.1<=b.1)
  (hl:∀t,told.getLast?=some t->¬z.1<=t.2+1):JW zs (told++[z]) (i+1):=by
 have mz:z∈zs:=BF hz;have e:=m7 hz;have hu2:(zs.drop i).Pairwise fun a b=>a.1<=b.1:=hu.sublist (Kj _ _);rw[e] at hu2;have hu3:=EO.mp hu2;refine⟨⟨fun s m=>?_,BQ.mpr ⟨h.gap.up,FM _ _,fun a ma b mb=>?_⟩⟩,fun n=>?_,fun t m z' mz'=>?_,fun t m=>?_,by rw[AO,A9];have:=h.ln;omega⟩
 ·rcases A6.mp m with m|m
  ·exact h.gap.ne s m
  rw[AK.mp m];exact hn z mz
 ·rw[AK.mp mb];rcases LZ told with e0|⟨pre,t,e0⟩
  ·rw[e0] at ma;cases ma
  subst e0;have h1:=hl t (by simp);have ma:a∈pre++[t]:=by simpa using ma
  have hup:(pre++[t]).Pairwise fun a b=>a.2+1<b.1:=by simpa using h.gap.up
  rcases A6.mp ma with m|m
  ·have:=(BQ.mp hup).2.2 a m t (by simp);have:=h.gap.ne t (by simp);omega
  rw[AK.mp m];omega
 ·rw[ql,Bh hz,ql,h.cv]
 ·rcases A6.mp m with m|m
  ·exact h.be t m z' (by rw[e];exact A4 _ mz')
  rw[AK.mp m];exact hu3.1 z' mz'
 rcases A6.mp m with m|m
 ·exact h.fs t m
 exact⟨z,mz,by rw[AK.mp m]⟩
theorem JW.grown {zs pre:List (Int×Int)}{t:Int×Int}{i:Nat}{z:Int×Int}(h:JW zs (pre++[t]) i)(hz:zs[i]?=some z)(hn:∀s,s∈zs->s.1<=s.2)(hu:zs.Pairwise fun a b=>a.1<=b.1)
  (hl:z.1<=t.2+1):JW zs (pre++[(t.1,max z.2 t.2)]) (i+1):=by
 have mz:z∈zs:=BF hz;have e:=m7 hz;have hu2:(zs.drop i).Pairwise fun a b=>a.1<=b.1:=hu.sublist (Kj _ _);rw[e] at hu2;have hu3:=EO.mp hu2;have hg:=BQ.mp h.gap.up;have nt:=h.gap.ne t (by simp);have nz:=hn z mz;have tz:=h.be t (by simp) z (by rw[e];exact BE ..);refine⟨⟨fun s m=>?_,BQ.mpr ⟨hg.1,FM _ _,fun a ma b mb=>?_⟩⟩,fun n=>?_,fun s m z' mz'=>?_,fun s m=>?_,by have:=h.ln;simp only[AO,A9] at this |-;omega⟩
 ·rcases A6.mp m with m|m
  ·exact h.gap.ne s (Cc _ m)
  rw[AK.mp m];show t.1<=max z.2 t.2;omega
 ·rw[AK.mp mb];exact hg.2.2 a ma t (by simp)
 ·rw[Bh hz,ql,ql,<- h.cv,ql,qj,qj,qj];show(cov pre n\/t.1<=n/\n<=max z.2 t.2)↔_;constructor
  ·rintro(q|⟨q1,q2⟩)
   ·exact .inl (.inl q)
   by_cases c:n<=t.2
   ·exact .inl (.inr ⟨q1,c⟩)
   exact .inr ⟨ω,ω⟩
  rintro((q|⟨q1,q2⟩)|⟨q1,q2⟩)
  ·exact .inl q
  ·exact .inr ⟨q1,ω⟩
  exact .inr ⟨ω,ω⟩
 ·rcases A6.mp m with m|m
  ·exact h.be s (Cc _ m) z' (by rw[e];exact A4 _ mz')
  rw[AK.mp m];have:=hu3.1 z' mz';have:=h.be t (by simp) z' (by rw[e];exact A4 _ mz');show t.1<=z'.1;omega
 rcases A6.mp m with m|m
 ·exact h.fs s (Cc _ m)
 rw[AK.mp m];exact h.fs t (by simp)
def cH:Option Int->List (Int×Int)->Option Int
 | _,[]=>none
 | ah,z::zs=>if (∃a,ah=some a/\z.1<=a) then some z.1 else cH (some z.2) zs
def wD (zs:List (Int×Int))(n:Int):Prop:=∃(i j:Nat)(a b:Int×Int),i<j/\zs[i]?=some a/\zs[j]?=some b/\a.1<=n/\n<=a.2/\b.1<=n/\n<=b.2
theorem tR:∀{zs:List (Int×Int)}{ah:Option Int},(∀s,s∈zs->s.1<=s.2)->cH ah zs=none->(∀a,ah=some a->∀z,z∈zs->a<z.1)/\zs.Pairwise fun a b=>a.2<b.1
 | [],ah,_,_=>⟨fun a _ z m=>(by cases m),.nil⟩
 | z::zs,ah,hn,h=>by
  unfold cH at h;split at h
  ·cases h
  rename_i c;obtain⟨h1,h2⟩:=tR (fun s m=>hn s (A4 _ m)) h;have h3:=h1 z.2 rfl;refine⟨fun a e y m=>?_,EO.mpr ⟨h3,h2⟩⟩;have hz:a<z.1:=by
   rcases L0 a z.1 with q|q
   ·exact q
   exact absurd ⟨a,e,q⟩ c
  rcases BB.mp m with rfl|m
  ·exact hz
  have:=h3 y m;have:=hn z (BE ..);omega
theorem qM:∀{zs:List (Int×Int)}{y:Int×Int}{m:Int},(∀s,s∈y::zs->s.1<=s.2)->(y::zs).Pairwise (fun a b=>a.1<=b.1)->cH (some y.2) zs=some m->wD (y::zs) m/\∀n,wD (y::zs) n->m<=n
 | [],y,m,_,_,h=>by
  unfold cH at h;cases h
 | z::zs,y,m,hn,hu,h=>by
  have hu1:=EO.mp hu;have hu2:=EO.mp hu1.2;have yz:=hu1.1 z (BE ..);have nz:=hn z (by simp);have first:∀{j:Nat}{b:Int×Int},(z::zs)[j]?=some b->z.1<=b.1:=fun {j b} hj=>by
   rcases BB.mp (BF hj) with e|e
   ·rw[e];exact DE _
   exact hu2.1 b e
  unfold cH at h;split at h
  ·rename_i c;cases h;obtain⟨a,ea,ha⟩:=c;cases ea;refine⟨⟨0,1,y,z,ω,rfl,rfl,yz,ha,DE _,nz⟩,?_⟩;rintro n ⟨i,j,a,b,hij,hi,hj,_,_,b1,_⟩;obtain⟨j,rfl⟩:∃k,j=k+1:=⟨j-1,ω⟩;rw[CB] at hj;have:=first hj
   omega
  rename_i c;have hlt:y.2<z.1:=by
   rcases L0 y.2 z.1 with q|q
   ·exact q
   exact absurd ⟨y.2,rfl,q⟩ c
  obtain⟨⟨i,j,a,b,hij,hi,hj,q⟩,h2⟩:=qM (fun s ms=>hn s (A4 _ ms)) hu1.2 h;refine⟨⟨i+1,j+1,a,b,ω,by rw[CB];exact hi,by rw[CB];exact hj,q⟩,?_⟩;rintro n ⟨i,j,a,b,hij,hi,hj,a1,a2,b1,b2⟩;obtain⟨j,rfl⟩:∃k,j=k+1:=⟨j-1,ω⟩;rw[CB] at hj;cases i with
  | zero=>
   rw[EU] at hi;cases hi;have:=first hj
   omega
  | succ i=>
   rw[CB] at hi;exact h2 n ⟨i,j,a,b,ω,hi,hj,a1,a2,b1,b2⟩
theorem Cv {zs:List (Int×Int)}{m:Int}(hn:∀s,s∈zs->s.1<=s.2)(hu:zs.Pairwise fun a b=>a.1<=b.1)(h:cH none zs=some m):wD zs m/\∀n,wD zs n->m<=n:=by
 cases zs with
 | nil=>unfold cH at h;cases h
 | cons y zs=>
  unfold cH at h;rw[if_neg (by rintro⟨a,e,_⟩;cases e)] at h;exact qM hn hu h
theorem Ip {zs:List (Int×Int)}(hn:∀s,s∈zs->s.1<=s.2)(h:cH none zs=none)(n:Int):¬wD zs n:=by
 rintro⟨i,j,a,b,hij,hi,hj,a1,a2,b1,b2⟩;obtain⟨li,ei⟩:=AF.mp hi;obtain⟨lj,ej⟩:=AF.mp hj;have:=DU.mp (tR hn h).2 i j li lj hij;rw[ei,ej] at this;omega
def zB (n:Int)(s:Int×Int):Bool:=decide (s.1<=n)&&decide (n<=s.2)
theorem jf {n:Int}{s:Int×Int}:zB n s=true↔s.1<=n/\n<=s.2:=by
 unfold zB;simp
theorem aaM {α:Type}{p:α->Bool}:∀{l:List α},1<=(l.filter p).length ↔ ∃(j:Nat)(b:α),l[j]?=some b/\p b=true:=by
 intro l;constructor
 ·intro h;obtain⟨b,hb⟩:=List.exists_mem_of_length_pos (show 0<(l.filter p).length by omega);obtain⟨m,pb⟩:=E8.mp hb;obtain⟨j,hj⟩:=MQ m;exact⟨j,b,hj,pb⟩
 rintro⟨j,b,hj,pb⟩;exact List.length_pos_of_mem (E8.mpr ⟨BF hj,pb⟩)
theorem GK {α:Type}{p:α->Bool}:∀{l:List α},2<=(l.filter p).length ↔ ∃(i j:Nat)(a b:α),i<j/\l[i]?=some a/\l[j]?=some b/\p a=true/\p b=true
 | []=>by
  constructor
  ·intro h;simp at h
  rintro⟨i,j,a,b,_,h,_⟩;simp at h
 | x::l=>by
  have ih:=GK (p:=p) (l:=l);have ih1:=aaM (p:=p) (l:=l);rw[DT];constructor
  ·intro h;split at h
   ·rename_i px;rw[BA] at h;obtain⟨j,b,hj,pb⟩:=ih1.mp ω;exact⟨0,j+1,x,b,ω,rfl,by rw[CB];exact hj,px,pb⟩
   obtain⟨i,j,a,b,hij,hi,hj,q⟩:=ih.mp h;exact⟨i+1,j+1,a,b,ω,by rw[CB];exact hi,by rw[CB];exact hj,q⟩
  rintro⟨i,j,a,b,hij,hi,hj,pa,pb⟩;obtain⟨j,rfl⟩:∃k,j=k+1:=⟨j-1,ω⟩;rw[CB] at hj;cases i with
  | zero=>
   rw[EU] at hi;cases hi;rw[if_pos pa,BA];have:=ih1.mpr ⟨j,b,hj,pb⟩;omega
  | succ i=>
   rw[CB] at hi;have:=ih.mpr ⟨i,j,a,b,ω,hi,hj,pa,pb⟩;split
   ·rw[BA];omega
   exact this
theorem La {zs:List (Int×Int)}{n:Int}:wD zs n↔2<=(zs.filter (zB n)).length:=by
 rw[GK];constructor
 ·rintro⟨i,j,a,b,hij,hi,hj,a1,a2,b1,b2⟩;exact⟨i,j,a,b,hij,hi,hj,jf.mpr ⟨a1,a2⟩,jf.mpr ⟨b1,b2⟩⟩
 rintro⟨i,j,a,b,hij,hi,hj,pa,pb⟩;obtain⟨a1,a2⟩:=jf.mp pa;obtain⟨b1,b2⟩:=jf.mp pb;exact⟨i,j,a,b,hij,hi,hj,a1,a2,b1,b2⟩
def FQ (n:Int)(c:List (Int×Int)):Bool:=c.any (zB n)
theorem Uh {n:Int}{c:List (Int×Int)}:FQ n c=true↔cov c n:=by
 unfold FQ;rw[EM];constructor
 ·rintro⟨s,m,h⟩;exact⟨s,m,jf.mp h⟩
 rintro⟨s,m,h⟩;exact⟨s,m,jf.mpr h⟩
theorem Gap.count {c:List (Int×Int)}(h:Gap c)(n:Int):(c.filter (zB n)).length=if FQ n c then 1 else 0:=by
 have le1:(c.filter (zB n)).length<=1:=by
  rcases C5 1 (c.filter (zB n)).length with q|q
  ·exfalso;obtain⟨i,j,a,b,hij,hi,hj,pa,pb⟩:=GK.mp (show 2<=(c.filter (zB n)).length by omega);obtain⟨li,ei⟩:=AF.mp hi;obtain⟨lj,ej⟩:=AF.mp hj;have:=DU.mp h.up i j li lj hij;rw[ei,ej] at this;have:=jf.mp pa;have:=jf.mp pb;omega
  exact q
 split
 ·rename_i hc;unfold FQ at hc;obtain⟨s,m,hs⟩:=EM.mp hc;have:=List.length_pos_of_mem (E8.mpr ⟨m,hs⟩);omega
 rename_i hc;have:c.filter (zB n)=[]:=F4.mpr fun s m hs=>hc (EM.mpr ⟨s,m,hs⟩);rw[this];rfl
theorem yx {n:Int}:∀{cs:List (List (Int×Int))},(∀c,c∈cs->Gap c)->(cs.flatten.filter (zB n)).length=(cs.filter (FQ n)).length
 | [],_=>rfl
 | c::cs,h=>by
  rw[JJ,Ee,AO,yx fun d m=>h d (A4 _ m),(h c (BE ..)).count,DT];split
  ·rw[BA];omega
  omega
theorem oY {cs:List (List (Int×Int))}{zs:List (Int×Int)}(hg:∀c,c∈cs->Gap c)(hp:zs.Perm cs.flatten)(n:Int):wD zs n↔2<=(cs.filter (FQ n)).length:=by
 rw[La,(hp.filter _).length_eq,yx hg]
theorem Io {p:Nat->Bool}:∀n,p n=true->∃t,p t=true/\∀i,i<t->p i=false:=by
 intro n
 induction n using Nat.strongRecOn with
 | ind n ih=>
  intro h;by_cases c:∃i,i<n/\p i=true
  ·obtain⟨i,hi,pi⟩:=c;exact ih i hi pi
  exact⟨n,h,fun i hi=>B3.mpr fun z=>c ⟨i,hi,z⟩⟩
theorem Kl {m:Nat}(h:m≠0):∃t,m.testBit t=true/\∀i,i<t->m.testBit i=false:=by
 obtain⟨n,hn⟩:∃n,m.testBit n=true:=by
  by_cases c:∃n,m.testBit n=true
  ·exact c
  exfalso;refine h (DH fun i=>?_);rw[Nat.zero_testBit];exact B3.mpr fun z=>c ⟨i,z⟩
 exact Io n hn
def abF (W:Nat)(sg:Int)(n:Int):It1->Prop
 | .one a=>n=a
 | .rng a _=>n=a
 | .bits m v=>v &&& m=v/\∃t s,m.testBit t=true/\(∀i,i<t->m.testBit i=false)/\s∈bh m v t (W-(t+1))/\n=nOf W sg s
def Zn (W:Nat):It1->Prop
 | .bits m _=>m<2^W
 | _=>True
theorem begins {W:Nat}{sg n:Int}{it:It1}(hW:1<=W)(hm:Zn W it)(h1:lu W sg<n)(h2:n<lu W sg+2^W)(h:aZ W n it=true)(h':aZ W (n-1) it=false):abF W sg n it:=by
 cases it with
 | one a=>
  show n=a;simpa [aZ] using h
 | rng a b=>
  simp [aZ] at h h';show n=a;omega
 | bits m v=>
  have e:aZ W n (.bits m v)=decide ((n%2^W).toNat &&& m=v):=by simp [aZ]
  have e':aZ W (n-1) (.bits m v)=decide (((n-1)%2^W).toNat &&& m=v):=by simp [aZ]
  rw[e,decide_eq_true_iff] at h;rw[e',decide_eq_false_iff_not] at h';have hv:v &&& m=v:=by rw[<- h,Nat.and_assoc,Nat.and_self]
  have m0:m≠0:=by
   rintro rfl;rw[and_zero] at h h';exact h' h
  obtain⟨t,ht,hl⟩:=Kl m0;obtain⟨x,mx,x1,x2⟩:=(vd hW hv hm ht hl ω h2).mpr h;obtain⟨s,ms,rfl⟩:=EF.mp mx;refine⟨hv,t,s,ht,hl,ms,?_⟩;replace x1:nOf W sg s<=n:=x1;replace x2:n<=nOf W sg s+2^t-1:=x2;rcases L0 (nOf W sg s) n with c|c
  ·exfalso;refine h' ((vd hW hv hm ht hl ω ω).mp ⟨_,mx,?_,?_⟩)
   ·show nOf W sg s<=n-1;omega
   show n-1<=nOf W sg s+2^t-1;omega
  omega
def fQ (W:Int)(css:List (List It1))(n:Int):Nat:=(css.filter fun its=>its.any (aZ W n)).length
theorem filter_mono {α:Type}{p q:α->Bool}:∀{l:List α},(∀x,x∈l->p x=true->q x=true)->(l.filter p).length<=(l.filter q).length
 | [],_=>AY _
 | x::l,h=>by
  have ih:=filter_mono (l:=l) fun y m=>h y (A4 _ m);rw[DT,DT];by_cases c:p x=true
  ·rw[if_pos c,if_pos (h x (BE ..) c),BA,BA];omega
  rw[if_neg c];split
  ·rw[BA];omega
  exact ih
theorem Cu {W:Nat}{sg n:Int}{css:List (List It1)}{B:Int->Prop}(hW:1<=W)(hm:∀its,its∈css->∀it,it∈its->Zn W it)(hlo:B (lu W sg))(hB:∀its,its∈css->∀it,it∈its->∀n,abF W sg n it->B n)
  (h1:lu W sg<=n) (h2:n<lu W sg+2^W) (h:2<=fQ W css n) (hleast:∀k,lu W sg<=k->k<n->¬2<=fQ W css k):B n:=by
 rcases L0 (lu W sg) n with c|c
 ·have hk:=hleast (n-1) ω ω;by_cases q:∃its,its∈css/\its.any (aZ W n)=true/\its.any (aZ W (n-1))=false
  ·obtain⟨its,m,a1,a2⟩:=q;obtain⟨it,mi,pi⟩:=EM.mp a1;have p2:aZ W (n-1) it=false:=B3.mpr fun z=>by
    rw[EM.mpr ⟨it,mi,z⟩] at a2;cases a2
   exact hB its m it mi n (begins hW (hm its m it mi) c h2 pi p2)
  exfalso;refine hk (BN h (filter_mono fun its m a=>?_));cases z:its.any (aZ W (n-1)) with
  | true=>rfl
  | false=>exact absurd ⟨its,m,a,z⟩ q
 rw[show n=lu W sg by omega];exact hlo
def jE (fs:List Nat)(j:Nat):Nat:=((fs.zipIdx.filter fun x=>j.testBit x.2).map fun x=>2^x.1).sum
theorem pX (fs:List Nat)(p j:Nat):jE (fs++[p]) j=jE fs j+if j.testBit fs.length then 2^p else 0:=by
 unfold jE;rw[List.zipIdx_append,Ee,DJ,sum_append];congr 1;simp only[zipIdx_cons,List.zipIdx_nil,DT,filter_nil,zero_add];split <;> simp
theorem DP {fs:List Nat}{j k:Nat}(h:∀i,i<fs.length->j.testBit i=k.testBit i):jE fs j=jE fs k:=by
 unfold jE;congr 2;refine filter_congr fun x hx=>?_;obtain⟨_,h2,_⟩:=List.mem_zipIdx hx;exact h x.2 ω
def dm (m t n:Nat):List Nat:=(Lo (t+1) n).filter fun k=>!m.testBit k
theorem pN (m t n:Nat):dm m t (n+1)=if m.testBit (t+1+n) then dm m t n else dm m t n++[t+1+n]:=by
 unfold dm;rw[List.range'_concat,Ee,Nat.one_mul];cases h:m.testBit (t+1+n) <;> simp [DT,h]
theorem gh {m v t:Nat}:∀{n s:Nat},s∈bh m v t n ↔ ∃j,j<2^(dm m t n).length/\s=v+jE (dm m t n) j
 | 0,s=>by
  have e:dm m t 0=[]:=rfl;unfold bh;rw[e,AK];constructor
  ·rintro rfl;exact⟨0,by simp,by simp [jE]⟩
  rintro⟨j,_,h⟩;rw[h];simp [jE]
 | n+1,s=>by
  unfold bh;rw[pN];split
  ·exact gh
  rw[A6,EF,AO,A9,pow_succ];constructor
  ·rintro(h|⟨r,hr,rfl⟩)
   ·obtain⟨j,hj,rfl⟩:=gh.mp h;refine⟨j,ω,?_⟩;rw[pX,Cn hj];simp
   obtain⟨j,hj,rfl⟩:=gh.mp hr;have j0:=Cn hj;refine⟨j+2^(dm m t n).length,ω,?_⟩;rw[pX,Dk j0,DP (j:=j+2^(dm m t n).length) (k:=j) fun i hi=>by rw[Dk j0,decide_eq_false ω,Bool.or_false]];simp;omega
  rintro⟨j,hj,rfl⟩;rw[pX];cases hb:j.testBit (dm m t n).length with
  | false=>
   refine .inl (gh.mpr ⟨j,?_,by simp⟩);refine KP j fun i hi=>?_;by_cases c:i=(dm m t n).length
   ·rw[c,hb]
   exact Cn (AN (show j<2^((dm m t n).length+1) by rw[pow_succ];exact hj) (B6 δ ω))
  | true=>
   have hge:=EW hb;refine .inr ⟨v+jE (dm m t n) (j-2^(dm m t n).length),gh.mpr ⟨_,ω,rfl⟩,?_⟩;rw[DP (j:=j-2^(dm m t n).length) (k:=j) fun i hi=>by rw[rY hb,decide_eq_false ω];simp];simp;omega
theorem yt {W m t:Nat}(ht:m.testBit t=true)(hl:∀i,i<t->m.testBit i=false)(tW:t<W):frees W m=dm m t (W-(t+1)):=by
 unfold frees dm;have e:BS W=BS (t+1)++Lo (t+1) (W-(t+1)):=by
  have:=MI (s:=0) (m:=t+1) (n:=W-(t+1));rw[zero_add,show t+1+(W-(t+1))=W by omega] at this;rw[List.range_eq_range',List.range_eq_range',this]
 rw[e,Ee];have z:(BS (t+1)).filter (isFree m)=[]:=F4.mpr fun k hk h=>by
  have hk':=DL.mp hk;unfold isFree at h;simp only[C1,Bool.not_eq_true',EM] at h;obtain⟨_,j,hj,mj⟩:=h;have:=DL.mp hj;rw[hl j ω] at mj;cases mj
 rw[z,nil_append];refine filter_congr fun k hk=>?_;have hk':=L8.mp hk;unfold isFree;rw[EM.mpr ⟨t,DL.mpr ω,ht⟩,FY]
def JM:Sp:=fun vs H Q _=>∃(w s:Int)(p:Nat),vs=[.int p,.int w,.int s]/\1<=w/\w<=40/\(s=0\/s=1)/\p<2^w.toNat/\Q (.int (nOf w.toNat s p)) H
theorem aaU {w s:Int}{p:Nat}(h1:1<=w)(hs:s=0\/s=1)(hp:p<2^w.toNat):nOf w.toNat s p=if wl w s+2^w.toNat-1<(p:Int) then (p:Int)-2^w.toNat else p:=by
 have e:=lR h1;have e2:w.toNat-1=(w-1).toNat:=ω;have c1:((2^w.toNat:Nat):Int)=2^w.toNat:=by rw[DC];rfl
 have c2:((2^(w-1).toNat:Nat):Int)=2^(w-1).toNat:=by rw[DC];rfl
 unfold nOf wl;rw[e2];rcases hs with rfl|rfl
 ·rw[if_neg (by simp),if_neg ω]
 by_cases c:2^(w-1).toNat<=p
 ·rw[if_pos ⟨δ,c⟩,if_pos ω]
 rw[if_neg fun z=>c z.2,if_neg ω]
theorem U9 {m t:Nat}(ht:m.testBit t=true)(hl:∀i,i<t->m.testBit i=false):m &&& (m-1)=m-2^t:=by
 have hr:m%2^(t+1)=2^t:=DH fun k=>by
  rw[Nat.testBit_mod_two_pow,FU];by_cases c:t=k
  ·subst c;simp [ht]
  by_cases c2:k<t
  ·simp [hl k c2,c]
  have:¬k<t+1:=by omega
  simp [this,c]
 have hm:=Nat.div_add_mod m (2^(t+1));have hp:=Me t;have e:m-1=2^(t+1)*(m/2^(t+1))+(2^t-1):=ω;have lt:2^t-1<2^(t+1):=by rw[pow_succ];omega
 refine DH fun k=>?_;rw[Hn,rY ht,e,JP _ lt];by_cases c:k<t+1
 ·rw[if_pos c,JU];by_cases c2:k=t
  ·subst c2;simp
  rw[hl k ω];simp
 rw[if_neg c,Ff,Ic ω,decide_eq_false (by omega:¬k=t)];simp
theorem Y6 {m t:Nat}(ht:m.testBit t=true)(hl:∀i,i<t->m.testBit i=false):AX.bitAnd (m:Int) (-(m:Int))=2^t:=by
 have hge:=EW ht;have hp:=Me t;have c1:((2^t:Nat):Int)=2^t:=by rw[DC];rfl
 have hneg:¬(0<=-(m:Int)):=ω;have e:=U9 ht hl;unfold AX.bitAnd;simp only[hneg,decide_false,Int.natCast_nonneg,decide_true,C0];have eb:(AX.bitNot (-(m:Int))).toNat=m-1:=by
  unfold AX.bitNot;omega
 rw[eb,e];omega
def Goes (cs:List RowC)(n:Int)(y:Nat)(x:Int):Prop:=∃c,cs[y]?=some c/\acs c=false/\Ze c (y:Int) n=some x
theorem Goes.inj {cs:List RowC}{n:Int}{y:Nat}{x z:Int}(h:Goes cs n y x)(k:Goes cs n y z):x=z:=by
 obtain⟨c,hc,_,hs⟩:=h;obtain⟨d,hd,_,ht⟩:=k;rw[hc] at hd;cases hd;rw[hs] at ht;cases ht;rfl
def Cm (cs:List RowC)(n:Int)(j:Nat):Prop:=(j:Int)∈(runOf cs n).2
def stC:RowC->Int->Prop
 | .one a _,n=>n=a\/n=a+1
 | .rng a b _,n=>n=a\/n=b+1
 | .low a _,n=>n=a
 | .msk lo wd _ _,n=>lo<=n/\n<lo+wd
 | .tab lo gs,n=>lo<=n/\n<lo+gs.length
 | .pik _,_=>False
def ac2 (cs:List RowC)(low n:Int):Prop:=n=low\/∃(i:Nat)(c:RowC),cs[i]?=some c/\stC c n
structure CI (cs:List RowC)(low high:Int)(X:Nat->List (Int×Int))(k:Nat):Prop where
 dn:∀j,j<k->Gap (X j)
 dc:∀j n,j<k->(cov (X j) n↔low<=n/\n<=high/\Cm cs n j)
 ra:∀j,k<=j->Dis (X j)
 rc:∀j n,k<=j->(cov (X j) n↔low<=n/\n<=high/\(j=0\/∃y:Nat,y<k/\Cm cs n y/\Goes cs n y (j:Int)))
 fs:∀j s,s∈X j->ac2 cs low s.1
structure RunsI (first:Int)(goals:List Int)(ws:List (Int×Int×Int))(i:Nat):Prop where
 up:ws.Pairwise fun a b=>a.2.1<b.1
 cv:∀n g,(∃w,w∈ws/\w.2.2=g/\w.1<=n/\n<=w.2.1)↔first<=n/\n<first+i/\goals[(n-first).toNat]?=some g
 rg:∀w,w∈ws->first<=w.1/\w.1<=w.2.1/\w.2.1<first+i/\w.2.2∈goals
 ls:∀w,ws.getLast?=some w->w.2.1=first+i-1
 ln:ws.length<=i
structure WI (ss os:List (Int×Int))(i k:Nat):Prop where
 ins:∀n,cov (ss.take i) n->cov os n
 pre:∀o,o∈os.take k->∀s,s∈ss.drop i->o.2<s.2
 le:k<=os.length
inductive bN {α:Type}(en:α->List V)(H:Hp):List V->List α->Prop
 | nil:bN en H [] []
 | cons {p:Addr} {x:α} {us:List V} {xs:List α}:H p=some (.tup (en x))->bN en H us xs->bN en H (.ref p::us) (x::xs)
section
variable {α:Type}{en:α->List V}{H H':Hp}
theorem bN.length:∀{us:List V}{xs:List α},bN en H us xs->us.length=xs.length
 | _,_,.nil=>rfl
 | _,_,.cons _ t=>by rw[BA,BA,t.length]
theorem bN.keep:∀{us:List V}{xs:List α},bN en H us xs->(∀p ys,H p=some (.tup ys)->H' p=some (.tup ys))->bN en H' us xs
 | _,_,.nil,_=>.nil
 | _,_,.cons e t,k=>.cons (k _ _ e) (t.keep k)
theorem bN.same {us:List V}{xs:List α}(h:bN en H us xs)(s:Same H H'):bN en H' us xs:=h.keep fun p ys e=>s _ _ e
theorem bN.wB {us:List V}{xs:List α}(h:bN en H us xs){l:Addr}{ys:List V}{o:HO}(e:H l=some (.lst ys)):bN en (upd H l o) us xs:=h.keep fun p zs ep=>by
 rw[aF (fun z=>by rw[z,e] at ep;cases ep)];exact ep
theorem bN.abP {us:List V}{xs:List α}(h:bN en H us xs){l:Addr}{o:HO}(e:H l=none):bN en (upd H l o) us xs:=h.same (aA e)
theorem bN.got:∀{us:List V}{xs:List α},bN en H us xs->∀{i:Nat}{u:V},us[i]?=some u->∃p x,u=.ref p/\xs[i]?=some x/\H p=some (.tup (en x))
 | _,_,.nil,_,_,h=>by cases h
 | _,_,.cons (p:=p) e t,0,_,h=>by cases h;exact⟨p,_,rfl,rfl,e⟩
 | _,_,.cons e t,i+1,_,h=>t.got (i:=i) h
theorem bN.app:∀{us vs:List V}{xs ys:List α},bN en H us xs->bN en H vs ys->bN en H (us++vs) (xs++ys)
 | _,_,_,_,.nil,k=>k
 | _,_,_,_,.cons e t,k=>.cons e (t.app k)
theorem bN.snoc {us:List V}{xs:List α}(h:bN en H us xs){p:Addr}{x:α}(e:H p=some (.tup (en x))):bN en H (us++[.ref p]) (xs++[x]):=h.app (.cons e .nil)
theorem bN.split:∀{xs:List α}{us:List V}{x:α},bN en H us (xs++[x])->∃vs p,us=vs++[.ref p]/\bN en H vs xs/\H p=some (.tup (en x))
 | [],us,x,h=>by
  cases h with
  | cons e t=>cases t;exact⟨[],_,rfl,.nil,e⟩
 | y::xs,us,x,h=>by
  cases h with
  | cons e t=>
   obtain⟨vs,p,rfl,k,ep⟩:=bN.split t;exact⟨_::vs,p,rfl,.cons e k,ep⟩
theorem bN.refs:∀{us:List V}{xs:List α},bN en H us xs->∃ps:List Addr,us=ps.map V.ref
 | _,_,.nil=>⟨[],rfl⟩
 | _,_,.cons (p:=p) e t=>by
  obtain⟨ps,rfl⟩:=t.refs;exact⟨p::ps,rfl⟩
theorem bN.read {dec:Addr->α}:∀{ps:List Addr}{xs:List α},bN en H (ps.map V.ref) xs->(∀p x,H p=some (.tup (en x))->dec p=x)->xs=ps.map dec/\∀p,p∈ps->H p=some (.tup (en (dec p)))
 | [],xs,h,_=>by cases h;exact⟨rfl,fun p m=>by cases m⟩
 | p::ps,xs,h,hd=>by
  cases h with
  | cons e t=>
   obtain⟨e1,e2⟩:=bN.read t hd;have ep:=hd _ _ e;refine⟨by rw[F9,ep,<- e1],fun q m=>?_⟩;rcases BB.mp m with rfl|m
   ·rw[ep];exact e
   exact e2 q m
theorem bN.of_map {dec:Addr->α}:∀{ps:List Addr},(∀p,p∈ps->H p=some (.tup (en (dec p))))->bN en H (ps.map V.ref) (ps.map dec)
 | [],_=>.nil
 | p::ps,h=>.cons (h p (BE ..)) (bN.of_map fun q m=>h q (A4 _ m))
end
def prE (s:Int×Int):List V:=[.int s.1,.int s.2]
def trE (w:Int×Int×Int):List V:=[.int w.1,.int w.2.1,.int w.2.2]
def n6 (H:Hp)(p:Addr):Int×Int:=match H p with
 | some (.tup [.int a,.int b])=>(a,b)
 | _=>(0,0)
theorem J7 {H:Hp}(p:Addr)(x:Int×Int)(h:H p=some (.tup (prE x))):n6 H p=x:=by
 unfold n6;rw[h];rfl
theorem K6 {α:Type}(xs:List α)(x:α):atI (xs++[x]) (-1)=some x:=by
 unfold atI ixN;rw[if_neg δ,if_pos (by rw[AO,A9];omega)];show(xs++[x])[(-1+((xs++[x]).length:Int)).toNat]?=_;rw[show(-1+((xs++[x]).length:Int)).toNat=xs.length by rw[AO,A9];omega];rw[F2 (AY _),sub_self];rfl
theorem XJ {α:Type}(xs:List α)(x:α):ixN (xs++[x]).length (-1)=some xs.length:=by
 unfold ixN;rw[if_neg δ,if_pos (by rw[AO,A9];omega)];rw[AO,A9];congr 1;omega
theorem P0 {α:Type}(xs:List α)(x y:α):(xs++[x]).set xs.length y=xs++[y]:=by
 rw[Mn _ _ (AY _),sub_self];rfl
structure RAt (H:Hp)(lr:Addr)(ps:List Addr)(X:Nat->List (Int×Int)):Prop where
 e:H lr=some (.lst (ps.map V.ref))
 nr:lr∉ps
 nd:ps.Nodup
 el:∀(j:Nat) p,ps[j]?=some p->∃us,H p=some (.lst us)/\bN prE H us (X j)
theorem ack {α:Type}{ps:List α}(h:ps.Nodup){i j:Nat}{p q:α}(hi:ps[i]?=some p)(hj:ps[j]?=some q)(n:i≠j):p≠q:=fun e=>by
 obtain⟨li,ei⟩:=AF.mp hi;obtain⟨lj,ej⟩:=AF.mp hj;exact n ((List.getElem_inj (h₀:=li) (h₁:=lj) h).mp (by rw[ei,ej,e]))
theorem RAt.push {H:Hp}{lr:Addr}{ps:List Addr}{X:Nat->List (Int×Int)}(h:RAt H lr ps X){g:Nat}{p q:Addr}{us:List V}{s:Int×Int}(hp:ps[g]?=some p)(e:H p=some (.lst us))(eq:H q=some (.tup (prE s))) :
  RAt (upd H p (.lst (us++[.ref q]))) lr ps fun j=>X j++(if j=g then [s] else []):=by
 have np:∀{b:Addr}{ys:List V},H b=some (.tup ys)->b≠p:=fun eb z=>by rw[z,e] at eb;cases eb
 have mp:p∈ps:=BF hp;refine⟨by rw[aF (show lr≠p from fun z=>h.nr (z ▸ mp))];exact h.e,h.nr,h.nd,fun j b hb=>?_⟩;obtain⟨us',e',t⟩:=h.el j b hb;by_cases c:j=g
 ·subst c;rw[hp] at hb;cases hb;rw[e] at e';cases e';refine⟨_,aB,?_⟩;rw[if_pos rfl];exact(t.wB e).snoc (by rw[aF (np eq)];exact eq)
 rw[if_neg c,DB];exact⟨us',by rw[aF (ack h.nd hb hp c)];exact e',t.wB e⟩
def SameP (ps:List Addr)(H H':Hp):Prop:=∀b o,b∉ps->H b=some o->H' b=some o
section
variable {α:Type}{en:α->List V}{H:Hp}
theorem bN.push {us:List V}{xs:List α}{r q:Addr}(t:bN en H us xs)(x:α)(er:H r=some (.lst us))(hq:H q=none):bN en (upd (upd H q (.tup (en x))) r (.lst (us++[.ref q]))) (us++[.ref q]) (xs++[x]):=by
 have nq:r≠q:=aG er hq;have er1:upd H q (.tup (en x)) r=some (.lst us):=by rw[aF nq];exact er
 exact((t.abP hq).wB er1).snoc (by rw[aF nq.symm];exact aB)
theorem bN.swap {us:List V}{xs:List α}{r q p:Addr}(t:bN en H us xs)(x:α)(er:H r=some (.lst (us++[.ref p])))(hq:H q=none):bN en (upd (upd H q (.tup (en x))) r (.lst (us++[.ref q]))) (us++[.ref q]) (xs++[x]):=by
 have nq:r≠q:=aG er hq;have er1:upd H q (.tup (en x)) r=some (.lst (us++[.ref p])):=by rw[aF nq];exact er
 exact((t.abP hq).wB er1).snoc (by rw[aF nq.symm];exact aB)
end
theorem Ke {α:Type}(us:List α)(x:α):(us++[x]).isEmpty=false:=by cases us <;> rfl
theorem wM {H H':Hp}{r q:Addr}{o u:HO}(s:Same H H')(hr:H r=none)(hq:H' q=none):Same H (upd (upd H' q o) r u):=LQ (s.trans (aA hq)) hr
theorem GJ {H:Hp}{r q d:Addr}{o u v:HO}(e:H d=some v)(n:d≠r)(hq:H q=none):upd (upd H q o) r u d=some v:=by
 rw[aF n,aF (aG e hq)];exact e
theorem Fp {w s:Int}(h1:1<=w)(hs:s=0\/s=1):lu w.toNat s=wl w s:=by
 unfold lu wl;rw[show w.toNat-1=(w-1).toNat by omega];rcases hs with rfl|rfl
 ·rw[if_pos rfl];omega
 rw[if_neg δ];omega
def Oj (w s:Int)(ys:List (Int×Int)):Prop:=∀y,y∈ys->wl w s<=y.1/\y.1<=y.2/\y.2<wl w s+2^w.toNat
theorem Oj.kind {w s n:Int}{ys:List (Int×Int)}(h:Oj w s ys)(c:cov ys n):cG w s n:=by
 obtain⟨y,m,a,b⟩:=c;have:=h y m;exact⟨ω,ω⟩
structure ISp (w s:Int)(it:It1)(ys:List (Int×Int)):Prop where
 ins:Oj w s ys
 cv:∀n,cG w s n->(cov ys n↔aZ w n it=true)
 ln:ys.length<=128
theorem X6 {w s a:Int}(h:cG w s a):ISp w s (.one a) [(a,a)]:=by
 refine⟨fun y m=>?_,fun n _=>?_,by simp⟩
 ·rw[AK.mp m];exact⟨h.1,DE _,h.2⟩
 rw[qj];unfold aZ;rw[decide_eq_true_iff];show a<=n/\n<=a↔_;omega
theorem X5 {w s a b:Int}(h:cG w s a/\cG w s b/\a<=b):ISp w s (.rng a b) [(a,b)]:=by
 refine⟨fun y m=>?_,fun n _=>?_,by simp⟩
 ·rw[AK.mp m];exact⟨h.1.1,h.2.2,h.2.1.2⟩
 rw[qj];unfold aZ;rw[C1,decide_eq_true_iff,decide_eq_true_iff]
theorem abj {w s:Int}{m v:Nat}(h:v &&& m≠v):ISp w s (.bits m v) []:=by
 refine⟨fun y m=>(by cases m),fun n _=>⟨fun c=>absurd c KQ,fun c=>?_⟩,δ⟩;unfold aZ at c;rw[decide_eq_true_iff] at c;exact absurd (by rw[<- c,Nat.and_assoc,Nat.and_self]) h
theorem X7 {w s:Int}{v:Nat}(h:v &&& 0=v):ISp w s (.bits 0 v) [(wl w s,wl w s+2^w.toNat-1)]:=by
 have p:=two_pow_pos w.toNat;refine⟨fun y m=>?_,fun n hn=>?_,by simp⟩
 ·rw[AK.mp m];show wl w s<=wl w s/\wl w s<=wl w s+2^w.toNat-1/\wl w s+2^w.toNat-1<wl w s+2^w.toNat;omega
 rw[qj];rw[show aZ w n (.bits 0 v)=decide ((n%2^w.toNat).toNat &&& 0=v) from rfl,and_zero];rw[and_zero] at h;rw[decide_eq_true h];obtain⟨a,b⟩:=hn;exact⟨fun _=>rfl,fun _=>⟨a,by show n<=wl w s+2^w.toNat-1;omega⟩⟩
theorem vh {m v t:Nat}:∀n,(bh m v t n).length=2^(dm m t n).length
 | 0=>by simp [bh,dm]
 | n+1=>by
  have ih:=vh (m:=m) (v:=v) (t:=t) n;unfold bh;rw[pN];split
  ·exact ih
  rw[AO,AV,ih,AO,A9,pow_succ];omega
theorem vB {m t:Nat}:∀{i n:Nat},i<=n->(dm m t i).length<=(dm m t n).length
 | i,0,h=>by rw[Nat.le_zero.mp h];exact AY _
 | i,n+1,h=>by
  rcases C5 i (n+1) with c|c
  ·refine BN (vB (show i<=n by omega)) ?_;rw[pN];split
   ·exact AY _
   rw[AO];omega
  rw[show i=n+1 by omega];exact AY _
theorem uF {w:Int}{m v t i:Nat}(hf:9<=w->(frees w.toNat m).length<=4)(ht:m.testBit t=true)(hl:∀i,i<t->m.testBit i=false)(tW:t<w.toNat)(hi:i<=w.toNat-(t+1)):(bh m v t i).length<=128:=by
 rw[vh];have le7:(dm m t i).length<=7:=by
  refine BN (vB hi) ?_;rcases L0 w 9 with c|c
  ·have:(dm m t (w.toNat-(t+1))).length<=_:=GM _ _;rw[List.length_range'] at this;omega
  have:=hf c;rw[yt ht hl tW] at this;omega
 exact B6 δ le7
theorem Gs (m k:Nat):AX.bitAnd (m:Int) (2^k)=if m.testBit k then 2^k else 0:=by
 have c:((2^k:Nat):Int)=2^k:=by rw[DC];rfl
 rw[<- c,gD];have e:m &&& 2^k=if m.testBit k then 2^k else 0:=DH fun j=>by
  rw[Hn,FU];by_cases z:k=j
  ·subst z;cases hb:m.testBit k <;> simp
  cases hb:m.testBit k <;> simp [z]
 rw[e];split <;> rfl
theorem none_of {H H':Hp}{p:Addr}(s:Same H H')(h:H' p=none):H p=none:=by
 cases e:H p with
 | none=>rfl
 | some o=>rw[s _ _ e] at h;cases h
theorem DQ {m v t i:Nat}(hb:m.testBit (t+1+i)=true):bh m v t (i+1)=bh m v t i:=by
 conv=>lhs;unfold bh
 rw[if_pos hb]
theorem Lq {m v t i:Nat}(hb:m.testBit (t+1+i)=false):bW (bh m v t i)++bW ((bh m v t i).map (· + 2^(t+1+i)))=bW (bh m v t (i+1)):=by
 unfold bW;rw[<- DJ];congr 1
 conv=>rhs;unfold bh
 rw[if_neg (by rw[hb];decide)]
theorem lZ {W m v t:Nat}(hv:v &&& m=v)(hm:m<2^W)(ht:m.testBit t=true)(hl:∀i,i<t->m.testBit i=false){x:Nat}(hx:x∈bh m v t (W-(t+1))):x<2^W/\2^t*(x/2^t)=x/\t<W:=by
 have tW:t<W:=by
  rcases C5 t W with c|c
  ·exact c
  rw[Cn (AN hm (B6 δ c))] at ht;cases ht
 have vb:∀i,v.testBit i=true->m.testBit i=true:=fun i h=>by
  rw[<- hv,Hn] at h;simp at h;exact h.2
 have vW:v<2^W:=by
  have:v<=m:=by rw[<- hv];exact and_le_right
  omega
 have hsb:=(eE vb).mp hx;have slow:∀i,i<t->x.testBit i=false:=fun i hi=>by
  rw[hsb i ω];exact B3.mpr fun z=>by
   have:=vb i z;rw[hl i hi] at this;cases this
 refine⟨KP x fun i hi=>?_,DH fun i=>?_,tW⟩
 ·rw[hsb i ω];exact Cn (AN vW (B6 δ hi))
 rw[HH];by_cases c:i<t
 ·rw[decide_eq_false ω,D1,slow i c]
 rw[decide_eq_true ω,F1,Ff,Ic ω]
theorem RT {W t x:Nat}{sg:Int}(hW:1<=W)(hx:x<2^W)(hd:2^t*(x/2^t)=x)(ht:t<W):lu W sg<=nOf W sg x/\nOf W sg x+2^t<=lu W sg+2^W:=by
 obtain⟨k1,k2⟩:=Gj ht hd;replace k2:=k2 hx;have eN:2^W=2*2^(W-1):=by
  obtain⟨V,rfl⟩:∃V,W=V+1:=⟨W-1,ω⟩;rw[ML,pow_succ,mul_comm]
 have c1:((2^W:Nat):Int)=2^W:=by rw[DC];rfl
 have c2:((2^(W-1):Nat):Int)=2^(W-1):=by rw[DC];rfl
 have c3:((2^t:Nat):Int)=2^t:=by rw[DC];rfl
 unfold nOf lu;rw[<- c1,<- c2,<- c3];clear c1 c2 c3 hd;generalize 2^(W-1)=H at *;generalize (2:Nat)^W=D at *;generalize 2^t=T at *;by_cases g:sg=0
 ·subst g;rw[if_pos rfl,if_neg (by simp)];omega
 rw[if_neg g];by_cases c:H<=x
 ·rw[if_pos ⟨g,c⟩];omega
 rw[if_neg (fun z=>c z.2)];have:=k1 ω;omega
theorem S9 {w s:Int}{m v t:Nat}(h1:1<=w)(hs:s=0\/s=1)(hok:It1.Ok w s (.bits m v))(hv:v &&& m=v)(ht:m.testBit t=true)(hl:∀i,i<t->m.testBit i=false):ISp w s (.bits m v) (K3 w.toNat s m v t):=by
 obtain⟨hm,hv2,hf⟩:=hok;refine⟨fun y my=>?_,fun n hn=>?_,?_⟩
 ·obtain⟨x,mx,rfl⟩:=EF.mp my;obtain⟨f1,f2,f3⟩:=lZ hv hm ht hl mx;have:=RT (sg:=s) ω f1 f2 f3;rw[Fp h1 hs] at this;have p:=two_pow_pos t;show wl w s<=nOf w.toNat s x/\nOf w.toNat s x<=nOf w.toNat s x+2^t-1/\nOf w.toNat s x+2^t-1<_;omega
 ·rw[vd ω hv hm ht hl (by rw[Fp h1 hs];exact hn.1) (by rw[Fp h1 hs];exact hn.2)];unfold aZ;rw[decide_eq_true_iff]
 unfold K3;rw[AV];have tW:t<w.toNat:=by
  rcases C5 t w.toNat with c|c
  ·exact c
  rw[Cn (AN hm (B6 δ c))] at ht;cases ht
 exact uF hf ht hl tW (AY _)
structure CSp (w s:Int)(its:List It1)(ys:List (Int×Int)):Prop where
 gap:Gap ys
 ins:Oj w s ys
 cv:∀n,cG w s n->(cov ys n↔its.any (aZ w n)=true)
 ln:ys.length<=128*its.length
structure GSp (w s:Int)(its:List It1)(ys:List (Int×Int)):Prop where
 ins:Oj w s ys
 cv:∀n,cG w s n->(cov ys n↔its.any (aZ w n)=true)
 ln:ys.length<=128*its.length
theorem GSp.nil {w s:Int}:GSp w s [] []:=⟨fun y m=>(by cases m),fun n _=>⟨fun c=>absurd c KQ,fun c=>by cases c⟩,AY _⟩
theorem GSp.snoc {w s:Int}{its:List It1}{it:It1}{ys zs:List (Int×Int)}(h:GSp w s its ys)(k:ISp w s it zs):GSp w s (its++[it]) (ys++zs):=by
 refine⟨fun y m=>?_,fun n hn=>?_,?_⟩
 ·rcases A6.mp m with m|m
  ·exact h.ins y m
  exact k.ins y m
 ·rw[ql,h.cv n hn,k.cv n hn,List.any_append];simp
 rw[AO,AO,A9];have:=h.ln;have:=k.ln;omega
theorem GSp.case {w s:Int}{its:List It1}{ys zs:List (Int×Int)}(h:GSp w s its ys)(g:Gap zs)(c:∀n,cov zs n↔cov ys n)(l:zs.length<=ys.length):CSp w s its zs:=by
 refine⟨g,fun y m=>?_,fun n hn=>by rw[c,h.cv n hn],BN l h.ln⟩;have ne:=g.ne y m;have k1:=h.ins.kind ((c _).mp ⟨y,m,DE _,ne⟩);have k2:=h.ins.kind ((c _).mp ⟨y,m,ne,DE _⟩);exact⟨k1.1,ne,k2.2⟩
def JQ:Sp:=fun vs H Q _=>∃(l:Addr)(us:List V)(ss:List (Int×Int)),vs=[.ref l]/\H l=some (.lst us)/\bN prE H us ss/\(∀s,s∈ss->s.1<=s.2/\-1267650600228229401496703205376<s.2/\s.2<1267650600228229401496703205376)/\ss.length<=100000 /\
 ∀(r:Addr)(H':Hp)(us':List V)(ys:List (Int×Int)),Same H H'->H r=none->H' r=some (.lst us')->bN prE H' us' ys->Gap ys->(∀n,cov ys n↔cov ss n)->ys.length<=ss.length->Q (.ref r) H'
def Zk:Sp:=fun vs H Q _=>∃(w s:Int)(m v:Nat),vs=[.int w,.int s,.int m,.int v]/\1<=w/\w<=40/\(s=0\/s=1)/\It1.Ok w s (.bits m v) /\
 ∀(r:Addr)(H':Hp)(us:List V)(ys:List (Int×Int)),Same H H'->H r=none->H' r=some (.lst us)->bN prE H' us ys->ISp w s (.bits m v) ys->Q (.ref r) H'
def Zj:Sp:=fun vs H Q _=>∃(w s:Int)(t:Addr)(it:It1),vs=[.int w,.int s,.ref t]/\1<=w/\w<=40/\(s=0\/s=1)/\pQ H t it/\It1.Ok w s it /\
 ∀(r:Addr)(H':Hp)(us:List V)(ys:List (Int×Int)),Same H H'->H r=none->H' r=some (.lst us)->bN prE H' us ys->ISp w s it ys->Q (.ref r) H'
def PN:Sp:=fun vs H Q _=>∃(w s:Int)(x:V)(ok:Addr->Prop)(its:List It1),vs=[.int w,.int s,x]/\1<=w/\w<=40/\(s=0\/s=1)/\bC ok H x (lW its)/\(∀it,it∈its->It1.Ok w s it)/\its.length<=700 /\
 ∀(r:Addr)(H':Hp)(us:List V)(ys:List (Int×Int)),Same H H'->H r=none->H' r=some (.lst us)->bN prE H' us ys->CSp w s its ys->Q (.ref r) H'
theorem Uz (t:Nat):AX.Int.intBits ((2:Int)^t)=t+1:=by
 have c3:((2^t:Nat):Int)=2^t:=by rw[DC];rfl
 have p:=Me t;unfold AX.Int.intBits;rw[<- c3,if_neg (by simp;omega),Int.natAbs_natCast,Nat.log2_two_pow]
inductive rR (H:Hp):List V->List (List (Int×Int))->Prop
 | nil:rR H [] []
 | cons {p:Addr} {us vs:List V} {c:List (Int×Int)} {cs:List (List (Int×Int))}:H p=some (.lst vs)->bN prE H vs c->rR H us cs->rR H (.ref p::us) (c::cs)
theorem rR.length {H:Hp}:∀{us:List V}{cs:List (List (Int×Int))},rR H us cs->us.length=cs.length
 | _,_,.nil=>rfl
 | _,_,.cons _ _ t=>by rw[BA,BA,t.length]
theorem rR.same {H H':Hp}:∀{us:List V}{cs:List (List (Int×Int))},rR H us cs->Same H H'->rR H' us cs
 | _,_,.nil,_=>.nil
 | _,_,.cons e v t,s=>.cons (s _ _ e) (v.same s) (t.same s)
theorem rR.snoc {H:Hp}{p:Addr}{vs:List V}{c:List (Int×Int)}(e:H p=some (.lst vs))(v:bN prE H vs c):∀{us:List V}{cs:List (List (Int×Int))},rR H us cs->rR H (us++[.ref p]) (cs++[c])
 | _,_,.nil=>.cons e v .nil
 | _,_,.cons e1 v1 t=>.cons e1 v1 (t.snoc e v)
theorem rR.got {H:Hp}:∀{us:List V}{cs:List (List (Int×Int))},rR H us cs->∀{i:Nat}{u:V},us[i]?=some u->∃p vs c,u=.ref p/\cs[i]?=some c/\H p=some (.lst vs)/\bN prE H vs c
 | _,_,.nil,_,_,h=>by cases h
 | _,_,.cons (p:=p) e v t,0,_,h=>by cases h;exact⟨p,_,_,rfl,rfl,e,v⟩
 | _,_,.cons e v t,i+1,_,h=>t.got (i:=i) h
inductive j8 (w s:Int):List (List It1)->List (List (Int×Int))->Prop
 | nil:j8 w s [] []
 | cons {its:List It1} {c:List (Int×Int)} {css:List (List It1)} {cs:List (List (Int×Int))}:CSp w s its c->j8 w s css cs->j8 w s (its::css) (c::cs)
theorem j8.snoc {w s:Int}{its:List It1}{c:List (Int×Int)}(h:CSp w s its c):∀{css:List (List It1)}{cs:List (List (Int×Int))},j8 w s css cs->j8 w s (css++[its]) (cs++[c])
 | _,_,.nil=>.cons h .nil
 | _,_,.cons e t=>.cons e (t.snoc h)
theorem j8.mem {w s:Int}:∀{css:List (List It1)}{cs:List (List (Int×Int))},j8 w s css cs->∀{c},c∈cs->∃its,its∈css/\CSp w s its c
 | _,_,.nil,_,m=>by cases m
 | _,_,.cons e t,c,m=>by
  rcases BB.mp m with rfl|m
  ·exact⟨_,BE ..,e⟩
  obtain⟨its,mi,h⟩:=t.mem m;exact⟨its,A4 _ mi,h⟩
theorem j8.len {w s:Int}:∀{css:List (List It1)}{cs:List (List (Int×Int))},j8 w s css cs->cs.flatten.length<=128*(css.map CF).sum
 | _,_,.nil=>AY _
 | _,_,.cons e t=>by
  have:=t.len;have:=e.ln;simp only[JJ,AO,F9,MG];omega
theorem j8.cnt {w s n:Int}(hn:cG w s n):∀{css:List (List It1)}{cs:List (List (Int×Int))},j8 w s css cs->(cs.filter (FQ n)).length=fQ w css n
 | _,_,.nil=>rfl
 | _,_,.cons (its:=its) (c:=c) e t=>by
  have ih:=t.cnt hn;unfold fQ at ih |-;have e1:FQ n c=its.any (aZ w n):=by
   rw[D3,Uh,e.cv n hn]
  rw[DT,DT,e1];split
  ·rw[BA,BA,ih]
  exact ih
def dj (w n:Int)(css:List (List It1)):List Nat:=(css.zipIdx.filter fun x=>x.1.any (aZ w n)).map (·.2)
theorem jW {w n:Int}{css:List (List It1)}:(dj w n css).length=fQ w css n:=by
 unfold dj fQ;rw[AV];have:∀(css:List (List It1)) k,((css.zipIdx k).filter fun x=>x.1.any (aZ w n)).length=(css.filter fun its=>its.any (aZ w n)).length:=by
  intro css
  induction css with
  | nil=>intro k;rfl
  | cons c css ih=>
   intro k;rw[zipIdx_cons,DT,DT];dsimp only;split
   ·rw[BA,BA,ih]
   exact ih _
 exact this css 0
theorem Ai {w n:Int}{css:List (List It1)}{i:Nat}{its:List It1}(h:css[i]?=some its):dj w n (css.take (i+1))=dj w n (css.take i)++if its.any (aZ w n) then [i] else []:=by
 unfold dj;have l:i<css.length:=(AF.mp h).1;rw[CM,h];rw[List.zipIdx_append,Ee,DJ];congr 1;have e:(css.take i).length=i:=by rw[D4];omega
 rw[e];simp only[Option.toList,zipIdx_cons,List.zipIdx_nil,DT,filter_nil,zero_add];split <;> rfl
theorem tU {w n:Int}{css:List (List It1)}{k:Nat}:k∈dj w n css ↔ ∃its,css[k]?=some its/\its.any (aZ w n)=true:=by
 unfold dj;rw[EF];constructor
 ·rintro⟨⟨its,j⟩,h,rfl⟩;obtain⟨h1,h2⟩:=E8.mp h;exact⟨its,by simpa using List.mem_zipIdx_iff_getElem?.mp h1,h2⟩
 rintro⟨its,h1,h2⟩;exact⟨(its,k),E8.mpr ⟨List.mem_zipIdx_iff_getElem?.mpr (by simpa using h1),h2⟩,rfl⟩
def cR (w s:Int)(css:List (List It1)):Option (Nat×Nat×Int)->Prop
 | none=>∀n,cG w s n->fQ w css n<2
 | some c=>cG w s c.2.2/\(∃r,dj w c.2.2 css=c.1::c.2.1::r)/\∀k,cG w s k->k<c.2.2->fQ w css k<2
theorem cR.two {w s:Int}{css:List (List It1)}{c:Nat×Nat×Int}(h:cR w s css (some c)):2<=fQ w css c.2.2:=by
 obtain⟨_,⟨r,e⟩,_⟩:=h;rw[<- jW,e];simp
theorem cR.one {w s:Int}{css:List (List It1)}{a b:Option (Nat×Nat×Int)}(ha:cR w s css a)(hb:cR w s css b):a=b:=by
 cases a with
 | none=>
  cases b with
  | none=>rfl
  | some c=>
   have:=hb.two;have:=ha _ hb.1;omega
 | some c=>
  cases b with
  | none=>
   have:=ha.two;have:=hb _ ha.1;omega
  | some d=>
   have h1:=ha.two;have h2:=hb.two;obtain⟨a1,⟨r,a2⟩,a3⟩:=ha;obtain⟨b1,⟨r',b2⟩,b3⟩:=hb;have e:c.2.2=d.2.2:=by
    rcases Int.lt_trichotomy c.2.2 d.2.2 with q|q|q
    ·have:=b3 _ a1 q;omega
    ·exact q
    have:=a3 _ b1 q;omega
   rw[e,b2] at a2;injection a2 with e1 a2;injection a2 with e2 a2;obtain⟨i,j,n⟩:=c;obtain⟨i',j',n'⟩:=d;dsimp only at e e1 e2;rw[e,e1,e2]
def clD:Option (Nat×Nat×Int)->A7
 | none=>.none
 | some c=>.tuple [.int (c.1:Int),.int (c.2.1:Int),.int c.2.2]
theorem Jm {w s:Int}{css:List (List It1)}{cs:List (List (Int×Int))}{zs:List (Int×Int)}(h:j8 w s css cs)(hp:zs.Perm cs.flatten)(e:cH none zs=none):cR w s css none:=by
 intro n hn;have hg:∀c,c∈cs->Gap c:=fun c m=>by
  obtain⟨_,_,k⟩:=h.mem m;exact k.gap
 have k:∀y,y∈zs->y.1<=y.2:=fun y m=>by
  obtain⟨c,mc,my⟩:=mem_flatten.mp (hp.mem_iff.mp m);exact(hg c mc).ne y my
 have:=Ip k e n;rw[oY hg hp,h.cnt hn] at this;omega
theorem Jl {w s m:Int}{css:List (List It1)}{cs:List (List (Int×Int))}{zs:List (Int×Int)}(h:j8 w s css cs)(hp:zs.Perm cs.flatten)(hu:zs.Pairwise fun a b=>a.1<=b.1)(e:cH none zs=some m) :
  ∃i j,cR w s css (some (i,j,m))/\∃r,dj w m css=i::j::r:=by
 have hg:∀c,c∈cs->Gap c:=fun c m=>by
  obtain⟨_,_,k⟩:=h.mem m;exact k.gap
 have k:∀y,y∈zs->y.1<=y.2:=fun y m=>by
  obtain⟨c,mc,my⟩:=mem_flatten.mp (hp.mem_iff.mp m);exact(hg c mc).ne y my
 obtain⟨t,ht⟩:=Cv k hu e;have hm:cG w s m:=by
  obtain⟨i,j,a,b,_,hi,_,a1,a2,_⟩:=t;obtain⟨c,mc,my⟩:=mem_flatten.mp (hp.mem_iff.mp (BF hi));obtain⟨_,_,k⟩:=h.mem mc;exact k.ins.kind ⟨a,my,a1,a2⟩
 have h2:=(oY hg hp m).mp t;rw[h.cnt hm,<- jW] at h2;obtain⟨i,j,r,el⟩:∃i j r,dj w m css=i::j::r:=by
  cases hx:dj w m css with
  | nil=>rw[hx] at h2;simp at h2
  | cons i y=>
   cases y with
   | nil=>rw[hx] at h2;simp at h2
   | cons j r=>exact⟨i,j,r,rfl⟩
 refine⟨i,j,⟨hm,⟨r,el⟩,fun k hk hlt=>?_⟩,r,el⟩;rcases C5 (fQ w css k) 2 with q|q
 ·exact q
 have:=ht k ((oY hg hp k).mpr (by rw[h.cnt hk];exact q));exact absurd hlt (by show ¬k<m;omega)
def bdr (w s:Int)(b:Int):It1->Prop
 | .one a=>b=a\/b=a+1
 | .rng a c=>b=a\/b=c+1
 | .bits m v=>v &&& m=v/\∃t x,m.testBit t=true/\(∀i,i<t->m.testBit i=false)/\x∈bh m v t (w.toNat-(t+1))/\(b=nOf w.toNat s x\/b=nOf w.toNat s x+2^t)
def pU (w s:Int)(css:List (List It1))(b:Int):Prop:=cG w s b/\(w<9\/b=wl w s\/∃its,its∈css/\∃it,it∈its/\bdr w s b it)
theorem YQ {w s b:Int}{it:It1}(h1:1<=w)(hs:s=0\/s=1)(hok:It1.Ok w s it)(h:bdr w s b it):wl w s<=b:=by
 cases it with
 | one a=>
  obtain⟨k,_⟩:=hok;rcases h with rfl|rfl <;> omega
 | rng a c=>
  obtain⟨⟨k,_⟩,⟨k2,_⟩,_⟩:=hok;rcases h with rfl|rfl <;> omega
 | bits m v=>
  obtain⟨hv,t,x,ht,hl,hx,h⟩:=h;obtain⟨f1,f2,f3⟩:=lZ hv hok.1 ht hl hx;have:=RT (sg:=s) ω f1 f2 f3;rw[Fp h1 hs] at this;have p:=two_pow_pos t;rcases h with rfl|rfl <;> omega
theorem UW {w s n:Int}{it:It1}(h:abF w.toNat s n it):bdr w s n it:=by
 cases it with
 | one a=>exact .inl h
 | rng a c=>exact .inl h
 | bits m v=>
  obtain⟨hv,t,x,ht,hl,hx,h⟩:=h;exact⟨hv,t,x,ht,hl,hx,.inl h⟩
theorem Nh {p:Int->Prop}{lo n:Int}(h0:lo<=n)(h:p n):∃m,lo<=m/\m<=n/\p m/\∀k,lo<=k->k<m->¬p k:=by
 obtain⟨d,hd⟩:∃d:Nat,n=lo+d:=⟨(n-lo).toNat,ω⟩
 induction d using Nat.strongRecOn generalizing n with
 | ind d ih=>
  by_cases c:∃k,lo<=k/\k<n/\p k
  ·obtain⟨k,k1,k2,k3⟩:=c;obtain⟨m,m1,m2,m3,m4⟩:=ih (k-lo).toNat ω k1 k3 ω;exact⟨m,m1,ω,m3,m4⟩
  exact⟨n,h0,DE _,h,fun k k1 k2 k3=>c ⟨k,k1,k2,k3⟩⟩
theorem qO {w s n:Int}{css:List (List It1)}(h1:1<=w)(hs:s=0\/s=1)(hok:∀its,its∈css->∀it,it∈its->It1.Ok w s it)(hn:cG w s n)(h:2<=fQ w css n):∃b,pU w s css b/\b<=n/\2<=fQ w css b:=by
 obtain⟨m,m1,m2,m3,m4⟩:=Nh (p:=fun k=>2<=fQ w css k) hn.1 h;have hk:cG w s m:=⟨m1,by have:=hn.2;omega⟩;refine⟨m,⟨hk,?_⟩,m2,m3⟩;have e:=Fp h1 hs;have ew:((w.toNat:Nat):Int)=w:=ω;refine .inr (Cu (W:=w.toNat) (sg:=s) (css:=css) (B:=fun b=>b=wl w s\/∃its,its∈css/\∃it,it∈its/\bdr w s b it) ω (fun its mi it mt=>?_) (.inl e) (fun its mi it mt n hb=>.inr ⟨its,mi,it,mt,UW hb⟩) (by rw[e];exact m1) (by rw[e];exact hk.2) (by rw[ew];exact m3) fun k k1 k2=>?_)
 ·have:=hok its mi it mt;cases it with
  | bits a b=>exact this.1
  | _=>trivial
 rw[e] at k1;rw[ew];exact m4 k k1 k2
theorem Sv {ah:Option Int}{z:Int×Int}{zs:List (Int×Int)}(h:¬ ∃a,ah=some a/\z.1<=a):cH ah (z::zs)=cH (some z.2) zs:=by
 conv=>lhs;unfold cH
 rw[if_neg h]
theorem Xo {a:Int}{z:Int×Int}{zs:List (Int×Int)}(h:z.1<=a):cH (some a) (z::zs)=some z.1:=by
 unfold cH;rw[if_pos ⟨a,rfl,h⟩]
theorem Xp (ah:Option Int):cH ah []=none:=by
 unfold cH;rfl
def oV:Option Int->V
 | none=>.non
 | some n=>.int n
def Zi:Sp:=fun vs H Q _=>∃(l:Addr)(us:List V)(cs:List (List (Int×Int))),vs=[.ref l]/\H l=some (.lst us)/\rR H us cs/\(∀y,y∈cs.flatten->y.1<=y.2/\-1267650600228229401496703205376<y.2/\y.2<1267650600228229401496703205376)/\cs.flatten.length<=100000 /\
 ∀(H':Hp)(zs:List (Int×Int)),Same H H'->zs.Perm cs.flatten->zs.Pairwise (fun a b=>a.1<=b.1)->Q (oV (cH none zs)) H'
def JR:Sp:=fun vs H Q _=>∃(x:V)(w s:Int)(ok:Addr->Prop)(css:List (List It1)),vs=[x]/\1<=w/\w<=40/\(s=0\/s=1)/\bC ok H x (qm w s css)/\(∀its,its∈css->∀it,it∈its->It1.Ok w s it)/\(css.map CF).sum<=110 /\
 ∀(y:V)(H':Hp)(c:Option (Nat×Nat×Int)),Same H H'->cR w s css c->bC (fun a=>H a=none) H' y (clD c)->Q y H'
def Zm:Sp:=fun vs H Q _=>∃(w s:Int)(m v:Nat),vs=[.int w,.int s,.int m,.int v]/\9<=w/\w<=40/\(s=0\/s=1)/\m<2^w.toNat/\v<2^w.toNat/\(frees w.toNat m).length<=4 /\
 ∀(p:Addr) H' (ns:List Int),H' p=some (.lst (ns.map V.int))->ns.length<=32->(∀b,b∈ns↔bdr w s b (.bits m v))->Same H H'->Q (.ref p) H'
def JT:Sp:=fun vs H Q _=>∃(x:V)(w s:Int)(ok:Addr->Prop)(css:List (List It1)),vs=[x]/\1<=w/\w<=40/\(s=0\/s=1)/\bC ok H x (qm w s css)/\(∀its,its∈css->∀it,it∈its->It1.Ok w s it)/\(css.map CF).sum<=110 /\
 ∀(p:Addr) H' (ns:List Int),Same H H'->H' p=some (.lst (ns.map V.int))->ns.length<=4000->ns.Pairwise (· < ·)->(∀b,b∈ns↔pU w s css b)->Q (.ref p) H'
def Calm (w s:Int)(css:List (List It1)):Prop:=∀b,pU w s css b->fQ w css b<2
theorem Calm.none {w s:Int}{css:List (List It1)}(h1:1<=w)(hs:s=0\/s=1)(hok:∀its,its∈css->∀it,it∈its->It1.Ok w s it)(h:Calm w s css){c:Option (Nat×Nat×Int)}(hc:cR w s css c):c=none:=by
 cases c with
 | none=>rfl
 | some c=>
  obtain⟨b,hb,_,h2⟩:=qO h1 hs hok hc.1 hc.two;have:=h b hb;omega
theorem rA:∀{css:List (List It1)}{its:List It1},its∈css->its.length<=(css.map CF).sum
 | c::css,its,m=>by
  simp only[F9,MG];rcases BB.mp m with rfl|m
  ·omega
  have:=rA m;omega
theorem Xm {w s:Int}{p:Nat}(h1:1<=w)(hs:s=1)(hp:p<2^w.toNat):(p:Int)-2^w.toNat*(if (p:Int)/2^(w-1).toNat=1 then 1 else 0)=nOf w.toNat s p:=by
 have e:=lR h1;have p0:=two_pow_pos (w-1).toNat;have e2:w.toNat-1=(w-1).toNat:=ω;have c1:((2^w.toNat:Nat):Int)=2^w.toNat:=by rw[DC];rfl
 have c2:((2^(w-1).toNat:Nat):Int)=2^(w-1).toNat:=by rw[DC];rfl
 unfold nOf;rw[e2];have hd:(p:Int)/2^(w-1).toNat=1↔2^(w-1).toNat<=p:=by
  have h:=Int.mul_ediv_add_emod (p:Int) (2^(w-1).toNat);have h3:=E4 (p:Int) (show(2:Int)^(w-1).toNat≠0 by omega);have h4:=EA (p:Int) p0;have hq:(p:Int)/2^(w-1).toNat<2:=Int.ediv_lt_of_lt_mul p0 ω;have hq0:0<=(p:Int)/2^(w-1).toNat:=Int.ediv_nonneg ω ω;constructor
  ·intro z;rw[z] at h;omega
  intro z;rcases L0 ((p:Int)/2^(w-1).toNat) 1 with c|c
  ·have:(p:Int)/2^(w-1).toNat=0:=by omega
   rw[this] at h;omega
  omega
 by_cases c:2^(w-1).toNat<=p
 ·rw[if_pos (hd.mpr c),if_pos ⟨ω,c⟩,My]
 rw[if_neg (fun z=>c (hd.mp z)),if_neg (fun z=>c z.2),mul_zero,sub_zero]
theorem RQ {w s:Int}{p:Nat}(hs:s=0):(p:Int)-2^w.toNat*0=nOf w.toNat s p:=by
 unfold nOf;rw[if_neg (by rw[hs];simp),mul_zero,sub_zero]
theorem Lp {fs:List Nat}{i j p:Nat}(h:fs[i]?=some p):jE (fs.take (i+1)) j=jE (fs.take i) j+if j.testBit i then 2^p else 0:=by
 have l:i<fs.length:=(AF.mp h).1;rw[CM,h];show jE (fs.take i++[p]) j=_;rw[pX,show(fs.take i).length=i by rw[D4];omega]
theorem Fo {m t t':Nat}(ht:m.testBit t=true)(hl:∀i,i<t->m.testBit i=false)(ht':m.testBit t'=true)(hl':∀i,i<t'->m.testBit i=false):t=t':=by
 rcases Nat.lt_trichotomy t t' with c|c|c
 ·rw[hl' t c] at ht;cases ht
 ·exact c
 rw[hl t' c] at ht';cases ht'
theorem Gp {W m v t j:Nat}(hm:m<2^W)(hv:v &&& m=v)(ht:m.testBit t=true)(hl:∀i,i<t->m.testBit i=false)(hj:j<2^(frees W m).length):v+jE (frees W m) j∈bh m v t (W-(t+1)):=by
 have tW:t<W:=by
  rcases C5 t W with c|c
  ·exact c
  rw[Cn (AN hm (B6 δ c))] at ht;cases ht
 rw[yt ht hl tW] at hj |-;exact gh.mpr ⟨j,hj,rfl⟩
theorem abH {w s:Int}{m v t:Nat}{ns:List Int}(hm:m<2^w.toNat)(hv:v &&& m=v)(ht:m.testBit t=true)(hl:∀i,i<t->m.testBit i=false)
  (h:∀b,b∈ns ↔ ∃j,j<2^(frees w.toNat m).length/\(b=nOf w.toNat s (v+jE (frees w.toNat m) j)\/b=nOf w.toNat s (v+jE (frees w.toNat m) j)+2^t)) (b:Int):b∈ns↔bdr w s b (.bits m v):=by
 have tW:t<w.toNat:=by
  rcases C5 t w.toNat with c|c
  ·exact c
  rw[Cn (AN hm (B6 δ c))] at ht;cases ht
 rw[h];constructor
 ·rintro⟨j,hj,hb⟩;exact⟨hv,t,_,ht,hl,Gp hm hv ht hl hj,hb⟩
 rintro⟨_,t',x,ht',hl',hx,hb⟩;have e:=Fo ht hl ht' hl';subst e;obtain⟨j,hj,rfl⟩:=gh.mp hx;rw[<- yt ht hl tW] at hj hb;exact⟨j,hj,hb⟩
theorem YX {w s b:Int}{m v:Nat}(h:m=0\/v &&& m≠v):b∈([]:List Int)↔bdr w s b (.bits m v):=by
 constructor
 ·intro z;cases z
 rintro⟨hv,t,x,ht,_⟩;rcases h with rfl|h
 ·rw[Nat.zero_testBit] at ht;cases ht
 exact absurd hv h
theorem YW {ns:List Int}{i:Nat}{a b:Int}{A B:Nat->Int}(h:∀n,n∈ns ↔ ∃j,j<i/\(n=A j\/n=B j))(ha:a=A i)(hb:b=B i)(n:Int):n∈ns++[a,b] ↔ ∃j,j<i+1/\(n=A j\/n=B j):=by
 rw[A6,h];simp only[BB,Cs,or_false];constructor
 ·rintro(⟨j,hj,q⟩|q)
  ·exact⟨j,ω,q⟩
  exact⟨i,ω,by rw[<- ha,<- hb];exact q⟩
 rintro⟨j,hj,q⟩;rcases C5 j i with c|c
 ·exact .inl ⟨j,c,q⟩
 have:j=i:=by omega
 subst this;rw[<- ha,<- hb] at q;exact .inr q
def BIn (w s:Int)(css:List (List It1))(b:Int):Prop:=b=wl w s\/∃its,its∈css/\∃it,it∈its/\bdr w s b it
theorem Oi {w s:Int}(b:Int):b∈[wl w s]↔BIn w s [] b:=by
 rw[AK];constructor
 ·exact fun h=>.inl h
 rintro(h|⟨its,m,_⟩)
 ·exact h
 cases m
theorem Gk {w s:Int}{its:List It1}{it:It1}{j:Nat}{ns nB:List Int}{A:Int->Prop}(h:∀b,b∈ns↔A b\/∃it,it∈its.take j/\bdr w s b it)(hi:its[j]?=some it)(hB:∀b,b∈nB↔bdr w s b it)(b:Int) :
  b∈ns++nB↔A b\/∃it,it∈its.take (j+1)/\bdr w s b it:=by
 rw[A6,h,hB,CM,hi];constructor
 ·rintro((q|⟨x,m,q⟩)|q)
  ·exact .inl q
  ·exact .inr ⟨x,Cc _ m,q⟩
  exact .inr ⟨it,AQ _ (by simp),q⟩
 rintro(q|⟨x,m,q⟩)
 ·exact .inl (.inl q)
 rcases A6.mp m with m|m
 ·exact .inl (.inr ⟨x,m,q⟩)
 simp at m;subst m;exact .inr q
theorem UJ {w s:Int}{css:List (List It1)}{its:List It1}{i n:Nat}{ns:List Int}(h:∀b,b∈ns↔BIn w s (css.take i) b\/∃it,it∈its.take n/\bdr w s b it)(hi:css[i]?=some its)(hn:n=its.length)(b:Int):b∈ns↔BIn w s (css.take (i+1)) b:=by
 subst hn;rw[DD] at h;rw[h,CM,hi];unfold BIn;constructor
 ·rintro((q|⟨x,m,q⟩)|⟨it,m,q⟩)
  ·exact .inl q
  ·exact .inr ⟨x,Cc _ m,q⟩
  exact .inr ⟨its,AQ _ (by simp),it,m,q⟩
 rintro(q|⟨x,m,it,m2,q⟩)
 ·exact .inl (.inl q)
 rcases A6.mp m with m|m
 ·exact .inl (.inr ⟨x,m,it,m2,q⟩)
 simp at m;subst m;exact .inr ⟨it,m2,q⟩
theorem UG {w s:Int}{its:List It1}{ns:List Int}{A:Int->Prop}(h:∀b,b∈ns↔A b)(b:Int):b∈ns↔A b\/∃it,it∈its.take 0/\bdr w s b it:=by
 rw[h];simp
theorem JD {a c b:Int}:b∈[a,c]↔b=a\/b=c:=by simp
theorem Z2 {lo:Int}{n:Nat}:((BS n).map fun k=>lo+((k:Nat):Int)).Pairwise (· < ·):=by
 refine GN.mpr (Ll.imp fun {a b} h=>?_);show lo+(a:Int)<lo+(b:Int);omega
theorem VR {w s:Int}{css:List (List It1)}(h9:w<9)(b:Int):b∈((BS (wl w s+2^w.toNat-wl w s).toNat).map fun k=>wl w s+((k:Nat):Int))↔pU w s css b:=by
 have p:=two_pow_pos w.toNat;rw[EF];constructor
 ·rintro⟨k,m,rfl⟩;have:=DL.mp m;exact⟨⟨ω,ω⟩,.inl h9⟩
 rintro⟨⟨h1,h2⟩,_⟩;exact⟨(b-wl w s).toNat,DL.mpr ω,ω⟩
theorem Ur {w s:Int}{css:List (List It1)}{ns ys:List Int}(h1:1<=w)(h9:¬w<9)(hs:s=0\/s=1)(hok:∀its,its∈css->∀it,it∈its->It1.Ok w s it)(h:∀b,b∈ns↔BIn w s css b)
  (hp:ys.Perm (SRT.ded (ns.filter fun b=>decide (b<wl w s+2^w.toNat)))) (b:Int):b∈ys↔pU w s css b:=by
 rw[hp.mem_iff,SRT.Yu,E8,h];have p:=two_pow_pos w.toNat;unfold pU BIn;rw[decide_eq_true_iff];constructor
 ·rintro⟨q,hb⟩;refine⟨⟨?_,hb⟩,.inr q⟩;rcases q with rfl|⟨its,m,it,mi,q⟩
  ·exact DE _
  exact YQ h1 hs (hok its m it mi) q
 rintro⟨⟨_,hb⟩,q⟩;exact⟨q.resolve_left h9,hb⟩
open PySem.W (Frag clsIn findIn takerIn InstAt looks_clsIn looks_findIn looks_takesIn Looks check_slot looks_mroIn mroIn set_plain osa_eq)
open Builtin Builtin.ObjectAttr
section
variable {prog:AW}{w:BC}{A:A3}{E:Ap->AA->Prop}{K:Frag}{h:Heap}{g:Array HI}{d:Drawn}{t:Nat}{os:OsState}{x C D dx:Addr}{cd:ClassData}{name:Str}{v:Ap}{o:Obj}{vs:Array Ap}{m:Str->Option Ap}{ns:List Str}
theorem ZX {Q:Unit->AA->Prop}(X:K.In h) (hc:clsIn K C=some cd) (hmro:cd.mro=.ref C :: .ref D::vbm) (hhd:cd.hasDict=true) (hset:IA K (.ref C) "__setattr__" = some (some (.builtin "object.__setattr__"))) (hno:IA K (.ref C) name=some none)
  (hx:h.get? x=some o) (hcl:o.cls=.ref C) (hdn:o.dict=some dx) (hda:o.data=.fields vs) (hns:h.Ns1 dx m) (hw:L4 m ns) (hl:ns.length<100)
  (hq:∀(h':Heap)(tk':Nat),h'.Ns1 dx (fun y=>if y=name then some v else m y)->C3 dx h h'->Q () ⟨h',g,d,tk',os⟩) :
  AE (AH prog w) A (setAttr (.ref x) name v) Q E ⟨h,g,d,t,os⟩:=by
 obtain⟨oD,esD,epD,hD1,hD2,hD3⟩:=hns;have hns:h.Ns1 dx m:=⟨oD,esD,epD,hD1,hD2,hD3⟩;have I:∀tk:Nat,PySem.W.InstAt (⟨h,g,d,tk,os⟩:AA).heap x o C (some oD):=fun _=>⟨hx,hcl,by obtain⟨_,_,dt,_⟩:=o;cases hda;rfl,by rw[hdn];exact hD1⟩;refine set_plain X (I t) hset ?_;have SF:=PySem.F.store_object;have ne:cd.mro.isEmpty=false:=by rw[hmro];rfl
 have sub:D8 (AH prog w) h (KF (.ref x) (.type "object")) true:=(I t).type.andThen (HE X (by unfold mroIn;rw[hc,bind_some,if_neg (by rw[ne];decide),hmro];rfl));refine E6 SF.slot.plain SF.entry (@IB (AH prog w) _ _ ⟨h,g,d,t+1,os⟩ "object.__setattr__" "object" "__setattr__" (.ref x) [.str name t,v] [] _ SF.kind SF.split sub (SF.args (.ref x) (.str name t) v) ?_);have hm:D8 (AH prog w) h (mroOf (.ref C)) cd.mro:=(GA X hc).andThen .now;have IT:D8 (AH prog w) h (typeOf (.ref x)) (.ref C):=(I t).type;have LF:D8 (AH prog w) h (He (.ref C) name) none:=Ev X hno;rw[osa_eq,refuse_eq];refine An (An (IT.here (An (hm.here ?_))));rw[hmro,Rq];refine Au (An (IT.here (An (LF.here (An (Au ?_))))));dsimp only;have LC:D8 (AH prog w) h (classData C) cd:=GA X hc;obtain⟨oc,odi,oda,osl⟩:=o;dsimp only at hcl hdn hda;subst hcl hdn hda;refine An (Au (An ?_));show AE _ _ (Kb x true) _ _ _;unfold Kb;refine An (KI hx (An (LC.here ?_)));rw[hhd];rw[if_neg δ];dsimp only;refine Au ?_;show AE _ _ (storeInDict dx (.str name t) name v) _ _ _;unfold storeInDict newKeyGuard;refine An (Au (An (wpAny_nsSet1 hns fun h' hn' hs=>?_)));have hw':L4 (fun y=>if y=name then some v else m y) (name::ns):=fun y hy=>by
  by_cases c:y=name
  ·rw[c];exact BE ..
  replace hy:(if y=name then some v else m y)≠none:=hy;rw[if_neg c] at hy;exact A4 _ (hw y hy)
 obtain⟨oD',esD',epD',hoD',hdD',hcD'⟩:=hn'.count hw';refine An (wpAny_lookBehind hoD' (by rw[hdD'];exact pastItsLine_dict (BN hcD' (by rw[BA,E3];omega))) ?_);exact Au (hq h' _ hn' hs)
end
section
variable {X:Cx}{C D N fI:Addr}{f:Str}{o value:Expr}{pos pos':Pos}{ta tv:TE}
def Qj (K:AC)(C:Addr)(ta tv:TE)(f:Str):TS:=fun D σ H=>tv σ H fun y H1=>ta σ H1 fun x H2=>∃a dx fs,x=.ref a/\H2 a=some (XO a C (some dx))/\H2 dx=some (.xd fs)/\fs.length<90/\B5 K (.ref C) f=some none/\fs.lookup f=none /\
 D.nx σ (upd H2 dx (.xd (fs++[(f,y)])))
theorem Mf {f:Str}{y:V}{u:Ap}{fs:List (Str×V)}{m:Str->Option Ap}(r:RelV y u)(hn:fs.lookup f=none)(hm:∀g,Dl (fs.lookup g) (m g))(f':Str):Dl ((fs++[(f,y)]).lookup f') (if f'=f then some u else m f'):=by
 rw[List.lookup_append];by_cases h:f'=f
 ·subst h;rw[if_pos rfl,hn,Option.none_or];have:=Eg (f:=f') r f';rw[if_pos rfl] at this;exact this
 rw[if_neg h];have e:([(f,y)]:List (Str×V)).lookup f'=none:=by
  unfold GB;rw[show(f' == f)=false from beq_eq_false_iff_ne.mpr h];rfl
 rw[e,Option.or_none];exact hm f'
theorem Hl {fs:List (Str×V)}{m:Str->Option Ap}(hm:∀g,Dl (fs.lookup g) (m g)):L4 m (fs.map (·.1)):=fun y hy=>by
 have:=hm y;cases e:fs.lookup y with
 | none=>
  rw[e] at this;cases e2:m y with
  | none=>exact absurd e2 hy
  | some u=>rw[e2] at this;exact this.elim
 | some z=>
  obtain⟨⟨k,v⟩,hm1,hm2⟩:∃kv,kv∈fs/\kv.1=y:=by
   clear hm this hy
   induction fs with
   | nil=>cases e
   | cons kv fs ih=>
    unfold GB at e;split at e
    ·rename_i c;exact⟨kv,BE ..,(by simpa using c:y=kv.1).symm⟩
    obtain⟨kv',m1,m2⟩:=ih e;exact⟨kv',A4 _ m1,m2⟩
  exact EF.mpr ⟨_,hm1,hm2⟩
theorem Ww (XC:nM X.K C D N fI)(ha:PE X o ta)(hv:PE X value tv)(hs:Ix value (some (.Attribute o f pos')) pos.line X.env=pure false):PS X (.Assign [.Attribute o f pos'] value pos) (Qj X.K C ta tv f):=by
 intro pins s σ H Dn I h;refine plainObj_wpAny_Assign_Attribute (thE (hv pins s σ H _ I h) fun u s1 y H1 I1 ry q=>thn (ha pins s1 σ H1 _ I1 q) fun ov s2 ⟨x,H2,I2,rx,a,dx,fs,ex,ea,ed,hl,hno,hnf,q2⟩=>?_) hs;subst ex;obtain rfl:ov=Ap.ref a:=rx;obtain⟨cd,c1,c2,c3⟩:=XC.cls;obtain⟨t0,ht0⟩:=(show ∃t,_ from((I2.hok a _ ea).1));obtain⟨mA,hn,hm⟩:=(show ∃mA,_ from I2.hok dx _ ed);obtain⟨hp,g,d,tk,os⟩:=s2;refine ZX I2.kIn c1 c2 c3 XC.set hno ht0 rfl rfl rfl hn (Hl hm) (by rw[AV];omega) fun h' tk' g1 g2=>?_;have he:∃q,h'.get? dx=some q:=by
  obtain⟨o',_,_,z,_⟩:=g1;exact⟨o',z⟩
 have oth:∀b u,H2 b=some u->u≠.xd fs->upd H2 dx (.xd (fs++[(f,y)])) b=some u:=fun b u e ne=>by
  rw[aF (fun z=>ne (by rw[z,ed] at e;exact(B7 e).symm)),e]
 refine⟨σ,_,I2.un (h':=h') (t':=tk') ?_ ?_,q2⟩
 ·refine⟨fun b ob e n _ _=>?_,fun b ob e n _ _=>⟨ob.slots,?_⟩,fun b ob e n _=>?_,fun b ob e _=>?_,fun b xs e=>oth b _ e (fun z=>nomatch z),fun b ob u e=>oth b _ e (fun z=>nomatch z),fun b ps e=>⟨#[],by rw[append_empty];exact oth b _ e (fun z=>nomatch z)⟩⟩
  ·exact(g2.2 b (fun z=>by rw[z,ed] at n;cases n)).trans e
  ·exact(g2.2 b (fun z=>by rw[z,ed] at n;cases n)).trans e
  ·rw[aF (fun z=>by rw[z,ed] at n;cases n),n]
  by_cases z:b=dx
  ·rw[z];exact he
  exact⟨_,(g2.2 b z).trans e⟩
 intro c u e;by_cases z:c=dx
 ·subst z;rw[aB] at e;cases e;exact⟨_,g1,Mf ry hnf hm⟩
 rw[aF z] at e;refine(I2.hok c u e).stay (fun b ob hb eb=>(g2.2 b (fun zz=>?_)).trans eb) (fun b hb=>oth b _ hb (fun z=>nomatch z)) fun b xs hb=>oth b _ hb (fun z=>nomatch z);rcases hb with hb|hb
 ·exact z (hb.symm.trans zz)
 rw[zz,ed] at hb;cases hb
theorem J4 (XC:nM X.K C D N fI)(ha:QE X o ta)(hv:QE X value tv)(hs:Ix value (some (.Attribute o f pos')) pos.line X.env=pure false:=by rfl):QS X (.Assign [.Attribute o f pos'] value pos) (Qj X.K C ta tv f):=⟨Ww XC ha.h hv.h hs⟩
end
open Classical in
noncomputable def deadB (w s:Int)(css:List (List It1))(k:Nat):Bool:=decide (∀n,cG w s n->xX w n css≠k)
structure TSp (w s:Int)(css:List (List It1))(ys:List (Int×Int)):Prop where
 gap:Gap ys
 ins:Oj w s ys
 cv:∀n,cG w s n->(cov ys n ↔ ∃its,its∈css/\its.any (aZ w n)=true)
 ln:ys.length<=128*(css.map CF).sum
inductive Cvr (L:Int->Int)(lo:Int):Int->List (Int×Int×Int)->Prop
 | nil:Cvr L lo lo []
 | snoc {cur:Int} {ss:List (Int×Int×Int)} {x:Int×Int×Int}:Cvr L lo cur ss->x.1=cur->x.1<=x.2.1->(∀n,x.1<=n->n<=x.2.1->L n=x.2.2)->(∀y,ss.getLast?=some y->y.2.2≠x.2.2)->Cvr L lo (x.2.1+1) (ss++[x])
theorem Cvr.le {L:Int->Int}{lo cur:Int}{ss:List (Int×Int×Int)}(h:Cvr L lo cur ss):lo<=cur:=by
 induction h with
 | nil=>exact DE _
 | snoc _ e l _ _ ih=>omega
theorem Cvr.last {L:Int->Int}{lo cur:Int}{ss:List (Int×Int×Int)}{y:Int×Int×Int}(h:Cvr L lo cur ss)(hy:ss.getLast?=some y):y.2.1+1=cur/\y.1<=y.2.1/\lo<=y.1/\∀n,y.1<=n->n<=y.2.1->L n=y.2.2:=by
 cases h with
 | nil=>cases hy
 | snoc h e l q _=>
  rw[MR] at hy;cases hy;have:=h.le;exact⟨rfl,l,ω,q⟩
theorem Cvr.len {L:Int->Int}{lo cur:Int}{ss:List (Int×Int×Int)}(h:Cvr L lo cur ss):ss=[]\/lo<cur:=by
 cases h with
 | nil=>exact .inl rfl
 | snoc h e l _ _=>
  have:=h.le;exact .inr ω
structure StrOk (ss:List (Int×Int×Int)):Prop where
 ne:∀x,x∈ss->x.1<=x.2.1/\0<=x.2.2
 nb:∀(i:Nat) a b,ss[i]?=some a->ss[i+1]?=some b->b.1=a.2.1+1/\b.2.2≠a.2.2
structure Tkn (w s:Int)(css:List (List It1))(k:Nat)(zs:List (Int×Int×Int)):Prop where
 own:∀z,z∈zs->wl w s<=z.1/\z.1<=z.2.1/\z.2.1<wl w s+2^w.toNat/\∃(j:Nat)(its:List It1),j<k/\css[j]?=some its/\z.2.2=(j:Int)/\∀n,z.1<=n->n<=z.2.1->its.any (aZ w n)=true
 all:∀n (j:Nat) its,cG w s n->j<k->css[j]?=some its->its.any (aZ w n)=true->∃z,z∈zs/\z.2.2=(j:Int)/\z.1<=n/\n<=z.2.1
 pw:zs.Pairwise fun a b=>a.2.2=b.2.2->a.2.1+1<b.1\/b.2.1+1<a.1
 ln:zs.length<=128*((css.take k).map CF).sum
theorem Tkn.nil {w s:Int}{css:List (List It1)}:Tkn w s css 0 []:=⟨fun z m=>(by cases m),fun n j its _ hj=>absurd hj ω,.nil,D2 _⟩
theorem Tkn.more {w s:Int}{css:List (List It1)}{k:Nat}{zs:List (Int×Int×Int)}{its:List It1}{c:List (Int×Int)}(h:Tkn w s css k zs)(hk:css[k]?=some its)(hc:CSp w s its c):Tkn w s css (k+1) (zs++c.map fun y=>(y.1,y.2,(k:Int))):=by
 refine⟨fun z m=>?_,fun n j its' hn hj hi hp=>?_,?_,?_⟩
 ·rcases A6.mp m with m|m
  ·obtain⟨a,b,d,j,its',hj,r⟩:=h.own z m;exact⟨a,b,d,j,its',ω,r⟩
  obtain⟨y,my,rfl⟩:=EF.mp m;obtain⟨a,b,d⟩:=hc.ins y my;exact⟨a,b,d,k,its,ω,hk,rfl,fun n n1 n2=>(hc.cv n (hc.ins.kind ⟨y,my,n1,n2⟩)).mp ⟨y,my,n1,n2⟩⟩
 ·rcases C5 j k with q|q
  ·obtain⟨z,m,r⟩:=h.all n j its' hn q hi hp;exact⟨z,Cc _ m,r⟩
  have e:j=k:=ω;subst e;rw[hk] at hi;cases hi;obtain⟨y,my,y1,y2⟩:=(hc.cv n hn).mpr hp;exact⟨(y.1,y.2,(j:Int)),AQ _ (EF.mpr ⟨y,my,rfl⟩),rfl,y1,y2⟩
 ·refine BQ.mpr ⟨h.pw,GN.mpr (hc.gap.up.imp fun {a b} q _=>.inl q),fun a ma b mb e=>?_⟩;obtain⟨_,_,_,j,its',hj,_,ej,_⟩:=h.own a ma;obtain⟨y,my,rfl⟩:=EF.mp mb;exfalso;replace e:a.2.2=(k:Int):=e;omega
 have:=h.ln;have:=hc.ln;rw[AO,AV,CM,hk,DJ,sum_append];show _<=128*(_+(([its]:List (List It1)).map CF).sum);simp only[F9,map_nil,MG,List.sum_nil];omega
theorem GF {w n:Int}{css:List (List It1)}{i j:Nat}{a b:List It1}(hne:i≠j)(ha:css[i]?=some a)(hb:css[j]?=some b)(pa:a.any (aZ w n)=true)(pb:b.any (aZ w n)=true):2<=fQ w css n:=by
 have mi:i∈dj w n css:=tU.mpr ⟨a,ha,pa⟩;have mj:j∈dj w n css:=tU.mpr ⟨b,hb,pb⟩;rw[<- jW];cases e:dj w n css with
 | nil=>rw[e] at mi;cases mi
 | cons x l=>
  cases l with
  | nil=>
   rw[e] at mi mj;rw[AK.mp mi,AK.mp mj] at hne;exact absurd rfl hne
  | cons y l=>simp
theorem Tkn.dis {w s:Int}{css:List (List It1)}{k:Nat}{zs:List (Int×Int×Int)}(h:Tkn w s css k zs)(hc:cR w s css none):zs.Pairwise fun a b=>(a.2.1<b.1\/b.2.1<a.1)/\(a.2.2=b.2.2->a.2.1+1<b.1\/b.2.1+1<a.1):=by
 refine h.pw.imp_of_mem fun {a b} ma mb q=>⟨?_,q⟩;obtain⟨a1,a2,a3,i,ia,hi,ha,ea,pa⟩:=h.own a ma;obtain⟨b1,b2,b3,j,ib,hj,hb,eb,pb⟩:=h.own b mb;by_cases e:i=j
 ·have:=q (by rw[ea,eb,e]);omega
 rcases L0 a.2.1 b.1 with c|c
 ·exact .inl c
 rcases L0 b.2.1 a.1 with c2|c2
 ·exact .inr c2
 exfalso;rcases Int.le_total a.1 b.1 with d|d
 ·have:=hc b.1 ⟨b1,ω⟩;have:=GF e ha hb (pa b.1 d c) (pb b.1 (DE _) b2);omega
 have:=hc a.1 ⟨a1,ω⟩;have:=GF e ha hb (pa a.1 (DE _) a2) (pb a.1 d c2);omega
theorem Tkn.lab {w s:Int}{css:List (List It1)}{k:Nat}{zs:List (Int×Int×Int)}(h:Tkn w s css k zs)(hc:cR w s css none){z:Int×Int×Int}(m:z∈zs){n:Int}(n1:z.1<=n)(n2:n<=z.2.1):(xX w n css:Int)=z.2.2:=by
 obtain⟨a1,a2,a3,i,ia,hi,ha,ea,pa⟩:=h.own z m;rw[ea];have e:=Fq ha (fun j cs hj hcs=>B3.mpr fun q=>?_) (pa n n1 n2)
 ·rw[e]
 have:=hc n ⟨ω,ω⟩;have:=GF (show j≠i by omega) hcs ha q (pa n n1 n2);omega
theorem Tkn.rest {w s:Int}{css:List (List It1)}{zs:List (Int×Int×Int)}(h:Tkn w s css css.length zs){n:Int}(hn:cG w s n)(hz:∀z,z∈zs->¬(z.1<=n/\n<=z.2.1)):(xX w n css:Int)=(css.length:Int):=by
 rw[Aj fun j cs hcs=>B3.mpr fun q=>?_];obtain⟨z,m,_,z1,z2⟩:=h.all n j cs hn (AF.mp hcs).1 hcs q;exact hz z m ⟨z1,z2⟩
structure Ol (L:Int->Int)(lo hi rest:Int)(zs:List (Int×Int×Int)):Prop where
 up:zs.Pairwise fun a b=>a.2.1<b.1/\(a.2.2=b.2.2->a.2.1+1<b.1)
 ne:∀z,z∈zs->lo<=z.1/\z.1<=z.2.1/\z.2.1<=hi/\z.2.2≠rest/\∀n,z.1<=n->n<=z.2.1->L n=z.2.2
 gp:∀n,lo<=n->n<=hi->(∀z,z∈zs->¬(z.1<=n/\n<=z.2.1))->L n=rest
theorem Tkn.fill {w s:Int}{css:List (List It1)}{zs ys:List (Int×Int×Int)}(h:Tkn w s css css.length zs)(hc:cR w s css none)(hp:ys.Perm zs)(hu:(ys.map fun z=>z.1).Pairwise (· < ·)):Ol (fun n=>(xX w n css:Int)) (wl w s) (wl w s+2^w.toNat-1) (css.length:Int) ys:=by
 have hd:ys.Pairwise fun a b=>(a.2.1<b.1\/b.2.1<a.1)/\(a.2.2=b.2.2->a.2.1+1<b.1\/b.2.1+1<a.1):=
  (hp.pairwise_iff (fun {a b} q=>⟨q.1.symm,fun e=>(q.2 e.symm).symm⟩)).mpr (h.dis hc)
 have hne:∀z,z∈ys->wl w s<=z.1/\z.1<=z.2.1/\z.2.1<wl w s+2^w.toNat:=fun z m=>by
  obtain⟨a,b,c,_⟩:=h.own z (hp.mem_iff.mp m);exact⟨a,b,c⟩
 refine⟨?_,fun z m=>?_,fun n n1 n2 hz=>h.rest ⟨n1,ω⟩ fun z m=>hz z (hp.mem_iff.mpr m)⟩
 ·refine((GN.mp hu).and hd).imp_of_mem fun {a b} ma mb q=>?_;have:=hne a ma;have:=hne b mb;obtain⟨q1,q2,q3⟩:=q;refine⟨ω,fun e=>?_⟩;have:=q3 e;omega
 have k:=hne z m;obtain⟨_,_,_,j,its,hj,_,ej,_⟩:=h.own z (hp.mem_iff.mp m);exact⟨k.1,k.2.1,ω,ω,fun n n1 n2=>h.lab hc (hp.mem_iff.mp m) n1 n2⟩
theorem Tkn.firsts {w s:Int}{css:List (List It1)}{k:Nat}{zs:List (Int×Int×Int)}(h:Tkn w s css k zs)(hc:cR w s css none):(zs.map fun z=>z.1).Nodup:=by
 refine GN.mpr ((h.dis hc).imp_of_mem fun {a b} ma mb q=>?_);obtain⟨_,a2,_⟩:=h.own a ma;obtain⟨_,b2,_⟩:=h.own b mb;have:=q.1;omega
structure FI (L:Int->Int)(lo:Int)(zs told:List (Int×Int×Int))(i:Nat)(free:Int):Prop where
 cv:Cvr L lo free told
 la:∀y,told.getLast?=some y->∃j,i=j+1/\zs[j]?=some y
 bf:∀z,z∈zs.take i->z.2.1<free
 ah:∀z,z∈zs.drop i->free<=z.1
 ln:told.length<=2*i
theorem FI.start {L:Int->Int}{lo hi rest:Int}{zs:List (Int×Int×Int)}(h:Ol L lo hi rest zs):FI L lo zs [] 0 lo:=
 ⟨.nil,fun y e=>(by cases e),fun z m=>(by cases m),fun z m=>(h.ne z m).1,AY _⟩
theorem FI.gap {L:Int->Int}{lo hi rest free:Int}{zs told:List (Int×Int×Int)}{i:Nat}{top:Int}(h:FI L lo zs told i free)(f:Ol L lo hi rest zs)(ht:free<=top)(hh:top<=hi)(ha:∀z,z∈zs.drop i->top<z.1):Cvr L lo (top+1) (told++[(free,top,rest)]):=by
 have lo1:=h.cv.le;refine Cvr.snoc (x:=(free,top,rest)) h.cv rfl ht (fun n n1 n2=>?_) fun y hy=>?_
 ·replace n1:free<=n:=n1;replace n2:n<=top:=n2;refine f.gp n ω ω fun z m q=>?_;rw[<- LW i zs] at m;rcases A6.mp m with m|m
  ·have:=h.bf z m;omega
  have:=ha z m;omega
 obtain⟨j,_,hj⟩:=h.la y hy;exact(f.ne y (BF hj)).2.2.2.1
theorem FI.take {L:Int->Int}{lo hi rest free:Int}{zs told told2:List (Int×Int×Int)}{i:Nat}{z:Int×Int×Int}(h:FI L lo zs told i free)(f:Ol L lo hi rest zs)(hz:zs[i]?=some z)(hc:Cvr L lo z.1 told2)(hl:told2.length<=told.length+1)(hy:∀y,told2.getLast?=some y->y.2.2≠z.2.2):FI L lo zs (told2++[z]) (i+1) (z.2.1+1):=by
 have mz:=BF hz;have k:=f.ne z mz;have ed:=m7 hz;have hu:(zs.drop i).Pairwise fun a b=>a.2.1<b.1/\(a.2.2=b.2.2->a.2.1+1<b.1):=f.up.sublist (Kj _ _);rw[ed] at hu;have hu2:=EO.mp hu;refine⟨Cvr.snoc (x:=z) hc rfl k.2.1 k.2.2.2.2 hy,fun y e=>?_,fun y m=>?_,fun y m=>?_,?_⟩
 ·rw[MR] at e;cases e;exact⟨i,rfl,hz⟩
 ·rw[Bh hz] at m;rcases A6.mp m with m|m
  ·have:=h.bf y m;have:=h.ah z (by rw[ed];exact BE ..);omega
  rw[AK.mp m];omega
 ·have:=(hu2.1 y m).1;omega
 rw[AO,A9];have:=h.ln;omega
theorem FI.next {L:Int->Int}{lo hi rest free:Int}{zs told:List (Int×Int×Int)}{i:Nat}{z y:Int×Int×Int}(h:FI L lo zs told i free)(f:Ol L lo hi rest zs)(hz:zs[i]?=some z)(he:free=z.1)(hy:told.getLast?=some y):y.2.2≠z.2.2:=by
 obtain⟨j,ej,hj⟩:=h.la y hy;obtain⟨lj,e1⟩:=AF.mp hj;obtain⟨li,e2⟩:=AF.mp hz;have:=DU.mp f.up j i lj li ω;rw[e1,e2] at this;intro z;have q:=this.2 z;obtain⟨w1,_⟩:=h.cv.last hy;omega
def Zg:Sp:=fun vs H Q _=>∃(l:Addr)(us:List V)(lo hi rest:Int)(zs:List (Int×Int×Int)) (L:Int->Int),vs=[.ref l,.int lo,.int hi,.int rest]/\H l=some (.lst us)/\bN trE H us zs/\Ol L lo hi rest zs/\lo<=hi/\zs.length<=100000 /\
 ∀(r:Addr)(H':Hp)(us':List V)(ss:List (Int×Int×Int)),Same H H'->H r=none->H' r=some (.lst us')->bN trE H' us' ss->Cvr L lo (hi+1) ss->ss.length<=300000->Q (.ref r) H'
def wF (H:Hp)(p:Addr):Int×Int×Int:=match H p with
 | some (.tup [.int a,.int b,.int c])=>(a,b,c)
 | _=>(0,0,0)
theorem ZK {H:Hp}(p:Addr)(x:Int×Int×Int)(h:H p=some (.tup (trE x))):wF H p=x:=by
 unfold wF;rw[h];rfl
def twF (i j n:Int):List (Str×V):=[("one",.int i),("other",.int j),("number",.int n)]
def vX (C:Addr):Sp:=fun vs H Q _=>∃(a:Addr)(i j n:Int),vs=[.ref a,.int i,.int j,.int n]/\(-(2^70)<i/\i<2^70)/\(-(2^70)<j/\j<2^70)/\(-(2^70)<n/\n<2^70)/\H a=some (XO a C none) /\
 ∀dx H',H dx=none->dx≠a->H' a=some (XO a C (some dx))->H' dx=some (.xd (twF i j n))->(∀b,b≠a->b≠dx->H' b=H b)->Q .non H'
theorem Eh {H H1:Hp}{E:XK}{C:Addr}{i j n:Int}(hi:-(2^70)<i/\i<2^70)(hj:-(2^70)<j/\j<2^70)(hn:-(2^70)<n/\n<2^70)(s1:Same H H1)(qx:∀dx H',Same H H'->H' dx=some (.xd (twF i j n))->E (.ref C) (some dx) H') :
  1<=1000/\∀a,H1 a=none->vX C [.ref a,.int i,.int j,.int n] (upd H1 a (XO a C none)) (fun v H2=>v=.non/\∃dx,H2 a=some (XO a C (some dx))/\E (.ref C) (some dx) (unt H2 a)) E0:=by
 refine⟨δ,fun a ha=>⟨a,i,j,n,rfl,hi,hj,hn,aB,fun dx H' hdx hne e1 e2 ho=>⟨rfl,dx,e1,qx dx _ (fun b o e=>?_) ?_⟩⟩⟩
 ·have e3:=s1 _ _ e;have n1:b≠a:=fun z=>by rw[z,ha] at e3;cases e3
  have n2:b≠dx:=fun z=>by rw[aF hne] at hdx;rw[z,hdx] at e3;cases e3
  rw[Bg n1,ho b n1 n2,aF n1,e3]
 rw[Bg hne,e2]
def Px (C:Addr):Sp:=fun vs H Q E=>∃(x:V)(w s:Int)(ok:Addr->Prop)(css:List (List It1)),vs=[x]/\1<=w/\w<=40/\(s=0\/s=1)/\bC ok H x (qm w s css)/\(∀its,its∈css->∀it,it∈its->It1.Ok w s it)/\(css.map CF).sum<=110/\css.length<=100 /\
 (cR w s css none->∀v H',Same H H'->Q v H')/\(∀c,cR w s css (some c)->∀dx H',Same H H'->H' dx=some (.xd (twF c.1 c.2.1 c.2.2))->E (.ref C) (some dx) H')
def JK (C:Addr):Sp:=fun vs H Q _=>(vs=[.non]/\Q .non H)\/∃(x dx:Addr)(i j n:Int),vs=[.ref x]/\H x=some (XR x C (some dx))/\H dx=some (.xd (twF i j n)) /\
 ∀t H',Same H H'->H t=none->H' t=some (.tup [.str "twice",.int i,.int j,.int n])->Q (.ref t) H'
def twD:Option (Nat×Nat×Int)->A7
 | none=>.none
 | some c=>.tuple [.str "twice",.int (c.1:Int),.int (c.2.1:Int),.int c.2.2]
def JL:Sp:=fun vs H Q _=>∃(x:V)(w s:Int)(ok:Addr->Prop)(css:List (List It1)),vs=[x]/\1<=w/\w<=40/\(s=0\/s=1)/\bC ok H x (qm w s css)/\(∀its,its∈css->∀it,it∈its->It1.Ok w s it)/\(css.map CF).sum<=110/\css.length<=100 /\
 ∀(y:V)(H':Hp)(c:Option (Nat×Nat×Int)),Same H H'->cR w s css c->bC (fun a=>H a=none) H' y (twD c)->Q y H'
theorem Ny {w s:Int}{css:List (List It1)}:∀{c:Option (Nat×Nat×Int)},cR w s css c->c=none\/∃d,c=some d
 | none,_=>.inl rfl
 | some d,_=>.inr ⟨d,rfl⟩
theorem Uk {w s:Int}{css:List (List It1)}{c:Nat×Nat×Int}(h:cR w s css (some c)):c.1<css.length/\c.2.1<css.length:=by
 obtain⟨_,⟨r,e⟩,_⟩:=h;have h1:c.1∈dj w c.2.2 css:=by rw[e];simp
 have h2:c.2.1∈dj w c.2.2 css:=by rw[e];simp
 obtain⟨_,k1,_⟩:=tU.mp h1;obtain⟨_,k2,_⟩:=tU.mp h2;exact⟨(AF.mp k1).1,(AF.mp k2).1⟩
theorem Lb (c:Option (Nat×Nat×Int)):(twD c).depth<4:=by
 cases c <;> simp [twD,A7.depth,A7.depthAll]
theorem Vq {ok:Addr->Prop}{H:Hp}{y:V}{d:Nat×Nat×Int}(t:bC ok H y (clD (some d))):∃p,y=.ref p/\H p=some (.tup [.int (d.1:Int),.int (d.2.1:Int),.int d.2.2]):=by
 cases t with
 | tup o e z ts=>cases ts with|cons t1 ts=>cases t1;cases ts with|cons t2 ts=>cases t2;cases ts with|cons t3 ts=>cases t3;cases ts;exact⟨_,rfl,e⟩
theorem qi {f g:Str}{v:V}{fs:List (Str×V)}(h:(f == g)=false):GB f ((g,v)::fs)=GB f fs:=by
 rw[Ex,h]
theorem xV {f:Str}{v:V}{fs:List (Str×V)}:GB f ((f,v)::fs)=some v:=by
 rw[Ex,beq_self_eq_true]
theorem Vn {i j n:Int}:GB ("one" : Str) (twF i j n)=some (.int i)/\GB ("other" : Str) (twF i j n)=some (.int j)/\GB ("number" : Str) (twF i j n)=some (.int n):=by
 unfold twF;refine⟨xV,?_,?_⟩
 ·rw[qi ψ];exact xV
 rw[qi ψ,qi ψ];exact xV
end L2
namespace SRT
open PySem PyProof.Rows
def TU (s:AA) (x:Ap) (a:Int):Prop:=∃q o n t b u c v,x=.ref q/\s.heap.get? q=some o/\o.cls=.type "tuple" /\ o.data=.seq #[.int a t,.int b u,.int c v] n
theorem RJ {α:Type}{g:α->Int}:∀{vs:List α},(vs.map g).Nodup->∀{x y:α},x∈vs->y∈vs->g x=g y->x=y
 | v::vs,h,x,y,hx,hy,e=>by
  have h2:=EO.mp h;rcases BB.mp hx with rfl|mx
  ·rcases BB.mp hy with rfl|my
   ·rfl
   exact absurd e (h2.1 _ (MS my))
  rcases BB.mp hy with rfl|my
  ·exact absurd e.symm (h2.1 _ (MS mx))
  exact RJ h2.2 mx my e
section
variable {prog:AW}{w:BC}{s:AA}{A:A3}{E:Ap->AA->Prop}
theorem abr {v:Ap}{a:Int}{Q:Option Ap->AA->Prop}(h:TU s v a)(q:∀t,Q (some (.int a t)) s):AE (AH prog w) A (Na v) Q E s:=by
 obtain⟨p,o,n,t,b,u,c,v,rfl,ho,hc,hs⟩:=h;show AE _ _ (typeOf (.ref p) >>= fun ty=>_) _ _ s;refine An (JE (T := "tuple") (show s.TypeIs (.ref p) "tuple" from⟨o,ho,hc⟩) ?_);rw[if_neg δ];exact An (GS ho hs (Au (q t)))
theorem Kv:∀{vs:List Ap}{Q:List (Option Ap)->AA->Prop},(∀v∈vs,∃a,TU s v a)->(∀(ws:List Ap)(ns:List Int),D5 ws ns->ws.length=vs.length->Q (ws.map some) s)->AE (AH prog w) A (vs.mapM Na) Q E s
 | [],Q,_,q=>by
  rw[mapM_nil];exact Au (q [] [] .nil rfl)
 | v::vs,Q,h,q=>by
  rw[List.mapM_cons];obtain⟨a,hv⟩:=h v (BE ..);refine An (abr hv fun t=>?_);refine An (Kv (vs:=vs) (fun x hx=>h x (A4 _ hx)) fun ws ns hI hl=>?_);exact Au (q (.int a t::ws) (a::ns) (.cons a t hI) (by rw[BA,BA,hl]))
theorem acq {vs:List Ap}{Q:EJ->AA->Prop}(h:∀v∈vs,∃a,TU s v a)(hn:1<=vs.length)(q:Q jt s):AE (AH prog w) A (keyKind' vs.toArray) Q E s:=by
 rw[keyKind'_eq];rw[mapM_toArray];rw[map_eq_pure_bind];refine An (An (Kv h fun ws ns hI hl=>Au ?_));have ha:(ws.map some).toArray.all (·.isSome)=true:=by simp
 rw[if_pos ha];have hfm:(ws.map some).toArray.filterMap id=ws.toArray:=by simp [M0]
 rw[hfm];cases ws with
 | nil=>rw[<- hl] at hn;cases hn
 | cons v ws=>
  rw[Dy hI];refine An (De ?_);exact An (Au (Au q))
structure yP (s:AA)(g:Ap->Int)(vs:List Ap):Prop where
 tk:∀v∈vs,TU s v (g v)
 nd:(vs.map g).Nodup
theorem acA {g:Ap->Int}{vs:List Ap}(h:yP s g vs):uz jt prog w A E s (EG vs) fun p=>g p.1:=by
 intro st x y Q hk hx hy q;have h1:=h.tk x.1 (gU hx).1;have h4:=h.tk y.1 (gU hy).1;rw[lt'_eq];refine AG (GU ?_);rw[hk];refine AG (KO (DZ ?_));have same:g x.1=g y.1->x.1=y.1:=RJ h.nd (gU hx).1 (gU hy).1;obtain⟨p,o,n,t,yy,u,z,v,e,ho,hc,hs⟩:=h1;obtain⟨p',o',n',t',yy',u',z',v',e',ho',hc',hs'⟩:=h4;replace q:Q (some (decide (g x.1<g y.1))) st:=q;have sm:g x.1=g y.1->yy=yy'/\z=z':=fun ez=>by
  have ep:=same ez;rw[e,e'] at ep;cases ep;rw[ho] at ho';cases ho';rw[hs] at hs';injection hs' with hs' _;injection hs' with hs';injection hs' with _ hs';injection hs' with h1 hs';injection hs' with h2 _;injection h1 with h1;injection h2 with h2;exact⟨h1,h2⟩
 generalize g x.1=a at *;generalize g y.1=b at *;rw[e,e'];show AE _ _ (AX.List.listItems (.ref p) >>= fun xs=>AX.List.listItems (.ref p') >>= _) _ _ s;refine An (GS ho hs ?_);refine An (GS ho' hs' ?_);show AE _ _ (forIn [((Ap.int a t,Ap.int b t'),0),((Ap.int yy u,Ap.int yy' u'),1),((Ap.int z v,Ap.int z' v'),2)] _ _ >>= _) _ _ s;rw[Fa];refine An (An (An (GI ?_)));by_cases c:a=b
 ·obtain⟨rfl,rfl⟩:=sm c;subst c;rw[decide_eq_false ω] at q;rw[beq_self_eq_true];refine Au ?_;simp only[Fa];refine An (An (GI ?_));rw[beq_self_eq_true];refine Au ?_;refine An (An (GI ?_));rw[beq_self_eq_true];refine Au ?_;simp only[forIn_nil];exact Au (Au ⟨rfl,AI q⟩)
 rw[beq_false_of_ne c];exact An (oneLt_int (Au (Au (Au ⟨rfl,AI q⟩))))
theorem yP.keep {g:Ap->Int}{vs:List Ap}{s':AA}(h:yP s g vs) (k:∀q o,s.heap.get? q=some o->o.cls=.type "tuple" -> s'.heap.get? q=some o):yP s' g vs:=
 ⟨fun v hv=>by
  obtain⟨q,o,n,t,yy,u,z,v,e,ho,hc,hs⟩:=h.tk v hv;exact⟨q,o,n,t,yy,u,z,v,e,k q o ho hc,hc,hs⟩,h.nd⟩
end
end SRT
namespace L2
open PySem PySem.Spec PyProof.Rows
def abS:List V->Hp->VK->Prop:=fun vs H Q=>∃(l:Addr)(ps:List Addr)(key:Addr->Int),vs=[.ref l]/\H l=some (.lst (ps.map V.ref))/\ps.length<=1000000 /\
 (∀p∈ps,∃v u,H p=some (.tup [.int (key p),.int v,.int u]))/\(ps.map key).Nodup /\
 ∀(d:Addr)(qs:List Addr),H d=none->qs.Perm ps->(qs.map key).Pairwise (· < ·)->Q (.ref d) (upd H d (.lst (qs.map V.ref)))
section
variable {X:Cx}
theorem Jo:dw X (.builtin "sorted") abS:=by
 intro pins s σ H xs us Q I rv h;obtain⟨l,ps,key,rfl,el,hl,hp,hnd,q⟩:=h;cases rv with
 | cons r rr=>
  cases rr;cases r;obtain⟨its,rl,pl,hz⟩:=I.list (SqL.of el);have e:=uD rl;subst e;have hR:SRT.yP s (rkP key) (ps.map Ap.ref):=by
   refine⟨fun v hv=>?_,?_⟩
   ·obtain⟨p,hm,rfl⟩:=EF.mp hv;obtain⟨v,u,ep⟩:=hp p hm;obtain⟨ts,rt,pt,_⟩:=I.tuple (SqT.of ep);obtain⟨ob,g1,g2,n,g3⟩:=pt;cases rt with
    | cons r1 rt=>
     cases rt with
     | cons r2 rt=>
      cases rt with
      | cons r3 rt=>
       cases rt;obtain⟨t,rfl⟩:=r1;obtain⟨t2,rfl⟩:=r2;obtain⟨t3,rfl⟩:=r3;exact⟨p,ob,n,t,_,_,_,_,rfl,g1,g2,g3⟩
   rw[map_map];exact hnd
  refine SRT.JV (g:=rkP key) pl.isList (fun A E s' kp=>⟨SRT.acA (hR.keep kp),fun Q hn q=>SRT.acq (fun v hv=>⟨_,(hR.keep kp).tk v hv⟩) hn q⟩) (by rw[AV];exact hl) fun ys hy ho=>?_;obtain⟨qs,e,hq⟩:=zX hy;rw[e,map_map] at ho;have ho2:(qs.map key).Pairwise (· < ·):=by
   have hne:(qs.map key).Pairwise (·≠·):=((hq.map key).nodup_iff).mpr hnd;exact(M1.and (show(qs.map key).Pairwise (·<=·) from ho) hne).imp fun z=>Int.lt_iff_le_and_ne.mpr z
  obtain⟨n,he⟩:=sortedAll_at s.heap (ps.map Ap.ref) ys;have le:s.heap.objs.size<=s.heap.objs.size+1:=MV _;have hf:H (s.heap.objs.size+1)=none:=I.hok.fresh le;refine⟨.ref (s.heap.objs.size+1),_,I.laid (t':=s.toks) (fun c o z=>sortedAll_old z) le (show cW X.prog X.w _ _ _ (.lst (qs.map V.ref)) from⟨aO (by rw[AV,hq.length_eq];omega),qs.map Ap.ref,n,uJ qs,?_⟩),rfl,q _ qs hf hq ho2⟩;rw[he];have:ys=(qs.map Ap.ref).toArray:=by rw[<- e]
  rw[this]
end
structure DA (K:AC)(x:Str)(st:Stmt)(f:Addr)(od an:Option Addr)(sl:Array (Option Ap))(oc kV dc pm cd ct:Ap):Prop where
 a:nsIn K Bi x=some (some (.ref f))
 l:K.lookup f=some ⟨oc,od,.func (fnOf x x (fY st) (eG st) (aj st) .none kV dc pm an cd ct),sl⟩
 c:codeIn K cd x=true
 k:keepIn K (.ref f)=true
theorem DA.d {K:AC}{h:Heap}{mg:Str->Option Ap}{x:Str}{st:Stmt}{f:Addr}{od an:Option Addr}{sl:Array (Option Ap)}{oc kV dc pm cd ct:Ap}(D:DA K x st f od an sl oc kV dc pm cd ct)(ps:List Str)(X:K.In h)(G:h.Ns Bi mg)
  (hb:∀(kV doc pm:Ap)(an:Option Addr)(cdv ct:Ap)(us:List Ap),us.length=ps.length->bindArgs (fnOf x x (fY st) (eG st) (aj st) .none kV doc pm an cdv ct) ⟨us,[]⟩=pure (ps.zip us)):Om K mg x st ps f (fnOf x x (fY st) (eG st) (aj st) .none kV dc pm an cd ct):=
 abw X G D.a D.l D.c D.k hb
end L2
local macro_rules | `(tactic| push_cast) => `(tactic| ((try dsimp only [L2.tV, L2.GZ, L2.O6, L2.vg, L2.tOp, L2.tC, L2.DG, L2.JF, L2.lG, L2.jo, L2.wG, L2.tCB, L2.tIf, L2.Vu, L2.tB, L2.Vw, L2.tOr, L2.O4, L2.Lk, L2.vI, L2.jZ, L2.rI0, EU, CB, set_cons_zero, set_cons_succ]); try simp only [↓L2.rdy, L2.rdy, ↓reduceIte, reduceCtorEq, Nat.reduceAdd, Nat.reduceSub]))
local macro_rules | `(tactic| push_cast [$ls,*]) => `(tactic| ((try dsimp only [L2.tV, L2.GZ, L2.O6, L2.vg, L2.tOp, L2.tC, L2.DG, L2.JF, L2.lG, L2.jo, L2.wG, L2.tCB, L2.tIf, L2.Vu, L2.tB, L2.Vw, L2.tOr, L2.O4, L2.Lk, L2.vI, L2.jZ, L2.rI0, EU, CB, set_cons_zero, set_cons_succ]); try simp only [↓L2.rdy, L2.rdy, ↓reduceIte, reduceCtorEq, Nat.reduceAdd, Nat.reduceSub, $ls,*]))
namespace K09
open PySem L2 PyProof.Rows
abbrev q0_:List Str:=["_law_tape_here","_law_width","_law_sign","_law_other"]
abbrev q1_:List Str:=["_law_tape_here","_law_many"]
abbrev q2_:List Str:=["_law_width","_law_sign","_law_mask_here","_law_value"]
abbrev q3_:List Str:=["_law_width","_law_item_here","_law_number_here"]
abbrev q4_:List Str:=["_law_script","_law_k"]
abbrev q5_:List Str:=["width","sign"]
abbrev q6_:List Str:=["_law_choice"]
abbrev q7_:List Str:=["_law_width","_law_sign"]
abbrev q8_:List Str:=["_law_found","_law_due"]
abbrev q9_:List Str:=["_law_tape_here"]
abbrev q10_:List Str:=["width","sign","mask","value"]
abbrev q11_:List Str:=["taken","least","most","rest"]
abbrev q12_:List Str:=["width","sign","items"]
abbrev q13_:List Str:=["_law_tape_here","_law_width"]
abbrev q14_:List Str:=["_law_width","_law_mask_here"]
abbrev q15_:List Str:=["pattern","width","sign"]
abbrev q16_:List Str:=["width","items","number"]
abbrev q17_:List Str:=["width","item","number"]
abbrev q18_:List Str:=["width","sign","item"]
def top (i:Nat):Stmt:=PySem.Challenge.pw_caseways_k09_told_twice_refused.main.body.getD i (.Pass ⟨0,0,0,0⟩)
abbrev BLs:List Str:=["ValueError","abs","all","any","bool","enumerate","int","isinstance","len","list","max","min","range","repr","set","sorted","str","sum","tuple","zip"]
theorem zp:("ValueError" : Str)∈BLs:=by decide +kernel
theorem Sq:("abs" : Str)∈BLs:=by decide +kernel
theorem aa3:("all" : Str)∈BLs:=by decide +kernel
theorem Sh:("any" : Str)∈BLs:=by decide +kernel
theorem Cr:("bool" : Str)∈BLs:=by decide +kernel
theorem iG:("enumerate" : Str)∈BLs:=by decide +kernel
theorem xU:("int" : Str)∈BLs:=by decide +kernel
theorem aW:("isinstance" : Str)∈BLs:=by decide +kernel
theorem rz:("len" : Str)∈BLs:=by decide +kernel
theorem v8:("list" : Str)∈BLs:=by decide +kernel
theorem Sg:("max" : Str)∈BLs:=by decide +kernel
theorem Im:("min" : Str)∈BLs:=by decide +kernel
theorem fP:("range" : Str)∈BLs:=by decide +kernel
theorem Kh:("repr" : Str)∈BLs:=by decide +kernel
theorem aa2:("set" : Str)∈BLs:=by decide +kernel
theorem qg:("sorted" : Str)∈BLs:=by decide +kernel
theorem Il:("str" : Str)∈BLs:=by decide +kernel
theorem aa1:("sum" : Str)∈BLs:=by decide +kernel
theorem xT:("tuple" : Str)∈BLs:=by decide +kernel
theorem aa0:("zip" : Str)∈BLs:=by decide +kernel
abbrev yS:List Str:=["_law_script","_law_k"]
abbrev GI_ (s:Stmt)(x:Str):Prop:=(aj s).names.lookup x=some .globalImplicit
abbrev NM_ (N:List Str)(s:Stmt)(i:Nat)(x:Str):Prop:=Nm N (aj s) i x
abbrev lH:Stmt:=top 26
theorem Ly:bA yS q4_ (aj lH):=⟨rfl,rfl,rfl,ψ,rfl,ψ,ψ⟩
theorem xJ:NM_ yS lH 0 "_law_script" := .of ψ
theorem xH:NM_ yS lH 1 "_law_k" := .of ψ
theorem CQ:GI_ lH "len" := by decide +kernel
theorem Oe:Bn "_law_cell_at" := ⟨ψ,ψ⟩
abbrev Dp:List Str:=["_law_script","_law_k","_law_cell"]
abbrev mF:Stmt:=top 27
theorem J0:bA Dp q4_ (aj mF):=⟨rfl,rfl,rfl,ψ,rfl,ψ,ψ⟩
theorem RK:NM_ Dp mF 0 "_law_script" := .of ψ
theorem wZ:NM_ Dp mF 1 "_law_k" := .of ψ
theorem sY:NM_ Dp mF 2 "_law_cell" := .of ψ
theorem ye:GI_ mF "_law_cell_at" := by decide +kernel
theorem yd:GI_ mF "abs" := by decide +kernel
theorem Ja:GI_ mF "int" := by decide +kernel
theorem YD:Bn "_law_tape" := ⟨ψ,ψ⟩
abbrev vf:List Str:=["_law_tape_here","_law_many","_law_found","_law_prime","_law_once"]
abbrev mG:Stmt:=top 28
theorem sG:bA vf q1_ (aj mG):=⟨rfl,rfl,rfl,ψ,rfl,ψ,ψ⟩
theorem dh:NM_ vf mG 0 "_law_tape_here" := .of ψ
theorem oA:NM_ vf mG 1 "_law_many" := .of ψ
theorem ou:NM_ vf mG 2 "_law_found" := .of ψ
theorem Er:NM_ vf mG 3 "_law_prime" := .of ψ
theorem w6:NM_ vf mG 4 "_law_once" := .of ψ
theorem CJ:GI_ mG "_law_take" := by decide +kernel
theorem cQ:Bn "_law_take" := ⟨ψ,ψ⟩
section
variable {P:AW}{w:BC}{K:AC}{mg:Str->Option Ap}{base:Heap}{f:Addr}{fd:Dx}{bs:List Str}
theorem Xg (hB:∀x:Str,x∈BLs->mg x=none) (F:Fun K "_law_cell_at" "_law_cell_at" lH f fd):cU P w K mg base CX0 1 f fd q4_ (PL K):=by
 refine F.okq Ly (fun vs H Q E h=>?_) (fun cdv A outer s H vs Q E hr h=>?_)
 ·obtain⟨a,ns,k,rfl,_⟩:=h;rfl
 obtain⟨a,ns,k,rfl,hS,h0,q⟩:=h;refine⟨_,(aH (aM (qJ (aU n8 (ao xH) (cF jx CQ (hB "len" rz) GG rK (ak (ao xJ) au rfl) rfl rfl) (aL _)) (aY Kp (ao xJ) (ao xH) (fun _ _=>rfl)) aq))),?_⟩;push_cast;refine⟨_,.inl hS,?_⟩;split
 ·rename_i c;rw[AV] at c;have hk:k.toNat<ns.length:=ω;have ek:k=((k.toNat:Nat):Int):=ω;have z:atI (ns.map V.int) ((k.toNat:Nat):Int)=some (.int ns[k.toNat]):=fZ (by rw[BH,AR hk];rfl);rw[<- ek] at z;unfold abV;exact⟨a,_,k,_,rfl,rfl,hS,z,q _⟩
 exact q _
theorem Xc (hB:∀x:Str,x∈BLs->mg x=none) (CZCellAt:Cal P w K mg base "_law_cell_at" 1 q4_ (PL K)) (F:Fun K "_law_tape" "_law_tape" mF f fd):cU P w K mg base CX0 2 f fd q4_ (Pu K):=by
 refine F.okq J0 (fun vs H Q E h=>?_) (fun cdv A outer s H vs Q E hr h=>?_)
 ·obtain⟨a,ns,k,rfl,_⟩:=h;rfl
 obtain⟨a,ns,k,rfl,hS,h0,h1,q⟩:=h;refine⟨_,(aD (bK sY J0.nd (bG CZCellAt (hr.mono δ) ye Oe (ak (ao RK) (ak (ao wZ) au rfl) rfl) rfl rfl) rfl (.inl rfl))
  (aH (aM (cO (ak (aJ gW (cF Ga yd (hB "abs" Sq) PyProof.Rows.Boot.«abs» Uu (ak (ao sY) au rfl) rfl rfl) (J6 m8 Ja (hB "int" xU) boot_int yH (ak (gR acf (cF Ga yd (hB "abs" Sq) PyProof.Rows.Boot.«abs» Uu (ak (ao sY) au rfl) rfl rfl) (aJ Rr aq aq) (aL _)) au rfl) rfl rfl)) (ak (aJ jg (aJ gW (aJ bw (aJ bw (aJ jg (ao sY) aq) (aJ gW (aJ gW aq (ao wZ)) (ao wZ))) aq) aq) aq) (ak aq au rfl) rfl) rfl))))),?_⟩
 push_cast;refine⟨a,ns,k,rfl,hS,h0,fun v=>?_⟩;push_cast;refine⟨⟨δ,δ,δ⟩,?_,δ,.inl δ,.inr ω,.inr δ,δ,aO δ,fun p hp=>q p _ hp (aA hp) ⟨_,_,_,aB,?_,?_,?_,DE _,DE _⟩⟩
 ·right;generalize (if v<0 then -v else v)=u;split <;> decide
 ·refine Int.mul_nonneg ?_ ?_
  ·split <;> omega
  generalize (if v<0 then -v else v)=u;split <;> decide
 ·exact E4 _ δ
 exact EA _ δ
theorem Kc {n:Nat}(hB:∀x:Str,x∈BLs->mg x=none) (hn:n<=10) (CZTake:Cal P w K mg base "_law_take" n q1_ (gj n)) (F:Fun K "_law_take" "_law_take" mG f fd):cU P w K mg base CX0 (n+1) f fd q1_ (gj (n+1)):=by
 refine F.okq sG (fun vs H Q E h=>?_) (fun cdv A outer s H vs Q E hr h=>?_)
 ·obtain⟨p,m,B,rfl,_⟩:=h;rfl
 obtain⟨p,m,B,rfl,⟨a,b,c,hp,ha,hb0,hb1,hc0,hc1⟩,hB0,hm0,hm1,hn1,hn2,q⟩:=h;refine⟨_,(aD (b8 (aU En (aY bY (ao dh) aq (fun _ _=>rfl)) aq (aL _)) (aD (bK ou sG.nd (aJ jg (aY bY (ao dh) aq (fun _ _=>rfl)) (ao oA)) rfl (.inl rfl))
  (aD (jJ (aJ Eo (aY bY (ao dh) aq (fun _ _=>rfl)) (ao oA)) (BP (ao dh) aq JX) rfl rfl rfl)
  (aH (aM (ao ou))))) bJ)
  (aD (jJ (aJ bw (aY bY (ao dh) aq (fun _ _=>rfl)) aq) (BP (ao dh) aq JX) rfl rfl rfl)
  (aD (bK Er sG.nd (aY bY (cO (ak aq (ak aq (ak aq (ak aq (ak aq (ak aq (ak aq au rfl) rfl) rfl) rfl) rfl) rfl) rfl)) (aJ jg (aY bY (ao dh) aq (fun _ _=>rfl)) aq) (fun _ _=>rfl)) rfl (.inl rfl))
  (aD (bK w6 sG.nd (aJ jg (aJ gW (aJ bw (aY bY (ao dh) aq (fun _ _=>rfl)) (aJ gW aq (aY bY (ao dh) aq (fun _ _=>rfl)))) (aJ bw aq (aY bY (ao dh) aq (fun _ _=>rfl)))) (ao Er)) rfl (.inl rfl))
  (aD (jJ (aJ jg (aJ bw (aJ gW (ao w6) (aJ bw (aJ jg (ao w6) aq) aq)) (aY bY (ao dh) aq (fun _ _=>rfl))) aq) (BP (ao dh) aq JX) rfl rfl rfl)
  (aD (bK ou sG.nd (aJ Eo (aJ jg (aJ gW (aY bY (ao dh) aq (fun _ _=>rfl)) (aJ bw (aJ jg (aY bY (ao dh) aq (fun _ _=>rfl)) aq) aq)) aq) aq) rfl (.inl rfl))
  (aH (aM (qJ (aU n8 (ao oA) (aJ Rr aq aq) (aL _)) (aJ jg (ao ou) (ao oA)) (aJ jg (aJ bw (aJ gW (ao ou) aq) (bG CZTake (hr.mono ω) CJ cQ (ak (ao dh) (ak aq au rfl) rfl) rfl rfl)) (ao oA))))))))))),?_⟩
 push_cast [hp];split
 ·refine⟨hm0,⟨hm0,hm1⟩,?_⟩;refine q _ _ (E4 _ ω) (EA _ hm0) dW.upd ⟨_,_,_,aB,Int.ediv_nonneg ha ω,hb0,hb1,hc0,ω⟩
 refine⟨aO δ,fun p1 hp1=>?_⟩;have np:p≠p1:=fun z=>by rw[<- z,aB] at hp1;cases hp1
 obtain⟨v,hv,v0⟩:=aau (c+1);push_cast [hp,aF np,ne_eq,np,not_false_eq_true,hv];have m1:∀x:Int,0<=x%40009/\x%40009<40009:=fun x=>⟨E4 _ δ,EA _ δ⟩;have m2:∀x:Int,0<=x%1009/\x%1009<1009:=fun x=>⟨E4 _ δ,EA _ δ⟩;have m3:∀x:Int,0<=x%2147483629/\x%2147483629<2147483629:=fun x=>⟨E4 _ δ,EA _ δ⟩;refine⟨δ,.inl δ,.inr ω,v0,δ,.inr ?_,δ,δ,.inr ?_,δ,δ,δ,?_⟩
 ·have:=m1 ((b+39373*(c+1))*(48271+(c+1))%v);omega
 ·have:=m2 (((b+39373*(c+1))*(48271+(c+1))%v*((b+39373*(c+1))*(48271+(c+1))%v%40009+7)+(c+1))%2147483629);omega
 have e3:=m3 ((b+39373*(c+1))*(48271+(c+1))%v*((b+39373*(c+1))*(48271+(c+1))%v%40009+7)+(c+1));generalize ((b+39373*(c+1))*(48271+(c+1))%v*((b+39373*(c+1))*(48271+(c+1))%v%40009+7)+(c+1))%2147483629=y at e3 |-;have sx:dW p H (upd (upd (upd H p (HO.lst [V.int a,V.int b,V.int (c+1)])) p1 (HO.lst [V.int 2147483587,V.int 2147483579,V.int 2147483563,V.int 2147483549,V.int 2147483543,V.int 2147483497,V.int 2147483489])) p (HO.lst [V.int a,V.int y,V.int (c+1)])):=
  (dW.upd.trans (aA hp1).x).trans dW.upd
 have tp:bM (upd (upd (upd H p (HO.lst [V.int a,V.int b,V.int (c+1)])) p1 (HO.lst [V.int 2147483587,V.int 2147483579,V.int 2147483563,V.int 2147483549,V.int 2147483543,V.int 2147483497,V.int 2147483489])) p (HO.lst [V.int a,V.int y,V.int (c+1)])) p (B+1):=
  ⟨a,y,c+1,aB,ha,e3.1,e3.2,ω,ω⟩
 generalize upd (upd (upd H p (HO.lst [V.int a,V.int b,V.int (c+1)])) p1 (HO.lst [V.int 2147483587,V.int 2147483579,V.int 2147483563,V.int 2147483549,V.int 2147483543,V.int 2147483497,V.int 2147483489])) p (HO.lst [V.int a,V.int y,V.int (c+1)])=H2 at sx tp |-;split
 ·refine⟨hm0,q _ _ (E4 _ ω) (EA _ hm0) sx ?_⟩;obtain⟨a',b',c',z1,z2,z3,z4,z5,z6⟩:=tp;exact⟨a',b',c',z1,z2,z3,z4,z5,ω⟩
 rename_i hm;have hm':1000000<=m:=by
  rw[show(10:Int)^Int.toNat 6=1000000 from by decide] at hm;omega
 have hn3:=hn2 hm';refine⟨.inr δ,p,99991,B+1,rfl,tp,ω,δ,δ,ω,fun z=>absurd z δ,fun r H3 r0 r1 s3 t3=>?_⟩;push_cast;refine⟨hm0,q _ _ (E4 _ ω) (EA _ hm0) (sx.trans s3) ?_⟩;obtain⟨a',b',c',z1,z2,z3,z4,z5,z6⟩:=t3;exact⟨a',b',c',z1,z2,z3,z4,z5,ω⟩
theorem Lj:cU P w K mg base CX0 0 f fd q1_ (gj 0):=by
 have no:∀vs H Q E,¬gj 0 vs H Q E:=fun vs H Q E h=>by
  obtain⟨p,m,B,_,_,_,_,_,h1,_⟩:=h;omega
 exact⟨fun vs H Q E h=>absurd h (no vs H Q E),fun A outer s H args us vs Q E _ _ _ _ h=>absurd h (no vs H Q E)⟩
abbrev Dq:List Str:=["_law_found","_law_due"]
abbrev gm:Stmt:=top 39
theorem VG:bA Dq q8_ (aj gm):=⟨rfl,rfl,rfl,ψ,rfl,ψ,ψ⟩
theorem fu:NM_ Dq gm 0 "_law_found" := .of ψ
theorem eO:NM_ Dq gm 1 "_law_due" := .of ψ
theorem Jd:GI_ gm "all" := by decide +kernel
theorem pC:GI_ gm "bool" := by decide +kernel
theorem Jc:GI_ gm "int" := by decide +kernel
theorem bx:GI_ gm "isinstance" := by decide +kernel
theorem yg:GI_ gm "len" := by decide +kernel
theorem pA:GI_ gm "list" := by decide +kernel
theorem rD:GI_ gm "str" := by decide +kernel
theorem mV:GI_ gm "tuple" := by decide +kernel
theorem Jb:GI_ gm "zip" := by decide +kernel
theorem K1:Bn "_law_same" := ⟨ψ,ψ⟩
theorem v7 {n:Nat}(hB:∀x:Str,x∈BLs->mg x=none) (CZSame:Cal P w K mg base "_law_same" n q8_ (su n)) (F:Fun K "_law_same" "_law_same" gm f fd):cU P w K mg base CX0 (n+1) f fd q8_ (su (n+1)):=by
 refine F.okq VG (fun vs H Q E h=>?_) (fun cdv A outer s H vs Q E hr h=>?_)
 ·obtain⟨x,y,ok,d,rfl,_⟩:=h;rfl
 obtain⟨x,y,ok,d,rfl,tx,ty,hd,q⟩:=h;refine⟨_,(aD (b8 (gO (cF NZ bx (hB "isinstance" aW) B9 aX (ak (ao eO) (ak (cI (ak (kj "list" pA (hB "list" v8) boot_list Dd) (ak (kj "tuple" mV (hB "tuple" xT) boot_tuple yG) au rfl) rfl)) au rfl) rfl) rfl rfl) (fun _=>rfl)) (aD (b8 (zj (wN (aU (kZ hr.bF) (cF dU bx (hB "isinstance" aW) B9 aX (ak (ao fu) (ak (kj "list" pA (hB "list" v8) boot_list Dd) au rfl) rfl) rfl rfl) (cF dU bx (hB "isinstance" aW) B9 aX (ak (ao eO) (ak (kj "list" pA (hB "list" v8) boot_list Dd) au rfl) rfl) rfl rfl) (aL _)) (uK (aU (kZ hr.bF) (cF dU bx (hB "isinstance" aW) B9 aX (ak (ao fu) (ak (kj "tuple" mV (hB "tuple" xT) boot_tuple yG) au rfl) rfl) rfl rfl) (cF dU bx (hB "isinstance" aW) B9 aX (ak (ao eO) (ak (kj "tuple" mV (hB "tuple" xT) boot_tuple yG) au rfl) rfl) rfl rfl) (aL _))))) (aH (aM zW)) bJ)
  (aD (b8 (aU (kZ hr.bF) (cF j7 yg (hB "len" rz) GG rK (ak (ao fu) au rfl) rfl rfl) (cF j7 yg (hB "len" rz) GG rK (ak (ao eO) au rfl) rfl rfl) (aL _)) (aH (aM zW)) bJ)
  (aH (aM (cF (N8 rfl) Jd (hB "all" aa3) PyProof.Rows.Boot.«all» abA (ak (gQ (NX:=Dq) (kX:=(aj gm).names) ["_law_one","_law_other"] [none,none] rfl rfl ⟨rfl,ψ,ψ,ψ,ψ⟩ rfl (Wd Jb (hB "zip" aa0) (ak (ao fu) (ak (ao eO) au rfl) rfl) rfl rfl) (fun _ _ _ _ _=>(eX (n:=2) rfl (aQ (cM 0 (show C4 (["_law_one","_law_other"]:List Str) from by decide +kernel) rfl (ET rfl)) (aQ (cM 1 (show C4 (["_law_one","_law_other"]:List Str) from by decide +kernel) rfl (ET rfl)) dF rfl) rfl) rfl rfl)) (fun _ _ _ _ _=>nZ) (fun _ _ _ _ _=>(bG CZSame (hr.mono ω) rfl K1 (ak (bR 0) (ak (bR 1) au rfl) rfl) rfl rfl))) au rfl) rfl rfl))))) bJ)
  (aD (b8 (zj (wN (aU Hz (ao eO) jK (aL _)) (uK (gO (cF dU bx (hB "isinstance" aW) B9 aX (ak (ao eO) (ak (kj "str" rD (hB "str" Il) boot_str Jq) au rfl) rfl) rfl rfl) (fun _=>rfl))))) (aH (aM (wR (gR (bV hr.bF) (ao fu) (ao eO) (aL _)) (BR (gR (bV hr.bF) (cF dU bx (hB "isinstance" aW) B9 aX (ak (ao fu) (ak (kj "str" rD (hB "str" Il) boot_str Jq) au rfl) rfl) rfl rfl) (cF dU bx (hB "isinstance" aW) B9 aX (ak (ao eO) (ak (kj "str" rD (hB "str" Il) boot_str Jq) au rfl) rfl) rfl rfl) (aL _)))))) bJ)
  (aD (b8 (gO (cF dU bx (hB "isinstance" aW) B9 aX (ak (ao eO) (ak (kj "bool" pC (hB "bool" Cr) boot_bool Df) au rfl) rfl) rfl rfl) (fun _=>rfl)) (aH (aM (wR (cF dU bx (hB "isinstance" aW) B9 aX (ak (ao fu) (ak (kj "bool" pC (hB "bool" Cr) boot_bool Df) au rfl) rfl) rfl rfl) (BR (gR (bV hr.bF) (ao fu) (ao eO) (aL _)))))) bJ)
  (aH (aM (wR (cF dU bx (hB "isinstance" aW) B9 aX (ak (ao fu) (ak (kj "int" Jc (hB "int" xU) boot_int yH) au rfl) rfl) rfl rfl) (wR (aag (cF dU bx (hB "isinstance" aW) B9 aX (ak (ao fu) (ak (kj "bool" pC (hB "bool" Cr) boot_bool Df) au rfl) rfl) rfl rfl)) (BR (gR (bV hr.bF) (ao fu) (ao eO) (aL _)))))))))),?_⟩
 cases tx with
 | non=>
  cases ty;refine aK fun k hk=>?_;push_cast;refine⟨aO δ,fun t ht=>?_⟩;subst hk;refine aK fun k hk=>?_;push_cast;exact q _ (aA ht)
 | bl b=>
  cases ty;refine aK fun k hk=>?_;push_cast;refine⟨aO δ,fun t ht=>?_⟩;subst hk;refine aK fun k hk=>?_;push_cast;subst hk;refine aK fun k hk=>?_;push_cast;exact q _ (aA ht)
 | int i=>
  cases ty;refine aK fun k hk=>?_;push_cast;refine⟨aO δ,fun t ht=>?_⟩;subst hk;refine aK fun k hk=>?_;push_cast;subst hk;refine aK fun k hk=>?_;push_cast;subst hk;push_cast;exact q _ (aA ht)
 | str x=>
  cases ty;refine aK fun k hk=>?_;push_cast;refine⟨aO δ,fun t ht=>?_⟩;subst hk;refine aK fun k hk=>?_;push_cast;exact q _ (aA ht)
 | lst o1 e1 z1 ts1=>
  rename_i p1 xs1 ds;cases ty with
  | lst o2 e2 z2 ts2=>
   rename_i p2 xs2;have l1:=ts1.length;have l2:=ts2.length;refine aK fun k hk=>?_;push_cast [e1,e2];refine⟨aO δ,fun t ht=>?_⟩;have s1:=aA (o:=HO.tup [V.ty "list",V.ty "tuple"]) ht;have e1:=s1 _ _ e1;have e2:=s1 _ _ e2;generalize upd H t (HO.tup [V.ty "list",V.ty "tuple"])=H1 at s1 e1 e2 |-;push_cast [e1,e2];rw[decide_eq_true (show(xs1.length:Int)=(xs2.length:Int) by omega),F0,if_neg δ];refine gC fun R hR=>?_;push_cast [e1,e2];obtain⟨Pc,hPc⟩:∃Pv:Nat->List V->L2.St->Hp->Prop,Pv=fun(i:Nat) acc τ H'=>∃(o0 o1:Option V),Same H1 H'/\acc=(BD i true).map V.bl/\τ=[o0,o1]:=⟨_,rfl⟩;refine Yx hR (xs:=xs1) (ys:=xs2) (aO z1) ω Pc (by rw[hPc];exact⟨_,_,Same.refl _,rfl,rfl⟩) ?_ ?_ ?_ ?_
   ·intro i acc τ H2 pc;rw[hPc] at pc;obtain⟨_,_,_,rfl,_⟩:=pc;simp
   ·intro i acc τ H2 pc;rw[hPc] at pc;obtain⟨_,_,s2,_,_⟩:=pc;exact⟨s2 _ _ e1,s2 _ _ e2⟩
   ·intro i x y acc τ H2 r hx hy pc hr2;rw[hPc] at pc;obtain⟨o0,o1,s2,rfl,rfl⟩:=pc;obtain⟨dx,hdx,tx⟩:=ts1.get hx;obtain⟨dy,hdy,ty⟩:=ts2.get hy;rw[hdx] at hdy;cases hdy;have s3:=aA (o:=HO.tup [x,y]) hr2;have s13:=(s1.trans s2).trans s3;push_cast;refine⟨x,y,ok,dx,rfl,tx.same s13,ty.same s13,by have:=(Ao (BF hdx)).1;omega,fun H4 s4=>?_⟩;rw[hPc];refine⟨_,_,(s2.trans s3).trans s4,?_,rfl⟩;rw[List.replicate_succ',DJ];rfl
   intro acc τ H2 d2 pc hd2;rw[hPc] at pc;obtain⟨o0,o1,s2,rfl,rfl⟩:=pc;have s3:=s1.trans (s2.trans (aA (o:=HO.lst ((BD xs1.length true).map V.bl)) hd2));have e3:upd H2 d2 (HO.lst ((BD xs1.length true).map V.bl)) d2=_:=aB;generalize upd H2 d2 (HO.lst ((BD xs1.length true).map V.bl))=H3 at s3 e3 |-;push_cast [e3];refine⟨_,rfl,?_⟩;rw[show(BD xs1.length true).all id=true by simp];exact q _ s3
 | tup o1 e1 z1 ts1=>
  rename_i p1 xs1 ds;cases ty with
  | tup o2 e2 z2 ts2=>
   rename_i p2 xs2;have l1:=ts1.length;have l2:=ts2.length;refine aK fun k hk=>?_;push_cast [e1,e2];refine⟨aO δ,fun t ht=>?_⟩;have s1:=aA (o:=HO.tup [V.ty "list",V.ty "tuple"]) ht;have e1:=s1 _ _ e1;have e2:=s1 _ _ e2;generalize upd H t (HO.tup [V.ty "list",V.ty "tuple"])=H1 at s1 e1 e2 |-;push_cast [e1,e2];rw[decide_eq_true (show(xs1.length:Int)=(xs2.length:Int) by omega),F0,if_neg δ];refine gC fun R hR=>?_;push_cast [e1,e2];obtain⟨Pc,hPc⟩:∃Pv:Nat->List V->L2.St->Hp->Prop,Pv=fun(i:Nat) acc τ H'=>∃(o0 o1:Option V),Same H1 H'/\acc=(BD i true).map V.bl/\τ=[o0,o1]:=⟨_,rfl⟩;refine Yw hR (xs:=xs1) (ys:=xs2) (aO z1) ω Pc (by rw[hPc];exact⟨_,_,Same.refl _,rfl,rfl⟩) ?_ ?_ ?_ ?_
   ·intro i acc τ H2 pc;rw[hPc] at pc;obtain⟨_,_,_,rfl,_⟩:=pc;simp
   ·intro i acc τ H2 pc;rw[hPc] at pc;obtain⟨_,_,s2,_,_⟩:=pc;exact⟨s2 _ _ e1,s2 _ _ e2⟩
   ·intro i x y acc τ H2 r hx hy pc hr2;rw[hPc] at pc;obtain⟨o0,o1,s2,rfl,rfl⟩:=pc;obtain⟨dx,hdx,tx⟩:=ts1.get hx;obtain⟨dy,hdy,ty⟩:=ts2.get hy;rw[hdx] at hdy;cases hdy;have s3:=aA (o:=HO.tup [x,y]) hr2;have s13:=(s1.trans s2).trans s3;push_cast;refine⟨x,y,ok,dx,rfl,tx.same s13,ty.same s13,by have:=(Ao (BF hdx)).2;omega,fun H4 s4=>?_⟩;rw[hPc];refine⟨_,_,(s2.trans s3).trans s4,?_,rfl⟩;rw[List.replicate_succ',DJ];rfl
   intro acc τ H2 d2 pc hd2;rw[hPc] at pc;obtain⟨o0,o1,s2,rfl,rfl⟩:=pc;have s3:=s1.trans (s2.trans (aA (o:=HO.lst ((BD xs1.length true).map V.bl)) hd2));have e3:upd H2 d2 (HO.lst ((BD xs1.length true).map V.bl)) d2=_:=aB;generalize upd H2 d2 (HO.lst ((BD xs1.length true).map V.bl))=H3 at s3 e3 |-;push_cast [e3];refine⟨_,rfl,?_⟩;rw[show(BD xs1.length true).all id=true by simp];exact q _ s3
theorem same_none:cU P w K mg base CX0 0 f fd q8_ (su 0):=by
 have no:∀vs H Q E,¬su 0 vs H Q E:=fun vs H Q E h=>by
  obtain⟨x,y,ok,d,_,_,_,h1,_⟩:=h;omega
 exact⟨fun vs H Q E h=>absurd h (no vs H Q E),fun A outer s H args us vs Q E _ _ _ _ h=>absurd h (no vs H Q E)⟩
abbrev yU:List Str:=["width","sign"]
abbrev nW:Stmt:=top 1
theorem Lz:bA yU q5_ (aj nW):=⟨rfl,rfl,rfl,ψ,rfl,ψ,ψ⟩
theorem HX:NM_ yU nW 0 "width" := .of ψ
theorem HW:NM_ yU nW 1 "sign" := .of ψ
theorem Ay:Bn "least_of" := ⟨ψ,ψ⟩
abbrev Du:List Str:=["width","sign"]
abbrev sS:Stmt:=top 2
theorem Qi:bA Du q5_ (aj sS):=⟨rfl,rfl,rfl,ψ,rfl,ψ,ψ⟩
theorem Ae:NM_ Du sS 0 "width" := .of ψ
theorem M5:NM_ Du sS 1 "sign" := .of ψ
theorem yK:Bn "most_of" := ⟨ψ,ψ⟩
abbrev qu:List Str:=["pattern","width","sign"]
abbrev iT:Stmt:=top 4
theorem G9:bA qu q15_ (aj iT):=⟨rfl,rfl,rfl,ψ,rfl,ψ,ψ⟩
theorem oW:NM_ qu iT 0 "pattern" := .of ψ
theorem vz:NM_ qu iT 1 "width" := .of ψ
theorem Fj:NM_ qu iT 2 "sign" := .of ψ
theorem uZ:GI_ iT "most_of" := by decide +kernel
theorem Ju:Bn "number_of" := ⟨ψ,ψ⟩
theorem Ry (F:Fun K "most_of" "most_of" sS f fd):cU P w K mg base CX0 1 f fd q5_ vZ:=by
 refine F.okq Qi (fun vs H Q E h=>?_) (fun cdv A outer s H vs Q E hr h=>?_)
 ·obtain⟨w,s,rfl,_⟩:=h;rfl
 obtain⟨w,s,rfl,h1,h2,hs,q⟩:=h;refine⟨_,(aD (b8 (aU (bV hr.bF) (ao M5) aq (aL _)) (aH (aM (aJ dZ (aJ dN aq (ao Ae)) aq))) bJ)
  (aH (aM (aJ dZ (aJ dN aq (aJ dZ (ao Ae) aq)) aq)))),?_⟩
 have e:=lR h1;unfold wl at q;push_cast [FO];rcases hs with rfl|rfl
 ·rw[if_pos rfl];rw[mul_zero,sub_zero,HR] at q;exact⟨⟨ω,ω,δ⟩,q⟩
 rw[if_neg δ];refine⟨⟨ω,ω,δ⟩,?_⟩;rw[show(0:Int)-2^(w-1).toNat*1+2^w.toNat-1=2^(w-1).toNat-1 by omega] at q;exact q
theorem Rx (hB:∀x:Str,x∈BLs->mg x=none) (CMostOf:Cal P w K mg base "most_of" 1 q5_ vZ) (F:Fun K "number_of" "number_of" iT f fd):cU P w K mg base CX0 2 f fd q15_ JM:=by
 refine F.okq G9 (fun vs H Q E h=>?_) (fun cdv A outer s H vs Q E hr h=>?_)
 ·obtain⟨w,s,p,rfl,_⟩:=h;rfl
 obtain⟨w,s,p,rfl,h1,h2,hs,hp,q⟩:=h;refine⟨_,(aD (b8 (aU En (ao oW) (bG CMostOf (hr.mono δ) uZ yK (ak (ao vz) (ak (ao Fj) au rfl) rfl) rfl rfl) (aL _)) (aH (aM (aJ dZ (ao oW) (aJ dN aq (ao vz))))) bJ)
  (aH (aM (ao oW)))),?_⟩
 rw[aaU h1 hs hp] at q;push_cast [FO];refine⟨w,s,rfl,h1,h2,hs,?_⟩;push_cast [FO];by_cases c:wl w s+2^w.toNat-1<(p:Int)
 ·rw[if_pos c] at q;rw[if_pos (by simpa using c)];exact⟨⟨ω,ω,δ⟩,q⟩
 rw[if_neg c] at q;rw[if_neg (by simpa using c)];exact q
abbrev ux:List Str:=["spans","told","low","high"]
abbrev ju:Stmt:=top 6
theorem sI:bA ux ["spans"] (aj ju):=⟨rfl,rfl,rfl,ψ,rfl,ψ,ψ⟩
theorem M6:NM_ ux ju 0 "spans" := .of ψ
theorem gK:NM_ ux ju 1 "told" := .of ψ
theorem uO:NM_ ux ju 2 "low" := .of ψ
theorem uN:NM_ ux ju 3 "high" := .of ψ
theorem Fx:GI_ ju "max" := by decide +kernel
theorem yp:GI_ ju "sorted" := by decide +kernel
theorem Ux:Bn "joined" := ⟨ψ,ψ⟩
theorem MK (hB:∀x:Str,x∈BLs->mg x=none) (F:Fun K "joined" "joined" ju f fd):cU P w K mg base CX0 1 f fd ["spans"] JQ:=by
 refine F.okq sI (fun vs H Q E h=>?_) (fun cdv A outer s H vs Q E hr h=>?_)
 ·obtain⟨l,us,ss,rfl,_⟩:=h;rfl
 obtain⟨l,us,ss,rfl,el,t,hd,hl,q⟩:=h;refine⟨_,(aD (bK gK sI.nd (cO au) rfl (.inl rfl))
  (aD (fJ CA rfl (dB (cF yE yp (hB "sorted" qg) G2 u9 (ak (ao M6) au rfl) rfl rfl)) (eX (n:=2) rfl (aQ (cB uO sI.nd (.inl rfl)) (aQ (cB uN sI.nd (.inl rfl)) dF rfl) rfl) rfl rfl)
  (aH (b8 (zj (wO (aae (ao gK)) (v5 (aU vo (ao uO) (aJ bw (aY bY (aY bY (ao gK) (nY jD aq) (fun _ _=>rfl)) aq (fun _ _=>rfl)) aq) (aL _))))) (aH (jJ (cI (ak (aY bY (aY bY (ao gK) (nY jD aq) (fun _ _=>rfl)) aq (fun _ _=>rfl)) (ak (cF (Ar rfl) Fx (hB "max" Sg) boot_max Us (ak (ao uN) (ak (aY bY (aY bY (ao gK) (nY jD aq) (fun _ _=>rfl)) aq (fun _ _=>rfl)) au rfl) rfl) rfl rfl) au rfl) rfl)) (Wg (ao gK) (nY jD aq) JX) rfl rfl rfl)) (aH (gP (mH (ao gK) (cI (ak (ao uO) (ak (ao uN) au rfl) rfl)) rfl rfl rfl rfl rfl) rfl)))) (fun _=>rfl))
  (aH (aM (ao gK))))),?_⟩
 refine aK fun k hk=>?_;push_cast;refine⟨aO δ,fun r hr0=>?_⟩;have s0:=aA (o:=HO.lst []) hr0;have e0:upd H r (HO.lst []) r=_:=aB;generalize upd H r (HO.lst [])=H0 at s0 e0 |-;subst hk;refine aK fun k hk=>?_;refine jr fun R hR=>?_;push_cast;obtain⟨ps,rfl⟩:=t.refs;obtain⟨e1,e2⟩:=t.read (dec:=n6 H) J7;have hpl:ps.length=ss.length:=by have:=t.length;rwa [AV] at this
 refine⟨l,ps,fun p=>(n6 H p).1,fun p=>(n6 H p).2,rfl,s0 _ _ el,ω,fun p m=>⟨s0 _ _ (e2 p m),(hd _ (by rw[e1];exact MS m)).2⟩,fun d qs hd0 hp ho=>?_⟩;have s1:Same H (upd H0 d (.lst (qs.map V.ref))):=s0.trans (aA hd0);have ed:upd H0 d (.lst (qs.map V.ref)) d=_:=aB;have er:upd H0 d (.lst (qs.map V.ref)) r=some (.lst []):=by rw[aF (aG e0 hd0)];exact e0
 have ndr:d≠r:=(aG e0 hd0).symm;generalize upd H0 d (.lst (qs.map V.ref))=H1 at s1 ed er |-;have tz:bN prE H (qs.map V.ref) (qs.map (n6 H)):=.of_map fun p m=>e2 p (hp.mem_iff.mp m);have pz:(qs.map (n6 H)).Perm ss:=by rw[e1];exact hp.map _
 have hn:∀s,s∈qs.map (n6 H)->s.1<=s.2:=fun s m=>(hd s (pz.mem_iff.mp m)).1;have hu:(qs.map (n6 H)).Pairwise fun a b=>a.1<=b.1:=by
  refine GN.mpr (ho.imp fun {a b} z=>?_);rcases z with z|z
  ·exact Int.le_of_lt z
  exact Int.le_of_eq z.1
 generalize hzs:qs.map (n6 H)=zs at tz pz hn hu;push_cast [ed];obtain⟨Pv,hPv⟩:∃Pv:Nat->L2.St->Hp->Prop,Pv=fun(i:Nat) σ H'=>∃(told:List (Int×Int)) (us':List V) (o2 o3:Option V),Same H H'/\H' d=some (.lst (qs.map V.ref))/\H' r=some (.lst us')/\bN prE H' us' told/\JW zs told i/\σ=[some (.ref l),some (.ref r),o2,o3]:=⟨_,rfl⟩;have zl:zs.length=(qs.map V.ref).length:=tz.length.symm;have zll:=pz.length_eq;refine yw hR Pv (by rw[hPv];exact⟨[],[],_,_,s1,ed,er,.nil,.start _,rfl⟩) (fun i σ H' _ pv=>by rw[hPv] at pv;obtain⟨_,_,_,_,_,e,_⟩:=pv;exact SqL.of e) ?_ ?_
 ·intro i x σ H2 hx pv;rw[hPv] at pv;obtain⟨told,us',o2,o3,s2,ed2,er2,t2,ji,rfl⟩:=pv;obtain⟨p,z,rfl,hz,ep⟩:=(tz.same s2).got hx;replace ep:H2 p=some (.tup [.int z.1,.int z.2]):=ep;have li:i<zs.length:=(AF.mp hz).1;have lt:=ji.ln;have le:=t2.length;rcases LZ told with e0|⟨pre,t0,e0⟩
  ·subst e0;cases t2;push_cast [ep,er2];refine⟨aO δ,fun q hq=>?_⟩;have er3:upd H2 q (.tup [.int z.1,.int z.2]) r=some (.lst []):=by rw[aF (aG er2 hq)];exact er2
   push_cast [er3];refine⟨δ,?_⟩;rw[hPv];exact⟨[z],_,_,_,wM s2 hr0 hq,GJ ed2 ndr hq,aB,bN.push .nil z er2 hq,ji.fresh hz hn hu (fun t q=>by cases q),rfl⟩
  rw[List.concat_eq_append] at e0;subst e0;obtain⟨vs,pt,rfl,tv,ept⟩:=t2.split;replace ept:H2 pt=some (.tup [.int t0.1,.int t0.2]):=ept;have la:=K6 vs (V.ref pt);push_cast [ep,er2,la,ept,Ke];have mx:(if t0.2>z.2 then t0.2 else z.2)=max z.2 t0.2:=by split <;> omega
  rw[mx];by_cases c:z.1<=t0.2+1
  ·rw[if_pos c];refine⟨aO δ,fun q hq=>?_⟩;have er3:upd H2 q (.tup [.int t0.1,.int (max z.2 t0.2)]) r=some (.lst (vs++[.ref pt])):=by rw[aF (aG er2 hq)];exact er2
   push_cast [er3];refine⟨_,XJ vs _,?_⟩;rw[P0,hPv];exact⟨pre++[(t0.1,max z.2 t0.2)],_,_,_,wM s2 hr0 hq,GJ ed2 ndr hq,aB,bN.swap tv (t0.1,max z.2 t0.2) er2 hq,ji.grown hz hn hu c,rfl⟩
  rw[if_neg c];refine⟨aO δ,fun q hq=>?_⟩;have er3:upd H2 q (.tup [.int z.1,.int z.2]) r=some (.lst (vs++[.ref pt])):=by rw[aF (aG er2 hq)];exact er2
  push_cast [er3];refine⟨AN (show(vs++[V.ref pt]).length<1000000 by omega) (aO (AY 1000000)),?_⟩;rw[hPv];exact⟨(pre++[t0])++[z],_,_,_,wM s2 hr0 hq,GJ ed2 ndr hq,aB,bN.push t2 z er2 hq,ji.fresh hz hn hu (fun t q=>by rw[List.getLast?_append] at q;cases q;exact c),rfl⟩
 intro σ H2 pv;rw[hPv] at pv;obtain⟨told,us',o2,o3,s2,ed2,er2,t2,ji,rfl⟩:=pv;subst hk;push_cast;refine q r H2 us' told s2 hr0 er2 t2 ji.gap (fun n=>?_) ?_
 ·rw[ji.cv,<- zl,DD];exact Ug pz
 have:=ji.ln;omega
abbrev cJ:List Str:=["width","sign","mask","value","block","starts","place","bit","lows"]
abbrev bL:Stmt:=top 7
theorem eU:bA cJ q10_ (aj bL):=⟨rfl,rfl,rfl,ψ,rfl,ψ,ψ⟩
theorem mQ:NM_ cJ bL 0 "width" := .of ψ
theorem tO:NM_ cJ bL 1 "sign" := .of ψ
theorem iD:NM_ cJ bL 2 "mask" := .of ψ
theorem mO:NM_ cJ bL 3 "value" := .of ψ
theorem tM:NM_ cJ bL 4 "block" := .of ψ
theorem iC:NM_ cJ bL 5 "starts" := .of ψ
theorem tL:NM_ cJ bL 6 "place" := .of ψ
theorem tK:NM_ cJ bL 7 "bit" := .of ψ
theorem tH:NM_ cJ bL 8 "lows" := .of ψ
theorem rG:GI_ bL "least_of" := by decide +kernel
theorem um:GI_ bL "most_of" := by decide +kernel
theorem u5:GI_ bL "range" := by decide +kernel
theorem Gh:Bn "bits_spans" := ⟨ψ,ψ⟩
abbrev nu:List Str:=["width","sign","item"]
abbrev gn:Stmt:=top 8
theorem DW:bA nu q18_ (aj gn):=⟨rfl,rfl,rfl,ψ,rfl,ψ,ψ⟩
theorem Ci:NM_ nu gn 0 "width" := .of ψ
theorem Cg:NM_ nu gn 1 "sign" := .of ψ
theorem dG:NM_ nu gn 2 "item" := .of ψ
theorem pH:GI_ gn "bits_spans" := by decide +kernel
theorem Gf:Bn "item_spans" := ⟨ψ,ψ⟩
abbrev jb:List Str:=["width","sign","items","spans","item"]
abbrev dJ:Stmt:=top 9
theorem nT:bA jb q12_ (aj dJ):=⟨rfl,rfl,rfl,ψ,rfl,ψ,ψ⟩
theorem Cp:NM_ jb dJ 0 "width" := .of ψ
theorem Ck:NM_ jb dJ 1 "sign" := .of ψ
theorem Cj:NM_ jb dJ 2 "items" := .of ψ
theorem mL:NM_ jb dJ 3 "spans" := .of ψ
theorem tG:NM_ jb dJ 4 "item" := .of ψ
theorem pJ:GI_ dJ "item_spans" := by decide +kernel
theorem uh:GI_ dJ "joined" := by decide +kernel
theorem vD:Bn "case_spans" := ⟨ψ,ψ⟩
theorem MF (F:Fun K "least_of" "least_of" nW f fd):cU P w K mg base CX0 1 f fd q5_ wI:=by
 refine F.okq Lz (fun vs H Q E h=>?_) (fun cdv A outer s H vs Q E hr h=>?_)
 ·obtain⟨w,s,rfl,_⟩:=h;rfl
 obtain⟨w,s,rfl,h1,h2,hs,q⟩:=h;refine⟨_,(aD (b8 (aU (bV hr.bF) (ao HW) aq (aL _)) (aH (aM aq)) bJ)
  (aH (aM (nY jD (aJ dN aq (aJ dZ (ao HX) aq)))))),?_⟩
 unfold wl at q;push_cast [FO];rcases hs with rfl|rfl
 ·rw[if_pos rfl];rw[mul_zero,sub_zero] at q;exact q
 rw[if_neg δ];refine⟨⟨ω,ω,δ⟩,?_⟩;rw[My,Int.zero_sub] at q;exact q
theorem aaT (hB:∀x:Str,x∈BLs->mg x=none) (CLeastOf:Cal P w K mg base "least_of" 1 q5_ wI) (CMostOf:Cal P w K mg base "most_of" 1 q5_ vZ) (CNumberOf:Cal P w K mg base "number_of" 2 q15_ JM) (F:Fun K "bits_spans" "bits_spans" bL f fd):cU P w K mg base CX0 3 f fd q10_ Zk:=by
 refine F.okq eU (fun vs H Q E h=>?_) (fun cdv A outer s H vs Q E hr h=>?_)
 ·obtain⟨w,s,m,v,rfl,_⟩:=h;rfl
 obtain⟨w,s,m,v,rfl,h1,h2,hs,hok,q⟩:=h;refine⟨_,(aD (b8 (aU (kZ hr.bF) (aJ jh (ao mO) (ao iD)) (ao mO) (aL _)) (aH (aM (cO au))) bJ)
  (aD (b8 (aU (bV hr.bF) (ao iD) aq (aL _)) (aH (aM (cO (ak (cI (ak (bG CLeastOf (hr.mono δ) rG Ay (ak (ao mQ) (ak (ao tO) au rfl) rfl) rfl rfl) (ak (bG CMostOf (hr.mono δ) um yK (ak (ao mQ) (ak (ao tO) au rfl) rfl) rfl rfl) au rfl) rfl)) au rfl)))) bJ)
  (aD (bK tM eU.nd (aJ jh (ao iD) (nY jD (ao iD))) rfl (.inl rfl))
  (aD (bK iC eU.nd (cO (ak (ao mO) au rfl)) rfl (.inl rfl))
  (aD (fJ CA rfl (Ml u5 (hB "range" fP) (ak (Wk (ao tM)) (ak (ao mQ) au rfl) rfl) rfl rfl) (cB tL eU.nd (.inl rfl))
  (aD (bK tK eU.nd (aJ dN aq (ao tL)) rfl (.inl rfl))
  (aH (b8 (aU (bV hr.bF) (aJ jh (ao iD) (ao tK)) aq (aL _)) (aH (bK iC eU.nd (aJ bw (ao iC) (gQ (NX:=cJ) (kX:=(aj bL).names) ["start","bit"] [none,some 7] rfl rfl ⟨rfl,ψ,ψ,ψ,ψ⟩ rfl (dB (ao iC)) (fun _ _ _ _ _=>(cM 0 (show C4 (["start","bit"]:List Str) from by decide +kernel) rfl (ET rfl))) (fun _ _ _ _ _=>nZ) (fun _ _ _ _ _=>(aJ bw (bR 0) (bR 1))))) rfl (.inl rfl))) bJ))) (fun _=>rfl))
  (aD (BJ (NX:=cJ) (kX:=(aj bL).names) ["start","width","sign"] [none,some 0,some 1] tH eU.nd rfl rfl ⟨rfl,ψ,ψ,ψ,ψ⟩ rfl (dB (ao iC)) (fun _ _ _ _ _=>(cM 0 (show C4 (["start","width","sign"]:List Str) from by decide +kernel) rfl (ET rfl))) (fun _ _ _ _ _=>nZ) (fun _ _ _ _ _=>(bG CNumberOf (hr.mono δ) rfl Ju (ak (bR 0) (ak (bR 1) (ak (bR 2) au rfl) rfl) rfl) rfl rfl)))
  (aH (aM (gQ (NX:=cJ) (kX:=(aj bL).names) ["low","block"] [none,some 4] rfl rfl ⟨rfl,ψ,ψ,ψ,ψ⟩ rfl (dB (ao tH)) (fun _ _ _ _ _=>(cM 0 (show C4 (["low","block"]:List Str) from by decide +kernel) rfl (ET rfl))) (fun _ _ _ _ _=>nZ) (fun _ _ _ _ _=>(cI (ak (bR 0) (ak (aJ dZ (aJ bw (bR 0) (bR 1)) aq) au rfl) rfl)))))))))))),?_⟩
 obtain⟨hm,hv,hf⟩:=hok;have p40:=gG (k:=w.toNat) ω;by_cases hvm:v &&& m=v
 case neg=>
  push_cast [gD,ofNat_inj,decide_eq_false hvm,EB];exact⟨D2 _,fun p hp=>q p _ [] [] (aA hp) hp aB .nil (abj hvm)⟩
 refine aK fun k hk=>?_;push_cast [gD,hvm,F0,decide_true];subst hk;refine aK fun k hk=>?_;push_cast;split
 ·rename_i hm0;have hm1:m=0:=ω;subst hm1;refine⟨w,s,rfl,h1,h2,hs,w,s,rfl,h1,h2,hs,aO δ,fun p hp=>⟨aO δ,fun p2 hp2=>?_⟩⟩;exact q p2 _ _ [(wl w s,wl w s+2^w.toNat-1)] ((aA hp).trans (aA hp2)) (none_of (aA hp) hp2) aB (.cons (aA hp2 _ _ aB) .nil) (X7 hvm)
 rename_i hm0;obtain⟨t,ht,hl⟩:=Kl (m:=m) ω;have tW:t<w.toNat:=by
  rcases C5 t w.toNat with c|c
  ·exact c
  rw[Cn (AN hm (B6 δ c))] at ht;cases ht
 subst hk;refine aK fun k hk=>?_;push_cast [Y6 ht hl];subst hk;refine aK fun k hk=>?_;push_cast;refine⟨aO δ,fun st hst=>?_⟩;have s1:=aA (o:=HO.lst [V.int (v:Int)]) hst;have e1:upd H st (HO.lst [V.int (v:Int)]) st=some (.lst (bW (bh m v t 0))):=aB;generalize upd H st (HO.lst [V.int (v:Int)])=H1 at s1 e1 |-;subst hk;refine aK fun k hk=>?_;refine jr fun R hR=>?_;push_cast [Ti,Pa,YM,Uz];refine⟨⟨ω,ω,ω,ω⟩,?_⟩;have en:(w-((t+1:Nat):Int)).toNat=w.toNat-(t+1):=ω;rw[en];obtain⟨Pv,hPv⟩:∃Pv:Nat->L2.St->Hp->Prop,Pv=fun(i:Nat) σ H'=>∃(st:Addr)(o6 o7:Option V),Same H1 H'/\H' st=some (.lst (bW (bh m v t i)))/\σ=[some (.int w),some (.int s),some (.int m),some (.int v),some (.int (2^t)),some (.ref st),o6,o7,none]:=⟨_,rfl⟩;refine yu hR Pv (by rw[hPv];exact⟨_,_,_,Same.refl _,e1,rfl⟩) ?_ ?_
 ·intro i σ H2 hi pv;rw[hPv] at pv;obtain⟨st2,o6,o7,s2,e2,rfl⟩:=pv;have hk1:((t+1:Nat):Int)+(i:Int)=((t+1+i:Nat):Int):=ω;rw[hk1];refine aK fun k2 hk2=>?_;push_cast [FO,C0];refine⟨⟨ω,ω,δ⟩,?_⟩;subst hk2;have hz:=uF (v:=v) hf ht hl tW (IQ hi);push_cast [Gs];cases hb:m.testBit (t+1+i) with
  | true=>
   have hne:((2:Int)^(t+1+i))≠0:=Int.ne_of_gt (two_pow_pos _);push_cast [hne];rw[hPv];exact⟨st2,_,_,s2,by rw[e2,DQ hb],rfl⟩
  | false=>
   push_cast;refine gC fun R2 hR2=>?_;push_cast [e2];obtain⟨Pc,hPc⟩:∃Pv:Nat->List V->L2.St->Hp->Prop,Pv=fun(j:Nat) acc τ H'=>∃(o1:Option V),H'=H2/\acc=bW (((bh m v t i).take j).map (· + 2^(t+1+i)))/\τ=[o1,some (.int (2^(t+1+i)))]:=⟨_,rfl⟩;refine rJ hR2 (xs:=bW (bh m v t i)) (aO (by rw[cV];omega)) Pc (by rw[hPc];exact⟨none,rfl,rfl,rfl⟩) ?_ ?_ ?_ ?_
   ·intro j acc τ H3 pc;rw[hPc] at pc;obtain⟨o1,rfl,rfl,rfl⟩:=pc;rw[cV,AV];exact GH _ _
   ·intro j acc τ H3 pc;rw[hPc] at pc;obtain⟨o1,rfl,rfl,rfl⟩:=pc;exact SqL.of e2
   ·intro j x acc τ H3 hx pc;rw[hPc] at pc;obtain⟨o1,rfl,rfl,rfl⟩:=pc;unfold bW at hx;rw[BH] at hx;obtain⟨x0,hx0,rfl⟩:=B8.mp hx;push_cast;rw[hPc];refine⟨_,rfl,?_,rfl⟩;rw[CM,hx0,DJ];simp [bW]
   intro acc τ H3 d pc hd;rw[hPc] at pc;obtain⟨o1,rfl,rfl,rfl⟩:=pc;rw[show(bW (bh m v t i)).length=(bh m v t i).length from cV _,DD];have s3:=aA (o:=HO.lst (bW ((bh m v t i).map (· + 2^(t+1+i))))) hd;have e3:upd H3 d (HO.lst (bW ((bh m v t i).map (· + 2^(t+1+i))))) d=_:=aB;generalize upd H3 d (HO.lst (bW ((bh m v t i).map (· + 2^(t+1+i)))))=H4 at s3 e3 |-;have e4:=s3 _ _ e2;push_cast [e3,e4];rw[Lq hb];refine⟨?_,fun p5 hp5=>?_⟩
   ·rw[cV,cV,AV];exact aO ω
   rw[hPv];exact⟨p5,_,_,s2.trans (s3.trans (aA hp5)),aB,rfl⟩
 intro σ H2 pv;rw[hPv] at pv;obtain⟨st2,o6,o7,s2,e2,rfl⟩:=pv;show k _ _;subst hk;have hz:=uF (v:=v) hf ht hl tW (AY _);have hx1:∀{x:Nat},x∈bh m v t (w.toNat-(t+1))->x<2^w.toNat:=fun mx=>(lZ hvm hm ht hl mx).1;have isp:=S9 h1 hs ⟨hm,hv,hf⟩ hvm ht hl;unfold K3 at isp;generalize bh m v t (w.toNat-(t+1))=xs at e2 hz hx1 isp;refine aK fun k hk=>?_;push_cast;refine gC fun R2 hR2=>?_;push_cast [e2];obtain⟨Pc,hPc⟩:∃Pv:Nat->List V->L2.St->Hp->Prop,Pv=fun(j:Nat) acc τ H'=>∃(o1:Option V),H'=H2/\acc=((xs.take j).map (nOf w.toNat s)).map V.int/\τ=[o1,some (.int w),some (.int s)]:=⟨_,rfl⟩;refine rJ hR2 (xs:=bW xs) (aO (by rw[cV];omega)) Pc (by rw[hPc];exact⟨none,rfl,rfl,rfl⟩) ?_ ?_ ?_ ?_
 ·intro j acc τ H3 pc;rw[hPc] at pc;obtain⟨o1,rfl,rfl,rfl⟩:=pc;rw[AV,AV];exact GH _ _
 ·intro j acc τ H3 pc;rw[hPc] at pc;obtain⟨o1,rfl,rfl,rfl⟩:=pc;exact SqL.of e2
 ·intro j x acc τ H3 hx pc;rw[hPc] at pc;obtain⟨o1,rfl,rfl,rfl⟩:=pc;unfold bW at hx;rw[BH] at hx;obtain⟨x0,hx0,rfl⟩:=B8.mp hx;push_cast;refine⟨w,s,x0,rfl,h1,h2,hs,hx1 (BF hx0),?_⟩;rw[hPc];refine⟨_,rfl,?_,rfl⟩;rw[CM,hx0,DJ,DJ];rfl
 intro acc τ H3 d pc hd;rw[hPc] at pc;obtain⟨o1,rfl,rfl,rfl⟩:=pc;rw[cV,DD];have s3:=s2.trans (aA (o:=HO.lst ((xs.map (nOf w.toNat s)).map V.int)) hd);have e3:upd H3 d (HO.lst ((xs.map (nOf w.toNat s)).map V.int)) d=_:=aB;generalize upd H3 d (HO.lst ((xs.map (nOf w.toNat s)).map V.int))=H4 at s3 e3 |-;subst hk;push_cast;refine gC fun R3 hR3=>?_;push_cast [e3];obtain⟨Pd,hPd⟩:∃Pv:Nat->List V->L2.St->Hp->Prop,Pv=fun(j:Nat) acc τ H'=>∃(o1:Option V),Same H4 H'/\bN prE H' acc ((xs.take j).map fun x=>(nOf w.toNat s x,nOf w.toNat s x+2^t-1))/\τ=[o1,some (.int (2^t))]:=⟨_,rfl⟩;refine rJ hR3 (xs:=(xs.map (nOf w.toNat s)).map V.int) (aO (by rw[AV,AV];omega)) Pd (by rw[hPd];exact⟨none,Same.refl _,.nil,rfl⟩) ?_ ?_ ?_ ?_
 ·intro j acc τ H5 pc;rw[hPd] at pc;obtain⟨o1,s5,t5,rfl⟩:=pc;rw[t5.length,AV];exact GH _ _
 ·intro j acc τ H5 pc;rw[hPd] at pc;obtain⟨o1,s5,t5,rfl⟩:=pc;exact SqL.of (s5 _ _ e3)
 ·intro j x acc τ H5 hx pc;rw[hPd] at pc;obtain⟨o1,s5,t5,rfl⟩:=pc;rw[BH] at hx;obtain⟨y0,hy0,rfl⟩:=B8.mp hx;rw[BH] at hy0;obtain⟨x0,hx0,rfl⟩:=B8.mp hy0;push_cast;refine⟨aO δ,fun p6 hp6=>?_⟩;rw[hPd];refine⟨_,s5.trans (aA hp6),?_,rfl⟩;rw[CM,hx0,DJ];exact(t5.same (aA hp6)).snoc (x:=(nOf w.toNat s x0,nOf w.toNat s x0+2^t-1)) aB
 intro acc τ H5 d2 pc hd2;rw[hPd] at pc;obtain⟨o1,s5,t5,rfl⟩:=pc;rw[AV,AV,DD] at t5;have s6:=(s1.trans s3).trans s5;exact q d2 _ acc _ (s6.trans (aA hd2)) (none_of s6 hd2) aB (t5.same (aA hd2)) isp
theorem aaR (hB:∀x:Str,x∈BLs->mg x=none) (CBitsSpans:Cal P w K mg base "bits_spans" 3 q10_ Zk) (F:Fun K "item_spans" "item_spans" gn f fd):cU P w K mg base CX0 4 f fd q18_ Zj:=by
 refine F.okq DW (fun vs H Q E h=>?_) (fun cdv A outer s H vs Q E hr h=>?_)
 ·obtain⟨w,s,t,it,rfl,_⟩:=h;rfl
 obtain⟨w,s,t,it,rfl,h1,h2,hs,⟨hi⟩,hok,q⟩:=h;refine⟨_,(aD (b8 (aU (bV hr.bF) (aY bY (ao dG) aq (fun _ _=>rfl)) dM (aL _)) (aH (aM (cO (ak (cI (ak (aY bY (ao dG) aq (fun _ _=>rfl)) (ak (aY bY (ao dG) aq (fun _ _=>rfl)) au rfl) rfl)) au rfl)))) bJ)
  (aD (b8 (aU (bV hr.bF) (aY bY (ao dG) aq (fun _ _=>rfl)) dM (aL _)) (aH (aM (cO (ak (cI (ak (aY bY (ao dG) aq (fun _ _=>rfl)) (ak (aY bY (ao dG) aq (fun _ _=>rfl)) au rfl) rfl)) au rfl)))) bJ)
  (aH (aM (bG CBitsSpans (hr.mono δ) pH Gh (ak (ao Ci) (ak (ao Cg) (ak (aY bY (ao dG) aq (fun _ _=>rfl)) (ak (aY bY (ao dG) aq (fun _ _=>rfl)) au rfl) rfl) rfl) rfl) rfl rfl))))),?_⟩
 cases it with
 | one a=>
  push_cast [hi];refine⟨aO δ,fun p hp=>⟨aO δ,fun p2 hp2=>?_⟩⟩;exact q p2 _ _ [(a,a)] ((aA hp).trans (aA hp2)) (none_of (aA hp) hp2) aB (.cons (aA hp2 _ _ aB) .nil) (X6 hok)
 | rng a b=>
  push_cast [hi];refine⟨aO δ,fun p hp=>⟨aO δ,fun p2 hp2=>?_⟩⟩;exact q p2 _ _ [(a,b)] ((aA hp).trans (aA hp2)) (none_of (aA hp) hp2) aB (.cons (aA hp2 _ _ aB) .nil) (X5 hok)
 | bits m v=>
  push_cast [hi];exact⟨w,s,m,v,rfl,h1,h2,hs,hok,q⟩
theorem aaS (hB:∀x:Str,x∈BLs->mg x=none) (CItemSpans:Cal P w K mg base "item_spans" 4 q18_ Zj) (CJoined:Cal P w K mg base "joined" 1 ["spans"] JQ) (F:Fun K "case_spans" "case_spans" dJ f fd):cU P w K mg base CX0 5 f fd q12_ PN:=by
 refine F.okq nT (fun vs H Q E h=>?_) (fun cdv A outer s H vs Q E hr h=>?_)
 ·obtain⟨w,s,x,ok,its,rfl,_⟩:=h;rfl
 obtain⟨w,s,x,ok,its,rfl,h1,h2,hs,t,hok,hlen,q⟩:=h;refine⟨_,(aD (bK mL nT.nd (cO au) rfl (.inl rfl))
  (aD (fJ CA rfl (dB (ao Cj)) (cB tG nT.nd (.inl rfl))
  (aH (gP (J5 (ao mL) (bG CItemSpans (hr.mono δ) pJ Gf (ak (ao Cp) (ak (ao Ck) (ak (ao tG) au rfl) rfl) rfl) rfl rfl) rfl rfl rfl rfl rfl) rfl)) (fun _=>rfl))
  (aH (aM (bG CJoined (hr.mono δ) uh Ux (ak (ao mL) au rfl) rfl rfl))))),?_⟩
 obtain⟨q0,us,rfl,o,e,z,ts⟩:=jz t;have hul:=ts.length;rw[AV] at hul;have wb:=jy h1 h2 hs;refine aK fun k hk=>?_;push_cast;refine⟨aO δ,fun sp hsp=>?_⟩;have s0:=aA (o:=HO.lst []) hsp;have e0:upd H sp (HO.lst []) sp=some (.lst []):=aB;generalize upd H sp (HO.lst [])=H0 at s0 e0 |-;subst hk;refine aK fun k hk=>?_;refine jr fun R hR=>?_;have e1:=s0 _ _ e;push_cast [e1];obtain⟨Pv,hPv⟩:∃Pv:Nat->L2.St->Hp->Prop,Pv=fun(i:Nat) σ H'=>∃(vs:List V)(ys:List (Int×Int)) (o4:Option V),Same H H'/\H' sp=some (.lst vs)/\bN prE H' vs ys/\GSp w s (its.take i) ys/\σ=[some (.int w),some (.int s),some (.ref q0),some (.ref sp),o4]:=⟨_,rfl⟩;refine yw hR (xs:=us) Pv (by rw[hPv];exact⟨[],[],_,s0,e0,.nil,.nil,rfl⟩) (fun i σ H' _ pv=>?_) ?_ ?_
 ·rw[hPv] at pv;obtain⟨_,_,_,s',_⟩:=pv;exact SqL.of (s' _ _ e)
 ·intro i x σ H2 hx pv;rw[hPv] at pv;obtain⟨vs,ys,o4,s2,e2,t2,g2,rfl⟩:=pv;obtain⟨d,hd,td⟩:=(ts.same s2).get hx;rw[BH] at hd;obtain⟨it,hit,rfl⟩:=B8.mp hd;obtain⟨q5,rfl,o6,hi⟩:=pW td;have li:i<its.length:=(AF.mp hit).1;push_cast [DK,Ky,e2,tY];refine⟨w,s,q5,it,rfl,h1,h2,hs,hi,hok it (BF hit),fun r H3 us3 zs s3 hr3 e3 t3 i3=>?_⟩;have e23:=s3 _ _ e2;dsimp only;rw[Fz,e23,e3,T7];have l2:=t2.length;have l3:=t3.length;have l4:=i3.ln;have l5:=g2.ln;rw[D4] at l5;refine⟨aO ω,?_⟩;rw[hPv];refine⟨vs++us3,ys++zs,_,fun a o ha=>?_,aB,((t2.same s3).wB e23).app (t3.wB e23),?_,rfl⟩
  ·rw[aF (fun z=>by rw[z,hsp] at ha;cases ha)];exact s3 _ _ (s2 _ _ ha)
  rw[CM,hit];exact g2.snoc i3
 intro σ H2 pv;rw[hPv] at pv;obtain⟨vs,ys,o4,s2,e2,t2,g2,rfl⟩:=pv;show k _ _;subst hk;rw[hul,DD] at g2;push_cast;have hln:=g2.ln;refine⟨sp,vs,ys,rfl,e2,t2,fun y my=>?_,ω,fun r H3 us' zs s3 hr3 e3 t3 g3 c3 l3=>?_⟩
 ·have:=g2.ins y my;exact⟨this.2.1,ω,ω⟩
 exact q r H3 us' zs (s2.trans s3) (none_of s2 hr3) e3 t3 (g2.case g3 c3 l3)
abbrev rP:List Str:=["number","width"]
abbrev jH:Stmt:=top 3
theorem DR:bA rP ["number","width"] (aj jH):=⟨rfl,rfl,rfl,ψ,rfl,ψ,ψ⟩
theorem Cd:NM_ rP jH 0 "number" := .of ψ
theorem Ca:NM_ rP jH 1 "width" := .of ψ
theorem Gd:Bn "pattern_of" := ⟨ψ,ψ⟩
abbrev Dt:List Str:=["width","item","number"]
abbrev qT:Stmt:=top 12
theorem VJ:bA Dt q17_ (aj qT):=⟨rfl,rfl,rfl,ψ,rfl,ψ,ψ⟩
theorem RP:NM_ Dt qT 0 "width" := .of ψ
theorem jT:NM_ Dt qT 1 "item" := .of ψ
theorem xP:NM_ Dt qT 2 "number" := .of ψ
theorem uY:GI_ qT "pattern_of" := by decide +kernel
theorem YL:Bn "picks" := ⟨ψ,ψ⟩
theorem HJ (F:Fun K "pattern_of" "pattern_of" jH f fd):cU P w K mg base CX0 1 f fd ["number","width"] zT:=by
 refine F.okq DR (fun vs H Q E h=>?_) (fun cdv A outer s H vs Q E hr h=>?_)
 ·obtain⟨w,s,rfl,_⟩:=h;rfl
 obtain⟨n,w,rfl,h1,h2,q⟩:=h;refine⟨_,(aH (aM (aJ jh (ao Cd) (aJ dZ (aJ dN aq (ao Ca)) aq)))),?_⟩;push_cast;refine⟨⟨ω,ω,δ⟩,?_⟩;rw[FO,PySem.W.kbt_mask];exact q
theorem Rw (hB:∀x:Str,x∈BLs->mg x=none) (CPatternOf:Cal P w K mg base "pattern_of" 1 ["number","width"] zT) (F:Fun K "picks" "picks" qT f fd):cU P w K mg base CX0 2 f fd q17_ vY:=by
 refine F.okq VJ (fun vs H Q E h=>?_) (fun cdv A outer s H vs Q E hr h=>?_)
 ·obtain⟨w,n,t,it,rfl,_⟩:=h;rfl
 obtain⟨w,n,t,it,rfl,h1,h2,⟨hi⟩,q⟩:=h;refine⟨_,(aD (b8 (aU (bV hr.bF) (aY bY (ao jT) aq (fun _ _=>rfl)) dM (aL _)) (aH (aM (gR (bV hr.bF) (ao xP) (aY bY (ao jT) aq (fun _ _=>rfl)) (aL _)))) bJ)
  (aD (b8 (aU (bV hr.bF) (aY bY (ao jT) aq (fun _ _=>rfl)) dM (aL _)) (aH (aM (El vo vo (aY bY (ao jT) aq (fun _ _=>rfl)) (ao xP) (aY bY (ao jT) aq (fun _ _=>rfl))))) bJ)
  (aH (aM (gR (bV hr.bF) (aJ jh (bG CPatternOf (hr.mono δ) uY Gd (ak (ao xP) (ak (ao RP) au rfl) rfl) rfl rfl) (aY bY (ao jT) aq (fun _ _=>rfl))) (aY bY (ao jT) aq (fun _ _=>rfl)) (aL _)))))),?_⟩
 cases it with
 | one a=>
  push_cast [hi];exact q
 | rng a b=>
  push_cast [hi];rw[show aZ w n (.rng a b)=(decide (a<=n)&&decide (n<=b)) from rfl] at q;split
  ·rename_i c;rw[decide_eq_true c,F1] at q;exact q
  rename_i c;rw[decide_eq_false c,D1] at q;exact q
 | bits m v=>
  push_cast [hi];refine⟨n,w,rfl,h1,h2,?_⟩;push_cast [hi];rw[wU];exact q
abbrev rQ:List Str:=["width","items","number"]
abbrev iV:Stmt:=top 13
theorem DX:bA rQ q16_ (aj iV):=⟨rfl,rfl,rfl,ψ,rfl,ψ,ψ⟩
theorem Cq:NM_ rQ iV 1 "items" := .of ψ
theorem yq:GI_ iV "any" := by decide +kernel
theorem Gg:Bn "case_picks" := ⟨ψ,ψ⟩
abbrev wu:List Str:=["_law_width","_law_item_here","_law_number_here"]
abbrev qb:Stmt:=top 31
theorem Qg:bA wu q3_ (aj qb):=⟨rfl,rfl,rfl,ψ,rfl,ψ,ψ⟩
theorem MP:NM_ wu qb 0 "_law_width" := .of ψ
theorem iY:NM_ wu qb 1 "_law_item_here" := .of ψ
theorem uM:NM_ wu qb 2 "_law_number_here" := .of ψ
theorem Uv:Bn "_law_picks" := ⟨ψ,ψ⟩
abbrev fH:List Str:=["rows","ahead","low","high"]
abbrev cX:Stmt:=top 10
theorem fM:bA fH ["rows"] (aj cX):=⟨rfl,rfl,rfl,ψ,rfl,ψ,ψ⟩
theorem xQ:NM_ fH cX 0 "rows" := .of ψ
theorem iB:NM_ fH cX 1 "ahead" := .of ψ
theorem jU:NM_ fH cX 2 "low" := .of ψ
theorem oX:NM_ fH cX 3 "high" := .of ψ
theorem qH:GI_ cX "sorted" := by decide +kernel
theorem zN:Bn "least_shared" := ⟨ψ,ψ⟩
abbrev iM:List Str:=["choice","width","sign","cases","number","labels"]
abbrev dO:Stmt:=top 14
theorem jA:bA iM ["choice"] (aj dO):=⟨rfl,rfl,rfl,ψ,rfl,ψ,ψ⟩
theorem Ih:NM_ iM dO 0 "choice" := .of ψ
theorem Ig:NM_ iM dO 1 "width" := .of ψ
theorem Ie:NM_ iM dO 2 "sign" := .of ψ
theorem rm:NM_ iM dO 3 "cases" := .of ψ
theorem qZ:NM_ iM dO 4 "number" := .of ψ
theorem qY:NM_ iM dO 5 "labels" := .of ψ
theorem rF:GI_ dO "enumerate" := by decide +kernel
theorem pI:GI_ dO "least_shared" := by decide +kernel
theorem Og:Bn "clash_of" := ⟨ψ,ψ⟩
theorem RG (hB:∀x:Str,x∈BLs->mg x=none) (CPicks:Cal P w K mg base "picks" 2 q17_ vY) (F:Fun K "case_picks" "case_picks" iV f fd):cU P w K mg base CX0 3 f fd q16_ JS:=by
 refine F.okq DX (fun vs H Q E h=>?_) (fun cdv A outer s H vs Q E hr h=>?_)
 ·obtain⟨w,n,x,ok,its,rfl,_⟩:=h;rfl
 obtain⟨w,n,x,ok,its,rfl,h1,h2,t,q⟩:=h;refine⟨_,(aH (aM (cF (Aw rfl) yq (hB "any" Sh) PyProof.Rows.Boot.«any» Ut (ak (gQ (NX:=rQ) (kX:=(aj iV).names) ["item","width","number"] [none,some 0,some 2] rfl rfl ⟨rfl,ψ,ψ,ψ,ψ⟩ rfl (dB (ao Cq)) (fun _ _ _ _ _=>(cM 0 (show C4 (["item","width","number"]:List Str) from by decide +kernel) rfl (ET rfl))) (fun _ _ _ _ _=>nZ) (fun _ _ _ _ _=>(bG CPicks (hr.mono δ) rfl YL (ak (bR 1) (ak (bR 0) (ak (bR 2) au rfl) rfl) rfl) rfl rfl))) au rfl) rfl rfl))),?_⟩;obtain⟨q0,us,rfl,o,e,z,ts⟩:=jz t;push_cast;refine gC fun R hR=>?_;push_cast [e];refine uw (pickD w n) (fun τ=>∃o1,τ=[o1,some (.int w),some (.int n)]) hR ts e z ⟨none,rfl⟩ ?_ ?_
 ·rintro x1 d1 τ H3 Qn hd s3 t3 ⟨o1,rfl⟩ qn;push_cast;obtain⟨it,_,rfl⟩:=EF.mp hd;obtain⟨p,rfl,_,hp⟩:=pW t3;exact⟨w,n,p,it,rfl,h1,h2,hp,by rw[<- wV];exact qn _ _ ⟨_,rfl⟩ (Same.refl _)⟩
 intro H3 l s3 hl;have s5:=s3.trans (aA (o:=HO.lst (((its.map itD).map (pickD w n)).map V.bl)) hl);have e5:upd H3 l (HO.lst (((its.map itD).map (pickD w n)).map V.bl)) l=_:=aB;generalize upd H3 l (HO.lst (((its.map itD).map (pickD w n)).map V.bl))=H5 at s5 e5 |-;push_cast [e5];refine⟨_,rfl,?_⟩;rw[Gr];exact q _ s5
theorem Mz (hB:∀x:Str,x∈BLs->mg x=none) (F:Fun K "_law_picks" "_law_picks" qb f fd):cU P w K mg base CX0 1 f fd q3_ vY:=by
 refine F.okq Qg (fun vs H Q E h=>?_) (fun cdv A outer s H vs Q E hr h=>?_)
 ·obtain⟨w,n,t,it,rfl,_⟩:=h;rfl
 obtain⟨w,n,t,it,rfl,h1,h2,⟨hi⟩,q⟩:=h;refine⟨_,(aD (b8 (aU (bV hr.bF) (aY bY (ao iY) aq (fun _ _=>rfl)) dM (aL _)) (aH (aM (gR (bV hr.bF) (ao uM) (aY bY (ao iY) aq (fun _ _=>rfl)) (aL _)))) bJ)
  (aD (b8 (aU (bV hr.bF) (aY bY (ao iY) aq (fun _ _=>rfl)) dM (aL _)) (aH (aM (El vo vo (aY bY (ao iY) aq (fun _ _=>rfl)) (ao uM) (aY bY (ao iY) aq (fun _ _=>rfl))))) bJ)
  (aH (aM (gR (bV hr.bF) (aJ jh (aJ jg (ao uM) (aJ dN aq (ao MP))) (aY bY (ao iY) aq (fun _ _=>rfl))) (aY bY (ao iY) aq (fun _ _=>rfl)) (aL _)))))),?_⟩
 cases it with
 | one a=>
  push_cast [hi];exact q
 | rng a b=>
  push_cast [hi];rw[show aZ w n (.rng a b)=(decide (a<=n)&&decide (n<=b)) from rfl] at q;split
  ·rename_i c;rw[decide_eq_true c,F1] at q;exact q
  rename_i c;rw[decide_eq_false c,D1] at q;exact q
 | bits m v=>
  push_cast [hi,FO];refine⟨⟨ω,ω,δ⟩,two_pow_pos _,?_⟩;rw[wU];exact q
theorem aaP (hB:∀x:Str,x∈BLs->mg x=none) (F:Fun K "least_shared" "least_shared" cX f fd):cU P w K mg base CX0 2 f fd ["rows"] Zi:=by
 refine F.okq fM (fun vs H Q E h=>?_) (fun cdv A outer s H vs Q E hr h=>?_)
 ·obtain⟨l,us,cs,rfl,_⟩:=h;rfl
 obtain⟨l,us,cs,rfl,el,tl,hb,hlen,q⟩:=h;refine⟨_,(aD (bK iB fM.nd jK rfl (.inl rfl))
  (aD (fJ CA rfl (dB (cF yE qH (hB "sorted" qg) G2 u9 (ak (Q5 (NX:=fH) (kX:=(aj cX).names) ["spans","span"] [none,none] rfl rfl ⟨rfl,ψ,ψ,ψ,ψ⟩ rfl (dB (ao xQ)) (fun _ _ _ _ _=>(cM 0 (show C4 (["spans","span"]:List Str) from by decide +kernel) rfl (ET rfl))) (fun _ _ _ _ _=>(Wf K (bR 0))) (fun _ _ _ _ _=>(cM 1 (show C4 (["spans","span"]:List Str) from by decide +kernel) rfl (ET rfl))) (fun _ _ _ _ _=>(bR 1))) au rfl) rfl rfl)) (eX (n:=2) rfl (aQ (cB jU fM.nd (.inl rfl)) (aQ (cB oX fM.nd (.inl rfl)) dF rfl) rfl) rfl rfl)
  (aD (b8 (zj (wO (aU Ka (ao iB) jK (aL _)) (v5 (aU vo (ao jU) (ao iB) (aL _))))) (aH (aM (ao jU))) bJ)
  (aH (bK iB fM.nd (ao oX) rfl (.inl rfl)))) (fun _=>rfl))
  (aH (aM jK)))),?_⟩
 refine aK fun k hk=>?_;push_cast;subst hk;refine aK fun k hk=>?_;refine jr fun R hR=>?_;push_cast;refine Yz fun R2 hR2=>?_;push_cast [el];obtain⟨Pc,hPc⟩:∃Pv:Nat->List V->L2.St->Hp->Prop,Pv=fun(i:Nat) acc τ H'=>∃(o1 o2:Option V),H'=H/\bN prE H acc (cs.take i).flatten/\τ=[o1,o2]:=⟨_,rfl⟩;have hfl:∀i,(cs.take i).flatten.length<=cs.flatten.length:=fun i=>by
  conv=>rhs;rw[<- LW i cs,MZ,AO]
  omega
 refine Yy hR2 (xs:=us) Pc (by rw[hPc];exact⟨none,none,rfl,.nil,rfl⟩) ?_ ?_ (fun x τ H k k' m h=>m _ _ h) ?_
 ·intro i acc τ H1 pc;rw[hPc] at pc;obtain⟨o1,o2,rfl,t1,rfl⟩:=pc;exact SqL.of el
 ·intro i x acc τ H1 hx pc;rw[hPc] at pc;obtain⟨o1,o2,rfl,t1,rfl⟩:=pc;obtain⟨p,vs,c,rfl,hc,ep,tv⟩:=tl.got hx;have hf1:=hfl (i+1);rw[CM,hc,MZ] at hf1;replace hf1:((cs.take i).flatten++(c++[])).length<=_:=hf1;rw[DB,AO] at hf1;have hvl:=tv.length;show ∀R3:It->Hp->Prop,_->_;intro R3 hR3;push_cast [ep];obtain⟨Pe,hPe⟩:∃Pv:Nat->List V->L2.St->Hp->Prop,Pv=fun(j:Nat) acc3 τ H'=>∃(o2:Option V),H'=H1/\bN prE H1 acc3 ((cs.take i).flatten++c.take j)/\τ=[some (.ref p),o2]:=⟨_,rfl⟩;refine acV hR3 (xs:=vs) Pe (by rw[hPe];exact⟨o2,rfl,by rw[List.take_zero,DB];exact t1,rfl⟩) ?_ ?_ ?_ ?_
  ·intro j acc3 τ H5 hj pe;rw[hPe] at pe;obtain⟨_,rfl,t5,_⟩:=pe;have:=t5.length;rw[AO,D4] at this;exact aO (show acc3.length+1<=1000000 by omega)
  ·intro j acc3 τ H5 pe;rw[hPe] at pe;obtain⟨_,rfl,t5,_⟩:=pe;exact SqL.of ep
  ·intro j y acc3 τ H5 hy pe;rw[hPe] at pe;obtain⟨o2',rfl,t5,rfl⟩:=pe;obtain⟨p6,z,rfl,hz,ez⟩:=tv.got hy;push_cast;rw[hPe];refine⟨_,rfl,?_,rfl⟩;rw[CM,hz,<- FK];exact t5.snoc ez
  intro acc3 τ H5 pe;rw[hPe] at pe;obtain⟨o2',rfl,t5,rfl⟩:=pe;rw[hPc];refine⟨_,_,rfl,?_,rfl⟩;rw[hvl,DD] at t5;rw[CM,hc,MZ];show bN prE _ acc3 ((cs.take i).flatten++(c++[]));rw[DB];exact t5
 intro acc τ H1 d pc hd;rw[hPc] at pc;obtain⟨o1,o2,rfl,t1,rfl⟩:=pc;rw[tl.length,DD] at t1;have s1:=aA (o:=HO.lst acc) hd;have e1:upd H1 d (HO.lst acc) d=_:=aB;generalize upd H1 d (HO.lst acc)=H2 at s1 e1 |-;obtain⟨ps,rfl⟩:=t1.refs;obtain⟨r1,r2⟩:=t1.read (dec:=n6 H1) J7;have hpl:ps.length=cs.flatten.length:=by have:=t1.length;rwa [AV] at this
 refine⟨d,ps,fun p=>(n6 H1 p).1,fun p=>(n6 H1 p).2,rfl,e1,ω,fun p m=>⟨s1 _ _ (r2 p m),(hb _ (by rw[r1];exact MS m)).2⟩,fun d3 qs hd3 hp ho=>?_⟩;have s3:Same H1 (upd H2 d3 (.lst (qs.map V.ref))):=s1.trans (aA hd3);have ed:upd H2 d3 (.lst (qs.map V.ref)) d3=_:=aB;generalize upd H2 d3 (.lst (qs.map V.ref))=H3 at s3 ed |-;have tz:bN prE H1 (qs.map V.ref) (qs.map (n6 H1)):=.of_map fun p m=>r2 p (hp.mem_iff.mp m);have pz:(qs.map (n6 H1)).Perm cs.flatten:=by rw[r1];exact hp.map _
 have hu:(qs.map (n6 H1)).Pairwise fun a b=>a.1<=b.1:=by
  refine GN.mpr (ho.imp fun {a b} z=>?_);rcases z with z|z
  ·exact Int.le_of_lt z
  exact Int.le_of_eq z.1
 generalize hzs:qs.map (n6 H1)=zs at tz pz hu;have q0:=q H3 zs s3 pz hu;have zl:=tz.length;push_cast [ed];obtain⟨Pv,hPv⟩:∃Pv:Nat->L2.St->Hp->Prop,Pv=fun(i:Nat) σ H'=>∃(ah:Option Int)(o2 o3:Option V),H'=H3/\cH ah (zs.drop i)=cH none zs/\σ=[some (.ref l),some (oV ah),o2,o3]:=⟨_,rfl⟩;refine yw hR Pv (by rw[hPv];exact⟨none,_,_,rfl,rfl,rfl⟩) (fun i σ H' _ pv=>by rw[hPv] at pv;obtain⟨_,_,_,rfl,_⟩:=pv;exact SqL.of ed) ?_ ?_
 ·intro i x σ H4 hx pv;rw[hPv] at pv;obtain⟨ah,o2,o3,rfl,hah,rfl⟩:=pv;obtain⟨p,z,rfl,hz,ep⟩:=(tz.same s3).got hx;replace ep:H4 p=some (.tup [.int z.1,.int z.2]):=ep;have edz:zs.drop i=z::zs.drop (i+1):=m7 hz;rw[edz] at hah;cases ah with
  | none=>
   rw[Sv (by rintro⟨a,e,_⟩;cases e)] at hah;push_cast [ep,oV];rw[hPv];exact⟨some z.2,_,_,rfl,hah,rfl⟩
  | some a=>
   push_cast [ep,oV];by_cases c:z.1<=a
   ·rw[Xo c] at hah;rw[if_pos c];rw[<- hah] at q0;exact q0
   rw[Sv (by rintro⟨b,e,h⟩;cases e;exact c h)] at hah;rw[if_neg c];rw[hPv];exact⟨some z.2,_,_,rfl,hah,rfl⟩
 intro σ H4 pv;rw[hPv] at pv;obtain⟨ah,o2,o3,rfl,hah,rfl⟩:=pv;rw[zl,drop_length,Xp] at hah;rw[<- hah] at q0;show k _ _;subst hk;push_cast;exact q0
theorem RD (hB:∀x:Str,x∈BLs->mg x=none) (CLeastShared:Cal P w K mg base "least_shared" 2 ["rows"] Zi) (CCaseSpans:Cal P w K mg base "case_spans" 5 q12_ PN) (CCasePicks:Cal P w K mg base "case_picks" 3 q16_ JS) (F:Fun K "clash_of" "clash_of" dO f fd):cU P w K mg base CX0 6 f fd ["choice"] JR:=by
 refine F.okq jA (fun vs H Q E h=>?_) (fun cdv A outer s H vs Q E hr h=>?_)
 ·obtain⟨x,w,s,ok,css,rfl,_⟩:=h;rfl
 obtain⟨x,w,s,ok,css,rfl,h1,h2,hs,t,hok,hsum,q⟩:=h;refine⟨_,(aD (jJ (ao Ih) (eX (n:=3) rfl (aQ (cB Ig jA.nd (.inl rfl)) (aQ (cB Ie jA.nd (.inl rfl)) (aQ (cB rm jA.nd (.inl rfl)) dF rfl) rfl) rfl) rfl rfl) rfl rfl rfl)
  (aD (bK qZ jA.nd (bG CLeastShared (hr.mono δ) pI zN (ak (gQ (NX:=iM) (kX:=(aj dO).names) ["items","width","sign"] [none,some 1,some 2] rfl rfl ⟨rfl,ψ,ψ,ψ,ψ⟩ rfl (dB (ao rm)) (fun _ _ _ _ _=>(cM 0 (show C4 (["items","width","sign"]:List Str) from by decide +kernel) rfl (ET rfl))) (fun _ _ _ _ _=>nZ) (fun _ _ _ _ _=>(bG CCaseSpans (hr.mono δ) rfl vD (ak (bR 1) (ak (bR 2) (ak (bR 0) au rfl) rfl) rfl) rfl rfl))) au rfl) rfl rfl) rfl (.inl rfl))
  (aD (b8 (aU Hz (ao qZ) jK (aL _)) (aH (aM jK)) bJ)
  (aD (BJ (NX:=iM) (kX:=(aj dO).names) ["label","items","width","number"] [none,none,some 1,some 4] qY jA.nd rfl rfl ⟨rfl,ψ,ψ,ψ,ψ⟩ rfl (sV rF (hB "enumerate" iG) (ak (ao rm) au rfl) rfl) (fun _ _ _ _ _=>(eX (n:=2) rfl (aQ (cM 0 (show C4 (["label","items","width","number"]:List Str) from by decide +kernel) rfl (ET rfl)) (aQ (cM 1 (show C4 (["label","items","width","number"]:List Str) from by decide +kernel) rfl (ET rfl)) dF rfl) rfl) rfl rfl)) (fun _ _ _ _ _=>(uL (gO (bG CCasePicks (hr.mono δ) rfl Gg (ak (bR 2) (ak (bR 1) (ak (bR 3) au rfl) rfl) rfl) rfl rfl) (fun _=>rfl)))) (fun _ _ _ _ _=>(bR 0)))
  (aH (aM (cI (ak (aY bY (ao qY) aq (fun _ _=>rfl)) (ak (aY bY (ao qY) aq (fun _ _=>rfl)) (ak (ao qZ) au rfl) rfl) rfl)))))))),?_⟩
 obtain⟨p,c,xs,rfl,op,ep,oc,ec,z,ts⟩:=jc t;have hlen:=ts.length;rw[AV] at hlen;have wb:=jy h1 h2 hs;refine aK fun k hk=>?_;push_cast [ep];subst hk;refine aK fun k hk=>?_;push_cast;refine gC fun R hR=>?_;push_cast [ec];obtain⟨Pc,hPc⟩:∃Pv:Nat->List V->L2.St->Hp->Prop,Pv=fun(i:Nat) acc τ H'=>∃(cs:List (List (Int×Int))) (o1:Option V),Same H H'/\rR H' acc cs/\j8 w s (css.take i) cs/\cs.length=i/\τ=[o1,some (.int w),some (.int s)]:=⟨_,rfl⟩;refine rJ hR (xs:=xs) (aO ω) Pc (by rw[hPc];exact⟨[],none,Same.refl _,.nil,.nil,rfl,rfl⟩) ?_ ?_ ?_ ?_
 ·intro i acc τ H1 pc;rw[hPc] at pc;obtain⟨cs,o1,s1,l1,a1,hl1,rfl⟩:=pc;rw[l1.length,hl1];exact AY _
 ·intro i acc τ H1 pc;rw[hPc] at pc;obtain⟨cs,o1,s1,l1,a1,hl1,rfl⟩:=pc;exact SqL.of (s1 _ _ ec)
 ·intro i x acc τ H1 hx pc;rw[hPc] at pc;obtain⟨cs,o1,s1,l1,a1,hl1,rfl⟩:=pc;obtain⟨d,hd,td⟩:=(ts.same s1).get hx;rw[BH] at hd;obtain⟨its,hits,rfl⟩:=B8.mp hd;have hmem:=BF hits;have hle:its.length<=110:=BN (rA hmem) hsum;push_cast;refine⟨w,s,x,ok,its,rfl,h1,h2,hs,td,hok its hmem,ω,fun r H2 us ys s2 hr2 e2 t2 c2=>?_⟩;rw[hPc];refine⟨cs++[ys],_,s1.trans s2,(l1.same s2).snoc e2 t2,?_,by rw[AO,A9,hl1],rfl⟩;rw[CM,hits];exact a1.snoc c2
 intro acc τ H1 d pc hd;rw[hPc] at pc;obtain⟨cs,o1,s1,l1,a1,hl1,rfl⟩:=pc;rw[hlen,DD] at a1;have s2:=s1.trans (aA (o:=HO.lst acc) hd);have l2:=l1.same (aA (o:=HO.lst acc) hd);have e2:upd H1 d (HO.lst acc) d=_:=aB;generalize upd H1 d (HO.lst acc)=H2 at s2 l2 e2 |-;have hfl:=a1.len;refine⟨d,acc,cs,rfl,e2,l2,fun y my=>?_,ω,fun H3 zs s3 pz hu=>?_⟩
 ·obtain⟨c,mc,my⟩:=mem_flatten.mp my;obtain⟨_,_,k⟩:=a1.mem mc;have:=k.ins y my;exact⟨this.2.1,ω,ω⟩
 have s23:=s2.trans s3;cases hm:cH none zs with
 | none=>
  push_cast [oV];subst hk;push_cast;exact q _ _ none s23 (Jm a1 pz hm) .non
 | some n=>
  obtain⟨i,j,hc,r,hlab⟩:=Jl a1 pz hu hm;push_cast [oV];subst hk;have ec3:=s23 _ _ ec;refine aK fun k hk=>?_;push_cast;subst hk;refine aK fun k hk=>?_;push_cast;refine gC fun R2 hR2=>?_;push_cast [xZ,ec3];refine⟨⟨_,SqL.of ec3⟩,?_⟩;obtain⟨Pd,hPd⟩:∃Pv:Nat->List V->L2.St->Hp->Prop,Pv=fun(i:Nat) acc τ H'=>∃(o1 o2:Option V),Same H3 H'/\acc=bW (dj w n (css.take i))/\τ=[o1,o2,some (.int w),some (.int n)]:=⟨_,rfl⟩;refine Jk hR2 (xs:=xs) (aO ω) Pd (by rw[hPd];exact⟨none,none,Same.refl _,rfl,rfl⟩) ?_ ?_ ?_ ?_
  ·intro i acc τ H4 pc;rw[hPd] at pc;obtain⟨o1,o2,s4,rfl,rfl⟩:=pc;rw[cV,jW];refine BN (GM _ _) ?_;exact GH _ _
  ·intro i acc τ H4 pc;rw[hPd] at pc;obtain⟨o1,o2,s4,rfl,rfl⟩:=pc;exact SqL.of (s4 _ _ ec3)
  ·intro i x acc τ H4 p4 hx pc hp4;rw[hPd] at pc;obtain⟨o1,o2,s4,rfl,rfl⟩:=pc;obtain⟨d,hd,td⟩:=(ts.same (s23.trans s4)).get hx;rw[BH] at hd;obtain⟨its,hits,rfl⟩:=B8.mp hd;have s5:=aA (o:=HO.tup [V.int (i:Nat),x]) hp4;have e5:upd H4 p4 (HO.tup [V.int (i:Nat),x]) p4=_:=aB;have td5:=td.same s5;have s45:=s4.trans s5;generalize upd H4 p4 (HO.tup [V.int (i:Nat),x])=H5 at e5 td5 s45 |-;push_cast [e5];refine⟨w,n,x,ok,its,rfl,h1,h2,td5,fun H6 s6=>?_⟩;have hst:=Ai (w:=w) (n:=n) hits;cases hany:its.any (aZ w n) with
   | true=>
    rw[hany,if_pos rfl] at hst;push_cast;rw[hPd];exact⟨_,_,s45.trans s6,by rw[hst];simp [bW],rfl⟩
   | false=>
    rw[hany,if_neg δ,DB] at hst;push_cast;rw[hPd];exact⟨_,_,s45.trans s6,by rw[hst],rfl⟩
  intro acc τ H4 d4 pc hd4;rw[hPd] at pc;obtain⟨o1,o2,s4,rfl,rfl⟩:=pc;rw[hlen,DD,hlab];subst hk;have s5:=(s23.trans s4).trans (aA (o:=HO.lst (bW (i::j::r))) hd4);have e5:upd H4 d4 (HO.lst (bW (i::j::r))) d4=some (.lst (V.int (i:Nat)::V.int (j:Nat)::bW r)):=aB;generalize upd H4 d4 (HO.lst (bW (i::j::r)))=H5 at s5 e5 |-;have a0:atI (V.int (i:Nat)::V.int (j:Nat)::bW r) 0=some (V.int (i:Nat)):=K8 _ _;have a1:atI (V.int (i:Nat)::V.int (j:Nat)::bW r) 1=some (V.int (j:Nat)):=U5 _ _ _;push_cast [e5,a0,a1];refine⟨aO δ,fun p6 hp6=>?_⟩;exact q _ _ (some (i,j,n)) (s5.trans (aA hp6)) hc (.tup (none_of s5 hp6) aB (by show 3<=1000000;decide) (.cons (.int _) (.cons (.int _) (.cons (.int _) .nil))))
abbrev Ds:List Str:=["_law_tape_here","_law_great","_law_width"]
abbrev qR:Stmt:=top 29
theorem Br:bA Ds q9_ (aj qR):=⟨rfl,rfl,rfl,ψ,rfl,ψ,ψ⟩
theorem sZ:NM_ Ds qR 0 "_law_tape_here" := .of ψ
theorem Ez:NM_ Ds qR 1 "_law_great" := .of ψ
theorem Ey:NM_ Ds qR 2 "_law_width" := .of ψ
theorem jw:GI_ qR "_law_take" := by decide +kernel
theorem YG:Bn "_law_kind" := ⟨ψ,ψ⟩
abbrev Dr:List Str:=["_law_width","_law_sign"]
abbrev sO:Stmt:=top 30
theorem Qh:bA Dr q7_ (aj sO):=⟨rfl,rfl,rfl,ψ,rfl,ψ,ψ⟩
theorem M4:NM_ Dr sO 0 "_law_width" := .of ψ
theorem MT:NM_ Dr sO 1 "_law_sign" := .of ψ
theorem yI:Bn "_law_least" := ⟨ψ,ψ⟩
abbrev iK:List Str:=["_law_tape_here","_law_width","_law_sign","_law_other","_law_least_here","_law_many","_law_way","_law_far"]
abbrev dz:Stmt:=top 32
theorem uH:bA iK q0_ (aj dz):=⟨rfl,rfl,rfl,ψ,rfl,ψ,ψ⟩
theorem qX:NM_ iK dz 0 "_law_tape_here" := .of ψ
theorem xj:NM_ iK dz 1 "_law_width" := .of ψ
theorem HS:NM_ iK dz 2 "_law_sign" := .of ψ
theorem xg:NM_ iK dz 3 "_law_other" := .of ψ
theorem jN:NM_ iK dz 4 "_law_least_here" := .of ψ
theorem mK:NM_ iK dz 5 "_law_many" := .of ψ
theorem qW:NM_ iK dz 6 "_law_way" := .of ψ
theorem mJ:NM_ iK dz 7 "_law_far" := .of ψ
theorem vO:GI_ dz "_law_least" := by decide +kernel
theorem jY:GI_ dz "_law_take" := by decide +kernel
theorem CK:GI_ dz "min" := by decide +kernel
theorem Ax:Bn "_law_number" := ⟨ψ,ψ⟩
theorem Xd (hB:∀x:Str,x∈BLs->mg x=none) (CZTake:Cal P w K mg base "_law_take" 2 q1_ (gj 2)) (F:Fun K "_law_kind" "_law_kind" qR f fd):cU P w K mg base CX0 3 f fd q9_ Pz:=by
 refine F.okq Br (fun vs H Q E h=>?_) (fun cdv A outer s H vs Q E hr h=>?_)
 ·obtain⟨p,B,rfl,_⟩:=h;rfl
 obtain⟨p,B,rfl,tp,hB0,hB1,q⟩:=h;refine⟨_,(aD (bK Ez Br.nd (gR (bV hr.bF) (bG CZTake (hr.mono δ) jw cQ (ak (ao sZ) (ak aq au rfl) rfl) rfl rfl) aq (aL _)) rfl (.inl rfl))
  (aD (bK Ey Br.nd (qJ (gO (ao Ez) (fun _=>rfl)) (aJ bw aq (bG CZTake (hr.mono δ) jw cQ (ak (ao sZ) (ak aq au rfl) rfl) rfl rfl)) (aJ bw aq (bG CZTake (hr.mono δ) jw cQ (ak (ao sZ) (ak aq au rfl) rfl) rfl rfl))) rfl (.inl rfl))
  (aH (aM (cI (ak (ao Ey) (ak (bG CZTake (hr.mono δ) jw cQ (ak (ao sZ) (ak aq au rfl) rfl) rfl rfl) au rfl) rfl)))))),?_⟩
 have fin:∀(gr:Bool)(w:Int)(H1:Hp),1<=w->w<=40->dW p H H1->bM H1 p (B+4) ->
   DG (Lk (jo (tV 2) (jo (lG (gj 2) [] E0 (jo (tV 0) (jo (tC (V.int 2)) wG))) wG))) { nx:=fun x H'=>Q V.non H',rt:=Q } [some (.ref p),some (.bl gr),some (.int w)] H1:=by
  intro gr w H1 h1 h2 s1 t1;push_cast;refine⟨p,2,B+4,rfl,t1,by show B+4+2<=1000100;omega,δ,δ,δ,fun z=>absurd z δ,fun r H2 r0 r1 s2 t2=>?_⟩;push_cast;refine⟨aO δ,fun t ht=>q w r t _ h1 h2 ω ((s1.trans s2).trans (aA ht).x) ((t2.same (aA ht)).le (by show B+4+2<=B+10;omega)) aB⟩
 refine aK fun k hk=>?_;push_cast;refine⟨p,8,B,rfl,tp,by show B+2<=1000100;omega,δ,δ,δ,fun z=>absurd z δ,fun r1 H1 r10 r11 s1 t1=>?_⟩;push_cast;subst hk;refine aK fun k hk=>?_;push_cast;have u1:bM H1 p (B+2):=t1;split
 ·refine⟨p,33,B+2,rfl,u1,by show B+2+2<=1000100;omega,δ,δ,δ,fun z=>absurd z δ,fun r2 H2 r20 r21 s2 t2=>?_⟩;push_cast;subst hk;exact fin _ _ _ ω ω (s1.trans s2) (t2.le (by show B+2+2<=B+4;omega))
 refine⟨p,7,B+2,rfl,u1,by show B+2+2<=1000100;omega,δ,δ,δ,fun z=>absurd z δ,fun r2 H2 r20 r21 s2 t2=>?_⟩;push_cast;subst hk;exact fin _ _ _ ω ω (s1.trans s2) (t2.le (by show B+2+2<=B+4;omega))
theorem Rz (F:Fun K "_law_least" "_law_least" sO f fd):cU P w K mg base CX0 1 f fd q7_ sy:=by
 refine F.okq Qh (fun vs H Q E h=>?_) (fun cdv A outer s H vs Q E hr h=>?_)
 ·obtain⟨w,s,rfl,_⟩:=h;rfl
 obtain⟨w,s,rfl,h1,h2,hs,q⟩:=h;refine⟨_,(aH (aM (aJ dZ aq (aJ gW (aJ dN aq (aJ dZ (ao M4) aq)) (ao MT))))),?_⟩;unfold wl at q;push_cast;refine⟨⟨ω,ω,δ⟩,.inr ω,?_⟩;rw[FO];exact q
theorem aaO (hB:∀x:Str,x∈BLs->mg x=none) (CZTake:Cal P w K mg base "_law_take" 2 q1_ (gj 2)) (CZLeast:Cal P w K mg base "_law_least" 1 q7_ sy) (F:Fun K "_law_number" "_law_number" dz f fd):cU P w K mg base CX0 3 f fd q0_ Zh:=by
 refine F.okq uH (fun vs H Q E h=>?_) (fun cdv A outer s H vs Q E hr h=>?_)
 ·obtain⟨p,w,s,o,B,rfl,_⟩:=h;rfl
 obtain⟨p,w,s,o,B,rfl,tp,hB0,hB1,hw1,hw2,hs,q⟩:=h;refine⟨_,(aD (Hs (i:=4) (j:=5) rfl uH.nd rfl rfl δ rfl rfl (ak (bG CZLeast (hr.mono δ) vO yI (ak (ao xj) (ak (ao HS) au rfl) rfl) rfl rfl) (ak (aJ dN aq (ao xj)) au rfl) rfl) (by rfl))
  (aD (Hs (i:=6) (j:=7) rfl uH.nd rfl rfl δ rfl rfl (ak (bG CZTake (hr.mono δ) jY cQ (ak (ao qX) (ak aq au rfl) rfl) rfl rfl) (ak (bG CZTake (hr.mono δ) jY cQ (ak (ao qX) (ak (cF (u6 rfl) CK (hB "min" Im) boot_min Jr (ak (ao mK) (ak aq au rfl) rfl) rfl rfl) au rfl) rfl) rfl rfl) au rfl) rfl) (by rfl))
  (aD (b8 (aU (bV hr.bF) (ao qW) aq (aL _)) (aH (aM (aJ bw (ao jN) (ao mJ)))) bJ)
  (aD (b8 (aU (bV hr.bF) (ao qW) aq (aL _)) (aH (aM (aJ dZ (aJ dZ (aJ bw (ao jN) (ao mK)) aq) (ao mJ)))) bJ)
  (aD (b8 (zj (wO (aU (bV hr.bF) (ao qW) aq (aL _)) (v5 (QV vo n8 (ao jN) (aJ bw (ao xg) (ao mJ)) (aJ bw (ao jN) (ao mK)))))) (aH (aM (aJ bw (ao xg) (ao mJ)))) bJ)
  (aH (aM (aJ bw (ao jN) (bG CZTake (hr.mono δ) jY cQ (ak (ao qX) (ak (ao mK) au rfl) rfl) rfl rfl))))))))),?_⟩
 have p1:=two_pow_pos w.toNat;have p2:=gG (k:=w.toNat) ω;have p3:(2:Int)<=2^w.toNat:=by
  have e:=lR hw1;have:=two_pow_pos (w-1).toNat;omega
 have b1:=jy hw1 hw2 hs;refine aK fun k hk=>?_;push_cast;refine⟨w,s,rfl,hw1,hw2,hs,?_⟩;push_cast;refine⟨⟨ω,ω,δ⟩,?_⟩;subst hk;rw[FO];refine aK fun k hk=>?_;push_cast;refine⟨p,5,B,rfl,tp,by show B+2<=1000100;omega,δ,δ,δ,fun z=>absurd z δ,fun r1 H1 r10 r11 s1 t1=>?_⟩;push_cast;have m6:(0:Int)<(if (6:Int)<(2:Int)^w.toNat then (6:Int) else (2:Int)^w.toNat)/\(if (6:Int)<(2:Int)^w.toNat then (6:Int) else (2:Int)^w.toNat)<=(2:Int)^w.toNat:=by
  split <;> omega
 refine⟨p,(if (6:Int)<(2:Int)^w.toNat then (6:Int) else (2:Int)^w.toNat),B+2,rfl,t1,by show B+2+2<=1000100;omega,m6.1,ω,δ,fun _=>by decide,fun r2 H2 r20 r21 s2 t2=>?_⟩;push_cast;subst hk;have s12:=s1.trans s2;have t12:bM H2 p (B+10):=t2.le (by show B+2+2<=B+10;omega);have fin:DG (tOp Ek (tV 4) (lG (gj 2) [] E0 (jo (tV 0) (jo (tV 5) wG)))) { nx:=fun x H'=>Q V.non H',rt:=Q } [some (.ref p),some (.int w),some (.int s),some (.int o),some (.int (wl w s)),some (.int (2^w.toNat)),some (.int r1),some (.int r2)] H2:=by
  push_cast;refine⟨p,2^w.toNat,B+2+2,rfl,t2,by show B+2+2+2<=1000100;omega,p1,ω,δ,fun _=>by decide,fun r3 H3 r30 r31 s3 t3=>?_⟩;push_cast;exact q _ _ ω ω (s12.trans s3) (t3.le (by show B+2+2+2<=B+10;omega))
 refine aK fun k hk=>?_;push_cast;split
 ·exact q _ _ ω ω s12 t12
 subst hk;refine aK fun k hk=>?_;push_cast;split
 ·exact q _ _ ω ω s12 t12
 subst hk;refine aK fun k hk=>?_;push_cast;split
 ·split
  ·split
   ·exact q _ _ ω ω s12 t12
   subst hk;exact fin
  subst hk;exact fin
 subst hk;exact fin
abbrev rO:List Str:=["_law_tape_here","_law_width","_law_way","_law_top","_law_mask_here","_law_turn"]
abbrev jF:Stmt:=top 33
theorem sH:bA rO q13_ (aj jF):=⟨rfl,rfl,rfl,ψ,rfl,ψ,ψ⟩
theorem lM:NM_ rO jF 0 "_law_tape_here" := .of ψ
theorem lK:NM_ rO jF 1 "_law_width" := .of ψ
theorem Ew:NM_ rO jF 2 "_law_way" := .of ψ
theorem Eu:NM_ rO jF 3 "_law_top" := .of ψ
theorem oF:NM_ rO jF 4 "_law_mask_here" := .of ψ
theorem RL:NM_ rO jF 5 "_law_turn" := .of ψ
theorem fG:GI_ jF "_law_take" := by decide +kernel
theorem CN:GI_ jF "range" := by decide +kernel
theorem YF:Bn "_law_mask" := ⟨ψ,ψ⟩
abbrev lE:List Str:=["_law_tape_here","_law_width","_law_sign","_law_other","_law_way","_law_one","_law_two","_law_mask_here","_law_value"]
abbrev eV:Stmt:=top 34
theorem pY:bA lE q0_ (aj eV):=⟨rfl,rfl,rfl,ψ,rfl,ψ,ψ⟩
theorem lO:NM_ lE eV 0 "_law_tape_here" := .of ψ
theorem tD:NM_ lE eV 1 "_law_width" := .of ψ
theorem EY:NM_ lE eV 2 "_law_sign" := .of ψ
theorem RM:NM_ lE eV 3 "_law_other" := .of ψ
theorem xG:NM_ lE eV 4 "_law_way" := .of ψ
theorem oG:NM_ lE eV 5 "_law_one" := .of ψ
theorem xu:NM_ lE eV 6 "_law_two" := .of ψ
theorem xr:NM_ lE eV 7 "_law_mask_here" := .of ψ
theorem xq:NM_ lE eV 8 "_law_value" := .of ψ
theorem CP:GI_ eV "_law_mask" := by decide +kernel
theorem pD:GI_ eV "_law_number" := by decide +kernel
theorem mW:GI_ eV "_law_take" := by decide +kernel
theorem Jf:GI_ eV "max" := by decide +kernel
theorem Je:GI_ eV "min" := by decide +kernel
theorem YH:Bn "_law_item" := ⟨ψ,ψ⟩
theorem Kd (hB:∀x:Str,x∈BLs->mg x=none) (CZTake:Cal P w K mg base "_law_take" 2 q1_ (gj 2)) (F:Fun K "_law_mask" "_law_mask" jF f fd):cU P w K mg base CX0 3 f fd q13_ Py:=by
 refine F.okq sH (fun vs H Q E h=>?_) (fun cdv A outer s H vs Q E hr h=>?_)
 ·obtain⟨p,w,B,rfl,_⟩:=h;rfl
 obtain⟨p,w,B,rfl,tp,hB0,hB1,hw1,hw2,q⟩:=h;refine⟨_,(aD (b8 (aU n8 (ao lK) aq (aL _)) (aH (aM (bG CZTake (hr.mono δ) fG cQ (ak (ao lM) (ak (aJ dN aq (ao lK)) au rfl) rfl) rfl rfl))) bJ)
  (aD (Hs (i:=2) (j:=3) rfl sH.nd rfl rfl δ rfl rfl (ak (bG CZTake (hr.mono δ) fG cQ (ak (ao lM) (ak aq au rfl) rfl) rfl rfl) (ak (aJ bw aq (bG CZTake (hr.mono δ) fG cQ (ak (ao lM) (ak aq au rfl) rfl) rfl rfl)) au rfl) rfl) (by rfl))
  (aD (b8 (aU (bV hr.bF) (ao Ew) aq (aL _)) (aH (aM (aJ dN (bG CZTake (hr.mono δ) fG cQ (ak (ao lM) (ak aq au rfl) rfl) rfl rfl) (aJ dZ (ao lK) aq)))) bJ)
  (aD (bK oF sH.nd (qJ (aU (bV hr.bF) (ao Ew) aq (aL _)) (aJ dN (aJ dZ (aJ dN aq (ao Eu)) aq) (aJ dZ (ao lK) (ao Eu))) (aJ dZ (aJ dN aq (ao lK)) aq)) rfl (.inl rfl))
  (aD (fJ CA rfl (gF CN (hB "range" fP) (ak (bG CZTake (hr.mono δ) fG cQ (ak (ao lM) (ak aq au rfl) rfl) rfl rfl) au rfl) rfl) (cB RL sH.nd (.inl rfl))
  (aH (bK oF sH.nd (aJ dZ (ao oF) (aJ jh (ao oF) (aJ dN aq (bG CZTake (hr.mono δ) fG cQ (ak (ao lM) (ak (ao lK) au rfl) rfl) rfl rfl)))) rfl (.inl rfl))) (fun _=>rfl))
  (aH (aM (ao oF)))))))),?_⟩
 have p1:=two_pow_pos w.toNat;have p2:=gG (k:=w.toNat) ω;refine aK fun k hk=>?_;push_cast [FO];split
 ·rename_i c;refine⟨⟨ω,ω,δ⟩,p,2^w.toNat,B,rfl,tp,by show B+2<=1000100;omega,p1,ω,δ,fun _=>by decide,fun r H1 r0 r1 s1 t1=>?_⟩;obtain⟨n,rfl⟩:=L3 r0;exact q n H1 (Ss r1) (fun z=>ω) s1 (t1.le (by show B+2<=B+20;omega))
 rename_i c;subst hk;refine aK fun k hk=>?_;push_cast;refine⟨p,3,B,rfl,tp,by show B+2<=1000100;omega,δ,δ,δ,fun z=>absurd z δ,fun r1 H1 r10 r11 s1 t1=>?_⟩;push_cast;refine⟨p,4,B+2,rfl,t1,by show B+2+2<=1000100;omega,δ,δ,δ,fun z=>absurd z δ,fun r2 H2 r20 r21 s2 t2=>?_⟩;push_cast;subst hk;have s12:=s1.trans s2;refine aK fun k hk=>?_;push_cast;split
 ·refine⟨p,16,B+2+2,rfl,t2,by show B+2+2+2<=1000100;omega,δ,δ,δ,fun z=>absurd z δ,fun r3 H3 r30 r31 s3 t3=>?_⟩;obtain⟨n,rfl⟩:=L3 r30;push_cast;refine⟨⟨ω,ω,ω⟩,?_⟩;obtain⟨m,e,hm⟩:=Xn (W:=w.toNat) (r:=n) ω ω;rw[show(w-4).toNat=w.toNat-4 by omega,e];exact q m H3 hm.1 (fun _=>hm.frees) (s12.trans s3) (t3.le (by show B+2+2+2<=B+20;omega))
 subst hk;have go:∀(b m:Nat),vU w.toNat b m 0->GZ
    (Vv (oZ (jo (lG (gj 2) [] E0 (jo (tV 0) (jo (tC (V.int 4)) wG))) wG)) (jZ 5)
     (vI (tOp (rI0 fun i j=>V.int (i-j)) (tV 4)
       (tOp (rI0 fun i j=>V.int (AX.bitAnd i j)) (tV 4)
        (tOp (rI Y9 fun i j=>V.int (i*2^j.toNat)) (tC (V.int 1))
         (lG (gj 2) [] E0 (jo (tV 0) (jo (tV 1) wG)))))) (jZ 4)))
    (DG (tV 4)) { nx:=fun x H'=>Q V.non H',rt:=Q } [some (V.ref p),some (V.int w),some (V.int r1),some (V.int (5+r2)),some (V.int m),none] H2:=by
  intro b m hm;refine aK fun k hk=>?_;refine jr fun R hR=>?_;push_cast [oZ];refine⟨p,4,B+2+2,rfl,t2,by show B+2+2+2<=1000100;omega,δ,δ,δ,fun z=>absurd z δ,fun r3 H3 r30 r31 s3 t3=>?_⟩;push_cast;have u3:bM H3 p (B+6):=t3.le (by show B+2+2+2<=B+6;omega);obtain⟨Pv,hPv⟩:∃Pv:Nat->L2.St->Hp->Prop,Pv=fun(i:Nat) σ H'=>∃(m:Nat)(o5:Option V),dW p H H'/\bM H' p (B+6+2*(i:Int))/\vU w.toNat b m i/\σ=[some (V.ref p),some (V.int w),some (V.int r1),some (V.int (5+r2)),some (V.int m),o5]:=⟨_,rfl⟩;refine⟨ω,ω,yu hR Pv (by rw[hPv];exact⟨m,none,s12.trans s3,by simpa using u3,hm,rfl⟩) ?_ ?_⟩
  ·intro i σ H4 hi pv;rw[hPv] at pv;obtain⟨m4,o5,s4,t4,hm4,rfl⟩:=pv;push_cast;refine⟨p,w,B+6+2*(i:Int),rfl,t4,by show B+6+2*(i:Int)+2<=1000100;omega,ω,ω,δ,fun _=>by decide,fun r5 H5 r50 r51 s5 t5=>?_⟩;push_cast [FO];obtain⟨m5,e5,hm5⟩:=aaY hm4 r5.toNat;refine⟨⟨ω,ω,δ⟩,?_⟩;rw[e5,hPv];exact⟨m5,_,s4.trans s5,t5.le (by show B+6+2*(i:Int)+2<=B+6+2*((i+1:Nat):Int);omega),hm5,rfl⟩
  intro σ H4 pv;rw[hPv] at pv;obtain⟨m4,o5,s4,t4,hm4,rfl⟩:=pv;show k _ _;subst hk;push_cast;have hm9:=hm4.le (j:=4) ω;exact q m4 H4 hm9.1 (fun _=>hm9.frees) s4 (t4.le ω)
 refine aK fun k hk=>?_;push_cast [FO];split
 ·refine⟨⟨ω,ω,δ⟩,⟨ω,ω,?_⟩,?_⟩
  ·have a1:=gG (k:=(5+r2).toNat) ω;have a2:=two_pow_pos (5+r2).toNat;omega
  obtain⟨m,e,hm⟩:=aaX (W:=w.toNat) (T:=(5+r2).toNat) ω;rw[show(w-(5+r2)).toNat=w.toNat-(5+r2).toNat by omega,e];subst hk;exact go _ m hm
 refine⟨⟨ω,ω,δ⟩,?_⟩;obtain⟨m,e,hm⟩:=aaZ w.toNat;rw[e];subst hk;exact go _ m hm
theorem Xe (hB:∀x:Str,x∈BLs->mg x=none) (CZTake:Cal P w K mg base "_law_take" 2 q1_ (gj 2)) (CZNumber:Cal P w K mg base "_law_number" 3 q0_ Zh) (CZMask:Cal P w K mg base "_law_mask" 3 q13_ Py) (F:Fun K "_law_item" "_law_item" eV f fd):cU P w K mg base CX0 4 f fd q0_ PB:=by
 refine F.okq pY (fun vs H Q E h=>?_) (fun cdv A outer s H vs Q E hr h=>?_)
 ·obtain⟨p,w,s,o,B,rfl,_⟩:=h;rfl
 obtain⟨p,w,s,o,B,rfl,tp,hB0,hB1,hw1,hw2,hs,q⟩:=h;refine⟨_,(aD (bK xG pY.nd (bG CZTake (hr.mono δ) mW cQ (ak (ao lO) (ak aq au rfl) rfl) rfl rfl) rfl (.inl rfl))
  (aD (bK oG pY.nd (bG CZNumber (hr.mono δ) pD Ax (ak (ao lO) (ak (ao tD) (ak (ao EY) (ak (ao RM) au rfl) rfl) rfl) rfl) rfl rfl) rfl (.inl rfl))
  (aD (b8 (aU n8 (ao xG) aq (aL _)) (aH (aM (cI (ak dM (ak (ao oG) au rfl) rfl)))) bJ)
  (aD (bK xu pY.nd (bG CZNumber (hr.mono δ) pD Ax (ak (ao lO) (ak (ao tD) (ak (ao EY) (ak (ao oG) au rfl) rfl) rfl) rfl) rfl rfl) rfl (.inl rfl))
  (aD (b8 (aU n8 (ao xG) aq (aL _)) (aH (aM (cI (ak dM (ak (cF (u6 rfl) Je (hB "min" Im) boot_min Jr (ak (ao oG) (ak (ao xu) au rfl) rfl) rfl rfl) (ak (cF (Ar rfl) Jf (hB "max" Sg) boot_max Us (ak (ao oG) (ak (ao xu) au rfl) rfl) rfl rfl) au rfl) rfl) rfl)))) bJ)
  (aD (bK xr pY.nd (bG CZMask (hr.mono δ) CP YF (ak (ao lO) (ak (ao tD) au rfl) rfl) rfl rfl) rfl (.inl rfl))
  (aD (bK xq pY.nd (bG CZTake (hr.mono δ) mW cQ (ak (ao lO) (ak (aJ dN aq (ao tD)) au rfl) rfl) rfl rfl) rfl (.inl rfl))
  (aH (aM (cI (ak dM (ak (ao xr) (ak (qJ (aU En (bG CZTake (hr.mono δ) mW cQ (ak (ao lO) (ak aq au rfl) rfl) rfl rfl) aq (aL _)) (aJ jh (ao xq) (ao xr)) (ao xq)) au rfl) rfl) rfl))))))))))),?_⟩
 have p1:=two_pow_pos w.toNat;have p2:=gG (k:=w.toNat) ω;refine aK fun k hk=>?_;push_cast;refine⟨p,5,B,rfl,tp,by show B+2<=1000100;omega,δ,δ,δ,fun z=>absurd z δ,fun r1 H1 r10 r11 s1 t1=>?_⟩;push_cast;subst hk;refine aK fun k hk=>?_;push_cast;have u1:bM H1 p (B+2):=t1;refine⟨p,w,s,o,B+2,rfl,u1,ω,ω,hw1,hw2,hs,fun a H2 a0 a1 s2 t2=>?_⟩;push_cast;subst hk;have s12:=s1.trans s2;refine aK fun k hk=>?_;push_cast;split
 ·refine⟨aO δ,fun t ht=>q (.one a) t _ ⟨a0,a1⟩ (s12.trans (aA ht).x) ((t2.same (aA ht)).le ω) ⟨aB⟩⟩
 subst hk;refine aK fun k hk=>?_;push_cast;refine⟨p,w,s,a,B+2+10,rfl,t2,ω,ω,hw1,hw2,hs,fun b H3 b0 b1 s3 t3=>?_⟩;push_cast;subst hk;have s123:=s12.trans s3;refine aK fun k hk=>?_;push_cast;split
 ·refine⟨aO δ,fun t ht=>q (.rng (if b<a then b else a) (if b>a then b else a)) t _ ⟨?_,?_,?_⟩ (s123.trans (aA ht).x) ((t3.same (aA ht)).le ω) ⟨aB⟩⟩
  ·unfold cG;split <;> omega
  ·unfold cG;split <;> omega
  split <;> split <;> omega
 subst hk;refine aK fun k hk=>?_;push_cast;refine⟨p,w,B+2+10+10,rfl,t3,ω,ω,hw1,hw2,fun m H4 hm hf s4 t4=>?_⟩;push_cast;subst hk;refine aK fun k hk=>?_;push_cast [FO];refine⟨⟨ω,ω,δ⟩,p,2^w.toNat,B+2+10+10+20,rfl,t4,by show B+2+10+10+20+2<=1000100;omega,p1,ω,δ,fun _=>by decide,fun r5 H5 r50 r51 s5 t5=>?_⟩;obtain⟨v,rfl⟩:=L3 r50;have hv:=Ss r51;subst hk;push_cast;refine⟨p,5,B+2+10+10+20+2,rfl,t5,by show B+2+10+10+20+2+2<=1000100;omega,δ,δ,δ,fun z=>absurd z δ,fun r6 H6 r60 r61 s6 t6=>?_⟩;push_cast;have s456:=((s123.trans s4).trans s5).trans s6;split
 ·refine⟨aO δ,fun t ht=>?_⟩;refine q (.bits m (v &&& m)) t _ ⟨hm,Nat.lt_of_le_of_lt and_le_right hm,hf⟩ (s456.trans (aA ht).x) ((t6.same (aA ht)).le (by show B+2+10+10+20+2+2<=B+60;omega)) ⟨?_⟩;rw[aB,gD];rfl
 refine⟨aO δ,fun t ht=>?_⟩;exact q (.bits m v) t _ ⟨hm,hv,hf⟩ (s456.trans (aA ht).x) ((t6.same (aA ht)).le (by show B+2+10+10+20+2+2<=B+60;omega)) ⟨aB⟩
abbrev cA:List Str:=["_law_tape_here","_law_width","_law_sign","_law_great","_law_cases","_law_other","_law_many","_law_k","_law_items","_law_turn","_law_item_here"]
abbrev aV:Stmt:=top 35
theorem bZ:bA cA q9_ (aj aV):=⟨rfl,rfl,rfl,ψ,rfl,ψ,ψ⟩
theorem fj:NM_ cA aV 0 "_law_tape_here" := .of ψ
theorem eZ:NM_ cA aV 1 "_law_width" := .of ψ
theorem iu:NM_ cA aV 2 "_law_sign" := .of ψ
theorem jM:NM_ cA aV 3 "_law_great" := .of ψ
theorem oh:NM_ cA aV 4 "_law_cases" := .of ψ
theorem ig:NM_ cA aV 5 "_law_other" := .of ψ
theorem jL:NM_ cA aV 6 "_law_many" := .of ψ
theorem wY:NM_ cA aV 7 "_law_k" := .of ψ
theorem eY:NM_ cA aV 8 "_law_items" := .of ψ
theorem wX:NM_ cA aV 9 "_law_turn" := .of ψ
theorem fU:NM_ cA aV 10 "_law_item_here" := .of ψ
theorem rC:GI_ aV "_law_item" := by decide +kernel
theorem rB:GI_ aV "_law_kind" := by decide +kernel
theorem qw:GI_ aV "_law_least" := by decide +kernel
theorem gw:GI_ aV "_law_take" := by decide +kernel
theorem uT:GI_ aV "int" := by decide +kernel
theorem jX:GI_ aV "range" := by decide +kernel
theorem zK:Bn "_law_wild_choice" := ⟨ψ,ψ⟩
theorem Xb (hB:∀x:Str,x∈BLs->mg x=none) (CZTake:Cal P w K mg base "_law_take" 2 q1_ (gj 2)) (CZKind:Cal P w K mg base "_law_kind" 3 q9_ Pz) (CZLeast:Cal P w K mg base "_law_least" 1 q7_ sy) (CZItem:Cal P w K mg base "_law_item" 4 q0_ PB)
  (F:Fun K "_law_wild_choice" "_law_wild_choice" aV f fd):cU P w K mg base CX0 5 f fd q9_ Pr:=by
 refine F.okq bZ (fun vs H Q E h=>?_) (fun cdv A outer s H vs Q E hr h=>?_)
 ·obtain⟨p,B,rfl,_⟩:=h;rfl
 obtain⟨p,B,rfl,tp,hB0,hB1,q⟩:=h;refine⟨_,(aD (jJ (bG CZKind (hr.mono δ) rB YG (ak (ao fj) au rfl) rfl rfl) (eX (n:=2) rfl (aQ (cB eZ bZ.nd (.inl rfl)) (aQ (cB iu bZ.nd (.inl rfl)) dF rfl) rfl) rfl rfl) rfl rfl rfl)
  (aD (bK jM bZ.nd (gR (bV hr.bF) (bG CZTake (hr.mono δ) gw cQ (ak (ao fj) (ak aq au rfl) rfl) rfl rfl) aq (aL _)) rfl (.inl rfl))
  (aD (J3 (i:=4) (j:=5) (k:=6) rfl bZ.nd rfl rfl rfl δ δ δ rfl rfl rfl (ak (cO au) (ak (bG CZLeast (hr.mono δ) qw yI (ak (ao eZ) (ak (ao iu) au rfl) rfl) rfl rfl) (ak aq au rfl) rfl) rfl) (by rfl))
  (aD (fJ CA rfl (gF jX (hB "range" fP) (ak (bG CZTake (hr.mono δ) gw cQ (ak (ao fj) (ak (qJ (gO (ao jM) (fun _=>rfl)) aq aq) au rfl) rfl) rfl rfl) au rfl) rfl) (cB wY bZ.nd (.inl rfl))
  (aD (bK eY bZ.nd (cO au) rfl (.inl rfl))
  (aD (fJ CA rfl (gF jX (hB "range" fP) (ak (bG CZTake (hr.mono δ) gw cQ (ak (ao fj) (ak (qJ (gO (ao jM) (fun _=>rfl)) aq aq) au rfl) rfl) rfl rfl) au rfl) rfl) (cB wX bZ.nd (.inl rfl))
  (aD (bK fU bZ.nd (bG CZItem (hr.mono δ) rC YH (ak (ao fj) (ak (ao eZ) (ak (ao iu) (ak (ao ig) au rfl) rfl) rfl) rfl) rfl rfl) rfl (.inl rfl))
  (aD (bK jL bZ.nd (aJ bw (ao jL) (J6 m8 uT (hB "int" xU) boot_int yH (ak (gR (bV hr.bF) (aY bY (ao fU) aq (fun _ _=>rfl)) dM (aL _)) au rfl) rfl rfl)) rfl (.inl rfl))
  (aD (gP (mH (ao eY) (qJ (zj (wN (aU n8 (ao eZ) aq (aL _)) (wN (aU n8 (ao jL) aq (aL _)) (uK (aU (kZ hr.bF) (aY bY (ao fU) aq (fun _ _=>rfl)) dM (aL _)))))) (ao fU) (cI (ak dM (ak (ao ig) au rfl) rfl))) rfl rfl rfl rfl rfl) rfl)
  (aH (bK ig bZ.nd (qJ (aU (kZ hr.bF) (aY bY (aY bY (ao eY) (nY jD aq) (fun _ _=>rfl)) aq (fun _ _=>rfl)) dM (aL _)) (aY bY (aY bY (ao eY) (nY jD aq) (fun _ _=>rfl)) aq (fun _ _=>rfl)) (ao ig)) rfl (.inl rfl)))))) (fun _=>rfl))
  (aH (gP (mH (ao oh) (ao eY) rfl rfl rfl rfl rfl) rfl)))) (fun _=>rfl))
  (aH (aM (cI (ak (ao eZ) (ak (ao iu) (ak (ao oh) au rfl) rfl) rfl)))))))),?_⟩
 refine aK fun k hk=>?_;push_cast;refine⟨p,B,rfl,tp,ω,ω,fun w s t H1 hw1 hw2 hs s1 tp1 ht=>?_⟩;push_cast [ht];subst hk;refine aK fun k hk=>?_;push_cast;refine⟨p,8,B+10,rfl,tp1,by show B+10+2<=1000100;omega,δ,δ,δ,fun z=>absurd z δ,fun r1 H2 r10 r11 s2 tp2=>?_⟩;push_cast;subst hk;generalize decide (r1=0)=great;refine aK fun k hk=>?_;push_cast;refine⟨aO δ,fun c hc=>?_⟩;refine⟨w,s,rfl,hw1,hw2,hs,?_⟩;push_cast;subst hk;obtain⟨cp,Hc⟩:=yr (s1.trans s2) tp2 hc;have s3:=pZ (o:=HO.lst []) (s1.trans s2) Hc;have tp3:bM _ p (B+12):=(tp2.same (aA (o:=HO.lst []) hc)).le (by show B+10+2<=B+12;omega);have hc3:upd H2 c (HO.lst []) c=some (HO.lst []):=aB;generalize upd H2 c (HO.lst [])=H3 at s3 tp3 hc3 |-;refine aK fun k hk=>?_;refine jr fun R hR=>?_;push_cast [oZ];have g13:∀(x y:Int),(0<x/\x<=13)->(0<y/\y<=13)->(if great=true then x else y)<=13/\0<(if great=true then x else y):=fun x y hx hy=>by cases great <;> simp <;> omega
 obtain⟨OC,hOC⟩:∃OC:Addr->Prop,OC=fun a=>a≠p/\a≠c:=⟨_,rfl⟩;have body:∀m:Int,0<m->m<=13->gj 2 [V.ref p,V.int m] H3 (fun x H1=>∃j,x=V.int j/\-(2^62)<=j/\j<2^62/\R (Itr 0 j.toNat) H1) E0:=by
  intro m hm0 hm1;refine⟨p,m,B+12,rfl,tp3,by show B+12+2<=1000100;omega,hm0,ω,δ,fun z=>absurd z ω,fun r2 H4 r20 r21 s4 tp4=>?_⟩;refine⟨r2,rfl,ω,ω,?_⟩;obtain⟨Pv,hPv⟩:∃Pv:Nat->L2.St->Hp->Prop,Pv=fun(i:Nat) σ H'=>∃(css:List (List It1)) (vs:List V) (ot mn:Int) (o7 o8 o9 o10:Option V),dW p H H'/\bM H' p (B+20+400*(i:Int))/\H' c=some (HO.lst vs)/\aN OC H' vs (css.map lW) /\
   css.length=i/\(∀its∈css,its.length<=6/\∀it∈its,it.Ok w s)/\cG w s ot /\
   σ=[some (V.ref p),some (V.int w),some (V.int s),some (V.bl great),some (V.ref c),some (V.int ot),some (V.int mn),o7,o8,o9,o10]:=⟨_,rfl⟩
  have hc4:=s4 _ _ cp hc3;refine yu hR Pv (by rw[hPv];exact⟨[],[],_,_,_,_,_,_,s3.trans s4,tp4.le (by show B+12+2<=B+20+400*((0:Nat):Int);omega),hc4,.nil,rfl,by simp,Cy,rfl⟩) ?_ ?_
  ·intro i σ H5 hi pv;rw[hPv] at pv;obtain⟨css,vs,ot,mn,o7,o8,o9,o10,s5,tp5,hc5,ts5,hcl,hok,hot,rfl⟩:=pv;refine aK fun k2 hk2=>?_;push_cast;refine⟨aO δ,fun q0 hq0=>?_⟩;obtain⟨qp,Hq⟩:=yr s5 tp5 hq0;have qc:q0≠c:=(aG hc5 hq0).symm;obtain⟨OQ,hOQ⟩:∃OQ:Addr->Prop,OQ=fun a=>(a≠p/\a≠c)/\a≠q0:=⟨_,rfl⟩;have ts6:aN OQ (upd H5 q0 (HO.lst [])) vs (css.map lW):=ts5.keep fun a o h e=>by
    rw[hOC] at h;rw[hOQ];exact⟨⟨h,aG e hq0⟩,aA hq0 _ _ e⟩
   have s6:=pZ (o:=HO.lst []) s5 Hq;have tp6:=tp5.same (aA (o:=HO.lst []) hq0);have hc6:=aA (o:=HO.lst []) hq0 _ _ hc5;have hq6:upd H5 q0 (HO.lst []) q0=some (HO.lst []):=aB;generalize upd H5 q0 (HO.lst [])=H6 at s6 tp6 hc6 hq6 ts6 |-;subst hk2;refine aK fun k2 hk2=>?_;refine jr fun R2 hR2=>?_;push_cast [oZ];have body2:∀m:Int,0<m->m<=7->gj 2 [V.ref p,V.int m] H6 (fun x H1=>∃j,x=V.int j/\-(2^62)<=j/\j<2^62/\R2 (Itr 0 j.toNat) H1) E0:=by
    intro m hm0 hm1;refine⟨p,m,B+20+400*(i:Int),rfl,tp6,by show B+20+400*(i:Int)+2<=1000100;omega,hm0,ω,δ,fun z=>absurd z ω,fun r3 H7 r30 r31 s7 tp7=>?_⟩;refine⟨r3,rfl,ω,ω,?_⟩;obtain⟨Pv2,hPv2⟩:∃Pv:Nat->L2.St->Hp->Prop,Pv=fun(j:Nat) σ H'=>∃(its:List It1)(us:List V)(ot mn:Int)(o9 o10:Option V),dW p H H'/\bM H' p (B+20+400*(i:Int)+2+60*(j:Int))/\H' c=some (HO.lst vs)/\H' q0=some (HO.lst us)/\aN OQ H' vs (css.map lW) /\
     aN OQ H' us (its.map itD)/\its.length=j/\(∀it∈its,it.Ok w s)/\cG w s ot /\
     σ=[some (V.ref p),some (V.int w),some (V.int s),some (V.bl great),some (V.ref c),some (V.int ot),some (V.int mn),some (V.int (0+(i:Int))),some (V.ref q0),o9,o10]:=⟨_,rfl⟩
    have kq:∀{H H':Hp},dW p H H'->∀a o,OQ a->H a=some o->OQ a/\H' a=some o:=fun {H H'} sx a o h e=>by
     refine⟨h,sx a o ?_ e⟩;rw[hOQ] at h;exact h.1.1
    refine yu hR2 Pv2 (by rw[hPv2];exact⟨[],[],ot,mn,_,_,s6.trans s7,tp7.le (by show B+20+400*(i:Int)+2<=B+20+400*(i:Int)+2+60*((0:Nat):Int);omega),s7 _ _ cp hc6,s7 _ _ qp hq6,ts6.keep (kq s7),.nil,rfl,by simp,hot,rfl⟩) ?_ ?_
    ·intro j σ H8 hj pv;rw[hPv2] at pv;obtain⟨its,us,ot8,mn8,o9',o10',s8,tp8,hc8,hq8,tv8,tu8,hil,hio,hot8,rfl⟩:=pv;have hul:=tu8.length;rw[AV] at hul;refine aK fun k3 hk3=>?_;push_cast;refine⟨p,w,s,ot8,B+20+400*(i:Int)+2+60*(j:Int),rfl,tp8,ω,ω,hw1,hw2,hs,fun it t9 H9 ok9 s9 tp9 at9=>?_⟩;push_cast;subst hk3;have hc9:=s9 _ _ cp hc8;have hq9:=s9 _ _ qp hq8;have tv9:=tv8.keep (kq s9);have tu9:=tu8.keep (kq s9);have s89:=s8.trans s9
     -- the item that goes in
     have put:∀(it2:It1)(t2:Addr)(H10:Hp)(mn2:Int)(k4:L2.St->Hp->Prop),k4=vI (tIf (vg (tOp Ho (tOp Hr (tOp Hr (tV 8) (tUn (rU fun i=>V.int (-i)) (tC (V.int 1)))) (tC (V.int 0))) (tC (V.str "bits"))))
       (tOp Hr (tOp Hr (tV 8) (tUn (rU fun i=>V.int (-i)) (tC (V.int 1)))) (tC (V.int 1))) (tV 5)) (jZ 5) { nx:=Pv2 (j+1),ct:=Pv2 (j+1),bk:=k2,rt:=Q } ->
       it2.Ok w s->Same H9 H10->pQ H10 t2 it2 ->
       apq (H10 q0) q0 (V.ref t2) H10 (fun _ H1=>k4 [some (V.ref p),some (V.int w),some (V.int s),some (V.bl great),some (V.ref c),some (V.int ot8),some (V.int mn2),some (V.int (0+(i:Int))),some (V.ref q0),some (V.int (0+(j:Int))),some (V.ref t9)] H1):=by
      intro it2 t2 H10 mn2 k4 hk4 ok2 s10 at2;rw[s10 _ _ hq9,wk];have hlt:us.length<AM:=AN ω (aO (AY 1000000));refine⟨hlt,?_⟩;have tq:t2≠q0:=fun z=>by have:=at2.h;rw[z,s10 _ _ hq9] at this;cases this
      have tc:t2≠c:=fun z=>by have:=at2.h;rw[z,s10 _ _ hc9] at this;cases this
      have tpn:t2≠p:=(tp9.same s10).net at2.h;have kk:∀a o,OQ a->H10 a=some o->OQ a/\upd H10 q0 (HO.lst (us++[V.ref t2])) a=some o:=fun a o h e=>by
       refine⟨h,?_⟩;rw[hOQ] at h;rw[aF h.2];exact e
      have at3:pQ (upd H10 q0 (HO.lst (us++[V.ref t2]))) t2 it2:=⟨by rw[aF tq];exact at2.h⟩;have s11:=pZ (o:=HO.lst (us++[V.ref t2])) (s89.trans s10.x) Hq;have tp11:=(tp9.same s10).upd (o:=HO.lst (us++[V.ref t2])) qp;have hc11:upd H10 q0 (HO.lst (us++[V.ref t2])) c=some (HO.lst vs):=by rw[aF (B2 qc)];exact s10 _ _ hc9
      have hq11:upd H10 q0 (HO.lst (us++[V.ref t2])) q0=some (HO.lst (us++[V.ref t2])):=aB;have tv11:=(tv9.same s10).keep kk;have tu11:aN OQ (upd H10 q0 (HO.lst (us++[V.ref t2]))) (us++[V.ref t2]) ((its++[it2]).map itD):=by
       rw[DJ];exact((tu9.same s10).keep kk).append (.cons (at3.tree (by rw[hOQ];exact⟨⟨tpn,tc⟩,tq⟩)) .nil)
      generalize upd H10 q0 (HO.lst (us++[V.ref t2]))=H11 at at3 s11 tp11 hc11 hq11 tv11 tu11;have fin:∀ot2,cG w s ot2->Pv2 (j+1) [some (V.ref p),some (V.int w),some (V.int s),some (V.bl great),some (V.ref c),some (V.int ot2),some (V.int mn2),some (V.int (0+(i:Int))),some (V.ref q0),some (V.int (0+(j:Int))),some (V.ref t9)] H11:=fun ot2 ho2=>by
       rw[hPv2];refine⟨its++[it2],us++[V.ref t2],ot2,mn2,_,_,s11,tp11.le ω,hc11,hq11,tv11,tu11,by rw[AO,A9];omega,?_,ho2,rfl⟩;intro x hx;rcases A6.mp hx with z|z
       ·exact hio x z
       rw[AK.mp z];exact ok2
      subst hk4;cases it2 with
      | one x=>
       push_cast [hq11,yN,at3.h];exact fin _ ok2
      | rng x y=>
       push_cast [hq11,yN,at3.h];exact fin _ ok2.1
      | bits x y=>
       push_cast [hq11,yN,at3.h];exact fin _ hot8
     refine aK fun k3 hk3=>?_;have put2:∀mn2:Int,k3 [some (V.ref p),some (V.int w),some (V.int s),some (V.bl great),some (V.ref c),some (V.int ot8),some (V.int mn2),some (V.int (0+(i:Int))),some (V.ref q0),some (V.int (0+(j:Int))),some (V.ref t9)] H9:=by
      intro mn2;subst hk3;refine aK fun k4 hk4=>?_;have direct:=put it t9 H9 mn2 k4 hk4 ok9 (Same.refl _) at9;rw[hq9,wk] at direct;cases it with
      | one x=>
       push_cast [hq9,at9.h];split
       ·exact direct
       split
       ·exact direct
       exact direct
      | rng x y=>
       push_cast [hq9,at9.h];split
       ·exact direct
       split
       ·exact direct
       exact direct
      | bits x y=>
       push_cast [hq9,at9.h];split
       ·exact direct
       split
       ·exact direct
       exact⟨aO δ,fun t2 ht2=>put (.one ot8) t2 _ mn2 k4 hk4 hot8 (aA ht2) ⟨aB⟩⟩
     cases it with
     | one x=>push_cast [at9.h];exact put2 _
     | rng x y=>push_cast [at9.h];exact put2 _
     | bits x y=>push_cast [at9.h];exact put2 _
    intro σ H8 pv;rw[hPv2] at pv;obtain⟨its,us,ot8,mn8,o9',o10',s8,tp8,hc8,hq8,tv8,tu8,hil,hio,hot8,rfl⟩:=pv;have hvl:=tv8.length;rw[AV] at hvl;have hul:=tu8.length;rw[AV] at hul;show k2 _ _;subst hk2;push_cast [hc8];refine⟨AN ω (aO (AY 1000000)),?_⟩;rw[hPv];have kk:∀a o,OQ a->H8 a=some o->OC a/\upd H8 c (HO.lst (vs++[V.ref q0])) a=some o:=fun a o h e=>by
     rw[hOQ] at h;rw[hOC];exact⟨h.1,by rw[aF h.1.2];exact e⟩
    refine⟨css++[its],vs++[V.ref q0],ot8,mn8,_,_,_,_,pZ s8 Hc,(tp8.upd cp).le ω,aB,?_,by rw[AO,A9];omega,?_,hot8,rfl⟩
    ·rw[DJ];refine(tv8.keep kk).append (.cons (.lst ?_ (by rw[aF qc];exact hq8) ω (tu8.keep kk)) .nil);rw[hOC];exact⟨qp,qc⟩
    intro x hx;rcases A6.mp hx with z|z
    ·exact hok x z
    rw[AK.mp z];exact⟨ω,hio⟩
   cases great with
   | true=>exact body2 7 δ δ
   | false=>exact body2 5 δ δ
  intro σ H5 pv;rw[hPv] at pv;obtain⟨css,vs,ot,mn,o7,o8,o9,o10,s5,tp5,hc5,ts5,hcl,hok,hot,rfl⟩:=pv;have hvl:=ts5.length;rw[AV] at hvl;show k _ _;subst hk;push_cast;refine⟨aO δ,fun t ht=>?_⟩;obtain⟨tpn,Ht⟩:=yr s5 tp5 ht;have sx:=aA (o:=HO.tup [V.int w,V.int s,V.ref c]) ht;refine q w s t css _ hw1 hw2 hs (s5.trans sx.x) ((tp5.same sx).le ω) ?_ hok ω;exact .tup tpn aB (by show 3<=1000000;decide) (.cons (.int w) (.cons (.int s) (.cons (.lst cp (sx _ _ hc5) ω (ts5.keep fun a o h e=>by
   rw[hOC] at h;exact⟨h.1,sx _ _ e⟩)) .nil)))
 cases great with
 | true=>exact body 13 δ δ
 | false=>exact body 6 δ δ
abbrev yR:List Str:=["_law_width","_law_mask_here","_law_places"]
abbrev nU:Stmt:=top 36
theorem J1:bA yR q14_ (aj nU):=⟨rfl,rfl,rfl,ψ,rfl,ψ,ψ⟩
theorem Fb:NM_ yR nU 0 "_law_width" := .of ψ
theorem RN:NM_ yR nU 2 "_law_places" := .of ψ
theorem t8:GI_ nU "range" := by decide +kernel
theorem YJ:Bn "_law_free" := ⟨ψ,ψ⟩
abbrev bQ:List Str:=["_law_width","_law_sign","_law_mask_here","_law_value","_law_low","_law_free_here","_law_found","_law_number_here","_law_pattern","_law_begin"]
abbrev aR:Stmt:=top 37
theorem dg:bA bQ q2_ (aj aR):=⟨rfl,rfl,rfl,ψ,rfl,ψ,ψ⟩
theorem jn:NM_ bQ aR 0 "_law_width" := .of ψ
theorem vL:NM_ bQ aR 1 "_law_sign" := .of ψ
theorem fW:NM_ bQ aR 2 "_law_mask_here" := .of ψ
theorem jm:NM_ bQ aR 3 "_law_value" := .of ψ
theorem fV:NM_ bQ aR 4 "_law_low" := .of ψ
theorem nF:NM_ bQ aR 5 "_law_free_here" := .of ψ
theorem jl:NM_ bQ aR 6 "_law_found" := .of ψ
theorem vK:NM_ bQ aR 7 "_law_number_here" := .of ψ
theorem jk:NM_ bQ aR 8 "_law_pattern" := .of ψ
theorem jj:NM_ bQ aR 9 "_law_begin" := .of ψ
theorem qC:GI_ aR "_law_free" := by decide +kernel
theorem lU:GI_ aR "enumerate" := by decide +kernel
theorem ug:GI_ aR "int" := by decide +kernel
theorem uf:GI_ aR "len" := by decide +kernel
theorem qz:GI_ aR "range" := by decide +kernel
theorem ud:GI_ aR "sum" := by decide +kernel
theorem yJ:Bn "_law_bits_borders" := ⟨ψ,ψ⟩
theorem Xf (hB:∀x:Str,x∈BLs->mg x=none) (F:Fun K "_law_free" "_law_free" nU f fd):cU P w K mg base CX0 1 f fd q14_ PK:=by
 refine F.okq J1 (fun vs H Q E h=>?_) (fun cdv A outer s H vs Q E hr h=>?_)
 ·obtain⟨w,m,rfl,_⟩:=h;rfl
 obtain⟨w,m,rfl,hw1,hw2,hm,q⟩:=h;refine⟨_,(aD (bK RN J1.nd (gQ (NX:=yR) (kX:=(aj nU).names) ["_law_k","_law_mask_here"] [none,some 1] rfl rfl ⟨rfl,ψ,ψ,ψ,ψ⟩ rfl (gF t8 (hB "range" fP) (ak (ao Fb) au rfl) rfl) (fun _ _ _ _ _=>(cM 0 (show C4 (["_law_k","_law_mask_here"]:List Str) from by decide +kernel) rfl (ET rfl))) (fun _ _ _ _ _=>(uL (aU (bV hr.bF) (aJ jh (aJ BW (bR 1) (bR 0)) aq) aq (aL _)))) (fun _ _ _ _ _=>(bR 0))) rfl (.inl rfl))
  (aH (aM (gQ (NX:=yR) (kX:=(aj nU).names) ["_law_k","_law_places"] [none,some 2] rfl rfl ⟨rfl,ψ,ψ,ψ,ψ⟩ rfl (gF t8 (hB "range" fP) (ak (ao Fb) au rfl) rfl) (fun _ _ _ _ _=>(cM 0 (show C4 (["_law_k","_law_places"]:List Str) from by decide +kernel) rfl (ET rfl))) (fun _ _ _ _ _=>(uL (zj (wO (aU (kZ hr.bF) (bR 1) (cO au) (aL _)) (wO (aU En (bR 0) (aY bY (bR 1) aq (fun _ _=>rfl)) (aL _)) (v5 (aU Mx (bR 0) (bR 1) (by with_unfolding_all rfl)))))))) (fun _ _ _ _ _=>(bR 0)))))),?_⟩
 refine aK fun k hk=>?_;push_cast;refine gC fun R hR=>?_;push_cast [oZ];refine⟨ω,ω,?_⟩;obtain⟨Pv,hPv⟩:∃Pv:Nat->List V->L2.St->Hp->Prop,Pv=fun(i:Nat) acc τ H'=>∃(o1:Option V),H'=H/\acc=bW (places i m)/\τ=[o1,some (V.int m)]:=⟨_,rfl⟩;refine Ui hR (aO ω) Pv (by rw[hPv];exact⟨none,rfl,rfl,rfl⟩) ?_ ?_ ?_
 ·intro i acc τ H1 pv;rw[hPv] at pv;obtain⟨o1,rfl,rfl,rfl⟩:=pv;rw[cV];exact lV _ _
 ·intro i acc τ H1 hi pv;rw[hPv] at pv;obtain⟨o1,rfl,rfl,rfl⟩:=pv;push_cast [HR];refine⟨ω,?_⟩;rw[C0,Bp];have e:places (i+1) m=places i m++if m.testBit i then [i] else []:=kO _ _;cases hb:m.testBit i with
  | true=>
   rw[hb,if_pos rfl] at e;simp only[if_true];rw[hPv];exact⟨_,rfl,by rw[e,zY],rfl⟩
  | false=>
   rw[hb,if_neg δ,DB] at e;simp only[EL,if_false];rw[hPv];exact⟨_,rfl,by rw[e],rfl⟩
 intro acc τ H1 d pv hd;rw[hPv] at pv;obtain⟨o1,rfl,rfl,rfl⟩:=pv;subst hk;push_cast;refine gC fun R2 hR2=>?_;push_cast [oZ];refine⟨ω,ω,?_⟩;have h0:upd H1 d (HO.lst (bW (places w.toNat m))) d=_:=aB;have s0:Same H1 _:=aA (o:=HO.lst (bW (places w.toNat m))) hd;generalize upd H1 d (HO.lst (bW (places w.toNat m)))=H2 at h0 s0;obtain⟨Pv2,hPv2⟩:∃Pv:Nat->List V->L2.St->Hp->Prop,Pv=fun(i:Nat) acc τ H'=>∃(o1:Option V),Same H2 H'/\acc=bW (frees i m)/\τ=[o1,some (V.ref d)]:=⟨_,rfl⟩;refine Ui hR2 (aO ω) Pv2 (by rw[hPv2];exact⟨none,Same.refl _,rfl,rfl⟩) ?_ ?_ ?_
 ·intro i acc τ H3 pv;rw[hPv2] at pv;obtain⟨o1,_,rfl,rfl⟩:=pv;rw[cV];exact lV _ _
 ·intro i acc τ H3 hi pv;rw[hPv2] at pv;obtain⟨o1,s3,rfl,rfl⟩:=pv;have h3:=s3 _ _ h0;have e:frees (i+1) m=frees i m++if isFree m i then [i] else []:=kO _ _;push_cast [HR];refine⟨aO δ,fun t ht=>?_⟩;have n1:d≠t:=aG h3 ht;have s4:Same H2 (upd H3 t (HO.lst [])):=s3.trans (aA ht);cases hp:places w.toNat m with
  | nil=>
   have hf:=Nr hp hi;rw[hf,if_neg δ,DB] at e;rw[hp] at h3;push_cast [aF n1,h3];refine⟨rfl,rfl,?_⟩;show Pv2 _ _ _ _;rw[hPv2];exact⟨_,s4,by rw[e],rfl⟩
  | cons a r=>
   have hf:=Nq hp hi;have h4:H3 d=some (HO.lst (V.int a::bW r)):=by rw[h3,hp];rfl
   push_cast [aF n1,h4];refine⟨zZ (a::r),rfl,?_⟩;rw[abv];push_cast [aF n1,h4,K8];by_cases hak:a<i
   ·rw[decide_eq_true hak,F1] at hf;rw[if_pos (show(a:Int)<(i:Int) by omega)];refine⟨rfl,zZ (a::r),?_⟩;rw[show inV (V.int (i:Nat)) (V.int a::bW r)=(a::r).contains i from Yd i (a::r)];cases hc:(a::r).contains i with
    | true=>
     rw[hc] at hf;rw[hf] at e;simp only[F0,EL,if_false,if_true,DB] at e |-;rw[hPv2];exact⟨_,s4,by rw[e],rfl⟩
    | false=>
     rw[hc] at hf;rw[hf] at e;simp only[EB,if_true] at e |-;rw[hPv2];exact⟨_,s4,by rw[e,zY],rfl⟩
   rw[decide_eq_false hak,D1] at hf;rw[if_neg (show ¬(a:Int)<(i:Int) by omega)];rw[hf,if_neg δ,DB] at e;rw[hPv2];exact⟨_,s4,by rw[e],rfl⟩
 intro acc τ H3 d2 pv hd2;rw[hPv2] at pv;obtain⟨o1,s3,rfl,rfl⟩:=pv;exact q d2 _ aB (s0.trans (s3.trans (aA hd2)))
theorem ach (hB:∀x:Str,x∈BLs->mg x=none) (CZFree:Cal P w K mg base "_law_free" 1 q14_ PK) (F:Fun K "_law_bits_borders" "_law_bits_borders" aR f fd):cU P w K mg base CX0 2 f fd q2_ Zm:=by
 refine F.okq dg (fun vs H Q E h=>?_) (fun cdv A outer s H vs Q E hr h=>?_)
 ·obtain⟨w,s,m,v,rfl,_⟩:=h;rfl
 obtain⟨w,s,m,v,rfl,hw1,hw2,hs,hm,hv,hf,q⟩:=h;refine⟨_,(aD (b8 (zj (wN (aU (bV hr.bF) (ao fW) aq (aL _)) (uK (aU (kZ hr.bF) (aJ jh (ao jm) (ao fW)) (ao jm) (aL _))))) (aH (aM (cO au))) bJ)
  (aD (J3 (i:=4) (j:=5) (k:=6) rfl dg.nd rfl rfl rfl δ δ δ rfl rfl rfl (ak aq (ak (bG CZFree (hr.mono δ) qC YJ (ak (ao jn) (ak (ao fW) au rfl) rfl) rfl rfl) (ak (cO au) au rfl) rfl) rfl) (by rfl))
  (aD (QX CA (aU (bV hr.bF) (aJ jh (aJ BW (ao fW) (ao fV)) aq) aq (aL _)) (aH (bK fV dg.nd (aJ bw (ao fV) aq) rfl (.inl rfl))))
  (aD (fJ CA rfl (gF qz (hB "range" fP) (ak (aJ dN aq (cF j7 uf (hB "len" rz) GG rK (ak (ao nF) au rfl) rfl rfl)) au rfl) rfl) (cB vK dg.nd (.inl rfl))
  (aD (bK jk dg.nd (aJ bw (ao jm) (cF (Nz rfl) ud (hB "sum" aa1) boot_sum abz (ak (gQ (NX:=bQ) (kX:=(aj aR).names) ["_law_k","_law_place","_law_number_here"] [none,none,some 7] rfl rfl ⟨rfl,ψ,ψ,ψ,ψ⟩ rfl (sV lU (hB "enumerate" iG) (ak (ao nF) au rfl) rfl) (fun _ _ _ _ _=>(eX (n:=2) rfl (aQ (cM 0 (show C4 (["_law_k","_law_place","_law_number_here"]:List Str) from by decide +kernel) rfl (ET rfl)) (aQ (cM 1 (show C4 (["_law_k","_law_place","_law_number_here"]:List Str) from by decide +kernel) rfl (ET rfl)) dF rfl) rfl) rfl rfl)) (fun _ _ _ _ _=>(uL (aU (bV hr.bF) (aJ jh (aJ BW (bR 2) (bR 0)) aq) aq (aL _)))) (fun _ _ _ _ _=>(aJ dN aq (bR 1)))) au rfl) rfl rfl)) rfl (.inl rfl))
  (aD (bK jj dg.nd (aJ dZ (ao jk) (aJ gW (aJ dN aq (ao jn)) (J6 m8 ug (hB "int" xU) boot_int yH (ak (wR (gR (bV hr.bF) (ao vL) aq (aL _)) (BR (gR (bV hr.bF) (aJ BW (ao jk) (aJ dZ (ao jn) aq)) aq (aL _)))) au rfl) rfl rfl))) rfl (.inl rfl))
  (aH (bK jl dg.nd (aJ bw (ao jl) (cO (ak (ao jj) (ak (aJ bw (ao jj) (aJ dN aq (ao fV))) au rfl) rfl))) rfl (.inl rfl))))) (fun _=>rfl))
  (aH (aM (ao jl))))))),?_⟩
 have p1:=two_pow_pos w.toNat;have p2:=gG (k:=w.toNat) ω;have ret:(m=0\/v &&& m≠v)->0<=AM/\∀(p:Addr),H p=none->Q (V.ref p) (upd H p (HO.lst [])):=fun z=>⟨D2 _,fun p hp=>q p _ [] aB (D2 _) (fun b=>YX z) (aA hp)⟩;refine aK fun k hk=>?_;push_cast [gD];split
 ·rename_i hm0;exact ret (.inl ω)
 rename_i hm0;by_cases hvm:v &&& m=v
 case neg=>
  push_cast [ofNat_inj,decide_eq_false hvm,EB];exact ret (.inr hvm)
 push_cast [hvm,F0,decide_true];subst hk;refine aK fun k hk=>?_;push_cast;refine⟨w,m,rfl,ω,ω,hm,fun fr H1 hfr s1=>?_⟩;push_cast;refine⟨aO δ,fun fo hfo=>?_⟩;have s2:Same H (upd H1 fo (HO.lst [])):=s1.trans (aA hfo);have hfr2:upd H1 fo (HO.lst []) fr=some (HO.lst (bW (frees w.toNat m))):=aA hfo _ _ hfr;have hfo2:upd H1 fo (HO.lst []) fo=some (HO.lst []):=aB;generalize upd H1 fo (HO.lst [])=H2 at s2 hfr2 hfo2;subst hk
 -- the lowest place
 refine aK fun k hk=>?_;obtain⟨L,hL⟩:∃L,m.testBit L=true:=Nat.exists_testBit_of_ne_zero ω;have hLw:L<w.toNat:=by
  rcases C5 L w.toNat with z|z
  ·exact z
  rw[Cn (AN hm (B6 δ z))] at hL;cases hL
 obtain⟨Wv,hWv⟩:∃Wv:Nat->L2.St->Hp->Prop,Wv=fun(i:Nat) σ H'=>∃(lo:Nat),H'=H2/\lo+i=L/\(∀i',i'<lo->m.testBit i'=false)/\σ=[some (V.int w),some (V.int s),some (V.int m),some (V.int v),some (V.int (lo:Nat)),some (V.ref fr),some (V.ref fo),none,none,none]:=⟨_,rfl⟩;refine Vi Wv L (by rw[hWv];exact⟨0,rfl,ω,fun i hi=>absurd hi ω,rfl⟩) ?_;intro i σ H3 wv;rw[hWv] at wv;obtain⟨lo,rfl,hlo,hlow,rfl⟩:=wv;push_cast;refine⟨ω,?_⟩;rw[C0,Bp];by_cases hb:m.testBit lo=true
 ·rw[if_pos hb,if_neg δ];subst hk;clear hWv
  -- the numbers of free places
  refine aK fun k hk=>?_;refine jr fun R hR=>?_;push_cast [oZ,hfr2,FO];have hl4:(bW (frees w.toNat m)).length<=4:=by rw[cV];exact hf
  refine⟨⟨ω,ω,δ⟩,?_⟩;have l16:(2:Int)^(((bW (frees w.toNat m)).length:Nat):Int).toNat<=16:=by
   rw[C0,j6];have:2^(bW (frees w.toNat m)).length<=2^4:=B6 δ hl4;omega
  have l0:=two_pow_pos (((bW (frees w.toNat m)).length:Nat):Int).toNat;have lN:((2:Int)^(((bW (frees w.toNat m)).length:Nat):Int).toNat)=((2^(frees w.toNat m).length:Nat):Int):=by rw[C0,cV,j6]
  generalize (2:Int)^(((bW (frees w.toNat m)).length:Nat):Int).toNat=N at l16 l0 lN |-;refine⟨ω,ω,?_⟩;obtain⟨Pv,hPv⟩:∃Pv:Nat->L2.St->Hp->Prop,Pv=fun(i:Nat) σ H'=>∃(ns:List Int)(fo:Addr)(o7 o8 o9:Option V),Same H3 H'/\H' fo=some (HO.lst (ns.map V.int))/\ns.length=2*i/\(∀b,b∈ns ↔ ∃j,j<i/\(b=nOf w.toNat s (v+jE (frees w.toNat m) j)\/b=nOf w.toNat s (v+jE (frees w.toNat m) j)+2^lo)) /\
   σ=[some (V.int w),some (V.int s),some (V.int m),some (V.int v),some (V.int (lo:Nat)),some (V.ref fr),some (V.ref fo),o7,o8,o9]:=⟨_,rfl⟩
  refine yu hR Pv (by rw[hPv];exact⟨[],fo,none,none,none,Same.refl _,hfo2,rfl,fun b=>⟨fun z=>(by cases z),fun⟨j,hj,_⟩=>absurd hj ω⟩,rfl⟩) ?_ ?_
  ·intro j σ H4 hj pv;rw[hPv] at pv;obtain⟨ns,fo4,o7,o8,o9,s4,hfo4,hns,hmm,rfl⟩:=pv;have hfr4:=s4 _ _ hfr2;push_cast;refine gC fun R2 hR2=>?_;push_cast [xZ,hfr4];refine⟨⟨_,SqL.of hfr4⟩,?_⟩;obtain⟨Pc,hPc⟩:∃Pv:Nat->List V->L2.St->Hp->Prop,Pv=fun(i:Nat) acc τ H'=>∃(ns:List Int)(o1 o2:Option V),Same H4 H'/\acc=ns.map V.int/\(ns.length<=i/\ns.sum=((jE ((frees w.toNat m).take i) j:Nat):Int))/\τ=[o1,o2,some (V.int (0+(j:Int)))]:=⟨_,rfl⟩;refine Jk hR2 (xs:=bW (frees w.toNat m)) (aO ω) Pc (by rw[hPc];exact⟨[],none,none,Same.refl _,rfl,⟨AY _,rfl⟩,rfl⟩) ?_ ?_ ?_ ?_
   ·intro i acc τ H5 pc;rw[hPc] at pc;obtain⟨ns5,o1,o2,s5,rfl,⟨h5,h6⟩,rfl⟩:=pc;rw[AV];exact h5
   ·intro i acc τ H5 pc;rw[hPc] at pc;obtain⟨ns5,o1,o2,s5,rfl,⟨h5,h6⟩,rfl⟩:=pc;exact SqL.of (s5 _ _ hfr4)
   ·intro i x acc τ H5 t hx pc ht;rw[hPc] at pc;obtain⟨ns5,o1,o2,s5,rfl,⟨h5,h6⟩,rfl⟩:=pc;obtain⟨pl,hpl,hpi,rfl⟩:∃pl:Nat,pl<w.toNat/\(frees w.toNat m)[i]?=some pl/\x=V.int (pl:Nat):=by
     unfold bW at hx;rw[BH] at hx;obtain⟨pl,hp,rfl⟩:=B8.mp hx;exact⟨pl,TV (BF hp),hp,rfl⟩
    have hst:=Lp (j:=j) hpi;push_cast [HR];refine⟨ω,?_⟩;have s6:=s5.trans (aA (o:=HO.tup [V.int (i:Nat),V.int (pl:Nat)]) ht);rw[C0,Bp];cases hbi:j.testBit i with
    | true=>
     rw[hbi,if_pos rfl] at hst;rw[if_pos rfl,if_pos rfl];refine⟨⟨ω,ω,δ⟩,?_⟩;rw[hPc];exact⟨ns5++[1*2^(pl:Int).toNat],_,_,s6,by simp,⟨by simp;omega,by
      rw[sum_append,List.sum_singleton,h6,hst,C0,FO,Int.natCast_add,DC];rfl⟩,by rw[HR]⟩
    | false=>
     rw[hbi,if_neg δ] at hst;rw[if_neg δ];rw[hPc];exact⟨ns5,_,_,s6,rfl,⟨ω,by rw[h6,hst];rfl⟩,by rw[HR]⟩
   intro acc τ H5 d pc hd;rw[hPc] at pc;obtain⟨ns5,o1,o2,s5,rfl,⟨h5,h6⟩,rfl⟩:=pc;push_cast;refine⟨ns5,rfl,?_⟩;push_cast [FO];have s6:=s5.trans (aA (o:=HO.lst (ns5.map V.int)) hd);generalize upd H5 d (HO.lst (ns5.map V.int))=H6 at s6;have hfo6:=s6 _ _ hfo4;rw[cV,DD] at h6;have hj':j<2^(frees w.toNat m).length:=ω;have hin:=Gp hm hvm hb hlow hj';have hlt:=(lZ hvm hm hb hlow hin).1;have epat:(v:Int)+ns5.sum=((v+jE (frees w.toNat m) j:Nat):Int):=by rw[h6,Int.natCast_add]
   rw[epat];generalize hpat:v+jE (frees w.toNat m) j=pat at hlt |-;have fin:∀a b:Int,a=nOf w.toNat s pat->b=nOf w.toNat s pat+2^lo->2<=AM/\∀(p:Addr),H6 p=none->adq (upd H6 p (HO.lst [V.int a,V.int b]) fo4) (some (HO.lst [V.int a,V.int b])) (upd H6 p (HO.lst [V.int a,V.int b])) fun x H1=>
     Pv (j+1) [some (V.int w),some (V.int s),some (V.int m),some (V.int v),some (V.int (lo:Nat)),some (V.ref fr),some x,some (V.int (0+(j:Int))),some (V.int pat),some (V.int a)] H1:=by
    intro a b ha hb2;refine⟨aO δ,fun p hp=>?_⟩;rw[aF (aG hfo6 hp),hfo6,Dj];refine⟨aO (by simp only[AV,BA,KB];omega),fun p2 hp2=>?_⟩;rw[hPv];exact⟨ns++[a,b],p2,_,_,_,s4.trans (s6.trans ((aA hp).trans (aA hp2))),by rw[aB];simp,by simp only[AO,BA,KB];omega,YW (A:=fun j=>nOf w.toNat s (v+jE (frees w.toNat m) j)) (B:=fun j=>nOf w.toNat s (v+jE (frees w.toNat m) j)+2^lo) hmm (by rw[ha,<- hpat]) (by rw[hb2,<- hpat]),rfl⟩
   refine⟨⟨ω,ω,δ⟩,?_⟩;split
   ·rename_i hs1;have l1:=Xm (w:=w) ω hs1 hlt;exact⟨ω,.inl ⟨ω,ω⟩,⟨ω,ω,δ⟩,fin _ _ l1 (by rw[l1,C0])⟩
   rename_i hs1;have l1:=RQ (w:=w) (p:=pat) (show s=0 by omega);exact⟨.inl ⟨ω,ω⟩,⟨ω,ω,δ⟩,fin _ _ l1 (by rw[l1,C0])⟩
  intro σ H4 pv;rw[hPv] at pv;obtain⟨ns,fo4,o7,o8,o9,s4,hfo4,hns,hmm,rfl⟩:=pv;show k _ _;subst hk;push_cast;exact q _ _ ns hfo4 ω (abH hm hvm hb hlow (by rw[show N.toNat=2^(frees w.toNat m).length by omega] at hmm;exact hmm)) (s2.trans s4)
 rw[if_neg hb,if_pos rfl];have hne:lo≠L:=fun z=>hb (by rw[z];exact hL);refine⟨Wv (i-1),fun σ' H' z=>⟨i-1,ω,z⟩,?_⟩;rw[hWv];exact⟨lo+1,rfl,ω,fun i hi=>by
  rcases C5 i lo with c|c
  ·exact hlow i c
  rw[show i=lo by omega];exact B3.mpr hb,by rw[Int.natCast_add];rfl⟩
end
abbrev dX:List Str:=["_law_choice","_law_width","_law_sign","_law_cases","_law_least_here","_law_many","_law_found","_law_items","_law_item_here"]
abbrev bT:Stmt:=top 38
theorem cZ:bA dX q6_ (aj bT):=⟨rfl,rfl,rfl,ψ,rfl,ψ,ψ⟩
theorem Fd:NM_ dX bT 0 "_law_choice" := .of ψ
theorem je:NM_ dX bT 1 "_law_width" := .of ψ
theorem oH:NM_ dX bT 2 "_law_sign" := .of ψ
theorem vy:NM_ dX bT 3 "_law_cases" := .of ψ
theorem kI:NM_ dX bT 4 "_law_least_here" := .of ψ
theorem vq:NM_ dX bT 5 "_law_many" := .of ψ
theorem gJ:NM_ dX bT 6 "_law_found" := .of ψ
theorem vp:NM_ dX bT 7 "_law_items" := .of ψ
theorem gH:NM_ dX bT 8 "_law_item_here" := .of ψ
theorem mX:GI_ bT "_law_bits_borders" := by decide +kernel
theorem uW:GI_ bT "_law_least" := by decide +kernel
theorem yh:GI_ bT "list" := by decide +kernel
theorem vP:GI_ bT "range" := by decide +kernel
theorem zF:GI_ bT "set" := by decide +kernel
theorem uV:GI_ bT "sorted" := by decide +kernel
theorem Jt:Bn "_law_borders" := ⟨ψ,ψ⟩
theorem Pk {css:List (List It1)}{i:Nat}{its:List It1}(h:css[i]?=some its):((css.take (i+1)).map CF).sum=((css.take i).map CF).sum+its.length:=by
 rw[CM,h];simp
theorem rW:∀(css:List (List It1)) (i:Nat),((css.take i).map CF).sum<=(css.map CF).sum
 | [],i=>by simp
 | c::css,0=>by simp
 | c::css,i+1=>by
  have:=rW css i;simp only[List.take_succ_cons,F9,MG];omega
theorem Em {w:Nat}(h:w<=8):(2:Int)^w<=256:=by
 have:2^w<=2^8:=B6 δ h;have e:(2:Int)^w=((2^w:Nat):Int):=by rw[DC];rfl
 omega
section
variable {P:AW}{w:BC}{K:AC}{mg:Str->Option Ap}{base:Heap}{f:Addr}{fd:Dx}{bs:List Str}
theorem HN (hB:∀x:Str,x∈BLs->mg x=none) (CZLeast:Cal P w K mg base "_law_least" 1 q7_ sy) (CZBitsBorders:Cal P w K mg base "_law_bits_borders" 2 q2_ Zm) (F:Fun K "_law_borders" "_law_borders" bT f fd):cU P w K mg base CX0 3 f fd q6_ JT:=by
 refine F.okq cZ (fun vs H Q E h=>?_) (fun cdv A outer s H vs Q E hr h=>?_)
 ·obtain⟨x,w,s,ok,css,rfl,_⟩:=h;rfl
 obtain⟨x,w,s,ok,css,rfl,h1,h2,hs,t,hok,hsum,q⟩:=h;refine⟨_,(aD (jJ (ao Fd) (eX (n:=3) rfl (aQ (cB je cZ.nd (.inl rfl)) (aQ (cB oH cZ.nd (.inl rfl)) (aQ (cB vy cZ.nd (.inl rfl)) dF rfl) rfl) rfl) rfl rfl) rfl rfl rfl)
  (aD (jJ (cI (ak (bG CZLeast (hr.mono δ) uW yI (ak (ao je) (ak (ao oH) au rfl) rfl) rfl rfl) (ak (aJ dN aq (ao je)) au rfl) rfl)) (eX (n:=2) rfl (aQ (cB kI cZ.nd (.inl rfl)) (aQ (cB vq cZ.nd (.inl rfl)) dF rfl) rfl) rfl rfl) rfl rfl rfl)
  (aD (b8 (aU n8 (ao je) aq (aL _)) (aH (aM (Wh rfl yh (hB "list" v8) vP (hB "range" fP) (ak (ao kI) (ak (aJ bw (ao kI) (ao vq)) au rfl) rfl)))) bJ)
  (aD (bK gJ cZ.nd (cO (ak (ao kI) au rfl)) rfl (.inl rfl))
  (aD (fJ CA rfl (dB (ao vy)) (cB vp cZ.nd (.inl rfl))
  (aH (fJ CA rfl (dB (ao vp)) (cB gH cZ.nd (.inl rfl))
  (aH (b8 (aU (bV hr.bF) (aY bY (ao gH) aq (fun _ _=>rfl)) dM (aL _)) (aH (bK gJ cZ.nd (aJ bw (ao gJ) (bG CZBitsBorders (hr.mono δ) mX yJ (ak (ao je) (ak (ao oH) (ak (aY bY (ao gH) aq (fun _ _=>rfl)) (ak (aY bY (ao gH) aq (fun _ _=>rfl)) au rfl) rfl) rfl) rfl) rfl rfl)) rfl (.inl rfl))) (aH (bK gJ cZ.nd (aJ bw (ao gJ) (cO (ak (aY bY (ao gH) aq (fun _ _=>rfl)) (ak (aJ bw (aY bY (ao gH) (nY jD aq) (fun _ _=>rfl)) aq) au rfl) rfl))) rfl (.inl rfl))))) (fun _=>rfl))) (fun _=>rfl))
  (aH (aM (Q0 rfl uV (hB "sorted" qg) zF (hB "set" aa2) (ak (gQ (NX:=dX) (kX:=(aj bT).names) ["_law_border","_law_least_here","_law_many"] [none,some 4,some 5] rfl rfl ⟨rfl,ψ,ψ,ψ,ψ⟩ rfl (dB (ao gJ)) (fun _ _ _ _ _=>(cM 0 (show C4 (["_law_border","_law_least_here","_law_many"]:List Str) from by decide +kernel) rfl (ET rfl))) (fun _ _ _ _ _=>(uL (aU n8 (bR 0) (aJ bw (bR 1) (bR 2)) (aL _)))) (fun _ _ _ _ _=>(bR 0))) au rfl))))))))),?_⟩
 obtain⟨p,c,xs,rfl,op,ep,oc,ec,z,ts⟩:=jc t;have hlen:=ts.length;rw[AV] at hlen;have b1:=jy h1 h2 hs;have p1:=two_pow_pos w.toNat;have p2:=gG (k:=w.toNat) ω;refine aK fun k hk=>?_;push_cast [ep];subst hk;refine aK fun k hk=>?_;push_cast;refine⟨w,s,rfl,h1,h2,hs,?_⟩;push_cast;refine⟨⟨ω,ω,δ⟩,?_⟩;rw[FO];refine⟨aO δ,fun t2 ht2=>?_⟩;have s2:=aA (o:=HO.tup [V.int (wl w s),V.int (2^w.toNat)]) ht2;have e2:upd H t2 (HO.tup [V.int (wl w s),V.int (2^w.toNat)]) t2=_:=aB;generalize upd H t2 (HO.tup [V.int (wl w s),V.int (2^w.toNat)])=H2 at s2 e2 |-;subst hk;refine aK fun k hk=>?_;push_cast;split
 ·rename_i h9;refine⟨⟨ω,ω,ω,ω⟩,?_,fun p3 hp3=>?_⟩
  ·exact aO (by have:=Em (w:=w.toNat) ω;omega)
  refine q p3 _ ((BS (wl w s+2^w.toNat-wl w s).toNat).map fun k=>wl w s+((k:Nat):Int)) (s2.trans (aA hp3)) (by rw[aB,map_map];rfl) ?_ Z2 (VR h9);rw[AV,length_range];have:=Em (w:=w.toNat) ω;omega
 rename_i h9;subst hk;refine aK fun k hk=>?_;push_cast;refine⟨aO δ,fun fo hfo=>?_⟩;have s3:=s2.trans (aA (o:=HO.lst [V.int (wl w s)]) hfo);have e3:upd H2 fo (HO.lst [V.int (wl w s)]) fo=some (.lst ([wl w s].map V.int)):=aB;generalize upd H2 fo (HO.lst [V.int (wl w s)])=H3 at s3 e3 |-;subst hk;refine aK fun k hk=>?_;refine jr fun R hR=>?_;have ec3:=s3 _ _ ec;push_cast [ec3];obtain⟨Pv,hPv⟩:∃Pv:Nat->L2.St->Hp->Prop,Pv=fun(i:Nat) σ H'=>∃(ns:List Int)(fo:Addr)(o7 o8:Option V),Same H H'/\H' fo=some (.lst (ns.map V.int))/\ns.length<=1+32*((css.take i).map CF).sum/\(∀b,b∈ns↔BIn w s (css.take i) b)/\σ=[some (.ref p),some (.int w),some (.int s),some (.ref c),some (.int (wl w s)),some (.int (2^w.toNat)),some (.ref fo),o7,o8]:=⟨_,rfl⟩;refine yw hR (xs:=xs) Pv (by rw[hPv];exact⟨_,_,_,_,s3,e3,by simp,Oi,rfl⟩) (fun i σ H' _ pv=>?_) ?_ ?_
 ·rw[hPv] at pv;obtain⟨_,_,_,_,s',_⟩:=pv;exact SqL.of (s' _ _ ec)
 ·intro i x σ H4 hx pv;rw[hPv] at pv;obtain⟨ns,fo4,o7,o8,s4,e4,hn4,hb4,rfl⟩:=pv;obtain⟨d,hd,td⟩:=(ts.same s4).get hx;rw[BH] at hd;obtain⟨its,hits,rfl⟩:=B8.mp hd;obtain⟨q0,us,rfl,o5,eq4,z4,ts4⟩:=jz td;have hul:=ts4.length;rw[AV] at hul;have hstep:=Pk hits;have hmem:=BF hits;have hall:((css.take (i+1)).map CF).sum<=110:=BN (rW css (i+1)) hsum;push_cast;refine jr fun R2 hR2=>?_;push_cast [eq4];obtain⟨Pw,hPw⟩:∃Pv:Nat->L2.St->Hp->Prop,Pv=fun(j:Nat) σ H'=>∃(ns:List Int)(fo:Addr)(o8:Option V),Same H4 H'/\H' fo=some (.lst (ns.map V.int))/\ns.length<=1+32*((css.take i).map CF).sum+32*j/\(∀b,b∈ns↔BIn w s (css.take i) b\/∃it,it∈its.take j/\bdr w s b it)/\σ=[some (.ref p),some (.int w),some (.int s),some (.ref c),some (.int (wl w s)),some (.int (2^w.toNat)),some (.ref fo),some (.ref q0),o8]:=⟨_,rfl⟩;refine yw hR2 (xs:=us) Pw (by rw[hPw];exact⟨_,_,_,Same.refl _,e4,ω,UG hb4,rfl⟩) (fun i σ H' _ pv=>?_) ?_ ?_
  ·rw[hPw] at pv;obtain⟨_,_,_,s',_⟩:=pv;exact SqL.of (s' _ _ eq4)
  ·intro j x σ H5 hx5 pv;rw[hPw] at pv;obtain⟨ns5,fo5,o8,s5,e5,hn5,hb5,rfl⟩:=pv;obtain⟨d5,hd5,td5⟩:=(ts4.same s5).get hx5;rw[BH] at hd5;obtain⟨it,hit,rfl⟩:=B8.mp hd5;obtain⟨q5,rfl,o6,⟨hi⟩⟩:=pW td5;have hj:j<us.length:=(AF.mp hx5).1;have hoki:=hok its hmem it (BF hit);have fin:∀(a b:Int),(∀n,n∈[a,b]↔bdr w s n it)->2<=AM/\∀(pp:Addr),H5 pp=none->adq (upd H5 pp (HO.lst [V.int a,V.int b]) fo5) (some (HO.lst [V.int a,V.int b])) (upd H5 pp (HO.lst [V.int a,V.int b])) fun x H1=>
     Pw (j+1) [some (.ref p),some (.int w),some (.int s),some (.ref c),some (.int (wl w s)),some (.int (2^w.toNat)),some x,some (.ref q0),some (.ref q5)] H1:=by
    intro a b hab;refine⟨aO δ,fun p6 hp6=>?_⟩;rw[aF (aG e5 hp6),e5,Dj];refine⟨aO (by simp only[AV,BA,KB];omega),fun p7 hp7=>?_⟩;rw[hPw];exact⟨ns5++[a,b],p7,_,s5.trans ((aA hp6).trans (aA hp7)),by rw[aB];simp,by simp only[AO,BA,KB];omega,Gk hb5 hit hab,rfl⟩
   cases it with
   | one a=>
    push_cast [hi];exact fin _ _ fun n=>JD
   | rng a b=>
    push_cast [hi];exact fin _ _ fun n=>JD
   | bits m v=>
    obtain⟨k1,k2,k3⟩:=hoki;push_cast [hi];refine⟨w,s,m,v,rfl,ω,h2,hs,k1,k2,k3 ω,fun pB H6 nB eB lB bB sB=>?_⟩;have e6:=sB _ _ e5;push_cast [e6,eB];refine⟨aO (by simp only[AV];omega),fun p7 hp7=>?_⟩;rw[hPw];exact⟨ns5++nB,p7,_,s5.trans (sB.trans (aA hp7)),by rw[aB,DJ],by rw[AO];omega,Gk hb5 hit bB,rfl⟩
  intro σ H5 pv;rw[hPw] at pv;obtain⟨ns5,fo5,o8,s5,e5,hn5,hb5,rfl⟩:=pv;show Pv _ _ _;rw[hPv];exact⟨_,_,_,_,s4.trans s5,e5,ω,UJ hb5 hits hul,rfl⟩
 intro σ H4 pv;rw[hPv] at pv;obtain⟨ns,fo4,o7,o8,s4,e4,hn4,hb4,rfl⟩:=pv;show k _ _;subst hk;have hss:((css.take xs.length).map CF).sum<=110:=BN (rW css _) hsum;push_cast [ZP];refine gC fun R2 hR2=>?_;push_cast [e4];obtain⟨Pc,hPc⟩:∃Pv:Nat->List V->L2.St->Hp->Prop,Pv=fun(i:Nat) acc τ H'=>∃(us:List Int)(o1:Option V),Same H4 H'/\acc=us.map V.int/\us=(ns.take i).filter (fun b=>decide (b<wl w s+2^w.toNat))/\τ=[o1,some (.int (wl w s)),some (.int (2^w.toNat))]:=⟨_,rfl⟩;refine rJ hR2 (xs:=ns.map V.int) (aO (by rw[AV];omega)) Pc (by rw[hPc];exact⟨[],none,Same.refl _,rfl,rfl,rfl⟩) ?_ ?_ ?_ ?_
 ·intro i9 acc τ H10 pc;rw[hPc] at pc;obtain⟨us,o1,_,rfl,hus,rfl⟩:=pc;rw[AV,hus];exact BN (GM _ _) (GH _ _)
 ·intro i9 acc τ H10 pc;rw[hPc] at pc;obtain⟨us,o1,s10,rfl,hus,rfl⟩:=pc;exact SqL.of (s10 _ _ e4)
 ·intro i9 x acc τ H10 hx pc;rw[hPc] at pc;obtain⟨us,o1,s10,rfl,hus,rfl⟩:=pc;rw[BH] at hx;obtain⟨n,hn,rfl⟩:=B8.mp hx;have hst:(ns.take (i9+1)).filter (fun b=>decide (b<wl w s+2^w.toNat))=us++if n<wl w s+2^w.toNat then [n] else []:=by
   rw[CM,hn,Ee,<- hus];congr 1;by_cases c:n<wl w s+2^w.toNat <;> simp [c]
  push_cast;split
  ·rename_i c;rw[if_pos c] at hst;rw[hPc];exact⟨us++[n],_,s10,by simp,hst.symm,rfl⟩
  rename_i c;rw[if_neg c,DB] at hst;rw[hPc];exact⟨us,_,s10,rfl,hst.symm,rfl⟩
 intro acc τ H10 d pc hd;rw[hPc] at pc;obtain⟨us,o1,s10,rfl,hus,rfl⟩:=pc;rw[AV,DD] at hus;have hul:us.length<=ns.length:=by rw[hus];exact GM _ _
 rw[hlen,DD] at hb4;push_cast;refine⟨us,SqL.of aB,ω,fun pR ys hpR hperm hup=>?_⟩;refine q pR _ ys (s4.trans (s10.trans ((aA hd).trans (aA hpR)))) aB ?_ hup (Ur h1 h9 hs hok hb4 (by rw[<- hus];exact hperm));have:=hperm.length_eq;have:=SRT.KD us;omega
end
abbrev lF:List Str:=["self","one","other","number"]
abbrev jG:Stmt:=inClass (top 17) 0
theorem VH:bA lF lF (aj jG):=⟨rfl,rfl,rfl,ψ,rfl,ψ,ψ⟩
theorem tE:NM_ lF jG 0 "self" := .of ψ
theorem Fi:NM_ lF jG 1 "one" := .of ψ
theorem Fg:NM_ lF jG 2 "other" := .of ψ
theorem Fe:NM_ lF jG 3 "number" := .of ψ
theorem Tw:GI_ jG "CaseError" := by decide +kernel
abbrev cN:List Str:=["taken","least","most","rest","told","free","low","high","label"]
abbrev cu:Stmt:=top 23
theorem dI:bA cN q11_ (aj cu):=⟨rfl,rfl,rfl,ψ,rfl,ψ,ψ⟩
theorem xM:NM_ cN cu 0 "taken" := .of ψ
theorem xK:NM_ cN cu 1 "least" := .of ψ
theorem oM:NM_ cN cu 2 "most" := .of ψ
theorem oK:NM_ cN cu 3 "rest" := .of ψ
theorem fB:NM_ cN cu 4 "told" := .of ψ
theorem dR:NM_ cN cu 5 "free" := .of ψ
theorem iw:NM_ cN cu 6 "low" := .of ψ
theorem jO:NM_ cN cu 7 "high" := .of ψ
theorem oJ:NM_ cN cu 8 "label" := .of ψ
theorem zL:Bn "with_the_rest" := ⟨ψ,ψ⟩
abbrev bU:List Str:=["choice","clash","one","other","number","width","sign","cases","taken","label","items"]
abbrev aP:Stmt:=top 24
theorem b7:bA bU ["choice"] (aj aP):=⟨rfl,rfl,rfl,ψ,rfl,ψ,ψ⟩
theorem oU:NM_ bU aP 0 "choice" := .of ψ
theorem jR:NM_ bU aP 1 "clash" := .of ψ
theorem oR:NM_ bU aP 2 "one" := .of ψ
theorem oO:NM_ bU aP 3 "other" := .of ψ
theorem oN:NM_ bU aP 4 "number" := .of ψ
theorem iz:NM_ bU aP 5 "width" := .of ψ
theorem iy:NM_ bU aP 6 "sign" := .of ψ
theorem jQ:NM_ bU aP 7 "cases" := .of ψ
theorem jP:NM_ bU aP 8 "taken" := .of ψ
theorem xO:NM_ bU aP 9 "label" := .of ψ
theorem nG:NM_ bU aP 10 "items" := .of ψ
theorem rE:GI_ aP "Twice" := by decide +kernel
theorem mZ:GI_ aP "case_spans" := by decide +kernel
theorem pG:GI_ aP "clash_of" := by decide +kernel
theorem mY:GI_ aP "enumerate" := by decide +kernel
theorem pF:GI_ aP "least_of" := by decide +kernel
theorem uX:GI_ aP "len" := by decide +kernel
theorem qG:GI_ aP "most_of" := by decide +kernel
theorem qF:GI_ aP "sorted" := by decide +kernel
theorem lA:GI_ aP "with_the_rest" := by decide +kernel
theorem zM:Bn "stretches_of" := ⟨ψ,ψ⟩
section
variable {P:AW}{w:BC}{K:AC}{mg:Str->Option Ap}{base:Heap}{f:Addr}{fd:Dx}{bs:List Str}{C D N:Addr}
theorem Ru (XC:nM K C D N f) (XD:XBase K D) (hD:mg "CaseError" = some (.ref D)) (hn1:B5 K (.ref C) "one" = some none) (hn2:B5 K (.ref C) "other" = some none) (hn3:B5 K (.ref C) "number" = some none) (F:Fun K "__init__" "Twice.__init__" jG f fd):cU P w K mg base CX0 1 f fd lF (vX C):=by
 refine F.okq VH (fun vs H Q E h=>?_) (fun cdv A outer s H vs Q E hr h=>?_)
 ·obtain⟨a,i,j,n,rfl,_⟩:=h;rfl
 obtain⟨a,i,j,n,rfl,hi,hj,hn,ha,q⟩:=h;refine⟨_,(aD (gP (Q6 XC XD Tw hD (ak (ao tE) (ak (Mp (Hx δ (Hy (ao Fi).h (Hx δ (Hy (ao Fg).h (Hx δ (Hy (ao Fe).h aav))))))) au)))) (aD (Wc XC (ao tE) (ao Fi)) (aD (J4 XC (ao tE) (ao Fg)) (aH (J4 XC (ao tE) (ao Fe)))))),?_⟩;push_cast [tBI,Qk,Qj];refine⟨hi,hj,hn,fun x=>⟨a,_,⟨rfl,rfl⟩,(by show 1<=1000;decide),⟨none,ha⟩,ha,hn1,fun dx hdx hne=>⟨dx,rfl,[("one",V.int i)],by rw[aF hne,aB],(by show 1<90;decide),hn2,qi ψ,dx,by rw[aF (B2 hne),aB],[("one",V.int i),("other",V.int j)],aB,(by show 2<90;decide),hn3,?_,q dx _ hdx hne ?_ aB fun b n1 n2=>?_⟩⟩⟩
 ·rw[qi ψ];exact qi ψ
 ·rw[aF (B2 hne),aF (B2 hne),aB]
 rw[aF n2,aF n2,aF n1,aF n2]
theorem aaN (hB:∀x:Str,x∈BLs->mg x=none) (F:Fun K "with_the_rest" "with_the_rest" cu f fd):cU P w K mg base CX0 1 f fd q11_ Zg:=by
 refine F.okq dI (fun vs H Q E h=>?_) (fun cdv A outer s H vs Q E hr h=>?_)
 ·obtain⟨l,us,lo,hi,rest,zs,L,rfl,_⟩:=h;rfl
 obtain⟨l,us,lo,hi,rest,zs,L,rfl,el,tz,fl,hlh,hlen,q⟩:=h;refine⟨_,(aD (bK fB dI.nd (cO au) rfl (.inl rfl))
  (aD (bK dR dI.nd (ao xK) rfl (.inl rfl))
  (aD (fJ CA rfl (dB (ao xM)) (eX (n:=3) rfl (aQ (cB iw dI.nd (.inl rfl)) (aQ (cB jO dI.nd (.inl rfl)) (aQ (cB oJ dI.nd (.inl rfl)) dF rfl) rfl) rfl) rfl rfl)
  (aD (b8 (aU n8 (ao dR) (ao iw) (aL _)) (aH (gP (mH (ao fB) (cI (ak (ao dR) (ak (aJ dZ (ao iw) aq) (ak (ao oK) au rfl) rfl) rfl)) rfl rfl rfl rfl rfl) rfl)) bJ)
  (aD (gP (mH (ao fB) (cI (ak (ao iw) (ak (ao jO) (ak (ao oJ) au rfl) rfl) rfl)) rfl rfl rfl rfl rfl) rfl)
  (aH (bK dR dI.nd (aJ bw (ao jO) aq) rfl (.inl rfl))))) (fun _=>rfl))
  (aD (b8 (aU vo (ao dR) (ao oM) (aL _)) (aH (gP (mH (ao fB) (cI (ak (ao dR) (ak (ao oM) (ak (ao oK) au rfl) rfl) rfl)) rfl rfl rfl rfl rfl) rfl)) bJ)
  (aH (aM (ao fB))))))),?_⟩
 have zl:=tz.length;refine aK fun k hk=>?_;push_cast;refine⟨aO δ,fun r hr0=>?_⟩;have s0:=aA (o:=HO.lst []) hr0;have e0:upd H r (HO.lst []) r=some (.lst []):=aB;generalize upd H r (HO.lst [])=H0 at s0 e0 |-;subst hk;refine aK fun k hk=>?_;push_cast;subst hk;refine aK fun k hk=>?_;refine jr fun R hR=>?_;have el0:=s0 _ _ el;have nlr:l≠r:=aG el hr0;push_cast [el0];obtain⟨Pv,hPv⟩:∃Pv:Nat->L2.St->Hp->Prop,Pv=fun(i:Nat) σ H'=>∃(free:Int)(told:List (Int×Int×Int)) (us':List V) (o6 o7 o8:Option V),Same H H'/\H' r=some (.lst us')/\bN trE H' us' told/\FI L lo zs told i free/\σ=[some (.ref l),some (.int lo),some (.int hi),some (.int rest),some (.ref r),some (.int free),o6,o7,o8]:=⟨_,rfl⟩;have put:∀{H2:Hp}{us':List V}{told:List (Int×Int×Int)}{x:Int×Int×Int},Same H H2->H2 r=some (.lst us')->bN trE H2 us' told->told.length<=400000->∀{k:Hp->Prop},(∀H3 us3,Same H H3->H3 r=some (.lst us3)->bN trE H3 us3 (told++[x])->(∀p ys,H2 p=some (.tup ys)->H3 p=some (.tup ys))->k H3) ->
   ∀q,H2 q=none->apq (upd H2 q (HO.tup (trE x)) r) r (V.ref q) (upd H2 q (HO.tup (trE x))) fun _ H3=>k H3:=by
  intro H2 us' told x s2 er tt hl k hk q hq;have sq:=aA (o:=HO.tup (trE x)) hq;rw[sq _ _ er,wk];have tl:=tt.length;refine⟨AN ω (aO (AY 1000000)),?_⟩;have er3:=sq _ _ er;refine hk _ (us'++[.ref q]) (fun a o ha=>?_) aB (((tt.same sq).snoc (x:=x) aB).wB er3) (fun p ys ep=>?_)
  ·rw[aF (fun z=>by rw[z,hr0] at ha;cases ha)];exact sq _ _ (s2 _ _ ha)
  rw[aF (fun z=>by rw[z,er] at ep;cases ep)];exact sq _ _ ep
 refine yw hR (xs:=us) Pv (by rw[hPv];exact⟨lo,[],[],_,_,_,s0,e0,.nil,.start fl,rfl⟩) (fun i σ H' _ pv=>by rw[hPv] at pv;obtain⟨_,_,_,_,_,_,s',_⟩:=pv;exact SqL.of (s' _ _ el)) ?_ ?_
 ·intro i x σ H2 hx pv;rw[hPv] at pv;obtain⟨free,told,us',o6,o7,o8,s2,er2,tt2,fi,rfl⟩:=pv;obtain⟨p,z,rfl,hz,ep⟩:=(tz.same s2).got hx;replace ep:H2 p=some (.tup [.int z.1,.int z.2.1,.int z.2.2]):=ep;have li:i<zs.length:=(AF.mp hz).1;have hfl:=fi.ln;have kz:=fl.ne z (BF hz);have hah:=fi.ah z (by rw[m7 hz];exact BE ..);have fin:∀{told2:List (Int×Int×Int)}{us2:List V}{H3:Hp},Same H H3->H3 r=some (.lst us2)->bN trE H3 us2 told2->Cvr L lo z.1 told2->told2.length<=told.length+1->(∀y,told2.getLast?=some y->y.2.2≠z.2.2) ->
    isq (H3 r)/\3<=AM/\∀q,H3 q=none->apq (upd H3 q (HO.tup (trE z)) r) r (V.ref q) (upd H3 q (HO.tup (trE z))) fun _ H4=>Pv (i+1) [some (.ref l),some (.int lo),some (.int hi),some (.int rest),some (.ref r),some (.int (z.2.1+1)),some (.int z.1),some (.int z.2.1),some (.int z.2.2)] H4:=by
   intro told2 us2 H3 s3 er3 t3 c3 l3 y3;refine⟨by rw[er3];trivial,aO δ,fun q hq=>put s3 er3 t3 ω (fun H4 us4 s4 er4 t4 _=>?_) q hq⟩;rw[hPv];exact⟨_,_,us4,_,_,_,s4,er4,t4,fi.take fl hz c3 l3 y3,rfl⟩
  push_cast [ep,er2,tY];by_cases c:free<z.1
  ·rw[if_pos c];have hg:=fi.gap fl (top:=z.1-1) ω ω (fun y m=>by
    rw[m7 hz] at m;rcases BB.mp m with rfl|m
    ·omega
    have hu:(zs.drop i).Pairwise fun a b=>a.2.1<b.1/\(a.2.2=b.2.2->a.2.1+1<b.1):=fl.up.sublist (Kj _ _);rw[m7 hz] at hu;have:=((EO.mp hu).1 y m).1;omega)
   rw[show z.1-1+1=z.1 by omega] at hg;refine⟨aO δ,fun q hq=>put (x:=(free,z.1-1,rest)) s2 er2 tt2 ω (fun H3 us3 s3 er3 t3 kp=>?_) q hq⟩;refine fin s3 er3 t3 hg (by rw[AO];exact AY _) fun y hy=>?_;rw[MR] at hy;cases hy;exact fun e=>kz.2.2.2.1 e.symm
  rw[if_neg c];have ef:free=z.1:=ω;have:=fin s2 er2 tt2 (by rw[<- ef];exact fi.cv) ω (fun y hy=>fi.next fl hz ef hy);exact this.2
 intro σ H2 pv;rw[hPv] at pv;obtain⟨free,told,us',o6,o7,o8,s2,er2,tt2,fi,rfl⟩:=pv;show k _ _;subst hk;have hbf:free<=hi+1:=by
  rcases LZ told with e0|⟨pre,t0,e0⟩
  ·subst e0;have:=fi.cv.len;have hc:=fi.cv;generalize hem:([]:List (Int×Int×Int))=em at hc;cases hc with
   | nil=>omega
   | snoc _ _ _ _ _=>simp at hem
  have hl:told.getLast?=some t0:=by rw[e0];simp
  obtain⟨j,_,hj⟩:=fi.la t0 hl;have:=(fl.ne t0 (BF hj)).2.2.1;have:=(fi.cv.last hl).1;omega
 have hln:=fi.ln;push_cast [er2,tY];by_cases c:free<=hi
 ·rw[if_pos c];have hg:=fi.gap fl (top:=hi) c (DE _) (fun y m=>by
   rw[zl,drop_length] at m;cases m)
  refine⟨aO δ,fun q' hq'=>put (x:=(free,hi,rest)) (k:=fun H3=>Q (V.ref r) H3) s2 er2 tt2 ω (fun H3 us3 s3 er3 t3 kp=>?_) q' hq'⟩;exact q r H3 us3 _ s3 hr0 er3 t3 hg (by rw[AO,A9];omega)
 rw[if_neg c];have ef:free=hi+1:=ω;exact q r H2 us' told s2 hr0 er2 tt2 (by rw[<- ef];exact fi.cv) ω
theorem Rv (hB:∀x:Str,x∈BLs->mg x=none) (XTwice:abL P w K mg base "Twice" C D 1 lF (vX C)) (CClashOf:Cal P w K mg base "clash_of" 6 ["choice"] JR) (CCaseSpans:Cal P w K mg base "case_spans" 5 q12_ PN) (CLeastOf:Cal P w K mg base "least_of" 1 q5_ wI) (CMostOf:Cal P w K mg base "most_of" 1 q5_ vZ) (CWithTheRest:Cal P w K mg base "with_the_rest" 1 q11_ Zg) (F:Fun K "stretches_of" "stretches_of" aP f fd):cU P w K mg base (CX1 P w) 7 f fd ["choice"] (Px C):=by
 refine F.acR b7 (fun vs H Q E h=>?_) (fun cdv A outer s H vs Q E hr h=>?_)
 ·obtain⟨x,w,s,ok,css,rfl,_⟩:=h;rfl
 obtain⟨x,w,s,ok,css,rfl,h1,h2,hs,t,hok,hsum,hcn,q,qx⟩:=h;refine⟨_,(aD (bK jR b7.nd (bG CClashOf (hr.mono δ) pG Og (ak (ao oU) au rfl) rfl rfl) rfl (.inl rfl))
  (aD (b8 (aU Ka (ao jR) jK (aL _)) (aD (jJ (ao jR) (eX (n:=3) rfl (aQ (cB oR b7.nd (.inl rfl)) (aQ (cB oO b7.nd (.inl rfl)) (aQ (cB oN b7.nd (.inl rfl)) dF rfl) rfl) rfl) rfl rfl) rfl rfl rfl)
  (aH (QZ XTwice (hr.mono δ) rE rfl acQ (ak (ao oR) (ak (ao oO) (ak (ao oN) au rfl) rfl) rfl)))) bJ)
  (aD (jJ (ao oU) (eX (n:=3) rfl (aQ (cB iz b7.nd (.inl rfl)) (aQ (cB iy b7.nd (.inl rfl)) (aQ (cB jQ b7.nd (.inl rfl)) dF rfl) rfl) rfl) rfl rfl) rfl rfl rfl)
  (aD (bK jP b7.nd (cO au) rfl (.inl rfl))
  (aD (fJ own1 rfl (sV mY (hB "enumerate" iG) (ak (ao jQ) au rfl) rfl) (eX (n:=2) rfl (aQ (cB xO b7.nd (.inl rfl)) (aQ (cB nG b7.nd (.inl rfl)) dF rfl) rfl) rfl rfl)
  (aH (gP (J5 (ao jP) (gQ (NX:=bU) (kX:=(aj aP).names) ["low","high","label"] [none,none,some 9] rfl rfl ⟨rfl,ψ,ψ,ψ,ψ⟩ rfl (dB (bG CCaseSpans (hr.mono δ) mZ vD (ak (ao iz) (ak (ao iy) (ak (ao nG) au rfl) rfl) rfl) rfl rfl)) (fun _ _ _ _ _=>(eX (n:=2) rfl (aQ (cM 0 (show C4 (["low","high","label"]:List Str) from by decide +kernel) rfl (ET rfl)) (aQ (cM 1 (show C4 (["low","high","label"]:List Str) from by decide +kernel) rfl (ET rfl)) dF rfl) rfl) rfl rfl)) (fun _ _ _ _ _=>nZ) (fun _ _ _ _ _=>(cI (ak (bR 0) (ak (bR 1) (ak (bR 2) au rfl) rfl) rfl)))) rfl rfl rfl rfl rfl) rfl)) (fun _=>rfl))
  (aH (aM (bG CWithTheRest (hr.mono δ) lA zL (ak (cF Jo qF (hB "sorted" qg) G2 u9 (ak (ao jP) au rfl) rfl rfl) (ak (bG CLeastOf (hr.mono δ) pF Ay (ak (ao iz) (ak (ao iy) au rfl) rfl) rfl rfl) (ak (bG CMostOf (hr.mono δ) qG yK (ak (ao iz) (ak (ao iy) au rfl) rfl) rfl rfl) (ak (cF j7 uX (hB "len" rz) GG rK (ak (ao jQ) au rfl) rfl rfl) au rfl) rfl) rfl) rfl) rfl rfl)))))))),?_⟩
 have wb:=jy h1 h2 hs;refine aK fun k hk=>?_;push_cast;refine⟨x,w,s,ok,css,rfl,h1,h2,hs,t,hok,hsum,fun y H0 cl s0 hc ty=>?_⟩;rcases Ny hc with rfl|⟨d,rfl⟩
 case inr=>
  have hlt:=Uk hc;have hkn:cG w s d.2.2:=hc.1;obtain⟨hk1,hk2⟩:=hkn;obtain⟨p9,rfl,ey⟩:=Vq ty;push_cast;subst hk;refine aK fun k hk=>?_;push_cast [ey,G3];exact⟨δ,(Eh ω ω ω s0 fun dx H' s' hdx=>qx d hc dx H' s' hdx).2⟩
 have hcl:=hc;cases ty;push_cast;subst hk;refine aK fun k hk=>?_;push_cast;subst hk;have t0:=t.same s0;obtain⟨p,c,xs,rfl,op,ep,oc,ec,z,ts⟩:=jc t0;have hlen:=ts.length;rw[AV] at hlen;refine aK fun k hk=>?_;push_cast [ep];subst hk;refine aK fun k hk=>?_;push_cast;refine⟨aO δ,fun tk htk=>?_⟩;have s1:=aA (o:=HO.lst []) htk;have e1:upd H0 tk (HO.lst []) tk=some (.lst []):=aB;generalize upd H0 tk (HO.lst [])=H1 at s1 e1 |-;subst hk;refine aK fun k hk=>?_;refine jr fun R hR=>?_;have ec1:=s1 _ _ ec;push_cast [xZ,ec1];refine⟨⟨_,SqL.of ec1⟩,?_⟩;obtain⟨Pv,hPv⟩:∃Pv:Nat->L2.St->Hp->Prop,Pv=fun(i:Nat) σ H'=>∃(us:List V)(zs:List (Int×Int×Int)) (o9 o10:Option V),Same H0 H'/\H' tk=some (.lst us)/\bN trE H' us zs/\Tkn w s css i zs/\σ=[some (.ref p),some .non,none,none,none,some (.int w),some (.int s),some (.ref c),some (.ref tk),o9,o10]:=⟨_,rfl⟩;refine Zr hR (xs:=xs) Pv (by rw[hPv];exact⟨[],[],_,_,s1,e1,.nil,.nil,rfl⟩) (fun i σ H' pv=>?_) ?_ ?_
 ·rw[hPv] at pv;obtain⟨_,_,_,_,s',_⟩:=pv;exact s' _ _ ec
 ·intro i x σ H2 p2 hx pv hp2;rw[hPv] at pv;obtain⟨us,zs,o9,o10,s2,et2,tz2,tkn,rfl⟩:=pv;obtain⟨d,hd,td⟩:=(ts.same s2).get hx;rw[BH] at hd;obtain⟨its,hits,rfl⟩:=B8.mp hd;have hmem:=BF hits;have hle:its.length<=110:=BN (rA hmem) hsum;have hix:i<xs.length:=(AF.mp hx).1;have s3:=aA (o:=HO.tup [V.int (i:Int),x]) hp2;have e3:upd H2 p2 (HO.tup [V.int (i:Int),x]) p2=_:=aB;have td3:=td.same s3;have s23:=s2.trans s3;have et3:=s3 _ _ et2;have tz3:=tz2.same s3;generalize upd H2 p2 (HO.tup [V.int (i:Int),x])=H3 at e3 td3 s23 et3 tz3 |-;push_cast [e3,DK,Ky,et3,tY];refine gC fun R2 hR2=>?_;push_cast;refine⟨w,s,x,ok,its,rfl,h1,h2,hs,td3,hok its hmem,ω,fun r H4 us4 ys s4 hr4 e4 t4 c4=>?_⟩;push_cast [e4];have l4:=t4.length;have l6:=c4.ln;obtain⟨Pc,hPc⟩:∃Pv:Nat->List V->L2.St->Hp->Prop,Pv=fun(l:Nat) acc τ H'=>∃(o1 o2:Option V),Same H4 H'/\bN trE H' acc ((ys.take l).map fun y=>(y.1,y.2,(i:Int)))/\τ=[o1,o2,some (.int (i:Int))]:=⟨_,rfl⟩;refine rJ hR2 (xs:=us4) (aO ω) Pc (by rw[hPc];exact⟨none,none,Same.refl _,.nil,rfl⟩) ?_ ?_ ?_ ?_
  ·intro l acc τ H5 pc;rw[hPc] at pc;obtain⟨o1,o2,s5,t5,rfl⟩:=pc;rw[t5.length,AV];exact GH _ _
  ·intro l acc τ H5 pc;rw[hPc] at pc;obtain⟨o1,o2,s5,t5,rfl⟩:=pc;exact SqL.of (s5 _ _ e4)
  ·intro l x' acc τ H5 hx' pc;rw[hPc] at pc;obtain⟨o1,o2,s5,t5,rfl⟩:=pc;obtain⟨p6,y,rfl,hy,ey⟩:=(t4.same s5).got hx';replace ey:H5 p6=some (.tup [.int y.1,.int y.2]):=ey;push_cast [ey];refine⟨aO δ,fun p7 hp7=>?_⟩;rw[hPc];refine⟨_,_,s5.trans (aA hp7),?_,rfl⟩;rw[CM,hy,DJ];exact(t5.same (aA hp7)).snoc (x:=(y.1,y.2,(i:Int))) aB
  intro acc τ H5 d5 pc hd5;rw[hPc] at pc;obtain⟨o1,o2,s5,t5,rfl⟩:=pc;rw[l4,DD] at t5;have s6:=s4.trans (s5.trans (aA (o:=HO.lst acc) hd5));have e6:upd H5 d5 (HO.lst acc) d5=_:=aB;have t6:=t5.same (aA (o:=HO.lst acc) hd5);generalize upd H5 d5 (HO.lst acc)=H6 at s6 e6 t6 |-;have et6:=s6 _ _ et3;have tz6:=tz3.same s6;rw[Fz,et6,e6,T7];have lz:=tz2.length;have la:=t6.length;rw[AV] at la;have ltk:=tkn.ln;have l7:((css.take i).map CF).sum<=110:=BN (rW css i) hsum;refine⟨aO ω,?_⟩;rw[hPv];refine⟨us++acc,zs++ys.map (fun y=>(y.1,y.2,(i:Int))),_,_,fun a o ha=>?_,aB,(tz6.wB et6).app (t6.wB et6),tkn.more hits c4,rfl⟩;rw[aF (fun z=>by rw[z,htk] at ha;cases ha)];exact(s23.trans s6) _ _ ha
 intro σ H2 pv;rw[hPv] at pv;obtain⟨us,zs,o9,o10,s2,et2,tz2,tkn,rfl⟩:=pv;rw[hlen] at tkn;show k _ _;subst hk;have ec2:=s2 _ _ ec;have ltk:=tkn.ln;rw[DD] at ltk;have lz:=tz2.length;obtain⟨ps,rfl⟩:=tz2.refs;obtain⟨r1,r2⟩:=tz2.read (dec:=wF H2) ZK;have hpl:ps.length=zs.length:=by rwa [AV] at lz
 push_cast;refine⟨tk,ps,fun p=>(wF H2 p).1,rfl,et2,ω,fun p m=>⟨_,_,r2 p m⟩,?_,fun d qs hd hp ho=>?_⟩
 ·have:=tkn.firsts hcl;rw[r1,map_map] at this;exact this
 have s3:=aA (o:=HO.lst (qs.map V.ref)) hd;have e3:upd H2 d (HO.lst (qs.map V.ref)) d=_:=aB;have tq:bN trE (upd H2 d (HO.lst (qs.map V.ref))) (qs.map V.ref) (qs.map (wF H2)):=.of_map fun p m=>s3 _ _ (r2 p (hp.mem_iff.mp m));have pq:(qs.map (wF H2)).Perm zs:=by rw[r1];exact hp.map _
 generalize upd H2 d (HO.lst (qs.map V.ref))=H3 at s3 e3 tq |-;have ec3:=s3 _ _ ec2;refine⟨w,s,rfl,h1,h2,hs,w,s,rfl,h1,h2,hs,?_⟩;push_cast [ec3];have lq:=pq.length_eq;refine⟨d,qs.map V.ref,wl w s,wl w s+2^w.toNat-1,_,qs.map (wF H2),fun n=>(xX w n css:Int),rfl,e3,tq,?_,ω,ω,fun r H4 us4 ss s4 hr4 e4 t4 c4 l4=>?_⟩
 ·rw[hlen];exact tkn.fill hcl pq (by rw[map_map];exact ho)
 have s34:=s3.trans s4;exact q hcl _ H4 (s0.trans (s2.trans s34))
end
theorem YK:Bn "Twice" := ⟨ψ,ψ⟩
theorem Uy:Bn "Beyond" := ⟨ψ,ψ⟩
theorem Gb:Bn "TooNarrow" := ⟨ψ,ψ⟩
theorem Ge:Bn "NoStretch" := ⟨ψ,ψ⟩
theorem Oh:Bn "BadText" := ⟨ψ,ψ⟩
abbrev Jy:List Str:=["_law_caught","_law_some"]
abbrev iR:Stmt:=top 40
theorem Bq:bA Jy ["_law_caught"] (aj iR):=⟨rfl,rfl,rfl,ψ,rfl,ψ,ψ⟩
theorem eH:NM_ Jy iR 0 "_law_caught" := .of ψ
theorem gZ:NM_ Jy iR 1 "_law_some" := .of ψ
theorem yc:GI_ iR "BadText" := by decide +kernel
theorem zE:GI_ iR "Beyond" := by decide +kernel
theorem uR:GI_ iR "NoStretch" := by decide +kernel
theorem uQ:GI_ iR "TooNarrow" := by decide +kernel
theorem CG:GI_ iR "Twice" := by decide +kernel
theorem t7:GI_ iR "ValueError" := by decide +kernel
theorem IW:GI_ iR "int" := by decide +kernel
theorem cP:GI_ iR "isinstance" := by decide +kernel
theorem YC:Bn "_law_word" := ⟨ψ,ψ⟩
abbrev qt:List Str:=["_law_choice","_law_caught","error"]
abbrev fC:Stmt:=top 42
theorem mD:bA qt q6_ (aj fC):=⟨rfl,rfl,rfl,ψ,rfl,ψ,ψ⟩
theorem Et:NM_ qt fC 0 "_law_choice" := .of ψ
theorem oE:NM_ qt fC 1 "_law_caught" := .of ψ
theorem Es:NM_ qt fC 2 "error" := .of ψ
theorem qy:GI_ fC "CaseError" := by decide +kernel
theorem vN:GI_ fC "_law_word" := by decide +kernel
theorem nJ:GI_ fC "stretches_of" := by decide +kernel
theorem Js:Bn "_law_refused" := ⟨ψ,ψ⟩
abbrev nj:List Str:=["_law_choice","_law_border","_law_some","_law_k","_law_items"]
abbrev fD:Stmt:=top 41
theorem nQ:bA nj q6_ (aj fD):=⟨rfl,rfl,rfl,ψ,rfl,ψ,ψ⟩
theorem Ad:NM_ nj fD 0 "_law_choice" := .of ψ
theorem Ac:NM_ nj fD 1 "_law_border" := .of ψ
theorem lQ:NM_ nj fD 2 "_law_some" := .of ψ
theorem Ab:NM_ nj fD 3 "_law_k" := .of ψ
theorem Aa:NM_ nj fD 4 "_law_items" := .of ψ
theorem uU:GI_ fD "_law_borders" := by decide +kernel
theorem Fv:GI_ fD "any" := by decide +kernel
theorem uc:GI_ fD "enumerate" := by decide +kernel
theorem Ft:GI_ fD "len" := by decide +kernel
theorem Uw:Bn "_law_clash" := ⟨ψ,ψ⟩
theorem Dc {w s b:Int}{css:List (List It1)}{ns:List Int}{i:Nat}(h1:1<=w)(hs:s=0\/s=1)(hok:∀its,its∈css->∀it,it∈its->It1.Ok w s it)(hup:ns.Pairwise (· < ·))(hns:∀b,b∈ns↔pU w s css b)(hb:ns[i]?=some b)
  (hlow:∀(j:Nat) n,j<i->ns[j]?=some n->fQ w css n<2) {x y:Nat} {r:List Nat} (hl:dj w b css=x::y::r):cR w s css (some (x,y,b)):=by
 refine⟨((hns b).mp (BF hb)).1,⟨r,hl⟩,fun k hk hlt=>?_⟩;rcases C5 (fQ w css k) 2 with c|c
 ·exact c
 obtain⟨b',hb',hle,h2⟩:=qO h1 hs hok hk c;obtain⟨j,hj⟩:=MQ ((hns b').mpr hb');have:=hlow j b' ?_ hj
 ·omega
 rcases C5 j i with c|c
 ·exact c
 exfalso;obtain⟨li,ei⟩:=AF.mp hb;obtain⟨lj,ej⟩:=AF.mp hj;rcases C5 i j with c2|c2
 ·have:=DU.mp hup i j li lj c2;rw[ei,ej] at this;replace hlt:k<b:=hlt;omega
 have:i=j:=by omega
 subst this;rw[hb] at hj;cases hj;replace hlt:k<b:=hlt;omega
theorem Uj {w s:Int}{css:List (List It1)}{ns:List Int}(h1:1<=w)(hs:s=0\/s=1)(hok:∀its,its∈css->∀it,it∈its->It1.Ok w s it)(hns:∀b,b∈ns↔pU w s css b)(hlow:∀(j:Nat) n,j<ns.length->ns[j]?=some n->fQ w css n<2):cR w s css none:=by
 intro n hn;rcases C5 (fQ w css n) 2 with c|c
 ·exact c
 obtain⟨b',hb',hle,h2⟩:=qO h1 hs hok hn c;obtain⟨j,hj⟩:=MQ ((hns b').mpr hb');have:=hlow j b' (AF.mp hj).1 hj;omega
section
variable {P:AW}{w:BC}{K:AC}{mg:Str->Option Ap}{base:Heap}{f:Addr}{fd:Dx}{bs:List Str}{aTwice aBeyond aTooNarrow aNoStretch aBadText D N fI ND:Addr}
theorem MJ (hB:∀x:Str,x∈BLs->mg x=none) (CZPicks:Cal P w K mg base "_law_picks" 1 q3_ vY) (CZBorders:Cal P w K mg base "_law_borders" 3 q6_ JT) (F:Fun K "_law_clash" "_law_clash" fD f fd):cU P w K mg base CX0 4 f fd q6_ JL:=by
 refine F.okq nQ (fun vs H Q E h=>?_) (fun cdv A outer s H vs Q E hr h=>?_)
 ·obtain⟨x,w,s,ok,css,rfl,_⟩:=h;rfl
 obtain⟨x,w,s,ok,css,rfl,h1,h2,hs,t,hok,hsum,hcn,q⟩:=h;refine⟨_,(aD (fJ CA rfl (dB (bG CZBorders (hr.mono δ) uU Jt (ak (ao Ad) au rfl) rfl rfl)) (cB Ac nQ.nd (.inl rfl))
  (aD (bK lQ nQ.nd (cO au) rfl (.inl rfl))
  (aD (fJ CA rfl (sV uc (hB "enumerate" iG) (ak (aY bY (ao Ad) aq (fun _ _=>rfl)) au rfl) rfl) (eX (n:=2) rfl (aQ (cB Ab nQ.nd (.inl rfl)) (aQ (cB Aa nQ.nd (.inl rfl)) dF rfl) rfl) rfl rfl)
  (aH (b8 (gO (cF (Aw rfl) Fv (hB "any" Sh) PyProof.Rows.Boot.«any» Ut (ak (gQ (NX:=nj) (kX:=(aj fD).names) ["_law_item_here","_law_border","_law_choice"] [none,some 1,some 0] rfl rfl ⟨rfl,ψ,ψ,ψ,ψ⟩ rfl (dB (ao Aa)) (fun _ _ _ _ _=>(cM 0 (show C4 (["_law_item_here","_law_border","_law_choice"]:List Str) from by decide +kernel) rfl (ET rfl))) (fun _ _ _ _ _=>nZ) (fun _ _ _ _ _=>(bG CZPicks (hr.mono δ) rfl Uv (ak (aY bY (bR 2) aq (fun _ _=>rfl)) (ak (bR 0) (ak (bR 1) au rfl) rfl) rfl) rfl rfl))) au rfl) rfl rfl) (fun _=>rfl)) (aH (gP (mH (ao lQ) (ao Ab) rfl rfl rfl rfl rfl) rfl)) bJ)) (fun _=>rfl))
  (aH (b8 (aU En (cF j7 Ft (hB "len" rz) GG rK (ak (ao lQ) au rfl) rfl rfl) aq (aL _)) (aH (aM (cI (ak dM (ak (aY bY (ao lQ) aq (fun _ _=>rfl)) (ak (aY bY (ao lQ) aq (fun _ _=>rfl)) (ak (ao Ac) au rfl) rfl) rfl) rfl)))) bJ)))) (fun _=>rfl))
  (aH (aM jK))),?_⟩
 obtain⟨p,c,xs,rfl,op,ep,oc,ec,z,ts⟩:=jc t;have hlen:=ts.length;rw[AV] at hlen;refine aK fun k hk=>?_;refine jr fun R hR=>?_;push_cast;refine⟨_,w,s,ok,css,rfl,h1,h2,hs,t,hok,hsum,fun pB H1 ns s1 eB lB hup hns=>?_⟩;push_cast [eB];obtain⟨Pv,hPv⟩:∃Pv:Nat->L2.St->Hp->Prop,Pv=fun(i:Nat) σ H'=>∃(o1 o2 o3 o4:Option V),Same H1 H'/\(∀(j:Nat) n,j<i->ns[j]?=some n->fQ w css n<2)/\σ=[some (.ref p),o1,o2,o3,o4]:=⟨_,rfl⟩;refine yw hR (xs:=ns.map V.int) Pv (by rw[hPv];exact⟨_,_,_,_,Same.refl _,fun j n hj=>absurd hj ω,rfl⟩) (fun i σ H' _ pv=>?_) ?_ ?_
 ·rw[hPv] at pv;obtain⟨_,_,_,_,s',_⟩:=pv;exact SqL.of (s' _ _ eB)
 ·intro i x σ H2 hx pv;rw[hPv] at pv;obtain⟨o1,o2,o3,o4,s2,hlow,rfl⟩:=pv;rw[BH] at hx;obtain⟨b,hb,rfl⟩:=B8.mp hx;refine aK fun k2 hk2=>?_;push_cast;refine⟨aO δ,fun sp hsp=>?_⟩;have s12:=s1.trans s2;have s3:=aA (o:=HO.lst []) hsp;have e3:upd H2 sp (HO.lst []) sp=some (.lst (bW (dj w b (css.take 0)))):=aB;generalize upd H2 sp (HO.lst [])=H3 at s3 e3 |-;subst hk2;refine aK fun k2 hk2=>?_;refine jr fun R2 hR2=>?_;have ep3:=s3 _ _ (s12 _ _ ep);have ec3:=s3 _ _ (s12 _ _ ec);push_cast [ep3,xZ,ec3];refine⟨⟨_,SqL.of ec3⟩,?_⟩;obtain⟨Pw,hPw⟩:∃Pv:Nat->L2.St->Hp->Prop,Pv=fun(j:Nat) σ H'=>∃(o3 o4:Option V),Same H2 H'/\H' sp=some (.lst (bW (dj w b (css.take j))))/\σ=[some (.ref p),some (.int b),some (.ref sp),o3,o4]:=⟨_,rfl⟩;refine Zr hR2 (xs:=xs) Pw (by rw[hPw];exact⟨_,_,s3,e3,rfl⟩) (fun j σ H' pv=>?_) ?_ ?_
  ·rw[hPw] at pv;obtain⟨_,_,s',_⟩:=pv;exact s' _ _ (s12 _ _ ec)
  ·intro j x σ H4 p4 hx pv hp4;rw[hPw] at pv;obtain⟨o3',o4',s4,e4,rfl⟩:=pv;obtain⟨d,hd,td⟩:=(ts.same (s12.trans s4)).get hx;rw[BH] at hd;obtain⟨its,hits,rfl⟩:=B8.mp hd;have s5:=aA (o:=HO.tup [V.int (j:Int),x]) hp4;have e5:upd H4 p4 (HO.tup [V.int (j:Int),x]) p4=_:=aB;have s45:=s4.trans s5;have td5:=td.same s5;have esp5:=s5 _ _ e4;generalize upd H4 p4 (HO.tup [V.int (j:Int),x])=H5 at e5 s45 td5 esp5 |-;obtain⟨q0,us,rfl,o3,eq,z3,ts3⟩:=jz td5;have ep5:=s45 _ _ (s12 _ _ ep);push_cast [e5];refine gC fun R3 hR3=>?_;push_cast [eq];refine uw (pickD w b) (fun τ=>∃o1,τ=[o1,some (.int b),some (.ref p)]) hR3 ts3 eq z3 ⟨none,rfl⟩ ?_ ?_
   ·rintro x1 d1 τ H6 Qn hd s6 t6 ⟨o1,rfl⟩ qn;have ep6:=s6 _ _ ep5;push_cast [ep6];obtain⟨it,_,rfl⟩:=EF.mp hd;obtain⟨p7,rfl,_,hp7⟩:=pW t6;exact⟨w,b,p7,it,rfl,h1,h2,hp7,by rw[<- wV];exact qn _ _ ⟨_,rfl⟩ (Same.refl _)⟩
   intro H6 l s6 hl;have s7:=s45.trans (s6.trans (aA (o:=HO.lst (((its.map itD).map (pickD w b)).map V.bl)) hl));have esp7:=s6.trans (aA (o:=HO.lst (((its.map itD).map (pickD w b)).map V.bl)) hl) _ _ esp5;have e7:upd H6 l (HO.lst (((its.map itD).map (pickD w b)).map V.bl)) l=_:=aB;generalize upd H6 l (HO.lst (((its.map itD).map (pickD w b)).map V.bl))=H7 at s7 esp7 e7 |-;push_cast [e7];refine⟨_,rfl,?_⟩;rw[Gr];have hst:=Ai (w:=w) (n:=b) hits;cases hany:its.any (aZ w b) with
   | true=>
    rw[hany,if_pos rfl] at hst;push_cast [esp7];have hlb:(bW (dj w b (css.take j))).length<=j:=by
     rw[cV,jW];exact BN (GM _ _) (GH _ _)
    have hjx:j<xs.length:=(AF.mp hx).1;refine⟨AN ω (aO (AY 1000000)),?_⟩;rw[hPw];refine⟨_,_,fun a o ha=>?_,by rw[aB,hst];simp [bW],rfl⟩;rw[aF (fun z=>by rw[z,hsp] at ha;cases ha)];exact s7 _ _ ha
   | false=>
    rw[hany,if_neg δ,DB] at hst;push_cast;rw[hPw];exact⟨_,_,s7,by rw[hst];exact esp7,rfl⟩
  intro σ H4 pv;rw[hPw] at pv;obtain⟨o3',o4',s4,e4,rfl⟩:=pv;show k2 _ _;subst hk2;rw[hlen,DD] at e4;have s14:=s12.trans s4;rcases C5 (fQ w css b) 2 with c2|c2
  ·push_cast [e4];rw[cV,jW,if_neg ω];rw[hPv];refine⟨_,_,_,_,s2.trans s4,fun j n hj hn=>?_,rfl⟩;rcases C5 j i with c3|c3
   ·exact hlow j n c3 hn
   have:j=i:=by omega
   subst this;rw[hb] at hn;cases hn;exact c2
  obtain⟨x0,y0,r,hl⟩:∃x0 y0 r,dj w b css=x0::y0::r:=by
   have:=jW (w:=w) (n:=b) (css:=css);cases hx:dj w b css with
   | nil=>rw[hx] at this;simp at this;omega
   | cons x0 l=>
    cases l with
    | nil=>rw[hx] at this;simp at this;omega
    | cons y0 r=>exact⟨x0,y0,r,rfl⟩
  rw[hl] at e4;replace e4:H4 sp=some (.lst (V.int (x0:Nat)::V.int (y0:Nat)::bW r)):=e4;have a0:atI (V.int (x0:Nat)::V.int (y0:Nat)::bW r) 0=some (V.int (x0:Nat)):=K8 _ _;have a1:atI (V.int (x0:Nat)::V.int (y0:Nat)::bW r) 1=some (V.int (y0:Nat)):=U5 _ _ _;push_cast [e4,a0,a1];rw[if_pos ω];refine⟨aO δ,fun p6 hp6=>?_⟩;exact q _ _ (some (x0,y0,b)) (s14.trans (aA hp6)) (Dc h1 hs hok hup hns hb hlow hl) (.tup (none_of s14 hp6) aB (by show 4<=1000000;decide) (.cons (.str _) (.cons (.int _) (.cons (.int _) (.cons (.int _) .nil)))))
 intro σ H2 pv;rw[hPv] at pv;obtain⟨o1,o2,o3,o4,s2,hlow,rfl⟩:=pv;rw[AV] at hlow;show k _ _;subst hk;push_cast;exact q _ _ none (s1.trans s2) (Uj h1 hs hok hns hlow) .non
theorem Xa (hB:∀x:Str,x∈BLs->mg x=none) (XC:nM K aTwice D N fI) (Z:XIs K aTwice) (cgTwice:mg "Twice" = some (.ref aTwice)) (cgBeyond:mg "Beyond" = some (.ref aBeyond)) (cgTooNarrow:mg "TooNarrow" = some (.ref aTooNarrow)) (cgNoStretch:mg "NoStretch" = some (.ref aNoStretch)) (cgBadText:mg "BadText" = some (.ref aBadText))
  (i1:E9 K (.ref aTwice) (.ref aTwice)=some true) (i2:E9 K (.ref aTwice) (.ref aBeyond)=some false) (i3:E9 K (.ref aTwice) (.ref aTooNarrow)=some false) (i4:E9 K (.ref aTwice) (.ref aNoStretch)=some false) (i5:E9 K (.ref aTwice) (.ref aBadText)=some false) (i6:E9 K (.ref aTwice) (.type "ValueError")=some true)
  (hn1:B5 K (.ref aTwice) "one" = some none) (hn2:B5 K (.ref aTwice) "other" = some none) (hn3:B5 K (.ref aTwice) "number" = some none)
  (F:Fun K "_law_word" "_law_word" iR f fd):cU P w K mg base CX0 1 f fd ["_law_caught"] (JK aTwice):=by
 refine F.okq Bq (fun vs H Q E h=>?_) (fun cdv A outer s H vs Q E hr h=>?_)
 ·rcases h with⟨rfl,_⟩|⟨x,dx,i,j,n,rfl,_⟩ <;> rfl
 refine⟨_,(aD (b8 (aU Hz (ao eH) jK (aL _)) (aH (aM jK)) bJ)
  (aD (bK gZ Bq.nd (cO (ak (cF lX cP (hB "isinstance" aW) B9 aX (ak (ao eH) (ak (sW (v:=V.ref aTwice) CG cgTwice rfl YK) au rfl) rfl) rfl rfl) (ak (cF lX cP (hB "isinstance" aW) B9 aX (ak (ao eH) (ak (sW (v:=V.ref aBeyond) zE cgBeyond rfl Uy) au rfl) rfl) rfl rfl) (ak (cF lX cP (hB "isinstance" aW) B9 aX (ak (ao eH) (ak (sW (v:=V.ref aTooNarrow) uQ cgTooNarrow rfl Gb) au rfl) rfl) rfl rfl) au rfl) rfl) rfl)) rfl (.inl rfl))
  (aD (bK gZ Bq.nd (aJ bw (ao gZ) (cO (ak (cF lX cP (hB "isinstance" aW) B9 aX (ak (ao eH) (ak (sW (v:=V.ref aNoStretch) uR cgNoStretch rfl Ge) au rfl) rfl) rfl rfl) (ak (cF lX cP (hB "isinstance" aW) B9 aX (ak (ao eH) (ak (sW (v:=V.ref aBadText) yc cgBadText rfl Oh) au rfl) rfl) rfl rfl) au rfl) rfl))) rfl (.inl rfl))
  (aD (b8 (zj (wN (aU (kZ hr.bF) (Wi K hr.un1 (ao gZ) zW) aq (aL _)) (uK (QM (gO (cF lX cP (hB "isinstance" aW) B9 aX (ak (ao eH) (ak (kj "ValueError" t7 (hB "ValueError" zp) vQ zJ) au rfl) rfl) rfl rfl) (fun _=>rfl)))))) (aH (aM (cI (ak dM au rfl)))) bJ)
  (aD (b8 (gO (aY bY (ao gZ) aq (fun _ _=>rfl)) (fun _=>rfl)) (aH (aM (cI (ak dM (ak (sX XC (ao eH)) (ak (sX XC (ao eH)) (ak (sX XC (ao eH)) au rfl) rfl) rfl) rfl)))) bJ)
  (aD (b8 (zj (wN (gO (aY bY (ao gZ) aq (fun _ _=>rfl)) (fun _=>rfl)) (uK (gO (aY bY (ao gZ) aq (fun _ _=>rfl)) (fun _=>rfl))))) (aH (aM (cI (ak (aY bY (cO (ak dM (ak dM au rfl) rfl)) (J6 m8 IW (hB "int" xU) boot_int yH (ak (aY bY (ao gZ) aq (fun _ _=>rfl)) au rfl) rfl rfl) (fun _ _=>rfl)) (ak (sX XC (ao eH)) au rfl) rfl)))) bJ)
  (aH (aM (qJ (gO (aY bY (ao gZ) aq (fun _ _=>rfl)) (fun _=>rfl)) (cI (ak dM (ak (sX XC (ao eH)) au rfl) rfl)) (cI (ak dM au rfl))))))))))),?_⟩
 rcases h with⟨rfl,q⟩|⟨x,dx,i,j,n,rfl,hx,hd,q⟩
 ·push_cast;exact q
 refine aK fun k hk=>?_;push_cast;subst hk;refine aK fun k hk=>?_;push_cast;refine uP Z hx hd (tX i1) (uP Z hx hd (tX i2) (uP Z hx hd (tX i3) ?_))
 try (push_cast)
 refine⟨aO δ,fun l1 hl1=>?_⟩;have s1:=aA (o:=HO.lst [V.bl true,V.bl false,V.bl false]) hl1;have e1:upd H l1 (HO.lst [V.bl true,V.bl false,V.bl false]) l1=_:=aB;generalize upd H l1 (HO.lst [V.bl true,V.bl false,V.bl false])=H1 at s1 e1 |-;have hx1:=s1 _ _ hx;have hd1:=s1 _ _ hd;subst hk;refine aK fun k hk=>?_;push_cast [e1];refine uP Z hx1 hd1 (tX i4) (uP Z hx1 hd1 (tX i5) ?_)
 try (push_cast [e1])
 refine⟨aO δ,fun l2 hl2=>?_⟩;have s2:=aA (o:=HO.lst [V.bl false,V.bl false]) hl2;have e12:=s2 _ _ e1;generalize upd H1 l2 (HO.lst [V.bl false,V.bl false])=H2 at s2 e12 |-;push_cast [e12];refine⟨aO δ,fun l3 hl3=>?_⟩;have s3:=aA (o:=HO.lst [V.bl true,V.bl false,V.bl false,V.bl false,V.bl false]) hl3;have e3:upd H2 l3 (HO.lst [V.bl true,V.bl false,V.bl false,V.bl false,V.bl false]) l3=_:=aB;generalize upd H2 l3 (HO.lst [V.bl true,V.bl false,V.bl false,V.bl false,V.bl false])=H3 at s3 e3 |-;have hx3:=s3 _ _ (s2 _ _ hx1);have hd3:=s3 _ _ (s2 _ _ hd1);subst hk;refine aK fun k hk=>?_;push_cast [e3];refine⟨l3,rfl,⟨_,.inl (.inl e3)⟩,_,1,.inl (.inl e3),⟨[true,false,false,false,false],true,rfl,rfl,δ⟩,?_⟩;push_cast;rw[if_neg δ];refine uP Z hx3 hd3 (aa8 i6) ?_;refine⟨true,rfl,?_⟩;rw[if_neg δ];subst hk;refine aK fun k hk=>?_;push_cast [e3,O7];have sa:=(s1.trans s2).trans s3;obtain⟨k1,k2,k3⟩:=Vn (i:=i) (j:=j) (n:=n);refine⟨dx,hx3,_,hd3,V.int i,k1,hn1,dx,hx3,_,hd3,V.int j,k2,hn2,dx,hx3,_,hd3,V.int n,k3,hn3,aO δ,fun t ht=>?_⟩;exact q t _ (sa.trans (aA ht)) (sa.none ht) aB
theorem HF (hB:∀x:Str,x∈BLs->mg x=none) (XC:nM K aTwice D N fI) (XD:Y7 K D ND) (cgCaseError:mg "CaseError" = some (.ref D)) (CStretchesOf:Y8 P w K mg base "stretches_of" 7 ["choice"] (Px aTwice)) (CZWord:Cal P w K mg base "_law_word" 1 ["_law_caught"] (JK aTwice))
  (F:Fun K "_law_refused" "_law_refused" fC f fd):cU P w K mg base CX0 8 f fd q6_ JL:=by
 refine F.okq mD (fun vs H Q E h=>?_) (fun cdv A outer s H vs Q E hr h=>?_)
 ·obtain⟨x,w,s,ok,css,rfl,_⟩:=h;rfl
 obtain⟨x,w,s,ok,css,rfl,h1,h2,hs,t,hok,hsum,hcn,q⟩:=h;refine⟨_,(aD (bK oE mD.nd jK rfl (.inl rfl))
  (aD (aaf (i:=2) ⟨rfl,rfl⟩ mD.nd rfl rfl qy cgCaseError XD XC (fun E1 xe pins hpass=>(aH (gP (aah CStretchesOf (hr.mono δ) nJ zM hpass (ak (ao Et) au rfl) rfl rfl) rfl))) (fun x=>(aH (bK oE mD.nd (ao Es) rfl (.inl rfl)))))
  (aH (aM (bG CZWord (hr.mono δ) vN YC (ak (ao oE) au rfl) rfl rfl))))),?_⟩
 refine aK fun k hk=>?_;push_cast;subst hk;refine aK fun k hk=>?_;push_cast [ZL];refine⟨x,w,s,ok,css,rfl,h1,h2,hs,t,hok,hsum,hcn,fun hc v H1 s1=>?_,fun c hc dx H1 s1 hdx=>⟨rfl,fun y σ' hlen hyn=>?_⟩⟩
 ·subst hk;push_cast;exact .inl ⟨rfl,q _ _ none s1 hc .non⟩
 have sx:=aA (o:=XR y aTwice (some dx)) hyn;have ex:upd H1 y (XR y aTwice (some dx)) y=_:=aB;generalize upd H1 y (XR y aTwice (some dx))=H2 at sx ex |-;obtain⟨a0,a1,a2,rfl⟩:∃a0 a1 a2,σ'=[a0,a1,a2]:=ln3 hlen;subst hk;push_cast [CT];exact .inr ⟨y,dx,_,_,_,rfl,ex,sx _ _ hdx,fun t H' s' hn' et=>q _ H' (some c) ((s1.trans sx).trans s') hc (.tup (none_of (s1.trans sx) hn') et (by show 4<=1000000;decide) (.cons (.str _) (.cons (.int _) (.cons (.int _) (.cons (.int _) .nil)))))⟩
end
abbrev vR:List Str:=["_law_script","_law_k","_law_tape_here","_law_width","_law_sign","_law_cases","_law_turn","_law_kept","_law_full","_law_last"]
abbrev iU:Stmt:=top 43
theorem nR:bA vR ["_law_script"] (aj iU):=⟨rfl,rfl,rfl,ψ,rfl,ψ,ψ⟩
theorem RZ:NM_ vR iU 0 "_law_script" := .of ψ
theorem RX:NM_ vR iU 1 "_law_k" := .of ψ
theorem RW:NM_ vR iU 2 "_law_tape_here" := .of ψ
theorem Ib:NM_ vR iU 3 "_law_width" := .of ψ
theorem Ia:NM_ vR iU 4 "_law_sign" := .of ψ
theorem lg:NM_ vR iU 5 "_law_cases" := .of ψ
theorem aaV:NM_ vR iU 6 "_law_turn" := .of ψ
theorem RV:NM_ vR iU 7 "_law_kept" := .of ψ
theorem HY:NM_ vR iU 8 "_law_full" := .of ψ
theorem Ce:NM_ vR iU 9 "_law_last" := .of ψ
theorem Fw:GI_ iU "_law_clash" := by decide +kernel
theorem zG:GI_ iU "_law_refused" := by decide +kernel
theorem Jh:GI_ iU "_law_same" := by decide +kernel
theorem Jg:GI_ iU "_law_tape" := by decide +kernel
theorem u0:GI_ iU "_law_wild_choice" := by decide +kernel
theorem yo:GI_ iU "enumerate" := by decide +kernel
theorem TF:GI_ iU "len" := by decide +kernel
theorem Tz:GI_ iU "min" := by decide +kernel
theorem yj:GI_ iU "range" := by decide +kernel
theorem Am:GI_ iU "repr" := by decide +kernel
section
variable {P:AW}{w:BC}{K:AC}{mg:Str->Option Ap}{base:Heap}{f:Addr}{fd:Dx}{bs:List Str}
def JN (K:AC):Sp:=fun vs H Q _=>∃(a:Addr)(ns:List Int),vs=[.ref a]/\SqL K H a (ns.map V.int)/\ns.length<=63/\∀H',Q (.bl true) H'
theorem ZS {css:List (List It1)}{m:Nat}(h:∀its∈css,its.length<=m):(css.map CF).sum<=css.length*m:=by
 induction css with
 | nil=>simp
 | cons c css ih=>
  have h1:=h c (BE ..);have h2:=ih fun its hi=>h its (A4 _ hi);simp only[F9,MG,BA];rw[succ_mul];omega
theorem Ls {w s:Int}{css:List (List It1)}(h1:1<=w)(h2:w<=40)(hs:s=0\/s=1)(hok:∀its∈css,its.length<=6/\∀it∈its,it.Ok w s)(hl:css.length<=12):Shw (.list (css.map lW)):=by
 have b:Bd (1+12*(1+6*4)) 3 (.list (css.map lW)):=K4 (fun d hd=>by
  obtain⟨its,hi,rfl⟩:=EF.mp hd;exact YT h1 h2 hs (hok its hi).2 (hok its hi).1) (by rw[AV];exact hl)
 exact(b.tell δ δ).shw
theorem aaQ (hB:∀x:Str,x∈BLs->mg x=none) (CZRefused:Cal P w K mg base "_law_refused" 8 q6_ JL) (CZTape:Cal P w K mg base "_law_tape" 2 q4_ (Pu K))
  (CZWildChoice:Cal P w K mg base "_law_wild_choice" 5 q9_ Pr) (CZClash:Cal P w K mg base "_law_clash" 4 q6_ JL) (CZSame:Cal P w K mg base "_law_same" 4 q8_ (su 4))
  (F:Fun K "law" "law" iU f fd):cU P w K mg base CX0 63 f fd ["_law_script"] (JN K):=by
 refine F.okq nR (fun vs H Q E h=>?_) (fun cdv A outer s H vs Q E hr h=>?_)
 ·obtain⟨a,ns,rfl,_⟩:=h;rfl
 obtain⟨a,ns,rfl,hS,h63,q⟩:=h;refine⟨_,(aD (fJ CA rfl (gF yj (hB "range" fP) (ak (aJ bw aq (cF (u6 rfl) Tz (hB "min" Im) boot_min Jr (ak aq (ak (cF jx TF (hB "len" rz) GG rK (ak (ao RZ) au rfl) rfl rfl) au rfl) rfl) rfl rfl)) au rfl) rfl) (cB RX nR.nd (.inl rfl))
  (aD (bK RW nR.nd (bG CZTape (hr.mono δ) Jg YD (ak (ao RZ) (ak (ao RX) au rfl) rfl) rfl rfl) rfl (.inl rfl))
  (aD (jJ (bG CZWildChoice (hr.mono δ) u0 zK (ak (ao RW) au rfl) rfl rfl) (eX (n:=3) rfl (aQ (cB Ib nR.nd (.inl rfl)) (aQ (cB Ia nR.nd (.inl rfl)) (aQ (cB lg nR.nd (.inl rfl)) dF rfl) rfl) rfl) rfl rfl) rfl rfl rfl)
  (aH (fJ CA rfl (gF yj (hB "range" fP) (ak aq au rfl) rfl) (cB aaV nR.nd (.inl rfl))
  (aD (bK RV nR.nd (cF (yF hr.gd hr.Zb) Am (hB "repr" Kh) boot_repr KZ (ak (ao lg) au rfl) rfl rfl) rfl (.inl rfl))
  (aD (b8 (QM (gO (bG CZSame (hr.mono δ) Jh K1 (ak (bG CZRefused (hr.mono δ) zG Js (ak (cI (ak (ao Ib) (ak (ao Ia) (ak (ao lg) au rfl) rfl) rfl)) au rfl) rfl rfl) (ak (bG CZClash (hr.mono δ) Fw Uw (ak (cI (ak (ao Ib) (ak (ao Ia) (ak (ao lg) au rfl) rfl) rfl)) au rfl) rfl rfl) au rfl) rfl) rfl rfl) (fun _=>rfl))) (aH (aM zW)) bJ)
  (aD (b8 (aU (kZ hr.bF) (cF (yF hr.gd hr.Zb) Am (hB "repr" Kh) boot_repr KZ (ak (ao lg) au rfl) rfl rfl) (ao RV) (aL _)) (aH (aM zW)) bJ)
  (aD (BJ (NX:=vR) (kX:=(aj iU).names) ["_law_place","_law_items"] [none,none] HY nR.nd rfl rfl ⟨rfl,ψ,ψ,ψ,ψ⟩ rfl (sV yo (hB "enumerate" iG) (ak (ao lg) au rfl) rfl) (fun _ _ _ _ _=>(eX (n:=2) rfl (aQ (cM 0 (show C4 (["_law_place","_law_items"]:List Str) from by decide +kernel) rfl (ET rfl)) (aQ (cM 1 (show C4 (["_law_place","_law_items"]:List Str) from by decide +kernel) rfl (ET rfl)) dF rfl) rfl) rfl rfl)) (fun _ _ _ _ _=>(uL (aU (Rt hr.bF) (bR 1) (cO au) (aL _)))) (fun _ _ _ _ _=>(bR 0)))
  (aH (b8 (aU (Rt hr.bF) (ao HY) (cO au) (aL _)) (aD (bK Ce nR.nd (aY bY (ao HY) (nY jD aq) (fun _ _=>rfl)) rfl (.inl rfl))
  (aH (bK lg nR.nd (aJ bw (aJ bw (wQ ZW (ao lg) BL (BK (ao Ce))) (cO (ak (wQ ZW (aY bY (ao lg) (ao Ce) (fun _ _=>rfl)) BL (BK (nY jD aq))) au rfl))) (wQ ZW (ao lg) (BK (aJ bw (ao Ce) aq)) BL)) rfl (.inl rfl)))) bJ)))))) (fun _=>rfl))))) (fun _=>rfl))
  (aH (aM zW))),?_⟩
 refine aK fun k hk=>?_;refine jr fun R hR=>?_;push_cast [oZ];refine⟨_,.inl hS,?_⟩;rw[AV];have m6:(0:Int)<=1+(if (ns.length:Int)<2 then (ns.length:Int) else 2)/\1+(if (ns.length:Int)<2 then (ns.length:Int) else 2)<=7:=by
  split <;> omega
 refine⟨ω,ω,?_⟩;obtain⟨Pv,hPv⟩:∃Pv:Nat->L2.St->Hp->Prop,Pv=fun(i:Nat) σ H'=>Same H H'/\∃o1 o2 o3 o4 o5 o6 o7 o8 o9,σ=[some (.ref a),o1,o2,o3,o4,o5,o6,o7,o8,o9]:=⟨_,rfl⟩;refine yu hR Pv (by rw[hPv];exact⟨Same.refl _,none,none,none,none,none,none,none,none,none,rfl⟩) ?_ ?_
 ·intro i σ H1 hi pv;rw[hPv] at pv;obtain⟨s1,o1,o2,o3,o4,o5,o6,o7,o8,o9,rfl⟩:=pv;refine aK fun k2 hk2=>?_;push_cast;refine⟨a,ns,(0:Int)+(i:Int),rfl,s1.seq hS,ω,ω,fun p H2 hp s2 tp=>?_⟩;push_cast;subst hk2;have hp0:H p=none:=none_of s1 hp;refine aK fun k2 hk2=>?_;push_cast;refine⟨p,0,rfl,tp,δ,δ,fun w s t css H4 h1 h2 hs s4 tp4 tr4 hok4 hl4=>?_⟩;obtain⟨t',c,xs,e,op,ep,oc,ec,z,ts⟩:=jc tr4;cases e;have sx4:dW p H H4:=((s1.trans s2).x (p:=p)).trans s4;push_cast [ep];subst hk2;refine jr fun R2 hR2=>?_;push_cast [oZ];refine⟨δ,δ,?_⟩;obtain⟨Pw,hPw⟩:∃Pv:Nat->L2.St->Hp->Prop,Pv=fun(j:Nat) σ H'=>∃(c:Addr)(css:List (List It1)) (o6 o7 o8 o9:Option V),Same H4 H'/\bC (fun _=>True) H' (.ref c) (.list (css.map lW))/\(∀its,its∈css->its.length<=6/\∀it,it∈its->It1.Ok w s it)/\css.length<=12/\σ=[some (.ref a),some (.int (0+(i:Int))),some (.ref p),some (.int w),some (.int s),some (.ref c),o6,o7,o8,o9]:=⟨_,rfl⟩;refine yu hR2 Pw (by rw[hPw];exact⟨c,css,_,_,_,_,Same.refl _,.lst trivial ec z (ts.keep fun a o _ e=>⟨trivial,e⟩),hok4,hl4,rfl⟩) ?_ ?_
  ·intro j σ H5 hj pv;rw[hPw] at pv;obtain⟨c,css,o6',o7',o8',o9',s5,tc,hok,hl,rfl⟩:=pv;have shw:=Ls h1 h2 hs hok hl;have hoks:∀its,its∈css->∀it,it∈its->It1.Ok w s it:=fun its hi=>(hok its hi).2;have hsum:(css.map CF).sum<=110:=by
    have:=ZS fun its hi=>(hok its hi).1;omega
   refine aK fun k3 hk3=>?_;push_cast;refine⟨_,_,_,rfl,tc,shw,?_⟩;subst hk3;refine aK fun k3 hk3=>?_;push_cast;refine⟨aO δ,fun p6 hp6=>?_⟩;have s6:=aA (o:=HO.tup [V.int w,V.int s,V.ref c]) hp6;have e6:upd H5 p6 (HO.tup [V.int w,V.int s,V.ref c]) p6=_:=aB;have tc6:=tc.same s6;generalize upd H5 p6 (HO.tup [V.int w,V.int s,V.ref c])=H6 at s6 e6 tc6 |-;refine⟨_,w,s,fun _=>True,css,rfl,h1,h2,hs,.tup trivial e6 (by show 3<=1000000;decide) (.cons (.int _) (.cons (.int _) (.cons tc6 .nil))),hoks,hsum,ω,fun y H7 cl s7 hc ty=>?_⟩;push_cast;refine⟨aO δ,fun p8 hp8=>?_⟩;have s8:=s7.trans (aA (o:=HO.tup [V.int w,V.int s,V.ref c]) hp8);have e8:upd H7 p8 (HO.tup [V.int w,V.int s,V.ref c]) p8=_:=aB;have tc8:=tc6.same s8;have ty8:=ty.same (aA (o:=HO.tup [V.int w,V.int s,V.ref c]) hp8);generalize upd H7 p8 (HO.tup [V.int w,V.int s,V.ref c])=H8 at s8 e8 tc8 ty8 |-;refine⟨_,w,s,fun _=>True,css,rfl,h1,h2,hs,.tup trivial e8 (by show 3<=1000000;decide) (.cons (.int _) (.cons (.int _) (.cons tc8 .nil))),hoks,hsum,ω,fun y2 H9 cl2 s9 hc2 ty2=>?_⟩;have e:=hc.one hc2;subst e;refine⟨_,_,fun _=>True,twD cl,rfl,ty8.keep fun a o _ e=>⟨trivial,s9 _ _ e⟩,ty2.keep fun a o _ e=>⟨trivial,e⟩,Lb cl,fun H10 s10=>?_⟩;push_cast;subst hk3;have s510:=s6.trans (s8.trans (s9.trans s10));have tc10:=tc.same s510;refine aK fun k3 hk3=>?_;push_cast;refine⟨_,_,_,rfl,tc10,shw,?_⟩;push_cast;subst hk3;obtain⟨us,ec10,zu,tu⟩:∃us,H10 c=some (.lst us)/\us.length<=1000000/\aN (fun _=>True) H10 us (css.map lW):=by
    cases tc10 with
    | lst o e z t=>exact⟨_,e,z,t⟩
   have hul:=tu.length;rw[AV] at hul;refine aK fun k3 hk3=>?_;push_cast;refine gC fun R4 hR4=>?_;push_cast [xZ,ec10];refine⟨⟨_,SqL.of ec10⟩,?_⟩;obtain⟨Pc,hPc⟩:∃Pv:Nat->List V->L2.St->Hp->Prop,Pv=fun(i:Nat) acc τ H'=>∃(fs:List Nat)(o1 o2:Option V),Same H10 H'/\acc=bW fs/\fs.length<=i/\(∀j,j∈fs->j<css.length)/\τ=[o1,o2]:=⟨_,rfl⟩;refine Jk hR4 (xs:=us) (aO ω) Pc (by rw[hPc];exact⟨[],none,none,Same.refl _,rfl,AY _,(fun j h=>by cases h),rfl⟩) ?_ ?_ ?_ ?_
   ·intro i acc τ H11 pc;rw[hPc] at pc;obtain⟨fs,o1,o2,s11,rfl,hf1,hfs,rfl⟩:=pc;rw[cV];exact hf1
   ·intro i acc τ H11 pc;rw[hPc] at pc;obtain⟨fs,o1,o2,s11,rfl,hf1,hfs,rfl⟩:=pc;exact SqL.of (s11 _ _ ec10)
   ·intro i x acc τ H11 p1 hx pc hp1;rw[hPc] at pc;obtain⟨fs,o1,o2,s11,rfl,hf1,hfs,rfl⟩:=pc;obtain⟨d,hd,td⟩:=(tu.same s11).get hx;rw[BH] at hd;obtain⟨its,hits,rfl⟩:=B8.mp hd;have s12:=s11.trans (aA (o:=HO.tup [V.int (i:Nat),x]) hp1);have e12:upd H11 p1 (HO.tup [V.int (i:Nat),x]) p1=_:=aB;have td12:=td.same (aA (o:=HO.tup [V.int (i:Nat),x]) hp1);generalize upd H11 p1 (HO.tup [V.int (i:Nat),x])=H12 at s12 e12 td12 |-;obtain⟨q0,vs0,rfl,oq,eq,zq,tsq⟩:=jz td12;push_cast [e12];refine⟨aO δ,fun p3 hp3=>?_⟩;have s13:=aA (o:=HO.lst []) hp3;refine⟨q0,p3,vs0,rfl,rfl,s13 _ _ eq,aB,?_⟩;cases vs0 with
    | nil=>
     push_cast [List.isEmpty_nil,F0];rw[hPc];exact⟨fs,_,_,s12.trans s13,rfl,ω,hfs,rfl⟩
    | cons u us=>
     push_cast [List.isEmpty_cons,EB];rw[hPc];refine⟨fs++[i],_,_,s12.trans s13,by simp [bW],by rw[AO,A9];omega,fun j hj=>?_,rfl⟩;rcases A6.mp hj with m|m
     ·exact hfs j m
     rw[AK.mp m];exact(AF.mp hits).1
   intro acc τ H11 d11 pc hd11;rw[hPc] at pc;obtain⟨fs,o1,o2,s11,rfl,hf1,hfs,rfl⟩:=pc;have s12:=s11.trans (aA (o:=HO.lst (bW fs)) hd11);have e12:upd H11 d11 (HO.lst (bW fs)) d11=_:=aB;generalize upd H11 d11 (HO.lst (bW fs))=H12 at s12 e12 |-;subst hk3;refine acv fun kt ke hkt hke=>?_;push_cast;refine⟨aO δ,fun p13 hp13=>?_⟩;have s13:=s12.trans (aA (o:=HO.lst []) hp13);have e13:=aA (o:=HO.lst []) hp13 _ _ e12;refine⟨d11,p13,bW fs,rfl,rfl,e13,aB,?_⟩;generalize upd H12 p13 (HO.lst [])=H13 at s13 e13 |-;have ec13:=s13 _ _ ec10;have tu13:=tu.same s13;have s513:=s510.trans s13;rcases LZ fs with e0|⟨pre,l,e0⟩
   ·subst e0;rw[show(bW []).isEmpty=true from rfl];push_cast [F0];subst hke;push_cast;rw[hPw];exact⟨c,css,_,_,_,_,s5.trans s513,.lst trivial ec13 zu tu13,hok,hl,rfl⟩
   rw[List.concat_eq_append] at e0;subst e0;have hll:=hfs l (by simp);have en:bW (pre++[l])=bW pre++[V.int (l:Nat)]:=by simp [bW]
   rw[en] at e13 |-;rw[Ke];push_cast [EB];subst hkt;have la:=K6 (bW pre) (V.int (l:Nat));refine aK fun k4 hk4=>?_;push_cast [e13,la];subst hk4;have hx:us[l]?=some us[l]:=AR ω;obtain⟨d1,hd1,td1⟩:=tu13.get hx;rw[BH] at hd1;obtain⟨its1,hits1,rfl⟩:=B8.mp hd1;obtain⟨q1,vs1,eq1,oq1,ev1,zv1,tv1⟩:=jz td1;rw[eq1] at hx;have hat:atI us (l:Int)=some (V.ref q1):=fZ hx;have hvl1:=tv1.length;rw[AV] at hvl1;have hi1:=hok its1 (BF hits1);push_cast [ec13];intro c14 hc14;rw[abx us l ω];have s14:=aA (o:=HO.lst (us.take l)) hc14;have e14:upd H13 c14 (HO.lst (us.take l)) c14=_:=aB;generalize upd H13 c14 (HO.lst (us.take l))=H14 at s14 e14 |-;have ec14:=s14 _ _ ec13;have ev14:=s14 _ _ ev1;push_cast [ec14,hat,ev14];intro c15 hc15;rw[Ud];have s15:=s14.trans (aA (o:=HO.lst vs1.dropLast) hc15);have e15:upd H14 c15 (HO.lst vs1.dropLast) c15=_:=aB;have e1415:=aA (o:=HO.lst vs1.dropLast) hc15 _ _ e14;generalize upd H14 c15 (HO.lst vs1.dropLast)=H15 at s15 e15 e1415 |-;refine⟨aO δ,fun c16 hc16=>?_⟩;have s16:=aA (o:=HO.lst [V.ref c15]) hc16;rw[s16 _ _ e1415,Dj];have s1316:=s15.trans s16;have e1516:=s16 _ _ e15;generalize upd H15 c16 (HO.lst [V.ref c15])=H16 at s1316 e1516 |-;refine⟨aO (by rw[D4,A9];omega),fun c17 hc17=>?_⟩;have s17:=s1316.trans (aA (o:=HO.lst (us.take l++[V.ref c15])) hc17);have e17:upd H16 c17 (HO.lst (us.take l++[V.ref c15])) c17=_:=aB;have e1517:=aA (o:=HO.lst (us.take l++[V.ref c15])) hc17 _ _ e1516;generalize upd H16 c17 (HO.lst (us.take l++[V.ref c15]))=H17 at s17 e17 e1517 |-;have ec17:=s17 _ _ ec13;push_cast [ec17];intro c18 hc18;rw[show((l:Int)+1)=((l+1:Nat):Int) by omega,Ue us (l+1) ω];have s18:=s17.trans (aA (o:=HO.lst (us.drop (l+1))) hc18);have e18:upd H17 c18 (HO.lst (us.drop (l+1))) c18=_:=aB;have e1718:=aA (o:=HO.lst (us.drop (l+1))) hc18 _ _ e17;have e1518:=aA (o:=HO.lst (us.drop (l+1))) hc18 _ _ e1517;generalize upd H17 c18 (HO.lst (us.drop (l+1)))=H18 at s18 e18 e1718 e1518 |-;push_cast [e1718,e18];refine⟨aO (by simp only[AO,D4,F8,A9];omega),fun c19 hc19=>?_⟩;have s19:=s18.trans (aA (o:=HO.lst (us.take l++[V.ref c15]++us.drop (l+1))) hc19);have e1519:=aA (o:=HO.lst (us.take l++[V.ref c15]++us.drop (l+1))) hc19 _ _ e1518;rw[hPw];refine⟨c19,css.take l++[its1.dropLast]++css.drop (l+1),_,_,_,_,s5.trans (s513.trans s19),.lst trivial aB ?_ ?_,fun its hi=>?_,?_,rfl⟩
   ·simp only[AO,D4,F8,A9];omega
   ·rw[DJ,DJ,map_take,List.map_drop];have tu19:=tu13.same s19;refine((tu19.take l).append (.cons (.lst trivial e1519 (by rw[List.length_dropLast];omega) ?_) .nil)).append (tu19.drop (l+1));have tv19:=tv1.same s19;rw[Mk,Mk,map_take,hvl1];exact tv19.take _
   ·rcases A6.mp hi with m|m
    ·rcases A6.mp m with m|m
     ·exact hok its (List.mem_of_mem_take m)
     rw[AK.mp m];exact⟨by rw[List.length_dropLast];omega,fun it mi=>hi1.2 it (List.dropLast_subset _ mi)⟩
    exact hok its (List.mem_of_mem_drop m)
   simp only[AO,D4,F8,A9];omega
  intro σ H5 pv;rw[hPw] at pv;obtain⟨c,css,o6',o7',o8',o9',s5,tc,hok,hl,rfl⟩:=pv;show Pv _ _ _;rw[hPv];exact⟨VN (sx4.trans s5.x) hp0,_,_,_,_,_,_,_,_,_,rfl⟩
 intro σ H1 pv;rw[hPv] at pv;obtain⟨s1,o1,o2,o3,o4,o5,o6,o7,o8,o9,rfl⟩:=pv;show k _ _;subst hk;exact q _
end
theorem all_mk {l:PySem.W.OpenLaw}{w:BC}{K:AC}{h:Heap}{mg:Str->Option Ap}{fa:Addr}{f1:Addr}{od1 an1:Option Addr}{sl1:Array (Option Ap)}{oc1 kV1 dc1 pm1 cd1 ct1:Ap}{f2:Addr}{od2 an2:Option Addr}{sl2:Array (Option Ap)}{oc2 kV2 dc2 pm2 cd2 ct2:Ap}{f3:Addr}{od3 an3:Option Addr}{sl3:Array (Option Ap)}{oc3 kV3 dc3 pm3 cd3 ct3:Ap}{f4:Addr}{od4 an4:Option Addr}{sl4:Array (Option Ap)}{oc4 kV4 dc4 pm4 cd4 ct4:Ap}{f5:Addr}{od5 an5:Option Addr}{sl5:Array (Option Ap)}{oc5 kV5 dc5 pm5 cd5 ct5:Ap}{f6:Addr}{od6 an6:Option Addr}{sl6:Array (Option Ap)}{oc6 kV6 dc6 pm6 cd6 ct6:Ap}{f7:Addr}{od7 an7:Option Addr}{sl7:Array (Option Ap)}{oc7 kV7 dc7 pm7 cd7 ct7:Ap}{f8:Addr}{od8 an8:Option Addr}{sl8:Array (Option Ap)}{oc8 kV8 dc8 pm8 cd8 ct8:Ap}{f9:Addr}{od9 an9:Option Addr}{sl9:Array (Option Ap)}{oc9 kV9 dc9 pm9 cd9 ct9:Ap}{f10:Addr}{od10 an10:Option Addr}{sl10:Array (Option Ap)}{oc10 kV10 dc10 pm10 cd10 ct10:Ap}{f11:Addr}{od11 an11:Option Addr}{sl11:Array (Option Ap)}{oc11 kV11 dc11 pm11 cd11 ct11:Ap}{f12:Addr}{od12 an12:Option Addr}{sl12:Array (Option Ap)}{oc12 kV12 dc12 pm12 cd12 ct12:Ap}{f13:Addr}{od13 an13:Option Addr}{sl13:Array (Option Ap)}{oc13 kV13 dc13 pm13 cd13 ct13:Ap}{f14:Addr}{od14 an14:Option Addr}{sl14:Array (Option Ap)}{oc14 kV14 dc14 pm14 cd14 ct14:Ap}{f15:Addr}{od15 an15:Option Addr}{sl15:Array (Option Ap)}{oc15 kV15 dc15 pm15 cd15 ct15:Ap}{f16:Addr}{od16 an16:Option Addr}{sl16:Array (Option Ap)}{oc16 kV16 dc16 pm16 cd16 ct16:Ap}{f17:Addr}{od17 an17:Option Addr}{sl17:Array (Option Ap)}{oc17 kV17 dc17 pm17 cd17 ct17:Ap}{f18:Addr}{od18 an18:Option Addr}{sl18:Array (Option Ap)}{oc18 kV18 dc18 pm18 cd18 ct18:Ap}{f19:Addr}{od19 an19:Option Addr}{sl19:Array (Option Ap)}{oc19 kV19 dc19 pm19 cd19 ct19:Ap}{f20:Addr}{od20 an20:Option Addr}{sl20:Array (Option Ap)}{oc20 kV20 dc20 pm20 cd20 ct20:Ap}{f21:Addr}{od21 an21:Option Addr}{sl21:Array (Option Ap)}{oc21 kV21 dc21 pm21 cd21 ct21:Ap}{f22:Addr}{od22 an22:Option Addr}{sl22:Array (Option Ap)}{oc22 kV22 dc22 pm22 cd22 ct22:Ap}{f23:Addr}{od23 an23:Option Addr}{sl23:Array (Option Ap)}{oc23 kV23 dc23 pm23 cd23 ct23:Ap}{f24:Addr}{od24 an24:Option Addr}{sl24:Array (Option Ap)}{oc24 kV24 dc24 pm24 cd24 ct24:Ap}{f25:Addr}{od25 an25:Option Addr}{sl25:Array (Option Ap)}{oc25 kV25 dc25 pm25 cd25 ct25:Ap}{f26:Addr}{od26 an26:Option Addr}{sl26:Array (Option Ap)}{oc26 kV26 dc26 pm26 cd26 ct26:Ap}{f27:Addr}{od27 an27:Option Addr}{sl27:Array (Option Ap)}{oc27 kV27 dc27 pm27 cd27 ct27:Ap}{f28:Addr}{od28 an28:Option Addr}{sl28:Array (Option Ap)}{oc28 kV28 dc28 pm28 cd28 ct28:Ap}{f29:Addr}{od29 an29:Option Addr}{sl29:Array (Option Ap)}{oc29 kV29 dc29 pm29 cd29 ct29:Ap}{f30:Addr}{od30 an30:Option Addr}{sl30:Array (Option Ap)}{oc30 kV30 dc30 pm30 cd30 ct30:Ap}{f31:Addr}{od31 an31:Option Addr}{sl31:Array (Option Ap)}{oc31 kV31 dc31 pm31 cd31 ct31:Ap}{f32:Addr}{od32 an32:Option Addr}{sl32:Array (Option Ap)}{oc32 kV32 dc32 pm32 cd32 ct32:Ap}{nmB qB:Str}{bsB:List Ap}{snB:List Str}{subB:List Ap}{abB:Bool}{colB:Option Bool}{ddB:Option Addr}{b0 b1 b2 b3 b5:Option Ap}{nmD qD:Str}{bsD:List Ap}{hdD:Bool}{snD:List Str}{subD:List Ap}{abD:Bool}{colD:Option Bool}{ddD:Option Addr}{e0 e1 e2 e3 e5:Option Ap}{nidD:String}{aTwice aBeyond aTooNarrow aNoStretch aBadText aCaseError NB ND fI:Addr}{odI anI:Option Addr}{slI:Array (Option Ap)}{kVI dcI pmI cdI ctI:Ap}(X:K.In h) (G:h.Ns Bi mg) (hfa:mg "law" = some (.ref fa))
  (d1:DA K "least_of" nW f1 od1 an1 sl1 oc1 kV1 dc1 pm1 cd1 ct1)
  (d2:DA K "most_of" sS f2 od2 an2 sl2 oc2 kV2 dc2 pm2 cd2 ct2)
  (d3:DA K "pattern_of" jH f3 od3 an3 sl3 oc3 kV3 dc3 pm3 cd3 ct3)
  (d4:DA K "number_of" iT f4 od4 an4 sl4 oc4 kV4 dc4 pm4 cd4 ct4)
  (d5:DA K "joined" ju f5 od5 an5 sl5 oc5 kV5 dc5 pm5 cd5 ct5)
  (d6:DA K "bits_spans" bL f6 od6 an6 sl6 oc6 kV6 dc6 pm6 cd6 ct6)
  (d7:DA K "item_spans" gn f7 od7 an7 sl7 oc7 kV7 dc7 pm7 cd7 ct7)
  (d8:DA K "case_spans" dJ f8 od8 an8 sl8 oc8 kV8 dc8 pm8 cd8 ct8)
  (d9:DA K "least_shared" cX f9 od9 an9 sl9 oc9 kV9 dc9 pm9 cd9 ct9)
  (d10:DA K "picks" qT f10 od10 an10 sl10 oc10 kV10 dc10 pm10 cd10 ct10)
  (d11:DA K "case_picks" iV f11 od11 an11 sl11 oc11 kV11 dc11 pm11 cd11 ct11)
  (d12:DA K "clash_of" dO f12 od12 an12 sl12 oc12 kV12 dc12 pm12 cd12 ct12)
  (d13:DA K "with_the_rest" cu f13 od13 an13 sl13 oc13 kV13 dc13 pm13 cd13 ct13)
  (d14:DA K "stretches_of" aP f14 od14 an14 sl14 oc14 kV14 dc14 pm14 cd14 ct14)
  (d15:DA K "_law_cell_at" lH f15 od15 an15 sl15 oc15 kV15 dc15 pm15 cd15 ct15)
  (d16:DA K "_law_tape" mF f16 od16 an16 sl16 oc16 kV16 dc16 pm16 cd16 ct16)
  (d17:DA K "_law_take" mG f17 od17 an17 sl17 oc17 kV17 dc17 pm17 cd17 ct17)
  (d18:DA K "_law_kind" qR f18 od18 an18 sl18 oc18 kV18 dc18 pm18 cd18 ct18)
  (d19:DA K "_law_least" sO f19 od19 an19 sl19 oc19 kV19 dc19 pm19 cd19 ct19)
  (d20:DA K "_law_picks" qb f20 od20 an20 sl20 oc20 kV20 dc20 pm20 cd20 ct20)
  (d21:DA K "_law_number" dz f21 od21 an21 sl21 oc21 kV21 dc21 pm21 cd21 ct21)
  (d22:DA K "_law_mask" jF f22 od22 an22 sl22 oc22 kV22 dc22 pm22 cd22 ct22)
  (d23:DA K "_law_item" eV f23 od23 an23 sl23 oc23 kV23 dc23 pm23 cd23 ct23)
  (d24:DA K "_law_wild_choice" aV f24 od24 an24 sl24 oc24 kV24 dc24 pm24 cd24 ct24)
  (d25:DA K "_law_free" nU f25 od25 an25 sl25 oc25 kV25 dc25 pm25 cd25 ct25)
  (d26:DA K "_law_bits_borders" aR f26 od26 an26 sl26 oc26 kV26 dc26 pm26 cd26 ct26)
  (d27:DA K "_law_borders" bT f27 od27 an27 sl27 oc27 kV27 dc27 pm27 cd27 ct27)
  (d28:DA K "_law_same" gm f28 od28 an28 sl28 oc28 kV28 dc28 pm28 cd28 ct28)
  (d29:DA K "_law_word" iR f29 od29 an29 sl29 oc29 kV29 dc29 pm29 cd29 ct29)
  (d30:DA K "_law_clash" fD f30 od30 an30 sl30 oc30 kV30 dc30 pm30 cd30 ct30)
  (d31:DA K "_law_refused" fC f31 od31 an31 sl31 oc31 kV31 dc31 pm31 cd31 ct31)
  (d32:DA K "law" iU f32 od32 an32 sl32 oc32 kV32 dc32 pm32 cd32 ct32)
  (z1:nsIn K Bi "ValueError" = some none)
  (z2:nsIn K Bi "abs" = some none)
  (z3:nsIn K Bi "all" = some none)
  (z4:nsIn K Bi "any" = some none)
  (z5:nsIn K Bi "bool" = some none)
  (z6:nsIn K Bi "enumerate" = some none)
  (z7:nsIn K Bi "int" = some none)
  (z8:nsIn K Bi "isinstance" = some none)
  (z9:nsIn K Bi "len" = some none)
  (z10:nsIn K Bi "list" = some none)
  (z11:nsIn K Bi "max" = some none)
  (z12:nsIn K Bi "min" = some none)
  (z13:nsIn K Bi "range" = some none)
  (z14:nsIn K Bi "repr" = some none)
  (z15:nsIn K Bi "set" = some none)
  (z16:nsIn K Bi "sorted" = some none)
  (z17:nsIn K Bi "str" = some none)
  (z18:nsIn K Bi "sum" = some none)
  (z19:nsIn K Bi "tuple" = some none)
  (z20:nsIn K Bi "zip" = some none)
  (xTwice:nsIn K Bi "Twice" = some (some (.ref aTwice)))
  (xBeyond:nsIn K Bi "Beyond" = some (some (.ref aBeyond)))
  (xTooNarrow:nsIn K Bi "TooNarrow" = some (some (.ref aTooNarrow)))
  (xNoStretch:nsIn K Bi "NoStretch" = some (some (.ref aNoStretch)))
  (xBadText:nsIn K Bi "BadText" = some (some (.ref aBadText)))
  (xCaseError:nsIn K Bi "CaseError" = some (some (.ref aCaseError)))
  (y1:K.lookup aTwice=some (FC nmB qB aTwice NB bsB (.ref aCaseError::vbm) true snB subB abB colB ddB b0 b1 b2 b3 b5 "ValueError.__new__"))
  (y2:K.lookup aCaseError=some (FC nmD qD aCaseError ND bsD vbm hdD snD subD abD colD ddD e0 e1 e2 e3 e5 nidD))
  (y3:nsIn K NB "__init__" = some (some (.ref fI)))
  (y4:K.lookup fI=some ⟨.type "function",odI,.func (fnOf "__init__" "Twice.__init__" (fY jG) (eG jG) (aj jG) .none kVI dcI pmI anI cdI ctI),slI⟩)
  (y5:codeIn K cdI "Twice.__init__" = true)
  (y6:keepIn K (.ref fI)=true)
  (y7:B5 K (.ref aTwice) "__setattr__" = some (some (.builtin "object.__setattr__")))
  (y8:B5 K (.ref aTwice) "__getattribute__" = some (some (.builtin "BaseException.__getattribute__")))
  (y9:B5 K (.ref aTwice) "__getattr__" = some none)
  (y10:B5 K (.ref aTwice) "one" = some none)
  (y22:B5 K (.ref aTwice) "other" = some none)
  (y23:B5 K (.ref aTwice) "number" = some none)
  (y11:readsIn K aCaseError (.type "type")=true)
  (y12:KU K (.ref aCaseError) "__getattribute__" = some (some (.builtin "type.__getattribute__")))
  (y13:findCls K (.ref aCaseError) (.type "type") "__init__" = some (.val (.builtin "ValueError.__init__")))
  (y14:nsOkIn K NB=true)
  (y15:tailIn K vbm (.ref aCaseError::vbm)=true)
  (y16:B5 K (.ref aTwice) "__class__" = some (some (.builtin "object.__class__")))
  (y17:KU K (.builtin "object.__class__") "__get__" = some (some (.builtin "getset_descriptor.__get__")))
  (y18:PySem.W.takesIn K (.builtin "object.__class__")=some true)
  (y19:PySem.W.mroIn K aTwice (.type "object")=some true)
  (y20:PySem.W.mroIn K aTwice (.type "BaseException")=some true)
  (y21:(PySem.W.clsIn K aTwice).isSome=true)
  (z_1:E9 K (.ref aTwice) (.ref aTwice)=some true)
  (z_2:E9 K (.ref aTwice) (.ref aBeyond)=some false)
  (z_3:E9 K (.ref aTwice) (.ref aTooNarrow)=some false)
  (z_4:E9 K (.ref aTwice) (.ref aNoStretch)=some false)
  (z_5:E9 K (.ref aTwice) (.ref aBadText)=some false)
  (z_6:E9 K (.ref aTwice) (.type "ValueError")=some true) :
  ∃fd:Dx,(∀(s:AA)(v:Ap),BindsTo s fd ⟨[v],[]⟩ [("_law_script",v)])/\∀base:Heap,K.In base->base.Ns Bi mg->cU l.prog w K mg base CX0 63 fa fd ["_law_script"] (JN K):=by
 have e:=hfa.symm.trans (mg_of X G d32.a);cases e;have DLeastOf:=d1.d q5_ X G fun _ _ _ _ _ _ us hl=>by obtain⟨z0,z1,rfl⟩:=ln2 hl;rfl
 have DMostOf:=d2.d q5_ X G fun _ _ _ _ _ _ us hl=>by obtain⟨z0,z1,rfl⟩:=ln2 hl;rfl
 have DPatternOf:=d3.d ["number","width"] X G fun _ _ _ _ _ _ us hl=>by obtain⟨z0,z1,rfl⟩:=ln2 hl;rfl
 have DNumberOf:=d4.d q15_ X G fun _ _ _ _ _ _ us hl=>by obtain⟨z0,z1,z2,rfl⟩:=ln3 hl;rfl
 have DJoined:=d5.d ["spans"] X G fun _ _ _ _ _ _ us hl=>by obtain⟨z0,rfl⟩:=ln1 hl;rfl
 have DBitsSpans:=d6.d q10_ X G fun _ _ _ _ _ _ us hl=>by obtain⟨z0,z1,z2,z3,rfl⟩:=ln4 hl;rfl
 have DItemSpans:=d7.d q18_ X G fun _ _ _ _ _ _ us hl=>by obtain⟨z0,z1,z2,rfl⟩:=ln3 hl;rfl
 have DCaseSpans:=d8.d q12_ X G fun _ _ _ _ _ _ us hl=>by obtain⟨z0,z1,z2,rfl⟩:=ln3 hl;rfl
 have DLeastShared:=d9.d ["rows"] X G fun _ _ _ _ _ _ us hl=>by obtain⟨z0,rfl⟩:=ln1 hl;rfl
 have DPicks:=d10.d q17_ X G fun _ _ _ _ _ _ us hl=>by obtain⟨z0,z1,z2,rfl⟩:=ln3 hl;rfl
 have DCasePicks:=d11.d q16_ X G fun _ _ _ _ _ _ us hl=>by obtain⟨z0,z1,z2,rfl⟩:=ln3 hl;rfl
 have DClashOf:=d12.d ["choice"] X G fun _ _ _ _ _ _ us hl=>by obtain⟨z0,rfl⟩:=ln1 hl;rfl
 have DWithTheRest:=d13.d q11_ X G fun _ _ _ _ _ _ us hl=>by obtain⟨z0,z1,z2,z3,rfl⟩:=ln4 hl;rfl
 have DStretchesOf:=d14.d ["choice"] X G fun _ _ _ _ _ _ us hl=>by obtain⟨z0,rfl⟩:=ln1 hl;rfl
 have DZCellAt:=d15.d q4_ X G fun _ _ _ _ _ _ us hl=>by obtain⟨z0,z1,rfl⟩:=ln2 hl;rfl
 have DZTape:=d16.d q4_ X G fun _ _ _ _ _ _ us hl=>by obtain⟨z0,z1,rfl⟩:=ln2 hl;rfl
 have DZTake:=d17.d q1_ X G fun _ _ _ _ _ _ us hl=>by obtain⟨z0,z1,rfl⟩:=ln2 hl;rfl
 have DZKind:=d18.d q9_ X G fun _ _ _ _ _ _ us hl=>by obtain⟨z0,rfl⟩:=ln1 hl;rfl
 have DZLeast:=d19.d q7_ X G fun _ _ _ _ _ _ us hl=>by obtain⟨z0,z1,rfl⟩:=ln2 hl;rfl
 have DZPicks:=d20.d q3_ X G fun _ _ _ _ _ _ us hl=>by obtain⟨z0,z1,z2,rfl⟩:=ln3 hl;rfl
 have DZNumber:=d21.d q0_ X G fun _ _ _ _ _ _ us hl=>by obtain⟨z0,z1,z2,z3,rfl⟩:=ln4 hl;rfl
 have DZMask:=d22.d q13_ X G fun _ _ _ _ _ _ us hl=>by obtain⟨z0,z1,rfl⟩:=ln2 hl;rfl
 have DZItem:=d23.d q0_ X G fun _ _ _ _ _ _ us hl=>by obtain⟨z0,z1,z2,z3,rfl⟩:=ln4 hl;rfl
 have DZWildChoice:=d24.d q9_ X G fun _ _ _ _ _ _ us hl=>by obtain⟨z0,rfl⟩:=ln1 hl;rfl
 have DZFree:=d25.d q14_ X G fun _ _ _ _ _ _ us hl=>by obtain⟨z0,z1,rfl⟩:=ln2 hl;rfl
 have DZBitsBorders:=d26.d q2_ X G fun _ _ _ _ _ _ us hl=>by obtain⟨z0,z1,z2,z3,rfl⟩:=ln4 hl;rfl
 have DZBorders:=d27.d q6_ X G fun _ _ _ _ _ _ us hl=>by obtain⟨z0,rfl⟩:=ln1 hl;rfl
 have DZSame:=d28.d q8_ X G fun _ _ _ _ _ _ us hl=>by obtain⟨z0,z1,rfl⟩:=ln2 hl;rfl
 have DZWord:=d29.d ["_law_caught"] X G fun _ _ _ _ _ _ us hl=>by obtain⟨z0,rfl⟩:=ln1 hl;rfl
 have DZClash:=d30.d q6_ X G fun _ _ _ _ _ _ us hl=>by obtain⟨z0,rfl⟩:=ln1 hl;rfl
 have DZRefused:=d31.d q6_ X G fun _ _ _ _ _ _ us hl=>by obtain⟨z0,rfl⟩:=ln1 hl;rfl
 have DLaw:=d32.d ["_law_script"] X G fun _ _ _ _ _ _ us hl=>by obtain⟨z0,rfl⟩:=ln1 hl;rfl
 have hB:∀x:Str,x∈BLs->mg x=none:=by
  intro x hx;replace hx:x∈(["ValueError","abs","all","any","bool","enumerate","int","isinstance","len","list","max","min","range","repr","set","sorted","str","sum","tuple","zip"]:List Str):=hx;simp only[BB,Cs,or_false] at hx;rcases hx with rfl|rfl|rfl|rfl|rfl|rfl|rfl|rfl|rfl|rfl|rfl|rfl|rfl|rfl|rfl|rfl|rfl|rfl|rfl|rfl
  ·exact C9 X G z1
  ·exact C9 X G z2
  ·exact C9 X G z3
  ·exact C9 X G z4
  ·exact C9 X G z5
  ·exact C9 X G z6
  ·exact C9 X G z7
  ·exact C9 X G z8
  ·exact C9 X G z9
  ·exact C9 X G z10
  ·exact C9 X G z11
  ·exact C9 X G z12
  ·exact C9 X G z13
  ·exact C9 X G z14
  ·exact C9 X G z15
  ·exact C9 X G z16
  ·exact C9 X G z17
  ·exact C9 X G z18
  ·exact C9 X G z19
  exact C9 X G z20
 refine⟨fnOf "law" "law" (fY iU) (eG iU) (aj iU) .none kV32 dc32 pm32 an32 cd32 ct32,fun s v=>.of_eq rfl,fun base kb nb=>?_⟩;have CCell:=DZCellAt.cal (Xg (P:=l.prog) (w:=w) (base:=base) hB DZCellAt.fn);have CTape:=DZTape.cal (Xc hB CCell DZTape.fn);have CTake0:=DZTake.cal (Lj (P:=l.prog) (w:=w) (mg:=mg) (base:=base));have CTake1:=DZTake.cal (Kc (n:=0) hB δ CTake0 DZTake.fn);have CTake2:=DZTake.cal (Kc (n:=1) hB δ CTake1 DZTake.fn);have CSame0:=DZSame.cal (same_none (P:=l.prog) (w:=w) (mg:=mg) (base:=base));have CSame1:=DZSame.cal (v7 (n:=0) hB CSame0 DZSame.fn);have CSame2:=DZSame.cal (v7 (n:=1) hB CSame1 DZSame.fn);have CSame3:=DZSame.cal (v7 (n:=2) hB CSame2 DZSame.fn);have CSame:=DZSame.cal (v7 (n:=3) hB CSame3 DZSame.fn);have CKind:=DZKind.cal (Xd hB CTake2 DZKind.fn);have CLeast:=DZLeast.cal (Rz (P:=l.prog) (w:=w) (mg:=mg) (base:=base) DZLeast.fn);have CNum:=DZNumber.cal (aaO hB CTake2 CLeast DZNumber.fn);have CMask:=DZMask.cal (Kd hB CTake2 DZMask.fn);have CItem:=DZItem.cal (Xe hB CTake2 CNum CMask DZItem.fn);have CWild:=DZWildChoice.cal (Xb hB CTake2 CKind CLeast CItem DZWildChoice.fn);have CFree:=DZFree.cal (Xf (P:=l.prog) (w:=w) (base:=base) hB DZFree.fn);have CBB:=DZBitsBorders.cal (ach hB CFree DZBitsBorders.fn);have CPat:=DPatternOf.cal (HJ (P:=l.prog) (w:=w) (mg:=mg) (base:=base) DPatternOf.fn);have CPicks:=DPicks.cal (Rw hB CPat DPicks.fn);have CCase:=DCasePicks.cal (RG hB CPicks DCasePicks.fn);have CLP:=DZPicks.cal (Mz (P:=l.prog) (w:=w) (base:=base) hB DZPicks.fn);have CBord:=DZBorders.cal (HN hB CLeast CBB DZBorders.fn);have CLow:=DLeastOf.cal (MF (P:=l.prog) (w:=w) (mg:=mg) (base:=base) DLeastOf.fn);have CMost:=DMostOf.cal (Ry (P:=l.prog) (w:=w) (mg:=mg) (base:=base) DMostOf.fn);have CNumOf:=DNumberOf.cal (Rx hB CMost DNumberOf.fn);have CJoin:=DJoined.cal (MK (P:=l.prog) (w:=w) (base:=base) hB DJoined.fn);have CBSp:=DBitsSpans.cal (aaT hB CLow CMost CNumOf DBitsSpans.fn);have CISp:=DItemSpans.cal (aaR hB CBSp DItemSpans.fn);have CCSp:=DCaseSpans.cal (aaS hB CISp CJoin DCaseSpans.fn);have CLSh:=DLeastShared.cal (aaP (P:=l.prog) (w:=w) (base:=base) hB DLeastShared.fn);have CClash:=DClashOf.cal (RD hB CLSh CCSp CCase DClashOf.fn);have CWTR:=DWithTheRest.cal (aaN (P:=l.prog) (w:=w) (base:=base) hB DWithTheRest.fn);have XC:nM K aTwice aCaseError NB fI:=⟨⟨_,_,_,_,_,_,_,_,_,_,_,_,_,y1⟩,y15,y14,y3,y7,y8,y9⟩;have XD:XBase K aCaseError:=⟨y11,y12,y13⟩;have XT:Y7 K aCaseError ND:=⟨⟨_,_,_,_,_,_,_,_,_,_,_,_,_,_,_,y2⟩⟩;have Z:XIs K aTwice:=⟨y8,y9,y16,y17,y18,y19,y20,y21⟩;have cD:=mg_of X G xCaseError;have FI:=Ji (st:=jG) y4 y5 y6;have CInit:=Ru (P:=l.prog) (w:=w) (base:=base) XC XD cD y10 y22 y23 FI;have XB:abL l.prog w K mg base "Twice" aTwice aCaseError 1 lF (vX aTwice):=⟨NB,fI,_,XC,CInit,FI.binds (ps:=lF) fun _ _ _ _ _ _ us hl=>by obtain⟨z0,z1,z2,z3,rfl⟩:=ln4 hl;rfl,⟨_,y4,rfl⟩,mg_of X G xTwice⟩;have CStr:=DStretchesOf.acY (Rv hB XB CClash CCSp CLow CMost CWTR DStretchesOf.fn)
 have CWord:=DZWord.cal (Xa (P:=l.prog) (w:=w) (base:=base) hB XC Z (mg_of X G xTwice) (mg_of X G xBeyond) (mg_of X G xTooNarrow) (mg_of X G xNoStretch) (mg_of X G xBadText) z_1 z_2 z_3 z_4 z_5 z_6 y10 y22 y23 DZWord.fn);have CRef:=DZRefused.cal (HF hB XC XT cD CStr CWord DZRefused.fn);have CLC:=DZClash.cal (MJ hB CLP CBord DZClash.fn);exact aaQ hB CRef CTape CWild CLC CSame DLaw.fn
theorem walk {l:PySem.W.OpenLaw}{q:AW}{loose:List Str}{XP:(Str->Option Ap)->Heap->Prop}{YP:BC->Heap->Prop}{d:DefRec}{K:Params->AC}(hn:l.most=some 63)(hdf:d.params.defaults=[])
  (hY:∀(w:BC)(h:Heap),YP w h->(K w.params).In h)
  (F:∀(w:BC)(mg:Str->Option Ap)(fa:Addr)(h:Heap),(K w.params).In h->h.Ns Bi mg->mg d.name=some (.ref fa) ->
   ∃fd:Dx,(∀(s:AA)(u:Ap),BindsTo s fd ⟨[u],[]⟩ [("_law_script",u)])/\∀base:Heap,(K w.params).In base->base.Ns Bi mg->cU l.prog w (K w.params) mg base CX0 63 fa fd ["_law_script"] (JN (K w.params))) :
  PySem.W.WalkO q loose XP YP l.row.toRowW d [] (fun f vs=>PySem.call f vs):=
 L2.Vj (n:=63) (k:=63) (x := "_law_script") (CX:=fun _=>CX0) (sp:=fun w=>JN (K w.params)) hn δ hdf ⟨rfl,δ,δ,rfl⟩ hY F (fun _ _ a ns hl _ hS=>⟨a,ns,rfl,hS,hl,fun _=>rfl⟩) fun _ _ _ _ _ z=>z
end K09
namespace PySem.W.Fast
theorem tw10030624638354566573:True:=⟨⟩
theorem tw10187528467453372506:True:=⟨⟩
theorem tw10271915364553424962:True:=⟨⟩
theorem tw10280983552923403600:True:=⟨⟩
theorem tw10333093425448714491:True:=⟨⟩
theorem tw10433027022390644074:True:=⟨⟩
theorem tw10505209348221170570:True:=⟨⟩
theorem tw10566731380638167132:True:=⟨⟩
theorem tw10621356720233871095:True:=⟨⟩
theorem tw10673675590358076256:True:=⟨⟩
theorem tw10694994104090262074:True:=⟨⟩
theorem tw10963616530145994682:True:=⟨⟩
theorem tw11042602554841371992:True:=⟨⟩
theorem tw11073599841573744820:True:=⟨⟩
theorem tw11165135226012564291:True:=⟨⟩
theorem tw11195081537427481849:True:=⟨⟩
theorem tw11312830935762640151:True:=⟨⟩
theorem tw11511509292213823033:True:=⟨⟩
theorem tw11557545533169505214:True:=⟨⟩
theorem tw11853845732170545816:True:=⟨⟩
theorem tw1189729384036247983:True:=⟨⟩
theorem tw12516424058000028121:True:=⟨⟩
theorem tw12761134674003252475:True:=⟨⟩
theorem tw12767488645842312110:True:=⟨⟩
theorem tw12970281532779597457:True:=⟨⟩
theorem tw13035606276696249276:True:=⟨⟩
theorem tw13063915628027052849:True:=⟨⟩
theorem tw13096170891361766504:True:=⟨⟩
theorem tw13242759705275135688:True:=⟨⟩
theorem tw13245245927701610990:True:=⟨⟩
theorem tw13450385621523390167:True:=⟨⟩
theorem tw1347107253584336517:True:=⟨⟩
theorem tw13762773439958039087:True:=⟨⟩
theorem tw1390946594454508631:True:=⟨⟩
theorem tw13913866127505543704:True:=⟨⟩
theorem tw13925153458379857536:True:=⟨⟩
theorem tw13934344316495032993:True:=⟨⟩
theorem tw13961226121449440477:True:=⟨⟩
theorem tw14085663946627742985:True:=⟨⟩
theorem tw14133212759692284982:True:=⟨⟩
theorem tw14171088949242285252:True:=⟨⟩
theorem tw14243991955217876632:True:=⟨⟩
theorem tw14288358023786629329:True:=⟨⟩
theorem tw14364057652022977309:True:=⟨⟩
theorem tw14428361771807866076:True:=⟨⟩
theorem tw1449295681671291023:True:=⟨⟩
theorem tw14578387339285494755:True:=⟨⟩
theorem tw14643611256166758632:True:=⟨⟩
theorem tw14719535018868134185:True:=⟨⟩
theorem tw14744011831225341922:True:=⟨⟩
theorem tw1478611355045460432:True:=⟨⟩
theorem tw14911036908028180695:True:=⟨⟩
theorem tw14927495605008784992:True:=⟨⟩
theorem tw14929511163413869513:True:=⟨⟩
theorem tw15073723836786990510:True:=⟨⟩
theorem tw15192380918142232710:True:=⟨⟩
theorem tw15240169050957429504:True:=⟨⟩
theorem tw15500322263614477518:True:=⟨⟩
theorem tw15647449850195954268:True:=⟨⟩
theorem tw15689214654558501917:True:=⟨⟩
theorem tw15693567122544029047:True:=⟨⟩
theorem tw15736154333906540894:True:=⟨⟩
theorem tw15785509729480377266:True:=⟨⟩
theorem tw15790649855013951666:True:=⟨⟩
theorem tw1587329728236834848:True:=⟨⟩
theorem tw15915138354024463912:True:=⟨⟩
theorem tw1602541243214656468:True:=⟨⟩
theorem tw16099596046595101392:True:=⟨⟩
theorem tw1615335305924660610:True:=⟨⟩
theorem tw16188061648357155714:True:=⟨⟩
theorem tw16198620611014279990:True:=⟨⟩
theorem tw16201978827733615730:True:=⟨⟩
theorem tw16326401041497929881:True:=⟨⟩
theorem tw16329768639512947769:True:=⟨⟩
theorem tw16413769367333389526:True:=⟨⟩
theorem tw16639289774906473770:True:=⟨⟩
theorem tw1666774616212915403:True:=⟨⟩
theorem tw16671017947745418821:True:=⟨⟩
theorem tw16768274603255444449:True:=⟨⟩
theorem tw16773010400708877008:True:=⟨⟩
theorem tw16806971091004853873:True:=⟨⟩
theorem tw16874117736171743000:True:=⟨⟩
theorem tw16978061058955269117:True:=⟨⟩
theorem tw16989723144037303042:True:=⟨⟩
theorem tw1736549550895476454:True:=⟨⟩
theorem tw17394755147852079416:True:=⟨⟩
theorem tw17415287986351680043:True:=⟨⟩
theorem tw17670804139378107324:True:=⟨⟩
theorem tw1768811231945923801:True:=⟨⟩
theorem tw17724080685594006824:True:=⟨⟩
theorem tw17913477341257344301:True:=⟨⟩
theorem tw17981430865841467278:True:=⟨⟩
theorem tw18089739710967357596:True:=⟨⟩
theorem tw18133256123786328227:True:=⟨⟩
theorem tw18159862803164074029:True:=⟨⟩
theorem tw18220168496153643075:True:=⟨⟩
theorem tw18283291374955649159:True:=⟨⟩
theorem tw18296149570470576586:True:=⟨⟩
theorem tw1830478998257858499:True:=⟨⟩
theorem tw18343542420235974627:True:=⟨⟩
theorem tw1978465919700858805:True:=⟨⟩
theorem tw2139478571395895321:True:=⟨⟩
theorem tw2272751229113164257:True:=⟨⟩
theorem tw2312620761790613971:True:=⟨⟩
theorem tw2413760752260645602:True:=⟨⟩
theorem tw2432174788484815447:True:=⟨⟩
theorem tw2621819027385379288:True:=⟨⟩
theorem tw2692160557611252045:True:=⟨⟩
theorem tw2731530917099791688:True:=⟨⟩
theorem tw2738941672184505541:True:=⟨⟩
theorem tw2794233753416502775:True:=⟨⟩
theorem tw3026717712182181110:True:=⟨⟩
theorem tw3041139541006071124:True:=⟨⟩
theorem tw305704581860145427:True:=⟨⟩
theorem tw3135707744738162607:True:=⟨⟩
theorem tw3164669914934998649:True:=⟨⟩
theorem tw3208604165058180944:True:=⟨⟩
theorem tw3219523523027059986:True:=⟨⟩
theorem tw3280276988808978077:True:=⟨⟩
theorem tw3314230076291670772:True:=⟨⟩
theorem tw3337904234406511165:True:=⟨⟩
theorem tw3538480067795484544:True:=⟨⟩
theorem tw3663634363289305510:True:=⟨⟩
theorem tw3693483633155320403:True:=⟨⟩
theorem tw3724326229341097681:True:=⟨⟩
theorem tw379508528187334864:True:=⟨⟩
theorem tw3970908414777287889:True:=⟨⟩
theorem tw4026794593960042948:True:=⟨⟩
theorem tw4065713781455796860:True:=⟨⟩
theorem tw4138041153310449502:True:=⟨⟩
theorem tw4138935966554127254:True:=⟨⟩
theorem tw4161459126506677777:True:=⟨⟩
theorem tw4318911120733721534:True:=⟨⟩
theorem tw4417013096639601965:True:=⟨⟩
theorem tw4615729752689326445:True:=⟨⟩
theorem tw4690543703251780296:True:=⟨⟩
theorem tw4693583640093217914:True:=⟨⟩
theorem tw4965070874013936899:True:=⟨⟩
theorem tw4977619408438662768:True:=⟨⟩
theorem tw5004440484303053515:True:=⟨⟩
theorem tw50426885660105967:True:=⟨⟩
theorem tw5121553451356568465:True:=⟨⟩
theorem tw5161245362792026104:True:=⟨⟩
theorem tw5200613788416440387:True:=⟨⟩
theorem tw5232938182299012073:True:=⟨⟩
theorem tw5249541077101290366:True:=⟨⟩
theorem tw5276329686331176850:True:=⟨⟩
theorem tw5289542788747418480:True:=⟨⟩
theorem tw529521122538779402:True:=⟨⟩
theorem tw5334811805278465912:True:=⟨⟩
theorem tw535265258903343352:True:=⟨⟩
theorem tw5367363752593029871:True:=⟨⟩
theorem tw5513131585003480081:True:=⟨⟩
theorem tw5736453092490241631:True:=⟨⟩
theorem tw5851946830045134075:True:=⟨⟩
theorem tw6171093314864493621:True:=⟨⟩
theorem tw6188881058072277279:True:=⟨⟩
theorem tw6263192688651633542:True:=⟨⟩
theorem tw6350038128984514332:True:=⟨⟩
theorem tw6396837831452580456:True:=⟨⟩
theorem tw6419602034957029080:True:=⟨⟩
theorem tw6498032406338130059:True:=⟨⟩
theorem tw6793762172216269713:True:=⟨⟩
theorem tw6812627885136648860:True:=⟨⟩
theorem tw6823982185540201888:True:=⟨⟩
theorem tw6898148117270304934:True:=⟨⟩
theorem tw7115830190644414197:True:=⟨⟩
theorem tw7139925730907121926:True:=⟨⟩
theorem tw7302895532518138611:True:=⟨⟩
theorem tw7390657508074168355:True:=⟨⟩
theorem tw7453151937146570561:True:=⟨⟩
theorem tw7477323957809023629:True:=⟨⟩
theorem tw7477396733122671894:True:=⟨⟩
theorem tw7569480758065463111:True:=⟨⟩
theorem tw7582846947758030796:True:=⟨⟩
theorem tw7603488861703054900:True:=⟨⟩
theorem tw7603667733735346723:True:=⟨⟩
theorem tw7813250249362791344:True:=⟨⟩
theorem tw7849720850619547470:True:=⟨⟩
theorem tw7873884189528549024:True:=⟨⟩
theorem tw7973130961236267677:True:=⟨⟩
theorem tw814304805476636964:True:=⟨⟩
theorem tw8205714948621873893:True:=⟨⟩
theorem tw8304516489972411790:True:=⟨⟩
theorem tw835796285274927748:True:=⟨⟩
theorem tw8388337535454046857:True:=⟨⟩
theorem tw84079783832673715:True:=⟨⟩
theorem tw8555905043009152208:True:=⟨⟩
theorem tw8616669533341105047:True:=⟨⟩
theorem tw8670936290228678393:True:=⟨⟩
theorem tw8706077177339678014:True:=⟨⟩
theorem tw8763955350007085103:True:=⟨⟩
theorem tw8873875426501144782:True:=⟨⟩
theorem tw8887045850364323464:True:=⟨⟩
theorem tw8967439455695538737:True:=⟨⟩
theorem tw8978471148774513551:True:=⟨⟩
theorem tw9069765286507061683:True:=⟨⟩
theorem tw9200104711255620273:True:=⟨⟩
theorem tw9257279950689307779:True:=⟨⟩
theorem tw9306889585637091876:True:=⟨⟩
theorem tw939992619398997244:True:=⟨⟩
theorem tw9690274516099547080:True:=⟨⟩
theorem tw9767834121254642656:True:=⟨⟩
end PySem.W.Fast
open PySem PySem.W PyProof.Rows
set_option maxRecDepth 100000 in
set_option maxHeartbeats 0 in
theorem PySem.Challenge.cw_caseways_k09_told_twice_refused_holds : PySem.Challenge.rw_caseways_k09_told_twice_refused.Holds := by
 w_on; o_law; k_head; (case hw=>w_witness2)
 k_fill
 refine K09.walk (l:=PySem.Challenge.rw_caseways_k09_told_twice_refused) rfl rfl (fun w h Y=>PySem.W.kIn_of Y) ?F
 case F=>
  intro w mg fa h KX G hmg
  refine' K09.all_mk KX G hmg ⟨?a1,?l1,?c1,?k1⟩ ⟨?a2,?l2,?c2,?k2⟩ ⟨?a3,?l3,?c3,?k3⟩ ⟨?a4,?l4,?c4,?k4⟩ ⟨?a5,?l5,?c5,?k5⟩ ⟨?a6,?l6,?c6,?k6⟩ ⟨?a7,?l7,?c7,?k7⟩ ⟨?a8,?l8,?c8,?k8⟩ ⟨?a9,?l9,?c9,?k9⟩ ⟨?a10,?l10,?c10,?k10⟩ ⟨?a11,?l11,?c11,?k11⟩ ⟨?a12,?l12,?c12,?k12⟩ ⟨?a13,?l13,?c13,?k13⟩ ⟨?a14,?l14,?c14,?k14⟩ ⟨?a15,?l15,?c15,?k15⟩ ⟨?a16,?l16,?c16,?k16⟩ ⟨?a17,?l17,?c17,?k17⟩ ⟨?a18,?l18,?c18,?k18⟩ ⟨?a19,?l19,?c19,?k19⟩ ⟨?a20,?l20,?c20,?k20⟩ ⟨?a21,?l21,?c21,?k21⟩ ⟨?a22,?l22,?c22,?k22⟩ ⟨?a23,?l23,?c23,?k23⟩ ⟨?a24,?l24,?c24,?k24⟩ ⟨?a25,?l25,?c25,?k25⟩ ⟨?a26,?l26,?c26,?k26⟩ ⟨?a27,?l27,?c27,?k27⟩ ⟨?a28,?l28,?c28,?k28⟩ ⟨?a29,?l29,?c29,?k29⟩ ⟨?a30,?l30,?c30,?k30⟩ ⟨?a31,?l31,?c31,?k31⟩ ⟨?a32,?l32,?c32,?k32⟩ ?z1 ?z2 ?z3 ?z4 ?z5 ?z6 ?z7 ?z8 ?z9 ?z10 ?z11 ?z12 ?z13 ?z14 ?z15 ?z16 ?z17 ?z18 ?z19 ?z20 ?xTwice ?xBeyond ?xTooNarrow ?xNoStretch ?xBadText ?xCaseError ?y1 ?y2 ?y3 ?y4 ?y5 ?y6 ?y7 ?y8 ?y9 ?y10 ?y22 ?y23 ?y11 ?y12 ?y13 ?y14 ?y15 ?y16 ?y17 ?y18 ?y19 ?y20 ?y21 ?z_1 ?z_2 ?z_3 ?z_4 ?z_5 ?z_6
  case a1|l1|c1|k1|a2|l2|c2|k2|a3|l3|c3|k3|a4|l4|c4|k4|a5|l5|c5|k5|a6|l6|c6|k6|a7|l7|c7|k7|a8|l8|c8|k8|a9|l9|c9|k9|a10|l10|c10|k10|a11|l11|c11|k11|a12|l12|c12|k12|a13|l13|c13|k13|a14|l14|c14|k14|a15|l15|c15|k15|a16|l16|c16|k16|a17|l17|c17|k17|a18|l18|c18|k18|a19|l19|c19|k19|a20|l20|c20|k20|a21|l21|c21|k21|a22|l22|c22|k22|a23|l23|c23|k23|a24|l24|c24|k24|a25|l25|c25|k25|a26|l26|c26|k26|a27|l27|c27|k27|a28|l28|c28|k28|a29|l29|c29|k29|a30|l30|c30|k30|a31|l31|c31|k31|a32|l32|c32|k32|z1|z2|z3|z4|z5|z6|z7|z8|z9|z10|z11|z12|z13|z14|z15|z16|z17|z18|z19|z20=>k_is
  case xTwice|xBeyond|xTooNarrow|xNoStretch|xBadText|xCaseError|y1|y2|y3|y4|y5|y6|y7|y8|y9|y10|y22|y23|y11|y12|y13|y14|y15|y16|y17|y18|y19|y20|y21|z_1|z_2|z_3|z_4|z_5|z_6=>first | k_is | rfl | (with_unfolding_all rfl) | decide +kernel
#print axioms PySem.Challenge.cw_caseways_k09_told_twice_refused_holds
