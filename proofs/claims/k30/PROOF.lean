import PyProof.Rows.All
import Wide.All
import OpenK.AllK
import Wide.FinOn
import Lean
import PyProof.EqAt
import PyProof.EqKinds
import PyProof.TupleCall
import PyProof.NeData
import PySem.Challenge.RW_caseways_k30_least_plans_in_runs
local macro_rules | `(tactic| omega) => `(tactic| first | with_reducible assumption | lia | omega +splitDisjunctions)
open Lean in
local macro_rules | `(command|def $d:declId $s:optDeclSig $v:declVal) => `(command|noncomputable def $d:declId $s:optDeclSig $v:declVal) | `(command|abbrev $d:declId $s:optDeclSig $v:declVal) => `(command|noncomputable abbrev $d:declId $s:optDeclSig $v:declVal)
set_option Elab.async false
set_option linter.all false
set_option maxRecDepth 100000
theorem Z{α:Sort u}{a:α}:a=a:=rfl
theorem ζ{p:Prop}(h:p:=by simp):p:=h
theorem ω{p : Prop}(h : p := by omega) : p := h
theorem δ{p : Prop}(h : p := by decide) : p := h
theorem ψ{p : Prop}(h : p := by decide +kernel) : p := h
open List (all_append all_cons all_map all_nil drop_length drop_zero ext_getElem filterMap_map flatten_cons foldl_cons forIn_nil getElem?_drop getElem?_take map_drop map_id map_nil map_take nil_append nodup_nil of_mem_zip range_succ set_cons_succ sum_nil take_add_one)
open PySem.Heap (size_update)
open Option (getD_none map_some)
open PySem.W (codeIn fnOf keepIn kitOne mg_of nsIn)
open Array (toList_map toList_push)
open Nat (le_succ lt_trans mod_lt ne_of_gt sub_zero zero_add)
open Int (lt_or_le mul_add mul_nonneg mul_one mul_zero neg_mul not_lt)
open Bool (or_eq_true)
open PySem renaming wpAny_bind → An, Value → Ap, wpAny_pure → Au, Shared → AA, wpAny → AG, starEach → AH, Builtin → AI, model → AJ, sizeLine → AK, Program → AR, SetTable → AW, PyData → A0, Around → A5, World → A9, wpAny_newObj_type → Be, wpAny_mono → Bz, wpAny_ite_false → BD, wpAny_holding → BH, wpAny_callSpecial?_slot → BM, wpAny_field → BO, wpAny_call_entry → BQ, wpAny_setField_rec → B0, boot_len → B1, foldedSetIterable → B2, wpAny_seqItems → B4, IsPair → Cn, wpAny_of_eq → Cs, mainGlobals → CD, backTo → CS, compareOp → CU, wpAny_rule → CY, rawInt → C0, codeAny_builtin → C5, wpAny_standAt → C6, wpAny_attempt → De, NameKind → DE, mem_of_lookup → DH, codeAny → DL, attributeBase → DM, letOwnedTupleGo → DS, sysModules → DV, assignEach → DZ, pyNext → D2, Spec → D5, FuncData → D6, wpAny_Call_Name_kw → Ex, call_meets → EA, wpAny_askSetting → EC, bootBuiltins → EE, wpAny_ite_true → EH, Keyword → EJ, ZipApart → EL, holding → EN, assign → EO, notedBy → ER, wpAny_Call_method_late → ES, wpAny_isInstance → EV, compEnvC → EW, wpAny_newTuple → EZ, builtinLookup_eq_fast → E3, Scope → E5, wpAny_truthy_bool → E6, binaryOp → E7, wpAny_typeOf → E9, keywordEach → Ff, setField → Fh, wpAny_comprehension_free → Fn, isSubtype_type → FC, wpAny_pyIter_tuple → FH, wpAny_passesOwn → FK, swapsWithSole → FM, scanBound → FO, intKind → FR, standAt → FS, cLine → FU, wpAny_newFunctionEnv → F3, wpAny_updateSeq_pair → F6, codeAny_call_builtin → F8, wpAny_pyIter_zip → Gc, wpAny_onRaise → GA, wpAny_loadPart' → GH, codeAny_of_tree → GI, typeLookup_type → GL, again → GW, wpAny_pyIter_list → G1, backToKw → Hb, entryFor_of_tree → HP, behindInMarks → HQ, plainId_quiet → HR, sliceBounds → HU, theTreesLotGoes → Ix, codeAny_mono → IC, pickOrder → IG, pyIter → IH, newTuple → IL, isSubtype_stop → IM, entryFor → IR, IsRangeIter → IY, sizeLine_eq → IZ, list_append → Jn, wpAny_pyIter_enum → JA, argsOk → JI, wpAny_eqBool_int → JO, swapsWith → JP, compTurn → JY, noteFrame → Kb, IsZip → Ki, field → Kj, seqItems? → Kk, updateSeq → Kn, isTrue → KI, wpAny_pyIter_rangeiter → KL, codeAny_loop → KP, codeAny_compStart_list → KS, wpAny_execs_nil → Ll, weight_type_call_type → Lo, wpAny_noted → LB, stored → LG, wpAny_letGo → LH, entryFor_alias → LL, wpAny_runValue → LP, firstArgMember → LS, wpAny_fieldsOf → LU, spliced → L3, getItem → L4, swappedStores → Mc, rangeSize_one → Md
open PySem.Heap renaming get?_push_of_some → AB, get?_push_size → AO, lt_size → AY, SameBut → B3, size_push → Ct, get?_update_other → CH, get?_update_self → HK
open And renaming intro → AC
open PySem.W renaming Frag → AD, kia_one → DT, findIn → II, stepOk → IX
open List renaming length_map → AE, getElem?_eq_getElem → AF, mem_singleton → AL, getElem?_eq_some_iff → AM, mem_append_right → AN, getElem?_map → AQ, length_append → AV, size_toArray → AX, mem_cons → A1, getD_eq_getElem?_getD → A4, map_append → A6, mem_cons_self → A7, range → Bi, not_mem_nil → BA, mem_of_getElem? → BB, mem_cons_of_mem → BE, length_singleton → BG, Nodup → BN, getElem?_append_right → B8, mem_append → Cf, replicate → CA, map_cons → CB, pairwise_cons → CO, map_congr_left → C4, length_cons → C7, length_take_le → C9, getElem?_eq_none → Dx, mem_map → DD, mem_filter → DF, forIn_cons → DI, toArray → DU, take_of_length_le → D7, mem_append_left → D8, mem_iff_getElem → D9, length_filter_le → EB, take_length → EI, append_nil → EK, getElem?_append_left → E8, lookup_cons → Fa, sum_cons → Fc, length_range → Fk, Perm → FB, contains_iff_mem → FD, mem_map_of_mem → FE, length_take → FF, getElem_mem → FG, filter_eq_nil_iff → FV, pairwise_lt_range → FX, length_drop → F1, drop_eq_getElem_cons → F7, nodup_cons → GN, filter_cons_of_pos → GO, filter_cons_of_neg → GS, getElem?_cons_zero → GU, mem_range → GV, replicate_succ → GY, append_assoc → G0, getElem?_range → Ha, map_map → Hm, getElem?_toArray → HM, any_cons → HV, idxOf_lt_length_of_mem → IE, getElem?_cons_succ → IT, length_eq_zero_iff → IU, pairwise_singleton → KF, find?_cons → KU, length_nil → KW, pairwise_map → K0, length_eraseIdx → Lm, all_eq_true → LD, length_pos_iff → LI, filter_eq_self → LJ, pairwise_append → LO, count_eq_length → LV, mem_of_mem_take → LZ, filter_cons → L0, filterMap_cons → L8, map_eq_nil_iff → L9, filter_append → Me, set_cons_zero → Mm
open Nat renaming le_refl → AU, lt_of_lt_of_le → BS, ne_of_lt → B5, le_trans → CF, lt_succ_self → C8, zero_le → DJ, lt_succ_of_lt → D4, zero_lt_succ → ET, lt_of_sub_pos → EU, lt_irrefl → E4, lt_or_ge → G2, sub_self → IP, add_sub_cancel → IQ, max_eq_right → Lc, le_of_lt → Lu, lt_of_le_of_lt → LM
open Bool renaming false_ne_true → AZ, and_eq_true → CL, false_eq_true → Fm, false_and → FA, and_false → F2, true_and → GB, eq_iff_iff → GG, not_false → LN, not_true → Mk, and_true → Mn
open PyProof.Rows renaming callWith_type1 → A3, arrOf → Cc, pendingOf → CC, wpS_bind → CI, Keyed → CM, wpS_pure → D1, SortSt → D3, IntsAre → Fu, firstMet → FL, pairsOf → FY, seqObj → F9, listItems_at → Hd, wpS_forRange → He, slot_tuple_getitem → Hn, callWith_builtin1 → HI, boot_isinstance → Iy, boot_sorted → JJ, failedOf → KB, AllBare → KG, boot_range → KM, envOfC → KO, setPending → K2, Call_ → LA, wpS_mono → LX, boot_sum → L1
open PySem.Str renaming ofString → A8
open Ne renaming symm → BC
open PySem.SeqAt renaming EqAt → BF
open Option.some renaming inj → BI
open Option renaming map_eq_some_iff → BU
open PySem.Calls renaming spliced_nil → B6, spliced_cons → B9, callWith_builtin → DC, evalArgs_plain → EG
open Int renaming toNat → B7, mul_comm → EM, emod_lt_of_pos → EX, toNat_natCast → Fs, emod_nonneg → F4, le_refl → Iq, add_zero → Kt, eq_ofNat_of_zero_le → KE, mul_assoc → L7
open PySem.PassesOwn renaming never → Cb
open PySem.Obj renaming mapSeq → Ch
open PySem.Data renaming fields → Co, seq → Ev, dict → L6
open Or renaming inl → C3
open Array renaming getElem?_toList → Da, length_toList → EF
open ForInStep renaming yield → Db
open PySem.F renaming plainAttrs_list → D0, slot_zip_next → Ee, slot_tuple_iterator_next → F5, called_set → Go, args_zip_next_1 → Hc, entry_zip_next → HL, args_list_append_2 → HZ, slot_list_reversed → Ic, entry_list_append → IA, slot_list_append → IJ, slot_zip_getattribute → Kx
open Sum renaming inr → ED, inl → IB
open PySem.Code renaming quiet_builtin → FI
open False renaming elim → F0
open True renaming intro → GM
open PySem.Sem renaming onRaise → JE
open PySem.IsL renaming update → JU
open PyProof.Rows.F renaming plain_set_update_loop → KA
open PySem.IsRange renaming new → Lv
open PySem.Meets renaming of_wp → LF
open PySem.Manifest renaming find? → LY
open PySem.Paired renaming length → Mb
open PySem.Value renaming ref → Do,int → DO,type → EQ,bool → GE
open Option renaming some → GT
open Option renaming none → Is
open PySem renaming Addr → ID
namespace L2
open PySem PySem.Spec PyProof.Rows
abbrev Key:=Sum Int Str
def Eo:Key->Ap->Bool
 | .inl k,v=>Ap.isInt k v
 | .inr x,v=>Ap.isStrOf x v
def aeO(w:A9):Key->Int
 | .inl k=>hashInt k
 | .inr x=>hashStr w x
theorem dO:∀{k:Key}{v:Ap},Eo k v=true->(∃i t,k=IB i/\v=DO i t)\/(∃x t,k=ED x/\v=Ap.str x t)
 | .inl i,v,h=>by
  obtain⟨t,e⟩:=Ap.isInt_shape (k:=i) (v:=v) h;exact .inl ⟨i,t,rfl,e⟩
 | .inr x,v,h=>by
  obtain⟨t,e⟩:=Ap.isStrOf_shape (x:=x) (v:=v) h;exact .inr ⟨x,t,rfl,e⟩
theorem R4(i:Int)(t:Tok):Eo (.inl i) (.int i t)=true:=by simp[Eo,Ap.isInt]
theorem R0(x:Str)(t:Tok):Eo (.inr x) (.str x t)=true:=by simp[Eo,Ap.isStrOf]
theorem ac3(a b:Int):decide ((IB a:Key)=IB b)=(a == b):=by
 by_cases e:a=b
 ·subst e;simp
 have h:¬(IB a:Key)=IB b:=λq=>e (IB.inj q);rw[decide_eq_false h];exact(beq_eq_false_iff_ne.mpr e).symm
theorem ac0(a b:Str):decide ((ED a:Key)=ED b)=decide (a=b):=by
 by_cases e:a=b
 ·subst e;simp
 have h:¬(ED a:Key)=ED b:=λq=>e (ED.inj q);rw[decide_eq_false h,decide_eq_false e]
theorem ac2(a:Int)(b:Str):decide ((IB a:Key)=ED b)=false:=decide_eq_false (λq=>nomatch q)
theorem ac1(a:Str)(b:Int):decide ((ED a:Key)=IB b)=false:=decide_eq_false (λq=>nomatch q)
def bI(prog:AR)(w:A9):PySem.KeyKind prog w Key where
 is:=Eo
 hash:=aeO w
 inj:=λv a b ha hb=>by
  rcases dO ha with⟨i,t,rfl,rfl⟩|⟨x,t,rfl,rfl⟩
  ·rcases dO hb with⟨j,u,rfl,e⟩|⟨y,u,rfl,e⟩
   ·injection e with e1 _;rw[e1]
   exact nomatch e
  rcases dO hb with⟨j,u,rfl,e⟩|⟨y,u,rfl,e⟩
  ·exact nomatch e
  injection e with e1 _;rw[e1]
 byValue:=λk v h=>by
  rcases dO h with⟨i,t,rfl,rfl⟩|⟨x,t,rfl,rfl⟩ <;> rfl
 pyHash:=λhv h=>by
  rcases dO hv with⟨i,t,rfl,rfl⟩|⟨x,t,rfl,rfl⟩
  ·exact wpAny_pyHash_int h
  exact wpAny_pyHash_str h
 eqBool:=λhu hv h=>by
  rcases dO hu with⟨i,t,rfl,rfl⟩|⟨x,t,rfl,rfl⟩
  ·rcases dO hv with⟨j,u,rfl,rfl⟩|⟨y,u,rfl,rfl⟩
   ·rw[ac3] at h;exact JO h
   rw[ac2] at h;exact BF.int_str i t y u _ _ _ _ h
  rcases dO hv with⟨j,u,rfl,rfl⟩|⟨y,u,rfl,rfl⟩
  ·rw[ac1] at h;exact BF.str_int x t j u _ _ _ _ h
  rw[ac0] at h;exact wpAny_eqBool_str h
 «strs»:=λk x t v h=>by
  rcases dO h with⟨i,u,rfl,e⟩|⟨y,u,rfl,e⟩
  ·exact nomatch e
  injection e with e1 _;subst e1;cases v <;> rfl
theorem Jt(prog:AR)(w:A9)(i:Int)(t:Tok):(bI prog w).is (.inl i) (.int i t)=true:=R4 i t
theorem Js(prog:AR)(w:A9)(x:Str)(t:Tok):(bI prog w).is (.inr x) (.str x t)=true:=R0 x t
inductive V where
 | non|bl (b:Bool)|int (i:Int)|str (x:Str)|byt (b:Array UInt8)|flt (b:UInt64)|ref (a:ID)|ty (n:String)
 deriving DecidableEq
def RelV:V->Ap->Prop
 | .non,u=>u=Ap.none
 | .bl b,u=>u=GE b
 | .int i,u=>∃t,u=DO i t
 | .str x,u=>∃t,u=Ap.str x t
 | .byt b,u=>∃t,u=Ap.bytes b t
 | .flt b,u=>∃t,u=Ap.float b t
 | .ref a,u=>u=Do a
 | .ty n,u=>u=EQ n
abbrev Vals:List V->List Ap->Prop:=Paired RelV
theorem Vals.length{xs:List V}{us:List Ap}(r:Vals xs us):xs.length=us.length:=Mb r
theorem Vals.get:∀{xs:List V}{us:List Ap}{i:Nat}{x:V},Vals xs us->xs[i]?=GT x->∃u,us[i]?=GT u/\RelV x u
 | _,_,_,_,.nil,e=>by simp at e
 | _,_,0,_,.cons r _,e=>by simp at e;subst e;exact⟨_,rfl,r⟩
 | _,_,i+1,x,.cons _ t,e=>by
  obtain⟨u,h1,h2⟩:=Vals.get (i:=i) (x:=x) t (by simpa using e);exact⟨u,by simpa using h1,h2⟩
theorem Vals.set{x:V}{u:Ap}(r:RelV x u):∀{xs:List V}{us:List Ap}(i:Nat),Vals xs us->Vals (xs.set i x) (us.set i u)
 | _,_,_,.nil=>.nil
 | _,_,0,.cons _ t=>.cons r t
 | _,_,i+1,.cons q t=>.cons q (Vals.set r i t)
theorem Vals.append:∀{xs ys:List V}{us ws:List Ap},Vals xs us->Vals ys ws->Vals (xs++ys) (us++ws)
 | _,_,_,_,.nil,s=>s
 | _,_,_,_,.cons r t,s=>.cons r (Vals.append t s)
theorem Vals.take:∀{xs:List V}{us:List Ap}(n:Nat),Vals xs us->Vals (xs.take n) (us.take n)
 | _,_,0,_=>.nil
 | _,_,_+1,.nil=>.nil
 | _,_,n+1,.cons r t=>.cons r (Vals.take n t)
theorem Vals.drop:∀{xs:List V}{us:List Ap}(n:Nat),Vals xs us->Vals (xs.drop n) (us.drop n)
 | _,_,0,r=>r
 | _,_,_+1,.nil=>.nil
 | _,_,n+1,.cons _ t=>Vals.drop n t
theorem Vals.none_of:∀{xs:List V}{us:List Ap}{i:Nat},Vals xs us->xs[i]?=Is->us[i]?=Is:=λ{xs us i} r e=>by
 have h1:=r.length;have h2:xs.length<=i:=List.getElem?_eq_none_iff.mp e;exact List.getElem?_eq_none_iff.mpr ω
def BW:Option V->Option Ap->Prop
 | some v,GT u=>RelV v u
 | none,Is=>True
 | _,_=>False
def KV{κ:Type}:List (κ×V)->List (κ×Ap)->Prop:=Paired λ(p:κ×V)(q:κ×Ap)=>p.1=q.1/\RelV p.2 q.2
def kV:Key->V
 | .inl i=>.int i
 | .inr x=>.str x
inductive HO where
 | lst (xs:List V)
 | tup (xs:List V)
 | dK (kvs:List (Key×V))|dT (kvs:List (List Key×V))
 | set (S:Int->Bool) (n:Nat)
 | ins (C dx:ID) (fs:List (Str×V))
 | own (x:ID)
 | xd (fs:List (Str×V))
 | met (f x:ID)
 | rng (lo hi:Int)
 | frz (o:Obj) (u:HO)
 | tbl (ps:Array Ap)
 | ext (φ:Heap->Prop)
abbrev Hp:=ID->Option HO
def upd(H:Hp)(a:ID)(o:HO):Hp:=λb=>if b=a then GT o else H b
theorem aA{H:Hp}{a:ID}{o:HO}:upd H a o a=GT o:=by unfold upd;rw[if_pos rfl]
theorem aJ{H:Hp}{a b:ID}{o:HO}(h:b≠a):upd H a o b=H b:=by unfold upd;rw[if_neg h]
theorem YL{H:Hp}{a:ID}{o u:HO}:upd (upd H a o) a u=upd H a u:=by
 funext b;unfold upd;split <;> rfl
theorem Pj{H:Hp}{a b:ID}{o u:HO}(h:H a=GT o)(h':H b=GT u)(d:o≠u):a≠b:=by
 intro e;subst e;rw[h] at h';exact d (BI h')
theorem aF{H:Hp}{a b:ID}{o:HO}(h:H a=GT o)(h':H b=Is):a≠b:=by
 intro e;subst e;rw[h] at h';cases h'
section
variable (P:AR)(w:A9)
def cD(H:Hp)(h:Heap)(a:ID):HO->Prop
 | .lst xs=>xs.length<=AK/\∃(its:List Ap)(n:Nat),Vals xs its/\h.get? a=GT { cls:=.type "list",data:=.seq its.toArray n }
 | .tup xs=>xs.length<=AK/\∃its:List Ap,Vals xs its/\IsTup h a its.toArray
 | .dK kvs=>kvs.length<=AK/\(a == DV)=false/\∃vs,KV kvs vs/\h.DictOf (bI P w) a vs
 | .dT kvs=>kvs.length<=AK/\(a == DV)=false/\∃xs:List (List Key×ID×Ap),
   Paired (λ(p:List Key×V)(q:List Key×ID×Ap)=>p.1=q.1/\H q.2.1=GT (.tup (p.1.map kV))/\RelV p.2 q.2.2) kvs xs /\
   ∃o es ep,h.get? a=GT o/\o.ExactDict/\o.data=.dict es ep/\es.toList=xs.map (entryOfKey (tupleKind (bI P w)))/\(xs.map (·.1)).Nodup
 | .set S n=>h.SetOf (FR P w) a S n
 | .ins C dx fs=>H dx=GT (.own a)/\fs.length<=1000/\dx≠a/\h.get? a=GT (PySem.W.instObj C dx) /\
   ∃mA,h.Ns1 dx mA/\(∀f,BW (fs.lookup f) (mA f))/\PySem.Within mA (fs.map (·.1))
 | .own _=>∃o,h.get? a=GT o
 | .xd fs=>∃mA,h.Ns1 a mA/\∀f,BW (fs.lookup f) (mA f)
 | .rng lo hi=>∃t u v,h.get? a=GT { cls:=.type "range",data:=.fields #[.int lo t,.int hi u,.int 1 v] }
 | .frz o u=>h.get? a=GT o/\cD H h a u
 | .tbl ps=>h.get? a=GT { cls:=.none,data:=.fields ps }
 | .met f x=>h.get? a=GT (PySem.W.methodObj (.ref f) (.ref x))
 | .ext φ=>φ h/\(∃o,h.get? a=GT o)/\∀h1 h2:Heap,φ h1->(∀o,h1.get? a=GT o->h2.get? a=GT o)->φ h2
def HOk(H:Hp)(h:Heap):Prop:=∀a o,H a=GT o->cD P w H h a o
end
section
variable {P:AR}{w:A9}{H H':Hp}{h h':Heap}{a:ID}{o:HO}
theorem cD.lt(x:cD P w H h a o):a<h.objs.size:=by
 cases o with
 | lst xs=>obtain⟨_,_,_,_,e⟩:=x;exact AY e
 | tup xs=>obtain⟨_,_,_,p⟩:=x;exact p.lt
 | dK kvs=>obtain⟨_,_,_,_,o,_,_,e,_⟩:=x;exact AY e
 | dT kvs=>obtain⟨_,_,_,_,o,_,_,e,_⟩:=x;exact AY e
 | set S n=>obtain⟨o,_,_,_,e,_⟩:=x;exact AY e
 | ins C dx fs=>obtain⟨_,_,_,e,_⟩:=x;exact AY e
 | own y=>obtain⟨_,e⟩:=x;exact AY e
 | xd fs=>obtain⟨_,⟨_,_,_,e,_⟩,_⟩:=x;exact AY e
 | rng lo hi=>obtain⟨_,_,_,e⟩:=x;exact AY e
 | frz ob u=>obtain⟨e,_⟩:=x;exact AY e
 | tbl ps=>exact AY (show h.get? a=GT _ from x)
 | met f y=>exact AY (show h.get? a=GT _ from x)
 | ext φ=>obtain⟨_,⟨_,e⟩,_⟩:=x;exact AY e
theorem Paired.acV{α β:Type}{F G:α->β->Prop}:∀{l₁:List α}{l₂:List β},Paired F l₁ l₂->(∀a b,F a b->G a b)->Paired G l₁ l₂
 | _,_,.nil,_=>.nil
 | _,_,.cons r t,f=>.cons (f _ _ r) (Paired.acV t f)
theorem cD.stay(x:cD P w H h a o)(k:∀b u,(b=a\/H b=GT (.own a))->h.get? b=GT u->h'.get? b=GT u)
  (ho:∀b,H b=GT (.own a)->H' b=GT (.own a))(ht:∀b xs,H b=GT (.tup xs)->H' b=GT (.tup xs)):cD P w H' h' a o:=by
 induction o with
 | lst xs=>obtain⟨z,its,n,r,e⟩:=x;exact⟨z,its,n,r,k _ _ (.inl rfl) e⟩
 | tup xs=>obtain⟨z,its,r,ob,e,c⟩:=x;exact⟨z,its,r,ob,k _ _ (.inl rfl) e,c⟩
 | dK kvs=>obtain⟨z,y,vs,r,ob,es,ep,e,c⟩:=x;exact⟨z,y,vs,r,ob,es,ep,k _ _ (.inl rfl) e,c⟩
 | dT kvs=>
  obtain⟨z,y,xs,r,ob,es,ep,e,c⟩:=x;exact⟨z,y,xs,Paired.acV r λp q z=>⟨z.1,ht _ _ z.2.1,z.2.2⟩,ob,es,ep,k _ _ (.inl Z) e,c⟩
 | set S n=>obtain⟨ob,es,ep,t,e,c⟩:=x;exact⟨ob,es,ep,t,k _ _ (.inl rfl) e,c⟩
 | ins C dx fs=>
  obtain⟨d,z,ne,e,mA,⟨od,es,ep,e2,c⟩,r⟩:=x;exact⟨ho _ d,z,ne,k _ _ (.inl Z) e,mA,⟨od,es,ep,k _ _ (.inr d) e2,c⟩,r⟩
 | own y=>obtain⟨ob,e⟩:=x;exact⟨ob,k _ _ (.inl rfl) e⟩
 | xd fs=>obtain⟨mA,⟨od,es,ep,e,c⟩,r⟩:=x;exact⟨mA,⟨od,es,ep,k _ _ (.inl rfl) e,c⟩,r⟩
 | rng lo hi=>obtain⟨t,u,v,e⟩:=x;exact⟨t,u,v,k _ _ (.inl rfl) e⟩
 | frz ob u ih=>obtain⟨e,q⟩:=x;exact⟨k _ _ (.inl rfl) e,ih q⟩
 | tbl ps=>
  have e:h.get? a=GT { cls:=.none,data:=.fields ps }:=x;show h'.get? a=GT { cls:=.none,data:=.fields ps };exact k a _ (.inl Z) e
 | met f y=>
  have e:h.get? a=GT (PySem.W.methodObj (.ref f) (.ref y)):=x;show h'.get? a=GT (PySem.W.methodObj (.ref f) (.ref y));exact k a _ (.inl Z) e
 | ext φ=>obtain⟨p,⟨o,e⟩,st⟩:=x;exact⟨st _ _ p λo q=>k _ _ (.inl rfl) q,⟨o,k _ _ (.inl rfl) e⟩,st⟩
theorem HOk.lt(x:HOk P w H h)(e:H a=GT o):a<h.objs.size:=(x a o e).lt
theorem HOk.fresh(x:HOk P w H h)(e:h.objs.size<=a):H a=Is:=by
 cases q:H a with
 | none=>rfl
 | some u=>exact absurd (BS (x.lt q) e) (E4 _)
theorem HOk.kept(x:HOk P w H h)(k:∀b u,h.get? b=GT u->h'.get? b=GT u):HOk P w H h':=λa o e=>
 (x a o e).stay (λb u _ q=>k b u q) (λ_ q=>q) λ_ _ q=>q
theorem HOk.laid(x:HOk P w H h)(k:∀b u,h.get? b=GT u->h'.get? b=GT u)(hp:h.objs.size<=a)(new:cD P w (upd H a o) h' a o):HOk P w (upd H a o) h':=λb u e=>by
 have hn:=x.fresh hp;by_cases hb:b=a
 ·subst hb;rw[aA] at e;cases e;exact new
 rw[aJ hb] at e;exact(x b u e).stay (λc v _ q=>k c v q) (λc q=>by rw[aJ (aF q hn)];exact q) λc xs q=>by rw[aJ (aF q hn)];exact q
end
def Rd(H:Hp)(a:ID)(u:HO):Prop:=H a=GT u\/∃o,H a=GT (.frz o u)
theorem Rd.ok{P:AR}{w:A9}{H:Hp}{h:Heap}{a:ID}{u:HO}(r:Rd H a u)(x:HOk P w H h):cD P w H h a u:=by
 rcases r with r|⟨o,r⟩
 ·exact x a u r
 obtain⟨_,q⟩:=x a _ r;exact q
def Mut:Option HO->Prop
 | some (.lst _)=>True
 | some (.dK _)=>True
 | some (.dT _)=>True
 | some (.set _ _)=>True
 | some (.ins _ _ _)=>True
 | some (.ext _)=>True
 | _=>False
section
variable {P:AR}{w:A9}{H:Hp}{h h':Heap}{x e:ID}{o':HO}
theorem HOk.write(ok:HOk P w H h)(mu:Mut (H x))(he:e=x\/H e=GT (.own x))(k:∀b u,b≠e->h.get? b=GT u->h'.get? b=GT u)(heo:∃u,h'.get? e=GT u)
  (new:cD P w (upd H x o') h' x o'):HOk P w (upd H x o') h':=λb u q=>by
 have nown:∀c y,H c=GT (.own y)->c≠x:=λc y r z=>by subst z;rw[r] at mu;exact mu
 have ntup:∀c xs,H c=GT (.tup xs)->c≠x:=λc xs r z=>by subst z;rw[r] at mu;exact mu
 by_cases hb:b=x
 ·subst hb;rw[aA] at q;cases q;exact new
 rw[aJ hb] at q;by_cases hbe:b=e
 ·have q':H b=GT (.own x):=by
   rcases he with z|z
   ·exact absurd (hbe.trans z) hb
   rw[hbe];exact z
  rw[q] at q';cases q';obtain⟨v,hv⟩:=heo;exact⟨v,by rw[hbe];exact hv⟩
 refine(ok b u q).stay (λc v hc r=>k c v ?_ r) (λc r=>by rw[aJ (nown c b r)];exact r) λc xs r=>by rw[aJ (ntup c xs r)];exact r
 rcases hc with rfl|hc
 ·exact hbe
 rintro rfl;rcases he with z|z
 ·exact nown c b hc z
 rw[hc] at z;cases z;exact hb rfl
end
structure Un(fs ex:List ID)(H H':Hp)(h h':Heap):Prop where
 keep:∀b o,h.get? b=GT o->H b=Is->b∉fs->b∉ex->h'.get? b=GT o
 slot:∀b o,h.get? b=GT o->H b=Is->b∈fs->b∉ex->∃sl,h'.get? b=GT { o with slots:=sl }
 free:∀b o,h.get? b=GT o->H b=Is->b∉ex->H' b=Is
 there:∀b o,h.get? b=GT o->b∉ex->∃o',h'.get? b=GT o'
 tups:∀b xs,H b=GT (.tup xs)->H' b=GT (.tup xs)
 frzs:∀b o u,H b=GT (.frz o u)->H' b=GT (.frz o u)
 tbls:∀b ps,H b=GT (.tbl ps)->∃more,H' b=GT (.tbl (ps++more))
section
variable {fs fs' ex ex':List ID}{H H1 H2:Hp}{h h1 h2 h':Heap}{a x e:ID}{o:HO}
theorem Un.any(u:Un fs ex H H1 h h1){b:ID}{ob:Obj}(q:h.get? b=GT ob)(n:H b=Is)(hx:b∉ex):∃sl,h1.get? b=GT { ob with slots:=sl }:=by
 by_cases hb:b∈fs
 ·exact u.slot b ob q n hb hx
 exact⟨ob.slots,u.keep b ob q n hb hx⟩
theorem Un.kept(k:∀b u,h.get? b=GT u->h'.get? b=GT u):Un fs ex H H h h':=
 ⟨λb ob q _ _ _=>k b ob q,λb ob q _ _ _=>⟨ob.slots,k b ob q⟩,λ_ _ _ n _=>n,λb ob q _=>⟨ob,k b ob q⟩,λ_ _ q=>q,λ_ _ _ q=>q,λ_ ps q=>⟨#[],by rw[q];simp⟩⟩
theorem Un.refl:Un fs ex H H h h:=Un.kept λ_ _ q=>q
theorem Un.laid(k:∀b u,h.get? b=GT u->h'.get? b=GT u)(hp:h.objs.size<=a)(hn:H a=Is):Un fs ex H (upd H a o) h h' where
 keep:=λb u q _ _ _=>k b u q
 slot:=λb u q _ _ _=>⟨u.slots,k b u q⟩
 free:=λb u q n _=>by rw[aJ (B5 (BS (AY q) hp))];exact n
 there:=λb u q _=>⟨u,k b u q⟩
 tups:=λb xs q=>by rw[aJ (aF q hn)];exact q
 frzs:=λb u xs q=>by rw[aJ (aF q hn)];exact q
 tbls:=λb ps q=>⟨#[],by rw[aJ (aF q hn),q];simp⟩
theorem Un.write(mu:Mut (H x))(he:e=x\/H e=GT (.own x))(k:∀b u,b≠e->h.get? b=GT u->h'.get? b=GT u)(heo:∃u,h'.get? e=GT u):Un fs ex H (upd H x o) h h':=by
 have hx:∀b,H b=Is->b≠x:=λb n z=>by subst z;rw[n] at mu;exact mu
 have hb:∀b,H b=Is->b≠e:=λb n z=>by
  subst z;rcases he with r|r
  ·exact hx b n r
  rw[n] at r;cases r
 have hm:∀b u,H b=GT u->¬Mut (GT u)->b≠x:=λb u q nm z=>by subst z;rw[q] at mu;exact nm mu
 refine⟨λb u q n _ _=>k b u (hb b n) q,λb u q n _ _=>⟨u.slots,k b u (hb b n) q⟩,λb u q n _=>by rw[aJ (hx b n)];exact n,λb u q _=>?_,
  λb xs q=>by rw[aJ (hm b _ q λz=>z)];exact q,λb u xs q=>by rw[aJ (hm b _ q λz=>z)];exact q,λb ps q=>⟨#[],by rw[aJ (hm b _ q λz=>z),q];simp⟩⟩
 by_cases hbe:b=e
 ·subst hbe;exact heo
 exact⟨u,k b u hbe q⟩
end
def trk(h:Heap)(H:Hp):List ID:=(Bi h.objs.size).filter λa=>(H a).isSome
def GP(h:Heap)(H:Hp):Heap:=PySem.W.hideAll h (trk h H)
theorem Sh(h:Heap)(H:Hp):(GP h H).objs.size=h.objs.size:=PySem.W.hideAll_size _ _
theorem Xv{h:Heap}{H:Hp}{b:ID}{o:Obj}(e:h.get? b=GT o)(n:H b=Is):(GP h H).get? b=GT o:=
 PySem.W.hideAll_get _ e λhm=>by
  have q:(H b).isSome=true:=(DF.mp hm).2;rw[n] at q;simp at q
theorem aaG{h:Heap}{H:Hp}{b:ID}{o:Obj}(e:(GP h H).get? b=GT o):h.get? b=GT o/\H b=Is:=by
 have e':h.get? b=GT o:=PySem.W.of_hideAll (trk h H) e;refine⟨e',?_⟩;cases q:H b with
 | none=>rfl
 | some x=>
  have hm:b∈trk h H:=DF.mpr ⟨GV.mpr (AY e'),by simp[q]⟩;have z:(GP h H).get? b=Is:=PySem.W.hideAll_none (trk h H) hm;rw[z] at e;cases e
structure Mod(K:AD)(mg:Str->Option Ap)(base:Heap):Prop where
 kin:K.In base
 glob:base.Ns CD mg
 blt:∃mb,base.Ns builtinsNs mb/\∀x:Str,x ≠ "__name__" -> mb x=EE x
 nolimit:base.NoLimit
structure Cx where
 prog:AR
 w:A9
 K:AD
 mg:Str->Option Ap
 base:Heap
 A:A5
 N:List Str
 s₀:AA
 H₀:Hp
 env:Env
 outer:List Env
 stack:List Env
 ex:List ID
 fn:Str->Bool
 calm:Bool
 pn:List (ID×Obj)
 xe:Ap->AA->Prop
def frs(l:List Env):List ID:=l.filterMap (·.frame)
abbrev Cx.fs(X:Cx):List ID:=frs X.outer
def Vis(sc:E5)(x:Str):Prop:=sc.names.lookup x=GT .local\/sc.names.lookup x=GT .cell\/sc.names.lookup x=GT .free
def Loc(sc:E5)(x:Str):Prop:=sc.names.lookup x=GT .local\/sc.names.lookup x=GT .cell
def Look(env:Env)(h:Heap)(m:Str->Option Ap)(x:Str)(u:Ap):Prop:=
 (env.kindOf x=GT .local/\m x=GT u)\/((env.kindOf x=GT .cell\/env.kindOf x=GT .free)/\∃c,env.cells.lookup x=GT c/\h.IsCell c (GT u))
structure Cx.Ok(X:Cx):Prop where
 mod:Mod X.K X.mg X.base
 kind:X.env.scope.kind=.function
 glob:X.env.globals=CD
 blt:X.env.builtins=builtinsNs
 above:X.s₀.heap.objs.size<=X.env.locals
 inj:∀x y c,X.env.cells.lookup x=GT c->X.env.cells.lookup y=GT c->x=y
 has:∀x,(X.env.kindOf x=GT .cell\/X.env.kindOf x=GT .free)->∃c,X.env.cells.lookup x=GT c
 cab:∀x c,X.fn x=true->X.env.cells.lookup x=GT c->X.s₀.heap.objs.size<=c
 hd:X.calm=true->X.A.handled=Is
 frames:X.A.frames=GT X.stack
 stk:X.stack=X.outer\/(X.stack=X.env::X.outer/\X.env.frame=GT X.env.locals)
 exf:∀b∈X.ex,b≠X.env.locals/\∀x c,X.env.cells.lookup x=GT c->c≠b
 bs:∀b o,X.base.get? b=GT o->X.s₀.heap.get? b=GT o/\X.H₀ b=Is
 bsz:X.base.objs.size<=X.s₀.heap.objs.size
 noex:∀b o,X.base.get? b=GT o->b∉X.ex
 exfs:∀b∈X.ex,b∉X.fs
 yH:X.s₀.heap.FunFrames X.base X.outer
 frf:∀b∈X.fs,X.H₀ b=Is
structure Inv(X:Cx)(pins:List (ID×Obj))(σ:List (Option V))(H:Hp)(s:AA):Prop where
 ok:X.Ok
 os:s.os=X.s₀.os
 bare:KG s.gens
 base:Un X.fs X.ex X.H₀ H X.s₀.heap s.heap
 loc:∃m,s.heap.Ns X.env.locals m/\∀(i:Nat)(x:Str)(v:V),X.N[i]?=GT x->σ[i]?=GT (GT v)->Vis X.env.scope x->∃u,RelV v u/\Look X.env s.heap m x u
 cell:∀x c,X.env.cells.lookup x=GT c->∃v,s.heap.IsCell c v
 free:H X.env.locals=Is
 freeC:∀x c,X.env.cells.lookup x=GT c->H c=Is
 pin:∀p∈X.pn++pins,s.heap.get? p.1=GT p.2/\H p.1=Is/\p.1≠X.env.locals/\p.1∉X.fs/\∀v,p.2.data≠.cell v
 hok:HOk X.prog X.w H s.heap
 len:σ.length=X.N.length
section
variable {X:Cx}{pins:List (ID×Obj)}{σ:List (Option V)}{H H':Hp}{s:AA}{h':Heap}
theorem Cx.Ok.aeM(ok:X.Ok){b:ID}{o:Obj}(e:X.base.get? b=GT o):b∉X.fs:=λhb=>by
 have:=(ok.yH.mem hb).1;rw[e] at this;cases this
theorem Inv.bs(I:Inv X pins σ H s):∀b o,X.base.get? b=GT o->s.heap.get? b=GT o/\H b=Is:=λb o e=>
 ⟨I.base.keep b o (I.ok.bs b o e).1 (I.ok.bs b o e).2 (I.ok.aeM e) (I.ok.noex b o e),I.base.free b o (I.ok.bs b o e).1 (I.ok.bs b o e).2 (I.ok.noex b o e)⟩
theorem Inv.bk(I:Inv X pins σ H s):∀b o,X.base.get? b=GT o->s.heap.get? b=GT o:=λb o e=>(I.bs b o e).1
theorem Inv.mod(I:Inv X pins σ H s):Mod X.K X.mg X.base:=I.ok.mod
theorem Inv.kIn(I:Inv X pins σ H s):X.K.In s.heap:=I.ok.mod.kin.keeps I.bk
theorem Inv.lt(I:Inv X pins σ H s):X.env.locals<s.heap.objs.size:=let ⟨_,hn,_⟩:=I.loc;hn.lt
theorem Inv.sz(I:Inv X pins σ H s):X.s₀.heap.objs.size<=s.heap.objs.size:=CF I.ok.above (Lu I.lt)
theorem Inv.RP(I:Inv X pins σ H s){a:ID}(h:s.heap.objs.size<=a):a∉X.fs:=λhb=>by
 obtain⟨_,o,ho,_⟩:=I.ok.yH.mem hb;exact absurd (BS (AY ho) (CF I.sz h)) (E4 _)
theorem Inv.cne(I:Inv X pins σ H s):∀x c,X.env.cells.lookup x=GT c->c≠X.env.locals:=λx c e z=>by
 obtain⟨v,o,ho,hd⟩:=I.cell x c e;obtain⟨m,⟨o',es,ep,ho',hd',_⟩,_⟩:=I.loc;rw[z,ho'] at ho;cases ho;rw[hd'] at hd;cases hd
theorem Inv.yH(I:Inv X pins σ H s):s.heap.FunFrames X.base X.outer:=by
 have all:∀(l:List Env),(∀b∈frs l,b∈X.fs)->X.s₀.heap.FunFrames X.base l->s.heap.FunFrames X.base l:=by
  intro l
  induction l with
  | nil=>intro _ _;trivial
  | cons env r ih=>
   intro hs hl;obtain⟨hk,⟨L,o,hf,hn,ho,hd⟩,hr⟩:=hl;have hL:L∈X.fs:=hs L (by unfold frs;rw[L8,hf];exact A7);obtain⟨sl,e⟩:=I.base.slot L o ho (I.ok.frf L hL) hL λz=>I.ok.exfs L z hL;exact⟨hk,⟨L,_,hf,hn,e,hd⟩,ih (λb hb=>hs b (by unfold frs;rw[L8,hf];exact BE _ hb)) hr⟩
 exact all X.outer (λ_ hb=>hb) I.ok.yH
theorem Inv.stack(I:Inv X pins σ H s):s.heap.FunFrames X.base X.stack:=by
 rcases I.ok.stk with e|⟨e,hf⟩
 ·rw[e];exact I.yH
 rw[e];obtain⟨m,hn,_⟩:=I.loc;refine .cons (by rw[I.ok.kind];decide) hf hn ?_ I.yH;exact Heap.get?_none_of_le (CF I.ok.bsz I.ok.above)
theorem Inv.pO(I:Inv X pins σ H s):∀b∈frs X.stack,b∈X.env.locals::X.fs:=λb hb=>by
 rcases I.ok.stk with e|⟨e,hf⟩
 ·rw[e] at hb;exact BE _ hb
 rw[e] at hb;unfold frs at hb;rw[L8,hf] at hb;exact hb
theorem Inv.Oe(I:Inv X pins σ H s):∀b∈frs X.stack,H b=Is:=λb hb=>by
 rcases A1.mp (I.pO b hb) with e|hb
 ·rw[e];exact I.free
 obtain⟨_,o,ho,_⟩:=I.ok.yH.mem hb;exact I.base.free b o ho (I.ok.frf b hb) λz=>I.ok.exfs b z hb
theorem Inv.step{g':Array GenState}{t':Nat}{d':Drawn}{ch:List ID}(I:Inv X pins σ H s)
  (hch:∀b∈ch,(b∈X.ex\/X.s₀.heap.objs.size<=b)/\b≠X.env.locals/\(∀x c,X.env.cells.lookup x=GT c->c≠b)/\∀p∈X.pn++pins,p.1≠b)
  (keep:∀b o,b≠X.env.locals->b∉X.fs->b∉ch->s.heap.get? b=GT o->H b=Is->h'.get? b=GT o)
  (slot:∀b o,b≠X.env.locals->b∈X.fs->b∉ch->s.heap.get? b=GT o->H b=Is->∃sl,h'.get? b=GT { o with slots:=sl })(free:∀b o,b∉ch->s.heap.get? b=GT o->H b=Is->H' b=Is)
  (there:∀b o,b∉ch->s.heap.get? b=GT o->∃o',h'.get? b=GT o')
  (tups:∀b xs,H b=GT (.tup xs)->H' b=GT (.tup xs))(frzs:∀b o u,H b=GT (.frz o u)->H' b=GT (.frz o u))(tbls:∀b ps,H b=GT (.tbl ps)->∃more,H' b=GT (.tbl (ps++more)))
  (ns:∀m,s.heap.Ns X.env.locals m->h'.Ns X.env.locals m)(hok:HOk X.prog X.w H' h')(hg:KG g') :
  Inv X pins σ H' { s with heap:=h',gens:=g',drawn:=d',toks:=t' }:=by
 have neL:∀b o,X.s₀.heap.get? b=GT o->b≠X.env.locals:=λb o e=>B5 (BS (AY e) I.ok.above);have neC:∀b o,X.s₀.heap.get? b=GT o->b∉X.ex->b∉ch:=λb o e hx hb=>by
  rcases(hch b hb).1 with z|z
  ·exact hx z
  exact absurd (BS (AY e) z) (E4 _)
 have cellK:∀x c,X.env.cells.lookup x=GT c->∀v,s.heap.IsCell c v->h'.IsCell c v:=λx c e v ⟨o,ho,hd⟩=>by
  have nch:c∉ch:=λz=>(hch c z).2.2.1 x c e rfl;by_cases hc:c∈X.fs
  ·obtain⟨sl,q⟩:=slot c o (I.cne x c e) hc nch ho (I.freeC x c e);exact⟨_,q,hd⟩
  exact⟨o,keep c o (I.cne x c e) hc nch ho (I.freeC x c e),hd⟩
 refine⟨I.ok,I.os,hg,⟨λb o e n hb hx=>?_,λb o e n hb hx=>?_,λb o e n hx=>?_,λb o e hx=>?_,λb xs e=>tups b xs (I.base.tups b xs e),λb o xs e=>frzs b o xs (I.base.frzs b o xs e),λb ps e=>?_⟩,?_,λx c e=>?_,?_,λx c e=>?_,λp hp=>?_,hok,I.len⟩
 ·exact keep b o (neL b o e) hb (neC b o e hx) (I.base.keep b o e n hb hx) (I.base.free b o e n hx)
 ·obtain⟨sl,e1⟩:=I.base.slot b o e n hb hx;obtain⟨sl',e2⟩:=slot b _ (neL b o e) hb (neC b o e hx) e1 (I.base.free b o e n hx);exact⟨sl',e2⟩
 ·obtain⟨o',e1⟩:=I.base.there b o e hx;exact free b o' (neC b o e hx) e1 (I.base.free b o e n hx)
 ·obtain⟨o',e1⟩:=I.base.there b o e hx;exact there b o' (neC b o e hx) e1
 ·obtain⟨m1,e1⟩:=I.base.tbls b ps e;obtain⟨m2,e2⟩:=tbls b _ e1;exact⟨m1++m2,by rw[e2,Array.append_assoc]⟩
 ·obtain⟨m,hn,hl⟩:=I.loc;refine⟨m,ns m hn,λi x v e1 e2 e3=>?_⟩;obtain⟨u,r,l⟩:=hl i x v e1 e2 e3;refine⟨u,r,?_⟩;rcases l with l|⟨k,c,e,z⟩
  ·exact .inl l
  exact .inr ⟨k,c,e,cellK x c e _ z⟩
 ·obtain⟨v,z⟩:=I.cell x c e;exact⟨v,cellK x c e v z⟩
 ·obtain⟨m,⟨o,_,_,ho,_⟩,_⟩:=I.loc;exact free _ o (λz=>(hch _ z).2.1 Z) ho I.free
 ·obtain⟨v,o,ho,hd⟩:=I.cell x c e;exact free c o (λz=>(hch c z).2.2.1 x c e Z) ho (I.freeC x c e)
 obtain⟨e,n,ne,nf,d⟩:=I.pin p hp;have nch:p.1∉ch:=λz=>(hch p.1 z).2.2.2 p hp rfl;exact⟨keep p.1 p.2 ne nf nch e n,free p.1 p.2 nch e n,ne,nf,d⟩
theorem Inv.un{t':Nat}(I:Inv X pins σ H s)(u:Un X.fs [] H H' s.heap h')(hok:HOk X.prog X.w H' h'):Inv X pins σ H' { s with heap:=h',toks:=t' }:=by
 obtain⟨m,⟨o,es,ep,ho,r⟩,_⟩:=id I.loc;obtain⟨sl,hL⟩:=u.any ho I.free ζ;exact I.step (g':=s.gens) (d':=s.drawn) (ch:=[]) (λ_ z=>nomatch z) (λb o _ hb _ e n=>u.keep b o e n hb ζ) (λb o _ hb _ e n=>u.slot b o e n hb ζ) (λb o _ e n=>u.free b o e n ζ) (λb o _ e=>u.there b o e ζ) u.tups u.frzs u.tbls (λm' hm=>by
  obtain⟨o',es',ep',ho',r'⟩:=hm;rw[ho] at ho';cases ho';exact⟨_,es',ep',hL,r'⟩) hok I.bare
theorem Inv.call{g':Array GenState}{t':Nat}{d':Drawn}{ch:List ID}(I:Inv X pins σ H s)(u:Un (frs X.stack) ch H H' s.heap h')(hok:HOk X.prog X.w H' h')(hg:KG g')
  (hch:∀b∈ch,(b∈X.ex\/X.s₀.heap.objs.size<=b)/\b≠X.env.locals/\(∀x c,X.env.cells.lookup x=GT c->c≠b)/\∀p∈X.pn++pins,p.1≠b) :
  Inv X pins σ H' { s with heap:=h',gens:=g',drawn:=d',toks:=t' }:=by
 obtain⟨m,⟨o,es,ep,ho,r⟩,_⟩:=id I.loc;obtain⟨sl,hL⟩:=u.any ho I.free λz=>(hch _ z).2.1 rfl;exact I.step (ch:=ch) hch (λb o hL hb hc e n=>u.keep b o e n (λz=>(A1.mp (I.pO b z)).elim hL hb) hc) (λb o _ _ hc e n=>u.any e n hc) (λb o hc e n=>u.free b o e n hc) (λb o hc e=>u.there b o e hc) u.tups u.frzs u.tbls (λm' hm=>by
  obtain⟨o',es',ep',ho',r'⟩:=hm;rw[ho] at ho';cases ho';exact⟨_,es',ep',hL,r'⟩) hok hg
theorem Inv.turned{t':Nat}{it:ID}(I:Inv X pins σ H s)(k:∀b o,b≠it->s.heap.get? b=GT o->h'.get? b=GT o)(hn:H it=Is)(hL:it≠X.env.locals)
  (h1:it∈X.ex\/X.s₀.heap.objs.size<=it)(h2:∀x c,X.env.cells.lookup x=GT c->c≠it)(h3:∀p∈X.pn++pins,p.1≠it):Inv X pins σ H { s with heap:=h',toks:=t' }:=by
 have nit:∀b u,H b=GT u->b≠it:=λb u e z=>by rw[z,hn] at e;cases e
 refine I.step (g':=s.gens) (d':=s.drawn) (ch:=[it]) (λb hb=>?_) (λb o _ _ hc e _=>k b o (λz=>hc (by simp[z])) e) (λb o _ _ hc e _=>⟨o.slots,k b o (λz=>hc (by simp[z])) e⟩) (λ_ _ _ _ n=>n)
  (λb o hc e=>⟨o,k b o (λz=>hc (by simp[z])) e⟩) (λ_ _ e=>e) (λ_ _ _ e=>e) (λb ps e=>⟨#[],by rw[e];simp⟩) (λm hm=>?_) (λb u e=>?_) I.bare
 ·have e:b=it:=by simpa using hb
  subst e;exact⟨h1,hL,h2,h3⟩
 ·obtain⟨o,es,ep,ho,r⟩:=hm;exact⟨o,es,ep,k _ o (BC hL) ho,r⟩
 refine(I.hok b u e).stay (λc v hc q=>k c v ?_ q) (λ_ q=>q) λ_ _ q=>q;rcases hc with z|z
 ·rw[z];exact nit b u e
 exact nit c _ z
theorem Inv.tok(I:Inv X pins σ H s)(t:Nat):Inv X pins σ H { s with toks:=t }:=I.un (h':=s.heap) (t':=t) Un.refl I.hok
theorem Inv.kept{t':Nat}(I:Inv X pins σ H s)(k:∀b u,s.heap.get? b=GT u->h'.get? b=GT u):Inv X pins σ H { s with heap:=h',toks:=t' }:=I.un (Un.kept k) (I.hok.kept k)
theorem Inv.laid{a:ID}{o:HO}{t':Nat}(I:Inv X pins σ H s)(k:∀b u,s.heap.get? b=GT u->h'.get? b=GT u)(hp:s.heap.objs.size<=a)(new:cD X.prog X.w (upd H a o) h' a o) :
  Inv X pins σ (upd H a o) { s with heap:=h',toks:=t' }:=I.un (Un.laid k hp (I.hok.fresh hp)) (I.hok.laid k hp new)
theorem Inv.write{x e:ID}{o:HO}{t':Nat}(I:Inv X pins σ H s)(mu:Mut (H x))(he:e=x\/H e=GT (.own x))(k:∀b u,b≠e->s.heap.get? b=GT u->h'.get? b=GT u)(heo:∃u,h'.get? e=GT u)
  (new:cD X.prog X.w (upd H x o) h' x o):Inv X pins σ (upd H x o) { s with heap:=h',toks:=t' }:=I.un (Un.write mu he k heo) (I.hok.write mu he k heo new)
theorem Inv.ig{pins':List (ID×Obj)}(I:Inv X pins σ H s)(h:∀p∈pins',s.heap.get? p.1=GT p.2/\H p.1=Is/\p.1≠X.env.locals/\p.1∉X.fs/\∀v,p.2.data≠.cell v):Inv X pins' σ H s:=
 ⟨I.ok,I.os,I.bare,I.base,I.loc,I.cell,I.free,I.freeC,λp hp=>(Cf.mp hp).elim (λz=>I.pin p (D8 _ z)) (h p),I.hok,I.len⟩
theorem Jd{N:List Str}(hN:N.Nodup){i j:Nat}{x:Str}(a:N[i]?=GT x)(b:N[j]?=GT x):i=j:=by
 obtain⟨h1,e1⟩:=AM.mp a;obtain⟨h2,e2⟩:=AM.mp b;exact(List.getElem_inj hN).mp (e1.trans e2.symm)
theorem vR{M:Model}{A:A5}{E:Ap->AA->Prop}{i:Nat}{x:Str}{v:V}{u:Ap}{Q:Unit->AA->Prop}(I:Inv X pins σ H s)(hN:X.N.Nodup)(hi:X.N[i]?=GT x)(hx:Loc X.env.scope x)(r:RelV v u)
  (h:∀s',Inv X pins (σ.set i (GT v)) H s'->(∃a,B3 a s.heap s'.heap/\(a=X.env.locals\/X.env.cells.lookup x=GT a))->Q () s')(hf:X.fn x=true\/X.env.scope.names.lookup x=GT .local:=by first|exact .inl rfl|exact .inr rfl|assumption):AG M A (storeName X.env x u) Q E s:=by
 obtain⟨m,hn,hl⟩:=id I.loc;have hcls:(X.env.scope.kind == .class||(X.env.scope.kind == .module&&X.env.locals != X.env.globals))=false:=by rw[I.ok.kind];rfl
 have hiσ:i<σ.length:=by rw[I.len];exact(AM.mp hi).1
 have cne:=I.cne;have tracked:∀{a:ID}{h':Heap},(∃o,s.heap.get? a=GT o/\H a=Is)->B3 a s.heap h'->HOk X.prog X.w H h':=λ{a h'} ha hs b ob e=>by
  obtain⟨_,_,hfree⟩:=ha;refine(I.hok b ob e).stay (λc w' hc q=>(hs.2 c ?_).trans q) (λ_ q=>q) λ_ _ q=>q;rintro rfl;rcases hc with rfl|hc
  ·rw[hfree] at e;cases e
  rw[hfree] at hc;cases hc
 rcases hx with hk|hk
 ·refine wpAny_storeName_local hk hn (λh' hn' hs=>?_) hcls;obtain⟨oL,_,_,hoL,_⟩:=id hn;refine h _ ⟨I.ok,I.os,I.bare,⟨λb o e n hb hx=>?_,λb o e n hb hx=>?_,I.base.free,λb o e hx=>?_,I.base.tups,I.base.frzs,I.base.tbls⟩,⟨_,hn',λj y v' e1 e2 e3=>?_⟩,λy c e=>?_,I.free,I.freeC,λp hp=>?_,tracked ⟨oL,hoL,I.free⟩ hs,by simpa using I.len⟩ ⟨_,hs,.inl rfl⟩
  ·exact(hs.2 b (B5 (BS (AY e) I.ok.above))).trans (I.base.keep b o e n hb hx)
  ·obtain⟨sl,e1⟩:=I.base.slot b o e n hb hx;exact⟨sl,(hs.2 b (B5 (BS (AY e) I.ok.above))).trans e1⟩
  ·obtain⟨o',e1⟩:=I.base.there b o e hx;exact⟨o',(hs.2 b (B5 (BS (AY e) I.ok.above))).trans e1⟩
  ·by_cases hj:j=i
   ·subst hj;rw[hi] at e1;cases e1;rw[List.getElem?_set_self hiσ] at e2;cases e2;exact⟨u,r,.inl ⟨hk,by simp⟩⟩
   rw[List.getElem?_set_ne (BC hj)] at e2;obtain⟨u',r',q⟩:=hl j y v' e1 e2 e3;refine⟨u',r',?_⟩;rcases q with⟨k,e⟩|⟨k,c,e,z⟩
   ·refine .inl ⟨k,?_⟩;have:y≠x:=λe=>hj (Jd hN e1 (e ▸ hi));simp[this,e]
   exact .inr ⟨k,c,e,z.sameBut hs (cne y c e)⟩
  ·obtain⟨w',z⟩:=I.cell y c e;exact⟨w',z.sameBut hs (cne y c e)⟩
  obtain⟨e,n,ne,nf,d⟩:=I.pin p hp;exact⟨(hs.2 p.1 ne).trans e,n,ne,nf,d⟩
 have hfn:X.fn x=true:=by
  rcases hf with z|z
  ·exact z
  rw[z] at hk;cases hk
 obtain⟨c,hc⟩:=I.ok.has x (.inl hk);obtain⟨w',z⟩:=I.cell x c hc;refine wpAny_storeName_cell I.ok.kind hk hc z (λh' hc' hs=>?_);obtain⟨oc,hoc,hocd⟩:=id z;refine h { s with heap:=h' } ⟨I.ok,I.os,I.bare,⟨λb o e n hb hx=>?_,λb o e n hb hx=>?_,I.base.free,λb o e hx=>?_,I.base.tups,I.base.frzs,I.base.tbls⟩,⟨m,hn.sameBut hs (BC (cne x c hc)),λj y v' e1 e2 e3=>?_⟩,λy c' e=>?_,I.free,I.freeC,λp hp=>?_,tracked ⟨oc,hoc,I.freeC x c hc⟩ hs,by simpa using I.len⟩ ⟨c,hs,.inr hc⟩
 ·exact(hs.2 b (B5 (BS (AY e) (I.ok.cab x c hfn hc)))).trans (I.base.keep b o e n hb hx)
 ·obtain⟨sl,e1⟩:=I.base.slot b o e n hb hx;exact⟨sl,(hs.2 b (B5 (BS (AY e) (I.ok.cab x c hfn hc)))).trans e1⟩
 ·obtain⟨o',e1⟩:=I.base.there b o e hx;exact⟨o',(hs.2 b (B5 (BS (AY e) (I.ok.cab x c hfn hc)))).trans e1⟩
 ·by_cases hj:j=i
  ·subst hj;rw[hi] at e1;cases e1;rw[List.getElem?_set_self hiσ] at e2;cases e2;exact⟨u,r,.inr ⟨.inl hk,c,hc,hc'⟩⟩
  rw[List.getElem?_set_ne (BC hj)] at e2;obtain⟨u',r',q⟩:=hl j y v' e1 e2 e3;refine⟨u',r',?_⟩;rcases q with q|⟨k,c',e,z'⟩
  ·exact .inl q
  refine .inr ⟨k,c',e,z'.sameBut hs ?_⟩;rintro rfl;exact hj (Jd hN e1 (I.ok.inj _ _ _ e hc ▸ hi))
 ·by_cases hcc:c'=c
  ·subst hcc;exact⟨_,hc'⟩
  obtain⟨w2,z2⟩:=I.cell y c' e;exact⟨w2,z2.sameBut hs hcc⟩
 obtain⟨e,n,ne,nf,d⟩:=I.pin p hp;refine⟨(hs.2 p.1 ?_).trans e,n,ne,nf,d⟩;intro q;rw[q,hoc] at e;have q':oc=p.2:=BI e;exact d w' (by rw[<- q'];exact hocd)
theorem pN{M:Model}{A:A5}{E:Ap->AA->Prop}{i:Nat}{x:Str}{v:V}{u:Ap}{Q:Unit->AA->Prop}(I:Inv X pins σ H s)(hN:X.N.Nodup)(hi:X.N[i]?=GT x)(hx:Loc X.env.scope x)(r:RelV v u)
  (h:∀s',Inv X pins (σ.set i (GT v)) H s'->Q () s')(hf:X.fn x=true\/X.env.scope.names.lookup x=GT .local:=by first|exact .inl rfl|exact .inr rfl|assumption):AG M A (storeName X.env x u) Q E s:=
 vR I hN hi hx r (λs' I' _=>h s' I') hf
theorem Inv.call'{s':AA}{ch:List ID}(I:Inv X pins σ H s)(ho:s'.os=s.os)(u:Un (frs X.stack) ch H H' s.heap s'.heap)(hok:HOk X.prog X.w H' s'.heap)(hg:KG s'.gens)
  (hch:∀b∈ch,(b∈X.ex\/X.s₀.heap.objs.size<=b)/\b≠X.env.locals/\(∀x c,X.env.cells.lookup x=GT c->c≠b)/\∀p∈X.pn++pins,p.1≠b):Inv X pins σ H' s':=by
 obtain⟨h',g',d',t',o'⟩:=s';have e:o'=s.os:=ho;subst e;exact I.call (g':=g') (t':=t') (d':=d') u hok hg hch
end
abbrev XK:=Ap->Option ID->Hp->Prop
abbrev St:=List (Option V)
abbrev VK:=V->Hp->Prop
abbrev TE:=St->Hp->VK->Prop
abbrev TT:=St->Hp->(Bool->Hp->Prop)->Prop
abbrev TA:=St->Hp->(List V->Hp->Prop)->Prop
structure Ends where
 nx:St->Hp->Prop
 rt:VK
 bk:St->Hp->Prop:=λ_ _=>False
 ct:St->Hp->Prop:=λ_ _=>False
abbrev TS:=Ends->St->Hp->Prop
def EP(X:Cx)(pins:List (ID×Obj))(σ:St)(Q:VK)(u:Ap)(s':AA):Prop:=∃v H',Inv X pins σ H' s'/\RelV v u/\Q v H'
def TP(X:Cx)(pins:List (ID×Obj))(σ:St)(Q:Bool->Hp->Prop)(b:Bool)(s':AA):Prop:=∃H',Inv X pins σ H' s'/\Q b H'
def AP(X:Cx)(pins:List (ID×Obj))(σ:St)(Q:List V->Hp->Prop)(us:List Ap)(s':AA):Prop:=∃vs H',Inv X pins σ H' s'/\Vals vs us/\Q vs H'
def SP(X:Cx)(pins:List (ID×Obj))(D:Ends)(f:Flow)(s':AA):Prop:=
 match f with
 | .next=>∃σ' H',Inv X pins σ' H' s'/\D.nx σ' H'
 | .brk=>∃σ' H',Inv X pins σ' H' s'/\D.bk σ' H'
 | .cont=>∃σ' H',Inv X pins σ' H' s'/\D.ct σ' H'
 | .ret u=>∃v σ' H',Inv X pins σ' H' s'/\RelV v u/\D.rt v H'
def PE(X:Cx)(e:Expr)(t:TE):Prop:=
 ∀(pins:List (ID×Obj)) (s:AA) (σ:St) (H:Hp) (Q:VK),Inv X pins σ H s->t σ H Q->AG (AJ X.prog X.w) X.A (eval e X.env) (EP X pins σ Q) X.xe s
def PT(X:Cx)(e:Expr)(t:TT):Prop:=
 ∀(pins:List (ID×Obj)) (s:AA) (σ:St) (H:Hp) (Q:Bool->Hp->Prop),Inv X pins σ H s->t σ H Q->AG (AJ X.prog X.w) X.A (KI e X.env (eval e X.env)) (TP X pins σ Q) X.xe s
def PW(X:Cx)(e:Expr)(t:TT):Prop:=
 ∀(whole:Sem Ap)(pins:List (ID×Obj)) (s:AA) (σ:St) (H:Hp) (Q:Bool->Hp->Prop),Inv X pins σ H s->t σ H Q->AG (AJ X.prog X.w) X.A (KI e X.env whole) (TP X pins σ Q) X.xe s
theorem PW.pt{X:Cx}{e:Expr}{t:TT}(h:PW X e t):PT X e t:=h _
def PA(X:Cx)(es:List Expr)(t:TA):Prop:=
 ∀(pos:Pos)(pins:List (ID×Obj)) (s:AA) (σ:St) (H:Hp) (Q:List V->Hp->Prop),Inv X pins σ H s->t σ H Q->AG (AJ X.prog X.w) X.A (L3 (CS pos (AH es X.env))) (AP X pins σ Q) X.xe s
def PS(X:Cx)(st:Stmt)(t:TS):Prop:=
 ∀(pins:List (ID×Obj)) (s:AA) (σ:St) (H:Hp) (D:Ends),Inv X pins σ H s->t D σ H->AG (AJ X.prog X.w) X.A (exec st X.env) (SP X pins D) X.xe s
def PSs(X:Cx)(st:List Stmt)(t:TS):Prop:=
 ∀(pins:List (ID×Obj)) (s:AA) (σ:St) (H:Hp) (D:Ends),Inv X pins σ H s->t D σ H->AG (AJ X.prog X.w) X.A (execs st X.env) (SP X pins D) X.xe s
theorem thn{α:Type}{t:Sem α}{Q Q':α->AA->Prop}{M:Model}{A:A5}{E:Ap->AA->Prop}{s:AA}(h:AG M A t Q E s)(hQ:∀a s,Q a s->Q' a s):AG M A t Q' E s:=Bz h hQ λ_ _ x=>x
theorem thE{t:Sem Ap}{X:Cx}{pins:List (ID×Obj)}{σ:St}{Q:VK}{Q':Ap->AA->Prop}{M:Model}{A:A5}{E:Ap->AA->Prop}{s:AA}(h:AG M A t (EP X pins σ Q) E s)(hQ:∀u s x H,Inv X pins σ H s->RelV x u->Q x H->Q' u s):AG M A t Q' E s:=thn h λu s z=>by
 obtain⟨x,H,I,r,q⟩:=z;exact hQ u s x H I r q
theorem thA{t:Sem (List Ap)}{X:Cx}{pins:List (ID×Obj)}{σ:St}{Q:List V->Hp->Prop}{Q':List Ap->AA->Prop}{M:Model}{A:A5}{E:Ap->AA->Prop}{s:AA}(h:AG M A t (AP X pins σ Q) E s)(hQ:∀u s x H,Inv X pins σ H s->Vals x u->Q x H->Q' u s):AG M A t Q' E s:=thn h λu s z=>by
 obtain⟨x,H,I,r,q⟩:=z;exact hQ u s x H I r q
theorem thT{t:Sem Bool}{X:Cx}{pins:List (ID×Obj)}{σ:St}{Q:Bool->Hp->Prop}{Q':Bool->AA->Prop}{M:Model}{A:A5}{E:Ap->AA->Prop}{s:AA}(h:AG M A t (TP X pins σ Q) E s)(hQ:∀u s H,Inv X pins σ H s->Q u H->Q' u s):AG M A t Q' E s:=thn h λu s z=>by
 obtain⟨H,I,q⟩:=z;exact hQ u s H I q
section
variable {X:Cx}
def Ui(i:Nat):TE:=λσ H Q=>∃v,σ[i]?=GT (GT v)/\Q v H
def tC(v:V):TE:=λ_ H Q=>Q v H
theorem V9{i:Nat}{x:Str}{pos:Pos}(hN:X.N[i]?=GT x)(hv:Vis X.env.scope x)(hd:(x == ("__debug__" : Str))=false:=by decide)(hcd:(x == ("__classdict__" : Str))=false:=by decide):PE X (.Name x pos) (Ui i):=by
 intro pins s σ H Q I h;obtain⟨v,e,h⟩:=h;obtain⟨m,hn,hl⟩:=I.loc;obtain⟨u,r,l⟩:=hl i x v hN e hv;have fin:EP X pins σ Q u s:=⟨v,H,I,r,h⟩;rcases l with⟨hk,hm⟩|⟨hk,c,hc,hcell⟩
 ·exact wpAny_Name (wpAny_loadName_local I.ok.kind hk hn hm fin) hd
 rcases hk with hk|hk
 ·exact wpAny_Name (wpAny_loadName_cell I.ok.kind hk hc hcell fin) hd
 exact wpAny_Name (wpAny_loadName_free I.ok.kind hk hc hcell fin hcd) hd
theorem acE{i j pos}:PE X (.Constant (.int i) j pos) (tC (.int i)):=λ_ _ _ H _ I h=>wpAny_Constant_int ⟨.int i,H,I.tok _,⟨_,rfl⟩,h⟩
theorem ad2{b j pos}:PE X (.Constant (.bool b) j pos) (tC (.bl b)):=λ_ _ _ H _ I h=>Constant_bool ⟨.bl b,H,I,rfl,h⟩
theorem acz{x j pos}:PE X (.Constant (.str x) j pos) (tC (.str x)):=λ_ _ _ H _ I h=>Calls.Constant_str ⟨.str x,H,I.tok _,⟨_,rfl⟩,h⟩
def Gl(X:Cx)(x:Str):Prop:=X.env.kindOf x=GT .globalImplicit
theorem Pz{E:Ap->AA->Prop}{pins:List (ID×Obj)}{s:AA}{σ:St}{H:Hp}{x:Str}{u:Ap}{pos:Pos}{Q:Ap->AA->Prop}(I:Inv X pins σ H s)(hg:Gl X x)(hm:X.mg x=GT u)(h:Q u s)
  (hd:(x == ("__debug__" : Str))=false:=by decide):AG (AJ X.prog X.w) X.A (eval (.Name x pos) X.env) Q E s:=
 Calls.Name_function_global I.ok.kind hg (Calls.loadGlobal_global (by rw[I.ok.glob];exact I.mod.glob.keeps I.bk) hm h) hd
theorem dW{E:Ap->AA->Prop}{pins:List (ID×Obj)}{s:AA}{σ:St}{H:Hp}{x:Str}{u:Ap}{pos:Pos}{Q:Ap->AA->Prop}(I:Inv X pins σ H s)(hg:Gl X x)(hm:X.mg x=Is)(hv:EE x=GT u)(h:Q u s)
  (hn:x ≠ "__name__" := by decide)(hd:(x == ("__debug__" : Str))=false:=by decide):AG (AJ X.prog X.w) X.A (eval (.Name x pos) X.env) Q E s:=by
 obtain⟨mb,h1,h2⟩:=I.mod.blt;exact Calls.Name_function_global I.ok.kind hg (Calls.loadGlobal_builtin (by rw[I.ok.glob];exact I.mod.glob.keeps I.bk) hm (by rw[I.ok.blt];exact h1.keeps I.bk) ((h2 x hn).trans hv) h) hd
theorem aan{x:Str}{v:V}{u:Ap}{pos:Pos}(hg:Gl X x)(hm:X.mg x=GT u)(r:RelV v u)(hd:(x == ("__debug__" : Str))=false:=by decide):PE X (.Name x pos) (tC v):=
 λ_ _ _ H _ I h=>Pz I hg hm ⟨v,H,I,r,h⟩ hd
theorem aav{x:Str}{v:V}{u:Ap}{pos:Pos}(hg:Gl X x)(hm:X.mg x=Is)(hv:EE x=GT u)(r:RelV v u)(hn:x ≠ "__name__" := by decide)(hd:(x == ("__debug__" : Str))=false:=by decide):PE X (.Name x pos) (tC v):=
 λ_ _ _ H _ I h=>dW I hg hm hv ⟨v,H,I,r,h⟩ hn hd
variable {a b:Expr}{ta tb:TE}{pos:Pos}
def tB(t:TE):TT:=λσ H Q=>t σ H λx H1=>∃c,x=.bl c/\Q c H1
theorem ach{e:Expr}{t:TE}(h:PE X e t)(he:∀whole,KI e X.env whole=(do let v <- whole;FS e.pos;EN [v] (truthy v)):=by intro _;rfl):PT X e (tB t):=by
 intro pins s σ H Q I hw;refine isTrue_plain (thE (h pins s σ H _ I hw) λv s1 x H1 I1 r1 q1=>?_) (he _);obtain⟨d,rfl,q⟩:=q1;cases r1;exact E6 ⟨H1,I1,q⟩
variable {tA tB':TT}{rest:List Expr}
def Y6(t u:TT):TT:=λσ H Q=>t σ H λc H1=>if c=true then u σ H1 Q else Q false H1
def tOr(t u:TT):TT:=λσ H Q=>t σ H λc H1=>if c=true then Q true H1 else u σ H1 Q
def Ur(t:TT):TT:=λσ H Q=>t σ H λc H1=>Q (!c) H1
theorem ZP(ha:PT X a tA):PW X (.BoolOp .And [a] pos) tA:=by
 intro wh pins s σ H Q I h;refine isTrue_and (thn (ha pins s σ H Q I h) λc s1 e=>?_);cases c with
 | true=>exact isTrue_and_nil e
 | false=>exact e
theorem acf(ha:PT X a tA):PW X (.BoolOp .Or [a] pos) tA:=by
 intro wh pins s σ H Q I h;refine isTrue_or (thn (ha pins s σ H Q I h) λc s1 e=>?_);cases c with
 | false=>exact isTrue_or_nil e
 | true=>exact e
theorem acg(ha:PT X a tA)(hb:PW X (.BoolOp .And (b::rest) pos) tB'):PW X (.BoolOp .And (a::b::rest) pos) (Y6 tA tB'):=by
 intro wh pins s σ H Q I h;refine isTrue_and (thT (ha pins s σ H _ I h) λc s1 H1 I1 q1=>?_);cases c with
 | true=>exact hb wh pins s1 σ H1 Q I1 q1
 | false=>exact⟨H1,I1,q1⟩
theorem adR(ha:PT X a tA)(hb:PW X (.BoolOp .Or (b::rest) pos) tB'):PW X (.BoolOp .Or (a::b::rest) pos) (tOr tA tB'):=by
 intro wh pins s σ H Q I h;refine isTrue_or (thT (ha pins s σ H _ I h) λc s1 H1 I1 q1=>?_);cases c with
 | true=>exact⟨H1,I1,q1⟩
 | false=>exact hb wh pins s1 σ H1 Q I1 q1
theorem acj(ha:PT X a tA):PT X (.UnaryOp .Not a pos) (Ur tA):=by
 intro pins s σ H Q I h;exact isTrue_not (ha pins s σ H (λc H1=>Q (!c) H1) I h)
def Uy(ta tb:TE):TE:=λσ H Q=>ta σ H λx H1=>∃c,x=.bl c/\if c=true then tb σ H1 Q else Q (.bl false) H1
def Uq(ta:TE):TE:=λσ H Q=>ta σ H λx H1=>∃c,x=.bl c/\Q (.bl (!c)) H1
theorem acB{op}{t:TE}(h:PE X a t):PE X (.BoolOp op [a] pos) t:=λpins s σ H Q I hw=>BoolOp_one (h pins s σ H Q I hw)
theorem acG(ha:PE X a ta)(hb:PE X (.BoolOp .And (b::rest) pos) tb):PE X (.BoolOp .And (a::b::rest) pos) (Uy ta tb):=by
 intro pins s σ H Q I h;refine BoolOp_and (thE (ha pins s σ H _ I h) λv s1 x H1 I1 r1 q1=>?_);obtain⟨c,rfl,q1⟩:=q1;cases r1;refine E6 ?_;cases c with
 | true=>exact hb pins s1 σ H1 Q I1 q1
 | false=>exact⟨.bl false,H1,I1,rfl,q1⟩
theorem acC(ha:PE X a ta):PE X (.UnaryOp .Not a pos) (Uq ta):=by
 intro pins s σ H Q I h;refine UnaryOp_ (thE (ha pins s σ H _ I h) λv s1 x H1 I1 r1 q1=>?_);obtain⟨c,rfl,q1⟩:=q1;cases r1;exact not_of (E6 ⟨.bl (!c),H1,I1,rfl,q1⟩)
def tIf(t:TT)(ta tb:TE):TE:=λσ H Q=>t σ H λc H1=>if c=true then ta σ H1 Q else tb σ H1 Q
theorem Wc{c:Expr}(hc:PT X c tA)(ha:PE X a ta)(hb:PE X b tb):PE X (.IfExp c a b pos) (tIf tA ta tb):=by
 intro pins s σ H Q I h;refine wpAny_IfExp (thT (hc pins s σ H _ I h) λd s1 H1 I1 q1=>?_);cases d with
 | true=>exact ha pins s1 σ H1 Q I1 q1
 | false=>exact hb pins s1 σ H1 Q I1 q1
end
def SqL(K:AD)(H:Hp)(a:ID)(xs:List V):Prop:=
 Rd H a (.lst xs) \/
  ∃(o:Obj)(its:Array Ap)(n:Nat),K.lookup a=GT o/\o.cls=.type "list" /\ o.dict=Is/\o.data=.seq its n/\its.size<=AK/\Vals xs its.toList
def SqT(K:AD)(H:Hp)(a:ID)(xs:List V):Prop:=
 Rd H a (.tup xs) \/
  ∃(o:Obj)(its:Array Ap)(n:Nat),K.lookup a=GT o/\o.cls=.type "tuple" /\ o.data=.seq its n/\its.size<=AK/\Vals xs its.toList
def aeU:Ap->Option V
 | .none=>GT .non
 | .bool b=>GT (.bl b)
 | .int i _=>GT (.int i)
 | .str x _=>GT (.str x)
 | .bytes b _=>GT (.byt b)
 | .float b _=>GT (.flt b)
 | .ref a=>GT (.ref a)
 | .type n=>GT (.ty n)
 | _=>Is
theorem RelV.abs{x:V}{u:Ap}(r:RelV x u):aeU u=GT x:=by
 cases x with
 | non=>cases r;rfl
 | bl _=>cases r;rfl
 | int _=>obtain⟨t,rfl⟩:=r;rfl
 | str _=>obtain⟨t,rfl⟩:=r;rfl
 | byt _=>obtain⟨t,rfl⟩:=r;rfl
 | flt _=>obtain⟨t,rfl⟩:=r;rfl
 | ref _=>cases r;rfl
 | ty _=>cases r;rfl
theorem RelV.inj{x y:V}{u:Ap}(r:RelV x u)(q:RelV y u):x=y:=BI (r.abs.symm.trans q.abs)
theorem Vals.inj:∀{xs ys:List V}{us:List Ap},Vals xs us->Vals ys us->xs=ys
 | _,_,_,.nil,.nil=>rfl
 | _,_,_,.cons r t,.cons r' t'=>by rw[r.inj r',Vals.inj t t']
section
variable {X:Cx}{pins:List (ID×Obj)}{σ:St}{H:Hp}{s:AA}{a:ID}{xs ys:List V}
theorem SqL.of{K:AD}(h:H a=GT (.lst xs)):SqL K H a xs:=.inl (.inl h)
theorem SqT.of{K:AD}(h:H a=GT (.tup xs)):SqT K H a xs:=.inl (.inl h)
theorem Inv.list(I:Inv X pins σ H s)(h:SqL X.K H a xs):∃its:List Ap,Vals xs its/\PlainL s.heap a its.toArray/\xs.length<=AK:=by
 rcases h with h|⟨o,its,n,hk,hc,hd,hs,hz,r⟩
 ·obtain⟨z,its,n,r,e⟩:=h.ok I.hok;exact⟨its,r,⟨_,n,e,rfl,rfl,rfl⟩,z⟩
 refine⟨its.toList,r,⟨o,n,I.kIn a o hk,hc,hd,by simpa using hs⟩,?_⟩;have e:=r.length;simp only[EF] at e;omega
theorem Inv.tuple(I:Inv X pins σ H s)(h:SqT X.K H a xs):∃its:List Ap,Vals xs its/\IsTup s.heap a its.toArray/\xs.length<=AK:=by
 rcases h with h|⟨o,its,n,hk,hc,hs,hz,r⟩
 ·obtain⟨z,its,r,p⟩:=h.ok I.hok;exact⟨its,r,p,z⟩
 refine⟨its.toList,r,⟨o,I.kIn a o hk,hc,n,by simpa using hs⟩,?_⟩;have e:=r.length;simp only[EF] at e;omega
theorem Inv.qC(I:Inv X pins σ H s)(h:SqL X.K H a xs)(h':SqL X.K H a ys):xs=ys:=by
 obtain⟨its,r,⟨o,n,e,_,_,d⟩,_⟩:=I.list h;obtain⟨its',r',⟨o',n',e',_,_,d'⟩,_⟩:=I.list h';rw[e] at e';cases e';rw[d] at d';injection d' with d1 _;have:its=its':=by simpa using congrArg Array.toList d1
 subst this;exact r.inj r'
theorem Inv.qT(I:Inv X pins σ H s)(h:SqT X.K H a xs)(h':SqT X.K H a ys):xs=ys:=by
 obtain⟨its,r,⟨o,e,_,n,d⟩,_⟩:=I.tuple h;obtain⟨its',r',⟨o',e',_,n',d'⟩,_⟩:=I.tuple h';rw[e] at e';cases e';rw[d] at d';injection d' with d1 _;have:its=its':=by simpa using congrArg Array.toList d1
 subst this;exact r.inj r'
end
abbrev Cx.wish(X:Cx)(E:Ap->AA->Prop):Cx:={ X with xe:=E }
abbrev Cx.nox(X:Cx):Cx:=X.wish λ_ _=>False
theorem Cx.Ok.wish{X:Cx}(ok:X.Ok)(E:Ap->AA->Prop):(X.wish E).Ok:=
 ⟨ok.mod,ok.kind,ok.glob,ok.blt,ok.above,ok.inj,ok.has,ok.cab,ok.hd,ok.frames,ok.stk,ok.exf,ok.bs,ok.bsz,ok.noex,ok.exfs,ok.yH,ok.frf⟩
theorem Cx.Ok.pI{X:Cx}{E:Ap->AA->Prop}(ok:(X.wish E).Ok):X.Ok:=
 ⟨ok.mod,ok.kind,ok.glob,ok.blt,ok.above,ok.inj,ok.has,ok.cab,ok.hd,ok.frames,ok.stk,ok.exf,ok.bs,ok.bsz,ok.noex,ok.exfs,ok.yH,ok.frf⟩
section
variable {X:Cx}{pins:List (ID×Obj)}{σ:St}{H:Hp}{s:AA}{E:Ap->AA->Prop}
theorem Inv.wish(I:Inv X pins σ H s)(E:Ap->AA->Prop):Inv (X.wish E) pins σ H s:=⟨I.ok.wish E,I.os,I.bare,I.base,I.loc,I.cell,I.free,I.freeC,I.pin,I.hok,I.len⟩
theorem Inv.pI(I:Inv (X.wish E) pins σ H s):Inv X pins σ H s:=⟨I.ok.pI,I.os,I.bare,I.base,I.loc,I.cell,I.free,I.freeC,I.pin,I.hok,I.len⟩
theorem SP.pI{D:Ends}{f:Flow}{s':AA}(h:SP (X.wish E) pins D f s'):SP X pins D f s':=by
 cases f with
 | next=>obtain⟨σ',H',I,q⟩:=h;exact⟨σ',H',I.pI,q⟩
 | brk=>obtain⟨σ',H',I,q⟩:=h;exact⟨σ',H',I.pI,q⟩
 | cont=>obtain⟨σ',H',I,q⟩:=h;exact⟨σ',H',I.pI,q⟩
 | ret u=>obtain⟨v,σ',H',I,r,q⟩:=h;exact⟨v,σ',H',I.pI,r,q⟩
theorem PSs.nox{st:List Stmt}{t:TS}(h:PSs X.nox st t):PSs X st t:=λpins s σ H D I hw=>
 Bz (h pins s σ H D (I.wish _) hw) (λ_ _ q=>q.pI) λ_ _ z=>F0 z
end
section
variable {X:Cx}{st:Stmt}{rest:List Stmt}{t u:TS}{e:Expr}{te:TE}{pos:Pos}
def Hw:TS:=λD σ H=>D.nx σ H
def QX(t u:TS):TS:=λD σ H=>t { D with nx:=u D } σ H
theorem ZW:PSs X [] Hw:=λ_ _ σ H _ I h=>Ll ⟨σ,H,I,h⟩
theorem V1(h1:PS X st t)(h2:PSs X rest u):PSs X (st::rest) (QX t u):=by
 intro pins s σ H D I h;refine wpAny_execs_cons (thn (h1 pins s σ H { D with nx:=u D } I h) λf s1 q=>?_);cases f with
 | next=>
  obtain⟨σ',H',I',q⟩:=q;exact h2 pins s1 σ' H' D I' q
 | ret v=>exact q
 | brk=>exact q
 | cont=>exact q
theorem ZV(h1:PS X st t):PSs X [st] t:=by
 intro pins s σ H D I h;refine wpAny_execs_cons (thn (h1 pins s σ H D I h) λf s1 q=>?_);cases f with
 | next=>exact Ll q
 | ret v=>exact q
 | brk=>exact q
 | cont=>exact q
theorem Inv.quiet{pins:List (ID×Obj)}{σ:St}{H:Hp}{s:AA}(I:Inv X pins σ H s):interactive X.env=false:=by simp[interactive,I.ok.kind]
def Hx(te:TE):TS:=λD σ H=>te σ H λ_ H1=>D.nx σ H1
theorem Z1(he:PE X e te)(hs:JP e Is pos.line X.env=pure false:=by rfl):PS X (.Expr e pos) (Hx te):=by
 intro pins s σ H D I h;exact wpAny_Expr_any (thE (he pins s σ H _ I h) λv s1 x H1 I1 r1 q1=>⟨σ,H1,I1,q1⟩) I.quiet hs
def Uj(te:TE):TS:=λD σ H=>te σ H D.rt
theorem acn(he:PE X e te):PS X (.Return (GT e) pos) (Uj te):=by
 intro pins s σ H D I h;exact wpAny_Return_some (thE (he pins s σ H _ I h) λv s1 x H1 I1 r1 q1=>⟨x,σ,H1,I1,r1,q1⟩)
def Q0(c:TT)(t u:TS):TS:=λD σ H=>c σ H λb H1=>if b=true then t D σ H1 else u D σ H1
theorem adT{c:Expr}{a b:List Stmt}{tc:TT}(hc:PT X c tc)(ha:PSs X a t)(hb:PSs X b u):PS X (.If c a b pos) (Q0 tc t u):=by
 intro pins s σ H D I h;refine wpAny_If (thT (hc pins s σ H _ I h) λd s1 H1 I1 q1=>?_);cases d with
 | true=>exact ha pins s1 σ H1 D I1 q1
 | false=>exact hb pins s1 σ H1 D I1 q1
end
abbrev TG:=V->St->Hp->(St->Hp->Prop)->Prop
abbrev TGs:=List V->St->Hp->(St->Hp->Prop)->Prop
def PG(X:Cx)(target:Expr)(t:TG):Prop:=
 ∀(pins:List (ID×Obj)) (s:AA) (σ:St) (H:Hp) (v:V) (u:Ap) (Q:St->Hp->Prop),Inv X pins σ H s->RelV v u->t v σ H Q ->
  AG (AJ X.prog X.w) X.A (EO target X.env u) (λ_ s'=>∃σ' H',Inv X pins σ' H' s'/\Q σ' H') X.xe s
def PGs(X:Cx)(ts:List Expr)(t:TGs):Prop:=
 ∀(pins:List (ID×Obj)) (s:AA) (σ:St) (H:Hp) (vs:List V) (us:List Ap) (Q:St->Hp->Prop),Inv X pins σ H s->Vals vs us->t vs σ H Q ->
  AG (AJ X.prog X.w) X.A (assignInOrder ((DZ ts X.env).map (·.2)) us) (λ_ s'=>∃σ' H',Inv X pins σ' H' s'/\Q σ' H') X.xe s
abbrev TF:=V->V->V->Hp->(Hp->Prop)->Prop
def TQ(X:Cx)(t:TF):Prop:=
 ∀(pins:List (ID×Obj)) (s:AA) (σ:St) (H:Hp) (o i v:V) (ov iv u:Ap) (Q:Hp->Prop),Inv X pins σ H s->RelV o ov->RelV i iv->RelV v u->t o i v H Q ->
  AG (AJ X.prog X.w) X.A (setItem ov iv u) (λ_ s'=>∃H',Inv X pins σ H' s'/\Q H') X.xe s
abbrev TIp:=V->V->Hp->VK->Prop
def PIp(X:Cx)(op:Operator)(t:TIp):Prop:=
 ∀(pins:List (ID×Obj)) (s:AA) (σ:St) (H:Hp) (x y:V) (v u:Ap) (Q:VK),Inv X pins σ H s->RelV x v->RelV y u->t x y H Q ->
  AG (AJ X.prog X.w) X.A (inplaceOp op v u) (EP X pins σ Q) X.xe s
section
variable {X:Cx}{pos:Pos}
def lz(i:Nat):TG:=λv σ H Q=>Q (σ.set i (GT v)) H
theorem O7{i:Nat}{x:Str}(hN:X.N.Nodup)(hi:X.N[i]?=GT x)(hx:Loc X.env.scope x)(hf:X.fn x=true\/X.env.scope.names.lookup x=GT .local:=by first|exact .inl rfl|exact .inr rfl|assumption):PG X (.Name x pos) (lz i):=by
 intro pins s σ H v u Q I r h;exact wpAny_assign_Name (pN I hN hi hx r (λs' I'=>⟨_,H,I',h⟩) hf)
def adf:TGs:=λvs σ H Q=>vs=[]/\Q σ H
def Xx(t:TG)(u:TGs):TGs:=λvs σ H Q=>∃v r,vs=v::r/\t v σ H λσ' H'=>u r σ' H' Q
theorem aag:PGs X [] adf:=by
 intro pins s σ H vs us Q I r h;obtain⟨e,h⟩:=h;subst e;cases r;exact assignInOrder_nil ⟨σ,H,I,h⟩
theorem V6{e:Expr}{es:List Expr}{t:TG}{u:TGs}(h1:PG X e t)(h2:PGs X es u)
  (hs:(DZ (e::es) X.env).map (·.2)=EO e X.env::(DZ es X.env).map (·.2):=by rfl):PGs X (e::es) (Xx t u):=by
 intro pins s σ H vs us Q I r h;obtain⟨v,vr,e1,h⟩:=h;subst e1;cases r with
 | cons r rr=>
  rw[hs];refine assignInOrder_cons (thn (h1 pins s σ H _ _ _ I r h) λ_ s1 ⟨σ1,H1,I1,q1⟩=>?_);exact h2 pins s1 σ1 H1 _ _ Q I1 rr q1
def aeR(K:AD)(n:Nat)(t:TGs):TG:=λv σ H Q=>∃a xs,v=.ref a/\SqT K H a xs/\xs.length=n/\t xs σ H Q
theorem acw{es:List Expr}{k:Nat}{t:TGs}{n:Nat}(hc:X.calm=true)(h:PGs X es t)
  (hn:(DZ es X.env).length=n:=by rfl)(hst:(DZ es X.env).findIdx? (·.1)=Is:=by rfl):PG X (.Tuple es k pos) (aeR X.K n t):=by
 intro pins s σ H v u Q I r hw;obtain⟨a,xs,e1,hq,hl,hw⟩:=hw;subst e1;cases r;obtain⟨its,rv,ht,hz⟩:=I.tuple hq;refine assign_Tuple_tuple (I.ok.hd hc) ht (by simp[hn,<- hl,rv.length]) hst λh' hx=>?_;have I1:Inv X pins σ H { s with heap:=h' }:=I.kept (t':=s.toks) λb o e=>hx b o (B5 (AY e)) e;exact h pins _ σ H xs _ Q I1 (by simpa using rv) hw
def aa5(to ti:TE)(t:TF):TG:=λv σ H Q=>to σ H λo H1=>ti σ H1 λi H2=>t o i v H2 λH3=>Q σ H3
theorem V7{o i:Expr}{to ti:TE}{t:TF}(ho:PE X o to)(hi:PE X i ti)(hs:TQ X t)
   (ha:∀v,EO (.Subscript o i pos) X.env v=(do
   let ov <- EN [v] (eval o X.env)
   let iv <- EN [v,ov] (eval i X.env)
   FS pos
   EN [v,ov,iv] (setItem ov iv v)
   release [v,ov,iv] []):=by intro _;rfl):PG X (.Subscript o i pos) (aa5 to ti t):=by
 intro pins s σ H v u Q I r h;rw[ha];refine An (BH (thE (ho pins s σ H _ I h) λov s1 x H1 I1 r1 q1=>?_));refine An (BH (thE (hi pins s1 σ H1 _ I1 q1) λiv s2 y H2 I2 r2 q2=>?_));refine An (C6 (An (BH (thn (hs pins s2 σ H2 x y v ov iv u _ I2 r1 r2 r q2) λ_ s3 ⟨H3,I3,q3⟩=>?_))));exact wpAny_release ⟨σ,H3,I3,q3⟩
def xZ(te:TE)(g:TG):TS:=λD σ H=>te σ H λx H1=>g x σ H1 D.nx
theorem acr{tg e:Expr}{te:TE}{g:TG}(he:PE X e te)(hg:PG X tg g)(hs:FM [tg] e pos.line X.env=pure false:=by rfl)(hw:Mc [tg] e X.env=pure Is:=by rfl)
  (h1:(DZ [tg] X.env).map (·.2)=[EO tg X.env]:=by rfl):PS X (.Assign [tg] e pos) (xZ te g):=by
 intro pins s σ H D I h;refine wpAny_Assign_stores (thE (he pins s σ H _ I h) λv s1 x H1 I1 r1 q1=>?_) hs hw;rw[h1];exact thn (hg pins s1 σ H1 x v _ I1 r1 q1) λ_ s2 q=>q
theorem ack{i:Nat}{x:Str}{e:Expr}{te:TE}{pos':Pos}(hN:X.N.Nodup)(hi:X.N[i]?=GT x)(hx:Loc X.env.scope x)(he:PE X e te)(hs:JP e (GT (.Name x pos')) pos.line X.env=pure false:=by rfl)(hf:X.fn x=true\/X.env.scope.names.lookup x=GT .local:=by first|exact .inl rfl|exact .inr rfl|assumption) :
  PS X (.Assign [.Name x pos'] e pos) (xZ te (lz i)):=by
 intro pins s σ H D I h;refine wpAny_Assign_Name (thE (he pins s σ H _ I h) λv s1 y H1 I1 r1 q1=>?_) hs;exact pN I1 hN hi hx r1 (λs2 I2=>⟨_,H1,I2,q1⟩) hf
def abQ(i j:Nat)(ta:TA):TS:=λD σ H=>ta σ H λvs H1=>∃v w,vs=[v,w]/\D.nx ((σ.set i (GT v)).set j (GT w)) H1
theorem aco{i j:Nat}{x y:Str}{a b:Expr}{ta:TA}{px py pt:Pos}{kt k2 pt2}(hc:X.calm=true)(hN:X.N.Nodup)(hi:X.N[i]?=GT x)(hj:X.N[j]?=GT y)(hij:i≠j)
  (hx:X.env.scope.names.lookup x=GT .local)(hy:X.env.scope.names.lookup y=GT .local)(ha:PA X [a,b] ta)
  (hw:Mc [.Tuple [.Name x px,.Name y py] kt pt] (.Tuple [a,b] k2 pt2) X.env=pure (GT [x,y]))
  (hs:FM [.Tuple [.Name x px,.Name y py] kt pt] (.Tuple [a,b] k2 pt2) pos.line X.env=pure false:=by rfl) :
  PS X (.Assign [.Tuple [.Name x px,.Name y py] kt pt] (.Tuple [a,b] k2 pt2) pos) (abQ i j ta):=by
 intro pins s σ H D I h;rw[exec_Assign_arm];refine An (C6 ?_);rw[hs];refine An (Au ?_);rw[if_neg δ];refine An (Tuple_ (thA (ha _ pins s σ H _ I h) λus s1 vs H1 I1 r1 q1=>?_));obtain⟨v,w,e1,q1⟩:=q1;subst e1;obtain⟨u1,u2,rfl,rv,rw'⟩:∃u1 u2,us=[u1,u2]/\RelV v u1/\RelV w u2:=by
  cases r1 with
  | cons p q=>
   cases q with
   | cons p' q'=>
    cases q';exact⟨_,_,rfl,p,p'⟩
 refine Be ?_ (by show 2<=AK;decide);have I2:Inv X pins σ H1 { s1 with heap:=s1.heap.push { cls:=.type "tuple",data:=.seq [u1,u2].toArray } }:=I1.kept (t':=s1.toks) λb o e=>AB _ e;rw[hw];refine An (Au ?_);show AG (AJ X.prog X.w) X.A (do rule "assign.swapped-stores";let items <- unpackItems (.ref s1.heap.objs.size) 2 Is;assignInOrder [λv=>bindName X.env y v,λv=>bindName X.env x v] items.reverse;pure Flow.next) _ _ _;refine An (CY (An (unpackItems_tuple (items:=#[u1,u2]) (I.ok.hd hc) (IsTup.new s1.heap _) λh' hx'=>?_)));have I3:=I2.kept (h':=h') (t':=s1.toks) λb o e=>hx' b o (B5 (AY e)) e;show AG _ _ (assignInOrder [λv=>bindName X.env y v,λv=>bindName X.env x v] [u2,u1] >>= λ_=>pure Flow.next) _ _ _;refine An (assignInOrder_cons (wpAny_bindName (pN I3 hN hj (.inl hy) rw' (λs2 I4=>?_) (.inr hy))));refine assignInOrder_cons (wpAny_bindName (pN I4 hN hi (.inl hx) rv (λs3 I5=>assignInOrder_nil (Au ?_)) (.inr hx)));rw[List.set_comm _ _ (BC hij)] at I5;exact⟨_,H1,I5,q1⟩
def abU(i:Nat)(te:TE)(ti:TIp):TS:=λD σ H=>∃x,σ[i]?=GT (GT x)/\te σ H λy H1=>ti x y H1 λz H2=>D.nx (σ.set i (GT z)) H2
theorem acq{i:Nat}{x:Str}{e:Expr}{te:TE}{op:Operator}{ti:TIp}{pos':Pos}(hN:X.N.Nodup)(hi:X.N[i]?=GT x)(hx:Loc X.env.scope x)(he:PE X e te)(ho:PIp X op ti)(hf:X.fn x=true\/X.env.scope.names.lookup x=GT .local:=by first|exact .inl rfl|exact .inr rfl|assumption) :
  PS X (.AugAssign (.Name x pos') op e pos) (abU i te ti):=by
 intro pins s σ H D I h;obtain⟨v,e1,h⟩:=h;obtain⟨m,hn,hl⟩:=I.loc;have vis:Vis X.env.scope x:=by rcases hx with k|k;exact .inl k;exact .inr (.inl k)
 obtain⟨u,r,l⟩:=hl i x v hi e1 vis;refine wpAny_AugAssign_Name ?_;have go:AG (AJ X.prog X.w) X.A (eval e X.env) (λw s₂=>AG (AJ X.prog X.w) X.A (inplaceOp op u w) (λr s₃=>AG (AJ X.prog X.w) X.A (storeName X.env x r) (λ_=>SP X pins D .next) X.xe s₃) X.xe s₂) X.xe s:=by
  refine thE (he pins s σ H _ I h) λw s1 y H1 I1 r1 q1=>?_;refine thE (ho pins s1 σ H1 v y u w _ I1 r r1 q1) λz s2 zv H2 I2 r2 q2=>?_;exact pN I2 hN hi hx r2 (λs3 I3=>⟨_,H2,I3,q2⟩) hf
 rcases l with⟨hk,hm⟩|⟨hk,c,hc,hcell⟩
 ·exact wpAny_loadName_local I.ok.kind hk hn hm go
 rcases hk with hk|hk
 ·exact wpAny_loadName_cell I.ok.kind hk hc hcell go
 rcases hx with k|k
 ·have:X.env.scope.names.lookup x=GT .free:=hk;rw[k] at this;cases this
 have:X.env.scope.names.lookup x=GT .free:=hk;rw[k] at this;cases this
def ipI(f:Int->Int->Int):TIp:=λx y H Q=>∃i j,x=.int i/\y=.int j/\Q (.int (f i j)) H
theorem ac8:PIp X .Add (ipI λi j=>i+j):=by
 intro pins s σ H x y v u Q I r1 r2 h;obtain⟨i,j,e1,e2,q⟩:=h;subst e1;subst e2;obtain⟨t,rfl⟩:=r1;obtain⟨t',rfl⟩:=r2;exact iadd_int ⟨.int _,H,I.tok _,⟨_,rfl⟩,q⟩
theorem ac7:PIp X .Sub (ipI λi j=>i-j):=by
 intro pins s σ H x y v u Q I r1 r2 h;obtain⟨i,j,e1,e2,q⟩:=h;subst e1;subst e2;obtain⟨t,rfl⟩:=r1;obtain⟨t',rfl⟩:=r2;exact isub_int ⟨.int _,H,I.tok _,⟨_,rfl⟩,q⟩
def Ku(c:TT)(tb:TS):TS:=λD σ H=>∃W:Nat->St->Hp->Prop,(∃m,W m σ H)/\∀m σ H,W m σ H ->
 c σ H λb H1=>if b=true then ∃N:St->Hp->Prop,(∀σ' H',N σ' H'->∃m',m'<m/\W m' σ' H')/\tb { D with nx:=N,ct:=N,bk:=D.nx } σ H1 else D.nx σ H1
theorem V2{c:Expr}{body:List Stmt}{tc:TT}{tb:TS}(hp:PassesOwn (AJ X.prog X.w) X.A X.env X.xe)(hc:PT X c tc)(hb:PSs X body tb):PS X (.While c body [] pos) (Ku tc tb):=by
 intro pins s σ H D I h;obtain⟨W,⟨m0,w0⟩,turn⟩:=h;refine wpAny_While (codeAny_whileLoop (λn s'=>∃σ' H',Inv X pins σ' H' s'/\W n σ' H') ?_ m0 ⟨σ,H,I,w0⟩);rintro n s1 ⟨σ1,H1,I1,w1⟩;refine FK hp (thT (hc pins s1 σ1 H1 _ I1 (turn n σ1 H1 w1)) λb s2 H2 I2 q2=>?_);cases b with
 | true=>
  obtain⟨N,hN,q2⟩:=q2;rw[if_pos rfl];refine FK hp (thn (hb pins s2 σ1 H2 _ I2 q2) λf s3 q3=>?_);cases f with
  | next=>
   obtain⟨σ3,H3,I3,n3⟩:=q3;obtain⟨m',hm,w3⟩:=hN σ3 H3 n3;exact⟨m',hm,σ3,H3,I3,w3⟩
  | cont=>
   obtain⟨σ3,H3,I3,n3⟩:=q3;obtain⟨m',hm,w3⟩:=hN σ3 H3 n3;exact⟨m',hm,σ3,H3,I3,w3⟩
  | brk=>exact q3
  | ret v=>exact q3
 | false=>
  rw[if_neg AZ];exact Ll ⟨σ1,H2,I2,q2⟩
end
structure It where
 go:Nat->Hp->Prop
 yld:Nat->Hp->V->Hp->Prop
 stop:Nat->Hp->Prop
def pH(X:Cx)(pins:List (ID×Obj))(H:Hp)(b:ID):Prop:=
 H b=Is/\b≠X.env.locals/\b∉X.fs/\(b∈X.ex\/X.s₀.heap.objs.size<=b)/\(∀x c,X.env.cells.lookup x=GT c->c≠b)/\∀p∈X.pn++pins,p.1≠b
theorem Inv.Dg{X:Cx}{pins:List (ID×Obj)}{σ:St}{H H':Hp}{s:AA}{b:ID}(I:Inv X pins σ H s)(hb:s.heap.objs.size<=b)(hn:H' b=Is):pH X pins H' b:=by
 refine⟨hn,ne_of_gt (BS I.lt hb),I.RP hb,.inr (CF I.sz hb),λx c e z=>?_,λp hp z=>?_⟩
 ·obtain⟨v,q⟩:=I.cell x c e;exact absurd (BS q.lt (by rw[z];exact hb)) (E4 _)
 exact absurd (BS (AY (I.pin p hp).1) (by rw[z];exact hb)) (E4 _)
structure Turn(P:AR)(w:A9)(K:AD)(tg:Expr)(J:It)(fp:List ID)(it:ID)(tn:Nat->Heap->Prop):Prop where
 mem:it∈fp
 obj:∀i h,tn i h->∀b∈fp,∃o,h.get? b=GT o/\∀v,o.data≠.cell v
 keep:∀i h h',tn i h->(∀b∈fp,∀o,h.get? b=GT o->h'.get? b=GT o)->tn i h'
 item:∀(X:Cx),X.prog=P->X.w=w->X.K=K->X.calm=true->∀(i:Nat)(pins:List (ID×Obj)) (s:AA) (σ:St) (H:Hp) (E:Ap->AA->Prop),Inv X pins σ H s->(∀b∈fp,pH X pins H b)->tn i s.heap->J.go i H ->
  AG (AJ P w) X.A (D2 (.ref it)) (λr s1=>∃u,r=GT u /\
   AG (AJ P w) X.A (DS tg (.ref it) u) (λ_ s2=>∃x H',Inv X pins σ H' s2/\RelV x u/\J.yld i H x H'/\tn (i+1) s2.heap/\∀b∈fp,H' b=Is) E s1) E s
 done:∀(X:Cx),X.prog=P->X.w=w->X.K=K->X.calm=true->∀(i:Nat)(pins:List (ID×Obj)) (s:AA) (σ:St) (H:Hp) (E:Ap->AA->Prop),Inv X pins σ H s->(∀b∈fp,pH X pins H b)->tn i s.heap->J.stop i H ->
  AG (AJ P w) X.A (D2 (.ref it)) (λr s1=>r=Is/\Inv X pins σ H s1) E s
 self:∀(A:A5)(i:Nat)(s:AA)(Q:Ap->AA->Prop)(E:Ap->AA->Prop),tn i s.heap->Q (.ref it) s->AG (AJ P w) A (IH (.ref it)) Q E s
abbrev TI:=St->Hp->(It->Hp->Prop)->Prop
def PIE(X:Cx)(pins:List (ID×Obj))(σ:St)(tg:Expr)(R:It->Hp->Prop)(itv:Ap)(s2:AA):Prop:=
 ∃(it:ID)(fp:List ID)(tn:Nat->Heap->Prop)(J:It)(H':Hp),itv=.ref it/\Inv X pins σ H' s2/\Turn X.prog X.w X.K tg J fp it tn/\tn 0 s2.heap/\(∀b∈fp,pH X pins H' b)/\R J H'
def PI(X:Cx)(tg iter:Expr)(wi:TI):Prop:=
 ∀(pins:List (ID×Obj)) (s:AA) (σ:St) (H:Hp) (R:It->Hp->Prop),Inv X pins σ H s->wi σ H R ->
  AG (AJ X.prog X.w) X.A (eval iter X.env) (λv s1=>AG (AJ X.prog X.w) X.A (IH v) (PIE X pins σ tg R) X.xe s1) X.xe s
theorem JB{M:Model}{A:A5}{E:Ap->AA->Prop}{s:AA}{tg:Expr}{it:ID}{u:Ap}{o:Obj}{n:String}{vs:Array Ap}{Q:Unit->AA->Prop}(ho:s.heap.get? it=GT o)(hc:o.cls=.type n)(hd:o.data=.fields vs)
  (hn:["enumerate","zip","dict_itemiterator","dict_reverseitemiterator","odict_iterator","itertools.zip_longest","itertools.pairwise"].contains n=false)(hQ:Q () s):AG M A (DS tg (.ref it) u) Q E s:=by
 unfold DS;cases tg <;> first
  | exact Au hQ
  | (cases u <;> first
    | exact Au hQ
    | (refine An (wpAny_load ho ?_)
       rw[hc,hd];show AG M A (if (["enumerate","zip","dict_itemiterator","dict_reverseitemiterator","odict_iterator","itertools.zip_longest","itertools.pairwise"].contains n&&vs[0]? == GT (C0 _))=true then _ else _) Q E s;rw[if_neg (by intro h;rw[hn,FA] at h;cases h)];exact Au hQ))
def Itl(K:AD)(a:ID):It:=
 ⟨λi H=>∃xs x,SqL K H a xs/\xs[i]?=GT x,λi H x H'=>H'=H/\∀xs,SqL K H a xs->xs[i]?=GT x,λi H=>∃xs,SqL K H a xs/\xs.length<=i⟩
def Itt(K:AD)(a:ID):It:=
 ⟨λi H=>∃xs x,SqT K H a xs/\xs[i]?=GT x,λi H x H'=>H'=H/\∀xs,SqT K H a xs->xs[i]?=GT x,λi H=>∃xs,SqT K H a xs/\xs.length<=i⟩
def Itr(lo:Int)(n:Nat):It:=⟨λi _=>i<n,λi H x H'=>H'=H/\x=.int (lo+i),λi _=>n<=i⟩
theorem QD{P:AR}{w:A9}{K:AD}{tg:Expr}(a it:ID):Turn P w K tg (Itl K a) [it] it (λi h=>h.IsListIter it a i) where
 mem:=by simp
 obj:=λi h st b hb=>by
  have e:b=it:=by simpa using hb
  subst e;obtain⟨o,e,c,d⟩:=st;exact⟨o,e,λv z=>by rw[d] at z;cases z⟩
 keep:=λi h h' st k=>st.at λo e=>k it ζ o e
 item:=by
  intro X hP hw hK hc i pins s σ H E I hf st hg;subst hP hw hK;obtain⟨xs,x,hq,hx⟩:=hg;obtain⟨its,rv,p,hz⟩:=I.list hq;obtain⟨u,hu,ru⟩:=rv.get hx;obtain⟨f0,f1,f2,f3,f4,f5⟩:=hf it ζ;refine wpAny_pyNext_list_item st p.isList (x:=u) (by simpa using hu) λh' st' sb=>?_;have I1:Inv X pins σ H { s with heap:=h' }:=I.turned (t':=s.toks) (λb o hb e=>(sb.2 b hb).trans e) f0 f1 f3 f4 f5;obtain⟨o,e,c,d⟩:=id st';exact⟨u,rfl,JB (s:={ s with heap:=h' }) e c d δ ⟨x,H,I1,ru,⟨rfl,λys hy=>by rw[I.qC hy hq];exact hx⟩,st',λb hb=>(hf b hb).1⟩⟩
 done:=by
  intro X hP hw hK hc i pins s σ H E I hf st hg;subst hP hw hK;obtain⟨xs,hq,hx⟩:=hg;obtain⟨its,rv,p,hz⟩:=I.list hq;obtain⟨f0,f1,f2,f3,f4,f5⟩:=hf it ζ;have hl:=rv.length;exact wpAny_pyNext_list_end (I.ok.hd hc) st p.isList (by simp;omega) λh' eb=>⟨rfl,I.turned (t':=s.toks) (λb o hb e=>eb b o hb e) f0 f1 f3 f4 f5⟩
 self:=λ_ _ _ _ _ st h=>wpAny_pyIter_listiter st h
theorem Kp{P:AR}{w:A9}{K:AD}{tg:Expr}(a it:ID):Turn P w K tg (Itt K a) [it] it (λi h=>h.IsTupleIter it a i) where
 mem:=by simp
 obj:=λi h st b hb=>by
  have e:b=it:=by simpa using hb
  subst e;obtain⟨o,e,c,d⟩:=st;exact⟨o,e,λv z=>by rw[d] at z;cases z⟩
 keep:=λi h h' st k=>st.at λo e=>k it ζ o e
 item:=by
  intro X hP hw hK hc i pins s σ H E I hf st hg;subst hP hw hK;obtain⟨xs,x,hq,hx⟩:=hg;obtain⟨its,rv,p,hz⟩:=I.tuple hq;obtain⟨u,hu,ru⟩:=rv.get hx;obtain⟨f0,f1,f2,f3,f4,f5⟩:=hf it ζ;refine wpAny_pyNext_tuple_item st (show s.heap.IsTuple a its.toArray from p) (x:=u) (by simpa using hu) λh' st' sb=>?_;have I1:Inv X pins σ H { s with heap:=h' }:=I.turned (t':=s.toks) (λb o hb e=>(sb.2 b hb).trans e) f0 f1 f3 f4 f5;obtain⟨o,e,c,d⟩:=id st';exact⟨u,rfl,JB (s:={ s with heap:=h' }) e c d δ ⟨x,H,I1,ru,⟨rfl,λys hy=>by rw[I.qT hy hq];exact hx⟩,st',λb hb=>(hf b hb).1⟩⟩
 done:=by
  intro X hP hw hK hc i pins s σ H E I hf st hg;subst hP hw hK;obtain⟨xs,hq,hx⟩:=hg;obtain⟨its,rv,p,hz⟩:=I.tuple hq;obtain⟨f0,f1,f2,f3,f4,f5⟩:=hf it ζ;have hl:=rv.length;exact wpAny_pyNext_tuple_end (I.ok.hd hc) st (show s.heap.IsTuple a its.toArray from p) (by simp;omega) λh' eb=>⟨rfl,I.turned (t':=s.toks) (λb o hb e=>eb b o hb e) f0 f1 f3 f4 f5⟩
 self:=λ_ _ _ _ _ st h=>wpAny_pyIter_tupleiter st h
theorem Kq{P:AR}{w:A9}{K:AD}{tg:Expr}(it:ID)(lo:Int)(n:Nat):Turn P w K tg (Itr lo n) [it] it (λi h=>IY h it (lo+(i:Nat)*1) ((n:Int)-(i:Nat)) 1) where
 mem:=by simp
 obj:=λi h st b hb=>by
  have e:b=it:=by simpa using hb
  subst e;exact⟨_,st,λv z=>by
   have z':Co _=Data.cell v:=z;cases z'⟩
 keep:=λi h h' st k=>k it ζ _ st
 item:=by
  intro X hP hw hK hc i pins s σ H E I hf st hg;subst hP hw hK;obtain⟨f0,f1,f2,f3,f4,f5⟩:=hf it ζ;have W:=Walks.range (prog:=X.prog) (w:=X.w) (I.ok.hd hc) it lo 1 n;refine W.item i s _ _ hg st λv h' tk hv st' kk=>?_;obtain⟨t,rfl⟩:=hv;have I1:Inv X pins σ H { s with heap:=h',toks:=tk }:=I.turned (λb o hb e=>kk b o (by simpa using hb) e) f0 f1 f3 f4 f5;refine⟨_,rfl,JB (s:={ s with heap:=h',toks:=tk }) (n := "range_iterator") st' Z Z δ ⟨.int (lo+i),H,I1,⟨t,?_⟩,⟨rfl,rfl⟩,st',λb hb=>(hf b hb).1⟩⟩;rw[mul_one]
 done:=by
  intro X hP hw hK hc i pins s σ H E I hf st hg;subst hP hw hK;obtain⟨f0,f1,f2,f3,f4,f5⟩:=hf it ζ;exact wpAny_pyNext_range_end (I.ok.hd hc) st (by have:n<=i:=hg;omega) λh' eb=>⟨rfl,I.turned (t':=s.toks) (λb o hb e=>eb b o hb e) f0 f1 f3 f4 f5⟩
 self:=λ_ _ _ _ _ st h=>KL st h
section
variable {X:Cx}{tg:Expr}
theorem Ip{pins:List (ID×Obj)}{σ:St}{H:Hp}{s:AA}{R:It->Hp->Prop}{E:Ap->AA->Prop}{lo hi:Int}{t u v:Tok}{tk:Nat}(I:Inv X pins σ H s)(h1:-(2^62)<=lo)(h2:lo<2^62)(h3:-(2^62)<=hi)(h4:hi<2^62)
  (q:R (Itr lo (hi-lo).toNat) H):AG (AJ X.prog X.w) X.A (IH (.ref s.heap.objs.size)) (PIE X pins σ tg R) E { s with heap:=s.heap.push { cls:=.type "range",data:=.fields #[.int lo t,.int hi u,.int 1 v] },toks:=tk }:=by
 refine wpAny_pyIter_range (Lv ..) (small_one h1 h2 h3 h4) ?_;have I1:Inv X pins σ H { s with heap:=s.heap.push { cls:=.type "range",data:=.fields #[.int lo t,.int hi u,.int 1 v] },toks:=tk }:=I.kept λb o e=>AB _ e;refine⟨(s.heap.push { cls:=.type "range",data:=.fields #[.int lo t,.int hi u,.int 1 v] }).objs.size,[(s.heap.push { cls:=.type "range",data:=.fields #[.int lo t,.int hi u,.int 1 v] }).objs.size],_,_,H,rfl,
  I1.kept (t':=tk) λb o e=>AB _ e,Kq _ lo (hi-lo).toNat,?_,λb hb=>?_,q⟩
 ·have e1:lo+((0:Nat):Int)*1=lo:=by simp
  have e2:(((hi-lo).toNat:Nat):Int)-((0:Nat):Int)=AI.Range.rangeSize lo hi 1:=by rw[Md];split <;> omega
  show IY _ _ (lo+((0:Nat):Int)*1) ((((hi-lo).toNat:Nat):Int)-((0:Nat):Int)) 1;rw[e1,e2];exact AO _ rfl
 have e:b=(s.heap.push { cls:=.type "range",data:=.fields #[.int lo t,.int hi u,.int 1 v] }).objs.size:=by simpa using hb
 subst e;exact I1.Dg (AU _) (I1.hok.fresh (AU _))
def Aq(ta:TA):TI:=λσ H R=>ta σ H λvs H1=>∃j:Int,vs=[.int j]/\-(2^62)<=j/\j<2^62/\R (Itr 0 j.toNat) H1
def Jz(ta:TA):TI:=λσ H R=>ta σ H λvs H1=>∃i j:Int,vs=[.int i,.int j]/\(-(2^62)<=i/\i<2^62/\-(2^62)<=j/\j<2^62)/\R (Itr i (j-i).toNat) H1
theorem Ru{a:Expr}{ta:TA}{p pos:Pos}(hg:Gl X "range")(hm:X.mg "range" = Is)(ha:PA X [a] ta)(hs:AH [a] X.env=[(false,eval a X.env)]:=by rfl):PI X tg (.Call (.Name "range" p) [a] [] pos) (Aq ta):=by
 intro pins s σ H R I h;refine LA (dW I hg hm KM (A3 (thA (ha pos pins s σ H _ I h) λus s1 vs H1 I1 r1 q1=>?_) hs Z));obtain⟨j,e,q1,q2,q⟩:=q1;subst e;cases r1 with
 | cons r rr=>
  cases rr;obtain⟨t,rfl⟩:=r;exact call_range_1 (Ip I1 ω ω q1 q2 (by simpa using q))
theorem Rt{a b:Expr}{ta:TA}{p pos:Pos}(hg:Gl X "range")(hm:X.mg "range" = Is)(ha:PA X [a,b] ta)(hs:AH [a,b] X.env=[(false,eval a X.env),(false,eval b X.env)]:=by rfl)(hs2:AH [b] X.env=[(false,eval b X.env)]:=by rfl) :
  PI X tg (.Call (.Name "range" p) [a,b] [] pos) (Jz ta):=by
 intro pins s σ H R I h;refine LA (dW I hg hm KM (A3 (thA (ha pos pins s σ H _ I h) λus s1 vs H1 I1 r1 q1=>?_) (by rw[hs,hs2]) (by rw[hs2];rfl)));obtain⟨i,j,e,⟨q1,q2,q3,q4⟩,q⟩:=q1;subst e;cases r1 with
 | cons r rr=>
  cases rr with
  | cons r' rr=>
   cases rr;obtain⟨t,rfl⟩:=r;obtain⟨t',rfl⟩:=r';exact call_range_2 (Ip I1 q1 q2 q3 q4 q)
def abR(wi:TI)(g:TG)(tb:TS):TS:=λD σ H=>wi σ H λJ H1=>∃W:Nat->Nat->St->Hp->Prop,(∃m,W 0 m σ H1)/\∀i m σ H,W i m σ H ->
 (J.stop i H/\D.nx σ H)\/(J.go i H/\∃N:St->Hp->Prop,(∀σ' H',N σ' H'->∃m',m'<m/\W (i+1) m' σ' H')/\∀x H',J.yld i H x H'->g x σ H' λσ2 H2=>tb { D with nx:=N,ct:=N,bk:=D.nx } σ2 H2)
def dU(fp:List ID)(h:Heap):List (ID×Obj):=fp.filterMap λb=>(h.get? b).map λo=>(b,o)
theorem f9{fp:List ID}{h:Heap}{b:ID}{o:Obj}(hb:b∈fp)(e:h.get? b=GT o):(b,o)∈dU fp h:=List.mem_filterMap.mpr ⟨b,hb,by rw[e];rfl⟩
theorem kj{fp:List ID}{h:Heap}{p:ID×Obj}(hp:p∈dU fp h):p.1∈fp/\h.get? p.1=GT p.2:=by
 obtain⟨b,hb,e⟩:=List.mem_filterMap.mp hp;cases q:h.get? b with
 | none=>rw[q] at e;cases e
 | some o=>
  rw[q] at e;have e':(b,o)=p:=BI e;subst e';exact⟨hb,q⟩
theorem Inv.pinned{pins:List (ID×Obj)}{σ:St}{H:Hp}{s:AA}{fp:List ID}(I:Inv X pins σ H s)(hf:∀b∈fp,pH X pins H b)(ho:∀b∈fp,∃o,s.heap.get? b=GT o/\∀v,o.data≠.cell v):Inv X (pins++dU fp s.heap) σ H s:=
 I.ig λp hp=>(Cf.mp hp).elim (λz=>I.pin p (AN _ z)) λz=>by
  obtain⟨hb,e⟩:=kj z;obtain⟨f0,f1,f2,_⟩:=hf p.1 hb;obtain⟨o,e',d⟩:=ho p.1 hb;rw[e] at e';cases e';exact⟨e,f0,f1,f2,d⟩
theorem Inv.iR{pins pl:List (ID×Obj)}{σ:St}{H:Hp}{s:AA}(I:Inv X (pins++pl) σ H s):Inv X pins σ H s:=I.ig λp hp=>I.pin p (AN _ (D8 _ hp))
theorem acp{iter:Expr}{body:List Stmt}{wi:TI}{g:TG}{tb:TS}{pos:Pos}(hp:PassesOwn (AJ X.prog X.w) X.A X.env X.xe)(hc:X.calm=true)(hi:PI X tg iter wi)(hg:PG X tg g)(hb:PSs X body tb)
  (hs:∀x,B2 iter X.env x=pure x:=by intro _;rfl):PS X (.For tg iter body [] pos) (abR wi g tb):=by
 intro pins s σ H D I h;refine wpAny_For (thn (hi pins s σ H _ I h) λv s1 h1=>thn h1 λitv s2 h2=>?_) hs;obtain⟨it,fp,tn,J,H2,e,I2,T,st2,f2,W,⟨m0,w0⟩,turn⟩:=h2;subst e
 -- what stays true of the iterator's objects through the loop
 have stat:∀{H':Hp},(∀b∈fp,H' b=Is)->∀b∈fp,pH X pins H' b:=λhn b hb=>⟨hn b hb,(f2 b hb).2⟩;refine codeAny_forLoop_any (λn s'=>∃i σ' H',Inv X pins σ' H' s'/\tn i s'.heap/\(∀b∈fp,H' b=Is)/\W i n σ' H') ?_ m0 ⟨0,σ,H2,I2,st2,λb hb=>(f2 b hb).1,w0⟩;rintro n s3 ⟨i,σ3,H3,I3,st3,fr3,w3⟩;rcases turn i n σ3 H3 w3 with⟨stop,qn⟩|⟨go,N,hN,step⟩
 ·refine FK hp (thn (T.done X Z Z Z hc i pins s3 σ3 H3 X.xe I3 (stat fr3) st3 stop) λr s4 ⟨hr,I4⟩=>?_);subst hr;exact Ll ⟨σ3,H3,I4,qn⟩
 refine FK hp (thn (T.item X Z Z Z hc i pins s3 σ3 H3 X.xe I3 (stat fr3) st3 go) λr s4 ⟨u,hr,h4⟩=>?_);subst hr;refine FK hp (thn h4 λ_ s5 ⟨x,H5,I5,r5,y5,st5,fr5⟩=>?_);have I5':=I5.pinned (stat fr5) (T.obj _ _ st5);refine FK hp (thn (hg _ s5 σ3 H5 x u _ I5' r5 (step x H5 y5)) λ_ s6 ⟨σ6,H6,I6,q6⟩=>?_);refine FK hp (thn (hb _ s6 σ6 H6 _ I6 q6) λf s7 q7=>?_);have GW:∀{σ7:St}{H7:Hp},Inv X (pins++dU fp s5.heap) σ7 H7 s7->N σ7 H7->∃m,m<n/\∃i σ' H',Inv X pins σ' H' s7/\tn i s7.heap/\(∀b∈fp,H' b=Is)/\W i m σ' H':=λ{σ7 H7} I7 n7=>by
  obtain⟨m',hm,w7⟩:=hN σ7 H7 n7;refine⟨m',hm,i+1,σ7,H7,I7.iR,T.keep _ _ _ st5 λb hb o e=>(I7.pin (b,o) (AN _ (AN _ (f9 hb e)))).1,λb hb=>?_,w7⟩;obtain⟨o,e,d⟩:=T.obj _ _ st5 b hb;exact(I7.pin (b,o) (AN _ (AN _ (f9 hb e)))).2.1
 cases f with
 | next=>obtain⟨σ7,H7,I7,n7⟩:=q7;exact GW I7 n7
 | cont=>obtain⟨σ7,H7,I7,n7⟩:=q7;exact GW I7 n7
 | brk=>obtain⟨σ7,H7,I7,q7⟩:=q7;exact⟨σ7,H7,I7.iR,q7⟩
 | ret v=>obtain⟨x7,σ7,H7,I7,r7,q7⟩:=q7;exact⟨x7,σ7,H7,I7.iR,r7,q7⟩
end
theorem XD{K:AD}{a:ID}{xs:List V}{g:TG}{tb:TS}{D:Ends}{σ:St}{H:Hp}(Pv:Nat->St->Hp->Prop)(h0:Pv 0 σ H)(hl:∀i σ H,i<=xs.length->Pv i σ H->SqL K H a xs)
  (hs:∀i x σ H,xs[i]?=GT x->Pv i σ H->g x σ H λσ2 H2=>tb { D with nx:=Pv (i+1),ct:=Pv (i+1),bk:=D.nx } σ2 H2)(hd:∀σ H,Pv xs.length σ H->D.nx σ H) :
  ∃W:Nat->Nat->St->Hp->Prop,(∃m,W 0 m σ H)/\∀i m σ H,W i m σ H ->
   ((Itl K a).stop i H/\D.nx σ H)\/((Itl K a).go i H/\∃N:St->Hp->Prop,(∀σ' H',N σ' H'->∃m',m'<m/\W (i+1) m' σ' H')/\∀x H',(Itl K a).yld i H x H'->g x σ H' λσ2 H2=>tb { D with nx:=N,ct:=N,bk:=D.nx } σ2 H2):=by
 refine⟨λi m σ H=>m=xs.length-i/\i<=xs.length/\Pv i σ H,⟨xs.length,by simp,DJ _,h0⟩,?_⟩;rintro i m σ H ⟨rfl,hi,p⟩;have q:=hl i σ H hi p;by_cases hlt:i<xs.length
 ·refine .inr ⟨⟨xs,xs[i],q,by simp[hlt]⟩,Pv (i+1),λσ' H' p'=>⟨xs.length-(i+1),ω,rfl,hlt,p'⟩,λx H' y=>?_⟩;obtain⟨e,y⟩:=y;subst e;exact hs i x σ _ (y xs q) p
 have e:i=xs.length:=ω;subst e;exact .inl ⟨⟨xs,q,AU _⟩,hd σ H p⟩
theorem Sw{lo:Int}{n:Nat}{g:TG}{tb:TS}{D:Ends}{σ:St}{H:Hp}(Pv:Nat->St->Hp->Prop)(h0:Pv 0 σ H)
  (hs:∀i σ H,i<n->Pv i σ H->g (.int (lo+i)) σ H λσ2 H2=>tb { D with nx:=Pv (i+1),ct:=Pv (i+1),bk:=D.nx } σ2 H2)(hd:∀σ H,Pv n σ H->D.nx σ H) :
  ∃W:Nat->Nat->St->Hp->Prop,(∃m,W 0 m σ H)/\∀i m σ H,W i m σ H ->
   ((Itr lo n).stop i H/\D.nx σ H)\/((Itr lo n).go i H/\∃N:St->Hp->Prop,(∀σ' H',N σ' H'->∃m',m'<m/\W (i+1) m' σ' H')/\∀x H',(Itr lo n).yld i H x H'->g x σ H' λσ2 H2=>tb { D with nx:=N,ct:=N,bk:=D.nx } σ2 H2):=by
 refine⟨λi m σ H=>m=n-i/\i<=n/\Pv i σ H,⟨n,by simp,DJ _,h0⟩,?_⟩;rintro i m σ H ⟨rfl,hi,p⟩;by_cases hlt:i<n
 ·refine .inr ⟨hlt,Pv (i+1),λσ' H' p'=>⟨n-(i+1),ω,rfl,hlt,p'⟩,λx H' y=>?_⟩;obtain⟨e,y⟩:=y;subst e y;exact hs i σ _ hlt p
 have e:i=n:=ω;subst e;exact .inl ⟨AU _,hd σ H p⟩
abbrev R2:=V->V->Hp->VK->Prop
def OpR(X:Cx)(f:Ap->Ap->Sem Ap)(r:R2):Prop:=
 ∀(pins:List (ID×Obj)) (s:AA) (σ:St) (H:Hp) (x y:V) (v u:Ap) (Q:VK),Inv X pins σ H s->RelV x v->RelV y u->r x y H Q ->
  AG (AJ X.prog X.w) X.A (f v u) (EP X pins σ Q) X.xe s
def UnR(X:Cx)(f:Ap->Sem Ap)(r:V->Hp->VK->Prop):Prop:=
 ∀(pins:List (ID×Obj)) (s:AA) (σ:St) (H:Hp) (x:V) (v:Ap) (Q:VK),Inv X pins σ H s->RelV x v->r x H Q ->
  AG (AJ X.prog X.w) X.A (f v) (EP X pins σ Q) X.xe s
def gq(X:Cx)(f:Ap)(r:List V->Hp->VK->Prop):Prop:=
 ∀(pins:List (ID×Obj)) (s:AA) (σ:St) (H:Hp) (xs:List V) (us:List Ap) (Q:VK),Inv X pins σ H s->Vals xs us->r xs H Q ->
  AG (AJ X.prog X.w) X.A (call f us) (EP X pins σ Q) X.xe s
def aeW(X:Cx)(r:V->Hp->(Bool->Hp->Prop)->Prop):Prop:=
 ∀(pins:List (ID×Obj)) (s:AA) (σ:St) (H:Hp) (x:V) (v:Ap) (Q:Bool->Hp->Prop),Inv X pins σ H s->RelV x v->r x H Q ->
  AG (AJ X.prog X.w) X.A (truthy v) (TP X pins σ Q) X.xe s
def tOp(r:R2)(ta tb:TE):TE:=λσ H Q=>ta σ H λx H1=>tb σ H1 λy H2=>r x y H2 Q
def tUn(r:V->Hp->VK->Prop)(ta:TE):TE:=λσ H Q=>ta σ H λx H1=>r x H1 Q
def rI(C:Int->Int->Prop)(g:Int->Int->V):R2:=λx y H Q=>∃i j,x=.int i/\y=.int j/\C i j/\Q (g i j) H
def rI0(g:Int->Int->V):R2:=λx y H Q=>∃i j,x=.int i/\y=.int j/\Q (g i j) H
def rU(g:Int->V):V->Hp->VK->Prop:=λx H Q=>∃i,x=.int i/\Q (g i) H
section
variable {X:Cx}{a b c:Expr}{ta tb tc:TE}{pos:Pos}
theorem adu(ha:PE X a ta)(hb:PE X b tb){pins:List (ID×Obj)}{s:AA}{σ:St}{H:Hp}{R:V->V->Hp->Prop}(I:Inv X pins σ H s)
  (h:ta σ H λx H1=>tb σ H1 λy H2=>R x y H2){Q:Ap->AA->Prop}{f:Ap->Ap->Sem Ap}
  (hf:∀v u s2 x y H2,Inv X pins σ H2 s2->RelV x v->RelV y u->R x y H2->AG (AJ X.prog X.w) X.A (f v u) Q X.xe s2) :
  AG (AJ X.prog X.w) X.A (eval a X.env) (λv s₁=>AG (AJ X.prog X.w) X.A (eval b X.env) (λu s₂=>AG (AJ X.prog X.w) X.A (f v u) Q X.xe s₂) X.xe s₁) X.xe s:=by
 refine thE (ha pins s σ H _ I h) λv s1 x H1 I1 r1 q1=>?_;refine thE (hb pins s1 σ H1 _ I1 q1) λu s2 y H2 I2 r2 q2=>?_;exact hf v u s2 x y H2 I2 r1 r2 q2
theorem adW{op:Operator}{r:R2}(ho:OpR X (E7 op) r)(ha:PE X a ta)(hb:PE X b tb):PE X (.BinOp a op b pos) (tOp r ta tb):=by
 intro pins s σ H Q I h;exact wpAny_BinOp (adu ha hb I h λv u s2 x y H2 I2 rx ry q=>ho pins s2 σ H2 x y v u Q I2 rx ry q)
theorem adV{op:UnaryOp}{r:V->Hp->VK->Prop}(ho:UnR X (unaryOp op) r)(ha:PE X a ta):PE X (.UnaryOp op a pos) (tUn r ta):=by
 intro pins s σ H Q I h;exact UnaryOp_ (thE (ha pins s σ H _ I h) λv s1 x H1 I1 r1 q1=>ho pins s1 σ H1 x v Q I1 r1 q1)
theorem opI{f:Ap->Ap->Sem Ap}{C:Int->Int->Prop}{g:Int->Int->Int}
  (rule:∀(i j:Int)(t u:Tok)(s:AA)(Q:Ap->AA->Prop)(E:Ap->AA->Prop),C i j->Q (.int (g i j) s.toks) { s with toks:=s.toks+1 }->AG (AJ X.prog X.w) X.A (f (.int i t) (.int j u)) Q E s) :
  OpR X f (rI C λi j=>.int (g i j)):=by
 intro pins s σ H x y v u Q I rx ry h;obtain⟨i,j,rfl,rfl,hc,q⟩:=h;obtain⟨t,rfl⟩:=rx;obtain⟨t',rfl⟩:=ry;exact rule i j t t' s _ _ hc ⟨.int (g i j),H,I.tok _,⟨_,rfl⟩,q⟩
theorem ad7{f:Ap->Ap->Sem Ap}{g:Int->Int->Int}
  (rule:∀(i j:Int)(t u:Tok)(s:AA)(Q:Ap->AA->Prop)(E:Ap->AA->Prop),Q (.int (g i j) s.toks) { s with toks:=s.toks+1 }->AG (AJ X.prog X.w) X.A (f (.int i t) (.int j u)) Q E s) :
  OpR X f (rI0 λi j=>.int (g i j)):=by
 intro pins s σ H x y v u Q I rx ry h;obtain⟨i,j,rfl,rfl,q⟩:=h;obtain⟨t,rfl⟩:=rx;obtain⟨t',rfl⟩:=ry;exact rule i j t t' s _ _ ⟨.int (g i j),H,I.tok _,⟨_,rfl⟩,q⟩
theorem aaB{f:Ap->Ap->Sem Ap}{g:Int->Int->Bool}
  (rule:∀(i j:Int)(t u:Tok)(s:AA)(Q:Ap->AA->Prop)(E:Ap->AA->Prop),Q (.bool (g i j)) s->AG (AJ X.prog X.w) X.A (f (.int i t) (.int j u)) Q E s) :
  OpR X f (rI0 λi j=>.bl (g i j)):=by
 intro pins s σ H x y v u Q I rx ry h;obtain⟨i,j,rfl,rfl,q⟩:=h;obtain⟨t,rfl⟩:=rx;obtain⟨t',rfl⟩:=ry;exact rule i j t t' s _ _ ⟨.bl (g i j),H,I,rfl,q⟩
def adA(i j:Int):Prop:=0<=j/\j<=1000000/\i.natAbs<2^64
def TX(i j:Int):Prop:=(-(2^64)<i/\i<2^64)\/(-(2^64)<j/\j<2^64)
theorem TX.ok{i j:Int}(h:TX i j):IntMulOk i j:=by
 rcases h with⟨h1,h2⟩|⟨h1,h2⟩
 ·exact .of_left (intBits_le_64 h1 h2)
 exact .of_right (intBits_le_64 h1 h2)
theorem acO:OpR X (E7 .Add) (rI0 λi j=>.int (i+j)):=ad7 λ_ _ _ _ _ _ _ q=>add_int q
theorem lg:OpR X (E7 .Sub) (rI0 λi j=>.int (i-j)):=ad7 λ_ _ _ _ _ _ _ q=>sub_int q
theorem acL:OpR X (E7 .Mult) (rI TX λi j=>.int (i*j)):=opI λ_ _ _ _ _ _ _ hc q=>mul_int q hc.ok
theorem jN:OpR X (E7 .Mod) (rI (λ_ j=>0<j) λi j=>.int (i%j)):=opI λi j _ _ _ _ _ hc q=>by
 have h1:(0:Int)<j:=hc;exact mod_int' ω (by rw[Int.fmod_eq_emod_of_nonneg i ω];exact q)
theorem tL:OpR X (E7 .Pow) (rI adA λi j=>.int (i^j.toNat)):=opI λ_ _ _ _ _ _ _ hc q=>pow_int_small hc.1 hc.2.1 hc.2.2 q
theorem acJ:OpR X (E7 .LShift) (rI adA λi j=>.int (i*2^j.toNat)):=opI λ_ _ _ _ _ _ _ hc q=>lshift_int_small hc.1 hc.2.1 hc.2.2 q
theorem unI{f:Ap->Sem Ap}{g:Int->Int}
  (rule:∀(i:Int)(t:Tok)(s:AA)(Q:Ap->AA->Prop)(E:Ap->AA->Prop),Q (.int (g i) s.toks) { s with toks:=s.toks+1 }->AG (AJ X.prog X.w) X.A (f (.int i t)) Q E s) :
  UnR X f (rU λi=>.int (g i)):=by
 intro pins s σ H x v Q I rx h;obtain⟨i,rfl,q⟩:=h;obtain⟨t,rfl⟩:=rx;exact rule i t s _ _ ⟨.int (g i),H,I.tok _,⟨_,rfl⟩,q⟩
theorem pJ:UnR X (unaryOp .USub) (rU λi=>.int (-i)):=unI λ_ _ _ _ _ q=>neg_int q
end
def Ze:V->V->Bool
 | .non,.non=>true | .non,.int _=>true | .int _,.non=>true | .non,.bl _=>true | .bl _,.non=>true | .non,.str _=>true | .str _,.non=>true
 | .int _,.int _=>true | .bl _,.bl _=>true | .str _,.str _=>true | .byt _,.byt _=>true
 | .int _,.str _=>true | .str _,.int _=>true | .bl _,.str _=>true | .str _,.bl _=>true
 | _,_=>false
def rEq:R2:=λx y H Q=>Ze x y=true/\Q (.bl (decide (x=y))) H
def rNe:R2:=λx y H Q=>Ze x y=true/\Q (.bl (!decide (x=y))) H
theorem Qm{i j:Int}:decide (V.int i=V.int j)=(i == j):=by
 rw[GG];simp
theorem Yc{i j:Bool}:decide (V.bl i=V.bl j)=(i == j):=by
 rw[GG];simp
theorem Ql{i j:Str}:decide (V.str i=V.str j)=(i == j):=by
 rw[GG];simp
theorem Qn{i j:Array UInt8}:decide (V.byt i=V.byt j)=(i.toList == j.toList):=by
 rw[GG];cases i;cases j;simp
section
variable {X:Cx}{a b c:Expr}{ta tb tc:TE}{pos:Pos}
theorem bZ{pins:List (ID×Obj)}{σ:St}{H:Hp}{s:AA}{Q:VK}{k k':Bool}(I:Inv X pins σ H s)(q:Q (.bl k) H)(e:k=k'):EP X pins σ Q (.bool k') s:=by
 subst e;exact⟨.bl k,H,I,rfl,q⟩
theorem ad6:OpR X (CU .Eq) rEq:=by
 intro pins s σ H x y v u Q I rx ry h;obtain⟨hs,q⟩:=h;cases x with
 | non=>
  cases rx;cases y with
  | non=>cases ry;exact PySem.EqNone.eq_none_none (bZ I q ζ)
  | bl j=>cases ry;exact PySem.EqNone.eq_none_bool (bZ I q ζ)
  | int j=>obtain⟨t',rfl⟩:=ry;exact PySem.EqNone.eq_none_int (bZ I q ζ)
  | str j=>obtain⟨t',rfl⟩:=ry;exact PySem.EqNone.eq_none_str (bZ I q ζ)
  | _=>exact absurd (show false=true from hs) AZ
 | bl i=>
  cases rx;cases y with
  | non=>cases ry;exact PySem.EqNone.eq_bool_none (bZ I q ζ)
  | bl j=>cases ry;exact eq_bool (bZ I q Yc)
  | str j=>obtain⟨t',rfl⟩:=ry;exact PySem.EqMixed.eq_bool_str (bZ I q ζ)
  | _=>exact absurd (show false=true from hs) AZ
 | int i=>
  obtain⟨t,rfl⟩:=rx;cases y with
  | non=>cases ry;exact PySem.EqNone.eq_int_none (bZ I q ζ)
  | int j=>obtain⟨t',rfl⟩:=ry;exact eq_int (bZ I q Qm)
  | str j=>obtain⟨t',rfl⟩:=ry;exact PySem.EqMixed.eq_int_str (bZ I q ζ)
  | _=>exact absurd (show false=true from hs) AZ
 | str i=>
  obtain⟨t,rfl⟩:=rx;cases y with
  | non=>cases ry;exact PySem.EqNone.eq_str_none (bZ I q ζ)
  | bl j=>cases ry;exact PySem.EqMixed.eq_str_bool (bZ I q ζ)
  | int j=>obtain⟨t',rfl⟩:=ry;exact PySem.EqMixed.eq_str_int (bZ I q ζ)
  | str j=>obtain⟨t',rfl⟩:=ry;exact eq_str (bZ I q Ql)
  | _=>exact absurd (show false=true from hs) AZ
 | byt i=>
  obtain⟨t,rfl⟩:=rx;cases y with
  | byt j=>obtain⟨t',rfl⟩:=ry;exact PySem.W.eq_bytes (bZ I q Qn)
  | _=>exact absurd (show false=true from hs) AZ
 | _=>cases y <;> exact absurd (show false=true from hs) AZ
theorem ad4:OpR X (CU .NotEq) rNe:=by
 intro pins s σ H x y v u Q I rx ry h;obtain⟨hs,q⟩:=h;cases x with
 | non=>
  cases rx;cases y with
  | non=>cases ry;exact PySem.EqNone.ne_none_none (bZ I q ζ)
  | bl j=>cases ry;exact PySem.EqNone.ne_none_bool (bZ I q ζ)
  | int j=>obtain⟨t',rfl⟩:=ry;exact PySem.EqNone.ne_none_int (bZ I q ζ)
  | str j=>obtain⟨t',rfl⟩:=ry;exact PySem.EqNone.ne_none_str (bZ I q ζ)
  | _=>exact absurd (show false=true from hs) AZ
 | bl i=>
  cases rx;cases y with
  | non=>cases ry;exact PySem.EqNone.ne_bool_none (bZ I q ζ)
  | bl j=>cases ry;exact ne_bool (bZ I q (congrArg not Yc))
  | str j=>obtain⟨t',rfl⟩:=ry;exact PySem.EqMixed.ne_bool_str (bZ I q ζ)
  | _=>exact absurd (show false=true from hs) AZ
 | int i=>
  obtain⟨t,rfl⟩:=rx;cases y with
  | non=>cases ry;exact PySem.EqNone.ne_int_none (bZ I q ζ)
  | int j=>obtain⟨t',rfl⟩:=ry;exact ne_int (bZ I q (congrArg not Qm))
  | str j=>obtain⟨t',rfl⟩:=ry;exact PySem.EqMixed.ne_int_str (bZ I q ζ)
  | _=>exact absurd (show false=true from hs) AZ
 | str i=>
  obtain⟨t,rfl⟩:=rx;cases y with
  | non=>cases ry;exact PySem.EqNone.ne_str_none (bZ I q ζ)
  | bl j=>cases ry;exact PySem.EqMixed.ne_str_bool (bZ I q ζ)
  | int j=>obtain⟨t',rfl⟩:=ry;exact PySem.EqMixed.ne_str_int (bZ I q ζ)
  | str j=>obtain⟨t',rfl⟩:=ry;exact ne_str (bZ I q (congrArg not Ql))
  | _=>exact absurd (show false=true from hs) AZ
 | byt i=>
  obtain⟨t,rfl⟩:=rx;cases y with
  | byt j=>obtain⟨t',rfl⟩:=ry;exact PySem.W.ne_bytes (bZ I q (congrArg not Qn))
  | _=>exact absurd (show false=true from hs) AZ
 | _=>cases y <;> exact absurd (show false=true from hs) AZ
theorem xg:OpR X (CU .Lt) (rI0 λi j=>.bl (decide (i<j))):=aaB λ_ _ _ _ _ _ _ q=>lt_int q
theorem zQ:OpR X (CU .LtE) (rI0 λi j=>.bl (decide (i<=j))):=aaB λ_ _ _ _ _ _ _ q=>le_int q
theorem Wk:OpR X (CU .Gt) (rI0 λi j=>.bl (decide (j<i))):=aaB λ_ _ _ _ _ _ _ q=>gt_int q
theorem ad5:OpR X (CU .GtE) (rI0 λi j=>.bl (decide (j<=i))):=aaB λ_ _ _ _ _ _ _ q=>ge_int q
theorem aR(b:Expr){op:CmpOp}(h:op≠.In:=by decide)(h2:op≠.NotIn:=by decide):HQ op b=false:=by
 have e1:(op == CmpOp.In)=false:=by cases op <;> first|rfl|exact absurd Z h
 have e2:(op == CmpOp.NotIn)=false:=by cases op <;> first|rfl|exact absurd Z h2
 cases b <;> simp[HQ,e1,e2]
theorem aat{op:CmpOp}{r:R2}(ho:OpR X (CU op) r)(ha:PE X a ta)(hb:PE X b tb)(hm:HQ op b=false):PE X (.Compare a [op] [b] pos) (tOp r ta tb):=by
 intro pins s σ H Q I h;exact wpAny_Compare1 (adu ha hb I h λv u s2 x y H2 I2 rx ry q=>ho pins s2 σ H2 x y v u Q I2 rx ry q) hm
def Hv(t:TE):TT:=λσ H Q=>t σ H λx H'=>∃k,x=.bl k/\Q k H'
theorem ZS{op:CmpOp}{r:R2}(ho:OpR X (CU op) r)(ha:PE X a ta)(hb:PE X b tb)(hm:HQ op b=false):PT X (.Compare a [op] [b] pos) (Hv (tOp r ta tb)):=by
 intro pins s σ H Q I h;refine wpAny_isTrue_Compare1 (thE (ha pins s σ H _ I h) λv s1 x H1 I1 r1 q1=>thE (hb pins s1 σ H1 _ I1 q1) λu s2 y H2 I2 r2 q2=>
  thn (ho pins s2 σ H2 x y v u _ I2 r1 r2 q2) λc s3 ⟨z,H3,I3,r3,k,e,q3⟩=>?_) hm
 subst e;cases r3;exact E6 ⟨H3,I3,q3⟩
def KC(r r':R2)(ta tb tc:TE):TE:=λσ H Q=>ta σ H λx H1=>tb σ H1 λy H2=>r x y H2 λz H3=>∃k,z=.bl k /\
 (if k=true then tc σ H3 λw' H4=>r' y w' H4 Q else Q (.bl false) H3)
theorem Wg{op op':CmpOp}{r r':R2}(ho:OpR X (CU op) r)(ho':OpR X (CU op') r')(ha:PE X a ta)(hb:PE X b tb)(hc:PE X c tc)
  (hm:lastMarks [op,op'] [b,c]=false:=by with_unfolding_all rfl):PE X (.Compare a [op,op'] [b,c] pos) (KC r r' ta tb tc):=by
 intro pins s σ H Q I h;refine Compare_chain (thE (ha pins s σ H _ I h) λv s1 x H1 I1 r1 q1=>chain_link (thE (hb pins s1 σ H1 _ I1 q1) λu s2 y H2 I2 r2 q2=>
  thn (ho pins s2 σ H2 x y v u _ I2 r1 r2 q2) λd s3 ⟨z,H3,I3,r3,k,e,q3⟩=>?_)) hm
 subst e;cases r3;refine E6 ?_;cases k with
 | false=>exact ite_ff ⟨.bl false,H3,I3,rfl,q3⟩
 | true=>exact ite_tt (chain_last (thn (hc pins s3 σ H3 _ I3 q3) λw' s4 ⟨z',H4,I4,r4,q4⟩=>ho' pins s4 σ H4 y z' u w' Q I4 r2 r4 q4))
def aeV(K:AD)(x:V)(H:Hp)(k:Bool):Prop:=
 match x with
 | .non=>k=false
 | .bl b=>k=b
 | .int i=>k=(i != 0)
 | .str y=>y.length<=AK/\k=((y.length:Int) != 0)
 | .byt y=>y.size<=AK/\k=((y.size:Int) != 0)
 | .ref p=>(∃xs,SqL K H p xs/\k=!xs.isEmpty)\/(∃xs,SqT K H p xs/\k=!xs.isEmpty)\/∃kvs,H p=GT (.dK kvs)/\k=!kvs.isEmpty
 | _=>False
theorem Mv{κ:Type}{kvs:List (κ×V)}{vs:List (κ×Ap)}(r:KV kvs vs):(!vs.isEmpty)=!kvs.isEmpty:=by
 cases r <;> rfl
theorem Ao{xs:List V}{its:List Ap}(r:Vals xs its):(!its.toArray.isEmpty)=!xs.isEmpty:=by
 cases r <;> simp
theorem Ak:(AK:Nat)<2^63:=by rw[IZ];decide
theorem abN:aeW X (λx H Q=>∃k,aeV X.K x H k/\Q k H):=by
 intro pins s σ H x v Q I rx h;obtain⟨k,e,q⟩:=h;have hl:=Ak;have hs:AK=16777216:=IZ;cases x with
 | non=>
  cases rx;have e':k=false:=e;subst e';exact truthy_none ⟨H,I,q⟩
 | bl b=>
  cases rx;have e':k=b:=e;subst e';exact E6 ⟨H,I,q⟩
 | int i=>
  obtain⟨t,rfl⟩:=rx;have e':k=(i != 0):=e;subst e';exact PySem.P.truthy_int ⟨H,I,q⟩
 | str y=>
  obtain⟨t,rfl⟩:=rx;obtain⟨hy,e'⟩:y.length<=AK/\k=((y.length:Int) != 0):=e;subst e';exact PySem.P.truthy_str ω ⟨H,I.tok _,q⟩
 | byt y=>
  obtain⟨t,rfl⟩:=rx;obtain⟨hy,e'⟩:y.size<=AK/\k=((y.size:Int) != 0):=e;subst e';exact PySem.W.truthy_bytes ω ⟨H,I.tok _,q⟩
 | ref p=>
  cases rx;have e':(∃xs,SqL X.K H p xs/\k=!xs.isEmpty)\/(∃xs,SqT X.K H p xs/\k=!xs.isEmpty)\/∃kvs,H p=GT (.dK kvs)/\k=!kvs.isEmpty:=e;rcases e' with⟨xs,hx,e'⟩|⟨xs,hx,e'⟩|⟨kvs,hx,e'⟩
  ·subst e';obtain⟨its,r,pl,hz⟩:=I.list hx;have hlen:=r.length;exact wpAny_truthy_list pl.isList (by simp only[AX];omega) ⟨H,I.tok _,by rw[Ao r];exact q⟩
  ·subst e';obtain⟨its,r,pl,hz⟩:=I.tuple hx;have hlen:=r.length;exact truthy_tuple pl (by simp only[AX];omega) ⟨H,I.tok _,by rw[Ao r];exact q⟩
  subst e';obtain⟨hz,hS,vs,r,m⟩:kvs.length<=AK/\(p == DV)=false/\∃vs,KV kvs vs/\s.heap.DictOf (bI X.prog X.w) p vs:=I.hok p _ hx;have hlen:kvs.length=vs.length:=Mb r;exact wpAny_truthy_dict hS m ω ⟨H,I.tok _,by rw[Mv r];exact q⟩
 | _=>exact(show False from e).elim
theorem vals1{x:V}{us:List Ap}(r:Vals [x] us):∃u,us=[u]/\RelV x u:=by
 cases r with
 | cons r1 r2=>cases r2;exact⟨_,rfl,r1⟩
theorem vals2{x y:V}{us:List Ap}(r:Vals [x,y] us):∃u w',us=[u,w']/\RelV x u/\RelV y w':=by
 cases r with
 | cons r1 r2=>
  cases r2 with
  | cons r3 r4=>cases r4;exact⟨_,_,rfl,r1,r3⟩
theorem J7:gq X (.builtin "abs") (λxs H Q=>∃i,xs=[.int i]/\Q (.int (if i<0 then -i else i)) H):=by
 intro pins s σ H xs us Q I r h;obtain⟨i,rfl,q⟩:=h;obtain⟨u,rfl,t,rfl⟩:=vals1 r;exact call_abs_int λu tk=>⟨.int (if i<0 then -i else i),H,I.tok _,⟨_,rfl⟩,q⟩
theorem Te(hc:X.calm=true):gq X (.builtin "max") (λxs H Q=>∃i j,xs=[.int i,.int j]/\Q (.int (if j>i then j else i)) H):=by
 intro pins s σ H xs us Q I r h;obtain⟨i,j,rfl,q⟩:=h;obtain⟨u,w',rfl,⟨t,rfl⟩,⟨t',rfl⟩⟩:=vals2 r;refine max_two_ints (I.ok.hd hc) λh' tk k=>⟨_,H,I.kept k,?_,q⟩;by_cases hj:j>i
 ·rw[if_pos hj,if_pos hj];exact⟨_,rfl⟩
 rw[if_neg hj,if_neg hj];exact⟨_,rfl⟩
theorem Td(hc:X.calm=true):gq X (.builtin "min") (λxs H Q=>∃i j,xs=[.int i,.int j]/\Q (.int (if j<i then j else i)) H):=by
 intro pins s σ H xs us Q I r h;obtain⟨i,j,rfl,q⟩:=h;obtain⟨u,w',rfl,⟨t,rfl⟩,⟨t',rfl⟩⟩:=vals2 r;refine min_two_ints (I.ok.hd hc) λh' tk k=>⟨_,H,I.kept k,?_,q⟩;by_cases hj:j<i
 ·rw[if_pos hj,if_pos hj];exact⟨_,rfl⟩
 rw[if_neg hj,if_neg hj];exact⟨_,rfl⟩
theorem Fe:gq X (.type "int") (λxs H Q=>(∃i,xs=[.int i]/\Q (.int i) H)\/∃k,xs=[.bl k]/\Q (.int (if k then 1 else 0)) H):=by
 intro pins s σ H xs us Q I r h;rcases h with⟨i,rfl,q⟩|⟨k,rfl,q⟩
 ·obtain⟨u,rfl,t,rfl⟩:=vals1 r;exact call_int_int ⟨.int i,H,I,⟨_,rfl⟩,q⟩
 obtain⟨u,rfl,r1⟩:=vals1 r;cases r1;exact call_int_bool ⟨.int (if k then 1 else 0),H,I.tok _,⟨_,rfl⟩,q⟩
end
structure adx(h:Heap)(x dx C:ID)(mA:Str->Option Ap):Prop where
 obj:h.get? x=GT (PySem.W.instObj C dx)
 ns:h.Ns1 dx mA
 ne:dx≠x
theorem RX{h:Heap}{dx:ID}{mA:Str->Option Ap}(n:h.Ns1 dx mA):∃od,h.get? dx=GT od/\∀name,PySem.W.lookIn name od=GT (mA name):=by
 obtain⟨o,es,ep,ho,hd,hk,_,hm⟩:=n;refine⟨o,ho,λname=>?_⟩;have e:=hm name;unfold nsFind findBy at e;rw[<- Array.find?_toList] at e;unfold PySem.W.lookIn;rw[hd];dsimp only;split
 ·rename_i y q;rw[q] at e;exact congrArg GT e
 rename_i q;rw[q] at e;have a:es.toList.any (·.refKey)=false:=by
  rw[List.any_eq_false];intro y hy;obtain⟨z,t,hkey⟩:=hk y (Array.mem_toList_iff.mp hy);simp[DictEntry.refKey,hkey]
 have a':¬es.toList.any (·.refKey)=true:=by rw[a];exact AZ
 rw[if_neg a'];exact congrArg GT e
theorem adx.look{h:Heap}{x dx C:ID}{mA:Str->Option Ap}(I:adx h x dx C mA):∃od,PySem.W.InstAt h x (PySem.W.instObj C dx) C (GT od)/\∀name,PySem.W.lookIn name od=GT (mA name):=
 let ⟨od,ho,hl⟩:=RX I.ns
 ⟨od,⟨I.obj,rfl,rfl,ho⟩,hl⟩
theorem BW.some_of{v:V}{o:Option Ap}(r:BW (GT v) o):∃u,o=GT u/\RelV v u:=by
 cases o with
 | none=>exact(show False from r).elim
 | some u=>exact⟨u,rfl,r⟩
section
variable {P:AR}{w:A9}{H H':Hp}{h h':Heap}{a C dx:ID}{fs fs':List (Str×V)}
theorem aaZ(hok:HOk P w H h)(e:H a=GT (.ins C dx fs)):∃mA,adx h a dx C mA/\(∀f,BW (fs.lookup f) (mA f))/\PySem.Within mA (fs.map (·.1))/\fs.length<=1000/\H dx=GT (.own a):=by
 obtain⟨d,z,ne,ob,mA,n,r,q⟩:=(show cD P w H h a (.ins C dx fs) from hok a _ e);exact⟨mA,⟨ob,n,ne⟩,r,q,z,d⟩
end
structure Cls(K:AD)(C:ID):Prop where
 pg:PySem.W.plainGet K C Str.empty=true
 hd:PySem.W.hasDictIn K C=true
 po:PySem.W.plainOver K C=true
 sa:II K (.ref C) "__setattr__" = GT (GT (.builtin "object.__setattr__"))
theorem Cls.get{K:AD}{C:ID}(c:Cls K C)(f:Str):PySem.W.plainGet K C f=true:=c.pg
section
variable {X:Cx}{pins:List (ID×Obj)}{σ:St}{H:Hp}{s:AA}{A:A5}{E:Ap->AA->Prop}{Q:Ap->AA->Prop}{c:Ap}{b:Bool}
inductive vP (K:AD)(H:Hp):V->Ap->Prop where
 | non:vP K H .non (.type "NoneType")
 | bl (x:Bool):vP K H (.bl x) (.type "bool")
 | int (i:Int):vP K H (.int i) (.type "int")
 | str (x:Str):vP K H (.str x) (.type "str")
 | flt (x:UInt64):vP K H (.flt x) (.type "float")
 | lst {a:ID} {xs:List V} (e:H a=GT (.lst xs)):vP K H (.ref a) (.type "list")
 | frz {a:ID} {o:Obj} {xs:List V} (e:H a=GT (.frz o (.lst xs))):vP K H (.ref a) (.type "list")
 | tup {a:ID} {xs:List V} (e:H a=GT (.tup xs)):vP K H (.ref a) (.type "tuple")
 | dK {a:ID} {kvs:List (Key×V)} (e:H a=GT (.dK kvs)):vP K H (.ref a) (.type "dict")
 | dT {a:ID} {kvs:List (List Key×V)} (e:H a=GT (.dT kvs)):vP K H (.ref a) (.type "dict")
 | ins {a C dx:ID} {fs:List (Str×V)} (e:H a=GT (.ins C dx fs)) (cl:Cls K C) (ha:II K (.ref C) "__class__" = GT (GT (.builtin "object.__class__")))
   (hn:PySem.W.specialIn K (.builtin "object.__class__") "__get__" = GT (GT (.builtin "getset_descriptor.__get__"))) (htk:PySem.W.takesIn K (.builtin "object.__class__")=GT true)
   (hm:PySem.W.mroIn K C (.type "object")=GT true):vP K H (.ref a) (.ref C)
theorem R6{x:V}{u t:Ap}(I:Inv X pins σ H s)(rx:RelV x u)(ty:vP X.K H x t)(e:kitOne X.K t c=GT b)(h:∀tk,Q (.bool b) { s with toks:=tk }) :
  AG (AJ X.prog X.w) A (call (.builtin "isinstance") [u,c]) Q E s:=by
 cases ty with
 | non=>cases (show u=Ap.none from rx);exact DT PySem.W.kitx_none I.kIn GM e (λz=>nomatch z) h
 | bl y=>cases (show u=GE y from rx);exact DT PySem.W.kitx_bool I.kIn GM e (λz=>nomatch z) h
 | int i=>obtain⟨t,q⟩:=(show ∃t,u=DO i t from rx);cases q;exact DT PySem.W.kitx_int I.kIn GM e (λz=>nomatch z) h
 | str y=>obtain⟨t,q⟩:=(show ∃t,u=Ap.str y t from rx);cases q;exact DT PySem.W.kitx_str I.kIn GM e (λz=>nomatch z) h
 | flt y=>obtain⟨t,q⟩:=(show ∃t,u=Ap.float y t from rx);cases q;exact DT PySem.W.kitx_float I.kIn GM e (λz=>nomatch z) h
 | @lst a xs ea=>
  cases (show u=Do a from rx);obtain⟨_,_,n,_,h1⟩:=(show cD X.prog X.w H s.heap a (.lst xs) from I.hok a _ ea);exact DT PySem.W.kitx_list I.kIn ⟨_,h1,rfl⟩ e (λz=>nomatch z) h
 | @frz a ob xs ea=>
  cases (show u=Do a from rx);obtain⟨_,_,_,n,_,h1⟩:=(show cD X.prog X.w H s.heap a (.frz ob (.lst xs)) from I.hok a _ ea);exact DT PySem.W.kitx_list I.kIn ⟨_,h1,rfl⟩ e (λz=>nomatch z) h
 | @tup a xs ea=>
  cases (show u=Do a from rx);obtain⟨_,_,_,p⟩:=(show cD X.prog X.w H s.heap a (.tup xs) from I.hok a _ ea);obtain⟨o,h1,h2,_⟩:=p;exact DT PySem.W.kitx_tuple I.kIn ⟨o,h1,h2⟩ e (λz=>nomatch z) h
 | @dK a kvs ea=>
  cases (show u=Do a from rx);obtain⟨_,_,vs,_,p⟩:=(show cD X.prog X.w H s.heap a (.dK kvs) from I.hok a _ ea);obtain⟨o,es,ep,h1,h2,_⟩:=p;exact DT PySem.W.kitx_dict I.kIn ⟨o,h1,h2.1⟩ e (λz=>nomatch z) h
 | @dT a kvs ea=>
  cases (show u=Do a from rx);obtain⟨_,_,xs,_,o,es,ep,h1,h2,_⟩:=(show cD X.prog X.w H s.heap a (.dT kvs) from I.hok a _ ea);exact DT PySem.W.kitx_dict I.kIn ⟨o,h1,h2.1⟩ e (λz=>nomatch z) h
 | @ins a C dx fs ea cl ha hn htk hm=>
  cases (show u=Do a from rx);obtain⟨mA,O,_⟩:=aaZ I.hok ea;obtain⟨od,J,_⟩:=O.look;exact DT (PySem.W.kitx_own (cl.get _) cl.hd ha hn htk hm) I.kIn J e (λz=>nomatch z) h
end
structure jg(k:Nat)(A:A5):Prop where
 hd:A.handled=Is
 dp:A.depth+3*k+5<recursionLimit
 un:A.units+16*k+200<FU
 gd:A.guards=GT []
theorem jg.mono{j k:Nat}{A:A5}(r:jg k A)(h:j<=k):jg j A:=⟨r.hd,by have:=r.dp;omega,by have:=r.un;omega,r.gd⟩
theorem jg.deeper{k:Nat}{A:A5}(r:jg (k+1) A)(env:Env):jg k (A.deeper env):=
 ⟨r.hd,by have:=r.dp;show A.depth+1+3*k+5<_;omega,by have:=r.un;show A.units+3+16*k+200<_;omega,r.gd⟩
theorem jg.depth{k:Nat}{A:A5}(r:jg k A):A.depth<recursionLimit:=by have:=r.dp;omega
theorem jg.bD{k:Nat}{A:A5}(r:jg k A):A.units<FU:=by have:=r.un;omega
def Kw:TA:=λ_ H Q=>Q [] H
def wV(ta:TE)(tr:TA):TA:=λσ H Q=>ta σ H λx H1=>tr σ H1 λxs H2=>Q (x::xs) H2
section
variable {X:Cx}{e:Expr}{es:List Expr}{te:TE}{t:TA}{pos:Pos}
theorem acH:PA X [] Kw:=λ_ _ _ _ H Q I h=>B6 ⟨[],H,I,.nil,h⟩
theorem aax(ha:PE X e te)(hr:PA X es t)(hs:AH (e::es) X.env=(false,eval e X.env)::AH es X.env:=by rfl):PA X (e::es) (wV te t):=by
 intro pos pins s σ H Q I h;rw[hs];show AG _ _ (L3 ((false,eval e X.env)::CS pos (AH es X.env))) _ _ s;refine B9 (thE (ha pins s σ H _ I h) λu s1 x H1 I1 r1 q1=>?_);exact thA (hr pos pins s1 σ H1 _ I1 q1) λus s2 xs H2 I2 r2 q2=>⟨x::xs,H2,I2,.cons r1 r2,q2⟩
def Kv(t:TA):TE:=λσ H Q=>t σ H λxs H1=>xs.length<=AK/\∀p,H1 p=Is->Q (.ref p) (upd H1 p (.tup xs))
def QZ(t:TA):TE:=λσ H Q=>t σ H λxs H1=>xs.length<=AK/\∀p,H1 p=Is->Q (.ref p) (upd H1 p (.lst xs))
theorem acy{x1}(h:PA X es t):PE X (.Tuple es x1 pos) (Kv t):=by
 intro pins s σ H Q I hq;refine wpAny_Tuple_spliced (thn (h pos pins s σ H _ I hq) λus s1 ⟨xs,H1,I1,r,z,q⟩=>⟨by rw[<- r.length];exact z,?_⟩);have hf:H1 s1.heap.objs.size=Is:=I1.hok.fresh (AU _);refine⟨.ref s1.heap.objs.size,upd H1 s1.heap.objs.size (.tup xs),I1.laid (t':=s1.toks) (λb u e=>AB _ e) (AU _) ?_,rfl,q _ hf⟩;exact⟨z,us,r,⟨_,AO _ rfl,rfl,_,rfl⟩⟩
theorem acD(h:PA X es t):PE X (.List es pos) (QZ t):=by
 intro pins s σ H Q I hq;refine wpAny_List_spliced (thn (h pos pins s σ H _ I hq) λus s1 ⟨xs,H1,I1,r,z,q⟩=>⟨by rw[<- r.length];exact z,?_⟩);have hf:H1 s1.heap.objs.size=Is:=I1.hok.fresh (AU _);refine⟨.ref s1.heap.objs.size,upd H1 s1.heap.objs.size (.lst xs),I1.laid (t':=s1.toks) (λb u e=>AB _ e) (AU _) ?_,rfl,q _ hf⟩;exact⟨z,us,0,r,AO _ rfl⟩
end
abbrev Sp:=List V->Hp->VK->XK->Prop
abbrev CXT:=List Env->Hp->AA->XK->Ap->AA->Prop
structure abq(P:AR)(w:A9)(K:AD)(mg:Str->Option Ap)(base:Heap)(A:A5)(outer:List Env)(s:AA)(H:Hp):Prop where
 frames:A.frames=GT outer
 mod:Mod K mg base
 bs:∀b o,base.get? b=GT o->s.heap.get? b=GT o/\H b=Is
 bsz:base.objs.size<=s.heap.objs.size
 yH:s.heap.FunFrames base outer
 frf:∀b∈frs outer,H b=Is
 hok:HOk P w H s.heap
 bare:KG s.gens
def CE(outer:List Env)(P:AR)(w:A9)(H:Hp)(s:AA)(Q:VK)(u:Ap)(s':AA):Prop:=
 ∃v H',s'.os=s.os/\KG s'.gens/\Un (frs outer) [] H H' s.heap s'.heap/\HOk P w H' s'.heap/\RelV v u/\Q v H'
def CR(CX:CXT)(outer:List Env)(P:AR)(w:A9)(H:Hp)(s:AA)(Q:VK)(E:XK)(r:Result)(s':AA):Prop:=
 match r with
 | .ok (.ret u)=>CE outer P w H s Q u s'
 | .ok _=>False
 | .error e=>CX outer H s E e s'
structure cQ(P:AR)(w:A9)(K:AD)(mg:Str->Option Ap)(base:Heap)(CX:CXT)(k:Nat)(f:ID)(fd:D6)(ps:List Str)(sp:Sp):Prop where
 len:∀vs H Q E,sp vs H Q E->vs.length=ps.length
 run:∀(A:A5)(outer:List Env)(s:AA)(H:Hp)(args:Args)(us:List Ap)(vs:List V)(Q:VK)(E:XK),jg k A->abq P w K mg base A outer s H->BindsTo s fd args (ps.zip us)->Vals vs us->sp vs H Q E ->
  DL (AJ P w) A (.call (.ref f) args) (CR CX outer P w H s Q E) s
section
variable {X:Cx}{pins:List (ID×Obj)}{σ:St}{H:Hp}{s s':AA}
theorem Inv.env0(I:Inv X pins σ H s):abq X.prog X.w X.K X.mg X.base X.A X.stack s H:=
 ⟨I.ok.frames,I.ok.mod,I.bs,CF I.ok.bsz I.sz,I.stack,I.Oe,I.hok,I.bare⟩
theorem Inv.after{Q:VK}{u:Ap}(I:Inv X pins σ H s)(h:CE X.stack X.prog X.w H s Q u s'):EP X pins σ Q u s':=by
 obtain⟨v,H',os,bare,un,hok,r,q⟩:=h;obtain⟨hh,g,d,t,os'⟩:=s';obtain rfl:os'=s.os:=os;exact⟨v,H',I.call (h':=hh) (g':=g) (d':=d) (t':=t) (ch:=[]) un hok bare (λb z=>absurd z ζ),r,q⟩
end
def yX(sp:Sp)(dvs:List V)(E:XK)(t:TA):TE:=λσ H Q=>t σ H λvs H1=>sp (vs++dvs) H1 Q E
def Binds(K:AD)(fd:D6)(ps:List Str)(ds:List Ap):Prop:=
 ∀(s:AA)(us:List Ap),K.In s.heap->(us++ds).length=ps.length->BindsTo s fd ⟨us,[]⟩ (ps.zip (us++ds))
theorem Binds.all{K:AD}{fd:D6}{ps:List Str}(h:∀us:List Ap,us.length=ps.length->bindArgs fd ⟨us,[]⟩=pure (ps.zip us)):Binds K fd ps []:=λs us _ hl=>by
 rw[EK] at hl |-;exact .of_eq (h us hl)
def N6(CX:CXT)(X:Cx)(E:XK):Prop:=∀(pins:List (ID×Obj)) (σ:St) (H:Hp) (s:AA) (e:Ap) (s':AA),Inv X pins σ H s->CX X.stack H s E e s'->X.xe e s'
section
variable {X:Cx}{CX:CXT}{k:Nat}{f C:ID}{fd:D6}{ps:List Str}{sp:Sp}{dvs:List V}{ds:List Ap}{E:XK}{x m:Str}{p pos apos:Pos}{e o:Expr}{es:List Expr}{ta:TE}{t:TA}
theorem ab0{pins:List (ID×Obj)}{σ:St}{H:Hp}{s:AA}{Q:VK}{us:List Ap}{vs:List V}(F:cQ X.prog X.w X.K X.mg X.base CX k f fd ps sp)(hr:jg k X.A)(hb:Binds X.K fd ps ds)(hd:Vals dvs ds)(hx:N6 CX X E)
  (I:Inv X pins σ H s)(r:Vals vs us)(h:sp (vs++dvs) H Q E):AG (AJ X.prog X.w) X.A (call (.ref f) us) (EP X pins σ Q) X.xe s:=by
 have r2:Vals (vs++dvs) (us++ds):=r.append hd;have hl:(us++ds).length=ps.length:=by rw[<- r2.length];exact F.len _ _ _ _ h
 refine wpAny_call (IC (F.run X.A X.stack s H ⟨us,[]⟩ (us++ds) (vs++dvs) Q E hr I.env0 (hb s us I.kIn hl) r2 h) λr s' hq=>?_);cases r with
 | error e=>exact hx pins σ H s e s' I hq
 | ok fl=>
  cases fl with
  | ret u=>exact I.after hq
  | next=>exact F0 hq
  | brk=>exact F0 hq
  | cont=>exact F0 hq
theorem aau(F:cQ X.prog X.w X.K X.mg X.base CX k f fd ps sp)(hr:jg k X.A)(hg:Gl X x)(hm:X.mg x=GT (.ref f))(hk:keepIn X.K (.ref f)=true)(hb:Binds X.K fd ps ds)(hd:Vals dvs ds)(hx:N6 CX X E)
  (ha:PA X (e::es) t)(hdb:(x == ("__debug__" : Str))=false:=by decide)(he:AH (e::es) X.env=(false,eval e X.env)::AH es X.env:=by rfl)(hpl:(CS pos (AH es X.env)).any (·.1)=false:=by rfl) :
  PE X (.Call (.Name x p) (e::es) [] pos) (yX sp dvs E t):=by
 intro pins s σ H Q I h;refine Ex (Pz I hg hm ?_ hdb);refine PySem.W.callWith_K (h₀:=X.base) I.ok.mod.kin hk (thA (ha pos pins s σ H _ I h) λus s1 vs H1 I1 r q=>⟨I1.kIn,?_⟩) he hpl;exact ab0 F hr hb hd hx I1 r q
end
structure aZ(N P:List Str)(sc:E5):Prop where
 kind:sc.kind=.function
 co:sc.isCoroutine=false
 gen:sc.isGenerator=false
 nd:N.Nodup
 pre:N.take P.length=P
 par:∀x∈P,sc.names.lookup x=GT .local\/sc.names.lookup x=GT .cell
 nofree:∀y∈sc.names,y.2≠.free
theorem Fg{kindOf:Str->Option DE}{x:Str}:∀{binds:List (Str×Ap)}{m:Str->Option Ap},(∀v,(x,v)∉binds)->bindL kindOf binds m x=m x
 | [],_,_=>rfl
 | (n,v)::r,m,h=>by
  unfold bindL;rw[Fg λw hw=>h w (BE _ hw)];split
  ·have:x≠n:=by rintro rfl;exact h v A7
   simp[this]
  rfl
theorem Fj{kindOf:Str->Option DE}{x:Str}:∀{binds:List (Str×Ap)}{m:Str->Option Ap},(∀v,(x,v)∉binds)->bindC kindOf binds m x=m x
 | [],_,_=>rfl
 | (n,v)::r,m,h=>by
  unfold bindC;rw[Fj λw hw=>h w (BE _ hw)];split
  ·rfl
  have:x≠n:=by rintro rfl;exact h v A7
  simp[this]
theorem Fi{kindOf:Str->Option DE}{x:Str}{v:Ap}:∀{P:List Str}{vs:List Ap}{i:Nat}{m:Str->Option Ap},P.Nodup->P[i]?=GT x->vs[i]?=GT v->kindOf x=GT .local ->
  bindL kindOf (P.zip vs) m x=GT v
 | [],_,_,_,_,h,_,_=>by simp at h
 | _::_,[],_,_,_,_,h,_=>by simp at h
 | p::P,w::vs,0,m,nd,h1,h2,hk=>by
  simp at h1 h2;subst h1;subst h2;show bindL kindOf ((p,w)::P.zip vs) m p=_;unfold bindL;rw[Fg λv hv=>(GN.mp nd).1 (of_mem_zip hv).1,if_pos hk];simp
 | p::P,w::vs,i+1,m,nd,h1,h2,hk=>by
  show bindL kindOf ((p,w)::P.zip vs) m x=_;unfold bindL;exact Fi (i:=i) (GN.mp nd).2 (by simpa using h1) (by simpa using h2) hk
theorem Fl{kindOf:Str->Option DE}{x:Str}{v:Ap}:∀{P:List Str}{vs:List Ap}{i:Nat}{m:Str->Option Ap},P.Nodup->P[i]?=GT x->vs[i]?=GT v->kindOf x≠GT .local ->
  bindC kindOf (P.zip vs) m x=GT v
 | [],_,_,_,_,h,_,_=>by simp at h
 | _::_,[],_,_,_,_,h,_=>by simp at h
 | p::P,w::vs,0,m,nd,h1,h2,hk=>by
  simp at h1 h2;subst h1;subst h2;show bindC kindOf ((p,w)::P.zip vs) m p=_;unfold bindC;rw[Fj λv hv=>(GN.mp nd).1 (of_mem_zip hv).1,if_neg hk];simp
 | p::P,w::vs,i+1,m,nd,h1,h2,hk=>by
  show bindC kindOf ((p,w)::P.zip vs) m x=_;unfold bindC;exact Fl (i:=i) (GN.mp nd).2 (by simpa using h1) (by simpa using h2) hk
def start(N:List Str)(vs:List V):St:=vs.map GT++CA (N.length-vs.length) Is
def J1(CX:CXT)(P:AR)(w:A9)(K:AD)(mg:Str->Option Ap)(base:Heap)(N:List Str)(qual:Str)(scope:E5)(f:ID)(cd:Ap)(A:A5)(outer:List Env)(s:AA)(H:Hp)(E:XK):Cx where
 prog:=P
 w:=w
 K:=K
 mg:=mg
 base:=base
 A:=A.deeper (KO qual scope s.heap.objs.size f cd)
 N:=N
 s₀:=s
 H₀:=H
 env:=KO qual scope s.heap.objs.size f cd
 outer:=outer
 stack:=KO qual scope s.heap.objs.size f cd::outer
 ex:=[]
 calm:=true
 fn:=λ_=>true
 pn:=[]
 xe:=λe s'=>AG (AJ P w) (A.deeper (KO qual scope s.heap.objs.size f cd)) (leaving (KO qual scope s.heap.objs.size f cd) e) (λ_ s''=>CX outer H s E e s'') (λe' s''=>CX outer H s E e' s'') s'
theorem J5{sc:E5}{n:Nat}{x:Str}(h:sc.names.lookup x=GT .cell):∃c,(cellsFrom n sc.names []).lookup x=GT c:=by
 have q:=PySem.W.cellsFrom_some sc.names n [] (.inl h);exact Option.isSome_iff_exists.mp q
theorem R8{CX:CXT}{P:AR}{w:A9}{K:AD}{mg:Str->Option Ap}{base:Heap}{N ps:List Str}{qual:Str}{scope:E5}{f:ID}{cd:Ap}{A:A5}{outer:List Env}{s s1:AA}{H:Hp}{E:XK}{us:List Ap}{vs:List V}
  (S:aZ N ps scope)(hd:A.handled=Is)(e0:abq P w K mg base A outer s H)(hl:vs.length=ps.length)(r:Vals vs us)
  (x:InCallC s s.heap.objs.size (bindL (KO qual scope s.heap.objs.size f cd).kindOf (ps.zip us) λ_=>Is) (cellsFrom (s.heap.objs.size+1) scope.names []) (bindC (KO qual scope s.heap.objs.size f cd).kindOf (ps.zip us) λ_=>Is) s1) :
  Inv (J1 CX P w K mg base N qual scope f cd A outer s H E) [] (start N vs) H s1:=by
 have hpl:ps.length<=N.length:=by have:=congrArg List.length S.pre;rw[FF] at this;omega
 obtain⟨h1,tk,rfl,hk⟩:=x.done;have noA:∀b:ID,b∉(J1 CX P w K mg base N qual scope f cd A outer s H E).ex:=λb z=>absurd (show b∈([]:List ID) from z) ζ;refine⟨⟨e0.mod,S.kind,rfl,rfl,AU _,λy z c h1 h2=>?_,λy hy=>?_,λy c _ h=>?_,λ_=>hd,A5.frames_deeper e0.frames,.inr ⟨rfl,rfl⟩,λb z=>absurd z (noA b),e0.bs,e0.bsz,λb _ _=>noA b,λb z=>absurd z (noA b),e0.yH,e0.frf⟩,
  rfl,e0.bare,Un.kept hk,⟨_,x.toInCall.ns,λi y v h1 h2 h3=>?_⟩,λy c h=>⟨_,x.cell y c h⟩,e0.hok.fresh (AU _),λy c h=>?_,λp hp=>absurd (show p∈([]:List (ID×Obj)) from hp) ζ,e0.hok.kept hk,?_⟩
 ·exact name_of_addr x.apart (DH h1) (DH h2)
 ·have hy:scope.names.lookup y=GT .cell\/scope.names.lookup y=GT .free:=hy;rcases hy with hy|hy
  ·exact J5 hy
  exact absurd Z (S.nofree _ (DH hy))
 ·exact Lu (x.above y c (DH h))
 ·have hi:i<vs.length:=by
   unfold start at h2;by_cases hi:i<vs.length
   ·exact hi
   rw[B8 (by simpa using hi)] at h2;rw[List.getElem?_replicate] at h2;split at h2 <;> cases h2
  have ha:vs[i]?=GT v:=by
   unfold start at h2;rw[E8 (by simpa using hi),AQ] at h2;cases e:vs[i]? with
   | none=>rw[e] at h2;cases h2
   | some a=>rw[e] at h2;cases h2;rfl
  obtain⟨u,hu,rv⟩:=r.get ha;have hp:ps[i]?=GT y:=by
   rw[<- S.pre,List.getElem?_take_of_lt ω];exact h1
  have ndP:ps.Nodup:=by rw[<- S.pre];exact S.nd.sublist (List.take_sublist _ _)
  refine⟨u,rv,?_⟩;rcases S.par y (BB hp) with k|k
  ·exact .inl ⟨k,Fi ndP hp hu k⟩
  obtain⟨c,e⟩:=J5 (n:=s.heap.objs.size+1) k;refine .inr ⟨.inl k,c,e,?_⟩;have q:=x.cell y c e;rw[Fl ndP hp hu (by show scope.names.lookup y≠_;rw[k];decide)] at q;exact q
 ·exact e0.hok.fresh (Lu (x.above y c (DH h)))
 unfold start;show _=N.length;rw[AV,AE,List.length_replicate];omega
theorem aeo{CX:CXT}{P:AR}{w:A9}{K:AD}{mg:Str->Option Ap}{base:Heap}{k:Nat}{f:ID}{name qual:Str}{params:Arguments}{body:List Stmt}{scope:E5}{dV kV doc pm cdv ct oc:Ap}{an od:Option ID}
  {osl:Array (Option Ap)}{N ps:List Str}{sp:Sp}(lk:K.lookup f=GT ⟨oc,od,.func (fnOf name qual params body scope dV kV doc pm an cdv ct),osl⟩)(hcd:codeIn K cdv qual=true)(S:aZ N ps scope)
  (len:∀vs H Q E,sp vs H Q E->vs.length=ps.length)
   (hbody:∀(A:A5)(outer:List Env)(s:AA)(H:Hp)(vs:List V)(Q:VK)(E:XK),jg k (A.deeper (KO qual scope s.heap.objs.size f cdv))->sp vs H Q E ->
   ∃t,PSs (J1 CX P w K mg base N qual scope f cdv A outer s H E) body t/\t { nx:=λ_ H'=>Q .non H',rt:=Q } (start N vs) H) :
  cQ P w K mg base CX (k+1) f (fnOf name qual params body scope dV kV doc pm an cdv ct) ps sp:=by
 refine⟨len,λA outer s H args us vs Q E hr e0 hb r hsp=>?_⟩;have hl:=len _ _ _ _ hsp;have KX:K.In s.heap:=e0.mod.kin.keeps λb o e=>(e0.bs b o e).1;have lim:s.heap.NoLimit:=e0.mod.nolimit.keeps λb o e=>(e0.bs b o e).1;have hkind:∀y∈ps.zip us,scope.names.lookup y.1=GT .local\/(scope.names.lookup y.1=GT .cell/\((cellsFrom (s.heap.objs.size+1) scope.names []).lookup y.1).isSome=true):=λ⟨n,v⟩ hy=>by
  rcases S.par n (of_mem_zip hy).1 with q|q
  ·exact .inl q
  exact .inr ⟨q,PySem.W.cellsFrom_some _ _ _ (.inl q)⟩
 refine codeAny_call_function hr.depth (KX _ _ lk) Z S.co S.gen Z (PySem.W.codeRec_of KX hcd) (hb _ _ _ _ ?_);refine wpAny_newFunctionEnv_cells S.kind hkind λenv he s1 x=>?_;subst he;refine⟨lim.keeps x.toInCall.keep,codeAny_func ?_⟩;obtain⟨t,ht,hq⟩:=hbody A outer s H vs Q E (hr.deeper _) hsp;have I:Inv (J1 CX P w K mg base N qual scope f cdv A outer s H E) [] (start N vs) H s1:=R8 S hr.hd e0 hl r x;refine Bz (ht [] s1 (start N vs) H _ I hq) (λfl s' hs=>?_) λe s' hs=>hs;have fin:∀{σ':St}{H':Hp}{v:V}{u:Ap},Inv (J1 CX P w K mg base N qual scope f cdv A outer s H E) [] σ' H' s'->RelV v u->Q v H'->CE outer P w H s Q u s':=
  λ{σ' H' v u} J rv q=>⟨v,H',J.os,J.bare,J.base,J.hok,rv,q⟩
 cases fl with
 | ret u=>
  obtain⟨v,σ',H',J,rv,q⟩:=hs;exact fin J rv q
 | next=>
  obtain⟨σ',H',J,q⟩:=hs;exact fin (v:=V.non) (u:=Ap.none) J Z q
 | brk=>
  obtain⟨_,_,_,q⟩:=hs;exact F0 q
 | cont=>
  obtain⟨_,_,_,q⟩:=hs;exact F0 q
section
variable {X:Cx}{x:Str}{p pos:Pos}{e:Expr}{es:List Expr}{t:TA}{id T:String}{r:List V->Hp->VK->Prop}
def tCB(r:List V->Hp->VK->Prop)(t:TA):TE:=λσ H Q=>t σ H λvs H1=>r vs H1 Q
theorem Wh(hc:gq X (.builtin id) r)(hg:Gl X x)(hm:X.mg x=Is)(hv:EE x=GT (.builtin id))(ha:PA X (e::es) t)(hn:x ≠ "__name__" := by decide)(hdb:(x == ("__debug__" : Str))=false:=by decide)
  (he:AH (e::es) X.env=(false,eval e X.env)::AH es X.env:=by rfl) (hpl:(CS pos (AH es X.env)).any (·.1)=false:=by rfl):PE X (.Call (.Name x p) (e::es) [] pos) (tCB r t):=by
 intro pins s σ H Q I h;refine Ex (dW I hg hm hv ?_ hn hdb);exact HI (thA (ha pos pins s σ H _ I h) λus s1 vs H1 I1 r1 q1=>hc pins s1 σ H1 vs us Q I1 r1 q1) he hpl
theorem Rw(hc:gq X (.type T) r)(hg:Gl X x)(hm:X.mg x=Is)(hv:EE x=GT (.type T))(ha:PA X (e::es) t)(hn:x ≠ "__name__" := by decide)(hdb:(x == ("__debug__" : Str))=false:=by decide)
  (he:AH (e::es) X.env=(false,eval e X.env)::AH es X.env:=by rfl) (hpl:(CS pos (AH es X.env)).any (·.1)=false:=by rfl):PE X (.Call (.Name x p) (e::es) [] pos) (tCB r t):=by
 intro pins s σ H Q I h;refine Ex (dW I hg hm hv ?_ hn hdb);exact A3 (thA (ha pos pins s σ H _ I h) λus s1 vs H1 I1 r1 q1=>hc pins s1 σ H1 vs us Q I1 r1 q1) he hpl
end
end L2
open L2.HO renaming lst → AT,tup → By,dT → BY
open L2.V renaming int → As,str → At,ref → AS
namespace HT
open PySem PyProof.Rows
section
variable {prog:AR}{w:A9}{A:A5}{E:Ap->AA->Prop}{s:AA}
theorem abk{t b:ID}{vs ws:List Ap}{Q:Ap->AA->Prop}(ht:IsTup s.heap t vs.toArray)(hb:IsTup s.heap b ws.toArray)(hv:vs≠[])
  (h1:ws=[]->Q (.ref t) s)(h2:ws≠[]->Q (.ref s.heap.objs.size) { s with heap:=s.heap.push { cls:=.type "tuple",data:=.seq (vs++ws).toArray } })
  (hsz:vs.length+ws.length<=AK):AG (AJ prog w) A (E7 .Add (.ref t) (.ref b)) Q E s:=by
 obtain⟨⟨cls,dd,data,sl⟩,ho,hc,n,hd⟩:=id ht;obtain⟨⟨cls2,dd2,data2,sl2⟩,ho2,hc2,n2,hd2⟩:=id hb;simp only at hc hd hc2 hd2;subst hc hd hc2 hd2;have e:vs.toArray++ws.toArray=(vs++ws).toArray:=by simp
 by_cases hw:ws=[]
 ·exact concat_meets ⟨_,ho,rfl⟩ ⟨_,ho2,rfl⟩ noFill_tuple_add seq_tuple_add PySem.F.slot_tuple_add PySem.F.entry_tuple_add (PySem.F.args_tuple_add_2 _ _)
   (tuple_addW1 t b vs.toArray ws.toArray n n2 dd dd2 sl sl2 (by simpa using hv) (by simp[hw])) ⟨ho,ho2,h1 hw⟩
 refine concat_meets ⟨_,ho,rfl⟩ ⟨_,ho2,rfl⟩ noFill_tuple_add seq_tuple_add PySem.F.slot_tuple_add PySem.F.entry_tuple_add (PySem.F.args_tuple_add_2 _ _)
  (tuple_addW2 t b vs.toArray ws.toArray n n2 dd dd2 sl sl2 (by simpa using hv) (by simpa using hw) (by rw[AX,AX];exact hsz)) ⟨ho,ho2,?_⟩
 rw[e];exact h2 hw
def sIx(n d:Nat):Option Int->Nat
 | none=>d
 | some v=>if v<0 then (v+(n:Int)).toNat else min v.toNat n
theorem abY(n d:Nat)(hd:d<=n)(o:Option Int):sIx n d o<=n:=by
 cases o with
 | none=>exact hd
 | some v=>
  show(if v<0 then (v+(n:Int)).toNat else min v.toNat n)<=n;by_cases hv:v<0
  ·rw[if_pos hv];omega
  rw[if_neg hv];exact Nat.min_le_right _ _
theorem Qs(v:Int)(n d:Nat):(if v<0 then max (v+(n:Int)) 0 else min v (n:Int))=((sIx n d (GT v):Nat):Int):=by
 show(if v<0 then max (v+(n:Int)) 0 else min v (n:Int))=(((if v<0 then (v+(n:Int)).toNat else min v.toNat n):Nat):Int);by_cases hv:v<0
 ·simp only[if_pos hv];omega
 simp only[if_neg hv];omega
theorem NZ(lo hi:Option Int)(n:Nat):AI.Slice.sliceAdjust lo hi 1 (n:Int)=(((sIx n 0 lo:Nat):Int),((sIx n n hi:Nat):Int)):=by
 have h1:¬((1:Int)<0):=ω;unfold AI.Slice.sliceAdjust;simp only[h1,if_false];refine Prod.ext ?_ ?_
 ·cases lo with
  | none=>rfl
  | some v=>exact Qs v n 0
 cases hi with
 | none=>rfl
 | some v=>exact Qs v n n
theorem K8(i j:Nat):AI.Slice.slicePlaces (i:Int) (j:Int) 1=j-i:=by
 unfold AI.Slice.slicePlaces;have h1:(1:Int)>0:=ω;simp only[h1,if_true,Int.ediv_one];split <;> omega
theorem zA{v:Ap}{o:Option Int}{Q:Option Int->AA->Prop}(p:IsPart v o)(h:Q o s):AG (AJ prog w) A (AI.Slice.slicePartIndex v) Q E s:=by
 cases p with
 | none=>exact slicePart_none h
 | int i t=>exact slicePart_int h
theorem vW{sl:ID}{vl vu:Ap}{lo hi:Option Int}{n:Nat}{Q:Int×Int×Nat->AA->Prop}(hs:s.heap.IsSliceOf sl vl vu .none)(pl:IsPart vl lo)(pu:IsPart vu hi)
  (h:Q (((sIx n 0 lo:Nat):Int),1,sIx n n hi-sIx n 0 lo) s):AG (AJ prog w) A (AI.Slice.sliceApplied (.ref sl) (pure (n:Int))) Q E s:=by
 obtain⟨os,hos,hcs,hds⟩:=id hs;unfold AI.Slice.sliceApplied AI.Slice.sliceFields;refine An (An (BO hos hds (x:=vl) Z (An (BO hos hds (x:=vu) Z (An (BO hos hds (x:=.none) Z (Au ?_)))))));refine An (slicePart_none ?_);show AG _ _ (if ((1:Int) == 0)=true then _ else _) _ _ s;rw[if_neg δ];refine An (zA pl (An (zA pu (An (Au ?_)))));show AG _ _ (match AI.Slice.sliceAdjust lo hi 1 (n:Int) with|(lo,hi)=>pure (lo,(1:Int),AI.Slice.slicePlaces lo hi 1)) _ _ s
 rw[NZ lo hi n];show AG _ _ (pure (((sIx n 0 lo:Nat):Int),(1:Int),AI.Slice.slicePlaces ((sIx n 0 lo:Nat):Int) ((sIx n n hi:Nat):Int) 1)) _ _ s;rw[K8];exact Au h
theorem V4(xs:Array Ap)(i k:Nat):((Bi k).filterMap λ(m:Nat)=>xs[((i:Int)+(m:Int)*1).toNat]?).toArray=((xs.toList.drop i).take k).toArray:=by
 have e:(λ(m:Nat)=>xs[((i:Int)+(m:Int)*1).toNat]?)=λm=>xs[i+m]?:=by
  funext m;have:((i:Int)+(m:Int)*1).toNat=i+m:=by omega
  rw[this]
 rw[e];have:=pick_run xs i k;rw[filterMap_map] at this;have e2:((λx=>xs[x]?)∘λx=>i+x)=λm=>xs[i+m]?:=rfl;rw[e2] at this;rw[this]
theorem vq{t sl:ID}{items:Array Ap}{vl vu:Ap}{lo hi:Option Int}{Q:Ap->AA->Prop}(ht:IsTup s.heap t items)(hs:s.heap.IsSliceOf sl vl vu .none)(pl:IsPart vl lo)(pu:IsPart vu hi)
  (hw:¬(sIx items.size 0 lo=0/\sIx items.size items.size hi=items.size))
  (h:Q (.ref s.heap.objs.size) { s with heap:=s.heap.push { cls:=.type "tuple",data:=.seq ((items.toList.drop (sIx items.size 0 lo)).take (sIx items.size items.size hi-sIx items.size 0 lo)).toArray } })
  (hsz:items.size<=AK):AG (AJ prog w) A (L4 (.ref t) (.ref sl)) Q E s:=by
 have htake:sizeOk (.seq ((items.toList.drop (sIx items.size 0 lo)).take (sIx items.size items.size hi-sIx items.size 0 lo)).toArray):=by
  show((items.toList.drop (sIx items.size 0 lo)).take (sIx items.size items.size hi-sIx items.size 0 lo)).toArray.size<=AK;rw[AX,FF,F1,EF];omega
 have hj:sIx items.size items.size hi<=items.size:=abY _ _ (AU _) hi;obtain⟨os,hos,hcs,hds⟩:=id hs;have hTs:s.TypeIs (.ref sl) "slice" := ⟨os,hos,hcs⟩;unfold L4
 try with_reducible refine BH ?_
 first|refine An (Au ?_)|skip
 refine An (wpAny_sequenceKey ht.typeIs δ ?_);refine An (BM (name:=A8 "__getitem__") ht.typeIs Hn
  (BQ Hn ht.typeIs entry_tuple_getitem ?_ (args_tuple_getitem _ _)))
 show AG _ _ (AI.Tuple.tupleItemsOf (.ref t) >>= _) _ _ s;refine An (tupleItemsOf_ ht ?_);refine An (E9 hTs ?_);rw[if_pos δ];refine An (vW hs pl pu ?_);have hno:¬((((sIx items.size 0 lo:Nat):Int) == 0&&(1:Int) == 1&&(sIx items.size items.size hi-sIx items.size 0 lo) == items.size)=true):=by
  intro q;rw[CL,CL] at q;have q1:((sIx items.size 0 lo:Nat):Int)=0:=eq_of_beq q.1.1;have q2:sIx items.size items.size hi-sIx items.size 0 lo=items.size:=eq_of_beq q.2;exact hw ⟨ω,ω⟩
 show AG _ _ (if (((sIx items.size 0 lo:Nat):Int) == 0&&(1:Int) == 1&&(sIx items.size items.size hi-sIx items.size 0 lo) == items.size)=true then _ else _) _ _ s;rw[if_neg hno,V4]
 first
  | exact An (m:=AI.Tuple.tupleExact _) (Be (Au ⟨_,rfl,Au h⟩) htake)
  | exact An (m:=AI.Tuple.tupleExact _) (Be (An (Au (Au ⟨_,rfl,Au h⟩))) htake)
  | exact An (An (m:=AI.Tuple.tupleExact _) (Be (Au (Au ⟨_,rfl,Au h⟩)) htake))
  | exact An (An (m:=AI.Tuple.tupleExact _) (Be (Au ⟨_,rfl,Au h⟩) htake))
end
end HT
namespace L2
open PySem PySem.Spec PyProof.Rows
abbrev TO:=St->Hp->(Option Int->Hp->Prop)->Prop
def PO(X:Cx)(e:Option Expr)(t:TO):Prop:=
 ∀(pins:List (ID×Obj)) (s:AA) (σ:St) (H:Hp) (Q:Option Int->Hp->Prop),Inv X pins σ H s->t σ H Q ->
  AG (AJ X.prog X.w) X.A (evalPart e X.env) (λu s'=>∃o H',Inv X pins σ H' s'/\IsPart u o/\Q o H') X.xe s
def Fx:TO:=λ_ H Q=>Q Is H
def Uo(t:TE):TO:=λσ H Q=>t σ H λx H1=>∃i,x=.int i/\Q (GT i) H1
section
variable {X:Cx}{e:Expr}{te:TE}{lo hi:Option Expr}{tl th:TO}{pos p2:Pos}
theorem Z7:PO X Is Fx:=by
 intro pins s σ H Q I h;rw[evalPart_none];exact Au ⟨Is,H,I,.none,h⟩
theorem Z6(h:PE X e te):PO X (GT e) (Uo te):=by
 intro pins s σ H Q I hw;rw[evalPart_some];refine thE (h pins s σ H _ I hw) λu s1 x H1 I1 r1 q1=>?_;obtain⟨i,rfl,q⟩:=q1;obtain⟨t,rfl⟩:=r1;exact⟨GT i,H1,I1,.int i t,q⟩
def SlR(X:Cx)(r:V->Option Int->Option Int->Hp->VK->Prop):Prop:=
 ∀(pins:List (ID×Obj)) (s:AA) (σ:St) (H:Hp) (x:V) (v vl vu:Ap) (lo hi:Option Int) (sl:ID) (Q:VK),Inv X pins σ H s->RelV x v->s.heap.IsSliceOf sl vl vu .none->IsPart vl lo->IsPart vu hi->r x lo hi H Q ->
  ∃T id,typeLookup (.type T) "__getitem__" = pure (GT (.builtin id))/\s.TypeIs v T/\AG (AJ X.prog X.w) X.A (L4 v (.ref sl)) (EP X pins σ Q) X.xe s
def tSl(r:V->Option Int->Option Int->Hp->VK->Prop)(te:TE)(tl th:TO):TE:=λσ H Q=>te σ H λx H1=>tl σ H1 λl H2=>th σ H2 λu H3=>r x l u H3 Q
theorem Wa{r:V->Option Int->Option Int->Hp->VK->Prop}(hr:SlR X r)(he:PE X e te)(hl:PO X lo tl)(hu:PO X hi th):PE X (.Subscript e (.Slice lo hi Is p2) pos) (tSl r te tl th):=by
 intro pins s σ H Q I h;refine Subscript_ (thE (he pins s σ H _ I h) λv s1 x H1 I1 r1 q1=>?_);refine wpAny_Slice (thn (hl pins s1 σ H1 _ I1 q1) λvl s2 ⟨l,H2,I2,pl,q2⟩=>thn (hu pins s2 σ H2 _ I2 q2) λvu s3 ⟨u,H3,I3,pu,q3⟩=>?_);rw[evalPart_none];refine Au ?_;have I4:Inv X pins σ H3 { s3 with heap:=s3.heap.push { cls:=.type "slice",data:=.fields #[vl,vu,.none] } }:=I3.kept (t':=s3.toks) λb ob q=>AB _ q;obtain⟨T,id,hT,ht,hg⟩:=hr pins { s3 with heap:=s3.heap.push { cls:=.type "slice",data:=.fields #[vl,vu,.none] } } σ H3 x v vl vu l u s3.heap.objs.size Q I4 r1 (Heap.IsSliceOf.new ..) pl pu q3;show AG (AJ X.prog X.w) X.A (subscriptTail e (.Slice lo hi Is p2) v (.ref s3.heap.objs.size)) (EP X pins σ Q) X.xe { s3 with heap:=s3.heap.push { cls:=.type "slice",data:=.fields #[vl,vu,.none] } };exact tail_any (ops:=[.ref s3.heap.objs.size,v]) ht hT hg (by with_unfolding_all rfl)
def jT(xs:List V)(lo hi:Option Int):List V:=(xs.drop (HT.sIx xs.length 0 lo)).take (HT.sIx xs.length xs.length hi-HT.sIx xs.length 0 lo)
theorem xY(xs:List V)(lo hi:Option Int):(jT xs lo hi).length<=xs.length:=by
 unfold jT;rw[FF,F1];omega
def aeA(K:AD):V->Option Int->Option Int->Hp->VK->Prop:=λx lo hi H Q=>∃a xs,x=.ref a/\SqT K H a xs /\
 ¬(HT.sIx xs.length 0 lo=0/\HT.sIx xs.length xs.length hi=xs.length)/\∀p,H p=Is->Q (.ref p) (upd H p (.tup (jT xs lo hi)))
theorem abX:SlR X (aeA X.K):=by
 intro pins s σ H x v vl vu lo hi sl Q I rx hs pl pu h;obtain⟨a,xs,rfl,hx,hw,q⟩:=h;cases rx;obtain⟨its,r,ht,hz⟩:=I.tuple hx;have hlen:its.toArray.size=xs.length:=by rw[AX];exact r.length.symm
 refine⟨"tuple",_,Hn.lookup,ht.typeIs,?_⟩;refine HT.vq ht hs pl pu (by rw[hlen];exact hw) ?_ (by rw[hlen];exact hz);rw[hlen];refine⟨.ref s.heap.objs.size,_,I.laid (t':=s.toks) (o:=.tup (jT xs lo hi)) (λb ob q=>AB _ q) (AU _) ?_,rfl,q _ (I.hok.fresh (AU _))⟩;exact⟨CF (xY xs lo hi) hz,_,(r.drop (HT.sIx xs.length 0 lo)).take (HT.sIx xs.length xs.length hi-HT.sIx xs.length 0 lo),IsTup.new _ _⟩
def adP(K:AD):R2:=λx y H Q=>∃a b xs ys,x=.ref a/\y=.ref b/\SqT K H a xs/\SqT K H b ys/\xs≠[]/\xs.length+ys.length<=AK /\
 (ys=[]->Q (.ref a) H)/\(ys≠[]->∀p,H p=Is->Q (.ref p) (upd H p (.tup (xs++ys))))
theorem Vals.Gn{xs:List V}{us:List Ap}(r:Vals xs us):us=[]↔xs=[]:=by
 cases r with
 | nil=>simp
 | cons _ _=>simp
theorem aaz:OpR X (E7 .Add) (adP X.K):=by
 intro pins s σ H x y v u Q I rx ry h;obtain⟨a,b,xs,ys,rfl,rfl,ha,hb,hx,hz,q1,q2⟩:=h;cases rx;cases ry;obtain⟨its,r1,p1,_⟩:=I.tuple ha;obtain⟨its2,r2,p2,_⟩:=I.tuple hb;refine HT.abk p1 p2 (λz=>hx (r1.Gn.mp z)) (λz=>⟨.ref a,H,I,rfl,q1 (r2.Gn.mp z)⟩) (λz=>?_) (by rw[<- r1.length,<- r2.length];exact hz);refine⟨.ref s.heap.objs.size,_,I.laid (t':=s.toks) (o:=.tup (xs++ys)) (λb ob q=>AB _ q) (AU _) ?_,rfl,q2 (λw=>z (r2.Gn.mpr w)) _ (I.hok.fresh (AU _))⟩;exact⟨by rw[AV];exact hz,_,r1.append r2,IsTup.new _ _⟩
end
def ixN(n:Nat)(i:Int):Option Nat:=if 0<=i then (if i<n then GT i.toNat else Is) else if -(n:Int)<=i then GT (i+n).toNat else Is
def atI{α:Type}(xs:List α)(i:Int):Option α:=(ixN xs.length i).bind λj=>xs[j]?
theorem PL{n:Nat}{i:Int}{j:Nat}(h:ixN n i=GT j):seqIndex? i n=GT j/\j<n/\-(n:Int)<=i/\i<n:=by
 unfold ixN at h;by_cases h0:0<=i
 ·rw[if_pos h0] at h;by_cases h1:i<n
  ·rw[if_pos h1] at h;have e:i.toNat=j:=BI h;exact⟨by rw[seqIndex_of h0 h1,e],ω,ω,h1⟩
  rw[if_neg h1] at h;cases h
 rw[if_neg h0] at h;by_cases h1:-(n:Int)<=i
 ·rw[if_pos h1] at h;have e:(i+n).toNat=j:=BI h;exact⟨by rw[seqIndex_neg ω h1,e],ω,h1,ω⟩
 rw[if_neg h1] at h;cases h
theorem Qx{α:Type}{xs:List α}{i:Int}{v:α}(h:atI xs i=GT v):∃j,seqIndex? i xs.length=GT j/\xs[j]?=GT v/\j<xs.length/\-(xs.length:Int)<=i/\i<xs.length:=by
 unfold atI at h;cases e:ixN xs.length i with
 | none=>rw[e] at h;cases h
 | some j=>
  rw[e] at h;obtain⟨h1,h2,h3,h4⟩:=PL e;exact⟨j,h1,h,h2,h3,h4⟩
theorem cH{α:Type}{xs:List α}{j:Nat}{v:α}(h:xs[j]?=GT v):atI xs (j:Int)=GT v:=by
 have hj:j<xs.length:=(AM.mp h).1;have e:ixN xs.length (j:Int)=GT j:=by
  unfold ixN;rw[if_pos ω,if_pos ω];simp
 unfold atI;rw[e];exact h
def Qy(b:Expr):Prop:=∀o i,subscripted b false o i=operate [o,i] (L4 o i)
def IxR(X:Cx)(r:R2):Prop:=
 ∀(value slice:Expr)(pins:List (ID×Obj)) (s:AA) (σ:St) (H:Hp) (x y:V) (v u:Ap) (Q:VK),Inv X pins σ H s->RelV x v->RelV y u->r x y H Q ->
  subscripted slice false v u=operate [v,u] (L4 v u)->AG (AJ X.prog X.w) X.A (subscriptTail value slice v u) (EP X pins σ Q) X.xe s
section
variable {X:Cx}{a b:Expr}{ta tb:TE}{pos:Pos}
theorem adX{r:R2}(hr:IxR X r)(ha:PE X a ta)(hb:PE X b tb)(hs:Qy b):PE X (.Subscript a b pos) (tOp r ta tb):=by
 intro pins s σ H Q I h;exact Subscript_ (adu ha hb I h λv u s2 x y H2 I2 rx ry q=>hr a b pins s2 σ H2 x y v u Q I2 rx ry q (hs _ _))
def adO(K:AD):R2:=λx y H Q=>∃p xs i v,x=.ref p/\y=.int i/\SqL K H p xs/\atI xs i=GT v/\Q v H
def aeF(K:AD):R2:=λx y H Q=>∃p xs i v,x=.ref p/\y=.int i/\SqT K H p xs/\atI xs i=GT v/\Q v H
theorem PK:IxR X (adO X.K):=by
 intro value slice pins s σ H x y v u Q I rx ry h hs;obtain⟨p,xs,i,z,rfl,rfl,hq,he,q⟩:=h;cases rx;obtain⟨t,rfl⟩:=ry;obtain⟨its,r,pl,hz⟩:=I.list hq;obtain⟨j,h1,h2,h3,h4,h5⟩:=Qx he;obtain⟨w,ew,rw'⟩:=r.get h2;have hl:=r.length;have hn:=Ak;have fin:EP X pins σ Q w s:=⟨z,H,I,rw',q⟩;by_cases h0:0<=i
 ·have hj:i.toNat=j:=by
   rw[seqIndex_of h0 h5] at h1;exact BI h1
  exact item_listR pl.isList h0 ω (by rw[hj];simpa using ew) fin hs
 have hj:(i+(its.toArray.size:Int)).toNat=j:=by
  rw[seqIndex_neg ω h4] at h1;rw[AX,<- hl];exact BI h1
 exact subscriptTail_builtinR (x:=w) pl.isList.typeIs slot_list_getitem.lookup
  (wpAny_getItem_list_neg (Q:=λr s'=>r=w/\EP X pins σ Q r s') pl.isList ω (by rw[AX] <;> omega) ω (by rw[hj];simpa using ew) ⟨rfl,fin⟩) hs
theorem ac5:IxR X (aeF X.K):=by
 intro value slice pins s σ H x y v u Q I rx ry h hs;obtain⟨p,xs,i,z,rfl,rfl,hq,he,q⟩:=h;cases rx;obtain⟨t,rfl⟩:=ry;obtain⟨its,r,pl,hz⟩:=I.tuple hq;obtain⟨j,h1,h2,h3,h4,h5⟩:=Qx he;obtain⟨w,ew,rw'⟩:=r.get h2;have hl:=r.length;have hn:=Ak;have fin:EP X pins σ Q w s:=⟨z,H,I,rw',q⟩;exact subscriptTail_builtinR (x:=w) pl.typeIs slot_tuple_getitem.lookup
  (getItem_tuple (j:=j) (Q:=λr s'=>r=w/\EP X pins σ Q r s') pl ω ω (by rw[AX,<- hl];exact h1) (by simpa using ew) ⟨rfl,fin⟩) hs
theorem Mq(its:List Ap)(n j:Nat)(u:Ap):Ch (·.setIfInBounds j u) { cls:=.type "list",data:=.seq its.toArray n }={ cls:=.type "list",data:=.seq (its.set j u).toArray n }:=by
 simp[Ch]
theorem Inv.lst{pins:List (ID×Obj)}{σ:St}{H:Hp}{s:AA}{p:ID}{xs:List V}(I:Inv X pins σ H s)(h:H p=GT (.lst xs)) :
  ∃(its:List Ap)(n:Nat),Vals xs its/\s.heap.get? p=GT { cls:=.type "list",data:=.seq its.toArray n }/\xs.length<=AK:=by
 obtain⟨z,its,n,r,e⟩:=I.hok p _ h;exact⟨its,n,r,e,z⟩
theorem Inv.acW{pins:List (ID×Obj)}{σ:St}{H:Hp}{s:AA}{p:ID}{xs ys:List V}{its its':List Ap}{n n':Nat}{f:Obj->Obj}(I:Inv X pins σ H s)(h:H p=GT (.lst xs))
  (ho:s.heap.get? p=GT { cls:=.type "list",data:=.seq its.toArray n })(hf:f { cls:=.type "list",data:=.seq its.toArray n }={ cls:=.type "list",data:=.seq its'.toArray n' })(r:Vals ys its')(hz:ys.length<=AK)(t:Nat) :
  Inv X pins σ (upd H p (.lst ys)) { s with heap:=s.heap.update p f,toks:=t }:=by
 have e:(s.heap.update p f).get? p=GT { cls:=.type "list",data:=.seq its'.toArray n' }:=by
  rw[HK f ho (by rw[hf] <;> rfl),hf]
 refine I.write (x:=p) (e:=p) (by rw[h];trivial) (.inl Z) (λb u hb q=>(CH _ _ (BC hb)).trans q) ⟨_,e⟩ ?_;exact⟨hz,its',n',r,e⟩
def adM:V->V->V->Hp->(Hp->Prop)->Prop:=λo i v H Q=>∃p xs k j,o=.ref p/\i=.int k/\H p=GT (.lst xs)/\ixN xs.length k=GT j/\Q (upd H p (.lst (xs.set j v)))
theorem set_list:TQ X adM:=by
 intro pins s σ H o i v ov iv u Q I ro ri rv h;obtain⟨p,xs,k,j,rfl,rfl,hp,hj,q⟩:=h;cases ro;obtain⟨t,rfl⟩:=ri;obtain⟨its,n,r,ho,hz⟩:=I.lst hp;obtain⟨h1,h2,h3,h4⟩:=PL hj;have hl:=r.length;have hn:=Ak;have I':Inv X pins σ (upd H p (.lst (xs.set j v))) { s with heap:=s.heap.update p (Ch (·.setIfInBounds j u)) }:=
  I.acW hp ho (Mq its n j u) (r.set rv j) (by rw[List.length_set];exact hz) s.toks
 by_cases h0:0<=k
 ·have hk:k.toNat=j:=by
   rw[seqIndex_of h0 h4] at h1;exact BI h1
  exact PySem.W.ki_setAt ho h0 ω (by rw[AX,<- hl];exact h4) (by rw[hk];exact⟨_,I',q⟩)
 have hk:(k+(its.toArray.size:Int)).toNat=j:=by
  rw[seqIndex_neg ω h3] at h1;rw[AX,<- hl];exact BI h1
 exact PySem.W.ki_setBack ho ω (by rw[AX,<- hl];exact h3) ω (by rw[hk];exact⟨_,I',q⟩)
theorem FN(lo hi:Option Int)(n:Nat):(HU lo hi Is n).1=((HT.sIx n 0 lo:Nat):Int)/\(HU lo hi Is n).2.1=((HT.sIx n n hi:Nat):Int)/\(HU lo hi Is n).2.2=1:=by
 refine⟨?_,?_,rfl⟩
 ·cases lo with
  | none=>simp[HU,HT.sIx]
  | some i=>
   simp only[HU,HT.sIx,getD_none,show(1:Int)>0 by decide,if_true];by_cases h:i<0
   ·simp only[h,if_true] <;> omega
   simp only[h,if_false] <;> omega
 cases hi with
 | none=>simp[HU,HT.sIx]
 | some i=>
  simp only[HU,HT.sIx,getD_none,show(1:Int)>0 by decide,if_true];by_cases h:i<0
  ·simp only[h,if_true] <;> omega
  simp only[h,if_false] <;> omega
theorem Ci(its:List Ap)(lo hi:Option Int):slicePick its.toArray lo hi Is=((its.drop (HT.sIx its.length 0 lo)).take (HT.sIx its.length its.length hi-HT.sIx its.length 0 lo)).toArray:=by
 obtain⟨h1,h2,h3⟩:=FN lo hi its.toArray.size;unfold slicePick;rw[h1,h2,h3];simp only[sliceRange_one,pick_run,AX] <;> rfl
def aeB(K:AD):V->Option Int->Option Int->Hp->VK->Prop:=λx lo hi H Q=>∃a xs,x=.ref a/\SqL K H a xs/\∀p,H p=Is->Q (.ref p) (upd H p (.lst (jT xs lo hi)))
theorem Zd:SlR X (aeB X.K):=by
 intro pins s σ H x v vl vu lo hi sl Q I rx hs pl pu h;obtain⟨a,xs,rfl,hx,q⟩:=h;cases rx;obtain⟨its,r,ht,hz⟩:=I.list hx;have hlen:=r.length;refine⟨"list",_,slot_list_getitem.lookup,ht.isList.typeIs,?_⟩;refine wpAny_getItem_list_slice ht.isList hs pl pu .none ζ ?_ (by rw[AX] <;> omega)
 rw[Ci,<- hlen];refine⟨.ref s.heap.objs.size,_,I.laid (t':=s.toks) (o:=.lst (jT xs lo hi)) (λb ob q=>AB _ q) (AU _) ?_,rfl,q _ (I.hok.fresh (AU _))⟩;exact⟨CF (xY xs lo hi) hz,_,0,(r.drop (HT.sIx xs.length 0 lo)).take (HT.sIx xs.length xs.length hi-HT.sIx xs.length 0 lo),AO _ rfl⟩
def iQ:V->Bool
 | .non=>true
 | .bl _=>true
 | .int _=>true
 | .str _=>true
 | _=>false
def eqV:V->V->Bool
 | .non,.non=>true
 | .bl a,.bl b=>a == b
 | .bl a,.int b=>(if a then 1 else 0) == b
 | .int a,.bl b=>a == (if b then 1 else 0)
 | .int a,.int b=>a == b
 | .str a,.str b=>a == b
 | _,_=>false
theorem X3{A:A5}{s:AA}{y x:V}{u v:Ap}(ry:RelV y u)(rx:RelV x v)(fy:iQ y=true)(fx:iQ x=true):BF A s u v (eqV y x):=by
 cases y with
 | non=>
  cases ry;cases x with
  | non=>cases rx;exact BF.same _
  | bl b=>cases rx;exact BF.none_bool b
  | int b=>obtain⟨t,rfl⟩:=rx;exact BF.none_int b t
  | str b=>obtain⟨t,rfl⟩:=rx;exact BF.none_str b t
  | _=>exact absurd (show false=true from fx) AZ
 | bl a=>
  cases ry;cases x with
  | non=>cases rx;exact BF.bool_none a
  | bl b=>cases rx;exact BF.bool_bool a b
  | int b=>obtain⟨t,rfl⟩:=rx;exact BF.bool_int a b t
  | str b=>obtain⟨t,rfl⟩:=rx;exact BF.bool_str a b t
  | _=>exact absurd (show false=true from fx) AZ
 | int a=>
  obtain⟨t',rfl⟩:=ry;cases x with
  | non=>cases rx;exact BF.int_none a t'
  | bl b=>cases rx;exact BF.int_bool a t' b
  | int b=>obtain⟨t,rfl⟩:=rx;exact BF.int_int a t' b t
  | str b=>obtain⟨t,rfl⟩:=rx;exact BF.int_str a t' b t
  | _=>exact absurd (show false=true from fx) AZ
 | str a=>
  obtain⟨t',rfl⟩:=ry;cases x with
  | non=>cases rx;exact BF.str_none a t'
  | bl b=>cases rx;exact BF.str_bool a t' b
  | int b=>obtain⟨t,rfl⟩:=rx;exact BF.str_int a t' b t
  | str b=>obtain⟨t,rfl⟩:=rx;exact BF.str_str a t' b t
  | _=>exact absurd (show false=true from fx) AZ
 | _=>exact absurd (show false=true from fy) AZ
def eqU(x:V)(u:Ap):Bool:=match u with
 | .none=>eqV .non x
 | .bool b=>eqV (.bl b) x
 | .int i _=>eqV (.int i) x
 | .str z _=>eqV (.str z) x
 | _=>false
theorem XS{x y:V}{u:Ap}(r:RelV y u)(f:iQ y=true):eqU x u=eqV y x:=by
 cases y with
 | non=>cases r;rfl
 | bl b=>cases r;rfl
 | int i=>obtain⟨t,rfl⟩:=r;rfl
 | str z=>obtain⟨t,rfl⟩:=r;rfl
 | _=>exact absurd (show false=true from f) AZ
theorem vO{x:V}:∀{xs:List V}{us:List Ap},Vals xs us->xs.all iQ=true->us.any (eqU x)=xs.any λy=>eqV y x
 | _,_,.nil,_=>rfl
 | y::xs,u::us,.cons r t,f=>by
  rw[all_cons,CL] at f;rw[HV,HV,XS r f.1,vO t f.2]
theorem qz{A:A5}{s:AA}{x:V}{v:Ap}(rx:RelV x v)(fx:iQ x=true):∀{xs:List V}{us:List Ap},Vals xs us->xs.all iQ=true->∀u∈us,BF A s u v (eqU x u)
 | _,_,.nil,_=>λu hu=>by cases hu
 | y::xs,u::us,.cons r t,f=>λu' hu=>by
  rw[all_cons,CL] at f;rcases A1.mp hu with rfl|hu
  ·rw[XS r f.1];exact X3 r rx f.1 fx
  exact qz rx fx t f.2 u' hu
def inV(x:V)(xs:List V):Bool:=xs.any λy=>eqV y x
def rIn(K:AD)(neg:Bool):R2:=λx y H Q=>∃p xs,y=.ref p/\(SqL K H p xs\/SqT K H p xs)/\iQ x=true/\xs.all iQ=true/\Q (.bl (if neg then !inV x xs else inV x xs)) H
theorem Ry:OpR X (CU .In) (rIn X.K false):=by
 intro pins s σ H x y v u Q I rx ry h;obtain⟨p,xs,rfl,hq,fx,fs,q⟩:=h;cases ry;rcases hq with hq|hq
 ·obtain⟨its,r,pl,hz⟩:=I.list hq;refine SeqAt.in_listAt (eqU x) pl.isList (λw hw=>qz rx fx r fs w (by simpa using hw)) ⟨.bl _,H,I,rfl,?_⟩;rw[show its.toArray.any (eqU x)=its.any (eqU x) by simp,vO r fs];exact q
 obtain⟨its,r,pl,hz⟩:=I.tuple hq;refine SeqAt.in_tupleAt (eqU x) pl (λw hw=>qz rx fx r fs w (by simpa using hw)) ⟨.bl _,H,I,rfl,?_⟩;rw[show its.toArray.any (eqU x)=its.any (eqU x) by simp,vO r fs];exact q
theorem Gj:OpR X (CU .NotIn) (rIn X.K true):=by
 intro pins s σ H x y v u Q I rx ry h;obtain⟨p,xs,rfl,hq,fx,fs,q⟩:=h;cases ry;rcases hq with hq|hq
 ·obtain⟨its,r,pl,hz⟩:=I.list hq;refine SeqAt.notIn_listAt (eqU x) pl.isList (λw hw=>qz rx fx r fs w (by simpa using hw)) ⟨.bl _,H,I,rfl,?_⟩;rw[show its.toArray.any (eqU x)=its.any (eqU x) by simp,vO r fs];exact q
 obtain⟨its,r,pl,hz⟩:=I.tuple hq;refine SeqAt.notIn_tupleAt (eqU x) pl (λw hw=>qz rx fx r fs w (by simpa using hw)) ⟨.bl _,H,I,rfl,?_⟩;rw[show its.toArray.any (eqU x)=its.any (eqU x) by simp,vO r fs];exact q
theorem j6:gq X (.builtin "len") (λxs H Q=>∃p ys,xs=[.ref p]/\(SqL X.K H p ys\/SqT X.K H p ys)/\Q (.int ys.length) H):=by
 intro pins s σ H xs us Q I r h;obtain⟨p,ys,rfl,hq,q⟩:=h;obtain⟨u,rfl,rx⟩:=vals1 r;cases rx;have hn:=Ak;rcases hq with hq|hq
 ·obtain⟨its,r',pl,hz⟩:=I.list hq;have hlen:=r'.length;exact Calls.call_len_list pl.isList (by simp only[AX] <;> omega) ⟨.int ys.length,H,I.tok _,⟨s.toks+1,by rw[AX,hlen]⟩,q⟩
 obtain⟨its,r',pl,hz⟩:=I.tuple hq;have hlen:=r'.length;exact len_tuple pl (by simp only[AX] <;> omega) ⟨.int ys.length,H,I.tok _,⟨s.toks+1,by rw[AX,hlen]⟩,q⟩
theorem vK:gq X (.type "list") (λxs H Q=>∃p ys,xs=[.ref p]/\(SqL X.K H p ys\/SqT X.K H p ys)/\∀l,H l=Is->Q (.ref l) (upd H l (.lst ys))):=by
 intro pins s σ H xs us Q I r h;obtain⟨p,ys,rfl,hq,q⟩:=h;obtain⟨u,rfl,rx⟩:=vals1 r;cases rx;have fin:∀(its:List Ap),Vals ys its->ys.length<=AK->∀(h':Heap)(c':Nat),(∀b o',s.heap.get? b=GT o'->h'.get? b=GT o') ->
   h'.get? s.heap.objs.size=GT { cls:=.type "list",dict:=Is,data:=.seq its.toArray c',slots:=#[] }->EP X pins σ Q (.ref s.heap.objs.size) { s with heap:=h' }:=λits r' hz h' c' kp e=>
  ⟨.ref s.heap.objs.size,_,I.laid (t':=s.toks) kp (AU _) (show cD X.prog X.w _ h' _ (.lst ys) from⟨hz,its,c',r',e⟩),rfl,q _ (I.hok.fresh (AU _))⟩
 rcases hq with hq|hq
 ·obtain⟨its,r',pl,hz⟩:=I.list hq;have hlen:=r'.length;obtain⟨o,ho,hc,n,hd⟩:=pl.isList;exact call_list_seq p (.inl Z) ho hc hd (λh' c' kp e=>fin its r' hz h' c' kp e) (by simp only[AX] <;> omega)
 obtain⟨its,r',pl,hz⟩:=I.tuple hq;have hlen:=r'.length;obtain⟨o,ho,hc,n,hd⟩:=pl;exact call_list_seq p (.inr Z) ho hc hd (λh' c' kp e=>fin its r' hz h' c' kp e) (by simp only[AX] <;> omega)
theorem sS:gq X (.type "tuple") (λxs H Q=>∃p ys,xs=[.ref p]/\((SqL X.K H p ys/\∀l,H l=Is->Q (.ref l) (upd H l (.tup ys)))\/(SqT X.K H p ys/\Q (.ref p) H))):=by
 intro pins s σ H xs us Q I r h;obtain⟨p,ys,rfl,h⟩:=h;obtain⟨u,rfl,rx⟩:=vals1 r;cases rx;rcases h with⟨hq,q⟩|⟨hq,q⟩
 ·obtain⟨its,r',pl,hz⟩:=I.list hq;have hlen:=r'.length;refine call_tuple_list pl.isList (λh' kp=>?_) (by simp only[AX] <;> omega)
  have I1:Inv X pins σ H { s with heap:=h' }:=I.kept (t':=s.toks) kp;have I2:Inv X pins σ (upd H h'.objs.size (.tup ys)) { s with heap:=h'.push { cls:=.type "tuple",data:=.seq its.toArray } }:=
   I1.laid (t':=s.toks) (λb o e=>AB _ e) (AU _) (show cD X.prog X.w _ _ _ (.tup ys) from⟨hz,its,r',IsTup.new _ _⟩)
  exact⟨.ref h'.objs.size,_,I2,rfl,q _ (I1.hok.fresh (AU _))⟩
 obtain⟨its,r',pl,hz⟩:=I.tuple hq;exact call_tuple_same pl ⟨.ref p,H,I,rfl,q⟩
def tyV(K:AD)(T:String)(x:V)(H:Hp):Prop:=match x with
 | .str _=>T = "str"
 | .int _=>T = "int"
 | .ref p=>(T = "list" /\ ∃xs,SqL K H p xs)\/(T = "tuple" /\ ∃o,K.lookup p=GT o/\o.cls=.type "tuple" /\ o.dict=Is) \/
   (T = "dict" /\ ((∃kvs,H p=GT (.dK kvs))\/∃kvs,H p=GT (.dT kvs)))\/(T = "set" /\ ∃S n,H p=GT (.set S n))
 | _=>False
theorem pK{pins:List (ID×Obj)}{σ:St}{H:Hp}{s:AA}{T:String}{x:V}{v:Ap}(I:Inv X pins σ H s)(r:RelV x v)(ty:tyV X.K T x H) :
  s.TypeIs v T/\∀a,v=.ref a->∃ob,s.heap.get? a=GT ob/\ob.dict=Is:=by
 cases x with
 | str z=>
  obtain⟨t,rfl⟩:=r;cases (show T = "str" from ty);exact⟨typeIs_str s z t,λ_ e=>nomatch e⟩
 | int i=>
  obtain⟨t,rfl⟩:=r;cases (show T = "int" from ty);exact⟨typeIs_int s i t,λ_ e=>nomatch e⟩
 | ref p=>
  cases r;rcases ty with⟨rfl,xs,hq⟩|⟨rfl,o,hk,hc,hd⟩|⟨rfl,hk⟩|⟨rfl,S,n,hk⟩
  ·obtain⟨its,_,pl,_⟩:=I.list hq;refine⟨pl.isList.typeIs,λa e=>?_⟩;cases e;obtain⟨o,n,e,c,hd,_⟩:=pl;exact⟨o,e,hd⟩
  ·refine⟨⟨o,I.kIn p o hk,hc⟩,λa e=>?_⟩;cases e;exact⟨o,I.kIn _ o hk,hd⟩
  ·have z:∃o,s.heap.get? p=GT o/\o.ExactDict:=by
    rcases hk with⟨kvs,hk⟩|⟨kvs,hk⟩
    ·obtain⟨_,_,_,_,o,_,_,e,ex,_⟩:=I.hok p _ hk;exact⟨o,e,ex⟩
    obtain⟨_,_,_,_,o,_,_,e,ex,_⟩:=I.hok p _ hk;exact⟨o,e,ex⟩
   obtain⟨o,e,ex⟩:=z;refine⟨⟨o,e,ex.1⟩,λa e2=>?_⟩;cases e2;exact⟨o,e,ex.2.1⟩
  obtain⟨o,_,_,_,e,ex,_⟩:=I.hok p _ hk;refine⟨⟨o,e,ex.1⟩,λa e2=>?_⟩;cases e2;exact⟨o,e,ex.2.1⟩
 | _=>exact F0 ty
variable {o e:Expr}{es:List Expr}{to:TE}{t:TA}{name:Str}{apos cpos:Pos}{T id:String}{r:V->List V->Hp->VK->Prop}
end
def MtM(X:Cx)(id:String)(r:V->List V->Hp->VK->Prop):Prop:=
 ∀(pins:List (ID×Obj)) (s:AA) (σ:St) (H:Hp) (x:V) (xs:List V) (v:Ap) (us:List Ap) (Q:VK),Inv X pins σ H s->RelV x v->Vals xs us->r x xs H Q ->
  AG (AJ X.prog X.w) X.A (call (.builtin id) (v::us)) (EP X pins σ Q) X.xe s
theorem Vals.one:∀{x:V}{us:List Ap},Vals [x] us->∃u,us=[u]/\RelV x u:=λh=>by
 cases h with
 | cons r h=>
  cases h;exact⟨_,rfl,r⟩
theorem Vals.zero:∀{us:List Ap},Vals [] us->us=[]
 | _,.nil=>rfl
theorem Vals.dropLast{xs:List V}{us:List Ap}(h:Vals xs us):Vals xs.dropLast us.dropLast:=by
 induction h with
 | nil=>exact .nil
 | cons r t ih=>
  cases t with
  | nil=>exact .nil
  | cons q t'=>exact .cons r ih
theorem Vals.eraseIdx:∀{xs:List V}{us:List Ap}(i:Nat),Vals xs us->Vals (xs.eraseIdx i) (us.eraseIdx i)
 | _,_,_,.nil=>.nil
 | _,_,0,.cons _ t=>t
 | _,_,i+1,.cons r t=>.cons r (Vals.eraseIdx i t)
theorem Vals.rep{xs:List V}{us:List Ap}(h:Vals xs us):∀k:Nat,Vals (CA k xs).flatten (CA k us).flatten
 | 0=>.nil
 | k+1=>by
  rw[GY,GY,flatten_cons,flatten_cons];exact Vals.append h (Vals.rep h k)
theorem Nb{α:Type}(l:List α):l.eraseIdx (l.length-1)=l.dropLast:=by
 induction l with
 | nil=>rfl
 | cons a r ih=>
  cases r with
  | nil=>rfl
  | cons b r=>
   have e:(a::b::r).length-1=((b::r).length-1)+1:=by
    have h1:(a::b::r).length=r.length+2:=rfl;have h2:(b::r).length=r.length+1:=rfl;omega
   rw[e,List.eraseIdx_cons_succ,ih]
   all_goals rfl
theorem foldl_rep(its:List Ap):∀(k:Nat)(acc:List Ap),
  List.foldl (λx1 x2=>x1++x2) acc.toArray (CA k its.toArray)=(acc++(CA k its).flatten).toArray
 | 0,acc=>by simp
 | k+1,acc=>by
  have e:acc.toArray++its.toArray=(acc++its).toArray:=by simp
  have e2:(acc++its)++(CA k its).flatten=acc++(CA (k+1) its).flatten:=by
   rw[GY,flatten_cons,G0]
  rw[<- e2,<- foldl_rep its k (acc++its),<- e,GY,foldl_cons]
section
variable {X:Cx}{pins:List (ID×Obj)}{σ:St}{H:Hp}{s:AA}{l b:ID}{xs ys zs:List V}
theorem Inv.aaQ{its its':List Ap}{n:Nat}{f:Array Ap->Array Ap}{t':Nat}(I:Inv X pins σ H s)(hH:H l=GT (.lst xs))
  (e:s.heap.get? l=GT { cls:=.type "list",data:=.seq its.toArray n })(hf:f its.toArray=its'.toArray)(hv:Vals ys its')(hz:ys.length<=AK) :
  Inv X pins σ (upd H l (.lst ys)) { s with heap:=s.heap.update l (Ch f),toks:=t' }:=by
 have q:=JU e f;rw[hf] at q;refine I.write (x:=l) (e:=l) (by rw[hH];exact trivial) (.inl Z) (λb' u hb hu=>(CH s.heap (Ch f) (BC hb)).trans hu) ⟨_,q⟩ ?_;exact⟨hz,its',_,hv,q⟩
theorem Inv.aee{its:List Ap}{t':Nat}(I:Inv X pins σ H s)(hv:Vals ys its)(hz:ys.length<=AK) :
  Inv X pins σ (upd H s.heap.objs.size (.lst ys)) { s with heap:=s.heap.push { cls:=.type "list",data:=.seq its.toArray },toks:=t' }:=
 I.laid (λ_ _ q=>AB _ q) (AU _) ⟨hz,its,0,hv,AO _ rfl⟩
theorem Inv.fresh(I:Inv X pins σ H s):H s.heap.objs.size=Is:=I.hok.fresh (AU _)
theorem Inv.Jv(I:Inv X pins σ H s)(hH:H l=GT (.lst xs)):xs.length<=AK/\∃(its:List Ap)(n:Nat),Vals xs its/\xs.length=its.length/\s.heap.get? l=GT { cls:=.type "list",data:=.seq its.toArray n }:=by
 obtain⟨z,its,n,r,e⟩:=I.hok l _ hH;exact⟨z,its,n,r,r.length,e⟩
theorem Jc{n:Nat}(h:n<=AK):AI.List.listTooLong n=false:=by
 unfold AI.List.listTooLong;exact decide_eq_false ω
end
section
variable {X:Cx}
def Zv:V->List V->Hp->VK->Prop:=λx vs H Q=>∃l xs y,x=.ref l/\vs=[y]/\H l=GT (.lst xs)/\xs.length<AK/\Q .non (upd H l (.lst (xs++[y])))
theorem RV:MtM X "list.append" Zv:=by
 intro pins s σ H x vs v us Q I rx rv h;obtain⟨l,xs,y,rfl,rfl,hH,hz,q⟩:=h;cases rx;obtain⟨u,rfl,ru⟩:=rv.one;obtain⟨z,its,n,r,hl,e⟩:=I.Jv hH;refine EA IJ ⟨_,e,rfl⟩ IA (HZ _ _) (Jn l its.toArray n u (by rw[AX];omega)) ⟨e,?_⟩;refine⟨.non,_,I.aaQ (its':=its++[u]) hH e ζ (r.append (.cons ru .nil)) ?_,rfl,q⟩;rw[AV,BG];omega
def Zq:V->List V->Hp->VK->Prop:=λx vs H Q=>∃l b xs zs,x=.ref l/\vs=[.ref b]/\H l=GT (.lst xs)/\H b=GT (.lst zs)/\xs.length+zs.length<=AK/\Q .non (upd H l (.lst (xs++zs)))
theorem RT:MtM X "list.extend" Zq:=by
 intro pins s σ H x vs v us Q I rx rv h;obtain⟨l,b,xs,zs,rfl,rfl,hH,hB,hz,q⟩:=h;cases rx;obtain⟨u,rfl,ru⟩:=rv.one;cases ru;obtain⟨z,its,n,r,hl,e⟩:=I.Jv hH;obtain⟨z2,its2,n2,r2,hl2,e2⟩:=I.Jv hB;have hsz:its.toArray.size+its2.toArray.size<=AK:=by rw[AX,AX];omega
 have hlong:¬(!its.toArray.isEmpty&&AI.List.listTooLong (its.toArray.size+its2.toArray.size))=true:=by
  rw[Jc hsz,F2];exact AZ
 refine EA F.slot_list_extend ⟨_,e,rfl⟩ F.entry_list_extend (F.args_list_extend_2 _ _)
  (AutoSeq1.list_extend_list_list_0 l its.toArray n b its2.toArray n2 hlong (by rw[AX];omega) ω) ⟨e,e2,?_⟩
 refine⟨.non,_,I.aaQ (its':=its++its2) hH e ζ (r.append r2) ?_,rfl,q⟩;rw[AV];omega
def aeD:V->List V->Hp->VK->Prop:=λx vs H Q=>∃l xs y,x=.ref l/\vs=[]/\H l=GT (.lst xs)/\xs[xs.length-1]?=GT y/\Q y (upd H l (.lst xs.dropLast))
theorem acU:MtM X "list.pop" aeD:=by
 intro pins s σ H x vs v us Q I rx rv h;obtain⟨l,xs,y,rfl,rfl,hH,hy,q⟩:=h;cases rx;have hus:=rv.zero;subst hus;obtain⟨z,its,n,r,hl,e⟩:=I.Jv hH;obtain⟨u,hu,ru⟩:=r.get hy;have hy':its.toArray[its.toArray.size-1]?=GT u:=by
  show its.toArray[its.length-1]?=GT u;rw[<- Da,<- hl];exact hu
 refine EA F.slot_list_pop ⟨_,e,rfl⟩ F.entry_list_pop (F.args_list_pop_1 _) (MeetsSeq.list_pop_last l its.toArray n u hy' (by rw[AX];omega)) ⟨e,?_⟩;refine⟨y,_,I.aaQ (its':=its.dropLast) hH e ?_ r.dropLast ?_,ru,q⟩
 ·show its.toArray.eraseIdxIfInBounds (its.toArray.size-1)=its.dropLast.toArray;rw[AX,List.eraseIdxIfInBounds_toArray,Nb]
 rw[List.length_dropLast];omega
def aeI:R2:=λx y H Q=>∃l b xs zs,x=.ref l/\y=.ref b/\H l=GT (.lst xs)/\H b=GT (.lst zs)/\xs.length+zs.length<=AK/\∀p,H p=Is->Q (.ref p) (upd H p (.lst (xs++zs)))
theorem acN:OpR X (E7 .Add) aeI:=by
 intro pins s σ H x y v u Q I rx ry h;obtain⟨l,b,xs,zs,rfl,rfl,hH,hB,hz,q⟩:=h;cases rx;cases ry;obtain⟨z,its,n,r,hl,e⟩:=I.Jv hH;obtain⟨z2,its2,n2,r2,hl2,e2⟩:=I.Jv hB;refine PySem.P.add_list e e2 ?_ (by rw[AX,AX];omega);have ea:its.toArray++its2.toArray=(its++its2).toArray:=by simp
 rw[ea];exact⟨.ref _,_,I.aee (t':=s.toks) (r.append r2) (by rw[AV];omega),rfl,q _ I.fresh⟩
def aeC:R2:=λx y H Q=>∃l k xs,x=.ref l/\y=.int k/\H l=GT (.lst xs)/\-(2^63)<=k/\k<2^63/\xs.length*k.toNat<=AK /\
 ∀p,H p=Is->Q (.ref p) (upd H p (.lst (CA k.toNat xs).flatten))
theorem len_rep{α:Type}(xs:List α)(k:Nat):(CA k xs).flatten.length=k*xs.length:=by
 induction k with
 | zero=>simp
 | succ k ih=>rw[GY,flatten_cons,AV,ih,Nat.succ_mul,Nat.add_comm]
theorem acK:OpR X (E7 .Mult) aeC:=by
 intro pins s σ H x y v u Q I rx ry h;obtain⟨l,k,xs,rfl,rfl,hH,h1,h2,hz,q⟩:=h;cases rx;obtain⟨t,rfl⟩:=ry;obtain⟨z,its,n,r,hl,e⟩:=I.Jv hH;have hlen:its.toArray.size*k.toNat<=AK:=by rw[AX,<- hl];exact hz
 have hcap:¬its.toArray.size*k.toNat>(2^63-1)/8:=by
  have:(AK:Nat)<=(2^63-1)/8:=by decide
  omega
 have hfit:¬(!Builtin.List.listFitsIndex k)=true:=by
  rw[fitsIndex_both h1 h2];exact AZ
 have hlong:¬AI.List.listTooLong (its.toArray.size*k.toNat)=true:=by
  rw[Jc hlen];exact AZ
 have hnew:List.foldl (λx1 x2=>x1++x2) #[] (CA (if its.toArray.isEmpty=true then 0 else k.toNat) its.toArray)=(CA k.toNat its).flatten.toArray:=by
  have f0:∀m:Nat,List.foldl (λx1 x2=>x1++x2) #[] (CA m its.toArray)=(CA m its).flatten.toArray:=λm=>by
   have:=foldl_rep its m [];rw[nil_append] at this;exact this
  rw[f0];cases its with
  | nil=>simp
  | cons a r'=>rw[if_neg ζ]
 refine wpAny_binaryOp_repeat_ref (T := "list") (U := "int") δ ⟨_,e,rfl⟩ (λs'=>typeIs_int s' k t) noFill_list_mul F.fills_int_mul F.slot_int_rmul repeat_list F.slot_int_index.lookup
  (EA F.slot_int_rmul (typeIs_int s k t) F.entry_int_rmul (F.args_int_rmul_2 _ _) (int___rmul___int_list k t l its.toArray n)
   ⟨e,rfl,⟨_,e,rfl⟩,EA F.slot_list_mul ⟨_,e,rfl⟩ F.entry_list_mul (F.args_list_mul_2 _ _) (AutoListH.list___mul___list_int_3 l its.toArray n k t hfit hcap hlong) ⟨e,?_⟩⟩)
 rw[hnew];exact⟨.ref _,_,I.aee (t':=s.toks) (r.rep k.toNat) (by rw[len_rep,Nat.mul_comm];exact hz),rfl,q _ I.fresh⟩
end
end L2
namespace Att
open PySem PySem.W PySem.Calls PyProof.Rows
theorem yr{P:Params}{h:Heap}:∀(ns:List Int)(vs:List Ap),WellAll P h vs (ns.map WData.int)->Fu vs ns:=by
 intro ns
 induction ns with
 | nil=>
  intro vs w;rw[map_nil] at w;cases w;exact .nil
 | cons n ns ih=>
  intro vs w;rw[CB] at w;cases w with
  | cons a b=>
   cases a;exact .cons _ _ (ih _ b)
theorem Q8{l:OpenLaw}{n:Nat}(hn:l.most=GT n){P:Params}{h:Heap}{args:List WData}{vals:List Ap}
  (hpre:l.row.toRowW.claim.pre args=true)(hwl:WellAll P h vals args) :
  ∃a vs ns,vals=[Do a]/\args=[WData.list (ns.map WData.int)]/\h.get? a=GT { cls:=.type "list",data:=.seq vs.toArray }/\Fu vs ns/\ns.length<=n:=by
 have hsh:WShape.hasAll [] args [.list .int]=true:=(pre_splitW hpre).1;have hc:l.pre.holds [] { args:=args }=true:=(pre_splitW hpre).2;obtain⟨d,r,rfl,h1,h2⟩:=hasAllW_cons hsh;obtain rfl:=hasAllW_nil h2;obtain⟨xs,rfl,h3⟩:=hasW_list h1;obtain⟨ns,rfl⟩:=items_int h3;have hlen:ns.length<=n:=by
  unfold OpenLaw.pre at hc;have h4:(WTm.not (.lt (.lit (.int (n:Int))) (.len (.arg 0)))).holds [] { args:=[.list (ns.map .int)] }=true:=by
   have h4:=(holds_andW hc).1;rw[hn] at h4;exact h4
  have h5:=condW_of h4 (w_not (w_lt w_lit (w_len_list (w_arg Z))));rw[AE] at h5;refine Nat.le_of_not_lt λq=>?_;have q':(n:Int)<((ns.length:Nat):Int):=ω
  first
   | (rw[decide_eq_true q'] at h5;exact absurd h5 δ)
   | (simp at h5;omega)
 cases hwl with
 | cons w1 w2=>
  cases w2;cases w1 with
  | list ho hall=>exact⟨_,_,ns,rfl,rfl,ho,yr ns _ hall,hlen⟩
theorem Rp(l:OpenLaw)(args:List WData):l.row.toRowW.claim.post args (.bool true) args=true:=
 postW_of (r:=l.row.toRowW) (X:=(true == true))
  (show WShape.has [] (.bool true) .bool=true by first|rfl|decide|simp[WShape.has,WShape.arms,WShape.armsAll])
  (show(WTm.eq .res (.lit (.bool true))).value [] { args:=args,res:=GT (.bool true),after:=args }=GT (.bool (true == true)) from w_eq_bool (w_res Z) w_lit) rfl
theorem Kf{l:OpenLaw}{n:Nat}{q:AR}{loose:List Str}{XP:(Str->Option Ap)->Heap->Prop}{YP:A9->Heap->Prop}{d:DefRec}
  (hn:l.most=GT n)(hdf:d.params.defaults=[])
   (call:∀(w:A9)(s₀ s₁:AA)(mg mb:Str->Option Ap)(fa:ID)(o:Obj)(pm cd doc:Ap)(a:ID)(vs:List Ap)(ns:List Int),
   Ground q loose [] XP w s₀ mg mb s₁.heap->YP w s₁.heap ->
   s₁.heap.get? fa=GT o->o.data=.func (docDef d.name d.params d.body d.scope pm cd doc)->s₁.heap.CodeRec cd d.name->mg d.name=GT (.ref fa) ->
   s₁.heap.get? a=GT { cls:=.type "list",data:=.seq vs.toArray }->Fu vs ns->ns.length<=n->s₁.gens=#[] ->
   DL (AJ l.prog w) callerA (.call (.ref fa) ⟨[.ref a],[]⟩) (λr s'=>r=.ok (.ret (.bool true))/\OldK s₁.heap s'.heap/\s'.os=s₁.os/\KG s'.gens) s₁) :
  WalkO q loose XP YP l.row.toRowW d [] (λf vs=>PySem.call f vs):=by
 intro w s₀ s₁ mg mb G Y fa o pm cd doc dV kV ho hd hcd hD hmg hg args vals as hpre hlay hrd hwl hlo;obtain rfl:dV=.none:=Dflts.none hD hdf;obtain rfl:kV=.none:=Dflts.noKw hD;obtain⟨a,vs,ns,rfl,rfl,hobj,hints,hlen⟩:=Q8 hn hpre hwl;refine enter_call (IC (call w s₀ s₁ mg mb fa o pm cd doc a vs ns G Y ho (fd_plain hd) hcd hmg hobj hints hlen hg) λr s' hq=>?_);obtain⟨rfl,h2,h3,h4⟩:=hq;exact⟨.inl ⟨.bool true,.bool true,[],rfl,λ_=>rfl,.bool true,Rp l _,λ_=>⟨List.Pairwise.nil,λ_ hm=>(nomatch hm)⟩⟩,h2,h3,h4⟩
end Att
namespace L2
open PySem PySem.Spec PyProof.Rows
theorem Dm:∀{vs:List Ap}{ns:List Int},Fu vs ns->Vals (ns.map As) vs
 | _,_,.nil=>.nil
 | _,_,.cons n t h=>.cons ⟨t,rfl⟩ (Dm h)
def Only(H:Hp):Prop:=∀b,H b=Is\/∃o xs,H b=GT (.frz o (.lst xs))
theorem Xa{P:AR}{w:A9}{K:AD}{mg mb:Str->Option Ap}{CX:CXT}{k:Nat}{fa a:ID}{fd:D6}{x:Str}{sp:Sp}{s₁:AA}{vs:List Ap}{ns:List Int}
  (KX:K.In s₁.heap)(hns:s₁.heap.Ns CD mg)(hb:s₁.heap.Ns builtinsNs mb)(hbb:∀x:Str,x ≠ "__name__" -> mb x=EE x)(hlim:s₁.heap.NoLimit)(hg:s₁.gens=#[])
  (ha:s₁.heap.get? a=GT { cls:=.type "list",data:=.seq vs.toArray })(hi:Fu vs ns)(hl:ns.length<=AK)(hr:jg k callerA)
  (F:∀base:Heap,K.In base->base.Ns CD mg->cQ P w K mg base CX k fa fd [x] sp)(hbind:∀(s:AA)(u:Ap),BindsTo s fd ⟨[u],[]⟩ [(x,u)])
  (hsp:∀H:Hp,Only H->SqL K H a (ns.map As)->sp [.ref a] H (λv _=>v=.bl true) λ_ _ _=>False)
  (hCX:∀H e s',CX [] H s₁ (λ_ _ _=>False) e s'->False) :
  DL (AJ P w) callerA (.call (.ref fa) ⟨[.ref a],[]⟩) (λr s'=>r=.ok (.ret (.bool true))/\OldK s₁.heap s'.heap/\s'.os=s₁.os/\KG s'.gens) s₁:=by
 have rv:=Dm hi;have lenV:=hi.length
 -- from an abstract heap in which nothing but the script may be tracked
 have core:∀H:Hp,Only H->SqL K H a (ns.map As)->HOk P w H s₁.heap->(∀b,H b≠Is->b=a)->(H a≠Is->K.lookup a=Is) ->
   DL (AJ P w) callerA (.call (.ref fa) ⟨[.ref a],[]⟩) (λr s'=>r=.ok (.ret (.bool true))/\OldK s₁.heap s'.heap/\s'.os=s₁.os/\KG s'.gens) s₁:=by
  intro H hO hS hok hA hK;have base_of:∀{b:ID}{o:Obj},s₁.heap.get? b=GT o->H b=Is->(GP s₁.heap H).get? b=GT o:=λe n=>Xv e n;have noA:∀{b:ID}{o:Obj}{es:Array DictEntry}{ep:Nat},s₁.heap.get? b=GT o->o.data=.dict es ep->H b=Is:=λ{b o es ep} e d=>by
   cases q:H b with
   | none=>rfl
   | some u=>
    have e':b=a:=hA b (by rw[q];simp);subst e';rw[ha] at e;cases e;have d':Ev vs.toArray _=L6 es ep:=d;cases d'
  have nsK:∀{b:ID}{m:Str->Option Ap},s₁.heap.Ns b m->(GP s₁.heap H).Ns b m:=λ{b m} ⟨o,es,ep,e,d,r⟩=>⟨o,es,ep,base_of e (noA e d),d,r⟩;have hKb:K.In (GP s₁.heap H):=λb o e=>base_of (KX b o e) (by
   cases q:H b with
   | none=>rfl
   | some u=>
    have e':b=a:=hA b (by rw[q];simp);subst e';rw[hK (by rw[q];simp)] at e;cases e)
  have hM:Mod K mg (GP s₁.heap H):=⟨hKb,nsK hns,⟨mb,nsK hb,hbb⟩,let ⟨mc,h1,h2⟩:=hlim;⟨mc,nsK h1,h2⟩⟩;have e0:abq P w K mg (GP s₁.heap H) callerA [] s₁ H:=⟨rfl,hM,λb o e=>aaG e,Nat.le_of_eq (Sh _ _),trivial,λb hb=>absurd (show b∈([]:List ID) from hb) ζ,hok,.of_eq hg⟩;refine IC ((F _ hKb (nsK hns)).run callerA [] s₁ H ⟨[.ref a],[]⟩ [.ref a] [.ref a] _ _ hr e0 (hbind s₁ (.ref a)) (.cons Z .nil) (hsp H hO hS)) λr s' h=>?_;cases r with
  | error e=>exact(hCX H e s' h).elim
  | ok fl=>
   cases fl with
   | next=>exact F0 h
   | brk=>exact F0 h
   | cont=>exact F0 h
   | ret u=>
    obtain⟨v,H',os,bare,un,hok',r',q⟩:=h;have q':v=.bl true:=q;subst q';obtain rfl:u=GE true:=r';refine⟨rfl,OldK.of_keep λb o e=>?_,os,bare⟩;cases q:H b with
    | none=>exact un.keep b o e q (by intro z;exact absurd (show b∈([]:List ID) from z) ζ) ζ
    | some u=>
     rcases hO b with z|⟨ob,xs,z⟩
     ·rw[q] at z;cases z
     have z2:=un.frzs b ob _ z;obtain⟨e1,_⟩:=hok b _ z;obtain⟨e2,_⟩:=hok' b _ z2;rw[e] at e1;cases e1;exact e2
 cases hk:K.lookup a with
 | some o=>
  -- the script is one of the module's own objects
  have e:=KX a o hk;rw[ha] at e;cases e;refine core (λ_=>Is) (λ_=>.inl Z) (.inr ⟨_,vs.toArray,_,hk,rfl,rfl,rfl,by rw[AX,lenV];exact hl,by simpa using rv⟩) (λb u z=>by have z':(Is:Option HO)=GT u:=z;cases z') (λb z=>absurd Z z) λz=>absurd Z z
 | none=>
  refine core (λb=>if b=a then GT (.frz { cls:=.type "list",data:=.seq vs.toArray } (.lst (ns.map As))) else Is) (λb=>?_) (.inl (.inr ⟨{ cls:=.type "list",data:=.seq vs.toArray },if_pos rfl⟩)) (λb u z=>?_) (λb z=>?_) λ_=>hk
  ·by_cases hb:b=a
   ·exact .inr ⟨_,_,if_pos hb⟩
   exact .inl (if_neg hb)
  ·by_cases hb:b=a
   ·have z':=(if_pos hb).symm.trans z;cases z';subst hb;exact⟨ha,by rw[AE];exact hl,vs,_,rv,ha⟩
   have z':=(if_neg hb).symm.trans z;cases z'
  by_cases hb:b=a
  ·exact hb
  exact absurd (if_neg hb) z
theorem YJ{l:PySem.W.OpenLaw}{n k:Nat}{q:AR}{loose:List Str}{XP:(Str->Option Ap)->Heap->Prop}{YP:A9->Heap->Prop}{d:DefRec}{K:Params->AD}{CX:A9->CXT}{sp:A9->Sp}{x:Str}
  (hn:l.most=GT n)(hn2:n<=AK)(hdf:d.params.defaults=[])(hr:jg k callerA)
  (hY:∀(w:A9)(h:Heap),YP w h->(K w.params).In h)
   (F:∀(w:A9)(mg:Str->Option Ap)(fa:ID)(h:Heap),(K w.params).In h->h.Ns CD mg->mg d.name=GT (.ref fa) ->
   ∃fd:D6,(∀(s:AA)(u:Ap),BindsTo s fd ⟨[u],[]⟩ [(x,u)]) /\
    ∀base:Heap,(K w.params).In base->base.Ns CD mg->cQ l.prog w (K w.params) mg base (CX w) k fa fd [x] (sp w))
  (hsp:∀(w:A9)(H:Hp)(a:ID)(ns:List Int),ns.length<=n->Only H->SqL (K w.params) H a (ns.map As)->sp w [.ref a] H (λv _=>v=.bl true) λ_ _ _=>False)
  (hCX:∀(w:A9)(H:Hp)(s:AA)(e:Ap)(s':AA),CX w [] H s (λ_ _ _=>False) e s'->False) :
  PySem.W.WalkO q loose XP YP l.row.toRowW d [] (λf vs=>PySem.call f vs):=by
 refine Att.Kf hn hdf λw s₀ s₁ mg mb fa o pm cd doc a vs ns G Y ho hd hcd hmg hobj hints hlen hg=>?_;have KX:=hY w _ Y;obtain⟨fd,hb,hF⟩:=F w mg fa _ KX G.T.g hmg;exact Xa KX G.T.g G.T.b G.T.builtins G.T.nolimit hg hobj hints (CF hlen hn2) hr hF hb (λH hO hS=>hsp w H a ns hlen hO hS) λH e s'=>hCX w H s₁ e s'
def iB(s:Stmt):Arguments:=match s with
 | .FunctionDef _ a _ _ _ _ _ _ _ _=>a
 | _=>{ posonlyargs:=[],args:=[],vararg:=Is,kwonlyargs:=[],kw_defaults:=[],kwarg:=Is,defaults:=[] }
def fC(s:Stmt):List Stmt:=match s with
 | .FunctionDef _ _ b _ _ _ _ _ _ _=>b
 | _=>[]
def aj(s:Stmt):E5:=match s with
 | .FunctionDef _ _ _ _ _ _ sc _ _ _=>sc
 | _=>{ kind:=.function,names:=[],isGenerator:=false,isCoroutine:=false }
abbrev CX0:CXT:=λ_ _ _ _ _ _=>False
abbrev E0:XK:=λ_ _ _=>False
theorem ad3{X:Cx}:N6 CX0 X E0:=λ_ _ _ _ _ _ _ h=>h.elim
structure Fun(K:AD)(x qual:Str)(st:Stmt)(f:ID)(fd:D6):Prop where
 ex:∃(oc:Ap)(od:Option ID)(kV doc pm:Ap)(an:Option ID)(cdv ct:Ap)(osl:Array (Option Ap)),
  fd=fnOf x qual (iB st) (fC st) (aj st) .none kV doc pm an cdv ct/\K.lookup f=GT ⟨oc,od,.func fd,osl⟩/\codeIn K cdv qual=true
 kp:keepIn K (.ref f)=true
section
variable {P:AR}{w:A9}{K:AD}{mg:Str->Option Ap}{base:Heap}
theorem Fun.ok{x qual:Str}{st:Stmt}{f:ID}{fd:D6}{N ps:List Str}{k:Nat}{sp:Sp}(F:Fun K x qual st f fd)(S:aZ N ps (aj st))(len:∀vs H Q E,sp vs H Q E->vs.length=ps.length)
   (hbody:∀(cdv:Ap)(A:A5)(outer:List Env)(s:AA)(H:Hp)(vs:List V)(Q:VK)(E:XK),jg k (A.deeper (KO qual (aj st) s.heap.objs.size f cdv))->sp vs H Q E ->
   ∃t,PSs (J1 CX0 P w K mg base N qual (aj st) f cdv A outer s H E).nox (fC st) t/\t { nx:=λ_ H'=>Q .non H',rt:=Q } (start N vs) H):cQ P w K mg base CX0 (k+1) f fd ps sp:=by
 obtain⟨oc,od,kV,doc,pm,an,cdv,ct,osl,rfl,lk,hcd⟩:=F.ex;refine aeo lk hcd S len λA outer s H vs Q E hr hsp=>?_;obtain⟨t,h,q⟩:=hbody cdv A outer s H vs Q E hr hsp;exact⟨t,h.nox,q⟩
theorem Fun.binds{x qual:Str}{st:Stmt}{f:ID}{fd:D6}{ps:List Str}(F:Fun K x qual st f fd)
  (h:∀(kV doc pm:Ap)(an:Option ID)(cdv ct:Ap)(us:List Ap),us.length=ps.length->bindArgs (fnOf x qual (iB st) (fC st) (aj st) .none kV doc pm an cdv ct) ⟨us,[]⟩=pure (ps.zip us)):Binds K fd ps []:=by
 obtain⟨oc,od,kV,doc,pm,an,cdv,ct,osl,rfl,lk,hcd⟩:=F.ex;exact .all (h kV doc pm an cdv ct)
theorem Xy{x qual:Str}{st:Stmt}{f:ID}{oc:Ap}{od an:Option ID}{osl:Array (Option Ap)}{kV doc pm cdv ct:Ap}(l:K.lookup f=GT ⟨oc,od,.func (fnOf x qual (iB st) (fC st) (aj st) .none kV doc pm an cdv ct),osl⟩)
  (c:codeIn K cdv qual=true)(k:keepIn K (.ref f)=true):Fun K x qual st f (fnOf x qual (iB st) (fC st) (aj st) .none kV doc pm an cdv ct):=⟨⟨oc,od,kV,doc,pm,an,cdv,ct,osl,rfl,l,c⟩,k⟩
end
def Same(H H':Hp):Prop:=∀b o,H b=GT o->H' b=GT o
theorem Same.refl(H:Hp):Same H H:=λ_ _ h=>h
theorem Same.trans{H H1 H2:Hp}(a:Same H H1)(b:Same H1 H2):Same H H2:=λc o h=>b c o (a c o h)
theorem Same.seq{K:AD}{H H':Hp}{a:ID}{xs:List V}(e:Same H H')(h:SqL K H a xs):SqL K H' a xs:=by
 rcases h with(h|⟨o,h⟩)|h
 ·exact .inl (.inl (e _ _ h))
 ·exact .inl (.inr ⟨o,e _ _ h⟩)
 exact .inr h
end L2
set_option maxHeartbeats 4000000
namespace L2
open PySem PySem.Spec PyProof.Rows
theorem Bx{env:Env}:∀(names:List (Str×DE)) (acc:List (Str×ID)),
  (∀y∈names,y.2=.free->∃c,env.cells.lookup y.1=GT c)->(∀x c,acc.lookup x=GT c->env.cells.lookup x=GT c) ->
  ∃cl,(forIn names acc λ(y:Str×DE)(r:List (Str×ID))=>(match y with
   | (name,kind)=>if (kind == .free)=true then (do let a <- cellOf env name;pure (Db ((name,a)::r))) else pure (Db r):Sem (ForInStep (List (Str×ID)))))=pure cl /\
   (∀x c,cl.lookup x=GT c->env.cells.lookup x=GT c)/\(∀y∈names,y.2=.free->∃c,cl.lookup y.1=GT c)/\(∀x c,acc.lookup x=GT c->∃c',cl.lookup x=GT c')
 | [],acc,_,ha=>⟨acc,rfl,ha,λ_ h=>(nomatch h),λx c h=>⟨c,h⟩⟩
 | (n,k)::r,acc,hf,ha=>by
  have hf':∀y∈r,y.2=.free->∃c,env.cells.lookup y.1=GT c:=λy hy=>hf y (BE _ hy);by_cases hk:k=.free
  ·subst hk;obtain⟨c0,e0⟩:=hf (n,.free) A7 rfl;have hce:cellOf env n=pure c0:=by unfold cellOf;rw[e0]
   have ha2:∀x c,((n,c0)::acc).lookup x=GT c->env.cells.lookup x=GT c:=λx c h=>by
    rw[Fa] at h;cases hx:x == n with
    | true=>
     rw[hx] at h;have e1:x=n:=by simpa using hx
     rw[e1,e0];exact h
    | false=>
     rw[hx] at h;exact ha x c h
   obtain⟨cl,e,h1,h2,h3⟩:=Bx r ((n,c0)::acc) hf' ha2;refine⟨cl,?_,h1,λy hy hz=>?_,λx c h=>?_⟩
   ·rw[DI];simp only[beq_self_eq_true,if_true,hce];exact e
   ·rcases A1.mp hy with q|q
    ·subst q;exact h3 n c0 ζ
    exact h2 y q hz
   cases hx:x == n with
   | true=>exact h3 x c0 (by rw[Fa,hx])
   | false=>exact h3 x c (by rw[Fa,hx];exact h)
  have hb:(k == DE.free)=false:=by simpa using hk
  obtain⟨cl,e,h1,h2,h3⟩:=Bx r acc hf' ha;refine⟨cl,?_,h1,λy hy hz=>?_,h3⟩
  ·rw[DI];simp only[hb,Fm,if_false];exact e
  rcases A1.mp hy with q|q
  ·subst q;exact absurd hz hk
  exact h2 y q hz
theorem vJ{env:Env}{scope:E5}(hf:∀y∈scope.names,y.2=.free->∃c,env.cells.lookup y.1=GT c) :
  ∃cl,closureFor scope env=pure cl/\(∀x c,cl.lookup x=GT c->env.cells.lookup x=GT c)/\(∀y∈scope.names,y.2=.free->∃c,cl.lookup y.1=GT c):=by
 obtain⟨cl,e,h1,h2,_⟩:=Bx (env:=env) scope.names [] hf (λx c h=>by simp at h);refine⟨cl,?_,h1,h2⟩;unfold closureFor;show(forIn scope.names [] _ >>= λr=>pure r)=_;rw[show(forIn scope.names ([]:List (Str×ID)) λ(y:Str×DE)(r:List (Str×ID))=>(match y with
   | (name,kind)=>if (kind == .free)=true then (do let a <- cellOf env name;pure (Db ((name,a)::r))) else pure (Db r):Sem (ForInStep (List (Str×ID)))))=pure cl from e]
 rfl
section
variable {prog:AR}{w:A9}{A:A5}{R:Result->AA->Prop}{s:AA}
theorem EY{elt tg iter:Expr}{ifs:List Expr}{scope:E5}{pos:Pos}{it acc:Ap}{env:Env}(J:Nat->AA->Prop)
   (turn:∀n s,J n s->AG (AJ prog w) A (D2 it) (λr s1=>match r with
   | none=>R (.ok .next) s1
   | some v=>AG (AJ prog w) A (DS tg it v) (λ_ s1'=>AG (AJ prog w) A (EO tg env v) (λ_ s2=>
     AG (AJ prog w) A (forIn ifs true λc r=>if r=true then do let ok <- KI c env (eval c env);pure (Db ok) else pure (Db r)) (λok s3=>
      if ok=true then AG (AJ prog w) A (eval elt env) (λx s4=>
       AG (AJ prog w) A (call (.builtin "list.append") [acc,x]) (λ_ s5=>∃m,m<n/\J m s5) (ER (AJ prog w) A env λe z=>R (.error e) z) s4) (ER (AJ prog w) A env λe z=>R (.error e) z) s3
      else ∃m,m<n/\J m s3) (ER (AJ prog w) A env λe z=>R (.error e) z) s2) (ER (AJ prog w) A env λe z=>R (.error e) z) s1') (ER (AJ prog w) A env λe z=>R (.error e) z) s1) (ER (AJ prog w) A env λe z=>R (.error e) z) s)
  (n:Nat) (h:J n s):DL (AJ prog w) A (.compLoop (.ListComp elt [⟨tg,iter,ifs,0⟩] scope pos) 0 it acc env) R s:=by
 refine KP Z J (λn z hJ=>?_) n h;show AG _ A ((JY (.ListComp elt [⟨tg,iter,ifs,0⟩] scope pos) 0 it acc env).onRaise (λy=>do Kb y env;Ix y)) _ _ z;refine LB ?_;rw[compTurn_list];refine An (C6 (An (Bz (turn n z hJ) (λr s1 h1=>?_) λ_ _ q=>q)));cases r with
 | none=>exact Au h1
 | some v=>
  refine An (Bz h1 (λ_ s1' h1'=>?_) λ_ _ q=>q);refine An (Bz h1' (λ_ s2 h2=>An (Bz h2 (λok s3 h3=>?_) λ_ _ q=>q)) λ_ _ q=>q);cases ok with
  | false=>exact Au ⟨rfl,h3⟩
  | true=>
   exact An (An (Bz h3 (λx s4 h4=>An (Bz h4 (λ_ s5 h5=>Au (Au ⟨rfl,h5⟩)) λ_ _ q=>q)) λ_ _ q=>q))
end
def fM(mp:List (Option Nat))(σ:St):St:=mp.map λo=>match o with
 | some j=>(σ[j]?).join
 | none=>Is
def aO(X:Cx)(N:List Str)(scope:E5)(cl:List (Str×ID))(C:ID)(s:AA)(H:Hp)(fp:List ID):Cx:=
 { X with N:=N,s₀:=s,H₀:=H,env:=EW scope cl C X.env,outer:=X.stack,stack:=X.stack,ex:=fp,fn:=λ_=>false,pn:=[],xe:=λ_ _=>False }
def sE(NX:List Str)(names:List (Str×DE)):List Str->List (Option Nat)->Bool
 | [],[]=>true
 | x::r,o::q=>(match o with
   | none=>names.lookup x == GT .local
   | some j=>NX[j]? == GT x&&names.lookup x == GT .free)&&sE NX names r q
 | _,_=>false
theorem En{NX:List Str}{names:List (Str×DE)}:∀{N:List Str}{mp:List (Option Nat)}{i j:Nat}{x:Str},sE NX names N mp=true->N[i]?=GT x->mp[i]?=GT (GT j)->NX[j]?=GT x/\names.lookup x=GT .free
 | [],_,i,_,_,_,h,_=>by simp at h
 | _::_,[],_,_,_,h,_,_=>by simp[sE] at h
 | y::r,o::q,0,j,x,h,h1,h2=>by
  simp at h1 h2;subst h1 h2;unfold sE at h;simp only[CL,beq_iff_eq] at h;exact h.1
 | y::r,o::q,i+1,j,x,h,h1,h2=>by
  unfold sE at h;rw[CL] at h;exact En (i:=i) h.2 (by simpa using h1) (by simpa using h2)
theorem Em{NX:List Str}{names:List (Str×DE)}:∀{N:List Str}{mp:List (Option Nat)},sE NX names N mp=true->mp.length=N.length
 | [],[],_=>rfl
 | [],_::_,h=>by simp[sE] at h
 | _::_,[],h=>by simp[sE] at h
 | _::r,_::q,h=>by
  unfold sE at h;rw[CL] at h;simp[Em h.2]
structure oY(NX:List Str)(kX:List (Str×DE))(N:List Str)(mp:List (Option Nat))(scope:E5):Prop where
 kind:scope.kind=.function
 nocell:∀y∈scope.names,y.2≠.cell
 locs:∀y∈scope.names,y.2=.local->scope.names.lookup y.1=GT .local
 fre:∀y∈scope.names,y.2=.free->kX.lookup y.1=GT .cell\/kX.lookup y.1=GT .free
 map:sE NX scope.names N mp=true
def PTs(X:Cx)(cs:List Expr)(t:TT):Prop:=
 ∀(pins:List (ID×Obj)) (s:AA) (σ:St) (H:Hp) (Q:Bool->Hp->Prop),Inv X pins σ H s->t σ H Q ->
  AG (AJ X.prog X.w) X.A (forIn cs true λc r=>if r=true then do let ok <- KI c X.env (eval c X.env);pure (Db ok) else pure (Db r)) (TP X pins σ Q) X.xe s
def Y4:TT:=λ_ H Q=>Q true H
theorem ZR{X:Cx}:PTs X [] Y4:=λ_ _ _ H _ I h=>wpAny_tests_nil ⟨H,I,h⟩
theorem ZQ{X:Cx}{c:Expr}{t:TT}(h:PT X c t):PTs X [c] t:=λpins s σ H Q I q=>wpAny_tests_one (h pins s σ H Q I q)
def Du(mp:List (Option Nat))(wi:TI)(g:TG)(tc:TT)(te:TE):TE:=λσ H Q=>wi σ H λJ H1=>
 ∃W:Nat->Nat->List V->St->Hp->Prop,(∃m,W 0 m [] (fM mp σ) H1)/\∀i m acc τ H2,W i m acc τ H2 ->
  (J.stop i H2/\∀d,H2 d=Is->Q (.ref d) (upd H2 d (.lst acc))) \/
  (J.go i H2/\acc.length<AK/\∃N:List V->St->Hp->Prop,(∀acc' τ' H',N acc' τ' H'->∃m',m'<m/\W (i+1) m' acc' τ' H')/\∀x H3,J.yld i H2 x H3->g x τ H3 λτ1 H4=>tc τ1 H4 λb H5=>
   if b=true then te τ1 H5 λv H6=>N (acc++[v]) τ1 H6 else N acc τ1 H5)
theorem iW{env:Env}:∀{names:List (Str×DE)}{x:Str}{k:DE},(names.map λ(n,k)=>if (k == DE.free&&env.scope.kind == .function&&env.kindOf n == GT .cell) then (n,DE.cell) else (n,k)).lookup x=GT k ->
  names.lookup x=GT k\/(k=.cell/\names.lookup x=GT .free)
 | [],_,_,h=>by simp at h
 | (n,k0)::r,x,k,h=>by
  have ih:=@iW env r x k;rw[CB] at h;by_cases hc:(k0 == DE.free&&env.scope.kind == .function&&env.kindOf n == GT .cell)=true
  ·simp only[hc,if_true] at h;cases hx:x == n with
   | true=>
    rw[Fa,hx] at h;have hk:k0=.free:=by
     rw[CL,CL] at hc;simpa using hc.1.1
    right;refine⟨(BI h).symm,?_⟩;rw[Fa,hx,hk]
   | false=>
    rw[Fa,hx] at h;rw[Fa,hx];exact ih h
  simp only[hc,if_false] at h;cases hx:x == n with
  | true=>
   rw[if_neg ζ,Fa,hx] at h;rw[Fa,hx];exact .inl h
  | false=>
   rw[if_neg ζ,Fa,hx] at h;rw[Fa,hx];exact ih h
theorem na0{b D E:Nat}(h:b<E)(hD:E=D):b≠D:=by omega
theorem na1{b D E C:Nat}(h:b<E)(hD:E=D)(hC:C=D+1):b≠C:=by omega
theorem na2{C D:Nat}(hC:C=D+1):D≠C:=by omega
theorem na3{C D E:Nat}(hD:E=D)(hC:C=D+1):E<=C:=by omega
theorem na4{D E:Nat}(hD:E=D):E<=D:=by omega
section
variable {X:Cx}{NX N:List Str}{kX:List (Str×DE)}{mp:List (Option Nat)}{scope:E5}{pins:List (ID×Obj)}{σ:St}{s s':AA}{H:Hp}{fp:List ID}{cl:List (Str×ID)}{C:ID}
theorem wN(hkX:X.env.scope.names=kX)(S:oY NX kX N mp scope)(I:Inv X pins σ H s)(hfp:∀b∈fp,pH X pins H b)(hold:∀b∈fp,b<s.heap.objs.size)(hC:s.heap.objs.size<=C)
  (hsub:∀x c,cl.lookup x=GT c->X.env.cells.lookup x=GT c)(hhas:∀y∈scope.names,y.2=.free->∃c,cl.lookup y.1=GT c):(aO X N scope cl C s H fp).Ok where
 mod:=I.ok.mod
 kind:=S.kind
 glob:=I.ok.glob
 blt:=I.ok.blt
 above:=hC
 inj:=λx y c h1 h2=>I.ok.inj x y c (hsub x c h1) (hsub y c h2)
 has:=λx h=>by
  have key:scope.names.lookup x=GT .free:=by
   rcases h with h|h
   ·rcases iW (env:=X.env) (names:=scope.names) h with q|⟨_,q⟩
    ·exact absurd Z (S.nocell _ (DH q))
    exact q
   rcases iW (env:=X.env) (names:=scope.names) h with q|⟨q,_⟩
   ·exact q
   cases q
  exact hhas _ (DH key) rfl
 cab:=λx c h=>by cases h
 hd:=I.ok.hd
 frames:=I.ok.frames
 stk:=.inl rfl
 exf:=λb hb=>⟨B5 (BS (hold b hb) hC),λx c e=>(hfp b hb).2.2.2.2.1 x c (hsub x c e)⟩
 bs:=I.bs
 bsz:=CF I.ok.bsz I.sz
 noex:=λb o e hb=>by
  rcases(hfp b hb).2.2.2.1 with q|q
  ·exact I.ok.noex b o e q
  exact absurd (BS (BS (AY e) I.ok.bsz) q) (E4 _)
 exfs:=λb hb hz=>by
  obtain⟨_,h1,h2,_⟩:=hfp b hb;rcases A1.mp (I.pO b hz) with q|q
  ·exact h1 q
  exact h2 q
 yH:=I.stack
 frf:=I.Oe
theorem vI(hNX:X.N=NX)(hkX:X.env.scope.names=kX)(S:oY NX kX N mp scope)(I:Inv X pins σ H s)(hfp:∀b∈fp,pH X pins H b)(hold:∀b∈fp,b<s.heap.objs.size)(hC:s.heap.objs.size<=C)
  (hsub:∀x c,cl.lookup x=GT c->X.env.cells.lookup x=GT c)(hhas:∀y∈scope.names,y.2=.free->∃c,cl.lookup y.1=GT c)
  (ho:s'.os=s.os)(hg:s'.gens=s.gens)(hn:∃m,s'.heap.Ns C m)(hk:∀b o,s.heap.get? b=GT o->s'.heap.get? b=GT o){pl:List (ID×Obj)}
  (hp:∀p∈pl,s'.heap.get? p.1=GT p.2/\H p.1=Is/\p.1≠C/\p.1∉frs X.stack/\∀v,p.2.data≠.cell v) :
  Inv (aO X N scope cl C s H fp) pl (fM mp σ) H s' where
 ok:=wN hkX S I hfp hold hC hsub hhas
 os:=ho
 bare:=by rw[hg];exact I.bare
 base:=Un.kept hk
 loc:=by
  obtain⟨m,hm⟩:=hn;refine⟨m,hm,λi x v h1 h2 h3=>?_⟩;have h2':(mp.map λo=>match o with|some j=>(σ[j]?).join|none=>Is)[i]?=GT (GT v):=h2
  rw[AQ] at h2';cases e:mp[i]? with
  | none=>rw[e] at h2';cases h2'
  | some o=>
   rw[e] at h2';cases o with
   | none=>cases h2'
   | some j=>
    have h4:(σ[j]?).join=GT v:=by simpa using h2'
    have h5:σ[j]?=GT (GT v):=by
     cases q:σ[j]? with
     | none=>rw[q] at h4;cases h4
     | some z=>rw[q] at h4;rw[show z=GT v from h4]
    obtain⟨g1,g2⟩:=En S.map h1 e;have fk:=S.fre _ (DH g2) rfl;obtain⟨m0,_,hl⟩:=I.loc;have vis:Vis X.env.scope x:=by
     rcases fk with q|q
     ·exact .inr (.inl (by rw[hkX];exact q))
     exact .inr (.inr (by rw[hkX];exact q))
    obtain⟨u,r,l⟩:=hl j x v (by rw[hNX];exact g1) h5 vis;refine⟨u,r,.inr ?_⟩;have l':∃c,X.env.cells.lookup x=GT c/\s.heap.IsCell c (GT u):=by
     rcases l with⟨q,_⟩|⟨_,q⟩
     ·have q':X.env.scope.names.lookup x=GT .local:=q;rw[hkX] at q';rcases fk with z|z
      ·rw[q'] at z;cases z
      rw[q'] at z;cases z
     exact q
    obtain⟨c,hc,oc,hoc,hd⟩:=l';obtain⟨c',hc'⟩:=hhas _ (DH g2) rfl;have ec:c'=c:=by
     have:=hsub x c' hc';rw[hc] at this;exact(BI this).symm
    subst ec;refine⟨?_,c',hc',oc,hk _ _ hoc,hd⟩;rcases h3 with q|q|q
    ·rcases iW (env:=X.env) (names:=scope.names) q with z|⟨z,_⟩
     ·rw[g2] at z;cases z
     cases z
    ·exact .inl q
    exact .inr q
 cell:=λx c e=>by
  obtain⟨v,o,h1,h2⟩:=I.cell x c (hsub x c e);exact⟨v,o,hk _ _ h1,h2⟩
 free:=I.hok.fresh hC
 freeC:=λx c e=>I.freeC x c (hsub x c e)
 pin:=λp hpp=>hp p (by simpa [aO] using hpp)
 hok:=I.hok.kept hk
 len:=by
  show(mp.map _).length=N.length;rw[AE];exact Em S.map
set_option maxHeartbeats 8000000 in
theorem aar{tg iter elt:Expr}{ifs:List Expr}{pos:Pos}{wi:TI}{g:TG}{tc:TT}{te:TE}(N:List Str)(mp:List (Option Nat))(hNX:X.N=NX)(hkX:X.env.scope.names=kX)(S:oY NX kX N mp scope)(hc:X.calm=true)
  (hi:PI X tg iter wi)(hg:∀cl C s H fp,PG (aO X N scope cl C s H fp) tg g)(ht:∀cl C s H fp,PTs (aO X N scope cl C s H fp) ifs tc)(he:∀cl C s H fp,PE (aO X N scope cl C s H fp) elt te)
  (hs:∀x,B2 iter X.env x=pure x:=by intro _;rfl):PE X (.ListComp elt [⟨tg,iter,ifs,0⟩] scope pos) (Du mp wi g tc te):=by
 intro pins s σ H Q I h;obtain⟨cl,hcl,hsub,hhas⟩:=vJ (env:=X.env) (scope:=scope) λy hy hf=>I.ok.has y.1 (by
  rcases S.fre y hy hf with q|q
  ·exact .inl (show X.env.scope.names.lookup y.1=_ by rw[hkX];exact q)
  exact .inr (show X.env.scope.names.lookup y.1=_ by rw[hkX];exact q))
 rw[eval_ListComp];refine Fn (use:=Is) Z hs hcl S.kind S.locs ?_;refine thn (hi pins s σ H _ I h) λv s1 h1=>thn h1 λitv s2 h2=>?_;obtain⟨it,fp,tn,J,H2,e,I2,T,st2,f2,W,⟨m0,w0⟩,turn⟩:=h2;subst e;refine Be (F3 S.nocell (by intro y hy;simp at hy) (λh3 hns hsb=>?_) S.kind);dsimp only at hns hsb |-;have hold:∀b∈fp,b<s2.heap.objs.size:=λb hb=>by
  obtain⟨o,q,_⟩:=T.obj _ _ st2 b hb;exact AY q
 generalize hD:s2.heap.objs.size=D at hns hsb;generalize hH2:s2.heap.push { cls:=.type "list",dict:=Is,data:=.seq ([]:List Ap).toArray }=P2 at hns hsb |-;have hC:P2.objs.size=D+1:=by rw[<- hH2,Ct,hD]
 generalize hC':P2.objs.size=C at hns hsb |-;rw[hC'] at hC;have old:∀b o,s2.heap.get? b=GT o->h3.get? b=GT o:=λb o q=>by
  have hb:=AY q;exact hsb.extBut b o (na1 hb hD hC) (AB _ (hH2 ▸ AB _ q))
 have accD:h3.get? D=GT { cls:=.type "list",data:=.seq ([]:List Ap).toArray }:=
  hsb.extBut _ _ (na2 hC) (AB _ (by rw[<- hH2,<- hD];exact AO _ Z))
 have hfr:D∉frs X.stack:=λz=>by
  rcases A1.mp (I2.pO D z) with q|q
  ·exact na0 I2.lt hD q.symm
  exact I2.RP (na4 hD) q
 have I0:Inv (aO X N scope cl C s2 H2 fp) [(D,{ cls:=.type "list",data:=.seq ([]:List Ap).toArray })] (fM mp σ) H2 { s2 with heap:=h3,toks:=s2.toks+([]:List (Str×Ap)).length }:=
  vI (s':={ s2 with heap:=h3,toks:=s2.toks+([]:List (Str×Ap)).length }) hNX hkX S I2 f2 hold (na3 hD hC) hsub hhas Z Z ⟨_,hns⟩ old λp hp=>by
   have ep:=AL.mp hp;subst ep;exact⟨accD,I2.hok.fresh (na4 hD),na2 hC,hfr,λv z=>by cases z⟩
 have T0:tn 0 h3:=T.keep _ _ _ st2 λb _ o q=>old b o q;have loop:∀z:AA,z={ s2 with heap:=h3,toks:=s2.toks+([]:List (Str×Ap)).length } ->
   DL (AJ X.prog X.w) X.A (.compLoop (.ListComp elt [⟨tg,iter,ifs,0⟩] scope pos) 0 (.ref it) (.ref D) (EW scope cl C X.env))
    (compPost (AJ X.prog X.w) X.A X.xe Is (EP X pins σ Q) (.ref D) C) z:=by
  rintro z rfl;have stat:∀{H':Hp}{pl:List (ID×Obj)},(∀b∈fp,H' b=Is)->(∀p∈pl,p.1=D)->∀b∈fp,pH (aO X N scope cl C s2 H2 fp) pl H' b:=λhn hp b hb=>by
   have hb2:=hold b hb;refine⟨hn b hb,na1 hb2 hD hC,(wN hkX S I2 f2 hold (na3 hD hC) hsub hhas).exfs b hb,.inl hb,λx c q=>(f2 b hb).2.2.2.2.1 x c (hsub x c q),λp hpp=>?_⟩;have hpD:=hp p (by simpa [aO] using hpp);rw[hpD];exact(na0 hb2 hD).symm
  refine EY (env:=EW scope cl C X.env) (λn z=>∃i acc τ H' its k,Inv (aO X N scope cl C s2 H2 fp) [(D,{ cls:=.type "list",data:=.seq (DU its) k })] τ H' z/\tn i z.heap/\(∀b∈fp,H' b=Is)/\Vals acc its/\acc.length<=AK/\W i n acc τ H')
   ?_ m0 ⟨0,[],_,H2,[],0,I0,T0,λb hb=>(f2 b hb).1,.nil,DJ _,w0⟩
  rintro n s5 ⟨i,acc,τ,H5,its,k,I5,st5,fr5,va,hz,w5⟩;rcases turn i n acc τ H5 w5 with⟨stop,qn⟩|⟨go,hz2,N9,hN9,step⟩
  ·refine thn (T.done (aO X N scope cl C s2 H2 fp) Z Z Z hc i _ s5 τ H5 _ I5 (stat fr5 ζ) st5 stop) λr s6 ⟨hr,I6⟩=>?_;subst hr;obtain⟨m6,hn6,_⟩:=I6.loc;refine⟨m6,hn6,λh' sb=>?_⟩;obtain⟨dD,nD,_,_,_⟩:=I6.pin (D,_) (AN _ (AL.mpr Z));have U:=I6.base;have nC:H5 C=Is:=I6.free;have ne:∀b o,s2.heap.get? b=GT o->b≠C/\b≠D:=λb o q=>by
    exact⟨na1 (AY q) hD hC,na0 (AY q) hD⟩
   have keepC:∀b o,b≠C->s6.heap.get? b=GT o->h'.get? b=GT o:=λb o hb q=>(sb.2 b hb).trans q;have U':Un (frs X.stack) fp H2 (upd H5 D (.lst acc)) s2.heap h':=by
    refine⟨λb o q n1 hb hx=>keepC b o (ne b o q).1 (U.keep b o q n1 hb hx),λb o q n1 hb hx=>?_,λb o q n1 hx=>?_,λb o q hx=>?_,λb xs q=>?_,λb o xs q=>?_,λb ps q=>?_⟩
    ·obtain⟨sl,z⟩:=U.slot b o q n1 hb hx;exact⟨sl,keepC b _ (ne b o q).1 z⟩
    ·rw[aJ (ne b o q).2];exact U.free b o q n1 hx
    ·obtain⟨o',z⟩:=U.there b o q hx;exact⟨o',keepC b _ (ne b o q).1 z⟩
    ·have z:=U.tups b xs q;rw[aJ (aF z nD)];exact z
    ·have z:=U.frzs b o xs q;rw[aJ (aF z nD)];exact z
    obtain⟨more,z⟩:=U.tbls b ps q;exact⟨more,by rw[aJ (aF z nD)];exact z⟩
   have hok:HOk X.prog X.w (upd H5 D (.lst acc)) h':=λb u q=>by
    by_cases hb:b=D
    ·subst hb;rw[aA] at q;cases q;exact⟨hz,its,k,va,keepC _ _ (na2 hC) dD⟩
    rw[aJ hb] at q;refine(I6.hok b u q).stay (λc v hcc z=>keepC c v ?_ z) (λc z=>by rw[aJ (aF z nD)];exact z) λc xs z=>by rw[aJ (aF z nD)];exact z
    rcases hcc with z1|z1
    ·subst z1;exact aF q nC
    exact aF z1 nC
   have I7:Inv X pins σ (upd H5 D (.lst acc)) { s6 with heap:=h' }:=I2.call' (s':={ s6 with heap:=h' }) (ch:=fp) I6.os U' hok I6.bare λb hb=>by
    obtain⟨_,a2,_,a4,a5,a6⟩:=f2 b hb;exact⟨a4,a2,a5,a6⟩
   exact⟨.ref D,_,I7,rfl,qn D nD⟩
  refine thn (T.item (aO X N scope cl C s2 H2 fp) Z Z Z hc i _ s5 τ H5 _ I5 (stat fr5 ζ) st5 go) λr s6 ⟨u,hr,h6⟩=>?_;subst hr;refine thn h6 λ_ s7 ⟨x,H7,I7,r7,y7,st7,fr7⟩=>?_;have I7':=I7.pinned (stat fr7 ζ) (T.obj _ _ st7);have no:∀{α:Type}{t:Sem α}{Q1 Q2:α->AA->Prop}{E:Ap->AA->Prop}{z:AA},AG (AJ X.prog X.w) X.A t Q1 (λ_ _=>False) z->(∀a z,Q1 a z->Q2 a z)->AG (AJ X.prog X.w) X.A t Q2 E z:=
   λq f=>Bz q f λ_ _ z=>z.elim
  refine no (hg cl C s2 H2 fp _ s7 τ H7 x u _ I7' r7 (step x H7 y7)) λ_ s8 ⟨τ1,H8,I8,q8⟩=>?_;refine no (ht cl C s2 H2 fp _ s8 τ1 H8 _ I8 q8) λok s9 ⟨H9,I9,q9⟩=>?_;have GW:∀{H':Hp}{z:AA}{its':List Ap}{k':Nat},Inv (aO X N scope cl C s2 H2 fp) ([(D,{ cls:=.type "list",data:=.seq (DU its') k' })]++dU fp s7.heap) τ1 H' z ->
    tn (i+1) z.heap/\(∀b∈fp,H' b=Is)/\Inv (aO X N scope cl C s2 H2 fp) [(D,{ cls:=.type "list",data:=.seq (DU its') k' })] τ1 H' z:=λ{H' z its' k'} Iz=>by
   have get:∀b∈fp,∀o,s7.heap.get? b=GT o->z.heap.get? b=GT o/\H' b=Is:=λb hb o q=>by
    obtain⟨a1,a2,_⟩:=Iz.pin (b,o) (AN _ (AN _ (f9 hb q)));exact⟨a1,a2⟩
   refine⟨T.keep _ _ _ st7 λb hb o q=>(get b hb o q).1,λb hb=>?_,Iz.iR⟩;obtain⟨o,q,_⟩:=T.obj _ _ st7 b hb;exact(get b hb o q).2
  cases ok with
  | false=>
   rw[if_neg AZ] at q9 |-;obtain⟨m',hm,w9⟩:=hN9 _ _ _ q9;obtain⟨a1,a2,a3⟩:=GW I9;exact⟨m',hm,i+1,acc,τ1,H9,its,k,a3,a1,a2,va,hz,w9⟩
  | true=>
   rw[if_pos rfl] at q9 |-;refine no (he cl C s2 H2 fp _ s9 τ1 H9 _ I9 q9) λy s10 ⟨v,H10,I10,rv,q10⟩=>?_;obtain⟨m',hm,w10⟩:=hN9 _ _ _ q10;obtain⟨a1,a2,a3⟩:=GW I10;obtain⟨dD,nD,_,_,_⟩:=a3.pin (D,_) (AN _ (AL.mpr Z));have hlen:=va.length;refine EA IJ ⟨_,dD,rfl⟩ IA (HZ _ _) (Jn D its.toArray k y (by rw[AX];omega)) ⟨dD,?_⟩;obtain⟨k',q⟩:∃k',(s10.heap.update D (Ch λa=>a.push y)).get? D=GT { cls:=.type "list",data:=.seq (its++[y]).toArray k' }:=by
    have q:=JU dD (λa=>a.push y);rw[show its.toArray.push y=(its++[y]).toArray by simp] at q;exact⟨_,q⟩
   have a4:Inv (aO X N scope cl C s2 H2 fp) (dU fp s7.heap) τ1 H10 s10:=I10.ig λp hp=>I10.pin p (AN _ (AN _ hp));have a5:Inv (aO X N scope cl C s2 H2 fp) (dU fp s7.heap) τ1 H10 { s10 with heap:=s10.heap.update D (Ch λa=>a.push y),toks:=s10.toks }:=
    a4.turned (it:=D) (λb o hb z=>(CH _ _ (BC hb)).trans z) nD (na2 hC) (.inr (na4 hD))
     (λx c z=>by
      obtain⟨_,o,h1,_⟩:=I2.cell x c (hsub x c z);exact na0 (AY h1) hD) λp hp=>by
      have hb:=(kj (by simpa [aO] using hp)).1;exact na0 (hold _ hb) hD
   obtain⟨b1,b2,b3⟩:=(show tn (i+1) (s10.heap.update D (Ch λa=>a.push y))/\(∀b∈fp,H10 b=Is)/\True from
    ⟨T.keep _ _ _ a1 λb hb o z=>(CH _ _ (na0 (hold b hb) hD).symm).trans z,a2,trivial⟩)
   refine⟨m',hm,i+1,acc++[v],τ1,H10,its++[y],k',a5.ig λp hp=>?_,b1,b2,va.append (.cons rv .nil),by rw[AV,BG];omega,w10⟩;have ep:=AL.mp hp;subst ep;exact⟨q,nD,na2 hC,hfr,λv z=>by cases z⟩
 have e1:{ newEnv scope C X.env.globals cl X.env.qual Is .none (GT X.env) X.env.builtins with scope:=relabel scope X.env }=EW scope cl C X.env:=rfl;exact KS (loop _ Z) (T.self _ 0 _ _ _ T0 (loop _ Z))
end
section
variable {X:Cx}{pins:List (ID×Obj)}{σ:St}{H:Hp}{s:AA}
theorem Inv.Oa{ch:List ID}{h':Heap}{t':Nat}(I:Inv X pins σ H s)(hf:∀b∈ch,pH X pins H b)(k:∀b o,b∉ch->s.heap.get? b=GT o->h'.get? b=GT o):Inv X pins σ H { s with heap:=h',toks:=t' }:=by
 have nit:∀b u,H b=GT u->b∉ch:=λb u e z=>by rw[(hf b z).1] at e;cases e
 refine I.step (g':=s.gens) (d':=s.drawn) (ch:=ch) (λb hb=>?_) (λb o _ _ hc e _=>k b o hc e) (λb o _ _ hc e _=>⟨o.slots,k b o hc e⟩) (λ_ _ _ _ n=>n)
  (λb o hc e=>⟨o,k b o hc e⟩) (λ_ _ e=>e) (λ_ _ _ e=>e) (λb ps e=>⟨#[],by rw[e];simp⟩) (λm hm=>?_) (λb u e=>?_) I.bare
 ·obtain⟨_,a2,_,a4,a5,a6⟩:=hf b hb;exact⟨a4,a2,a5,a6⟩
 ·obtain⟨o,es,ep,ho,r⟩:=hm;exact⟨o,es,ep,k _ o (λz=>(hf _ z).2.1 Z) ho,r⟩
 refine(I.hok b u e).stay (λc v hc q=>k c v ?_ q) (λ_ q=>q) λ_ _ q=>q;rcases hc with z|z
 ·rw[z];exact nit b u e
 exact nit c _ z
theorem Inv.N8{ch:List ID}{h':Heap}{t':Nat}{p:ID}{o:HO}(I:Inv X pins σ H s)(hf:∀b∈ch,pH X pins H b)(k:∀b o,b∉ch->s.heap.get? b=GT o->h'.get? b=GT o)(hp:s.heap.objs.size<=p)
  (new:cD X.prog X.w (upd H p o) h' p o):Inv X pins σ (upd H p o) { s with heap:=h',toks:=t' }:=by
 have hn:H p=Is:=I.hok.fresh hp;have nit:∀b u,H b=GT u->b∉ch:=λb u e z=>by rw[(hf b z).1] at e;cases e
 have lt:∀b u,s.heap.get? b=GT u->b≠p:=λb u e=>B5 (BS (AY e) hp);refine I.step (g':=s.gens) (d':=s.drawn) (ch:=ch) (λb hb=>?_) (λb o _ _ hc e _=>k b o hc e) (λb o _ _ hc e _=>⟨o.slots,k b o hc e⟩) (λb o _ e n=>by rw[aJ (lt b o e)];exact n)
  (λb o hc e=>⟨o,k b o hc e⟩) (λb xs e=>by rw[aJ (aF e hn)];exact e) (λb u xs e=>by rw[aJ (aF e hn)];exact e) (λb ps e=>⟨#[],by rw[aJ (aF e hn),e];simp⟩) (λm hm=>?_) (λb u e=>?_) I.bare
 ·obtain⟨_,a2,_,a4,a5,a6⟩:=hf b hb;exact⟨a4,a2,a5,a6⟩
 ·obtain⟨o,es,ep,ho,r⟩:=hm;exact⟨o,es,ep,k _ o (λz=>(hf _ z).2.1 Z) ho,r⟩
 by_cases hb:b=p
 ·subst hb;rw[aA] at e;cases e;exact new
 rw[aJ hb] at e;refine(I.hok b u e).stay (λc v hc q=>k c v ?_ q) (λc q=>by rw[aJ (aF q hn)];exact q) λc xs q=>by rw[aJ (aF q hn)];exact q
 rcases hc with z|z
 ·rw[z];exact nit b u e
 exact nit c _ z
end
def Itz(K:AD)(a b:ID):It:=
 ⟨λi H=>∃xs ys x y,SqL K H a xs/\SqL K H b ys/\xs[i]?=GT x/\ys[i]?=GT y,
  λi H v H'=>∃p x y,v=.ref p/\H p=Is/\H'=upd H p (.tup [x,y])/\(∀xs,SqL K H a xs->xs[i]?=GT x)/\∀ys,SqL K H b ys->ys[i]?=GT y,
  λi H=>∃xs ys,SqL K H a xs/\SqL K H b ys/\(xs[i]?=Is\/ys[i]?=Is)⟩
theorem Ua{P:AR}{w:A9}{K:AD}{es:List Expr}{kk:Nat}{tpos:Pos}{z TI TO i1 i2 l1 l2:ID}(D:EL z TI TO i1 i2 l1 l2) :
  Turn P w K (.Tuple es kk tpos) (Itz K l1 l2) [z,TI,TO,i1,i2] z (λi h=>Ki h z TI TO .none/\Cn h TI (.ref i1) (.ref i2)/\(∃a b,Cn h TO a b)/\h.IsListIter i1 l1 i/\h.IsListIter i2 l2 i) where
 mem:=by simp
 obj:=λi h st b hb=>by
  obtain⟨hz,hTI,⟨a,b',hTO⟩,⟨o1,e1,c1,d1⟩,⟨o2,e2,c2,d2⟩⟩:=st;simp only[A1,BA,or_false] at hb;rcases hb with rfl|rfl|rfl|rfl|rfl
  ·exact⟨_,hz,λv q=>by cases q⟩
  ·exact⟨_,hTI,λv q=>by cases q⟩
  ·exact⟨_,hTO,λv q=>by cases q⟩
  ·exact⟨o1,e1,λv q=>by rw[d1] at q;cases q⟩
  exact⟨o2,e2,λv q=>by rw[d2] at q;cases q⟩
 keep:=λi h h' st k=>by
  obtain⟨hz,hTI,⟨a,b',hTO⟩,h1,h2⟩:=st;exact⟨k z ζ _ hz,k TI ζ _ hTI,⟨a,b',k TO ζ _ hTO⟩,h1.at λo e=>k i1 ζ o e,h2.at λo e=>k i2 ζ o e⟩
 item:=by
  intro X hP hw hK hc i pins s σ H E I hf st hg;subst hP hw hK;obtain⟨xs,ys,x,y,q1,q2,hx,hy⟩:=hg;obtain⟨its1,rv1,p1,hz1⟩:=I.list q1;obtain⟨its2,rv2,p2,hz2⟩:=I.list q2;obtain⟨u1,hu1,ru1⟩:=rv1.get hx;obtain⟨u2,hu2,ru2⟩:=rv2.get hy;obtain⟨hz,hTI,⟨a,b',hTO⟩,h1,h2⟩:=st;refine wpAny_pyNext_zip_item D hz hTI hTO h1 h2 p1.isList p2.isList (x:=u1) (y:=u2) (by simpa using hu1) (by simpa using hu2) λh' a1 a2 a3 a4 a5 a6 hk=>?_;have new:cD X.prog X.w (upd H s.heap.objs.size (.tup [x,y])) h' s.heap.objs.size (.tup [x,y]):=⟨by show 2<=AK;decide,[u1,u2],.cons ru1 (.cons ru2 .nil),_,a5,rfl,_,rfl⟩;have I1:Inv X pins σ (upd H s.heap.objs.size (.tup [x,y])) { s with heap:=h' }:=I.N8 (t':=s.toks) (ch:=[z,TO,i1,i2]) (λb hb=>hf b (by
   simp only[A1,BA,or_false] at hb |-;rcases hb with r|r|r|r <;> simp[r]))
   (λb o hb e=>hk b o (λq=>hb (by simp[q])) (λq=>hb (by simp[q])) (λq=>hb (by simp[q])) (λq=>hb (by simp[q])) e) (AU _) new
  have hTI':Cn h' TI (.ref i1) (.ref i2):=hk _ _ D.TIz D.TITO D.TIi1 D.TIi2 hTI;have hsz:∀b,b∈[z,TI,TO,i1,i2]->b≠s.heap.objs.size:=λb hb=>by
   obtain⟨_,_,hlt,_⟩:=hf b hb;have lt:∃o,s.heap.get? b=GT o:=by
    simp only[A1,BA,or_false] at hb;rcases hb with rfl|rfl|rfl|rfl|rfl
    ·exact⟨_,hz⟩
    ·exact⟨_,hTI⟩
    ·exact⟨_,hTO⟩
    ·obtain⟨o,e,_⟩:=h1;exact⟨o,e⟩
    obtain⟨o,e,_⟩:=h2;exact⟨o,e⟩
   obtain⟨o,e⟩:=lt;exact B5 (AY e)
  refine⟨_,rfl,wpAny_letOwnedTupleGo_zip (s:={ s with heap:=h' }) a1 λh'' z2 sb=>?_⟩;have fz:=hf z ζ;have I2:Inv X pins σ (upd H s.heap.objs.size (.tup [x,y])) { s with heap:=h'' }:=Inv.turned (s:={ s with heap:=h' }) (it:=z) (t':=s.toks) I1 (λb o hb e=>(sb.2 b hb).trans e) (by rw[aJ (hsz z ζ)];exact fz.1) fz.2.1 fz.2.2.2.1 fz.2.2.2.2.1 fz.2.2.2.2.2;refine⟨.ref s.heap.objs.size,_,I2,rfl,⟨_,x,y,rfl,I.fresh,rfl,λxs' q=>by rw[I.qC q q1];exact hx,λys' q=>by rw[I.qC q q2];exact hy⟩,
   ⟨z2,(sb.2 _ D.TIz).trans hTI',⟨_,_,(sb.2 _ D.TOz).trans a2⟩,a3.extBut sb.extBut D.i1z,a4.extBut sb.extBut D.i2z⟩,λb hb=>by rw[aJ (hsz b hb)];exact(hf b hb).1⟩
 done:=by
  intro X hP hw hK hc i pins s σ H E I hf st hg;subst hP hw hK;obtain⟨xs,ys,q1,q2,hx⟩:=hg;obtain⟨its1,rv1,p1,hz1⟩:=I.list q1;obtain⟨its2,rv2,p2,hz2⟩:=I.list q2;obtain⟨hz,hTI,⟨a,b',hTO⟩,h1,h2⟩:=st;have hend:its1.toArray[i]?=Is\/its2.toArray[i]?=Is:=by
   rcases hx with r|r
   ·exact .inl (by simpa using rv1.none_of r)
   exact .inr (by simpa using rv2.none_of r)
  refine wpAny_pyNext_zip_end (I.ok.hd hc) D hz hTI hTO h1 h2 p1.isList p2.isList hend λh' hk=>⟨rfl,?_⟩;exact I.Oa (t':=s.toks) (ch:=[z,TO,i1,i2]) (λb hb=>hf b (by
   simp only[A1,BA,or_false] at hb |-;rcases hb with r|r|r|r <;> simp[r]))
   (λb o hb e=>hk b o (λq=>hb (by simp[q])) (λq=>hb (by simp[q])) (λq=>hb (by simp[q])) (λq=>hb (by simp[q])) e)
 self:=λ_ _ _ _ _ st h=>Gc st.1 h
def Ite(K:AD)(a:ID):It:=
 ⟨λi H=>∃xs x,SqL K H a xs/\xs[i]?=GT x,
  λi H v H'=>∃p x,v=.ref p/\H p=Is/\H'=upd H p (.tup [.int (i:Nat),x])/\∀xs,SqL K H a xs->xs[i]?=GT x,
  λi H=>∃xs,SqL K H a xs/\xs[i]?=Is⟩
theorem QF{P:AR}{w:A9}{K:AD}{es:List Expr}{kk:Nat}{tpos:Pos}{e it l:ID}(hne:e≠it) :
  Turn P w K (.Tuple es kk tpos) (Ite K l) [e,it] e (λi h=>(∃old,IsEnum h e it ((i:Nat):Int) old)/\h.IsListIter it l i) where
 mem:=by simp
 obj:=λi h st b hb=>by
  obtain⟨⟨old,he⟩,⟨o1,e1,c1,d1⟩⟩:=st;simp only[A1,BA,or_false] at hb;rcases hb with rfl|rfl
  ·exact⟨_,he,λv q=>by cases q⟩
  exact⟨o1,e1,λv q=>by rw[d1] at q;cases q⟩
 keep:=λi h h' st k=>by
  obtain⟨⟨old,he⟩,h1⟩:=st;exact⟨⟨old,k e ζ _ he⟩,h1.at λo q=>k it ζ o q⟩
 item:=by
  intro X hP hw hK hc i pins s σ H E I hf st hg;subst hP hw hK;obtain⟨xs,x,q1,hx⟩:=hg;obtain⟨its1,rv1,p1,hz1⟩:=I.list q1;obtain⟨u1,hu1,ru1⟩:=rv1.get hx;obtain⟨⟨old,he⟩,h1⟩:=st;refine wpAny_pyNext_enum_item he h1 p1.isList (x:=u1) (by simpa using hu1) hne λh' a1 a2 a3 a4 hk=>?_;have new:cD X.prog X.w (upd H s.heap.objs.size (.tup [.int (i:Nat),x])) h' s.heap.objs.size (.tup [.int (i:Nat),x]):=⟨by show 2<=AK;decide,[.int (i:Nat) s.toks,u1],.cons ⟨_,rfl⟩ (.cons ru1 .nil),_,a3,rfl,_,rfl⟩;have I1:Inv X pins σ (upd H s.heap.objs.size (.tup [.int (i:Nat),x])) { s with heap:=h',toks:=s.toks+1 }:=I.N8 (ch:=[e,it]) hf
   (λb o hb q=>hk b o (λz=>hb (by simp[z])) (λz=>hb (by simp[z])) q) (AU _) new
  have hsz:∀b,b∈[e,it]->b≠s.heap.objs.size:=λb hb=>by
   have lt:∃o,s.heap.get? b=GT o:=by
    simp only[A1,BA,or_false] at hb;rcases hb with rfl|rfl
    ·exact⟨_,he⟩
    obtain⟨o,q,_⟩:=h1;exact⟨o,q⟩
   obtain⟨o,q⟩:=lt;exact B5 (AY q)
  refine⟨_,rfl,wpAny_letOwnedTupleGo_enum (s:={ s with heap:=h',toks:=s.toks+1 }) a1 λh'' z2 sb=>?_⟩;have fz:=hf e ζ;have I2:Inv X pins σ (upd H s.heap.objs.size (.tup [.int (i:Nat),x])) { s with heap:=h'',toks:=s.toks+1 }:=Inv.turned (s:={ s with heap:=h',toks:=s.toks+1 }) (it:=e) I1 (λb o hb q=>(sb.2 b hb).trans q) (by rw[aJ (hsz e ζ)];exact fz.1) fz.2.1 fz.2.2.2.1 fz.2.2.2.2.1 fz.2.2.2.2.2;refine⟨.ref s.heap.objs.size,_,I2,rfl,⟨_,x,rfl,I.fresh,rfl,λxs' q=>by rw[I.qC q q1];exact hx⟩,
   ⟨⟨_,by simpa using z2⟩,a2.extBut sb.extBut hne.symm⟩,λb hb=>by rw[aJ (hsz b hb)];exact(hf b hb).1⟩
 done:=by
  intro X hP hw hK hc i pins s σ H E I hf st hg;subst hP hw hK;obtain⟨xs,q1,hx⟩:=hg;obtain⟨its1,rv1,p1,hz1⟩:=I.list q1;obtain⟨⟨old,he⟩,h1⟩:=st;refine wpAny_pyNext_enum_end (I.ok.hd hc) he h1 p1.isList (by simpa using rv1.none_of hx) λh' hk=>⟨rfl,?_⟩;exact I.Oa (t':=s.toks) (ch:=[e,it]) hf (λb o hb q=>hk b o (λz=>hb (by simp[z])) q)
 self:=λ_ _ _ _ _ st h=>by
  obtain⟨⟨old,he⟩,_⟩:=st;exact JA he h
section
variable {X:Cx}
def aeG(K:AD):List V->Hp->VK->Prop:=λxs H Q=>∃x T t b,xs=[x,.ty T]/\vP K H x t/\kitOne K t (.type T)=GT b/\Q (.bl b) H
theorem Ym:gq X (.builtin "isinstance") (aeG X.K):=by
 intro pins s σ H xs us Q I r h;obtain⟨x,T,t,b,rfl,ty,e,q⟩:=h;cases r with
 | cons r rr=>
  cases rr with
  | cons r' rr=>
   cases rr;cases (show _=EQ T from r');exact R6 I r ty e λtk=>⟨.bl b,H,I.tok tk,rfl,q⟩
end
inductive Tn (H:Hp):V->String->Prop where
 | non:Tn H .non "NoneType"
 | bl (b:Bool):Tn H (.bl b) "bool"
 | int (i:Int):Tn H (.int i) "int"
 | str (x:Str):Tn H (.str x) "str"
 | lst {a:ID} {xs:List V} (e:H a=GT (.lst xs)):Tn H (.ref a) "list"
 | tup {a:ID} {xs:List V} (e:H a=GT (.tup xs)):Tn H (.ref a) "tuple"
theorem Tn.ty{K:AD}{H:Hp}{x:V}{t:String}(h:Tn H x t):vP K H x (.type t):=by
 cases h with
 | non=>exact .non
 | bl b=>exact .bl b
 | int i=>exact .int i
 | str x=>exact .str x
 | lst e=>exact .lst e
 | tup e=>exact .tup e
def lG(t T:String):Bool:=t == T||(t == "bool" && T == "int")
def lU:List String:=["NoneType","bool","int","str","list","tuple"]
theorem aaV(K:AD):∀t∈lU,∀T∈lU,kitOne K (.type t) (.type T)=GT (lG t T):=by
 intro t ht T hT;simp only[lU,A1,BA,or_false] at ht hT;rcases ht with rfl|rfl|rfl|rfl|rfl|rfl <;> rcases hT with rfl|rfl|rfl|rfl|rfl|rfl <;> first|rfl|kernel_rfl
theorem Tn.known{H:Hp}{x:V}{t:String}(h:Tn H x t):t∈lU:=by cases h <;> decide
section
variable {X:Cx}
theorem Tf:gq X (.builtin "isinstance") (λxs H Q=>∃x T t,xs=[x,.ty T]/\Tn H x t/\T∈lU/\Q (.bl (lG t T)) H):=by
 intro pins s σ H xs us Q I r h;obtain⟨x,T,t,rfl,ty,hT,q⟩:=h;exact Ym pins s σ H _ us Q I r ⟨x,T,_,_,rfl,ty.ty,aaV X.K t ty.known T hT,q⟩
def abG(i j:Int):Prop:=0<j/\j<2^70
theorem Iw:OpR X (E7 .FloorDiv) (rI abG λi j=>.int (i/j)):=opI λi j _ _ _ _ _ hc q=>by
 have h1:(0:Int)<j:=hc.1;have h2:j<2^70:=hc.2;refine floordiv_int ω (by rw[Int.fdiv_eq_ediv_of_nonneg i ω];exact q) (.inl (PyProof.noPylong_of_log2 ?_));have h3:j.natAbs≠0:=ω;have h4:j.natAbs.log2<70:=(Nat.log2_lt h3).mpr ω;omega
end
def bY(p:ID)(H H':Hp):Prop:=∀b o,b≠p->H b=GT o->H' b=GT o
theorem bY.refl(p:ID)(H:Hp):bY p H H:=λ_ _ _ h=>h
theorem bY.trans{p:ID}{H H1 H2:Hp}(a:bY p H H1)(b:bY p H1 H2):bY p H H2:=λc o n h=>b c o n (a c o n h)
theorem bY.upd{p:ID}{H:Hp}{o:HO}:bY p H (upd H p o):=λb u n h=>by rw[aJ n];exact h
theorem Same.x{p:ID}{H H':Hp}(h:Same H H'):bY p H H':=λb o _ q=>h b o q
theorem au{H:Hp}{p:ID}{o:HO}(h:H p=Is):Same H (upd H p o):=λb u q=>by rw[aJ (aF q h)];exact q
structure Cal(P:AR)(w:A9)(K:AD)(mg:Str->Option Ap)(base:Heap)(x:Str)(k:Nat)(ps:List Str)(sp:Sp):Prop where
 ex:∃(f:ID)(fd:D6),cQ P w K mg base CX0 k f fd ps sp/\Binds K fd ps []/\keepIn K (.ref f)=true/\mg x=GT (.ref f)
section
variable {X:Cx}{k:Nat}{ps:List Str}{sp:Sp}{x:Str}{p pos:Pos}{e:Expr}{es:List Expr}{t:TA}
theorem acF(C:Cal X.prog X.w X.K X.mg X.base x k ps sp)(hr:jg k X.A)(hg:Gl X x)(ha:PA X (e::es) t)(hdb:(x == ("__debug__" : Str))=false:=by decide)
  (he:AH (e::es) X.env=(false,eval e X.env)::AH es X.env:=by rfl) (hpl:(CS pos (AH es X.env)).any (·.1)=false:=by rfl):PE X (.Call (.Name x p) (e::es) [] pos) (yX sp [] E0 t):=by
 obtain⟨f,fd,F,b,kp,hm⟩:=C.ex;exact aau F hr hg hm kp b .nil ad3 ha hdb he hpl
end
structure YD(K:AD)(mg:Str->Option Ap)(x:Str)(st:Stmt)(ps:List Str)(f:ID)(fd:D6):Prop where
 fn:Fun K x x st f fd
 bd:Binds K fd ps []
 nm:mg x=GT (.ref f)
theorem YD.cal{P:AR}{w:A9}{K:AD}{mg:Str->Option Ap}{base:Heap}{x:Str}{st:Stmt}{ps:List Str}{f:ID}{fd:D6}{k:Nat}{sp:Sp}(D:YD K mg x st ps f fd)(F:cQ P w K mg base CX0 k f fd ps sp):Cal P w K mg base x k ps sp:=
 ⟨f,fd,F,D.bd,D.fn.kp,D.nm⟩
theorem Va(i j:Int):Ze (.int i) (.int j)=true:=rfl
theorem U9(i j:Str):Ze (.str i) (.str j)=true:=rfl
theorem aew{α:Type}(a:α)(r:List α):atI (a::r) 0=GT a:=cH (j:=0) rfl
theorem Yu{α:Type}(a b:α)(r:List α):atI (a::b::r) 1=GT b:=cH (j:=1) rfl
theorem aev{α:Type}(a b c:α)(r:List α):atI (a::b::c::r) 2=GT c:=cH (j:=2) rfl
theorem Xh:ixN 3 0=GT 0/\ixN 3 1=GT 1/\ixN 3 2=GT 2:=⟨δ,δ,δ⟩
theorem aM{n:Nat}(h:n<=1000000):n<=AK:=CF h δ
def ixq(o:Option HO)(i:Int)(H:Hp)(Q:VK):Prop:=match o with
 | some (.lst xs)=>∃v,atI xs i=GT v/\Q v H
 | some (.tup xs)=>∃v,atI xs i=GT v/\Q v H
 | _=>False
def stq(o:Option HO)(p:ID)(k:Int)(v:V)(H:Hp)(Q:Hp->Prop):Prop:=match o with
 | some (.lst xs)=>∃j,ixN xs.length k=GT j/\Q (upd H p (.lst (xs.set j v)))
 | _=>False
def lnq(o:Option HO)(H:Hp)(Q:VK):Prop:=match o with
 | some (.lst ys)=>Q (.int ys.length) H
 | some (.tup ys)=>Q (.int ys.length) H
 | _=>False
def KZ:R2:=λx y H Q=>match x,y with
 | .ref p,.int i=>ixq (H p) i H Q
 | _,_=>False
def Vq:V->V->V->Hp->(Hp->Prop)->Prop:=λo i v H Q=>match o,i with
 | .ref p,.int k=>stq (H p) p k v H Q
 | _,_=>False
def Vw:List V->Hp->VK->Prop:=λxs H Q=>match xs with
 | [.ref p]=>lnq (H p) H Q
 | _=>False
theorem zL(p:ID)(i:Int)(H:Hp)(Q:VK):KZ (.ref p) (.int i) H Q=ixq (H p) i H Q:=rfl
theorem Rj(p:ID)(k:Int)(v:V)(H:Hp)(Q:Hp->Prop):Vq (.ref p) (.int k) v H Q=stq (H p) p k v H Q:=rfl
theorem Rm(p:ID)(H:Hp)(Q:VK):Vw [.ref p] H Q=lnq (H p) H Q:=rfl
theorem PJ(xs:List V)(i:Int)(H:Hp)(Q:VK):ixq (GT (.lst xs)) i H Q=∃v,atI xs i=GT v/\Q v H:=rfl
theorem Y8(xs:List V)(p:ID)(k:Int)(v:V)(H:Hp)(Q:Hp->Prop):stq (GT (.lst xs)) p k v H Q=∃j,ixN xs.length k=GT j/\Q (upd H p (.lst (xs.set j v))):=rfl
theorem aaT(xs:List V)(H:Hp)(Q:VK):lnq (GT (.lst xs)) H Q=Q (.int xs.length) H:=rfl
theorem aaS(xs:List V)(H:Hp)(Q:VK):lnq (GT (.tup xs)) H Q=Q (.int xs.length) H:=rfl
section
variable {X:Cx}
theorem aU:IxR X KZ:=by
 intro value slice pins s σ H x y v u Q I rx ry h hs;unfold KZ at h;split at h
 ·rename_i p i;unfold ixq at h;split at h
  ·rename_i xs e;obtain⟨z,hz,q⟩:=h;exact PK value slice pins s σ H _ _ v u Q I rx ry ⟨p,xs,i,z,rfl,rfl,SqL.of e,hz,q⟩ hs
  ·rename_i xs e;obtain⟨z,hz,q⟩:=h;exact ac5 value slice pins s σ H _ _ v u Q I rx ry ⟨p,xs,i,z,rfl,rfl,SqT.of e,hz,q⟩ hs
  exact h.elim
 exact h.elim
theorem U8:TQ X Vq:=by
 intro pins s σ H o i v ov iv u Q I ro ri rv h;unfold Vq at h;split at h
 ·rename_i p k;unfold stq at h;split at h
  ·rename_i xs e;obtain⟨j,hj,q⟩:=h;exact set_list pins s σ H _ _ v ov iv u Q I ro ri rv ⟨p,xs,k,j,rfl,rfl,e,hj,q⟩
  exact h.elim
 exact h.elim
theorem bM:gq X (.builtin "len") Vw:=by
 intro pins s σ H xs us Q I r h;unfold Vw at h;split at h
 ·rename_i p;unfold lnq at h;split at h
  ·rename_i ys e;exact j6 pins s σ H _ us Q I r ⟨p,ys,rfl,.inl (SqL.of e),h⟩
  ·rename_i ys e;exact j6 pins s σ H _ us Q I r ⟨p,ys,rfl,.inr (SqT.of e),h⟩
  exact h.elim
 exact h.elim
end
def Vz:List V->Hp->VK->Prop:=λxs H Q=>match xs with
 | [.int i]=>Q (.int i) H
 | [.bl k]=>Q (.int (if k then 1 else 0)) H
 | _=>False
theorem Zo(k:Bool)(H:Hp)(Q:VK):Vz [.bl k] H Q=Q (.int (if k then 1 else 0)) H:=rfl
theorem oJ{X:Cx}:gq X (.type "int") Vz:=by
 intro pins s σ H xs us Q I r h;unfold Vz at h;split at h
 ·exact Fe pins s σ H _ us Q I r (.inl ⟨_,rfl,h⟩)
 ·exact Fe pins s σ H _ us Q I r (.inr ⟨_,rfl,h⟩)
 exact h.elim
theorem aN{t u:TS}{D:Ends}{σ:St}{H:Hp}(h:∀k,k=u D->t { D with nx:=k } σ H):QX t u D σ H:=h _ rfl
theorem mX{wi:TI}{g:TG}{tb:TS}{D:Ends}{σ:St}{H:Hp}(h:∀R:It->Hp->Prop,R=(λJ H1=>∃W:Nat->Nat->St->Hp->Prop,(∃m,W 0 m σ H1)/\∀i m σ H,W i m σ H ->
  (J.stop i H/\D.nx σ H)\/(J.go i H/\∃N:St->Hp->Prop,(∀σ' H',N σ' H'->∃m',m'<m/\W (i+1) m' σ' H')/\∀x H',J.yld i H x H'->g x σ H' λσ2 H2=>tb { D with nx:=N,ct:=N,bk:=D.nx } σ2 H2))->wi σ H R):abR wi g tb D σ H:=h _ rfl
theorem XC{lo:Int}{n:Nat}{g:TG}{tb:TS}{D:Ends}{σ:St}{H:Hp}{R:It->Hp->Prop}(hR:R=(λJ H1=>∃W:Nat->Nat->St->Hp->Prop,(∃m,W 0 m σ H1)/\∀i m σ H,W i m σ H ->
  (J.stop i H/\D.nx σ H)\/(J.go i H/\∃N:St->Hp->Prop,(∀σ' H',N σ' H'->∃m',m'<m/\W (i+1) m' σ' H')/\∀x H',J.yld i H x H'->g x σ H' λσ2 H2=>tb { D with nx:=N,ct:=N,bk:=D.nx } σ2 H2)))
  (Pv:Nat->St->Hp->Prop)(h0:Pv 0 σ H)(hs:∀i σ H,i<n->Pv i σ H->g (.int (lo+i)) σ H λσ2 H2=>tb { D with nx:=Pv (i+1),ct:=Pv (i+1),bk:=D.nx } σ2 H2)(hd:∀σ H,Pv n σ H->D.nx σ H):R (Itr lo n) H:=by
 subst hR;exact Sw Pv h0 hs hd
theorem Es{K:AD}{a:ID}{xs:List V}{g:TG}{tb:TS}{D:Ends}{σ:St}{H:Hp}{R:It->Hp->Prop}(hR:R=(λJ H1=>∃W:Nat->Nat->St->Hp->Prop,(∃m,W 0 m σ H1)/\∀i m σ H,W i m σ H ->
  (J.stop i H/\D.nx σ H)\/(J.go i H/\∃N:St->Hp->Prop,(∀σ' H',N σ' H'->∃m',m'<m/\W (i+1) m' σ' H')/\∀x H',J.yld i H x H'->g x σ H' λσ2 H2=>tb { D with nx:=N,ct:=N,bk:=D.nx } σ2 H2)))
  (Pv:Nat->St->Hp->Prop)(h0:Pv 0 σ H)(hl:∀i σ H,i<=xs.length->Pv i σ H->SqL K H a xs)(hs:∀i x σ H,xs[i]?=GT x->Pv i σ H->g x σ H λσ2 H2=>tb { D with nx:=Pv (i+1),ct:=Pv (i+1),bk:=D.nx } σ2 H2)(hd:∀σ H,Pv xs.length σ H->D.nx σ H):R (Itl K a) H:=by
 subst hR;exact XD Pv h0 hl hs hd
def N7(mp:List (Option Nat))(g:TG)(tc:TT)(te:TE)(σ:St)(Q:VK)(J:It)(H1:Hp):Prop:=∃W:Nat->Nat->List V->St->Hp->Prop,(∃m,W 0 m [] (fM mp σ) H1)/\∀i m acc τ H2,W i m acc τ H2 ->
  (J.stop i H2/\∀d,H2 d=Is->Q (.ref d) (upd H2 d (.lst acc))) \/
  (J.go i H2/\acc.length<AK/\∃N:List V->St->Hp->Prop,(∀acc' τ' H',N acc' τ' H'->∃m',m'<m/\W (i+1) m' acc' τ' H')/\∀x H3,J.yld i H2 x H3->g x τ H3 λτ1 H4=>tc τ1 H4 λb H5=>
   if b=true then te τ1 H5 λv H6=>N (acc++[v]) τ1 H6 else N acc τ1 H5)
theorem dX{mp:List (Option Nat)}{wi:TI}{g:TG}{tc:TT}{te:TE}{σ:St}{H:Hp}{Q:VK}(h:∀R:It->Hp->Prop,R=N7 mp g tc te σ Q->wi σ H R):Du mp wi g tc te σ H Q:=h _ rfl
theorem Qq{J:It}{mp:List (Option Nat)}{g:TG}{tc:TT}{te:TE}{σ:St}{H:Hp}{Q:VK}{R:It->Hp->Prop}(hR:R=N7 mp g tc te σ Q)(n:Nat)(hz:n<=AK)(Pv:Nat->List V->St->Hp->Prop)(h0:Pv 0 [] (fM mp σ) H)
  (hl:∀i acc τ H,Pv i acc τ H->acc.length<=i)(hgo:∀i acc τ H,i<n->Pv i acc τ H->J.go i H)(hst:∀acc τ H,Pv n acc τ H->J.stop n H)
  (hs:∀i acc τ H x H3,i<n->Pv i acc τ H->J.yld i H x H3->g x τ H3 λτ1 H4=>tc τ1 H4 λb H5=>if b=true then te τ1 H5 λv H6=>Pv (i+1) (acc++[v]) τ1 H6 else Pv (i+1) acc τ1 H5)
  (hd:∀acc τ H d,Pv n acc τ H->H d=Is->Q (.ref d) (upd H d (.lst acc))):R J H:=by
 subst hR;refine⟨λi m acc τ H2=>m=n-i/\i<=n/\Pv i acc τ H2,⟨_,rfl,DJ _,h0⟩,?_⟩;rintro i m acc τ H2 ⟨rfl,hi,p⟩;have q3:=hl i acc τ H2 p;by_cases hlt:i<n
 ·exact .inr ⟨hgo i acc τ H2 hlt p,ω,Pv (i+1),λacc' τ' H' q=>⟨_,ω,rfl,hlt,q⟩,λx H3 y=>hs i acc τ H2 x H3 hlt p y⟩
 have e:i=n:=ω;subst e;exact .inl ⟨hst acc τ H2 p,λd hd'=>hd acc τ H2 d p hd'⟩
structure Nm(N:List Str)(sc:E5)(i:Nat)(x:Str):Prop where
 hN:N[i]?=GT x
 hv:Loc sc x
 hd:(x == ("__debug__" : Str))=false
 hcd:(x == ("__classdict__" : Str))=false
def aea(N:List Str)(sc:E5)(i:Nat)(x:Str):Bool:=decide (N[i]?=GT x)&&(decide (sc.names.lookup x=GT .local)||decide (sc.names.lookup x=GT .cell)) && !(x == ("__debug__" : Str)) && !(x == ("__classdict__" : Str))
theorem Nm.of{N:List Str}{sc:E5}{i:Nat}{x:Str}(h:aea N sc i x=true):Nm N sc i x:=by
 unfold aea at h;rw[CL,CL,CL,or_eq_true] at h;obtain⟨⟨⟨h1,h2⟩,h3⟩,h4⟩:=h;exact⟨of_decide_eq_true h1,h2.elim (λz=>.inl (of_decide_eq_true z)) (λz=>.inr (of_decide_eq_true z)),by simpa using h3,by simpa using h4⟩
structure Bn(x:Str):Prop where
 hn:x ≠ "__name__"
 hd:(x == ("__debug__" : Str))=false
section
variable {X:Cx}{i:Nat}{x:Str}{pos pos' p:Pos}{e:Expr}{es:List Expr}{te:TE}{t:TA}{k:Nat}{ps:List Str}{sp:Sp}{id T:String}{r:List V->Hp->VK->Prop}
theorem pn(n:Nm X.N X.env.scope i x):PE X (.Name x pos) (Ui i):=V9 n.hN (n.hv.elim .inl λz=>.inr (.inl z)) n.hd n.hcd
theorem adS(n:Nm X.N X.env.scope i x)(hN:X.N.Nodup)(he:PE X e te)(hs:JP e (GT (.Name x pos')) pos.line X.env=pure false:=by rfl)(hf:X.fn x=true\/X.env.scope.names.lookup x=GT .local:=by exact .inl Z) :
  PS X (.Assign [.Name x pos'] e pos) (xZ te (lz i)):=ack hN n.hN n.hv he hs hf
theorem adU(n:Nm X.N X.env.scope i x)(hN:X.N.Nodup)(hf:X.fn x=true\/X.env.scope.names.lookup x=GT .local:=by exact .inl Z):PG X (.Name x pos) (lz i):=O7 hN n.hN n.hv hf
theorem adZ(C:Cal X.prog X.w X.K X.mg X.base x k ps sp)(hr:jg k X.A)(hg:Gl X x)(hdb:Bn x)(ha:PA X (e::es) t)
  (he:AH (e::es) X.env=(false,eval e X.env)::AH es X.env:=by rfl)(hpl:(CS pos (AH es X.env)).any (·.1)=false:=by rfl):PE X (.Call (.Name x p) (e::es) [] pos) (yX sp [] E0 t):=
 acF C hr hg ha hdb.hd he hpl
theorem ad0(hc:gq X (.builtin id) r)(hg:Gl X x)(hm:X.mg x=Is)(hv:EE x=GT (.builtin id))(b:Bn x)(ha:PA X (e::es) t)
  (he:AH (e::es) X.env=(false,eval e X.env)::AH es X.env:=by rfl)(hpl:(CS pos (AH es X.env)).any (·.1)=false:=by rfl):PE X (.Call (.Name x p) (e::es) [] pos) (tCB r t):=Wh hc hg hm hv ha b.hn b.hd he hpl
theorem adY(hc:gq X (.type T) r)(hg:Gl X x)(hm:X.mg x=Is)(hv:EE x=GT (.type T))(b:Bn x)(ha:PA X (e::es) t)
  (he:AH (e::es) X.env=(false,eval e X.env)::AH es X.env:=by rfl)(hpl:(CS pos (AH es X.env)).any (·.1)=false:=by rfl):PE X (.Call (.Name x p) (e::es) [] pos) (tCB r t):=Rw hc hg hm hv ha b.hn b.hd he hpl
theorem ad1(n:String)(hg:Gl X x)(hm:X.mg x=Is)(hv:EE x=GT (.type n))(b:Bn x):PE X (.Name x pos) (tC (.ty n)):=aav hg hm hv Z b.hn b.hd
end
theorem eY:Bn "len" := ⟨ψ,ψ⟩
theorem Yo:Bn "abs" := ⟨ψ,ψ⟩
theorem BJ:Bn "min" := ⟨ψ,ψ⟩
theorem Yn:Bn "max" := ⟨ψ,ψ⟩
theorem g8:Bn "isinstance" := ⟨ψ,ψ⟩
theorem BK:Bn "int" := ⟨ψ,ψ⟩
theorem uo:Bn "sum" := ⟨ψ,ψ⟩
theorem Qt:Bn "list" := ⟨ψ,ψ⟩
theorem vL:Bn "tuple" := ⟨ψ,ψ⟩
theorem Qu:Bn "bool" := ⟨ψ,ψ⟩
theorem Ti:Bn "sorted" := ⟨ψ,ψ⟩
def tyO:Option HO->Option String
 | some (.lst _)=>GT "list"
 | some (.tup _)=>GT "tuple"
 | _=>Is
def tyN(x:V)(H:Hp):Option String:=match x with
 | .non=>GT "NoneType"
 | .bl _=>GT "bool"
 | .int _=>GT "int"
 | .str _=>GT "str"
 | .ref a=>tyO (H a)
 | _=>Is
theorem Tn.of{x:V}{H:Hp}{t:String}(h:tyN x H=GT t):Tn H x t:=by
 cases x with
 | non=>cases h;exact .non
 | bl b=>cases h;exact .bl b
 | int i=>cases h;exact .int i
 | str s=>cases h;exact .str s
 | ref a=>
  have h':tyO (H a)=GT t:=h;cases e:H a with
  | none=>rw[e] at h';cases h'
  | some o=>
   rw[e] at h';cases o with
   | lst xs=>cases h';exact .lst e
   | tup xs=>cases h';exact .tup e
   | _=>cases h'
 | _=>cases h
def Vy:List V->Hp->VK->Prop:=λxs H Q=>match xs with
 | [x,.ty T]=>∃t,tyN x H=GT t/\lU.contains T=true/\Q (.bl (lG t T)) H
 | _=>False
theorem mZ{X:Cx}:gq X (.builtin "isinstance") Vy:=by
 intro pins s σ H xs us Q I r h;unfold Vy at h;split at h
 ·obtain⟨t,e,k,q⟩:=h;exact Tf pins s σ H _ us Q I r ⟨_,_,t,rfl,Tn.of e,by simpa using k,q⟩
 exact h.elim
theorem Vx(x:V)(T:String)(H:Hp)(Q:VK):Vy [x,.ty T] H Q=∃t,tyN x H=GT t/\lU.contains T=true/\Q (.bl (lG t T)) H:=rfl
theorem Xe:lU.contains "tuple" = true:=by decide
theorem ac4:lU.contains "int" = true:=by decide
theorem kc_bool:lU.contains "bool" = true:=by decide
theorem ty_int(i:Int)(H:Hp):tyN (.int i) H=GT "int" := rfl
theorem adD(i:Bool)(H:Hp):tyN (.bl i) H=GT "bool" := rfl
theorem ty_str(i:Str)(H:Hp):tyN (.str i) H=GT "str" := rfl
theorem abL(H:Hp):tyN .non H=GT "NoneType" := rfl
theorem abK(p:ID)(H:Hp):tyN (.ref p) H=tyO (H p):=rfl
theorem YS(xs:List V):tyO (GT (.lst xs))=GT "list" := rfl
theorem YQ(xs:List V):tyO (GT (.tup xs))=GT "tuple" := rfl
theorem vZ:lG "NoneType" "bool" = false:=by decide
theorem yd:lG "NoneType" "int" = false:=by decide
theorem uK:lG "NoneType" "tuple" = false:=by decide
theorem Gd:lG "bool" "bool" = true:=by decide
theorem Ig:lG "bool" "int" = true:=by decide
theorem Cm:lG "bool" "tuple" = false:=by decide
theorem Ie:lG "int" "bool" = false:=by decide
theorem KR:lG "int" "int" = true:=by decide
theorem Gb:lG "int" "tuple" = false:=by decide
theorem Ia:lG "str" "bool" = false:=by decide
theorem KQ:lG "str" "int" = false:=by decide
theorem FZ:lG "str" "tuple" = false:=by decide
theorem Ga:lG "list" "bool" = false:=by decide
theorem Ib:lG "list" "int" = false:=by decide
theorem Ck:lG "list" "tuple" = false:=by decide
theorem Cj:lG "tuple" "bool" = false:=by decide
theorem FW:lG "tuple" "int" = false:=by decide
theorem zJ:lG "tuple" "tuple" = true:=by decide
def gtq(o:Option HO)(n:Nat)(t:TGs)(σ:St)(H:Hp)(Q:St->Hp->Prop):Prop:=match o with
 | some (.tup xs)=>xs.length=n/\t xs σ H Q
 | _=>False
def Qe(n:Nat)(t:TGs):TG:=λv σ H Q=>match v with
 | .ref a=>gtq (H a) n t σ H Q
 | _=>False
theorem Sv(n:Nat)(t:TGs)(a:ID)(σ:St)(H:Hp)(Q:St->Hp->Prop):Qe n t (.ref a) σ H Q=gtq (H a) n t σ H Q:=rfl
theorem aa3(xs:List V)(n:Nat)(t:TGs)(σ:St)(H:Hp)(Q:St->Hp->Prop):gtq (GT (.tup xs)) n t σ H Q=(xs.length=n/\t xs σ H Q):=rfl
section
variable {X:Cx}{es:List Expr}{k:Nat}{t:TGs}{n:Nat}{pos:Pos}
theorem aah(hc:X.calm=true)(h:PGs X es t)(hn:(DZ es X.env).length=n:=by rfl)(hst:(DZ es X.env).findIdx? (·.1)=Is:=by rfl):PG X (.Tuple es k pos) (Qe n t):=by
 intro pins s σ H v u Q I r hw;unfold Qe at hw;split at hw
 ·rename_i a;unfold gtq at hw;split at hw
  ·rename_i xs e;exact acw hc h hn hst pins s σ H _ u Q I r ⟨a,xs,rfl,SqT.of e,hw.1,hw.2⟩
  exact hw.elim
 exact hw.elim
end
def Vt:List V->Hp->VK->Prop:=λxs H Q=>match xs with
 | [.int i,.int j]=>Q (.int (if j<i then j else i)) H
 | _=>False
def Vv:List V->Hp->VK->Prop:=λxs H Q=>match xs with
 | [.int i,.int j]=>Q (.int (if j>i then j else i)) H
 | _=>False
theorem Vs(i j:Int)(H:Hp)(Q:VK):Vt [.int i,.int j] H Q=Q (.int (if j<i then j else i)) H:=rfl
theorem Vu(i j:Int)(H:Hp)(Q:VK):Vv [.int i,.int j] H Q=Q (.int (if j>i then j else i)) H:=rfl
theorem wO{X:Cx}(hc:X.calm=true):gq X (.builtin "min") Vt:=by
 intro pins s σ H xs us Q I r h;unfold Vt at h;split at h
 ·exact Td hc pins s σ H _ us Q I r ⟨_,_,rfl,h⟩
 exact h.elim
theorem Fd{X:Cx}(hc:X.calm=true):gq X (.builtin "max") Vv:=by
 intro pins s σ H xs us Q I r h;unfold Vv at h;split at h
 ·exact Te hc pins s σ H _ us Q I r ⟨_,_,rfl,h⟩
 exact h.elim
structure QE(X:Cx)(e:Expr)(t:TE):Prop where
 h:PE X e t
structure QT(X:Cx)(e:Expr)(t:TT):Prop where
 h:PT X e t
structure QW(X:Cx)(e:Expr)(t:TT):Prop where
 h:PW X e t
structure QA(X:Cx)(es:List Expr)(t:TA):Prop where
 h:PA X es t
structure QS(X:Cx)(st:Stmt)(t:TS):Prop where
 h:PS X st t
structure QB(X:Cx)(st:List Stmt)(t:TS):Prop where
 h:PSs X st t
structure QG(X:Cx)(e:Expr)(t:TG):Prop where
 h:PG X e t
structure QGs(X:Cx)(es:List Expr)(t:TGs):Prop where
 h:PGs X es t
structure QI(X:Cx)(tg e:Expr)(t:TI):Prop where
 h:PI X tg e t
structure QC(X:Cx)(cs:List Expr)(t:TT):Prop where
 h:PTs X cs t
section
variable {X:Cx}{i:Nat}{x:Str}{pos pos' p tpos:Pos}{e a b c o:Expr}{es rest:List Expr}{te ta tb tc to ti:TE}{tA tB':TT}{t:TA}{k n kk:Nat}{ps:List Str}{sp:Sp}{id T:String}{r:List V->Hp->VK->Prop}{st:Stmt}{sts:List Stmt}{ts us:TS}{tg iter:Expr}{wi:TI}{g:TG}{gs:TGs}
theorem aeK(h:Nm X.N X.env.scope i x):QE X (.Name x pos) (Ui i):=⟨pn h⟩
theorem aeJ(i:Nat){x:Str}{pos:Pos}(hN:X.N[i]?=GT x:=by rfl)(hv:Vis X.env.scope x:=by first|exact C3 rfl|exact Or.inr (C3 Z)|exact Or.inr (Or.inr Z))(hd:(x == ("__debug__" : Str))=false:=by decide)
  (hcd:(x == ("__classdict__" : Str))=false:=by decide):QE X (.Name x pos) (Ui i):=⟨V9 hN hv hd hcd⟩
theorem aq{i j pos}:QE X (.Constant (.int i) j pos) (tC (.int i)):=⟨acE⟩
theorem mH{b j pos}:QE X (.Constant (.bool b) j pos) (tC (.bl b)):=⟨ad2⟩
theorem bC{x j pos}:QE X (.Constant (.str x) j pos) (tC (.str x)):=⟨acz⟩
theorem aP{op:Operator}{r:R2}(ho:OpR X (E7 op) r)(ha:QE X a ta)(hb:QE X b tb):QE X (.BinOp a op b pos) (tOp r ta tb):=⟨adW ho ha.h hb.h⟩
theorem wZ{op:UnaryOp}{r:V->Hp->VK->Prop}(ho:UnR X (unaryOp op) r)(ha:QE X a ta):QE X (.UnaryOp op a pos) (tUn r ta):=⟨adV ho ha.h⟩
theorem ace(ha:QE X a ta):QE X (.UnaryOp .Not a pos) (Uq ta):=⟨acC ha.h⟩
theorem fu{op:CmpOp}{r:R2}(ho:OpR X (CU op) r)(ha:QE X a ta)(hb:QE X b tb)(hm:HQ op b=false):QE X (.Compare a [op] [b] pos) (tOp r ta tb):=⟨aat ho ha.h hb.h hm⟩
theorem bh{op:CmpOp}{r:R2}(ho:OpR X (CU op) r)(ha:QE X a ta)(hb:QE X b tb)(hm:HQ op b=false):QT X (.Compare a [op] [b] pos) (Hv (tOp r ta tb)):=⟨ZS ho ha.h hb.h hm⟩
theorem V0{op op':CmpOp}{r r':R2}(ho:OpR X (CU op) r)(ho':OpR X (CU op') r')(ha:QE X a ta)(hb:QE X b tb)(hc:QE X c tc)
  (hm:lastMarks [op,op'] [b,c]=false:=by with_unfolding_all rfl):QE X (.Compare a [op,op'] [b,c] pos) (KC r r' ta tb tc):=⟨Wg ho ho' ha.h hb.h hc.h hm⟩
theorem pU{op}(h:QE X a ta):QE X (.BoolOp op [a] pos) ta:=⟨acB h.h⟩
theorem pY(ha:QE X a ta)(hb:QE X (.BoolOp .And (b::rest) pos) tb):QE X (.BoolOp .And (a::b::rest) pos) (Uy ta tb):=⟨acG ha.h hb.h⟩
theorem pW(hc:QT X c tA)(ha:QE X a ta)(hb:QE X b tb):QE X (.IfExp c a b pos) (tIf tA ta tb):=⟨Wc hc.h ha.h hb.h⟩
theorem aK{r:R2}(hr:IxR X r)(ha:QE X a ta)(hb:QE X b tb)(hs:Qy b):QE X (.Subscript a b pos) (tOp r ta tb):=⟨adX hr ha.h hb.h hs⟩
theorem cF(h:QA X es t):QE X (.List es pos) (QZ t):=⟨acD h.h⟩
theorem bF{x1}(h:QA X es t):QE X (.Tuple es x1 pos) (Kv t):=⟨acy h.h⟩
theorem aB:QA X [] Kw:=⟨acH⟩
theorem ak(ha:QE X e te)(hr:QA X es t)(hs:AH (e::es) X.env=(false,eval e X.env)::AH es X.env:=by rfl):QA X (e::es) (wV te t):=⟨aax ha.h hr.h hs⟩
theorem bw(C:Cal X.prog X.w X.K X.mg X.base x k ps sp)(hr:jg k X.A)(hg:Gl X x)(hdb:Bn x)(ha:QA X (e::es) t)
  (he:AH (e::es) X.env=(false,eval e X.env)::AH es X.env:=by rfl)(hpl:(CS pos (AH es X.env)).any (·.1)=false:=by rfl):QE X (.Call (.Name x p) (e::es) [] pos) (yX sp [] E0 t):=⟨adZ C hr hg hdb ha.h he hpl⟩
theorem bW(hc:gq X (.builtin id) r)(hg:Gl X x)(hm:X.mg x=Is)(hv:EE x=GT (.builtin id))(b:Bn x)(ha:QA X (e::es) t)
  (he:AH (e::es) X.env=(false,eval e X.env)::AH es X.env:=by rfl)(hpl:(CS pos (AH es X.env)).any (·.1)=false:=by rfl):QE X (.Call (.Name x p) (e::es) [] pos) (tCB r t):=⟨ad0 hc hg hm hv b ha.h he hpl⟩
theorem w6(hc:gq X (.type T) r)(hg:Gl X x)(hm:X.mg x=Is)(hv:EE x=GT (.type T))(b:Bn x)(ha:QA X (e::es) t)
  (he:AH (e::es) X.env=(false,eval e X.env)::AH es X.env:=by rfl)(hpl:(CS pos (AH es X.env)).any (·.1)=false:=by rfl):QE X (.Call (.Name x p) (e::es) [] pos) (tCB r t):=⟨adY hc hg hm hv b ha.h he hpl⟩
theorem Ir(n:String)(hg:Gl X x)(hm:X.mg x=Is)(hv:EE x=GT (.type n))(b:Bn x):QE X (.Name x pos) (tC (.ty n)):=⟨ad1 n hg hm hv b⟩
theorem tG(ha:QT X a tA):QT X (.UnaryOp .Not a pos) (Ur tA):=⟨acj ha.h⟩
theorem pR(h:QE X e te)(he:∀whole,KI e X.env whole=(do let v <- whole;FS e.pos;EN [v] (truthy v)):=by intro _;rfl):QT X e (tB te):=⟨ach h.h he⟩
theorem Gf(ha:QT X a tA):QW X (.BoolOp .And [a] pos) tA:=⟨ZP ha.h⟩
theorem v7(ha:QT X a tA):QW X (.BoolOp .Or [a] pos) tA:=⟨acf ha.h⟩
theorem K1(ha:QT X a tA)(hb:QW X (.BoolOp .And (b::rest) pos) tB'):QW X (.BoolOp .And (a::b::rest) pos) (Y6 tA tB'):=⟨acg ha.h hb.h⟩
theorem zM(ha:QT X a tA)(hb:QW X (.BoolOp .Or (b::rest) pos) tB'):QW X (.BoolOp .Or (a::b::rest) pos) (tOr tA tB'):=⟨adR ha.h hb.h⟩
theorem Gg(h:QW X e tA):QT X e tA:=⟨h.h.pt⟩
theorem cu:QB X [] Hw:=⟨ZW⟩
theorem aL(h:QS X st ts):QB X [st] ts:=⟨ZV h.h⟩
theorem aD(h:QS X st ts)(h2:QB X sts us):QB X (st::sts) (QX ts us):=⟨V1 h.h h2.h⟩
theorem aV(he:QE X e te):QS X (.Return (GT e) pos) (Uj te):=⟨acn he.h⟩
theorem dh{c:Expr}{a b:List Stmt}{tc:TT}(hc:QT X c tc)(ha:QB X a ts)(hb:QB X b us):QS X (.If c a b pos) (Q0 tc ts us):=⟨adT hc.h ha.h hb.h⟩
theorem iU(he:QE X e te)(hs:JP e Is pos.line X.env=pure false:=by rfl):QS X (.Expr e pos) (Hx te):=⟨Z1 he.h hs⟩
theorem aX(h:Nm X.N X.env.scope i x)(hN:X.N.Nodup)(he:QE X e te)(hs:JP e (GT (.Name x pos')) pos.line X.env=pure false:=by rfl)(hf:X.fn x=true\/X.env.scope.names.lookup x=GT .local:=by exact .inl Z) :
  QS X (.Assign [.Name x pos'] e pos) (xZ te (lz i)):=⟨adS h hN he.h hs hf⟩
theorem nQ(he:QE X e te)(hg:QG X tg g)(hs:FM [tg] e pos.line X.env=pure false:=by rfl)(hw:Mc [tg] e X.env=pure Is:=by rfl)
  (h1:(DZ [tg] X.env).map (·.2)=[EO tg X.env]:=by rfl):QS X (.Assign [tg] e pos) (xZ te g):=⟨acr he.h hg.h hs hw h1⟩
theorem K3{i j:Nat}{x y:Str}{a b:Expr}{ta:TA}{px py pt:Pos}{kt k2 pt2}(hc:X.calm=true)(hN:X.N.Nodup)(hi:X.N[i]?=GT x)(hj:X.N[j]?=GT y)(hij:i≠j)
  (hx:X.env.scope.names.lookup x=GT .local)(hy:X.env.scope.names.lookup y=GT .local)(ha:QA X [a,b] ta)
  (hw:Mc [.Tuple [.Name x px,.Name y py] kt pt] (.Tuple [a,b] k2 pt2) X.env=pure (GT [x,y]))
  (hs:FM [.Tuple [.Name x px,.Name y py] kt pt] (.Tuple [a,b] k2 pt2) pos.line X.env=pure false:=by rfl) :
  QS X (.Assign [.Tuple [.Name x px,.Name y py] kt pt] (.Tuple [a,b] k2 pt2) pos) (abQ i j ta):=⟨aco hc hN hi hj hij hx hy ha.h hw hs⟩
theorem uM{c:Expr}{body:List Stmt}{tc:TT}(hp:PassesOwn (AJ X.prog X.w) X.A X.env X.xe)(hc:QT X c tc)(hb:QB X body ts):QS X (.While c body [] pos) (Ku tc ts):=⟨V2 hp hc.h hb.h⟩
theorem jm{body:List Stmt}(hp:PassesOwn (AJ X.prog X.w) X.A X.env X.xe)(hc:X.calm=true)(hi:QI X tg iter wi)(hg:QG X tg g)(hb:QB X body ts)
  (hs:∀x,B2 iter X.env x=pure x:=by intro _;rfl):QS X (.For tg iter body [] pos) (abR wi g ts):=⟨acp hp hc hi.h hg.h hb.h hs⟩
theorem cV(h:Nm X.N X.env.scope i x)(hN:X.N.Nodup)(hf:X.fn x=true\/X.env.scope.names.lookup x=GT .local:=by exact .inl Z):QG X (.Name x pos) (lz i):=⟨adU h hN hf⟩
theorem bA(i:Nat)(hN:X.N.Nodup)(hi:X.N[i]?=GT x)(hx:Loc X.env.scope x)(hf:X.fn x=true\/X.env.scope.names.lookup x=GT .local:=by first|exact .inl rfl|exact .inr Z):QG X (.Name x pos) (lz i):=⟨O7 hN hi hx hf⟩
theorem cR:QGs X [] adf:=⟨aag⟩
theorem aQ(h1:QG X e g)(h2:QGs X es gs)(hs:(DZ (e::es) X.env).map (·.2)=EO e X.env::(DZ es X.env).map (·.2):=by rfl):QGs X (e::es) (Xx g gs):=⟨V6 h1.h h2.h hs⟩
theorem fj{n:Nat}(hc:X.calm=true)(h:QGs X es gs)(hn:(DZ es X.env).length=n:=by rfl)(hst:(DZ es X.env).findIdx? (·.1)=Is:=by rfl):QG X (.Tuple es k pos) (Qe n gs):=⟨aah hc h.h hn hst⟩
theorem Yw(o:Expr)(c j)(p pos:Pos)(env:Env)(v:Ap):EO (.Subscript o (.Constant c j p) pos) env v=(do
   let ov <- EN [v] (eval o env)
   let iv <- EN [v,ov] (eval (.Constant c j p) env)
   FS pos
   EN [v,ov,iv] (setItem ov iv v)
   release [v,ov,iv] []):=rfl
theorem Yv(o:Expr)(y)(p pos:Pos)(env:Env)(v:Ap):EO (.Subscript o (.Name y p) pos) env v=(do
   let ov <- EN [v] (eval o env)
   let iv <- EN [v,ov] (eval (.Name y p) env)
   FS pos
   EN [v,ov,iv] (setItem ov iv v)
   release [v,ov,iv] []):=rfl
theorem Gh{c j}{t:TF}(ho:QE X o to)(hi:QE X (.Constant c j p) ti)(hs:TQ X t):QG X (.Subscript o (.Constant c j p) pos) (aa5 to ti t):=⟨V7 ho.h hi.h hs (λv=>Yw o c j p pos X.env v)⟩
theorem O2{y}{t:TF}(ho:QE X o to)(hi:QE X (.Name y p) ti)(hs:TQ X t):QG X (.Subscript o (.Name y p) pos) (aa5 to ti t):=⟨V7 ho.h hi.h hs (λv=>Yv o y p pos X.env v)⟩
theorem mG(hg:Gl X "range")(hm:X.mg "range" = Is)(ha:QA X [a] t)(hs:AH [a] X.env=[(false,eval a X.env)]:=by rfl):QI X tg (.Call (.Name "range" p) [a] [] pos) (Aq t):=⟨Ru hg hm ha.h hs⟩
theorem v8(hg:Gl X "range")(hm:X.mg "range" = Is)(ha:QA X [a,b] t)(hs:AH [a,b] X.env=[(false,eval a X.env),(false,eval b X.env)]:=by rfl)(hs2:AH [b] X.env=[(false,eval b X.env)]:=by rfl):QI X tg (.Call (.Name "range" p) [a,b] [] pos) (Jz t):=⟨Rt hg hm ha.h hs hs2⟩
theorem fB:QC X [] Y4:=⟨ZR⟩
theorem K5(h:QT X c tA):QC X [c] tA:=⟨ZQ h.h⟩
theorem eE{NX:List Str}{kX:List (Str×DE)}{scope:E5}{elt:Expr}{ifs:List Expr}{tc:TT}(N:List Str)(mp:List (Option Nat))(hNX:X.N=NX)(hkX:X.env.scope.names=kX)(S:oY NX kX N mp scope)(hc:X.calm=true)
  (hi:QI X tg iter wi)(hg:∀cl C s H fp,QG (aO X N scope cl C s H fp) tg g)(ht:∀cl C s H fp,QC (aO X N scope cl C s H fp) ifs tc)(he:∀cl C s H fp,QE (aO X N scope cl C s H fp) elt te)
  (hs:∀x,B2 iter X.env x=pure x:=by intro _;rfl):QE X (.ListComp elt [⟨tg,iter,ifs,0⟩] scope pos) (Du mp wi g tc te):=
 ⟨aar N mp hNX hkX S hc hi.h (λcl C s H fp=>(hg cl C s H fp).h) (λcl C s H fp=>(ht cl C s H fp).h) (λcl C s H fp=>(he cl C s H fp).h) hs⟩
end
section
variable {P:AR}{w:A9}{K:AD}{mg:Str->Option Ap}{base:Heap}
theorem Fun.okq{x qual:Str}{st:Stmt}{f:ID}{fd:D6}{N ps:List Str}{k:Nat}{sp:Sp}(F:Fun K x qual st f fd)(S:aZ N ps (aj st))(len:∀vs H Q E,sp vs H Q E->vs.length=ps.length)
   (hbody:∀(cdv:Ap)(A:A5)(outer:List Env)(s:AA)(H:Hp)(vs:List V)(Q:VK)(E:XK),jg k (A.deeper (KO qual (aj st) s.heap.objs.size f cdv))->sp vs H Q E ->
   ∃t,QB (J1 CX0 P w K mg base N qual (aj st) f cdv A outer s H E).nox (fC st) t/\t { nx:=λ_ H'=>Q .non H',rt:=Q } (L2.start N vs) H):cQ P w K mg base CX0 (k+1) f fd ps sp:=
 F.ok S len λcdv A outer s H vs Q E hr hsp=>by
  obtain⟨t,h,q⟩:=hbody cdv A outer s H vs Q E hr hsp;exact⟨t,h.h,q⟩
end
theorem K7:∀(ns:List Int),preSum (λi=>(ns[i]?).getD 0) ns.length=ns.sum:=by
 have key:∀(f:Nat->Int)(n:Nat),preSum f (n+1)=preSum f n+f n:=λf n=>rfl;have key2:∀(n:Nat)(f g:Nat->Int),(∀i,i<n->f i=g i)->preSum f n=preSum g n:=by
  intro n
  induction n with
  | zero=>intros;rfl
  | succ n ih=>intro f g h;rw[key,key,ih f g λi hi=>h i (D4 hi),h n (C8 n)]
 have key3:∀(n:Nat)(f:Nat->Int),preSum f (n+1)=f 0+preSum (λi=>f (i+1)) n:=by
  intro n
  induction n with
  | zero=>intro f;show(0:Int)+f 0=f 0+0;omega
  | succ n ih=>intro f;rw[key,ih,key];omega
 intro ns
 induction ns with
 | nil=>rfl
 | cons a r ih=>
  rw[C7,key3,Fc,<- ih];rfl
def smq(o:Option HO)(H:Hp)(Q:VK):Prop:=match o with
 | some (.lst xs)=>∃ns:List Int,xs=ns.map As/\Q (.int ns.sum) H
 | _=>False
def Vo:List V->Hp->VK->Prop:=λxs H Q=>match xs with
 | [.ref p]=>smq (H p) H Q
 | _=>False
theorem Ri(p:ID)(H:Hp)(Q:VK):Vo [.ref p] H Q=smq (H p) H Q:=rfl
theorem Zb(xs:List V)(H:Hp)(Q:VK):smq (GT (.lst xs)) H Q=∃ns:List Int,xs=ns.map As/\Q (.int ns.sum) H:=rfl
section
variable {X:Cx}
theorem jt(hc:X.calm=true):gq X (.builtin "sum") Vo:=by
 intro pins s σ H xs us Q I r h;unfold Vo at h;split at h
 ·rename_i p;unfold smq at h;split at h
  ·rename_i ys e;obtain⟨ns,rfl,q⟩:=h;cases r with
   | cons r rr=>
    cases rr;cases r;obtain⟨its,rv,pl,hz⟩:=I.list (SqL.of e);have hl:=rv.length;have lt:p<s.heap.objs.size:=by obtain⟨_,e,_⟩:=pl.isList;exact AY e
    refine call_sum_walkG (G1 pl.isList ?_);refine⟨s.heap.objs.size,[s.heap.objs.size,p],[s.heap.objs.size],its.toArray.size,_,_,λi=>(ns[i]?).getD 0,rfl,Walks.list (A:=X.A.in1) (I.ok.hd hc) _ p (B5 lt) _,
     ⟨⟨_,AO _ rfl,rfl,rfl⟩,pl.isList.push _⟩,?_,λi v hP=>?_,λh' tk t' hk=>?_⟩
    ·intro b hb;rw[Ct];simp only[A1,BA,or_false] at hb;rcases hb with rfl|rfl
     ·exact C8 _
     exact D4 lt
    ·have e1:its[i]?=GT v:=by simpa using hP
     have hi:i<its.length:=by
      rcases G2 i its.length with z|z
      ·exact z
      rw[Dx z] at e1;cases e1
     have hi2:i<ns.length:=by rw[<- hl,AE] at hi;exact hi
     obtain⟨u,hu,ru⟩:=rv.get (i:=i) (x:=.int ns[i]) (by rw[AQ,AF hi2];rfl);rw[e1] at hu;cases hu;obtain⟨t,rfl⟩:=ru;exact⟨t,by show _=DO ((ns[i]?).getD 0) t;rw[AF hi2];rfl⟩
    have e2:its.toArray.size=ns.length:=by rw[AX,<- hl,AE]
    rw[e2,K7];refine⟨.int _,H,I.kept λb o e=>hk b o (λhm=>?_) (AB _ e),⟨t',rfl⟩,q⟩;rw[AL.mp hm] at e;exact E4 _ (AY e)
  exact h.elim
 exact h.elim
def uL(i:Int)(n:Nat):List V:=(Bi n).map λk=>As (i+(k:Nat))
def Us(ta:TA):TE:=λσ H Q=>ta σ H λvs H1=>∃i j:Int,vs=[.int i,.int j]/\(-(2^62)<=i/\i<2^62/\-(2^62)<=j/\j<2^62)/\(j-i).toNat<=AK/\∀p,H1 p=Is->Q (.ref p) (upd H1 p (.lst (uL i (j-i).toNat)))
theorem Fv:∀{xs:List V}{us:List Ap},xs.length=us.length->(∀(i:Nat) x u,xs[i]?=GT x->us[i]?=GT u->RelV x u)->Vals xs us
 | [],[],_,_=>.nil
 | [],_::_,h,_=>by cases h
 | _::_,[],h,_=>by cases h
 | x::xs,u::us,h,f=>.cons (f 0 x u rfl rfl) (Fv (by simpa using h) λi y v h1 h2=>f (i+1) y v h1 h2)
theorem W6:AK<=2^24:=by decide
theorem aak{a b:Expr}{ta:TA}{p p2 pos pos2:Pos}(hc:X.calm=true)(hgl:Gl X "list")(hml:X.mg "list" = Is)(hg:Gl X "range")(hm:X.mg "range" = Is)(ha:PA X [a,b] ta)
  (hs:AH [a,b] X.env=[(false,eval a X.env),(false,eval b X.env)]:=by rfl)(hs2:AH [b] X.env=[(false,eval b X.env)]:=by rfl)
  (he:AH [.Call (.Name "range" p2) [a,b] [] pos2] X.env=[(false,eval (.Call (.Name "range" p2) [a,b] [] pos2) X.env)]:=by rfl) :
  PE X (.Call (.Name "list" p) [.Call (.Name "range" p2) [a,b] [] pos2] [] pos) (Us ta):=by
 intro pins s σ H Q I h;refine Ex (dW I hgl hml boot_list ?_ δ δ);refine A3 ?_ he rfl;rw[he];show AG _ _ (L3 ((false,eval (.Call (.Name "range" p2) [a,b] [] pos2) X.env)::[])) _ _ s;refine B9 ?_;refine LA (dW I hg hm KM (A3 (thA (ha pos2 pins s σ H _ I h) λus s1 vs H1 I1 r1 q1=>?_) (by rw[hs,hs2]) (by rw[hs2];rfl)));obtain⟨i,j,e,⟨q1,q2,q3,q4⟩,hz,q⟩:=q1;subst e;cases r1 with
 | cons r rr=>
  cases rr with
  | cons r' rr=>
   cases rr;obtain⟨t,rfl⟩:=r;obtain⟨t',rfl⟩:=r';refine call_range_2 (B6 ?_);refine call_list_range (n:=(j-i).toNat) (I1.ok.hd hc) (Lv ..) (small_one q1 q2 q3 q4) (by rw[Md];split <;> omega) (CF hz W6) λh' tk acc' c' kp e it=>?_
   have I2:Inv X pins σ H1 { s1 with heap:=s1.heap.push { cls:=.type "range",data:=.fields #[.int i t,.int j t',.int 1 s1.toks] },toks:=s1.toks+1 }:=I1.kept λb o e=>AB _ e;have hf:H1 (s1.heap.push { cls:=.type "range",data:=.fields #[.int i t,.int j t',.int 1 s1.toks] }).objs.size=Is:=I2.hok.fresh (AU _);refine⟨.ref _,_,I2.laid (t':=tk) kp (AU _) (show cD X.prog X.w _ h' _ (.lst (uL i (j-i).toNat)) from⟨?_,acc'.toList,c',?_,by simpa using e⟩),rfl,q _ hf⟩
   ·simpa [uL] using hz
   obtain⟨it1,it2⟩:=it;refine Fv (by simp[uL,it1]) λk x u h1 h2=>?_;have h2':acc'[k]?=GT u:=by simpa using h2
   obtain⟨t9,rfl⟩:=it2 k u h2';unfold uL at h1;rw[AQ] at h1;have hk:k<(j-i).toNat:=by
    rcases G2 k (j-i).toNat with z|z
    ·exact z
    rw[Dx (by simpa using z)] at h1;cases h1
   rw[Ha hk] at h1;cases h1;exact⟨t9,by rw[mul_one]⟩
theorem ZK{a b:Expr}{ta:TA}{p p2 pos pos2:Pos}(hc:X.calm=true)(hgl:Gl X "list")(hml:X.mg "list" = Is)(hg:Gl X "range")(hm:X.mg "range" = Is)(ha:QA X [a,b] ta)
  (hs:AH [a,b] X.env=[(false,eval a X.env),(false,eval b X.env)]:=by rfl)(hs2:AH [b] X.env=[(false,eval b X.env)]:=by rfl)
  (he:AH [.Call (.Name "range" p2) [a,b] [] pos2] X.env=[(false,eval (.Call (.Name "range" p2) [a,b] [] pos2) X.env)]:=by rfl) :
  QE X (.Call (.Name "list" p) [.Call (.Name "range" p2) [a,b] [] pos2] [] pos) (Us ta):=⟨aak hc hgl hml hg hm ha.h hs hs2 he⟩
def adq(a b:Option HO)(H:Hp)(Q:VK):Prop:=match a,b with
 | some (.lst xs),GT (.lst zs)=>xs.length+zs.length<=AK/\∀p,H p=Is->Q (.ref p) (upd H p (.lst (xs++zs)))
 | _,_=>False
def O1:R2:=λx y H Q=>match x,y with
 | .int i,.int j=>Q (.int (i+j)) H
 | .ref p,.ref q=>adq (H p) (H q) H Q
 | _,_=>False
theorem Zx(i j:Int)(H:Hp)(Q:VK):O1 (.int i) (.int j) H Q=Q (.int (i+j)) H:=rfl
theorem Zw(p q:ID)(H:Hp)(Q:VK):O1 (.ref p) (.ref q) H Q=adq (H p) (H q) H Q:=rfl
theorem NT(xs zs:List V)(H:Hp)(Q:VK):adq (GT (.lst xs)) (GT (.lst zs)) H Q=(xs.length+zs.length<=AK/\∀p,H p=Is->Q (.ref p) (upd H p (.lst (xs++zs)))):=rfl
theorem aY:OpR X (E7 .Add) O1:=by
 intro pins s σ H x y v u Q I rx ry h;unfold O1 at h;split at h
 ·exact acO pins s σ H _ _ v u Q I rx ry ⟨_,_,rfl,rfl,h⟩
 ·rename_i p q;unfold adq at h;split at h
  ·rename_i xs zs e1 e2;exact acN pins s σ H _ _ v u Q I rx ry ⟨p,q,xs,zs,rfl,rfl,e1,e2,h.1,h.2⟩
  exact h.elim
 exact h.elim
def eqL:List V->List V->Bool
 | [],[]=>true
 | x::xs,y::ys=>eqV x y&&eqL xs ys
 | _,_=>false
def aec(a b:Option HO)(H:Hp)(Q:VK):Prop:=match a,b with
 | some (.lst xs),GT (.lst zs)=>xs.all iQ=true/\zs.all iQ=true/\Q (.bl (!eqL xs zs)) H
 | _,_=>False
def ab7:R2:=λx y H Q=>match x,y with
 | .ref p,.ref q=>aec (H p) (H q) H Q
 | x,y=>rNe x y H Q
theorem ab6(i j:Int)(H:Hp)(Q:VK):ab7 (.int i) (.int j) H Q=rNe (.int i) (.int j) H Q:=rfl
theorem Qi:∀(xs zs:List V),xs.length=zs.length->((Bi xs.length).all λj=>match xs[j]?,zs[j]? with|some a,GT b=>eqV a b|_,_=>true)=eqL xs zs
 | [],[],_=>rfl
 | [],_::_,h=>by cases h
 | _::_,[],h=>by cases h
 | x::xs,z::zs,h=>by
  have ih:=Qi xs zs (by simpa using h);rw[C7,List.range_succ_eq_map,all_cons,all_map];show(eqV x z&&_)=(eqV x z&&eqL xs zs);rw[<- ih];rfl
theorem Qh:∀(xs zs:List V),xs.length≠zs.length->eqL xs zs=false
 | [],[],h=>absurd rfl h
 | [],_::_,_=>rfl
 | _::_,[],_=>rfl
 | x::xs,z::zs,h=>by
  show(eqV x z&&eqL xs zs)=false;rw[Qh xs zs (by simpa using h),F2]
theorem pZ(hu:X.A.units<FU):OpR X (CU .NotEq) ab7:=by
 intro pins s σ H x y v u Q I rx ry h;unfold ab7 at h;split at h
 ·rename_i p q;unfold aec at h;split at h
  ·rename_i xs zs e1 e2;obtain⟨f1,f2,q⟩:=h;cases rx;cases ry;obtain⟨its1,r1,pl1,hz1⟩:=I.list (SqL.of e1);obtain⟨its2,r2,pl2,hz2⟩:=I.list (SqL.of e2);have l1:=r1.length;have l2:=r2.length;by_cases hl:xs.length=zs.length
   ·refine SeqAt.RcNeAt.lists (e:=λj=>match xs[j]?,zs[j]? with|some a,GT b=>eqV a b|_,_=>true) pl1.isList pl2.isList (by simp only[AX];omega) hu (λj h1 h2=>?_) X.prog X.w X.xe (EP X pins σ Q) ?_
    ·have j1:j<xs.length:=by simp only[AX] at h1;omega
     have j2:j<zs.length:=ω;have g1:xs[j]?=GT xs[j]:=AF j1;have g2:zs[j]?=GT zs[j]:=AF j2;obtain⟨u1,hu1,ru1⟩:=r1.get g1;obtain⟨u2,hu2,ru2⟩:=r2.get g2;have k1:its1.toArray[j]=u1:=by
      have:=AM.mp hu1;obtain⟨_,z⟩:=this;simpa using z
     have k2:its2.toArray[j]=u2:=by
      have:=AM.mp hu2;obtain⟨_,z⟩:=this;simpa using z
     rw[k1,k2,g1,g2];exact X3 ru1 ru2 (LD.mp f1 _ (FG j1)) (LD.mp f2 _ (FG j2))
    rw[show its1.toArray.size=xs.length by simp only[AX];omega,Qi xs zs hl];exact⟨.bl _,H,I,rfl,q⟩
   rw[Qh xs zs hl] at q;refine SeqAt.RcNeAt.lists_lengths pl1.isList pl2.isList (by simp only[AX,bne_iff_ne,ne_eq];omega) hu X.prog X.w X.xe (EP X pins σ Q) ⟨.bl _,H,I,rfl,q⟩
  exact h.elim
 exact ad4 pins s σ H _ _ v u Q I rx ry h
def inq(neg:Bool)(o:Option HO)(x:V)(H:Hp)(Q:VK):Prop:=match o with
 | some (.lst xs)=>iQ x=true/\xs.all iQ=true/\Q (.bl (if neg then !inV x xs else inV x xs)) H
 | some (.tup xs)=>iQ x=true/\xs.all iQ=true/\Q (.bl (if neg then !inV x xs else inV x xs)) H
 | _=>False
def VB(neg:Bool):R2:=λx y H Q=>match y with
 | .ref p=>inq neg (H p) x H Q
 | _=>False
theorem ab8(neg:Bool)(x:V)(p:ID)(H:Hp)(Q:VK):VB neg x (.ref p) H Q=inq neg (H p) x H Q:=rfl
theorem aei(neg:Bool)(x:V)(xs:List V)(H:Hp)(Q:VK):inq neg (GT (.lst xs)) x H Q=(iQ x=true/\xs.all iQ=true/\Q (.bl (if neg then !inV x xs else inV x xs)) H):=rfl
theorem aeh(neg:Bool)(x:V)(xs:List V)(H:Hp)(Q:VK):inq neg (GT (.tup xs)) x H Q=(iQ x=true/\xs.all iQ=true/\Q (.bl (if neg then !inV x xs else inV x xs)) H):=rfl
theorem Xl{neg:Bool}{o:Option HO}{x:V}{H:Hp}{Q:VK}{p:ID}{K:AD}(e:H p=o)(h:inq neg o x H Q):rIn K neg x (.ref p) H Q:=by
 unfold inq at h;split at h
 ·rename_i xs;exact⟨p,xs,rfl,.inl (SqL.of e),h.1,h.2.1,h.2.2⟩
 ·rename_i xs;exact⟨p,xs,rfl,.inr (SqT.of e),h.1,h.2.1,h.2.2⟩
 exact h.elim
theorem Gk:OpR X (CU .In) (VB false):=by
 intro pins s σ H x y v u Q I rx ry h;unfold VB at h;split at h
 ·exact Ry pins s σ H _ _ v u Q I rx ry (Xl Z h)
 exact h.elim
theorem El:OpR X (CU .NotIn) (VB true):=by
 intro pins s σ H x y v u Q I rx ry h;unfold VB at h;split at h
 ·exact Gj pins s σ H _ _ v u Q I rx ry (Xl Z h)
 exact h.elim
end
structure bQ(H:Hp)(p:ID)(B:Int):Prop where
 ex:∃a b c:Int,H p=GT (.lst [.int a,.int b,.int c])/\0<=a/\0<=b/\b<2147483629/\0<=c/\c<=B
theorem bQ.same{H H':Hp}{p:ID}{B:Int}(h:bQ H p B)(s:Same H H'):bQ H' p B:=by
 obtain⟨a,b,c,e,r⟩:=h;exact⟨a,b,c,s _ _ e,r⟩
theorem bQ.le{H:Hp}{p:ID}{B B':Int}(h:bQ H p B)(l:B<=B'):bQ H p B':=by
 obtain⟨a,b,c,e,r1,r2,r3,r4,r5⟩:=h;exact⟨a,b,c,e,r1,r2,r3,r4,ω⟩
theorem bQ.ne{H:Hp}{p q:ID}{B:Int}(h:bQ H p B)(n:H q=Is):q≠p:=by
 obtain⟨a,b,c,e,_⟩:=h;exact(aF e n).symm
def U4(K:AD):Sp:=λvs H Q _=>∃(a:ID)(ns:List Int)(k:Int),vs=[.ref a,.int k]/\SqL K H a (ns.map As)/\0<=k/\∀v:Int,Q (.int v) H
def UW(K:AD):Sp:=λvs H Q _=>∃(a:ID)(ns:List Int)(k:Int),vs=[.ref a,.int k]/\SqL K H a (ns.map As)/\0<=k/\k<=100/\∀p H',H p=Is->Same H H'->bQ H' p 0->Q (.ref p) H'
def nG(n:Nat):Sp:=λvs H Q _=>∃(p:ID)(m B:Int),vs=[.ref p,.int m]/\bQ H p B/\B+(n:Int)<=1000100/\0<m/\m<2^70/\1<=n/\(1000000<=m->2<=n) /\
 ∀r H',0<=r->r<m->bY p H H'->bQ H' p (B+n)->Q (.int r) H'
theorem acs(c:Int):∃v:Int,atI [As 2147483587,As 2147483579,As 2147483563,As 2147483549,As 2147483543,As 2147483497,As 2147483489] (c%7)=GT (.int v)/\0<v:=by
 have h1:0<=c%7:=F4 _ δ;have h2:c%7<7:=EX _ δ;generalize c%7=d at h1 h2;have h3:d=0\/d=1\/d=2\/d=3\/d=4\/d=5\/d=6:=ω;rcases h3 with rfl|rfl|rfl|rfl|rfl|rfl|rfl
 ·exact⟨_,cH (j:=0) rfl,δ⟩
 ·exact⟨_,cH (j:=1) rfl,δ⟩
 ·exact⟨_,cH (j:=2) rfl,δ⟩
 ·exact⟨_,cH (j:=3) rfl,δ⟩
 ·exact⟨_,cH (j:=4) rfl,δ⟩
 ·exact⟨_,cH (j:=5) rfl,δ⟩
 exact⟨_,cH (j:=6) rfl,δ⟩
def wl(w s:Int):Int:=0-2^(w-1).toNat*s
section
variable {mp:List (Option Nat)}{g:TG}{tc:TT}{te:TE}{σ:St}{H:Hp}{Q:VK}{R:It->Hp->Prop}{K:AD}
theorem G9{lo:Int}{n:Nat}(hR:R=N7 mp g tc te σ Q)(hz:n<=AK)(Pv:Nat->List V->St->Hp->Prop)(h0:Pv 0 [] (fM mp σ) H)(hl:∀i acc τ H,Pv i acc τ H->acc.length<=i)
  (hs:∀i acc τ H,i<n->Pv i acc τ H->g (.int (lo+i)) τ H λτ1 H4=>tc τ1 H4 λb H5=>if b=true then te τ1 H5 λv H6=>Pv (i+1) (acc++[v]) τ1 H6 else Pv (i+1) acc τ1 H5)
  (hd:∀acc τ H d,Pv n acc τ H->H d=Is->Q (.ref d) (upd H d (.lst acc))):R (Itr lo n) H:=by
 refine Qq hR n hz Pv h0 hl (λi acc τ H hi _=>hi) (λacc τ H _=>AU n) (λi acc τ H x H3 hi p y=>?_) hd;obtain⟨rfl,rfl⟩:=y;exact hs i acc τ _ hi p
theorem jr{a:ID}{xs:List V}(hR:R=N7 mp g tc te σ Q)(hz:xs.length<=AK)(Pv:Nat->List V->St->Hp->Prop)(h0:Pv 0 [] (fM mp σ) H)(hl:∀i acc τ H,Pv i acc τ H->acc.length<=i)
  (hq:∀i acc τ H,Pv i acc τ H->SqL K H a xs)
  (hs:∀i x acc τ H,xs[i]?=GT x->Pv i acc τ H->g x τ H λτ1 H4=>tc τ1 H4 λb H5=>if b=true then te τ1 H5 λv H6=>Pv (i+1) (acc++[v]) τ1 H6 else Pv (i+1) acc τ1 H5)
  (hd:∀acc τ H d,Pv xs.length acc τ H->H d=Is->Q (.ref d) (upd H d (.lst acc))):R (Itl K a) H:=by
 refine Qq hR xs.length hz Pv h0 hl (λi acc τ H hi p=>⟨xs,xs[i],hq i acc τ H p,AF hi⟩) (λacc τ H p=>⟨xs,hq _ acc τ H p,AU _⟩) (λi acc τ H x H3 hi p y=>?_) hd;obtain⟨rfl,hx⟩:=y;exact hs i x acc τ _ (hx xs (hq i acc τ _ p)) p
end
def aed(l:List Nat):List V:=l.map λk=>As (k:Nat)
theorem aa0(k:Nat)(l:List Nat):inV (.int (k:Nat)) (aed l)=l.contains k:=by
 unfold inV aed;rw[List.any_map]
 induction l with
 | nil=>rfl
 | cons a r ih=>
  rw[HV,List.contains_cons,ih];congr 1;show((a:Int) == (k:Int))=(k == a);rw[GG,beq_iff_eq,beq_iff_eq];omega
theorem aa6(g:TG)(gs:TGs)(x:V)(xs:List V)(σ:St)(H:Hp)(Q:St->Hp->Prop):Xx g gs (x::xs) σ H Q=g x σ H λσ1 H1=>gs xs σ1 H1 Q:=
 propext ⟨λ⟨_,_,e,h⟩=>by cases e;exact h,λh=>⟨x,xs,rfl,h⟩⟩
theorem ade(σ:St)(H:Hp)(Q:St->Hp->Prop):adf [] σ H Q=Q σ H:=propext ⟨λh=>h.2,λh=>⟨rfl,h⟩⟩
theorem XQ{a b:Int}{P:Int->Int->Prop}:(∃v w,(a=v/\b=w)/\P v w)=P a b:=propext ⟨λ⟨_,_,⟨h1,h2⟩,h⟩=>h1 ▸ h2 ▸ h,λh=>⟨a,b,⟨rfl,rfl⟩,h⟩⟩
theorem jH{tc:TT}{ts us:TS}{D:Ends}{σ:St}{H:Hp}(h:∀kt ke,kt=ts D->ke=us D->tc σ H λb H1=>if b=true then kt σ H1 else ke σ H1):Q0 tc ts us D σ H:=h _ _ Z rfl
theorem Oz{p:ID}{H H':Hp}(h:bY p H H')(e:H p=Is):Same H H':=λb o hb=>h b o (aF hb e) hb
section
variable {X:Cx}{e o:Expr}{te to:TE}{pos:Pos}
def apq(ob:Option HO)(l:ID)(y:V)(H:Hp)(Q:VK):Prop:=match ob with
 | some (.lst xs)=>xs.length<AK/\Q .non (upd H l (.lst (xs++[y])))
 | _=>False
def isq(ob:Option HO):Prop:=match ob with
 | some (.lst _)=>True
 | _=>False
theorem yO(xs:List V):isq (GT (.lst xs))=True:=rfl
theorem vN(xs:List V)(l:ID)(y:V)(H:Hp)(Q:VK):apq (GT (.lst xs)) l y H Q=(xs.length<AK/\Q .non (upd H l (.lst (xs++[y])))):=rfl
def abp(x:V)(te:TE)(σ:St)(H1:Hp)(Q:VK):Prop:=match x with
 | .ref l=>isq (H1 l)/\te σ H1 λy H2=>apq (H2 l) l y H2 Q
 | _=>False
def Hy(to te:TE):TE:=λσ H Q=>to σ H λx H1=>abp x te σ H1 Q
theorem Ux(to te:TE)(σ:St)(H:Hp)(Q:VK):Hy to te σ H Q=to σ H λx H1=>abp x te σ H1 Q:=rfl
theorem Kg(l:ID)(te:TE)(σ:St)(H1:Hp)(Q:VK):abp (.ref l) te σ H1 Q=(isq (H1 l)/\te σ H1 λy H2=>apq (H2 l) l y H2 Q):=rfl
theorem aaw{apos cpos:Pos}(ho:PE X o to)(he:PE X e te)
  (hbase:DM o "append" X.env (eval o X.env)=eval o X.env:=by rfl)
   (hfew:((CS cpos (AH [e] X.env)).all (λx=>!x.1)&&(Hb cpos (Ff [] X.env)).all (λx=>x.1.isSome)
   && decide ([e].length+([]:List EJ).length+(if ([]:List EJ).isEmpty then 0 else 1)<30))=true:=by rfl)
  (hline:(apos.endLine == cpos.line)=true:=by rfl) (hs:AH [e] X.env=(false,eval e X.env)::AH [] X.env:=by rfl) (hplain:(CS cpos (AH [] X.env)).any (·.1)=false:=by rfl) :
  PE X (.Call (.Attribute o "append" apos) [e] [] cpos) (Hy to te):=by
 intro pins s σ H Q I h;refine ES hbase hfew hline Z (thE (ho pins s σ H _ I h) λv s1 x H1 I1 r1 q=>?_);cases x with
 | ref l=>
  obtain⟨q1,q2⟩:=q;cases el:H1 l with
  | none=>rw[el] at q1;exact q1.elim
  | some ob=>
   cases ob with
   | lst xs=>
    obtain⟨h1,h2⟩:=pK (T := "list") I1 r1 (.inl ⟨rfl,xs,SqL.of el⟩);refine⟨"list","list.append",D0,PySem.F.slot_list_append,PySem.F.type_list_append,h1,h2,?_⟩;rw[hs];refine DC (by show(false||(CS cpos (AH [] X.env)).any (·.1))=false;rw[hplain] <;> rfl) (EG ?_)
    refine B9 (thE (he pins s1 σ H1 _ I1 q2) λu s2 y H2 I2 r2 q3=>B6 ?_);replace q3:apq (H2 l) l y H2 Q:=q3;cases el2:H2 l with
    | none=>rw[el2] at q3;exact q3.elim
    | some ob2=>
     cases ob2 with
     | lst ys=>
      rw[el2] at q3;exact RV pins s2 σ H2 (.ref l) [y] v [u] Q I2 r1 (.cons r2 .nil) ⟨l,ys,y,rfl,rfl,el2,q3.1,q3.2⟩
     | _=>rw[el2] at q3;exact q3.elim
   | _=>rw[el] at q1;exact q1.elim
 | _=>exact q.elim
theorem nR{apos cpos:Pos}(ho:QE X o to)(he:QE X e te)
  (hbase:DM o "append" X.env (eval o X.env)=eval o X.env:=by rfl)
   (hfew:((CS cpos (AH [e] X.env)).all (λx=>!x.1)&&(Hb cpos (Ff [] X.env)).all (λx=>x.1.isSome)
   && decide ([e].length+([]:List EJ).length+(if ([]:List EJ).isEmpty then 0 else 1)<30))=true:=by rfl)
  (hline:(apos.endLine == cpos.line)=true:=by rfl) (hs:AH [e] X.env=(false,eval e X.env)::AH [] X.env:=by rfl) (hplain:(CS cpos (AH [] X.env)).any (·.1)=false:=by rfl) :
  QE X (.Call (.Attribute o "append" apos) [e] [] cpos) (Hy to te):=⟨aaw ho.h he.h hbase hfew hline hs hplain⟩
def slq(ob:Option HO)(lo hi:Option Int)(H:Hp)(Q:VK):Prop:=match ob with
 | some (.lst xs)=>∀p,H p=Is->Q (.ref p) (upd H p (.lst (jT xs lo hi)))
 | some (.tup xs)=>¬(HT.sIx xs.length 0 lo=0/\HT.sIx xs.length xs.length hi=xs.length)/\∀p,H p=Is->Q (.ref p) (upd H p (.tup (jT xs lo hi)))
 | _=>False
def ab4:V->Option Int->Option Int->Hp->VK->Prop:=λx lo hi H Q=>match x with
 | .ref p=>slq (H p) lo hi H Q
 | _=>False
theorem Vp(p:ID)(lo hi:Option Int)(H:Hp)(Q:VK):ab4 (.ref p) lo hi H Q=slq (H p) lo hi H Q:=rfl
theorem Zc(xs:List V)(lo hi:Option Int)(H:Hp)(Q:VK):slq (GT (.lst xs)) lo hi H Q=∀p,H p=Is->Q (.ref p) (upd H p (.lst (jT xs lo hi))):=rfl
theorem zB:SlR X ab4:=by
 intro pins s σ H x v vl vu lo hi sl Q I rx hs pl pu h;unfold ab4 at h;split at h
 ·rename_i p;unfold slq at h;split at h
  ·rename_i xs e;exact Zd pins s σ H _ v vl vu lo hi sl Q I rx hs pl pu ⟨p,xs,rfl,SqL.of e,h⟩
  ·rename_i xs e;exact abX pins s σ H _ v vl vu lo hi sl Q I rx hs pl pu ⟨p,xs,rfl,SqT.of e,h.1,h.2⟩
  exact h.elim
 exact h.elim
structure QO(X:Cx)(e:Option Expr)(t:TO):Prop where
 h:PO X e t
theorem qZ:QO X Is Fx:=⟨Z7⟩
theorem dZ(h:QE X e te):QO X (GT e) (Uo te):=⟨Z6 h.h⟩
theorem fY{r:V->Option Int->Option Int->Hp->VK->Prop}{lo hi:Option Expr}{tl th:TO}{p2:Pos}(hr:SlR X r)(he:QE X e te)(hl:QO X lo tl)(hu:QO X hi th):QE X (.Subscript e (.Slice lo hi Is p2) pos) (tSl r te tl th):=⟨Wa hr he.h hl.h hu.h⟩
def rpq(ob:Option HO)(k:Int)(H:Hp)(Q:VK):Prop:=match ob with
 | some (.lst xs)=>-(2^63)<=k/\k<2^63/\xs.length*k.toNat<=AK/\∀p,H p=Is->Q (.ref p) (upd H p (.lst (CA k.toNat xs).flatten))
 | _=>False
def OJ:R2:=λx y H Q=>match x,y with
 | .ref p,.int k=>rpq (H p) k H Q
 | x,y=>rI TX (λi j=>.int (i*j)) x y H Q
theorem Zm(p:ID)(k:Int)(H:Hp)(Q:VK):OJ (.ref p) (.int k) H Q=rpq (H p) k H Q:=rfl
theorem Zn(i j:Int)(H:Hp)(Q:VK):OJ (.int i) (.int j) H Q=rI TX (λi j=>.int (i*j)) (.int i) (.int j) H Q:=rfl
theorem Zf(xs:List V)(k:Int)(H:Hp)(Q:VK):rpq (GT (.lst xs)) k H Q=(-(2^63)<=k/\k<2^63/\xs.length*k.toNat<=AK/\∀p,H p=Is->Q (.ref p) (upd H p (.lst (CA k.toNat xs).flatten))):=rfl
theorem cG:OpR X (E7 .Mult) OJ:=by
 intro pins s σ H x y v u Q I rx ry h;unfold OJ at h;split at h
 ·rename_i p k;unfold rpq at h;split at h
  ·rename_i xs e;exact acK pins s σ H _ _ v u Q I rx ry ⟨p,k,xs,rfl,rfl,e,h.1,h.2.1,h.2.2.1,h.2.2.2⟩
  exact h.elim
 exact acL pins s σ H _ _ v u Q I rx ry h
def eqo(ob:Option HO)(H:Hp)(Q:VK):Prop:=match ob with
 | some (.lst _)=>Q (.bl false) H
 | some (.tup _)=>Q (.bl false) H
 | _=>False
def VD:R2:=λx y H Q=>match x,y with
 | .ref p,.str _=>eqo (H p) H Q
 | x,y=>rEq x y H Q
theorem Zt(i j:Int)(H:Hp)(Q:VK):VD (.int i) (.int j) H Q=rEq (.int i) (.int j) H Q:=rfl
theorem Zr(i j:Str)(H:Hp)(Q:VK):VD (.str i) (.str j) H Q=rEq (.str i) (.str j) H Q:=rfl
theorem bT(hu:X.A.units<FU):OpR X (CU .Eq) VD:=by
 intro pins s σ H x y v u Q I rx ry h;unfold VD at h;split at h
 ·rename_i p z;cases rx;obtain⟨t,rfl⟩:=ry;unfold eqo at h;split at h
  ·rename_i xs e;obtain⟨its,r,pl,hz⟩:=I.list (SqL.of e);exact SeqAt.RcAt.list_str z t pl.isList hu X.prog X.w X.xe (EP X pins σ Q) ⟨.bl false,H,I,rfl,h⟩
  ·rename_i xs e;obtain⟨its,r,pl,hz⟩:=I.tuple (SqT.of e);exact SeqAt.RcAt.tuple_str z t pl hu X.prog X.w X.xe (EP X pins σ Q) ⟨.bl false,H,I,rfl,h⟩
  exact h.elim
 exact ad6 pins s σ H _ _ v u Q I rx ry h
theorem rm{x:Str}{v:V}{u:Ap}(hg:Gl X x)(hm:X.mg x=GT u)(r:RelV v u)(b:Bn x):QE X (.Name x pos) (tC v):=⟨aan hg hm r b.hd⟩
end
mutual
inductive aH (ok:ID->Prop)(H:Hp):V->A0->Prop
 | non:aH ok H .non .none
 | bl (b:Bool):aH ok H (.bl b) (.bool b)
 | int (i:Int):aH ok H (.int i) (.int i)
 | str (x:Str):aH ok H (.str x) (.str x)
 | lst {p:ID} {xs:List V} {ds:List A0}:ok p->H p=GT (.lst xs)->xs.length<=1000000->aG ok H xs ds->aH ok H (.ref p) (.list ds)
 | tup {p:ID} {xs:List V} {ds:List A0}:ok p->H p=GT (.tup xs)->xs.length<=1000000->aG ok H xs ds->aH ok H (.ref p) (.tuple ds)
inductive aG (ok:ID->Prop)(H:Hp):List V->List A0->Prop
 | nil:aG ok H [] []
 | cons {x:V} {d:A0} {xs:List V} {ds:List A0}:aH ok H x d->aG ok H xs ds->aG ok H (x::xs) (d::ds)
end
mutual
theorem aH.keep{ok ok':ID->Prop}{H H':Hp}(k:∀a o,ok a->H a=GT o->ok' a/\H' a=GT o):∀{v:V}{d:A0},aH ok H v d->aH ok' H' v d
 | _,_,.non=>.non
 | _,_,.bl b=>.bl b
 | _,_,.int i=>.int i
 | _,_,.str x=>.str x
 | _,_,.lst o e z t=>.lst (k _ _ o e).1 (k _ _ o e).2 z (aG.keep k t)
 | _,_,.tup o e z t=>.tup (k _ _ o e).1 (k _ _ o e).2 z (aG.keep k t)
theorem aG.keep{ok ok':ID->Prop}{H H':Hp}(k:∀a o,ok a->H a=GT o->ok' a/\H' a=GT o):∀{vs:List V}{ds:List A0},aG ok H vs ds->aG ok' H' vs ds
 | _,_,.nil=>.nil
 | _,_,.cons t r=>.cons (aH.keep k t) (aG.keep k r)
end
theorem aH.same{ok:ID->Prop}{H H':Hp}{v:V}{d:A0}(t:aH ok H v d)(s:Same H H'):aH ok H' v d:=t.keep λa o h e=>⟨h,s a o e⟩
theorem aG.same{ok:ID->Prop}{H H':Hp}{v:List V}{d:List A0}(t:aG ok H v d)(s:Same H H'):aG ok H' v d:=t.keep λa o h e=>⟨h,s a o e⟩
theorem aH.Ec{p:ID}{H H':Hp}{v:V}{d:A0}(t:aH (·≠p) H v d)(s:bY p H H'):aH (·≠p) H' v d:=t.keep λa o h e=>⟨h,s a o h e⟩
theorem aG.Ec{p:ID}{H H':Hp}{v:List V}{d:List A0}(t:aG (·≠p) H v d)(s:bY p H H'):aG (·≠p) H' v d:=t.keep λa o h e=>⟨h,s a o h e⟩
theorem aG.length{ok:ID->Prop}{H:Hp}:∀{vs:List V}{ds:List A0},aG ok H vs ds->vs.length=ds.length
 | _,_,.nil=>rfl
 | _,_,.cons _ r=>by rw[C7,C7,r.length]
theorem aG.append{ok:ID->Prop}{H:Hp}:∀{vs ws:List V}{ds es:List A0},aG ok H vs ds->aG ok H ws es->aG ok H (vs++ws) (ds++es)
 | _,_,_,_,.nil,t=>t
 | _,_,_,_,.cons h r,t=>.cons h (r.append t)
theorem aG.get{ok:ID->Prop}{H:Hp}:∀{vs:List V}{ds:List A0}{i:Nat}{v:V},aG ok H vs ds->vs[i]?=GT v->∃d,ds[i]?=GT d/\aH ok H v d
 | _,_,0,_,.cons h _,e=>by cases e;exact⟨_,rfl,h⟩
 | _,_,i+1,_,.cons _ r,e=>aG.get r (i:=i) e
theorem aG.take{ok:ID->Prop}{H:Hp}:∀{vs:List V}{ds:List A0}(n:Nat),aG ok H vs ds->aG ok H (vs.take n) (ds.take n)
 | _,_,0,_=>.nil
 | _,_,_+1,.nil=>.nil
 | _,_,n+1,.cons h r=>.cons h (r.take n)
section
variable {X:Cx}{pins:List (ID×Obj)}{σ:St}{H:Hp}{s:AA}{ok:ID->Prop}
mutual
theorem aH.reads(I:Inv X pins σ H s):∀{v:V}{d:A0}{u:Ap},aH ok H v d->RelV v u->∃as,Reads s.heap u d as
 | _,_,_,.non,r=>by cases r;exact⟨_,.none⟩
 | _,_,_,.bl b,r=>by cases r;exact⟨_,.bool b⟩
 | _,_,_,.int i,r=>by obtain⟨t,rfl⟩:=r;exact⟨_,.int i t⟩
 | _,_,_,.str x,r=>by obtain⟨t,rfl⟩:=r;exact⟨_,.str x t⟩
 | _,_,_,.lst o e z t,r=>by
  cases r;obtain⟨its,rv,pl,hz⟩:=I.list (SqL.of e);obtain⟨ob,h1,h2,n,h3⟩:=pl.isList;obtain⟨as,h4⟩:=aG.reads I t rv;exact⟨_,.list h1 h2 h3 (by simpa using h4)⟩
 | _,_,_,.tup o e z t,r=>by
  cases r;obtain⟨its,rv,pl,hz⟩:=I.tuple (SqT.of e);obtain⟨ob,h1,h2,n,h3⟩:=pl;obtain⟨as,h4⟩:=aG.reads I t rv;exact⟨_,.tuple h1 h2 h3 (by simpa using h4)⟩
theorem aG.reads(I:Inv X pins σ H s):∀{vs:List V}{ds:List A0}{us:List Ap},aG ok H vs ds->Vals vs us->∃as,ReadsAll s.heap us ds as
 | _,_,_,.nil,r=>by cases r;exact⟨_,.nil⟩
 | _,_,_,.cons h t,r=>by
  cases r with
  | cons r1 r2=>
   obtain⟨as,h1⟩:=aH.reads I h r1;obtain⟨bs,h2⟩:=aG.reads I t r2;exact⟨_,.cons h1 h2⟩
end
end
mutual
def nodes:A0->Nat
 | .list ds=>1+zV ds
 | .tuple ds=>1+zV ds
 | _=>1
def zV:List A0->Nat
 | []=>0
 | d::ds=>nodes d+zV ds
end
mutual
def smD:A0->Bool
 | .none=>true
 | .bool _=>true
 | .int i=>decide (i.natAbs<2^50\/i.natAbs=10^20\/i.natAbs<2^55)
 | .str x=>decide ((reprText x).length<=50)
 | .list ds=>U5 ds
 | .tuple ds=>U5 ds
 | .dict _=>false
def U5:List A0->Bool
 | []=>true
 | d::ds=>smD d&&U5 ds
end
section
variable {X:Cx}{tg l:Expr}{tl:TE}
def itq(K:AD)(ob:Option HO)(a:ID)(H:Hp)(R:It->Hp->Prop):Prop:=match ob with
 | some (.lst _)=>R (Itl K a) H
 | some (.tup _)=>R (Itt K a) H
 | _=>False
def itK(K:AD)(x:V)(H:Hp)(R:It->Hp->Prop):Prop:=match x with
 | .ref a=>itq K (H a) a H R
 | _=>False
def Qc(K:AD)(tl:TE):TI:=λσ H R=>tl σ H λx H1=>itK K x H1 R
theorem Jy(K:AD)(tl:TE)(σ:St)(H:Hp)(R:It->Hp->Prop):Qc K tl σ H R=tl σ H λx H1=>itK K x H1 R:=rfl
theorem PX(K:AD)(a:ID)(H:Hp)(R:It->Hp->Prop):itK K (.ref a) H R=itq K (H a) a H R:=rfl
theorem PN(K:AD)(xs:List V)(a:ID)(H:Hp)(R:It->Hp->Prop):itq K (GT (.lst xs)) a H R=R (Itl K a) H:=rfl
theorem aae(hl:PE X l tl):PI X tg l (Qc X.K tl):=by
 intro pins s σ H R I h;refine thn (hl pins s σ H _ I h) λv s1 ⟨x,H1,I1,r1,q1⟩=>?_;cases x with
 | ref a=>
  replace q1:itq X.K (H1 a) a H1 R:=q1;cases r1;unfold itq at q1;split at q1
  ·rename_i xs e;obtain⟨its,rv,p,hz⟩:=I1.list (SqL.of e);refine G1 p.isList ?_;refine⟨s1.heap.objs.size,[s1.heap.objs.size],_,_,H1,rfl,I1.kept (t':=s1.toks) λb o e=>AB _ e,QD a _,⟨_,AO _ rfl,rfl,rfl⟩,λb hb=>?_,q1⟩;have e:b=s1.heap.objs.size:=by simpa using hb
   subst e;exact I1.Dg (AU _) (I1.hok.fresh (AU _))
  ·rename_i xs e;obtain⟨its,rv,p,hz⟩:=I1.tuple (SqT.of e);refine FH (show s1.heap.IsTuple a its.toArray from p) ?_;refine⟨s1.heap.objs.size,[s1.heap.objs.size],_,_,H1,rfl,I1.kept (t':=s1.toks) λb o e=>AB _ e,Kp a _,⟨_,AO _ rfl,rfl,rfl⟩,λb hb=>?_,q1⟩;have e:b=s1.heap.objs.size:=by simpa using hb
   subst e;exact I1.Dg (AU _) (I1.hok.fresh (AU _))
  exact q1.elim
 | _=>exact q1.elim
theorem cj(hl:QE X l tl):QI X tg l (Qc X.K tl):=⟨aae hl.h⟩
end
def Gv(ok:ID->Prop)(t:TE)(σ:St)(H0:Hp)(d:A0):Prop:=∀H,Same H0 H->∀Q:VK,(∀v H',Same H H'->aH ok H' v d->Q v H')->t σ H Q
def GvA(ok:ID->Prop)(t:TA)(σ:St)(H0:Hp)(ds:List A0):Prop:=∀H,Same H0 H->∀Q:List V->Hp->Prop,(∀vs H',Same H H'->aG ok H' vs ds->Q vs H')->t σ H Q
def gF(ok:ID->Prop)(H0:Hp):Prop:=∀H p,Same H0 H->H p=Is->ok p
theorem Wv{H0:Hp}{p:ID}{o:HO}(h:H0 p=GT o):gF (·≠p) H0:=λH q s hq=>(aF (s _ _ h) hq).symm
theorem gF.same{ok:ID->Prop}{H0 H1:Hp}(n:gF ok H0)(s:Same H0 H1):gF ok H1:=λH p s2 h=>n H p (s.trans s2) h
section
variable {ok:ID->Prop}{σ:St}{H0:Hp}{ta tb:TE}{tr:TA}{d e:A0}{ds es:List A0}
theorem GQ{x:Str}:Gv ok (tC (.str x)) σ H0 (.str x):=λH _ Q q=>q _ _ (Same.refl _) (.str x)
theorem iY:GvA ok Kw σ H0 []:=λH _ Q q=>q _ _ (Same.refl _) .nil
theorem bV(h:Gv ok ta σ H0 d)(h2:GvA ok tr σ H0 ds):GvA ok (wV ta tr) σ H0 (d::ds):=λH s Q q=>
 h H s _ λv H1 s1 t1=>h2 H1 (s.trans s1) _ λvs H2 s2 t2=>q _ _ (s1.trans s2) (.cons (t1.same s2) t2)
theorem qF(n:gF ok H0)(h:GvA ok tr σ H0 ds)(hl:ds.length<=1000000):Gv ok (Kv tr) σ H0 (.tuple ds):=λH s Q q=>
 h H s _ λvs H1 s1 t1=>⟨aM (by rw[t1.length];exact hl),λp hp=>q _ _ (s1.trans (au hp)) (.tup (n H1 p (s.trans s1) hp) aA (by rw[t1.length];exact hl) (t1.same (au hp)))⟩
theorem Mz(n:gF ok H0)(h:GvA ok tr σ H0 ds)(hl:ds.length<=1000000):Gv ok (QZ tr) σ H0 (.list ds):=λH s Q q=>
 h H s _ λvs H1 s1 t1=>⟨aM (by rw[t1.length];exact hl),λp hp=>q _ _ (s1.trans (au hp)) (.lst (n H1 p (s.trans s1) hp) aA (by rw[t1.length];exact hl) (t1.same (au hp)))⟩
end
def Mu:A0->Bool
 | .int _=>true
 | _=>false
def inB(w s a:Int):Bool:=decide (wl w s<=a)&&decide (a<wl w s+2^w.toNat)
def U0:Sp:=λvs H Q _=>∃v ok d,vs=[v]/\aH ok H v d/\Q (.bl (Mu d)) H
section
variable {X:Cx}{NX N:List Str}{kX:List (Str×DE)}{mp:List (Option Nat)}{scope:E5}
set_option maxHeartbeats 8000000 in
theorem Z0{tg iter elt:Expr}{ifs:List Expr}{pos pos' pos2:Pos}{wi:TI}{g:TG}{tc:TT}{te:TE}{i:Nat}{x:Str}(N:List Str)(mp:List (Option Nat))(hn:Nm X.N X.env.scope i x)(hNd:X.N.Nodup)(hNX:X.N=NX)(hkX:X.env.scope.names=kX)(S:oY NX kX N mp scope)(hc:X.calm=true)
  (hi:PI X tg iter wi)(hg:∀cl C s H fp,PG (aO X N scope cl C s H fp) tg g)(ht:∀cl C s H fp,PTs (aO X N scope cl C s H fp) ifs tc)(he:∀cl C s H fp,PE (aO X N scope cl C s H fp) elt te)
  (hf:X.fn x=true\/X.env.scope.names.lookup x=GT .local:=by exact .inl Z)
  (hsw:FM [.Name x pos'] (.ListComp elt [⟨tg,iter,ifs,0⟩] scope pos) pos2.line X.env=pure true:=by rfl)
  (h1:(DZ [.Name x pos'] X.env).map (·.2)=[EO (.Name x pos') X.env]:=by rfl)
  (hs:∀x,B2 iter X.env x=pure x:=by intro _;rfl):PS X (.Assign [.Name x pos'] (.ListComp elt [⟨tg,iter,ifs,0⟩] scope pos) pos2) (xZ (Du mp wi g tc te) (lz i)):=by
 intro pins s σ H Dn I h;rw[exec_Assign_arm];refine An (C6 ?_);rw[hsw];refine An (Au ?_);rw[if_pos rfl,h1];replace h:Du mp wi g tc te σ H (λv H1=>Dn.nx (σ.set i (GT v)) H1):=h;obtain⟨cl,hcl,hsub,hhas⟩:=vJ (env:=X.env) (scope:=scope) λy hy hf=>I.ok.has y.1 (by
  rcases S.fre y hy hf with q|q
  ·exact .inl (show X.env.scope.names.lookup y.1=_ by rw[hkX];exact q)
  exact .inr (show X.env.scope.names.lookup y.1=_ by rw[hkX];exact q))
 generalize hQ:(λ(v:V)(H1:Hp)=>Dn.nx (σ.set i (GT v)) H1)=Q at h
 let QQ:Ap->AA->Prop:=λ_ s'=>∃τ H',Inv X pins τ H' s'/\Dn.nx τ H'
 refine An (An (thn (Q:=QQ) (Fn (e:=.ListComp elt [⟨tg,iter,ifs,0⟩] scope pos) (use:=GT λv=>assignAll v [EO (.Name x pos') X.env]) Z hs hcl S.kind S.locs ?_) λ_ s' ⟨τ,H',I',q'⟩=>Au (Au ⟨τ,H',I',q'⟩)));refine thn (hi pins s σ H _ I h) λv s1 h1=>thn h1 λitv s2 h2=>?_;obtain⟨it,fp,tn,J,H2,e,I2,T,st2,f2,W,⟨m0,w0⟩,turn⟩:=h2;subst e;refine Be (F3 S.nocell (by intro y hy;simp at hy) (λh3 hns hsb=>?_) S.kind);dsimp only at hns hsb |-;have hold:∀b∈fp,b<s2.heap.objs.size:=λb hb=>by
  obtain⟨o,q,_⟩:=T.obj _ _ st2 b hb;exact AY q
 generalize hD:s2.heap.objs.size=D at hns hsb;generalize hH2:s2.heap.push { cls:=.type "list",dict:=Is,data:=.seq ([]:List Ap).toArray }=P2 at hns hsb |-;have hC:P2.objs.size=D+1:=by rw[<- hH2,Ct,hD]
 generalize hC':P2.objs.size=C at hns hsb |-;rw[hC'] at hC;have old:∀b o,s2.heap.get? b=GT o->h3.get? b=GT o:=λb o q=>by
  have hb:=AY q;exact hsb.extBut b o (na1 hb hD hC) (AB _ (hH2 ▸ AB _ q))
 have accD:h3.get? D=GT { cls:=.type "list",data:=.seq ([]:List Ap).toArray }:=
  hsb.extBut _ _ (na2 hC) (AB _ (by rw[<- hH2,<- hD];exact AO _ Z))
 have hfr:D∉frs X.stack:=λz=>by
  rcases A1.mp (I2.pO D z) with q|q
  ·exact na0 I2.lt hD q.symm
  exact I2.RP (na4 hD) q
 have I0:Inv (aO X N scope cl C s2 H2 fp) [(D,{ cls:=.type "list",data:=.seq ([]:List Ap).toArray })] (fM mp σ) H2 { s2 with heap:=h3,toks:=s2.toks+([]:List (Str×Ap)).length }:=
  vI (s':={ s2 with heap:=h3,toks:=s2.toks+([]:List (Str×Ap)).length }) hNX hkX S I2 f2 hold (na3 hD hC) hsub hhas Z Z ⟨_,hns⟩ old λp hp=>by
   have ep:=AL.mp hp;subst ep;exact⟨accD,I2.hok.fresh (na4 hD),na2 hC,hfr,λv z=>by cases z⟩
 have T0:tn 0 h3:=T.keep _ _ _ st2 λb _ o q=>old b o q;have loop:∀z:AA,z={ s2 with heap:=h3,toks:=s2.toks+([]:List (Str×Ap)).length } ->
   DL (AJ X.prog X.w) X.A (.compLoop (.ListComp elt [⟨tg,iter,ifs,0⟩] scope pos) 0 (.ref it) (.ref D) (EW scope cl C X.env))
    (compPost (AJ X.prog X.w) X.A X.xe (GT λv=>assignAll v [EO (.Name x pos') X.env]) QQ (.ref D) C) z:=by
  rintro z rfl;have stat:∀{H':Hp}{pl:List (ID×Obj)},(∀b∈fp,H' b=Is)->(∀p∈pl,p.1=D)->∀b∈fp,pH (aO X N scope cl C s2 H2 fp) pl H' b:=λhn hp b hb=>by
   have hb2:=hold b hb;refine⟨hn b hb,na1 hb2 hD hC,(wN hkX S I2 f2 hold (na3 hD hC) hsub hhas).exfs b hb,.inl hb,λx c q=>(f2 b hb).2.2.2.2.1 x c (hsub x c q),λp hpp=>?_⟩;have hpD:=hp p (by simpa [aO] using hpp);rw[hpD];exact(na0 hb2 hD).symm
  refine EY (env:=EW scope cl C X.env) (λn z=>∃i acc τ H' its k,Inv (aO X N scope cl C s2 H2 fp) [(D,{ cls:=.type "list",data:=.seq (DU its) k })] τ H' z/\tn i z.heap/\(∀b∈fp,H' b=Is)/\Vals acc its/\acc.length<=AK/\W i n acc τ H')
   ?_ m0 ⟨0,[],_,H2,[],0,I0,T0,λb hb=>(f2 b hb).1,.nil,DJ _,w0⟩
  rintro n s5 ⟨i,acc,τ,H5,its,k,I5,st5,fr5,va,hz,w5⟩;rcases turn i n acc τ H5 w5 with⟨stop,qn⟩|⟨go,hz2,N9,hN9,step⟩
  ·refine thn (T.done (aO X N scope cl C s2 H2 fp) Z Z Z hc i _ s5 τ H5 _ I5 (stat fr5 ζ) st5 stop) λr s6 ⟨hr,I6⟩=>?_;subst hr;obtain⟨m6,hn6,_⟩:=I6.loc;obtain⟨dD,nD,_,_,_⟩:=I6.pin (D,_) (AN _ (AL.mpr Z));have U:=I6.base;have nC:H5 C=Is:=I6.free;have ne:∀b o,s2.heap.get? b=GT o->b≠C/\b≠D:=λb o q=>by
    exact⟨na1 (AY q) hD hC,na0 (AY q) hD⟩
   have key:∀h',B3 C s6.heap h'->Inv X pins σ (upd H5 D (.lst acc)) { s6 with heap:=h' }:=λh' sb=>by
    have keepC:∀b o,b≠C->s6.heap.get? b=GT o->h'.get? b=GT o:=λb o hb q=>(sb.2 b hb).trans q;have U':Un (frs X.stack) fp H2 (upd H5 D (.lst acc)) s2.heap h':=by
     refine⟨λb o q n1 hb hx=>keepC b o (ne b o q).1 (U.keep b o q n1 hb hx),λb o q n1 hb hx=>?_,λb o q n1 hx=>?_,λb o q hx=>?_,λb xs q=>?_,λb o xs q=>?_,λb ps q=>?_⟩
     ·obtain⟨sl,z⟩:=U.slot b o q n1 hb hx;exact⟨sl,keepC b _ (ne b o q).1 z⟩
     ·rw[aJ (ne b o q).2];exact U.free b o q n1 hx
     ·obtain⟨o',z⟩:=U.there b o q hx;exact⟨o',keepC b _ (ne b o q).1 z⟩
     ·have z:=U.tups b xs q;rw[aJ (aF z nD)];exact z
     ·have z:=U.frzs b o xs q;rw[aJ (aF z nD)];exact z
     obtain⟨more,z⟩:=U.tbls b ps q;exact⟨more,by rw[aJ (aF z nD)];exact z⟩
    have hok:HOk X.prog X.w (upd H5 D (.lst acc)) h':=λb u q=>by
     by_cases hb:b=D
     ·subst hb;rw[aA] at q;cases q;exact⟨hz,its,k,va,keepC _ _ (na2 hC) dD⟩
     rw[aJ hb] at q;refine(I6.hok b u q).stay (λc v hcc z=>keepC c v ?_ z) (λc z=>by rw[aJ (aF z nD)];exact z) λc xs z=>by rw[aJ (aF z nD)];exact z
     rcases hcc with z1|z1
     ·subst z1;exact aF q nC
     exact aF z1 nC
    have I7:Inv X pins σ (upd H5 D (.lst acc)) { s6 with heap:=h' }:=I2.call' (s':={ s6 with heap:=h' }) (ch:=fp) I6.os U' hok I6.bare λb hb=>by
     obtain⟨_,a2,_,a4,a5,a6⟩:=f2 b hb;exact⟨a4,a2,a5,a6⟩
    exact I7
   have I7:Inv X pins σ (upd H5 D (.lst acc)) s6:=key s6.heap (B3.refl _ _);have lC:X.env.locals≠C:=na1 I2.lt hD hC;have cC:∀y c,X.env.cells.lookup y=GT c->c≠C:=λy c z=>by
    obtain⟨_,o,h1,_⟩:=I2.cell y c z;exact na1 (AY h1) hD hC
   show AG _ _ (EO (.Name x pos') X.env (.ref D)) _ _ s6;refine wpAny_assign_Name (vR (v:=.ref D) I7 hNd hn.hN hn.hv Z (λs7 I8 ⟨a,sa,ha⟩=>?_) hf);have aC:a≠C:=by
    rcases ha with rfl|ha
    ·exact lC
    exact cC _ _ ha
   obtain⟨o6,es6,ep6,g1,g2,g3,g4⟩:=hn6;refine⟨m6,⟨o6,es6,ep6,(sa.2 C (BC aC)).trans g1,g2,g3,g4⟩,λh' sb=>?_⟩;have q9:=qn D nD;rw[<- hQ] at q9;refine⟨_,_,I8.turned (it:=C) (t':=s7.toks) (λb o hb q=>(sb.2 b hb).trans q) ?_ (BC lC) (.inr (CF I2.sz (na3 hD hC))) cC (λp hp=>?_),q9⟩
   ·rw[aJ (BC (na2 hC))];exact nC
   obtain⟨h1,_⟩:=I2.pin p hp;exact na1 (AY h1) hD hC
  refine thn (T.item (aO X N scope cl C s2 H2 fp) Z Z Z hc i _ s5 τ H5 _ I5 (stat fr5 ζ) st5 go) λr s6 ⟨u,hr,h6⟩=>?_;subst hr;refine thn h6 λ_ s7 ⟨x,H7,I7,r7,y7,st7,fr7⟩=>?_;have I7':=I7.pinned (stat fr7 ζ) (T.obj _ _ st7);have no:∀{α:Type}{t:Sem α}{Q1 Q2:α->AA->Prop}{E:Ap->AA->Prop}{z:AA},AG (AJ X.prog X.w) X.A t Q1 (λ_ _=>False) z->(∀a z,Q1 a z->Q2 a z)->AG (AJ X.prog X.w) X.A t Q2 E z:=
   λq f=>Bz q f λ_ _ z=>z.elim
  refine no (hg cl C s2 H2 fp _ s7 τ H7 x u _ I7' r7 (step x H7 y7)) λ_ s8 ⟨τ1,H8,I8,q8⟩=>?_;refine no (ht cl C s2 H2 fp _ s8 τ1 H8 _ I8 q8) λok s9 ⟨H9,I9,q9⟩=>?_;have GW:∀{H':Hp}{z:AA}{its':List Ap}{k':Nat},Inv (aO X N scope cl C s2 H2 fp) ([(D,{ cls:=.type "list",data:=.seq (DU its') k' })]++dU fp s7.heap) τ1 H' z ->
    tn (i+1) z.heap/\(∀b∈fp,H' b=Is)/\Inv (aO X N scope cl C s2 H2 fp) [(D,{ cls:=.type "list",data:=.seq (DU its') k' })] τ1 H' z:=λ{H' z its' k'} Iz=>by
   have get:∀b∈fp,∀o,s7.heap.get? b=GT o->z.heap.get? b=GT o/\H' b=Is:=λb hb o q=>by
    obtain⟨a1,a2,_⟩:=Iz.pin (b,o) (AN _ (AN _ (f9 hb q)));exact⟨a1,a2⟩
   refine⟨T.keep _ _ _ st7 λb hb o q=>(get b hb o q).1,λb hb=>?_,Iz.iR⟩;obtain⟨o,q,_⟩:=T.obj _ _ st7 b hb;exact(get b hb o q).2
  cases ok with
  | false=>
   rw[if_neg AZ] at q9 |-;obtain⟨m',hm,w9⟩:=hN9 _ _ _ q9;obtain⟨a1,a2,a3⟩:=GW I9;exact⟨m',hm,i+1,acc,τ1,H9,its,k,a3,a1,a2,va,hz,w9⟩
  | true=>
   rw[if_pos rfl] at q9 |-;refine no (he cl C s2 H2 fp _ s9 τ1 H9 _ I9 q9) λy s10 ⟨v,H10,I10,rv,q10⟩=>?_;obtain⟨m',hm,w10⟩:=hN9 _ _ _ q10;obtain⟨a1,a2,a3⟩:=GW I10;obtain⟨dD,nD,_,_,_⟩:=a3.pin (D,_) (AN _ (AL.mpr Z));have hlen:=va.length;refine EA IJ ⟨_,dD,rfl⟩ IA (HZ _ _) (Jn D its.toArray k y (by rw[AX];omega)) ⟨dD,?_⟩;obtain⟨k',q⟩:∃k',(s10.heap.update D (Ch λa=>a.push y)).get? D=GT { cls:=.type "list",data:=.seq (its++[y]).toArray k' }:=by
    have q:=JU dD (λa=>a.push y);rw[show its.toArray.push y=(its++[y]).toArray by simp] at q;exact⟨_,q⟩
   have a4:Inv (aO X N scope cl C s2 H2 fp) (dU fp s7.heap) τ1 H10 s10:=I10.ig λp hp=>I10.pin p (AN _ (AN _ hp));have a5:Inv (aO X N scope cl C s2 H2 fp) (dU fp s7.heap) τ1 H10 { s10 with heap:=s10.heap.update D (Ch λa=>a.push y),toks:=s10.toks }:=
    a4.turned (it:=D) (λb o hb z=>(CH _ _ (BC hb)).trans z) nD (na2 hC) (.inr (na4 hD))
     (λx c z=>by
      obtain⟨_,o,h1,_⟩:=I2.cell x c (hsub x c z);exact na0 (AY h1) hD) λp hp=>by
      have hb:=(kj (by simpa [aO] using hp)).1;exact na0 (hold _ hb) hD
   obtain⟨b1,b2,b3⟩:=(show tn (i+1) (s10.heap.update D (Ch λa=>a.push y))/\(∀b∈fp,H10 b=Is)/\True from
    ⟨T.keep _ _ _ a1 λb hb o z=>(CH _ _ (na0 (hold b hb) hD).symm).trans z,a2,trivial⟩)
   refine⟨m',hm,i+1,acc++[v],τ1,H10,its++[y],k',a5.ig λp hp=>?_,b1,b2,va.append (.cons rv .nil),by rw[AV,BG];omega,w10⟩;have ep:=AL.mp hp;subst ep;exact⟨q,nD,na2 hC,hfr,λv z=>by cases z⟩
 have e1:{ newEnv scope C X.env.globals cl X.env.qual Is .none (GT X.env) X.env.builtins with scope:=relabel scope X.env }=EW scope cl C X.env:=rfl;exact KS (loop _ Z) (T.self _ 0 _ _ _ T0 (loop _ Z))
theorem yJ{tg iter elt:Expr}{ifs:List Expr}{pos pos' pos2:Pos}{wi:TI}{g:TG}{tc:TT}{te:TE}{i:Nat}{x:Str}(N:List Str)(mp:List (Option Nat))(hn:Nm X.N X.env.scope i x)(hNd:X.N.Nodup)(hNX:X.N=NX)(hkX:X.env.scope.names=kX)(S:oY NX kX N mp scope)(hc:X.calm=true)
  (hi:QI X tg iter wi)(hg:∀cl C s H fp,QG (aO X N scope cl C s H fp) tg g)(ht:∀cl C s H fp,QC (aO X N scope cl C s H fp) ifs tc)(he:∀cl C s H fp,QE (aO X N scope cl C s H fp) elt te)
  (hf:X.fn x=true\/X.env.scope.names.lookup x=GT .local:=by exact .inl Z)
  (hsw:FM [.Name x pos'] (.ListComp elt [⟨tg,iter,ifs,0⟩] scope pos) pos2.line X.env=pure true:=by rfl)
  (h1:(DZ [.Name x pos'] X.env).map (·.2)=[EO (.Name x pos') X.env]:=by rfl)
  (hs:∀x,B2 iter X.env x=pure x:=by intro _;rfl):QS X (.Assign [.Name x pos'] (.ListComp elt [⟨tg,iter,ifs,0⟩] scope pos) pos2) (xZ (Du mp wi g tc te) (lz i)):=
 ⟨Z0 N mp hn hNd hNX hkX S hc hi.h (λcl C s H fp=>(hg cl C s H fp).h) (λcl C s H fp=>(ht cl C s H fp).h) (λcl C s H fp=>(he cl C s H fp).h) hf hsw h1 hs⟩
end
section
variable {mp:List (Option Nat)}{g:TG}{te:TE}{σ:St}{H:Hp}{Q:VK}{R:It->Hp->Prop}{K:AD}{a:ID}{xs:List V}{ds:List A0}{ok:ID->Prop}
theorem take_snoc{α:Type}{l:List α}{i:Nat}{x:α}(h:l[i]?=GT x):l.take (i+1)=l.take i++[x]:=by
 rw[take_add_one,h];rfl
end
def cT(d:A0)(z:Str):Bool:=match d with
 | .str x=>decide (x=z)
 | _=>false
theorem mY{ok:ID->Prop}{H:Hp}{x:V}{d:A0}{z:Str}{Q:VK}(t:aH ok H x d)(q:Q (.bl (cT d z)) H):VD x (.str z) H Q:=by
 cases t with
 | non=>exact⟨rfl,q⟩
 | bl b=>exact⟨rfl,q⟩
 | int i=>exact⟨rfl,q⟩
 | str y=>exact⟨rfl,by rw[show decide (At y=At z)=decide (y=z) by simp];exact q⟩
 | lst o e z t=>show eqo _ _ _;rw[e];exact q
 | tup o e z t=>show eqo _ _ _;rw[e];exact q
def inD(w s:Int):A0->Bool
 | .int a=>inB w s a
 | _=>false
theorem Br{p c:ID}{H Hk:Hp}{B:Int}(s:bY p H Hk)(t:bQ Hk p B)(h:Hk c=Is):c≠p/\H c=Is:=by
 have n:=t.ne h;refine⟨n,?_⟩;cases e:H c with
 | none=>rfl
 | some o=>rw[s _ _ n e] at h;cases h
theorem Ra{p c:ID}{H H':Hp}{o:HO}(s:bY p H H')(h:H c=Is):bY p H (upd H' c o):=λb u n e=>by
 rw[aJ (aF e h)];exact s b u n e
theorem bQ.upd{H:Hp}{p c:ID}{B:Int}{o:HO}(t:bQ H p B)(n:c≠p):bQ (upd H c o) p B:=by
 obtain⟨a,b,c',e,r⟩:=t;exact⟨a,b,c',by rw[aJ (BC n)];exact e,r⟩
theorem Ys{α:Type}(l:List α)(x:α):atI (l++[x]) (-1)=GT x:=by
 unfold atI ixN;rw[if_neg δ,if_pos (by rw[AV,BG];omega)];show(l++[x])[_]?=GT x;rw[B8 (by rw[AV,BG];omega)];rw[show(-1+((l++[x]).length:Int)).toNat-l.length=0 by rw[AV,BG];omega];rfl
theorem jg.adC{k:Nat}{A:A5}(r:jg k A):A.units+200<FU:=by have:=r.un;omega
theorem rD{α:Type}(l:List α)(h:0<l.length):∃a b,l=a++[b]:=by
 induction l with
 | nil=>cases h
 | cons x r ih=>
  cases r with
  | nil=>exact⟨[],x,rfl⟩
  | cons y r=>
   obtain⟨a,b,e⟩:=ih ζ;exact⟨x::a,b,by rw[e];rfl⟩
theorem aaX{n:Nat}{i:Int}(h0:0<=i)(h:i<n):ixN n i=GT i.toNat:=by
 unfold ixN;rw[if_pos h0,if_pos h]
theorem bQ.newOk{H:Hp}{p:ID}{B:Int}(t:bQ H p B):gF (·≠p) H:=by
 obtain⟨a,b,c,e,_⟩:=t;exact Wv e
theorem SJ(t:ID)(items:Array Ap):Meets (AI.«enumerate.__new__» { pos:=[EQ "enumerate",Do t] }) λ_ R s=>
  s.heap.IsTuple t items/\R (.ok (.ret (.ref (s.heap.objs.size+1)))) { s with heap:=(s.heap.push { cls:=.type "tuple_iterator",data:=.fields #[.ref t,.int 0 0] }).push { cls:=.type "enumerate",data:=.fields #[.none,.bool false,.ref s.heap.objs.size,C0 0,.none,.none] } }:=by
 refine LF λprog w A R s h=>?_;obtain⟨ht,hR⟩:=h;unfold AI.«enumerate.__new__» AI.SmallTypes.newClass;refine An (An (Au (BD Z (An (Cs sub_enumerate (BD Z (Au (EH Z (An ?_)))))))));unfold AI.SmallTypes.calledThroughType;refine An (wpAny_stack_any λst=>Au ?_);have fin:AG (AJ prog w) A.in1 (do
   let it <- IH (Do t)
   let r <- AI.SmallTypes.newRecord (EQ "enumerate") (AI.SmallTypes.ownedTupleFields++[it,C0 0,Ap.none,Ap.none])
   ret r) (λfin s'=>∃v,fin=Fin.done (Flow.ret v)/\R (Except.ok (Flow.ret v)) s') (λe s'=>R (Except.error e) s') s:=by
  refine An (FH ht ?_);show AG _ _ (newObj (.type "enumerate") (.fields #[.none,.bool false,.ref s.heap.objs.size,C0 0,.none,.none]) >>= λr=>ret r) _ _ _;refine An (Be ?_);refine Au ⟨_,rfl,?_⟩;have e:(s.heap.push { cls:=EQ "tuple_iterator",data:=Co #[Do t,DO 0 0] }).objs.size=s.heap.objs.size+1:=Ct ..;rw[e];exact hR
 dsimp only;split
 ·split
  ·exact An (Au fin)
  exact An (Au fin)
 split
 ·exact An (Au fin)
 exact An (Au fin)
theorem dJ{prog:AR}{w:A9}{A:A5}{E:Ap->AA->Prop}{s:AA}{it t:ID}{i:Nat}{items:Array Ap}{x:Ap}{Q:Ap->AA->Prop}(hit:s.heap.IsTupleIter it t i)(ht:s.heap.IsTuple t items)(hx:items[i]?=GT x)
  (hQ:∀h',h'.IsTupleIter it t (i+1)->B3 it s.heap h'->Q x { s with heap:=h' }):AG (AJ prog w) A (AI.SmallTypes.nextOf (Do it)) Q E s:=by
 obtain⟨o,ho,hc,hd⟩:=id hit;obtain⟨ol,hol,hcl,nl,hdl⟩:=ht;unfold AI.SmallTypes.nextOf;refine An (BM hit.typeIs F5 (BQ F5 hit.typeIs F.entry_tuple_iterator_next ?_ (F.args_tuple_iterator_next_1 _)));refine An (Au (An (BO ho hd (i:=0) Z ?_)));refine BD Z (An (BO ho hd (i:=1) Z ?_));refine An (B4 hol hdl ?_);show AG _ _ (match items[(i:Int).toNat]? with
  | some x=>(do Fh (.ref it) 1 (C0 ((i:Int)+1));ret x)
  | none=>_) _ _ _
 rw[Fs,hx];refine An (wpAny_setField ho hd (C8 1) (Au ⟨x,rfl,Au (hQ _ ?_ ?_)⟩))
 ·refine⟨_,HK _ ho (Obj.isFreed_of_fields (Obj.data_mapFields hd _)),(Obj.cls_mapFields o _).trans hc,?_⟩;rw[Obj.data_mapFields hd];rfl
 exact B3.update s.heap it _
theorem gB{prog:AR}{w:A9}{A:A5}{E:Ap->AA->Prop}{s:AA}{it t:ID}{i:Nat}{items:Array Ap}{Q:Ap->AA->Prop}(hh:A.handled=Is)(hit:s.heap.IsTupleIter it t i)(ht:s.heap.IsTuple t items)(hx:items[i]?=Is)
  (hE:∀h' e,Heap.ExtBut it s.heap h'->(∃o,h'.get? e=GT o/\o.cls=EQ "StopIteration")->E (.ref e) { s with heap:=h' }):AG (AJ prog w) A (AI.SmallTypes.nextOf (Do it)) Q E s:=by
 obtain⟨o,ho,hc,hd⟩:=id hit;obtain⟨ol,hol,hcl,nl,hdl⟩:=ht;unfold AI.SmallTypes.nextOf;refine An (BM hit.typeIs F5 (BQ F5 hit.typeIs F.entry_tuple_iterator_next ?_ (F.args_tuple_iterator_next_1 _)));refine An (Au (An (BO ho hd (i:=0) Z ?_)));refine BD Z (An (BO ho hd (i:=1) Z ?_));refine An (B4 hol hdl ?_);show AG _ _ (match items[(i:Int).toNat]? with
  | some x=>_
  | none=>(do rule (toString "tuple_iterator.__next__" ++ toString ".end");Fh (.ref it) 0 .none;AI.SmallTypes.stopIteration)) _ _ _
 rw[Fs,hx];refine An (CY (An (wpAny_setField ho hd (ET 1) ?_)));unfold AI.SmallTypes.stopIteration newExc;refine An (An (Be ?_));refine An (Cs (a:=.none) Z ?_);refine Be ?_;refine wpAny_raiseNew_none hh (hE _ _ ?_ ?_)
 ·exact λb ob hb e=>AB _ (AB _ ((CH _ _ (BC hb)).trans e))
 exact⟨_,AO _ rfl,rfl⟩
theorem xX{prog:AR}{w:A9}{A:A5}(hh:A.handled=Is)(it t:ID)(hne:t≠it)(items:Array Ap):Draws prog w A it [it,t] items.size (λi v=>items[i]?=GT v) λi h=>h.IsTupleIter it t i/\h.IsTuple t items where
 live:=λ_ _ st=>by
  obtain⟨⟨o,ho,_⟩,_⟩:=st;exact⟨o,ho⟩
 frame:=λ_ _ _ st hk=>by
  obtain⟨h1,⟨o,e,r⟩⟩:=st;exact⟨h1.at λo e=>hk it ζ o e,o,hk t ζ o e,r⟩
 item:=λi s Q E hi st hQ=>by
  have e:items[i]?=GT items[i]:=by simp[hi]
  refine dJ st.1 st.2 e λh' h1 sb=>hQ _ _ s.toks e ⟨h1,?_⟩ sb;obtain⟨o,g,r⟩:=st.2;exact⟨o,(sb.2 t hne).trans g,r⟩
 done:=λs Q E st hE=>gB hh st.1 st.2 ζ hE
def Iet(K:AD)(a:ID):It:=
 ⟨λi H=>∃xs x,SqT K H a xs/\xs[i]?=GT x,
  λi H v H'=>∃p x,v=.ref p/\H p=Is/\H'=upd H p (.tup [.int (i:Nat),x])/\∀xs,SqT K H a xs->xs[i]?=GT x,
  λi H=>∃xs,SqT K H a xs/\xs.length=i⟩
theorem Kr{P:AR}{w:A9}{K:AD}{es:List Expr}{kk:Nat}{tpos:Pos}{e it l:ID}(hne:e≠it) :
  Turn P w K (.Tuple es kk tpos) (Iet K l) [e,it] e (λi h=>(∃old,IsEnum h e it ((i:Nat):Int) old)/\h.IsTupleIter it l i) where
 mem:=by simp
 obj:=λi h st b hb=>by
  obtain⟨⟨old,he⟩,⟨o1,e1,c1,d1⟩⟩:=st;simp only[A1,BA,or_false] at hb;rcases hb with rfl|rfl
  ·exact⟨_,he,λv q=>by cases q⟩
  exact⟨o1,e1,λv q=>by rw[d1] at q;cases q⟩
 keep:=λi h h' st k=>by
  obtain⟨⟨old,he⟩,h1⟩:=st;exact⟨⟨old,k e ζ _ he⟩,h1.at λo q=>k it ζ o q⟩
 item:=by
  intro X hP hw hK hc i pins s σ H E I hf st hg;subst hP hw hK;obtain⟨xs,x,q1,hx⟩:=hg;obtain⟨its1,rv1,p1,hz1⟩:=I.tuple q1;obtain⟨u1,hu1,ru1⟩:=rv1.get hx;obtain⟨⟨old,he⟩,h1⟩:=st;have hel:e≠l:=λz=>by
   obtain⟨ol,g1,g2,_⟩:=p1;rw[<- z,he] at g1;cases g1;injection g2 with g2;exact absurd g2 δ
  have hil:l≠it:=λz=>by
   obtain⟨ol,g1,g2,_⟩:=p1;obtain⟨oi,g3,g4,_⟩:=h1;rw[z,g3] at g1;cases g1;rw[g4] at g2;injection g2 with g2;exact absurd g2 δ
  have hsz1:i<its1.toArray.size:=by
   obtain⟨z,_⟩:=AM.mp hu1;simpa using z
  refine wpAny_pyNext_enum_itemD (xX (A:=X.A.in1) (I.ok.hd hc) it l hil its1.toArray) he ⟨h1,p1⟩ hsz1 hne (by simp[hne,hel]) λx1 h' tk hP a1 a2 a3 a4 hk=>?_;have ex:x1=u1:=by
   have hP':its1[i]?=GT x1:=by simpa using hP
   rw[hu1] at hP';exact(BI hP').symm
  subst ex;obtain⟨a2,_⟩:=a2;have new:cD X.prog X.w (upd H s.heap.objs.size (.tup [.int (i:Nat),x])) h' s.heap.objs.size (.tup [.int (i:Nat),x]):=⟨by show 2<=AK;decide,[.int (i:Nat) tk,x1],.cons ⟨_,rfl⟩ (.cons ru1 .nil),_,a3,rfl,_,rfl⟩;have I1:Inv X pins σ (upd H s.heap.objs.size (.tup [.int (i:Nat),x])) { s with heap:=h',toks:=tk+1 }:=I.N8 (ch:=[e,it]) hf
   (λb o hb q=>hk b o (λz=>hb (by simp[z])) (λz=>hb (by simp[z])) q) (AU _) new
  have hsz:∀b,b∈[e,it]->b≠s.heap.objs.size:=λb hb=>by
   have lt:∃o,s.heap.get? b=GT o:=by
    simp only[A1,BA,or_false] at hb;rcases hb with rfl|rfl
    ·exact⟨_,he⟩
    obtain⟨o,q,_⟩:=h1;exact⟨o,q⟩
   obtain⟨o,q⟩:=lt;exact B5 (AY q)
  refine⟨_,rfl,wpAny_letOwnedTupleGo_enum (s:={ s with heap:=h',toks:=tk+1 }) a1 λh'' z2 sb=>?_⟩;have fz:=hf e ζ;have I2:Inv X pins σ (upd H s.heap.objs.size (.tup [.int (i:Nat),x])) { s with heap:=h'',toks:=tk+1 }:=Inv.turned (s:={ s with heap:=h',toks:=tk+1 }) (it:=e) I1 (λb o hb q=>(sb.2 b hb).trans q) (by rw[aJ (hsz e ζ)];exact fz.1) fz.2.1 fz.2.2.2.1 fz.2.2.2.2.1 fz.2.2.2.2.2;refine⟨.ref s.heap.objs.size,_,I2,rfl,⟨_,x,rfl,I.fresh,rfl,λxs' q=>by rw[I.qT q q1];exact hx⟩,
   ⟨⟨_,by simpa using z2⟩,a2.extBut sb.extBut hne.symm⟩,λb hb=>by rw[aJ (hsz b hb)];exact(hf b hb).1⟩
 done:=by
  intro X hP hw hK hc i pins s σ H E I hf st hg;subst hP hw hK;obtain⟨xs,q1,hx⟩:=hg;obtain⟨its1,rv1,p1,hz1⟩:=I.tuple q1;obtain⟨⟨old,he⟩,h1⟩:=st;have hil:l≠it:=λz=>by
   obtain⟨ol,g1,g2,_⟩:=p1;obtain⟨oi,g3,g4,_⟩:=h1;rw[z,g3] at g1;cases g1;rw[g4] at g2;injection g2 with g2;exact absurd g2 δ
  have hl1:=rv1.length;have hsi:its1.toArray.size=i:=by rw[AX];omega
  refine wpAny_pyNext_enum_endD (xX (A:=X.A.in1) (I.ok.hd hc) it l hil its1.toArray) he (by rw[hsi];exact⟨h1,p1⟩) λh' hk=>⟨rfl,?_⟩;exact I.Oa (t':=s.toks) (ch:=[e,it]) hf (λb o hb q=>hk b o (λz=>hb (by simp[z])) q)
 self:=λ_ _ _ _ _ st h=>by
  obtain⟨⟨old,he⟩,_⟩:=st;exact JA he h
def ieq(K:AD)(ob:Option HO)(a:ID)(H:Hp)(R:It->Hp->Prop):Prop:=match ob with
 | some (.lst _)=>R (Ite K a) H
 | some (.tup _)=>R (Iet K a) H
 | _=>False
def ieK(K:AD)(vs:List V)(H:Hp)(R:It->Hp->Prop):Prop:=match vs with
 | [.ref a]=>ieq K (H a) a H R
 | _=>False
def Mx(K:AD)(ta:TA):TI:=λσ H R=>ta σ H λvs H1=>ieK K vs H1 R
theorem Sg(K:AD)(ta:TA)(σ:St)(H:Hp)(R:It->Hp->Prop):Mx K ta σ H R=ta σ H λvs H1=>ieK K vs H1 R:=rfl
theorem aa2(K:AD)(a:ID)(H:Hp)(R:It->Hp->Prop):ieK K [.ref a] H R=ieq K (H a) a H R:=rfl
theorem aa1(K:AD)(xs:List V)(a:ID)(H:Hp)(R:It->Hp->Prop):ieq K (GT (.lst xs)) a H R=R (Ite K a) H:=rfl
section
variable {X:Cx}
theorem V5{es:List Expr}{kk:Nat}{tpos:Pos}{a:Expr}{ta:TA}{p pos:Pos}(hg:Gl X "enumerate")(hm:X.mg "enumerate" = Is)(ha:PA X [a] ta)(hs:AH [a] X.env=[(false,eval a X.env)]:=by rfl) :
  PI X (.Tuple es kk tpos) (.Call (.Name "enumerate" p) [a] [] pos) (Mx X.K ta):=by
 intro pins s σ H R I h;refine LA (dW I hg hm PyProof.Rows.Boot.«enumerate» (A3 (thA (ha pos pins s σ H _ I h) λus s1 vs H1 I1 r1 q1=>?_) hs Z));replace q1:ieK X.K vs H1 R:=q1;unfold ieK at q1;split at q1
 ·rename_i l1;cases r1 with
  | cons r rr=>
   cases rr;cases r;unfold ieq at q1;split at q1
   ·rename_i xs e;obtain⟨its1,rv1,p1,hz1⟩:=I1.list (SqL.of e);refine call_enumerate_list p1.isList λh' b1 b2 b3 hk=>?_;refine JA (s:={ s1 with heap:=h' }) b1 ?_;have I2:Inv X pins σ H1 { s1 with heap:=h' }:=I1.kept (t':=s1.toks) hk;refine⟨_,_,_,_,H1,rfl,I2,QF (ne_of_gt (C8 _)),⟨⟨_,b1⟩,b2⟩,λb hb=>?_,q1⟩;have hle:s1.heap.objs.size<=b:=by
     simp only[A1,BA,or_false] at hb;rcases hb with rfl|rfl <;> simp
    exact I1.Dg hle (I1.hok.fresh hle)
   ·rename_i xs e;obtain⟨its1,rv1,p1,hz1⟩:=I1.tuple (SqT.of e);refine callType_new F.called_enumerate δ (F.typeCall_enumerate_1 _) (F.newCall_enumerate_1 _) (λobj=>F.args_object_init_2 obj _) F.entry_enumerate_new (SJ l1 its1.toArray) ⟨p1,?_⟩;have hz:(s1.heap.push { cls:=EQ "tuple_iterator",data:=Co #[Do l1,DO 0 0] }).objs.size=s1.heap.objs.size+1:=Ct ..;have b1:((s1.heap.push { cls:=EQ "tuple_iterator",data:=Co #[Do l1,DO 0 0] }).push { cls:=EQ "enumerate",data:=Co #[Ap.none,GE false,Do s1.heap.objs.size,C0 0,Ap.none,Ap.none] }).get? (s1.heap.objs.size+1)=GT { cls:=EQ "enumerate",data:=Co #[Ap.none,GE false,Do s1.heap.objs.size,C0 0,Ap.none,Ap.none] }:=by
     rw[<- hz];exact AO _ rfl
    have b2:((s1.heap.push { cls:=EQ "tuple_iterator",data:=Co #[Do l1,DO 0 0] }).push { cls:=EQ "enumerate",data:=Co #[Ap.none,GE false,Do s1.heap.objs.size,C0 0,Ap.none,Ap.none] }).IsTupleIter s1.heap.objs.size l1 0:=
     ⟨_,AB _ (AO _ Z),rfl,rfl⟩
    have hk:∀b o,s1.heap.get? b=GT o->((s1.heap.push { cls:=EQ "tuple_iterator",data:=Co #[Do l1,DO 0 0] }).push { cls:=EQ "enumerate",data:=Co #[Ap.none,GE false,Do s1.heap.objs.size,C0 0,Ap.none,Ap.none] }).get? b=GT o:=λb o z=>AB _ (AB _ z);refine⟨⟨_,b1,rfl⟩,?_⟩;generalize (s1.heap.push { cls:=EQ "tuple_iterator",data:=Co #[Do l1,DO 0 0] }).push { cls:=EQ "enumerate",data:=Co #[Ap.none,GE false,Do s1.heap.objs.size,C0 0,Ap.none,Ap.none] }=h' at b1 b2 hk;refine JA (s:={ s1 with heap:=h' }) b1 ?_;have I2:Inv X pins σ H1 { s1 with heap:=h' }:=I1.kept (t':=s1.toks) hk;refine⟨_,_,_,_,H1,rfl,I2,Kr (ne_of_gt (C8 _)),⟨⟨_,b1⟩,b2⟩,λb hb=>?_,q1⟩;have hle:s1.heap.objs.size<=b:=by
     simp only[A1,BA,or_false] at hb;rcases hb with rfl|rfl <;> simp
    exact I1.Dg hle (I1.hok.fresh hle)
   exact q1.elim
 exact q1.elim
theorem VN{es:List Expr}{kk:Nat}{tpos:Pos}{a:Expr}{ta:TA}{p pos:Pos}(hg:Gl X "enumerate")(hm:X.mg "enumerate" = Is)(ha:QA X [a] ta)(hs:AH [a] X.env=[(false,eval a X.env)]:=by rfl) :
  QI X (.Tuple es kk tpos) (.Call (.Name "enumerate" p) [a] [] pos) (Mx X.K ta):=⟨V5 hg hm ha.h hs⟩
end
theorem XF{J:It}{g:TG}{tb:TS}{D:Ends}{σ:St}{H:Hp}{R:It->Hp->Prop}(hR:R=(λJ H1=>∃W:Nat->Nat->St->Hp->Prop,(∃m,W 0 m σ H1)/\∀i m σ H,W i m σ H ->
  (J.stop i H/\D.nx σ H)\/(J.go i H/\∃N:St->Hp->Prop,(∀σ' H',N σ' H'->∃m',m'<m/\W (i+1) m' σ' H')/\∀x H',J.yld i H x H'->g x σ H' λσ2 H2=>tb { D with nx:=N,ct:=N,bk:=D.nx } σ2 H2)))
  (n:Nat)(Pv:Nat->St->Hp->Prop)(h0:Pv 0 σ H)(hgo:∀i σ H,i<n->Pv i σ H->J.go i H)(hst:∀σ H,Pv n σ H->J.stop n H)
  (hs:∀i σ H x H3,i<n->Pv i σ H->J.yld i H x H3->g x σ H3 λσ2 H2=>tb { D with nx:=Pv (i+1),ct:=Pv (i+1),bk:=D.nx } σ2 H2)(hd:∀σ H,Pv n σ H->D.nx σ H):R J H:=by
 subst hR;refine⟨λi m σ H2=>m=n-i/\i<=n/\Pv i σ H2,⟨_,rfl,DJ _,h0⟩,?_⟩;rintro i m σ H2 ⟨rfl,hi,p⟩;by_cases hlt:i<n
 ·exact .inr ⟨hgo i σ H2 hlt p,Pv (i+1),λσ' H' q=>⟨_,ω,rfl,hlt,q⟩,λx H3 y=>hs i σ H2 x H3 hlt p y⟩
 have e:i=n:=ω;subst e;exact .inl ⟨hst σ H2 p,hd σ H2 p⟩
section
variable {X:Cx}{e o:Expr}{te to:TE}{pos:Pos}
def exq(ob oc:Option HO)(l:ID)(H:Hp)(Q:VK):Prop:=match ob,oc with
 | some (.lst xs),GT (.lst zs)=>xs.length+zs.length<=AK/\Q .non (upd H l (.lst (xs++zs)))
 | _,_=>False
def XR(l:ID)(y:V)(H:Hp)(Q:VK):Prop:=match y with
 | .ref b=>exq (H l) (H b) l H Q
 | _=>False
def exK(x:V)(te:TE)(σ:St)(H1:Hp)(Q:VK):Prop:=match x with
 | .ref l=>isq (H1 l)/\te σ H1 λy H2=>XR l y H2 Q
 | _=>False
def Uv(to te:TE):TE:=λσ H Q=>to σ H λx H1=>exK x te σ H1 Q
theorem yW(to te:TE)(σ:St)(H:Hp)(Q:VK):Uv to te σ H Q=to σ H λx H1=>exK x te σ H1 Q:=rfl
theorem G6(l:ID)(te:TE)(σ:St)(H1:Hp)(Q:VK):exK (.ref l) te σ H1 Q=(isq (H1 l)/\te σ H1 λy H2=>XR l y H2 Q):=rfl
theorem Bs(l b:ID)(H:Hp)(Q:VK):XR l (.ref b) H Q=exq (H l) (H b) l H Q:=rfl
theorem M9(xs zs:List V)(l:ID)(H:Hp)(Q:VK):exq (GT (.lst xs)) (GT (.lst zs)) l H Q=(xs.length+zs.length<=AK/\Q .non (upd H l (.lst (xs++zs)))):=rfl
theorem aao{apos cpos:Pos}(ho:PE X o to)(he:PE X e te)
  (hbase:DM o "extend" X.env (eval o X.env)=eval o X.env:=by rfl)
   (hfew:((CS cpos (AH [e] X.env)).all (λx=>!x.1)&&(Hb cpos (Ff [] X.env)).all (λx=>x.1.isSome)
   && decide ([e].length+([]:List EJ).length+(if ([]:List EJ).isEmpty then 0 else 1)<30))=true:=by rfl)
  (hline:(apos.endLine == cpos.line)=true:=by rfl) (hs:AH [e] X.env=(false,eval e X.env)::AH [] X.env:=by rfl) (hplain:(CS cpos (AH [] X.env)).any (·.1)=false:=by rfl) :
  PE X (.Call (.Attribute o "extend" apos) [e] [] cpos) (Uv to te):=by
 intro pins s σ H Q I h;refine ES hbase hfew hline Z (thE (ho pins s σ H _ I h) λv s1 x H1 I1 r1 q=>?_);cases x with
 | ref l=>
  obtain⟨q1,q2⟩:=q;cases el:H1 l with
  | none=>rw[el] at q1;exact q1.elim
  | some ob=>
   cases ob with
   | lst xs=>
    obtain⟨h1,h2⟩:=pK (T := "list") I1 r1 (.inl ⟨rfl,xs,SqL.of el⟩);refine⟨"list","list.extend",D0,PySem.F.slot_list_extend,PySem.F.type_list_extend,h1,h2,?_⟩;rw[hs];refine DC (by show(false||(CS cpos (AH [] X.env)).any (·.1))=false;rw[hplain] <;> rfl) (EG ?_)
    refine B9 (thE (he pins s1 σ H1 _ I1 q2) λu s2 y H2 I2 r2 q3=>B6 ?_);replace q3:XR l y H2 Q:=q3;unfold XR at q3;split at q3
    ·rename_i b;unfold exq at q3;split at q3
     ·rename_i ys zs e1 e2;exact RT pins s2 σ H2 (.ref l) [.ref b] v [u] Q I2 r1 (.cons r2 .nil) ⟨l,b,ys,zs,rfl,rfl,e1,e2,q3.1,q3.2⟩
     exact q3.elim
    exact q3.elim
   | _=>rw[el] at q1;exact q1.elim
 | _=>exact q.elim
theorem Gi{apos cpos:Pos}(ho:QE X o to)(he:QE X e te)
  (hbase:DM o "extend" X.env (eval o X.env)=eval o X.env:=by rfl)
   (hfew:((CS cpos (AH [e] X.env)).all (λx=>!x.1)&&(Hb cpos (Ff [] X.env)).all (λx=>x.1.isSome)
   && decide ([e].length+([]:List EJ).length+(if ([]:List EJ).isEmpty then 0 else 1)<30))=true:=by rfl)
  (hline:(apos.endLine == cpos.line)=true:=by rfl) (hs:AH [e] X.env=(false,eval e X.env)::AH [] X.env:=by rfl) (hplain:(CS cpos (AH [] X.env)).any (·.1)=false:=by rfl) :
  QE X (.Call (.Attribute o "extend" apos) [e] [] cpos) (Uv to te):=⟨aao ho.h he.h hbase hfew hline hs hplain⟩
end
mutual
def szD(a:Nat):A0->Prop
 | .none=>True
 | .bool _=>True
 | .int i=>i.natAbs<=10^20*2^a
 | .str x=>x.length<=30+a/\∀c∈x.cps.toList,c<16^8
 | .list ds=>ds.length<=210*5^a/\Uz a ds
 | .tuple ds=>ds.length<=210*5^a/\Uz a ds
 | .dict _=>False
def Uz(a:Nat):List A0->Prop
 | []=>True
 | d::ds=>szD a d/\Uz a ds
end
theorem qJ{k:Nat}:∀{ds:List A0},(∀d∈ds,d.depth<=k)->A0.depthAll ds<=k
 | [],_=>DJ _
 | x::ds,h=>by
  rw[A0.depthAll.eq_2];have h1:=h x A7;have h2:=qJ λd hd=>h d (BE _ hd);omega
def ctq(a b:Option HO)(pa:ID)(H:Hp)(Q:VK):Prop:=match a,b with
 | some (.tup xs),GT (.tup ys)=>xs≠[]/\xs.length+ys.length<=AK/\(ys=[]->Q (.ref pa) H)/\(ys≠[]->∀p,H p=Is->Q (.ref p) (upd H p (.tup (xs++ys))))
 | _,_=>False
def VF:R2:=λx y H Q=>match x,y with
 | .ref p,.ref q=>ctq (H p) (H q) p H Q
 | _,_=>False
theorem Zu(p q:ID)(H:Hp)(Q:VK):VF (.ref p) (.ref q) H Q=ctq (H p) (H q) p H Q:=rfl
theorem ado(xs ys:List V)(pa:ID)(H:Hp)(Q:VK):ctq (GT (.tup xs)) (GT (.tup ys)) pa H Q=(xs≠[]/\xs.length+ys.length<=AK/\(ys=[]->Q (.ref pa) H)/\(ys≠[]->∀p,H p=Is->Q (.ref p) (upd H p (.tup (xs++ys))))):=rfl
theorem aaA{X:Cx}:OpR X (E7 .Add) VF:=by
 intro pins s σ H x y v u Q I rx ry h;unfold VF at h;split at h
 ·rename_i p q;unfold ctq at h;split at h
  ·rename_i xs ys e1 e2;exact aaz pins s σ H _ _ v u Q I rx ry ⟨p,q,xs,ys,rfl,rfl,SqT.of e1,SqT.of e2,h.1,h.2.1,h.2.2.1,h.2.2.2⟩
  exact h.elim
 exact h.elim
theorem qY{H H':Hp}{l:ID}{o:HO}(s:Same H H')(h:H l=Is):Same H (upd H' l o):=λb u e=>by
 rw[aJ (aF e h)];exact s b u e
theorem gF.new{ok:ID->Prop}{H:Hp}(n:gF ok H){q:ID}(h:H q=Is):ok q:=n H q (Same.refl _) h
theorem aaU{α:Type}(xs:List α)(h:1<=xs.length):∃(i:Nat)(x:α),xs[i]?=GT x/\atI xs (-1)=GT x:=by
 have h1:xs.length-1<xs.length:=ω;refine⟨xs.length-1,xs[xs.length-1],AF h1,?_⟩;unfold atI ixN;rw[if_neg δ,if_pos ω];show xs[_]?=_;rw[show(-1+(xs.length:Int)).toNat=xs.length-1 by omega];exact AF h1
section
variable {X:Cx}{a:Expr}{ta:TE}
def trq(ob:Option HO)(H:Hp)(Q:Bool->Hp->Prop):Prop:=match ob with
 | some (.lst xs)=>Q (!xs.isEmpty) H
 | some (.tup xs)=>Q (!xs.isEmpty) H
 | _=>False
def QJ(x:V)(H:Hp)(Q:Bool->Hp->Prop):Prop:=match x with
 | .ref p=>trq (H p) H Q
 | .bl b=>Q b H
 | .int i=>Q (i != 0) H
 | .non=>Q false H
 | _=>False
def abO(te:TE):TT:=λσ H Q=>te σ H λx H1=>QJ x H1 Q
theorem Y5(te:TE)(σ:St)(H:Hp)(Q:Bool->Hp->Prop):abO te σ H Q=te σ H λx H1=>QJ x H1 Q:=rfl
theorem Ud(p:ID)(H:Hp)(Q:Bool->Hp->Prop):QJ (.ref p) H Q=trq (H p) H Q:=rfl
theorem Ug(i:Int)(H:Hp)(Q:Bool->Hp->Prop):QJ (.int i) H Q=Q (i != 0) H:=rfl
theorem YW(b:Bool)(H:Hp)(Q:Bool->Hp->Prop):QJ (.bl b) H Q=Q b H:=rfl
theorem Ue(H:Hp)(Q:Bool->Hp->Prop):QJ .non H Q=Q false H:=rfl
theorem YZ(xs:List V)(H:Hp)(Q:Bool->Hp->Prop):trq (GT (.lst xs)) H Q=Q (!xs.isEmpty) H:=rfl
theorem YX(xs:List V)(H:Hp)(Q:Bool->Hp->Prop):trq (GT (.tup xs)) H Q=Q (!xs.isEmpty) H:=rfl
theorem aci(ha:PE X a ta)(he:∀whole,KI a X.env whole=(do let v <- whole;FS a.pos;EN [v] (truthy v))):PT X a (abO ta):=by
 intro pins s σ H Q I h;refine isTrue_plain (thE (ha pins s σ H _ I h) λv s1 x H1 I1 r1 q1=>abN pins s1 σ H1 x v Q I1 r1 ?_) (he _);cases x with
 | ref p=>
  replace q1:trq (H1 p) H1 Q:=q1;unfold trq at q1;split at q1
  ·rename_i xs e;exact⟨_,.inl ⟨xs,SqL.of e,rfl⟩,q1⟩
  ·rename_i xs e;exact⟨_,.inr (.inl ⟨xs,SqT.of e,rfl⟩),q1⟩
  exact q1.elim
 | bl b=>exact⟨_,rfl,q1⟩
 | int i=>exact⟨_,rfl,q1⟩
 | non=>exact⟨_,rfl,q1⟩
 | _=>exact(show False from q1).elim
theorem VG(h:QE X a ta)(he:∀whole,KI a X.env whole=(do let v <- whole;FS a.pos;EN [v] (truthy v)):=by intro _;rfl):QT X a (abO ta):=⟨aci h.h he⟩
def aeE:R2:=λx y H Q=>∃p q xs,x=.ref p/\y=.ref q/\H p=GT (.lst xs)/\H q=GT (.lst [])/\Q (.bl (!xs.isEmpty)) H
theorem Wj(hu:X.A.units<FU):OpR X (CU .NotEq) aeE:=by
 intro pins s σ H x y v u Q I rx ry h;obtain⟨p,q,xs,rfl,rfl,e1,e2,qq⟩:=h;cases rx;cases ry;obtain⟨its1,r1,pl1,hz1⟩:=I.list (SqL.of e1);obtain⟨its2,r2,pl2,hz2⟩:=I.list (SqL.of e2);cases r2;cases xs with
 | nil=>
  cases r1;exact SeqAt.RcNeAt.lists (e:=λ_=>true) pl1.isList pl2.isList Z hu (λj h1 h2=>absurd h2 (Nat.not_lt_zero _)) X.prog X.w X.xe (EP X pins σ Q) ⟨.bl false,H,I,rfl,qq⟩
 | cons a b=>
  cases r1;exact SeqAt.RcNeAt.lists_lengths pl1.isList pl2.isList ζ hu X.prog X.w X.xe (EP X pins σ Q) ⟨.bl true,H,I,rfl,qq⟩
end
theorem ael{K:AD}{a b:ID}{xs ys:List V}{g:TG}{tb:TS}{D:Ends}{σ:St}{H:Hp}{R:It->Hp->Prop}(hR:R=(λJ H1=>∃W:Nat->Nat->St->Hp->Prop,(∃m,W 0 m σ H1)/\∀i m σ H,W i m σ H ->
  (J.stop i H/\D.nx σ H)\/(J.go i H/\∃N:St->Hp->Prop,(∀σ' H',N σ' H'->∃m',m'<m/\W (i+1) m' σ' H')/\∀x H',J.yld i H x H'->g x σ H' λσ2 H2=>tb { D with nx:=N,ct:=N,bk:=D.nx } σ2 H2)))
  (hyx:ys.length<=xs.length)(Pv:Nat->St->Hp->Prop)(h0:Pv 0 σ H)(hl:∀i σ H,Pv i σ H->H a=GT (.lst xs)/\H b=GT (.lst ys))
  (hs:∀i x y σ H p,xs[i]?=GT x->ys[i]?=GT y->Pv i σ H->H p=Is->g (.ref p) σ (upd H p (.tup [x,y])) λσ2 H2=>tb { D with nx:=Pv (i+1),ct:=Pv (i+1),bk:=D.nx } σ2 H2)(hd:∀σ H,Pv ys.length σ H->D.nx σ H):R (Itz K a b) H:=by
 refine XF hR ys.length Pv h0 (λi σ H hi p=>?_) (λσ H p=>?_) (λi σ H x H3 hi p y=>?_) hd
 ·obtain⟨e1,e2⟩:=hl i σ H p;exact⟨xs,ys,_,_,SqL.of e1,SqL.of e2,AF ω,AF hi⟩
 ·obtain⟨e1,e2⟩:=hl _ σ H p;exact⟨xs,ys,SqL.of e1,SqL.of e2,.inr (Dx (AU _))⟩
 obtain⟨e1,e2⟩:=hl i σ H p;obtain⟨q,x1,y1,rfl,hq,rfl,hx,hy⟩:=y;exact hs i x1 y1 σ H q (hx _ (SqL.of e1)) (hy _ (SqL.of e2)) p hq
def stD(s:Int×Int×Int):A0:=.tuple [.int s.1,.int s.2.1,.int s.2.2]
theorem aH.st{ok:ID->Prop}{H:Hp}{x:V}{s:Int×Int×Int}(t:aH ok H x (stD s)):∃a,x=.ref a/\ok a/\H a=GT (.tup [.int s.1,.int s.2.1,.int s.2.2]):=by
 cases t with
 | tup o e z ts=>
  rename_i p xs;refine⟨p,rfl,o,?_⟩;cases ts with
  | cons t1 ts=>
   cases t1;cases ts with
   | cons t2 ts=>
    cases t2;cases ts with
    | cons t3 ts=>
     cases t3;cases ts;exact e
theorem aG.st{ok:ID->Prop}{H:Hp}{xs:List V}{ss:List (Int×Int×Int)}{i:Nat}{x:V}(t:aG ok H xs (ss.map stD))(h:xs[i]?=GT x):∃a s,x=.ref a/\ok a/\ss[i]?=GT s/\H a=GT (.tup [.int s.1,.int s.2.1,.int s.2.2]):=by
 obtain⟨d,hd,td⟩:=t.get h;rw[AQ] at hd;cases hs:ss[i]? with
 | none=>rw[hs] at hd;cases hd
 | some s=>
  rw[hs] at hd;cases hd;obtain⟨a,h1,h2,h3⟩:=td.st;exact⟨a,s,h1,h2,rfl,h3⟩
theorem mK{is:List Int}{r:Int}(h0:0<=r)(h:r<is.length):∃i,i∈is/\atI (is.map As) r=GT (.int i):=by
 have h1:r.toNat<is.length:=ω;refine⟨is[r.toNat],FG h1,?_⟩;unfold atI;rw[aaX h0 (by rw[AE];omega)];show(is.map As)[r.toNat]?=_;rw[AQ,AF h1];rfl
structure rR(ss:List (Int×Int×Int)):Prop where
 lh:∀(i:Nat) s,ss[i]?=GT s->s.1<=s.2.1/\0<=s.2.2/\s.2.2<=9
 nx:∀(i:Nat) s t,ss[i]?=GT s->ss[i+1]?=GT t->t.1=s.2.1+1
 bd:∀(i:Nat) s,ss[i]?=GT s->-(10^12)<=s.1/\s.2.1<=10^9+(10^12+10)*(i+1)
theorem rR.nil:rR []:=⟨λi s h=>(by cases h),λi s t h=>(by cases h),λi s h=>(by cases h)⟩
theorem rR.snoc{ss:List (Int×Int×Int)}(h:rR ss){lo hi b:Int}(h1:lo<=hi)(h2:0<=b/\b<=9)(h3:-(10^12)<=lo/\hi<=10^9+(10^12+10)*(ss.length+1))(h4:∀s,ss[ss.length-1]?=GT s->lo=s.2.1+1):rR (ss++[(lo,hi,b)]):=by
 have get:∀(i:Nat) s,(ss++[(lo,hi,b)])[i]?=GT s->(i<ss.length/\ss[i]?=GT s)\/(i=ss.length/\s=(lo,hi,b)):=λi s e=>by
  rcases G2 i ss.length with z|z
  ·rw[E8 z] at e;exact .inl ⟨z,e⟩
  rw[B8 z] at e;cases hk:i-ss.length with
  | zero=>rw[hk] at e;cases e;exact .inr ⟨ω,rfl⟩
  | succ k=>rw[hk] at e;cases e
 refine⟨λi s e=>?_,λi s t e1 e2=>?_,λi s e=>?_⟩
 ·rcases get i s e with⟨z,e⟩|⟨z,rfl⟩
  ·exact h.lh i s e
  exact⟨h1,h2.1,h2.2⟩
 ·rcases get i s e1 with⟨z,e1⟩|⟨z,rfl⟩
  ·rcases get (i+1) t e2 with⟨z2,e2⟩|⟨z2,rfl⟩
   ·exact h.nx i s t e1 e2
   exact h4 s (by rw[show ss.length-1=i by omega];exact e1)
  rcases get (i+1) t e2 with⟨z2,e2⟩|⟨z2,rfl⟩ <;> omega
 rcases get i s e with⟨z,e⟩|⟨z,rfl⟩
 ·exact h.bd i s e
 rw[z];exact h3
section
variable {κ:Type}[DecidableEq κ]
def gM(kvs:List (κ×V))(k:κ):Option V:=(kvs.find? λkv=>decide (kv.1=k)).map (·.2)
def putK(kvs:List (κ×V))(k:κ)(v:V):List (κ×V):=
 if (kvs.any λkv=>decide (kv.1=k))=true then kvs.map (λkv=>if kv.1=k then (kv.1,v) else kv) else kvs++[(k,v)]
theorem Hs{k:κ}:gM ([]:List (κ×V)) k=Is:=rfl
theorem fK{p:κ×V}{r:List (κ×V)}{k:κ}(e:p.1=k):gM (p::r) k=GT p.2:=by simp[gM,KU,e]
theorem fL{p:κ×V}{r:List (κ×V)}{k:κ}(e:¬p.1=k):gM (p::r) k=gM r k:=by simp[gM,KU,e]
theorem uD(k:κ):∀kvs:List (κ×V),(kvs.any λkv=>decide (kv.1=k))=(gM kvs k).isSome
 | []=>rfl
 | p::r=>by
  rw[HV];by_cases e:p.1=k
  ·simp only[fK e,decide_eq_true e,Bool.true_or,Option.isSome_some]
  rw[fL e,decide_eq_false e,Bool.false_or];exact uD k r
theorem Ht(k j:κ)(y:V):∀kvs:List (κ×V),gM (kvs.map λkv=>if kv.1=k then (kv.1,y) else kv) j=(gM kvs j).map λx=>if j=k then y else x
 | []=>rfl
 | p::r=>by
  have ih:=Ht k j y r;rw[CB];by_cases h:p.1=k
  ·rw[if_pos h];by_cases e:p.1=j
   ·rw[fK (p:=(p.1,y)) e,fK e,map_some,if_pos (e.symm.trans h)]
   rw[fL (p:=(p.1,y)) e,fL e,ih]
  rw[if_neg h];by_cases e:p.1=j
  ·rw[fK (p:=p) e,fK e,map_some,if_neg (λz=>h (e.trans z))]
  rw[fL (p:=p) e,fL e,ih]
theorem Dp(k j:κ)(y:V):∀kvs:List (κ×V),gM kvs k=Is->gM (kvs++[(k,y)]) j=if j=k then GT y else gM kvs j
 | [],_=>by
  by_cases e:k=j
  ·rw[if_pos e.symm];exact fK (p:=(k,y)) e
  rw[if_neg (λz=>e z.symm)];exact fL (p:=(k,y)) e
 | p::r,hn=>by
  rw[List.cons_append];have hk:¬p.1=k:=λz=>by rw[fK z] at hn;cases hn
  rw[fL hk] at hn;have ih:=Dp k j y r hn;by_cases e:p.1=j
  ·rw[fK e,fK e,if_neg (λz=>hk (e.trans z))]
  rw[fL e,fL e,ih]
theorem jA(kvs:List (κ×V))(k j:κ)(y:V):gM (putK kvs k y) j=if j=k then GT y else gM kvs j:=by
 unfold putK;by_cases a:(kvs.any λkv=>decide (kv.1=k))=true
 ·rw[if_pos a,Ht];rw[uD] at a;by_cases e:j=k
  ·obtain⟨x,hx⟩:=Option.isSome_iff_exists.mp a;rw[if_pos e,e,hx,map_some,if_pos rfl]
  rw[if_neg e];cases gM kvs j with
  | none=>rfl
  | some x=>rw[map_some,if_neg e]
 rw[if_neg a];refine Dp k j y kvs ?_;rw[uD] at a;cases q:gM kvs k with
 | none=>rfl
 | some x=>rw[q] at a;exact(a rfl).elim
theorem gb(kvs:List (κ×V))(k:κ)(v:V):(putK kvs k v).length<=kvs.length+1:=by
 unfold putK;split
 ·rw[AE];omega
 rw[AV,C7,KW];omega
theorem BW.R7{o:Option V}{u:Option Ap}(r:BW o u):o.isSome=u.isSome:=by
 cases o with
 | none=>cases u with
  | none=>rfl
  | some _=>exact(show False from r).elim
 | some _=>cases u with
  | none=>exact(show False from r).elim
  | some _=>rfl
theorem KV.val{kvs:List (κ×V)}{vs:List (κ×Ap)}(r:KV kvs vs)(k:κ):BW (gM kvs k) (valueAt vs k):=by
 unfold KV at r
 induction r with
 | nil=>exact GM
 | @cons p q ps qs h t ih=>
  obtain⟨h1,h2⟩:=h;by_cases e:p.1=k
  ·have e':q.1=k:=h1.symm.trans e;have b:valueAt (q::qs) k=GT q.2:=by simp[valueAt,KU,e']
   rw[fK e,b];exact h2
  have e':¬q.1=k:=λz=>e (h1.trans z);have b:valueAt (q::qs) k=valueAt qs k:=by simp[valueAt,KU,e']
  rw[fL e,b];exact ih
theorem KV.any{kvs:List (κ×V)}{vs:List (κ×Ap)}(r:KV kvs vs)(k:κ):(kvs.any λkv=>decide (kv.1=k))=vs.any λkv=>decide (kv.1=k):=by
 unfold KV at r
 induction r with
 | nil=>rfl
 | cons h t ih=>rw[HV,HV,ih,h.1]
theorem KV.repl{kvs:List (κ×V)}{vs:List (κ×Ap)}(r:KV kvs vs)(k:κ){y:V}{u:Ap}(ry:RelV y u) :
  KV (kvs.map λkv=>if kv.1=k then (kv.1,y) else kv) (vs.map λkv=>if kv.1=k then (kv.1,u) else kv):=by
 unfold KV at r |-
 induction r with
 | nil=>exact .nil
 | @cons p q ps qs h t ih=>
  rw[CB,CB];refine .cons ?_ ih;obtain⟨h1,h2⟩:=h;by_cases e:p.1=k
  ·rw[if_pos e,if_pos (h1.symm.trans e)];exact⟨h1,ry⟩
  rw[if_neg e,if_neg (λz=>e (h1.trans z))];exact⟨h1,h2⟩
theorem KV.put{kvs:List (κ×V)}{vs:List (κ×Ap)}(r:KV kvs vs)(k:κ){y:V}{u:Ap}(ry:RelV y u):KV (putK kvs k y) (LG vs k u):=by
 unfold putK LG;rw[r.any k];by_cases e:(vs.any λkv=>decide (kv.1=k))=true
 ·rw[if_pos e,if_pos e];exact r.repl k ry
 rw[if_neg e,if_neg e];exact Paired.snoc r ⟨rfl,ry⟩
theorem KV.length{kvs:List (κ×V)}{vs:List (κ×Ap)}(r:KV kvs vs):kvs.length=vs.length:=Mb r
end
theorem Jx{P:AR}{w:A9}{k:Key}{u:Ap}(r:RelV (kV k) u):(bI P w).is k u=true:=by
 cases k with
 | inl i=>obtain⟨t,e⟩:=(show ∃t,u=DO i t from r);subst e;exact Jt P w i t
 | inr x=>obtain⟨t,e⟩:=(show ∃t,u=Ap.str x t from r);subst e;exact Js P w x t
theorem Ep{P:AR}{w:A9}:∀{ks:List Key}{us:List Ap},Vals (ks.map kV) us->ItemsAre (bI P w) ks us
 | [],_,r=>by rw[map_nil] at r;cases r;exact .nil
 | k::ks,_,r=>by
  rw[CB] at r;cases r with
  | cons h t=>exact .cons (Jx h) (Ep t)
abbrev KT(H:Hp):List (List Key×V)->List (List Key×ID×Ap)->Prop:=Paired λp q=>p.1=q.1/\H q.2.1=GT (.tup (p.1.map kV))/\RelV p.2 q.2.2
theorem KT.val{H:Hp}{kvs:List (List Key×V)}{xs:List (List Key×ID×Ap)}(r:KT H kvs xs)(k:List Key):BW (gM kvs k) ((atKey xs k).map (·.2)):=by
 induction r with
 | nil=>exact GM
 | @cons p q ps qs h t ih=>
  obtain⟨h1,_,h2⟩:=h;by_cases e:p.1=k
  ·have e':q.1=k:=h1.symm.trans e;have b:atKey (q::qs) k=GT q.2:=by simp[atKey,KU,e']
   rw[fK e,b];exact h2
  have e':¬q.1=k:=λz=>e (h1.trans z);have b:atKey (q::qs) k=atKey qs k:=by simp[atKey,KU,e']
  rw[fL e,b];exact ih
theorem KT.repl{H:Hp}{kvs:List (List Key×V)}{xs:List (List Key×ID×Ap)}(r:KT H kvs xs)(k:List Key){y:V}{u:Ap}(ry:RelV y u) :
  KT H (kvs.map λkv=>if kv.1=k then (kv.1,y) else kv) (xs.map (putAt k u)):=by
 induction r with
 | nil=>exact .nil
 | @cons p q ps qs h t ih=>
  rw[CB,CB];refine .cons ?_ ih;obtain⟨h1,h2,h3⟩:=h;unfold putAt;by_cases e:p.1=k
  ·rw[if_pos e,if_pos (h1.symm.trans e)];exact⟨h1,h2,ry⟩
  rw[if_neg e,if_neg (λz=>e (h1.trans z))];exact⟨h1,h2,h3⟩
theorem KT.put{H:Hp}{kvs:List (List Key×V)}{xs:List (List Key×ID×Ap)}(r:KT H kvs xs)(k:List Key){b:ID}{y:V}{u:Ap}(hb:H b=GT (.tup (k.map kV)))(ry:RelV y u) :
  KT H (putK kvs k y) (storedH xs k b u):=by
 have e:(kvs.any λkv=>decide (kv.1=k))=(atKey xs k).isSome:=by
  rw[uD,(r.val k).R7,Option.isSome_map]
 unfold putK storedH;rw[e];by_cases q:(atKey xs k).isSome=true
 ·rw[if_pos q,if_pos q];exact r.repl k ry
 rw[if_neg q,if_neg q];exact Paired.snoc r ⟨rfl,hb,ry⟩
theorem KT.keeps{H H':Hp}{kvs:List (List Key×V)}{xs:List (List Key×ID×Ap)}(r:KT H kvs xs)(ht:∀b ys,H b=GT (.tup ys)->H' b=GT (.tup ys)):KT H' kvs xs:=
 Paired.acV r λ_ _ z=>⟨z.1,ht _ _ z.2.1,z.2.2⟩
section
variable {P:AR}{w:A9}{H:Hp}{h:Heap}{a:ID}
theorem abx{u:HO}(ok:HOk P w H h)(e:Rd H a u):cD P w H h a u:=e.ok ok
theorem Yb{kvs:List (Key×V)}(ok:HOk P w H h)(e:Rd H a (.dK kvs)):kvs.length<=AK/\(a == DV)=false/\∃vs,KV kvs vs/\h.DictOf (bI P w) a vs:=
 show cD P w H h a (.dK kvs) from abx ok e
theorem aes{kvs:List (Key×V)}(ok:HOk P w H h)(e:H a=GT (.dK kvs)):kvs.length<=AK/\(a == DV)=false/\∃vs,KV kvs vs/\h.DictOf (bI P w) a vs:=Yb ok (.inl e)
theorem Mt{ks:List Key}(ok:HOk P w H h)(e:H a=GT (.tup (ks.map kV))):(tupleKind (bI P w)).is h ks a:=by
 obtain⟨_,its,r,o,h1,h2,n,h3⟩:=(show cD P w H h a (.tup (ks.map kV)) from ok a _ e);exact⟨o,its.toArray,n,h1,h2,h3,by simpa using Ep r⟩
theorem X5{kvs:List (List Key×V)}(ok:HOk P w H h)(e:Rd H a (.dT kvs)):kvs.length<=AK/\(a == DV)=false /\
  ∃xs,KT H kvs xs/\h.DictOfH (tupleKind (bI P w)) a xs:=by
 obtain⟨z,y,xs,r,o,es,ep,h1,h2,h3,h4,h5⟩:=(show cD P w H h a (.dT kvs) from abx ok e);refine⟨z,y,xs,r,o,es,ep,h1,h2,h3,h4,λx hx=>?_,h5⟩;have all:∀{l:List (List Key×V)}{m:List (List Key×ID×Ap)},KT H l m->∀x∈m,(tupleKind (bI P w)).is h x.1 x.2.1:=by
  intro l m q
  induction q with
  | nil=>intro x hx;exact nomatch hx
  | @cons p q ps qs hq t ih=>
   intro x hx;rcases A1.mp hx with e|hx
   ·subst e;exact Mt ok (by rw[<- hq.1];exact hq.2.1)
   exact ih x hx
 exact all r x hx
theorem aer{kvs:List (List Key×V)}(ok:HOk P w H h)(e:H a=GT (.dT kvs)):kvs.length<=AK/\(a == DV)=false /\
  ∃xs,KT H kvs xs/\h.DictOfH (tupleKind (bI P w)) a xs:=X5 ok (.inl e)
end
def lF(H:Hp)(a:ID)(y:V)(r:Option V):Prop:=
 (∃kvs k,Rd H a (.dK kvs)/\y=kV k/\r=gM kvs k)\/∃kvs k b,Rd H a (.dT kvs)/\y=.ref b/\H b=GT (.tup (k.map kV))/\r=gM kvs k
def rT(H:Hp)(a:ID)(y v:V)(H':Hp):Prop:=
 (∃kvs k,H a=GT (.dK kvs)/\y=kV k/\kvs.length<AK/\H'=upd H a (.dK (putK kvs k v))) \/
 ∃kvs k b,H a=GT (.dT kvs)/\y=.ref b/\H b=GT (.tup (k.map kV))/\kvs.length<AK/\H'=upd H a (.dT (putK kvs k v))
theorem lF.k{H:Hp}{a:ID}{kvs:List (Key×V)}{k:Key}(e:H a=GT (.dK kvs)):lF H a (kV k) (gM kvs k):=.inl ⟨kvs,k,.inl e,rfl,rfl⟩
theorem lF.t{H:Hp}{a b:ID}{kvs:List (List Key×V)}{k:List Key}(e:H a=GT (.dT kvs))(eb:H b=GT (.tup (k.map kV))):lF H a (.ref b) (gM kvs k):=.inr ⟨kvs,k,b,.inl e,rfl,eb,rfl⟩
theorem rT.k{H:Hp}{a:ID}{kvs:List (Key×V)}{k:Key}{v:V}(e:H a=GT (.dK kvs))(hl:kvs.length<AK):rT H a (kV k) v (upd H a (.dK (putK kvs k v))):=.inl ⟨kvs,k,e,rfl,hl,rfl⟩
theorem rT.t{H:Hp}{a b:ID}{kvs:List (List Key×V)}{k:List Key}{v:V}(e:H a=GT (.dT kvs))(eb:H b=GT (.tup (k.map kV)))(hl:kvs.length<AK) :
  rT H a (.ref b) v (upd H a (.dT (putK kvs k v))):=.inr ⟨kvs,k,b,e,rfl,eb,hl,rfl⟩
section
variable {X:Cx}{pins:List (ID×Obj)}{σ:St}{H:Hp}{s:AA}{a:ID}{y v:V}{u r:Ap}{o:Option V}{A:A5}{E:Ap->AA->Prop}
theorem Inv.big(I:Inv X pins σ H s):DV<s.heap.objs.size:=by
 have h:CD<s.heap.objs.size:=(I.mod.glob.keeps I.bk).lt;exact lt_trans δ h
theorem SQ{Q:Ap->AA->Prop}(hu:A.units+1<FU)(I:Inv X pins σ H s)(g:lF H a y (GT v))(ry:RelV y u)(h:∀w' s',Inv X pins σ H s'->RelV v w'->Q w' s') :
  AG (AJ X.prog X.w) A (L4 (.ref a) u) Q E s:=by
 rcases g with⟨kvs,k,e,ey,l⟩|⟨kvs,k,b,e,ey,eb,l⟩
 ·subst ey;obtain⟨z,hd,vs,rel,dd⟩:=Yb I.hok e;obtain⟨w',hw,rw'⟩:=BW.some_of (v:=v) (o:=valueAt vs k) (by rw[l];exact rel.val k);exact wpAny_getItem_of (Jx ry) dd.mapOf hw (h w' _ (I.tok _) rw')
 subst ey;cases (show u=Do b from ry);obtain⟨z,hd,xs,rel,dd⟩:=X5 I.hok e;obtain⟨w',hw,rw'⟩:=BW.some_of (v:=v) (o:=(atKey xs k).map (·.2)) (by rw[l];exact rel.val k);obtain⟨p,hp,hp2⟩:=BU.mp hw;refine wpAny_getItem_heap (tupleKind_room_in1 hu) (Mt I.hok eb) dd hp ?_;rw[hp2];exact h w' _ (I.tok _) rw'
theorem Qo{h':Heap}{t':Nat}{ob:HO}(I:Inv X pins σ H s)(mu:Mut (H a))(hs:B3 a s.heap h')(he:∃q,h'.get? a=GT q)(new:cD X.prog X.w (upd H a ob) h' a ob) :
  Inv X pins σ (upd H a ob) { s with heap:=h',toks:=t' }:=
 I.write (x:=a) (e:=a) mu (.inl Z) (λb q hb z=>(hs.2 b hb).trans z) he new
theorem Ng{P:AR}{w:A9}{H':Hp}{h':Heap}{kvs:List (Key×V)}{vs:List (Key×Ap)}(z:kvs.length<=AK)(hd:(a == DV)=false)(rel:KV kvs vs)(dd:h'.DictOf (bI P w) a vs) :
  cD P w H' h' a (.dK kvs):=⟨z,hd,vs,rel,dd⟩
theorem Ey{H':Hp}{Q:Unit->AA->Prop}(hu:A.units+1<FU)(I:Inv X pins σ H s)(g:rT H a y v H')(ry:RelV y u)(rv:RelV v r)(h:∀s',Inv X pins σ H' s'->Q () s') :
  AG (AJ X.prog X.w) A (setItem (.ref a) u r) Q E s:=by
 rcases g with⟨kvs,k,e,ey,l,eH⟩|⟨kvs,k,b,e,ey,eb,l,eH⟩
 ·subst ey eH;obtain⟨z,hd,vs,rel,dd⟩:=aes I.hok e;have hz:vs.length<=AK:=by rw[<- rel.length];exact z
  have hl:(putK kvs k v).length<=AK:=by have:=gb kvs k v;omega
  refine wpAny_setItem_pairs (hsz:=hz) (Jx ry) dd λh' dd' hs=>h _ ?_;have he:∃q,h'.get? a=GT q:=let ⟨q,_,_,hq,_⟩:=dd';⟨q,hq⟩;exact Qo I (by rw[e];exact GM) hs he (Ng hl hd (rel.put k rv) dd')
 subst ey eH;cases (show u=Do b from ry);obtain⟨z,hd,xs,rel,dd⟩:=aer I.hok e;have hz:xs.length<=AK:=by rw[<- Mb rel];exact z
 have hl:(putK kvs k v).length<=AK:=by have:=gb kvs k v;omega
 refine wpAny_setItem_heap (hsz:=hz) (tupleKind_room_in1 hu) (Mt I.hok eb) dd λh' dd' hs=>h _ ?_;obtain⟨q,es,ep,hq,h2,h3,h4,_,h5⟩:=dd';refine Qo I (by rw[e];exact GM) hs ⟨q,hq⟩ ⟨hl,hd,_,(rel.put k eb rv).keeps λc ys ec=>?_,q,es,ep,hq,h2,h3,h4,h5⟩;rw[aJ (Pj ec e (λz=>nomatch z))];exact ec
end
def ady(i:Expr):Prop:=∀ov iv,subscripted i false ov iv=operate [ov,iv] (L4 ov iv)
theorem Y7{prog:AR}{w:A9}{A:A5}{E:Ap->AA->Prop}{s:AA}{env:Env}{value slice:Expr}{pos:Pos}{T id:String}{Q:Ap->AA->Prop}
  (hl:typeLookup (.type T) "__getitem__" = pure (GT (.builtin id)))(hs:ady slice)
  (h:AG (AJ prog w) A (eval value env) (λo s₁=>AG (AJ prog w) A (eval slice env) (λi s₂=>s₂.TypeIs o T/\AG (AJ prog w) A (L4 o i) Q E s₂) E s₁) E s) :
  AG (AJ prog w) A (eval (.Subscript value slice pos) env) Q E s:=by
 refine Subscript_ (Bz h (λo s₁ h₁=>Bz h₁ (λi s₂ h₂=>?_) λ_ _ x=>x) λ_ _ x=>x);obtain⟨hT,h₂⟩:=h₂;unfold subscriptTail;refine An ?_;rw[getitemInPython_of_ne hT.not_modules];refine An (wpAny_specialOf hT hl ?_);have fin:AG (AJ prog w) A (subscripted slice false o i) (λr s₃=>AG (AJ prog w) A (letTemporaryGo value o r >>= λ_=>pure r) Q E s₃) E s₂:=by
  rw[hs o i];exact wpAny_operating (Bz h₂ (λr s₃ h₃=>An (wpAny_letTemporaryGo (Au h₃))) λ_ _ x=>x)
 first
  | exact Au (An fin)
  | exact An (Au (An fin))
  | exact An fin
theorem J0{X:Cx}{pins:List (ID×Obj)}{σ:St}{H:Hp}{s:AA}{a:ID}{y:V}{o:Option V}(I:Inv X pins σ H s)(g:lF H a y o):s.TypeIs (.ref a) "dict" := by
 rcases g with⟨kvs,k,e,_,_⟩|⟨kvs,k,b,e,_,_,_⟩
 ·obtain⟨_,_,vs,_,dd⟩:=Yb I.hok e;exact dd.typeIs
 obtain⟨_,_,xs,_,dd⟩:=X5 I.hok e;exact dd.typeIs
def adF(td ty:TE):TE:=λσ H Q=>td σ H λx H1=>ty σ H1 λy H2=>∃a v,x=.ref a/\lF H2 a y (GT v)/\Q v H2
def adJ(td ty tv:TE):TS:=λD σ H=>tv σ H λv H1=>td σ H1 λx H2=>ty σ H2 λy H3=>∃a H4,x=.ref a/\rT H3 a y v H4/\D.nx σ H4
section
variable {X:Cx}{o i e value:Expr}{pos pos' tpos:Pos}{td ty tv:TE}
theorem aaq(hu:X.A.units+1<FU)(ho:PE X o td)(hi:PE X i ty)(hs:ady i):PE X (.Subscript o i pos) (adF td ty):=by
 intro pins s σ H Q I h;refine Y7 PySem.F.slot_dict_getitem.lookup hs (thE (ho pins s σ H _ I h) λu s1 x H1 I1 rx q1=>thn (hi pins s1 σ H1 _ I1 q1) λiv s2 ⟨y,H2,I2,ry,a,v,ex,g,q2⟩=>?_);subst ex;obtain rfl:u=Do a:=rx;exact⟨J0 I2 g,SQ hu I2 g ry λw' s3 I3 rw'=>⟨v,H2,I3,rw',q2⟩⟩
theorem Z2(hu:X.A.units+1<FU)(ho:PE X o td)(hi:PE X i ty)(hv:PE X value tv)(hs:JP value (GT (.Subscript o i pos')) pos.line X.env=pure false) :
  PS X (.Assign [.Subscript o i pos'] value pos) (adJ td ty tv):=by
 intro pins s σ H D I h;refine wpAny_Assign_Subscript (thE (hv pins s σ H _ I h) λr s1 v H1 I1 rv q1=>thE (ho pins s1 σ H1 _ I1 q1) λu s2 x H2 I2 rx q2=>thn (hi pins s2 σ H2 _ I2 q2) λiv s3 ⟨y,H3,I3,ry,a,H4,ex,g,q3⟩=>?_) hs;subst ex;obtain rfl:u=Do a:=rx;exact Ey hu I3 g ry rv λs4 I4=>⟨σ,H4,I4,q3⟩
end
theorem JZ{P:AR}{w:A9}{H:Hp}(h:Heap)(hb:DV<h.objs.size):cD P w H (h.push { cls:=.type "dict",data:=.dict #[] }) h.objs.size (.dK []):=
 ⟨DJ _,beq_eq_false_iff_ne.mpr (BC (B5 hb)),[],.nil,Heap.DictOf.new h⟩
theorem X6{P:AR}{w:A9}{H:Hp}(h:Heap)(hb:DV<h.objs.size):cD P w H (h.push { cls:=.type "dict",data:=.dict #[] }) h.objs.size (.dT []):=
 ⟨DJ _,beq_eq_false_iff_ne.mpr (BC (B5 hb)),[],.nil,_,#[],0,AO _ rfl,⟨rfl,rfl,rfl⟩,rfl,rfl,nodup_nil⟩
def Uw:TE:=λ_ H Q=>∀p,H p=Is->Q (.ref p) (upd H p (.dT []))
section
variable {X:Cx}{pos:Pos}
theorem Wd:PE X (.Dict [] [] pos) Uw:=λpins s σ H Q I h=>
 wpAny_Dict_empty ⟨.ref s.heap.objs.size,_,I.laid (a:=s.heap.objs.size) (o:=.dT []) (t':=s.toks) (λ_ _ q=>AB _ q) (AU _) (X6 s.heap I.big),rfl,h _ (I.hok.fresh (AU _))⟩
end
def cP(kvs more:List (Key×V)):List (Key×V):=more.foldl (λacc kv=>putK acc kv.1 kv.2) kvs
theorem KV.merge:∀{more:List (Key×V)}{rs:List (Key×Ap)}{kvs:List (Key×V)}{vs:List (Key×Ap)},KV more rs->KV kvs vs->KV (cP kvs more) (merged vs rs):=by
 intro more rs kvs vs r;unfold KV at r
 induction r generalizing kvs vs with
 | nil=>intro q;exact q
 | @cons p q ps qs h t ih=>
  intro r0;have e:KV (putK kvs p.1 p.2) (LG vs q.1 q.2):=by
   have:=r0.put p.1 h.2;rw[<- h.1];exact this
  exact ih e
theorem jz:∀(more kvs:List (Key×V)),(cP kvs more).length<=kvs.length+more.length
 | [],kvs=>by show kvs.length<=kvs.length+0;omega
 | p::r,kvs=>by
  have h1:=jz r (putK kvs p.1 p.2);have h2:=gb kvs p.1 p.2;show(cP (putK kvs p.1 p.2) r).length<=_;rw[C7];omega
theorem jg.gG{k:Nat}{A:A5}(r:jg k A):A.units+1<FU:=by have:=r.un;omega
theorem jg.un1{k:Nat}{A:A5}(r:jg k A):A.in1.units<FU:=by
 have:=r.un;show A.units+1<FU;omega
section
variable {X:Cx}{pos:Pos}
def aeH:R2:=λx y H Q=>∃(p:ID)(ws:List Str)(d:A0)(ok:ID->Prop),y=.ref p/\H p=GT (.tup (ws.map At))/\aH ok H x d/\Q (.bl (ws.any (cT d))) H
theorem acM(hu:X.A.in1.units<FU):OpR X (CU .In) aeH:=by
 intro pins s σ H x y v u Q I rx ry h;obtain⟨p,ws,d,ok,rfl,e,t,q⟩:=h;cases ry;obtain⟨its,r,pl,hz⟩:=I.tuple (SqT.of e);have key:∀u∈its,∃y t,u=Ap.str y t:=λu hu=>by
  obtain⟨j,hj,ej⟩:=D9.mp hu;have hl:=r.length;have hx:(ws.map At)[j]?=GT (ws.map At)[j]:=AF ω;obtain⟨u',hu',ru⟩:=r.get hx;rw[AF hj,ej] at hu';cases hu';rw[List.getElem_map] at ru;obtain⟨t,e⟩:=ru;exact⟨_,t,e⟩
 let g:Ap->Bool:=λu=>match u with | .str y _=>cT d y|_=>false
 refine SeqAt.in_tupleAt g pl (λw hw=>?_) ⟨.bl _,H,I,rfl,?_⟩
 ·obtain⟨y,t',rfl⟩:=key w (by simpa using hw);cases t with
  | non=>cases rx;exact BF.str_none y t'
  | bl b=>cases rx;exact BF.str_bool y t' b
  | int i=>obtain⟨t2,rfl⟩:=rx;exact BF.str_int y t' i t2
  | str z=>
   obtain⟨t2,rfl⟩:=rx;have h2:=BF.str_str (A:=X.A.in1) (s:=s) y t' z t2;have e3:(y == z)=cT (.str z) y:=by
    show(y == z)=decide (z=y);rw[Bool.beq_eq_decide_eq];exact decide_eq_decide.mpr ⟨Eq.symm,Eq.symm⟩
   rw[e3] at h2;exact h2
  | lst o e1 z1 ts=>
   cases rx;obtain⟨its1,r1,pl1,hz1⟩:=I.list (SqL.of e1);exact BF.str_list y t' pl1.isList hu
  | tup o e1 z1 ts=>
   cases rx;obtain⟨its1,r1,pl1,hz1⟩:=I.tuple (SqT.of e1);exact BF.str_tuple y t' pl1 hu
 have:∀(ws:List Str)(its:List Ap),Vals (ws.map At) its->its.any g=ws.any (cT d):=by
  intro ws
  induction ws with
  | nil=>intro its r;cases r;rfl
  | cons a ws ih=>
   intro its r;cases r with
   | cons r1 r2=>
    obtain⟨t1,rfl⟩:=r1;rw[HV,HV,ih _ r2]
 rw[show its.toArray.any g=its.any g by simp,this ws its r];exact q
end
theorem aG.ints{ok:ID->Prop}{H:Hp}:∀{xs:List V}{is:List Int},aG ok H xs (is.map A0.int)->xs=is.map As
 | _,[],.nil=>rfl
 | _,i::is,.cons h r=>by
  cases h;rw[r.ints];rfl
theorem kI{d:A0}{z:Str}(h:cT d z=true):d=.str z:=by
 cases d with
 | str w=>
  have:w=z:=of_decide_eq_true (show decide (w=z)=true from h);rw[this]
 | _=>exact absurd h AZ
theorem Jb:(("is" : Str) = "below")=False:=eq_false ψ
theorem Lq:(("is" : Str) = "mask")=False:=eq_false ψ
theorem ye:(("within" : Str) = "below")=False:=eq_false ψ
theorem zR:(("within" : Str) = "mask")=False:=eq_false ψ
theorem Cu:(("mask" : Str) = "below")=False:=eq_false ψ
theorem Cr:(("pick" : Str) = "below")=False:=eq_false ψ
theorem Gm:(("pick" : Str) = "mask")=False:=eq_false ψ
theorem zT:(("table" : Str) = "below")=False:=eq_false ψ
theorem Cq:(("table" : Str) = "mask")=False:=eq_false ψ
def rdW:=AC @Jb (AC @Lq (AC @ye (AC @zR (AC @Cu (AC @Cr (AC @Gm (AC @zT @Cq)))))))
theorem aen{K:AD}{a:ID}{xs:List V}{g:TG}{tb:TS}{D:Ends}{σ:St}{H:Hp}{R:It->Hp->Prop}(hR:R=(λJ H1=>∃W:Nat->Nat->St->Hp->Prop,(∃m,W 0 m σ H1)/\∀i m σ H,W i m σ H ->
  (J.stop i H/\D.nx σ H)\/(J.go i H/\∃N:St->Hp->Prop,(∀σ' H',N σ' H'->∃m',m'<m/\W (i+1) m' σ' H')/\∀x H',J.yld i H x H'->g x σ H' λσ2 H2=>tb { D with nx:=N,ct:=N,bk:=D.nx } σ2 H2)))
  (Pv:Nat->St->Hp->Prop)(h0:Pv 0 σ H)(hl:∀i σ H,Pv i σ H->H a=GT (.lst xs))
  (hs:∀(i:Nat) x σ H p,xs[i]?=GT x->Pv i σ H->H p=Is->g (.ref p) σ (upd H p (.tup [.int (i:Nat),x])) λσ2 H2=>tb { D with nx:=Pv (i+1),ct:=Pv (i+1),bk:=D.nx } σ2 H2)(hd:∀σ H,Pv xs.length σ H->D.nx σ H):R (Ite K a) H:=by
 refine XF hR xs.length Pv h0 (λi σ H hi p=>?_) (λσ H p=>?_) (λi σ H x H3 hi p y=>?_) hd
 ·exact⟨xs,_,SqL.of (hl i σ H p),AF hi⟩
 ·exact⟨xs,SqL.of (hl _ σ H p),Dx (AU _)⟩
 obtain⟨q,x1,rfl,hq,rfl,hx⟩:=y;exact hs i x1 σ H q (hx _ (SqL.of (hl i σ H p))) p hq
theorem lY{H:Hp}{l p:ID}{o:HO}(h:upd H l o p=Is):H p=Is/\p≠l:=by
 have hp:p≠l:=λz=>by rw[z,aA] at h;cases h
 rw[aJ hp] at h;exact⟨h,hp⟩
theorem Same.none{H H':Hp}(s:Same H H'){p:ID}(h:H' p=Is):H p=Is:=by
 cases e:H p with
 | none=>rfl
 | some o=>rw[s _ _ e] at h;cases h
mutual
def szB:A0->Bool
 | .none=>true
 | .bool _=>true
 | .int i=>decide (i.natAbs<=10^20)
 | .str x=>decide (x.length<=30)&&x.cps.toList.all λc=>decide (c<16^8)
 | .list ds=>decide (ds.length<=210)&&abV ds
 | .tuple ds=>decide (ds.length<=210)&&abV ds
 | .dict _=>false
def abV:List A0->Bool
 | []=>true
 | d::ds=>szB d&&abV ds
end
theorem yS{prog:AR}{w:A9}{A:A5}{E:Ap->AA->Prop}{s:AA}{z TI TO i1 i2 l1 l2:ID}{k1 k2:Nat}{xs ys:Array Ap}{x y a b:Ap}{Q:Ap->AA->Prop}(D:EL z TI TO i1 i2 l1 l2)(hz:Ki s.heap z TI TO Ap.none)(hTI:Cn s.heap TI (Do i1) (Do i2))(hTO:Cn s.heap TO a b)
  (h1:s.heap.IsTupleIter i1 l1 k1)(h2:s.heap.IsTupleIter i2 l2 k2)(hl1:s.heap.IsTuple l1 xs)(hl2:s.heap.IsTuple l2 ys)(hx:xs[k1]?=GT x)(hy:ys[k2]?=GT y)
  (hQ:∀h':Heap,Ki h' z TI TO (C0 s.heap.objs.size)->Cn h' TO x y->h'.IsTupleIter i1 l1 (k1+1)->h'.IsTupleIter i2 l2 (k2+1)->Cn h' s.heap.objs.size x y->h'.objs.size=s.heap.objs.size+1->(∀c o,c≠z->c≠TO->c≠i1->c≠i2->s.heap.get? c=GT o->h'.get? c=GT o)->Q (Do s.heap.objs.size) { s with heap:=h' }) :
  AG (AJ prog w) A (AI.«zip.__next__» { pos:=[Do z] }) (λfin s'=>∃v,fin=Fin.done (Flow.ret v)/\Q v s') E s:=by
 show AG _ _ (Kj (Do z) 2 >>= _) _ _ _;refine An (BO hz Z Z ?_);show AG _ _ (Kj (Do z) 3 >>= _) _ _ _;refine An (BO hz Z Z ?_);refine An (B4 hTI Z ?_);show AG _ _ (AI.SmallTypes.ownedTupleIsFree (Do z) >>= _) _ _ _;refine An ?_;show AG _ _ (Kj (Do z) 0 >>= _) _ _ _;refine An (BO hz Z Z (Au ?_));show AG _ _ (rule _ >>= _) _ _ _;refine An (CY (An (BO hz Z Z ?_)));show AG _ _ (Fh (Do z) 0 Ap.ellipsis >>= _) _ _ _;refine An (B0 hz (EU (ET 4)) λh₁ hz₁ hs₁=>?_);have old1:∀c o,c≠z->s.heap.get? c=GT o->h₁.get? c=GT o:=λc o hc e=>(hs₁.2 c hc).trans e;have h1a:h₁.IsTupleIter i1 l1 k1:=h1.at λo e=>old1 i1 o D.i1z e;have h2a:h₁.IsTupleIter i2 l2 k2:=h2.at λo e=>old1 i2 o D.i2z e;have tup:∀{h:Heap}{l:ID}{vs:Array Ap},s.heap.IsTuple l vs->(∀o,s.heap.get? l=GT o->h.get? l=GT o)->h.IsTuple l vs:=λ⟨o,e,r⟩ k=>⟨o,k o e,r⟩;refine An ?_;show AG _ _ (forIn [(Do i1,0),(Do i2,1)] (Is,()) _) _ _ _;rw[DI];refine An ?_;show AG _ _ ((JE (AI.SmallTypes.nextOf (Do i1) >>= λv=>pure (GT v)) (λ_=>Fh (Do z) 0 Ap.none)) >>= _) _ _ _;refine An (GA (An (dJ (s:={ s with heap:=h₁ }) h1a (tup hl1 λo e=>old1 l1 o D.l1z e) hx λh₂ h1b sb₂=>Au ?_)));have old2:∀c o,c≠z->c≠i1->s.heap.get? c=GT o->h₂.get? c=GT o:=λc o hc hc1 e=>(sb₂.2 c hc1).trans (old1 c o hc e);have hTO2:Cn h₂ TO a b:=old2 TO _ D.TOz D.TOi1 hTO;show AG _ _ (Kk (Do TO) >>= _) _ _ _;refine An (B4 (s:={ s with heap:=h₂ }) hTO2 Z ?_);show AG _ _ (Kn TO _ >>= _) _ _ _;refine An (F6 (s:={ s with heap:=h₂ }) hTO2 λh₃ g₃ sb₃=>?_);refine An (LH (Au ?_));show AG _ _ (forIn [(Do i2,1)] (Is,()) _) _ _ _;rw[DI];refine An ?_;have old3:∀c o,c≠z->c≠i1->c≠TO->s.heap.get? c=GT o->h₃.get? c=GT o:=λc o hc hc1 hc2 e=>(sb₃.2 c hc2).trans (old2 c o hc hc1 e);have h2c:h₃.IsTupleIter i2 l2 k2:=h2.at λo e=>old3 i2 o D.i2z (BC D.i12) (BC D.TOi2) e;have g₃':Cn h₃ TO x b:=g₃;show AG _ _ ((JE (AI.SmallTypes.nextOf (Do i2) >>= λv=>pure (GT v)) (λ_=>Fh (Do z) 0 Ap.none)) >>= _) _ _ _;refine An (GA (An (dJ (s:={ s with heap:=h₃ }) h2c (tup hl2 λo e=>old3 l2 o D.l2z D.l2i1 D.l2TO e) hy λh₄ h2d sb₄=>Au ?_)));have hTO4:Cn h₄ TO x b:=(sb₄.2 TO D.TOi2).trans g₃';show AG _ _ (Kk (Do TO) >>= _) _ _ _;refine An (B4 (s:={ s with heap:=h₄ }) hTO4 Z ?_);show AG _ _ (Kn TO _ >>= _) _ _ _
 refine An (F6 (s:={ s with heap:=h₄ }) hTO4 λh₅ g₅ sb₅=>?_);refine An (LH (Au ?_));have g₅':Cn h₅ TO x y:=g₅;show AG _ _ (forIn [] (Is,()) _) _ _ _;rw[forIn_nil];refine Au ?_;show AG _ _ (Kk (Do TO) >>= _) _ _ _;refine An (B4 (s:={ s with heap:=h₅ }) g₅' Z ?_);show AG _ _ (IL [x,y] >>= _) _ _ _;refine An (EZ ?_ (by show 2<=AK;decide));have sz:h₅.objs.size=s.heap.objs.size:=by
  rw[sb₅.1,sb₄.1,sb₃.1,sb₂.1,hs₁.1]
 have z5:h₅.get? z=_:=(sb₅.2 z (BC D.TOz)).trans ((sb₄.2 z (BC D.i2z)).trans ((sb₃.2 z (BC D.TOz)).trans ((sb₂.2 z (BC D.i1z)).trans hz₁)));have z6:(h₅.push { cls:=EQ "tuple",data:=Ev #[x,y] }).get? z=_:=AB _ z5;refine An ?_;show AG _ _ (Fh (Do z) 0 (C0 h₅.objs.size) >>= λ_=>Fh (Do z) 1 (GE false)) _ _ _;refine An (B0 (s:={ s with heap:=h₅.push { cls:=EQ "tuple",data:=Ev #[x,y] } }) z6 (EU (ET 4)) λh₇ hz₇ hs₇=>?_);refine B0 (s:={ s with heap:=h₇ }) hz₇ (EU (ET 3)) λh₈ hz₈ hs₈=>?_;have nzs:s.heap.objs.size≠z:=λq=>by
  have:=AY hz;rw[<- q] at this;exact E4 _ this
 have old6:∀c o,h₅.get? c=GT o->(h₅.push { cls:=EQ "tuple",data:=Ev #[x,y] }).get? c=GT o:=λc o e=>AB _ e;have old8:∀c o,c≠z->h₅.get? c=GT o->h₈.get? c=GT o:=λc o hc e=>(hs₈.2 c hc).trans ((hs₇.2 c hc).trans (old6 c o e));have new8:h₈.get? s.heap.objs.size=GT { cls:=EQ "tuple",data:=Ev #[x,y] }:=by
  refine(hs₈.2 _ nzs).trans ((hs₇.2 _ nzs).trans ?_);show(h₅.push { cls:=EQ "tuple",data:=Ev #[x,y] }).get? s.heap.objs.size=_;rw[<- sz];exact AO _ rfl
 refine Au ⟨_,rfl,?_⟩;rw[show(({ s with heap:=h₅ }:AA).heap.objs.size)=s.heap.objs.size from sz];refine hQ h₈ ?_ ?_ ?_ ?_ new8 ?_ ?_
 ·rw[sz] at hz₈;exact hz₈
 ·exact old8 TO _ D.TOz g₅'
 ·refine h1b.at λo e=>old8 i1 o D.i1z ?_;exact(sb₅.2 i1 (BC D.TOi1)).trans ((sb₄.2 i1 D.i12).trans ((sb₃.2 i1 (BC D.TOi1)).trans e))
 ·refine h2d.at λo e=>old8 i2 o D.i2z ?_;exact(sb₅.2 i2 (BC D.TOi2)).trans e
 ·rw[hs₈.1,hs₇.1];show(h₅.push { cls:=EQ "tuple",data:=Ev #[x,y] }).objs.size=_;rw[Ct,sz]
 intro c o hc1 hc2 hc3 hc4 e;exact old8 c o hc1 ((sb₅.2 c hc2).trans ((sb₄.2 c hc4).trans (old3 c o hc1 hc3 hc2 e)))
theorem m9{prog:AR}{w:A9}{A:A5}{E:Ap->AA->Prop}{s:AA}{z TI TO i1 i2 l1 l2:ID}{k1 k2:Nat}{xs ys:Array Ap}{x y a b:Ap}{Q:Option Ap->AA->Prop}(D:EL z TI TO i1 i2 l1 l2)(hz:Ki s.heap z TI TO Ap.none)(hTI:Cn s.heap TI (Do i1) (Do i2))(hTO:Cn s.heap TO a b)
  (h1:s.heap.IsTupleIter i1 l1 k1)(h2:s.heap.IsTupleIter i2 l2 k2)(hl1:s.heap.IsTuple l1 xs)(hl2:s.heap.IsTuple l2 ys)(hx:xs[k1]?=GT x)(hy:ys[k2]?=GT y)
  (hQ:∀h':Heap,Ki h' z TI TO (C0 s.heap.objs.size)->Cn h' TO x y->h'.IsTupleIter i1 l1 (k1+1)->h'.IsTupleIter i2 l2 (k2+1)->Cn h' s.heap.objs.size x y->h'.objs.size=s.heap.objs.size+1->(∀c o,c≠z->c≠TO->c≠i1->c≠i2->s.heap.get? c=GT o->h'.get? c=GT o)->Q (GT (Do s.heap.objs.size)) { s with heap:=h' }) :
  AG (AJ prog w) A (D2 (Do z)) Q E s:=by
 have hT:∃o,s.heap.get? z=GT o/\o.cls=EQ "zip" := ⟨_,hz,rfl⟩;exact An (De (BM hT Ee (BQ Ee hT HL
  (yS D hz hTI hTO h1 h2 hl1 hl2 hx hy λh' a1 a2 a3 a4 a5 a6 a7=>Au (hQ h' a1 a2 a3 a4 a5 a6 a7)) (Hc (Do z)))))
theorem Cd{prog:AR}{w:A9}{A:A5}{E:Ap->AA->Prop}{s:AA}{z TI TO i1 i2 l1 l2:ID}{k1 k2:Nat}{xs ys:Array Ap}{a b:Ap}{Q:PySem.Fin->AA->Prop}(hh:A.handled=Is)(D:EL z TI TO i1 i2 l1 l2)(hz:Ki s.heap z TI TO Ap.none)(hTI:Cn s.heap TI (Do i1) (Do i2))(hTO:Cn s.heap TO a b)
  (h1:s.heap.IsTupleIter i1 l1 k1)(h2:s.heap.IsTupleIter i2 l2 k2)(hl1:s.heap.IsTuple l1 xs)(hl2:s.heap.IsTuple l2 ys)(hend:xs[k1]?=Is\/ys[k2]?=Is)
  (hE:∀(h':Heap)(e:ID),(∀c o,c≠z->c≠TO->c≠i1->c≠i2->s.heap.get? c=GT o->h'.get? c=GT o)->(∃o,h'.get? e=GT o/\o.cls=EQ "StopIteration")->E (Do e) { s with heap:=h' }) :
  AG (AJ prog w) A (AI.«zip.__next__» { pos:=[Do z] }) Q E s:=by
 show AG _ _ (Kj (Do z) 2 >>= _) _ _ _;refine An (BO hz Z Z ?_);show AG _ _ (Kj (Do z) 3 >>= _) _ _ _;refine An (BO hz Z Z ?_);refine An (B4 hTI Z ?_);show AG _ _ (AI.SmallTypes.ownedTupleIsFree (Do z) >>= _) _ _ _;refine An ?_;show AG _ _ (Kj (Do z) 0 >>= _) _ _ _;refine An (BO hz Z Z (Au ?_));show AG _ _ (rule _ >>= _) _ _ _;refine An (CY (An (BO hz Z Z ?_)));show AG _ _ (Fh (Do z) 0 Ap.ellipsis >>= _) _ _ _;refine An (B0 hz (EU (ET 4)) λh₁ hz₁ hs₁=>?_);have old1:∀c o,c≠z->s.heap.get? c=GT o->h₁.get? c=GT o:=λc o hc e=>(hs₁.2 c hc).trans e;have h1a:h₁.IsTupleIter i1 l1 k1:=h1.at λo e=>old1 i1 o D.i1z e;have tup:∀{h:Heap}{l:ID}{vs:Array Ap},s.heap.IsTuple l vs->(∀o,s.heap.get? l=GT o->h.get? l=GT o)->h.IsTuple l vs:=λ⟨o,e,r⟩ k=>⟨o,k o e,r⟩;have out:∀{h:Heap}{e:ID}{vs:Array Ap},h.get? z=GT { cls:=EQ "zip",data:=Co vs }->0<vs.size->(∀c o,c≠z->c≠TO->c≠i1->c≠i2->s.heap.get? c=GT o->h.get? c=GT o)->(∃o,h.get? e=GT o/\o.cls=EQ "StopIteration") ->
   AG (AJ prog w) A (Fh (Do z) 0 Ap.none) (λ_ s''=>E (Do e) s'') E { s with heap:=h }:=λ{h e vs} ez hv hk he=>by
  refine B0 (s:={ s with heap:=h }) ez hv λh' _ hs=>hE h' e (λc o c1 c2 c3 c4 g=>(hs.2 c c1).trans (hk c o c1 c2 c3 c4 g)) ?_;obtain⟨o,ho,hc⟩:=he;refine⟨o,(hs.2 e λq=>?_).trans ho,hc⟩;rw[q,ez] at ho;cases ho;injection hc with hc;exact absurd hc δ
 refine An ?_;show AG _ _ (forIn [(Do i1,0),(Do i2,1)] (Is,()) _) _ _ _;rw[DI];refine An ?_;show AG _ _ ((JE (AI.SmallTypes.nextOf (Do i1) >>= λv=>pure (GT v)) (λ_=>Fh (Do z) 0 Ap.none)) >>= _) _ _ _;cases hx:xs[k1]? with
 | none=>
  refine An (GA (An (gB (s:={ s with heap:=h₁ }) hh h1a (tup hl1 λo e=>old1 l1 o D.l1z e) hx λh₂ e ext he=>?_)));exact out (h:=h₂) (ext z _ (BC D.i1z) hz₁) (EU (ET 4)) (λc o c1 c2 c3 c4 g=>ext c o c3 (old1 c o c1 g)) he
 | some x=>
  have hy:ys[k2]?=Is:=by
   rcases hend with q|q
   ·rw[hx] at q;cases q
   exact q
  refine An (GA (An (dJ (s:={ s with heap:=h₁ }) h1a (tup hl1 λo e=>old1 l1 o D.l1z e) hx λh₂ h1b sb₂=>Au ?_)));have old2:∀c o,c≠z->c≠i1->s.heap.get? c=GT o->h₂.get? c=GT o:=λc o hc hc1 e=>(sb₂.2 c hc1).trans (old1 c o hc e);have hTO2:Cn h₂ TO a b:=old2 TO _ D.TOz D.TOi1 hTO;show AG _ _ (Kk (Do TO) >>= _) _ _ _;refine An (B4 (s:={ s with heap:=h₂ }) hTO2 Z ?_);show AG _ _ (Kn TO _ >>= _) _ _ _;refine An (F6 (s:={ s with heap:=h₂ }) hTO2 λh₃ g₃ sb₃=>?_);refine An (LH (Au ?_));show AG _ _ (forIn [(Do i2,1)] (Is,()) _) _ _ _;rw[DI];refine An ?_;have old3:∀c o,c≠z->c≠i1->c≠TO->s.heap.get? c=GT o->h₃.get? c=GT o:=λc o hc hc1 hc2 e=>(sb₃.2 c hc2).trans (old2 c o hc hc1 e);have h2c:h₃.IsTupleIter i2 l2 k2:=h2.at λo e=>old3 i2 o D.i2z (BC D.i12) (BC D.TOi2) e;have z3:h₃.get? z=_:=(sb₃.2 z (BC D.TOz)).trans ((sb₂.2 z (BC D.i1z)).trans hz₁);show AG _ _ ((JE (AI.SmallTypes.nextOf (Do i2) >>= λv=>pure (GT v)) (λ_=>Fh (Do z) 0 Ap.none)) >>= _) _ _ _;refine An (GA (An (gB (s:={ s with heap:=h₃ }) hh h2c (tup hl2 λo e=>old3 l2 o D.l2z D.l2i1 D.l2TO e) hy λh₄ e ext he=>?_)));exact out (h:=h₄) (ext z _ (BC D.i2z) z3) (EU (ET 4)) (λc o c1 c2 c3 c4 g=>ext c o c4 (old3 c o c1 c3 c2 g)) he
theorem oZ{prog:AR}{w:A9}{A:A5}{E:Ap->AA->Prop}{s:AA}{z TI TO i1 i2 l1 l2:ID}{k1 k2:Nat}{xs ys:Array Ap}{a b:Ap}{Q:Option Ap->AA->Prop}(hh:A.handled=Is)(D:EL z TI TO i1 i2 l1 l2)(hz:Ki s.heap z TI TO Ap.none)(hTI:Cn s.heap TI (Do i1) (Do i2))(hTO:Cn s.heap TO a b)
  (h1:s.heap.IsTupleIter i1 l1 k1)(h2:s.heap.IsTupleIter i2 l2 k2)(hl1:s.heap.IsTuple l1 xs)(hl2:s.heap.IsTuple l2 ys)(hend:xs[k1]?=Is\/ys[k2]?=Is)
  (hQ:∀h':Heap,(∀c o,c≠z->c≠TO->c≠i1->c≠i2->s.heap.get? c=GT o->h'.get? c=GT o)->Q Is { s with heap:=h' }):AG (AJ prog w) A (D2 (Do z)) Q E s:=by
 have hT:∃o,s.heap.get? z=GT o/\o.cls=EQ "zip" := ⟨_,hz,rfl⟩;exact An (De (BM hT Ee (BQ Ee hT HL
  (Cd hh D hz hTI hTO h1 h2 hl1 hl2 hend λh' e hk he=>by
   obtain⟨o,ho,hc⟩:=he;exact An (EV ⟨o,ho,hc⟩ IM (Au (hQ h' hk)))) (Hc (Do z)))))
def tz1(h:Heap)(l1:ID):Heap:=h.push { cls:=EQ "tuple_iterator",data:=Co #[Do l1,DO 0 0] }
def tz2(h:Heap)(l1 l2:ID):Heap:=(tz1 h l1).push { cls:=EQ "tuple_iterator",data:=Co #[Do l2,DO 0 0] }
def tz3(h:Heap)(l1 l2:ID):Heap:=(tz2 h l1 l2).push { cls:=EQ "tuple",data:=Ev #[Do h.objs.size,Do (tz1 h l1).objs.size] }
def tz4(h:Heap)(l1 l2:ID):Heap:=(tz3 h l1 l2).push { cls:=EQ "tuple",data:=Ev #[Ap.none,Ap.none] }
def tz5(h:Heap)(l1 l2:ID):Heap:=(tz4 h l1 l2).push { cls:=EQ "zip",data:=Co #[Ap.none,GE false,GE false,Do (tz2 h l1 l2).objs.size,Do (tz3 h l1 l2).objs.size] }
theorem T3(l1 l2:ID)(xs ys:Array Ap):Meets (AI.«zip.__new__» { pos:=[EQ "zip",Do l1,Do l2] }) λ_ R s=>
  s.heap.IsTuple l1 xs/\s.heap.IsTuple l2 ys/\R (.ok (.ret (.ref (tz4 s.heap l1 l2).objs.size))) { s with heap:=tz5 s.heap l1 l2 }:=by
 refine LF λprog w A R s h=>?_;obtain⟨ht1,ht2,hR⟩:=h;unfold AI.«zip.__new__» AI.SmallTypes.newClass;refine An (An (Au (BD Z (An (Cs sub_zip (BD Z (Au ?_)))))));show AG _ _ (AI.SmallTypes.iterAll [Do l1,Do l2] >>= _) _ _ _;refine An ?_;unfold AI.SmallTypes.iterAll;refine An ?_;rw[DI];refine An (An (BH (FH ht1 (Au ?_))));show AG _ _ (forIn [Do l2] #[Do s.heap.objs.size] _) _ _ _;rw[DI];have ht2':(tz1 s.heap l1).IsTuple l2 ys:=by
  obtain⟨o,e,r⟩:=ht2;exact⟨o,AB _ e,r⟩
 refine An (An (BH (FH (s:={ s with heap:=tz1 s.heap l1 }) ht2' (Au ?_))));show AG _ _ (forIn [] #[Do s.heap.objs.size,Do (tz1 s.heap l1).objs.size] _) _ _ _;rw[forIn_nil];refine Au (Au ?_);show AG _ _ (IL [Do s.heap.objs.size,Do (tz1 s.heap l1).objs.size] >>= _) _ _ { s with heap:=tz2 s.heap l1 l2 };refine An (EZ ?_ (by show 2<=AK;decide));show AG _ _ (IL [Ap.none,Ap.none] >>= _) _ _ { s with heap:=tz3 s.heap l1 l2 };refine An (EZ ?_ (by show 2<=AK;decide));show AG _ _ (newObj (.type "zip") (.fields #[.none,.bool false,.bool false,.ref (tz2 s.heap l1 l2).objs.size,.ref (tz3 s.heap l1 l2).objs.size]) >>= λr=>ret r) _ _ { s with heap:=tz4 s.heap l1 l2 };refine An (Be ?_);exact Au ⟨_,rfl,hR⟩
theorem qL{prog:AR}{w:A9}{A:A5}{E:Ap->AA->Prop}{s:AA}{l1 l2:ID}{xs ys:Array Ap}{Q:Ap->AA->Prop}(hl1:s.heap.IsTuple l1 xs)(hl2:s.heap.IsTuple l2 ys)
   (h:∀h':Heap,Ki h' (s.heap.objs.size+4) (s.heap.objs.size+2) (s.heap.objs.size+3) Ap.none->Cn h' (s.heap.objs.size+2) (Do s.heap.objs.size) (Do (s.heap.objs.size+1))->Cn h' (s.heap.objs.size+3) Ap.none Ap.none->h'.IsTupleIter s.heap.objs.size l1 0->h'.IsTupleIter (s.heap.objs.size+1) l2 0 ->
   h'.objs.size=s.heap.objs.size+5->(∀c o,s.heap.get? c=GT o->h'.get? c=GT o)->Q (Do (s.heap.objs.size+4)) { s with heap:=h' }):AG (AJ prog w) A (call (EQ "zip") [Do l1,Do l2]) Q E s:=by
 refine callType_new F.called_zip δ (F.typeCall_zip_2 _ _) (F.newCall_zip_2 _ _) (λobj=>F.args_object_init_3 obj _ _) F.entry_zip_new (T3 l1 l2 xs ys) ⟨hl1,hl2,?_⟩;have z1:(tz1 s.heap l1).objs.size=s.heap.objs.size+1:=Ct ..;have z2:(tz2 s.heap l1 l2).objs.size=s.heap.objs.size+2:=(Ct ..).trans (by rw[z1]);have z3:(tz3 s.heap l1 l2).objs.size=s.heap.objs.size+3:=(Ct ..).trans (by rw[z2]);have z4:(tz4 s.heap l1 l2).objs.size=s.heap.objs.size+4:=(Ct ..).trans (by rw[z3]);have z5:(tz5 s.heap l1 l2).objs.size=s.heap.objs.size+5:=(Ct ..).trans (by rw[z4]);have g5:(tz5 s.heap l1 l2).get? (tz4 s.heap l1 l2).objs.size=_:=AO _ rfl;have g4:(tz5 s.heap l1 l2).get? (tz3 s.heap l1 l2).objs.size=_:=AB _ (AO _ Z);have g3:(tz5 s.heap l1 l2).get? (tz2 s.heap l1 l2).objs.size=_:=AB _ (AB _ (AO _ Z));have g2:(tz5 s.heap l1 l2).get? (tz1 s.heap l1).objs.size=_:=AB _ (AB _ (AB _ (AO _ Z)));have g1:(tz5 s.heap l1 l2).get? s.heap.objs.size=_:=AB _ (AB _ (AB _ (AB _ (AO _ Z))));have hk:∀c o,s.heap.get? c=GT o->(tz5 s.heap l1 l2).get? c=GT o:=λc o e=>AB _ (AB _ (AB _ (AB _ (AB _ e))));rw[z4,z2,z3] at g5;rw[z3] at g4;rw[z2,z1] at g3;rw[z1] at g2;rw[z4];generalize tz5 s.heap l1 l2=h' at z5 g5 g4 g3 g2 g1 hk;exact⟨⟨_,g5,rfl⟩,h h' g5 g3 g4 ⟨_,g1,rfl,rfl⟩ ⟨_,g2,rfl,rfl⟩ z5 hk⟩
def Itu(K:AD)(a b:ID):It:=
 ⟨λi H=>∃xs ys x y,SqT K H a xs/\SqT K H b ys/\xs[i]?=GT x/\ys[i]?=GT y,
  λi H v H'=>∃p x y,v=.ref p/\H p=Is/\H'=upd H p (.tup [x,y])/\(∀xs,SqT K H a xs->xs[i]?=GT x)/\∀ys,SqT K H b ys->ys[i]?=GT y,
  λi H=>∃xs ys,SqT K H a xs/\SqT K H b ys/\(xs[i]?=Is\/ys[i]?=Is)⟩
theorem Dq{P:AR}{w:A9}{K:AD}{es:List Expr}{kk:Nat}{tpos:Pos}{z TI TO i1 i2 l1 l2:ID}(D:EL z TI TO i1 i2 l1 l2) :
  Turn P w K (.Tuple es kk tpos) (Itu K l1 l2) [z,TI,TO,i1,i2] z (λi h=>Ki h z TI TO .none/\Cn h TI (.ref i1) (.ref i2)/\(∃a b,Cn h TO a b)/\h.IsTupleIter i1 l1 i/\h.IsTupleIter i2 l2 i) where
 mem:=by simp
 obj:=λi h st b hb=>by
  obtain⟨hz,hTI,⟨a,b',hTO⟩,⟨o1,e1,c1,d1⟩,⟨o2,e2,c2,d2⟩⟩:=st;simp only[A1,BA,or_false] at hb;rcases hb with rfl|rfl|rfl|rfl|rfl
  ·exact⟨_,hz,λv q=>by cases q⟩
  ·exact⟨_,hTI,λv q=>by cases q⟩
  ·exact⟨_,hTO,λv q=>by cases q⟩
  ·exact⟨o1,e1,λv q=>by rw[d1] at q;cases q⟩
  exact⟨o2,e2,λv q=>by rw[d2] at q;cases q⟩
 keep:=λi h h' st k=>by
  obtain⟨hz,hTI,⟨a,b',hTO⟩,h1,h2⟩:=st;exact⟨k z ζ _ hz,k TI ζ _ hTI,⟨a,b',k TO ζ _ hTO⟩,h1.at λo e=>k i1 ζ o e,h2.at λo e=>k i2 ζ o e⟩
 item:=by
  intro X hP hw hK hc i pins s σ H E I hf st hg;subst hP hw hK;obtain⟨xs,ys,x,y,q1,q2,hx,hy⟩:=hg;obtain⟨its1,rv1,p1,hz1⟩:=I.tuple q1;obtain⟨its2,rv2,p2,hz2⟩:=I.tuple q2;obtain⟨u1,hu1,ru1⟩:=rv1.get hx;obtain⟨u2,hu2,ru2⟩:=rv2.get hy;obtain⟨hz,hTI,⟨a,b',hTO⟩,h1,h2⟩:=st;refine m9 D hz hTI hTO h1 h2 p1 p2 (x:=u1) (y:=u2) (by simpa using hu1) (by simpa using hu2) λh' a1 a2 a3 a4 a5 a6 hk=>?_;have new:cD X.prog X.w (upd H s.heap.objs.size (.tup [x,y])) h' s.heap.objs.size (.tup [x,y]):=⟨by show 2<=AK;decide,[u1,u2],.cons ru1 (.cons ru2 .nil),_,a5,rfl,_,rfl⟩;have I1:Inv X pins σ (upd H s.heap.objs.size (.tup [x,y])) { s with heap:=h' }:=I.N8 (t':=s.toks) (ch:=[z,TO,i1,i2]) (λb hb=>hf b (by
   simp only[A1,BA,or_false] at hb |-;rcases hb with r|r|r|r <;> simp[r]))
   (λb o hb e=>hk b o (λq=>hb (by simp[q])) (λq=>hb (by simp[q])) (λq=>hb (by simp[q])) (λq=>hb (by simp[q])) e) (AU _) new
  have hTI':Cn h' TI (.ref i1) (.ref i2):=hk _ _ D.TIz D.TITO D.TIi1 D.TIi2 hTI;have hsz:∀b,b∈[z,TI,TO,i1,i2]->b≠s.heap.objs.size:=λb hb=>by
   obtain⟨_,_,hlt,_⟩:=hf b hb;have lt:∃o,s.heap.get? b=GT o:=by
    simp only[A1,BA,or_false] at hb;rcases hb with rfl|rfl|rfl|rfl|rfl
    ·exact⟨_,hz⟩
    ·exact⟨_,hTI⟩
    ·exact⟨_,hTO⟩
    ·obtain⟨o,e,_⟩:=h1;exact⟨o,e⟩
    obtain⟨o,e,_⟩:=h2;exact⟨o,e⟩
   obtain⟨o,e⟩:=lt;exact B5 (AY e)
  refine⟨_,rfl,wpAny_letOwnedTupleGo_zip (s:={ s with heap:=h' }) a1 λh'' z2 sb=>?_⟩;have fz:=hf z ζ;have I2:Inv X pins σ (upd H s.heap.objs.size (.tup [x,y])) { s with heap:=h'' }:=Inv.turned (s:={ s with heap:=h' }) (it:=z) (t':=s.toks) I1 (λb o hb e=>(sb.2 b hb).trans e) (by rw[aJ (hsz z ζ)];exact fz.1) fz.2.1 fz.2.2.2.1 fz.2.2.2.2.1 fz.2.2.2.2.2;refine⟨.ref s.heap.objs.size,_,I2,rfl,⟨_,x,y,rfl,I.fresh,rfl,λxs' q=>by rw[I.qT q q1];exact hx,λys' q=>by rw[I.qT q q2];exact hy⟩,
   ⟨z2,(sb.2 _ D.TIz).trans hTI',⟨_,_,(sb.2 _ D.TOz).trans a2⟩,a3.extBut sb.extBut D.i1z,a4.extBut sb.extBut D.i2z⟩,λb hb=>by rw[aJ (hsz b hb)];exact(hf b hb).1⟩
 done:=by
  intro X hP hw hK hc i pins s σ H E I hf st hg;subst hP hw hK;obtain⟨xs,ys,q1,q2,hx⟩:=hg;obtain⟨its1,rv1,p1,hz1⟩:=I.tuple q1;obtain⟨its2,rv2,p2,hz2⟩:=I.tuple q2;obtain⟨hz,hTI,⟨a,b',hTO⟩,h1,h2⟩:=st;have hend:its1.toArray[i]?=Is\/its2.toArray[i]?=Is:=by
   rcases hx with r|r
   ·exact .inl (by simpa using rv1.none_of r)
   exact .inr (by simpa using rv2.none_of r)
  refine oZ (I.ok.hd hc) D hz hTI hTO h1 h2 p1 p2 hend λh' hk=>⟨rfl,?_⟩;exact I.Oa (t':=s.toks) (ch:=[z,TO,i1,i2]) (λb hb=>hf b (by
   simp only[A1,BA,or_false] at hb |-;rcases hb with r|r|r|r <;> simp[r]))
   (λb o hb e=>hk b o (λq=>hb (by simp[q])) (λq=>hb (by simp[q])) (λq=>hb (by simp[q])) (λq=>hb (by simp[q])) e)
 self:=λ_ _ _ _ _ st h=>Gc st.1 h
def zpq(K:AD)(o1 o2:Option HO)(a b:ID)(H:Hp)(R:It->Hp->Prop):Prop:=match o1,o2 with
 | some (.lst _),GT (.lst _)=>R (Itz K a b) H
 | some (.tup _),GT (.tup _)=>R (Itu K a b) H
 | _,_=>False
def zpK(K:AD)(vs:List V)(H:Hp)(R:It->Hp->Prop):Prop:=match vs with
 | [.ref a,.ref b]=>zpq K (H a) (H b) a b H R
 | _=>False
def Xq(K:AD)(ta:TA):TI:=λσ H R=>ta σ H λvs H1=>zpK K vs H1 R
theorem Xp(K:AD)(ta:TA)(σ:St)(H:Hp)(R:It->Hp->Prop):Xq K ta σ H R=ta σ H λvs H1=>zpK K vs H1 R:=rfl
theorem abI(K:AD)(a b:ID)(H:Hp)(R:It->Hp->Prop):zpK K [.ref a,.ref b] H R=zpq K (H a) (H b) a b H R:=rfl
theorem abH(K:AD)(xs ys:List V)(a b:ID)(H:Hp)(R:It->Hp->Prop):zpq K (GT (.lst xs)) (GT (.lst ys)) a b H R=R (Itz K a b) H:=rfl
section
variable {X:Cx}
theorem aad{es:List Expr}{kk:Nat}{tpos:Pos}{a b:Expr}{ta:TA}{p pos:Pos}(hg:Gl X "zip")(hm:X.mg "zip" = Is)(ha:PA X [a,b] ta)(hs:AH [a,b] X.env=[(false,eval a X.env),(false,eval b X.env)]:=by rfl)(hs2:AH [b] X.env=[(false,eval b X.env)]:=by rfl) :
  PI X (.Tuple es kk tpos) (.Call (.Name "zip" p) [a,b] [] pos) (Xq X.K ta):=by
 intro pins s σ H R I h;refine LA (dW I hg hm boot_zip (A3 (thA (ha pos pins s σ H _ I h) λus s1 vs H1 I1 r1 q1=>?_) (by rw[hs,hs2]) (by rw[hs2];rfl)));replace q1:zpK X.K vs H1 R:=q1;unfold zpK at q1;split at q1
 ·rename_i l1 l2;unfold zpq at q1;cases r1 with
  | cons r rr=>
   cases rr with
   | cons r' rr=>
    cases rr;cases r;cases r';have apart:l1<s1.heap.objs.size->l2<s1.heap.objs.size->EL (s1.heap.objs.size+4) (s1.heap.objs.size+2) (s1.heap.objs.size+3) s1.heap.objs.size (s1.heap.objs.size+1) l1 l2:=by
     generalize s1.heap.objs.size=n;intro lt1 lt2;have lt1':@LT.lt Nat _ l1 n:=lt1;have lt2':@LT.lt Nat _ l2 n:=lt2;constructor <;> (intro(z:@Eq Nat _ _);omega)
    have fp:∀b∈[s1.heap.objs.size+4,s1.heap.objs.size+2,s1.heap.objs.size+3,s1.heap.objs.size,s1.heap.objs.size+1],pH X pins H1 b:=λb hb=>by
     have hle:s1.heap.objs.size<=b:=by
      simp only[A1,BA,or_false] at hb;rcases hb with rfl|rfl|rfl|rfl|rfl <;> simp
     exact I1.Dg hle (I1.hok.fresh hle)
    split at q1
    ·rename_i xs ys e1 e2;obtain⟨its1,rv1,p1,hz1⟩:=I1.list (SqL.of e1);obtain⟨its2,rv2,p2,hz2⟩:=I1.list (SqL.of e2);have lt1:l1<s1.heap.objs.size:=by obtain⟨_,e,_⟩:=p1.isList;exact AY e
     have lt2:l2<s1.heap.objs.size:=by obtain⟨_,e,_⟩:=p2.isList;exact AY e
     refine call_zip_2 p1.isList p2.isList λh' b1 b2 b3 b4 b5 b6 hk=>?_;refine Gc (s:={ s1 with heap:=h' }) b1 ?_;exact⟨_,_,_,_,H1,rfl,I1.kept (t':=s1.toks) hk,Ua (apart lt1 lt2),⟨b1,b2,⟨_,_,b3⟩,b4,b5⟩,fp,q1⟩
    ·rename_i xs ys e1 e2;obtain⟨its1,rv1,p1,hz1⟩:=I1.tuple (SqT.of e1);obtain⟨its2,rv2,p2,hz2⟩:=I1.tuple (SqT.of e2);have lt1:l1<s1.heap.objs.size:=by obtain⟨_,e,_⟩:=p1;exact AY e
     have lt2:l2<s1.heap.objs.size:=by obtain⟨_,e,_⟩:=p2;exact AY e
     refine qL p1 p2 λh' b1 b2 b3 b4 b5 b6 hk=>?_;refine Gc (s:={ s1 with heap:=h' }) b1 ?_;exact⟨_,_,_,_,H1,rfl,I1.kept (t':=s1.toks) hk,Dq (apart lt1 lt2),⟨b1,b2,⟨_,_,b3⟩,b4,b5⟩,fp,q1⟩
    exact q1.elim
 exact q1.elim
theorem ZC{es:List Expr}{kk:Nat}{tpos:Pos}{a b:Expr}{t:TA}{p pos:Pos}(hg:Gl X "zip")(hm:X.mg "zip" = Is)(ha:QA X [a,b] t)(hs:AH [a,b] X.env=[(false,eval a X.env),(false,eval b X.env)]:=by rfl)(hs2:AH [b] X.env=[(false,eval b X.env)]:=by rfl):QI X (.Tuple es kk tpos) (.Call (.Name "zip" p) [a,b] [] pos) (Xq X.K t):=⟨aad hg hm ha.h hs hs2⟩
end
def scV:A0->Option V
 | .int i=>GT (.int i)
 | .str z=>GT (.str z)
 | _=>Is
theorem aH.sc{ok:ID->Prop}{H:Hp}{x v:V}{d:A0}(t:aH ok H x d)(h:scV d=GT v):x=v:=by
 cases t with
 | int i=>exact BI h
 | str z=>exact BI h
 | _=>cases h
theorem aG.sc{ok:ID->Prop}{H:Hp}:∀{xs vs:List V}{ds:List A0},aG ok H xs ds->ds.map scV=vs.map GT->xs=vs
 | _,[],_,.nil,_=>rfl
 | _,v::vs,_,.nil,h=>by cases h
 | _,[],_,.cons _ _,h=>by cases h
 | _,v::vs,_,.cons t ts,h=>by
  rw[CB,CB] at h;injection h with h1 h2;rw[t.sc h1,ts.sc h2]
theorem RZ(pre:List Int)(j:Int):atI ((pre++[j]).map As) (-1)=GT (As j):=by
 unfold atI ixN;rw[if_neg δ,if_pos (by rw[AE,AV,BG];omega)];show((pre++[j]).map As)[_]?=_;rw[show(-1+(((pre++[j]).map As).length:Int)).toNat=pre.length by rw[AE,AV,BG];omega,AQ,B8 (AU _),IP];rfl
section
variable {X:Cx}{e o:Expr}{te to:TE}{pos:Pos}
def ppq(ob:Option HO)(l:ID)(H:Hp)(Q:VK):Prop:=match ob with
 | some (.lst xs)=>∃y,xs[xs.length-1]?=GT y/\Q y (upd H l (.lst xs.dropLast))
 | _=>False
def ppK(x:V)(H:Hp)(Q:VK):Prop:=match x with
 | .ref l=>ppq (H l) l H Q
 | _=>False
def Um(to:TE):TE:=λσ H Q=>to σ H λx H1=>ppK x H1 Q
theorem Ul(to:TE)(σ:St)(H:Hp)(Q:VK):Um to σ H Q=to σ H λx H1=>ppK x H1 Q:=rfl
theorem Z5(l:ID)(H:Hp)(Q:VK):ppK (.ref l) H Q=ppq (H l) l H Q:=rfl
theorem Z4(xs:List V)(l:ID)(H:Hp)(Q:VK):ppq (GT (.lst xs)) l H Q=∃y,xs[xs.length-1]?=GT y/\Q y (upd H l (.lst xs.dropLast)):=rfl
theorem aaj{apos cpos:Pos}(ho:PE X o to)(hbase:DM o "pop" X.env (eval o X.env)=eval o X.env:=by rfl)(hline:(apos.endLine == cpos.line)=true:=by rfl) :
  PE X (.Call (.Attribute o "pop" apos) [] [] cpos) (Um to):=by
 intro pins s σ H Q I h;refine wpAny_Call_method0_late hbase hline (thE (ho pins s σ H _ I h) λv s1 x H1 I1 r1 q=>?_);cases x with
 | ref l=>
  replace q:ppq (H1 l) l H1 Q:=q;cases el:H1 l with
  | none=>rw[el] at q;exact q.elim
  | some ob=>
   cases ob with
   | lst xs=>
    rw[el] at q;obtain⟨y,hy,q⟩:=q;obtain⟨h1,h2⟩:=pK (T := "list") I1 r1 (.inl ⟨rfl,xs,SqL.of el⟩);exact⟨"list","list.pop",D0,PySem.F.slot_list_pop,PySem.F.type_list_pop,h1,h2,DC Z (PySem.evalArgs_none (acU pins s1 σ H1 (.ref l) [] v [] Q I1 r1 .nil ⟨l,xs,y,rfl,rfl,el,hy,q⟩))⟩
   | _=>rw[el] at q;exact q.elim
 | _=>exact q.elim
theorem ZJ{apos cpos:Pos}(ho:QE X o to)(hbase:DM o "pop" X.env (eval o X.env)=eval o X.env:=by rfl)(hline:(apos.endLine == cpos.line)=true:=by rfl) :
  QE X (.Call (.Attribute o "pop" apos) [] [] cpos) (Um to):=⟨aaj ho.h hbase hline⟩
theorem VJ{i:Nat}{x:Str}{op:Operator}{ti:TIp}{pos':Pos}(h:Nm X.N X.env.scope i x)(hN:X.N.Nodup)(he:QE X e te)(ho:PIp X op ti)(hf:X.fn x=true\/X.env.scope.names.lookup x=GT .local:=by exact .inl Z) :
  QS X (.AugAssign (.Name x pos') op e pos) (abU i te ti):=⟨acq hN h.hN h.hv he.h ho hf⟩
def ints1(H:Hp)(p:ID)(is:List Int):Prop:=H p=GT (.lst (is.map As))\/H p=GT (.tup (is.map As))
theorem nj{is:List Int}{its:List Ap}(r:Vals (is.map As) its)(i:Nat)(v:Ap)(h:its.toArray[i]?=GT v):∃t,v=DO (is.getD i 0) t:=by
 have hl:=r.length;rw[AE] at hl;have hi:i<its.length:=by
  rcases G2 i its.length with z|z
  ·exact z
  rw[HM,Dx z] at h;cases h
 have hx:(is.map As)[i]?=GT (As (is.getD i 0)):=by
  rw[AQ,AF ω,A4,AF ω];rfl
 obtain⟨u,hu,ru⟩:=r.get hx;rw[HM,hu] at h;cases h;exact ru
theorem Fb(hc:X.calm=true):gq X (.builtin "min") (λxs H Q=>∃p is,xs=[.ref p]/\ints1 H p is/\is≠[]/\∀M,M∈is->(∀a∈is,M<=a)->Q (.int M) H):=by
 intro pins s σ H xs us Q I r h;obtain⟨p,is,rfl,hp,hne,q⟩:=h;obtain⟨u,rfl,rv⟩:=vals1 r;cases rv;have hpos:0<is.length:=LI.mpr hne;have fin:∀{its:List Ap}(rvs:Vals (is.map As) its) (v:Ap) (h':Heap) (tk:Nat),its.toArray[argBest (λi j=>decide (is.getD i 0<is.getD j 0)) (its.toArray.size-1)]?=GT v->Inv X pins σ H { s with heap:=h',toks:=tk }->EP X pins σ Q v { s with heap:=h',toks:=tk }:=λ{its} rvs v h' tk hv I3=>by
  have hl:=rvs.length;rw[AE] at hl;obtain⟨t,rfl⟩:=nj rvs _ v hv;have hb:=argBest_lt (λi=>is.getD i 0) (its.toArray.size-1);rw[AX] at hb |-;refine⟨.int _,H,I3,⟨_,rfl⟩,q _ ?_ ?_⟩
  ·rw[A4,AF ω];exact FG _
  intro a ha;obtain⟨j,hj,e⟩:=D9.mp ha;have:=hb.2 j ω;rw[show is.getD j 0=a by rw[A4,AF hj];exact e] at this;exact this
 have kept:∀{ob:Obj}{h':Heap}{tk:Nat},(∀(b:ID)(o:Obj),¬b∈[s.heap.objs.size]->(s.heap.push ob).get? b=GT o->h'.get? b=GT o)->Inv X pins σ H { s with heap:=h',toks:=tk }:=λ{ob h' tk} hk=>
  I.kept (t':=tk) λb o e=>hk b o (λz=>B5 (AY e) (AL.mp z)) (AB _ e)
 rcases hp with hp|hp
 ·obtain⟨its,rvs,pl,hz⟩:=I.list (SqL.of hp);have hl:=rvs.length;rw[AE] at hl;have pl':s.heap.IsList p its.toArray:=pl.isList;have hlt:p<s.heap.objs.size:=by obtain⟨_,e,_⟩:=pl';exact AY e
  refine call_min_walk (G1 pl' ?_);refine⟨s.heap.objs.size,_,_,_,_,_,_,rfl,Walks.list (A:=X.A.in1) (I.ok.hd hc) s.heap.objs.size p (B5 hlt) its.toArray,?_,λb hb=>?_,?_,CmpOf.ints_lt (λi=>is.getD i 0) λi v hv=>nj rvs i v hv,λv h' tk hv hk=>fin rvs v h' tk hv (kept hk)⟩
  ·obtain⟨ob,e,r⟩:=pl';exact⟨⟨_,AO _ rfl,rfl,rfl⟩,ob,AB _ e,r⟩
  ·rw[Ct];simp only[A1,BA,or_false] at hb;rcases hb with rfl|rfl
   ·exact C8 _
   exact D4 hlt
  rw[AX];omega
 obtain⟨its,rvs,pl,hz⟩:=I.tuple (SqT.of hp);have hl:=rvs.length;rw[AE] at hl;have pl':s.heap.IsTuple p its.toArray:=pl;have hlt:p<s.heap.objs.size:=by obtain⟨_,e,_⟩:=pl';exact AY e
 refine call_min_walk (FH pl' ?_);refine⟨s.heap.objs.size,_,_,_,_,_,_,rfl,Walks.tuple (A:=X.A.in1) (I.ok.hd hc) s.heap.objs.size p (B5 hlt) its.toArray,?_,λb hb=>?_,?_,CmpOf.ints_lt (λi=>is.getD i 0) λi v hv=>nj rvs i v hv,λv h' tk hv hk=>fin rvs v h' tk hv (kept hk)⟩
 ·obtain⟨ob,e,r⟩:=pl';exact⟨⟨_,AO _ rfl,rfl,rfl⟩,ob,AB _ e,r⟩
 ·rw[Ct];simp only[A1,BA,or_false] at hb;rcases hb with rfl|rfl
  ·exact C8 _
  exact D4 hlt
 rw[AX];omega
def Ky(ta:TA):TE:=λσ H Q=>ta σ H λvs H1=>∃j:Int,vs=[.int j]/\(-(2^62)<=j/\j<2^62)/\(j-0).toNat<=AK/\∀p,H1 p=Is->Q (.ref p) (upd H1 p (.lst (uL 0 (j-0).toNat)))
theorem Wb{a:Expr}{ta:TA}{p p2 pos pos2:Pos}(hc:X.calm=true)(hgl:Gl X "list")(hml:X.mg "list" = Is)(hg:Gl X "range")(hm:X.mg "range" = Is)(ha:PA X [a] ta)
  (hs:AH [a] X.env=[(false,eval a X.env)]:=by rfl)
  (he:AH [.Call (.Name "range" p2) [a] [] pos2] X.env=[(false,eval (.Call (.Name "range" p2) [a] [] pos2) X.env)]:=by rfl) :
  PE X (.Call (.Name "list" p) [.Call (.Name "range" p2) [a] [] pos2] [] pos) (Ky ta):=by
 intro pins s σ H Q I h;refine Ex (dW I hgl hml boot_list ?_ δ δ);refine A3 ?_ he rfl;rw[he];show AG _ _ (L3 ((false,eval (.Call (.Name "range" p2) [a] [] pos2) X.env)::[])) _ _ s;refine B9 ?_;refine LA (dW I hg hm KM (A3 (thA (ha pos2 pins s σ H _ I h) λus s1 vs H1 I1 r1 q1=>?_) hs Z));obtain⟨j,e,⟨q3,q4⟩,hz,q⟩:=q1;have q1:(-(2^62):Int)<=0:=by decide
 have q2:(0:Int)<2^62:=by decide
 subst e;cases r1 with
 | cons r' rr=>
  cases rr;obtain⟨t',rfl⟩:=r';refine call_range_1 (B6 ?_);refine call_list_range (n:=(j-0).toNat) (I1.ok.hd hc) (Lv ..) (small_one q1 q2 q3 q4) (by rw[Md];split <;> omega) (CF hz W6) λh' tk acc' c' kp e it=>?_
  have I2:Inv X pins σ H1 { s1 with heap:=s1.heap.push { cls:=.type "range",data:=.fields #[.int 0 s1.toks,.int j t',.int 1 (s1.toks+1)] },toks:=s1.toks+1+1 }:=I1.kept λb o e=>AB _ e;have hf:H1 (s1.heap.push { cls:=.type "range",data:=.fields #[.int 0 s1.toks,.int j t',.int 1 (s1.toks+1)] }).objs.size=Is:=I2.hok.fresh (AU _);refine⟨.ref _,_,I2.laid (t':=tk) kp (AU _) (show cD X.prog X.w _ h' _ (.lst (uL 0 (j-0).toNat)) from⟨?_,acc'.toList,c',?_,by simpa using e⟩),rfl,q _ hf⟩
  ·simpa [uL] using hz
  obtain⟨it1,it2⟩:=it;refine Fv (by simp[uL,it1]) λk x u h1 h2=>?_;have h2':acc'[k]?=GT u:=by simpa using h2
  obtain⟨t9,rfl⟩:=it2 k u h2';unfold uL at h1;rw[AQ] at h1;have hk:k<(j-0).toNat:=by
   rcases G2 k (j-0).toNat with z|z
   ·exact z
   rw[Dx (by simpa using z)] at h1;cases h1
  rw[Ha hk] at h1;cases h1;exact⟨t9,by rw[mul_one]⟩
theorem VP{a:Expr}{ta:TA}{p p2 pos pos2:Pos}(hc:X.calm=true)(hgl:Gl X "list")(hml:X.mg "list" = Is)(hg:Gl X "range")(hm:X.mg "range" = Is)(ha:QA X [a] ta)
  (hs:AH [a] X.env=[(false,eval a X.env)]:=by rfl)
  (he:AH [.Call (.Name "range" p2) [a] [] pos2] X.env=[(false,eval (.Call (.Name "range" p2) [a] [] pos2) X.env)]:=by rfl) :
  QE X (.Call (.Name "list" p) [.Call (.Name "range" p2) [a] [] pos2] [] pos) (Ky ta):=⟨Wb hc hgl hml hg hm ha.h hs he⟩
def Qf(ws:List Str)(w:Str)(j:Nat):Prop:=ws[j]?=GT w/\∀m,m<j->ws[m]?≠GT w
end
theorem Fw(l:ID)(items:Array Ap)(x:Ap)(e:Ap->Bool)(j:Nat)(hj:j<items.size)(h1:e items[j]=true)(h2:∀m (hm:m<items.size),m<j->e items[m]=false) :
  Meets (AI.«tuple.index» { pos:=[Do l,x] }) λA R s=>s.heap.IsTuple l items/\(∀y,y∈items->BF A.in1 s y x (e y))/\R (.ok (.ret (.int j s.toks))) { s with toks:=s.toks+1 }:=by
 refine LF λprog w A R s h=>?_;obtain⟨⟨o,ho,hc,n,hd⟩,heq,hR⟩:=h;unfold AI.«tuple.index» selfAndSome;refine An (An (Cs (a:=()) Z ?_));refine An (Cs (a:=()) Z (Au ?_));unfold AI.Tuple.tupleItemsOf;refine An (An (B4 ho hd (Au ?_)));refine An (Au ?_);refine An (Au ?_);refine An ?_;rw[Std.Legacy.Range.forIn_eq_forIn_range'];have hsz:[:min items.size items.size].size=items.size:=by simp[Std.Legacy.Range.size]
 rw[hsz];refine wpAny_forIn_list _ (λrest b s'=>b=(Is,())/\s'=s/\∃i,rest=List.range' i (items.size-i)/\i<=j) _ ?_ ?_ _ _ ⟨rfl,rfl,0,rfl,DJ _⟩
 ·rintro i rest b s' ⟨rfl,rfl,i0,hrest,hij⟩;obtain⟨k,hk⟩:∃k,items.size-i0=k+1:=⟨items.size-i0-1,ω⟩;rw[hk,List.range'_succ] at hrest;cases hrest;have hi:i<items.size:=ω;have he:items[i]?=GT items[i]:=Array.getElem?_eq_getElem hi;simp only[he];refine An (heq _ (Array.getElem_mem hi) _ _ _ _ ?_);by_cases hj2:i=j
  ·subst hj2;rw[h1,if_pos rfl];refine An ?_;unfold retInt;refine An (wpAny_mkInt ?_);exact Au (Au (Au ⟨_,rfl,hR⟩))
  rw[h2 i hi ω,if_neg δ];exact Au ⟨rfl,rfl,i+1,by rw[show items.size-(i+1)=k by omega],ω⟩
 rintro b s' ⟨rfl,rfl,i,hrest,hij⟩;obtain⟨k,hk⟩:∃k,items.size-i=k+1:=⟨items.size-i-1,ω⟩;rw[hk,List.range'_succ] at hrest;cases hrest
section
variable {X:Cx}{e o:Expr}{te to:TE}{pos:Pos}
def KTup(K:AD)(p:ID)(xs:List V):Prop:=∃(o:Obj)(its:Array Ap)(n:Nat),K.lookup p=GT o/\o.cls=.type "tuple" /\ o.dict=Is/\o.data=.seq its n/\its.size<=AK/\Vals xs its.toList
theorem KTup.sq{K:AD}{p:ID}{xs:List V}{H:Hp}(h:KTup K p xs):SqT K H p xs:=by
 obtain⟨o,its,n,h1,h2,_,h3,h4,h5⟩:=h;exact .inr ⟨o,its,n,h1,h2,h3,h4,h5⟩
def SqB(b:Bool)(K:AD)(H:Hp)(p:ID)(xs:List V):Prop:=match b with
 | true=>SqL K H p xs
 | false=>KTup K p xs
def Uu(K:AD)(to te:TE):TE:=λσ H Q=>to σ H λx H1=>∃(p:ID)(ws:List Str)(b:Bool),x=.ref p/\SqB b K H1 p (ws.map At)/\te σ H1 λy H2=>∃w j,y=.str w/\SqB b K H2 p (ws.map At)/\Qf ws w j/\Q (.int (j:Nat)) H2
theorem ni{ws:List Str}{its:List Ap}(r:Vals (ws.map At) its){i:Nat}{v:Ap}(h:its[i]?=GT v):∃w t,ws[i]?=GT w/\v=Ap.str w t:=by
 have hl:=r.length;rw[AE] at hl;have hi:=(AM.mp h).1;have hx:(ws.map At)[i]?=GT (At ws[i]):=by rw[AQ,AF ω];rfl
 obtain⟨u,hu,ru⟩:=r.get hx;rw[hu] at h;cases h;obtain⟨t,rfl⟩:=ru;exact⟨ws[i],t,AF ω,rfl⟩
theorem aam{apos cpos:Pos}(hu:X.A.in1.units<FU)(ho:PE X o to)(he:PE X e te)
  (hbase:DM o "index" X.env (eval o X.env)=eval o X.env:=by rfl)
   (hfew:((CS cpos (AH [e] X.env)).all (λx=>!x.1)&&(Hb cpos (Ff [] X.env)).all (λx=>x.1.isSome)
   && decide ([e].length+([]:List EJ).length+(if ([]:List EJ).isEmpty then 0 else 1)<30))=true:=by rfl)
  (hline:(apos.endLine == cpos.line)=true:=by rfl) (hs:AH [e] X.env=(false,eval e X.env)::AH [] X.env:=by rfl) (hplain:(CS cpos (AH [] X.env)).any (·.1)=false:=by rfl) :
  PE X (.Call (.Attribute o "index" apos) [e] [] cpos) (Uu X.K to te):=by
 intro pins s σ H Q I h;refine ES hbase hfew hline Z (thE (ho pins s σ H _ I h) λv s1 x H1 I1 r1 q=>?_);obtain⟨p,ws,b,rfl,hq,q⟩:=q;have key:∀{its:List Ap}{w:Str}{j:Nat}{u:Ap}{s2:AA},Vals (ws.map At) its->Qf ws w j->RelV (.str w) u->∃(g:Ap->Bool)(hj:j<its.toArray.size),g its.toArray[j]=true/\(∀m (hm:m<its.toArray.size),m<j->g its.toArray[m]=false)/\∀y,y∈its.toArray->BF X.A.in1 s2 y u (g y):=λ{its w j u s2} rv hf ru=>by
  obtain⟨t,rfl⟩:=ru;have hl:=rv.length;rw[AE] at hl;have hj:j<its.length:=by have:=(AM.mp hf.1).1;omega
  refine⟨λy=>match y with | .str z _=>z == w|_=>false,by simpa using hj,?_,λm hm hmj=>?_,λy hy=>?_⟩
  ·obtain⟨w',t',h1,h2⟩:=ni rv (AF hj);rw[hf.1] at h1;cases h1;have:its.toArray[j]=Ap.str w t':=by simpa using h2
   rw[this];simp
  ·have hm':m<its.length:=by simpa using hm
   obtain⟨w',t',h1,h2⟩:=ni rv (AF hm');have:its.toArray[m]=Ap.str w' t':=by simpa using h2
   rw[this];have hne:w'≠w:=λz=>hf.2 m hmj (by rw[h1,z]);simpa using hne
  have hy':y∈its:=by simpa using hy
  obtain⟨m,hm,em⟩:=D9.mp hy';obtain⟨w',t',h1,h2⟩:=ni rv (AF hm);rw[em] at h2;rw[h2];exact BF.str_str w' t' w t
 cases b with
 | true=>
  obtain⟨h1,h2⟩:=pK (T := "list") I1 r1 (.inl ⟨rfl,_,hq⟩);refine⟨"list","list.index",D0,PySem.F.slot_list_index,PySem.F.type_list_index,h1,h2,?_⟩;rw[hs];refine DC (by show(false||(CS cpos (AH [] X.env)).any (·.1))=false;rw[hplain] <;> rfl) (EG ?_)
  refine B9 (thn (he pins s1 σ H1 _ I1 q) λu s2 ⟨y,H2,I2,r2,w,j,ey,hq2,hf,q3⟩=>B6 ?_);subst ey;cases r1;obtain⟨its,rv,pl,hz⟩:=I2.list hq2;obtain⟨g,hj,g1,g2,g3⟩:=key (s2:=s2) rv hf r2;obtain⟨ob,n,eo,ec,ed,es⟩:=pl;cases ob with
  | mk cls dict data slots=>
   cases ec;cases es;have hj2:((j:Nat):Int)<2^63-1:=by
    rw[AX] at hj;have hl:=rv.length;have:=IZ;omega
   refine EA F.slot_list_index ⟨_,eo,rfl⟩ F.entry_list_index (F.args_list_index_2 _ _) (SeqAt.list_indexAt p its.toArray n _ _ u g j hj hj2 g1 g2) ⟨eo,g3,?_⟩;exact⟨.int (j:Nat),H2,I2.tok _,⟨_,rfl⟩,q3⟩
 | false=>
  obtain⟨h1,h2⟩:=pK (T := "tuple") I1 r1 (.inr (.inl ⟨rfl,by obtain⟨o,_,_,k1,k2,k3,_⟩:=hq;exact⟨o,k1,k2,k3⟩⟩));refine⟨"tuple","tuple.index",PySem.F.plainAttrs_tuple,PySem.F.slot_tuple_index,PySem.F.type_tuple_index,h1,h2,?_⟩;rw[hs];refine DC (by show(false||(CS cpos (AH [] X.env)).any (·.1))=false;rw[hplain] <;> rfl) (EG ?_)
  refine B9 (thn (he pins s1 σ H1 _ I1 q) λu s2 ⟨y,H2,I2,r2,w,j,ey,hq2,hf,q3⟩=>B6 ?_);subst ey;cases r1;obtain⟨its,rv,pl,hz⟩:=I2.tuple (KTup.sq hq2);obtain⟨g,hj,g1,g2,g3⟩:=key (s2:=s2) rv hf r2;have pl':s2.heap.IsTuple p its.toArray:=pl;obtain⟨ob,eo,ec,n,ed⟩:=id pl';refine EA F.slot_tuple_index ⟨_,eo,ec⟩ F.entry_tuple_index (F.args_tuple_index_2 _ _) (Fw p its.toArray u g j hj g1 g2) ⟨pl',g3,?_⟩;exact⟨.int (j:Nat),H2,I2.tok _,⟨_,rfl⟩,q3⟩
theorem ZM{apos cpos:Pos}(hu:X.A.in1.units<FU)(ho:QE X o to)(he:QE X e te)
  (hbase:DM o "index" X.env (eval o X.env)=eval o X.env:=by rfl)
   (hfew:((CS cpos (AH [e] X.env)).all (λx=>!x.1)&&(Hb cpos (Ff [] X.env)).all (λx=>x.1.isSome)
   && decide ([e].length+([]:List EJ).length+(if ([]:List EJ).isEmpty then 0 else 1)<30))=true:=by rfl)
  (hline:(apos.endLine == cpos.line)=true:=by rfl) (hs:AH [e] X.env=(false,eval e X.env)::AH [] X.env:=by rfl) (hplain:(CS cpos (AH [] X.env)).any (·.1)=false:=by rfl) :
  QE X (.Call (.Attribute o "index" apos) [e] [] cpos) (Uu X.K to te):=⟨aam hu ho.h he.h hbase hfew hline hs hplain⟩
end
inductive Pl where
 | pick (l:Int)
 | one (k:Nat) (r:Pl)
 | wit (k:Nat) (r:Pl)
 | low (k:Nat) (a b:Pl)
 | msk (l:Int) (r:Pl)
 | tab
def plD:Pl->A0
 | .pick l=>.tuple [.str "pick",.int l]
 | .one k r=>.tuple [.str "is",.int (k:Int),plD r]
 | .wit k r=>.tuple [.str "within",.int (k:Int),plD r]
 | .low k a b=>.tuple [.str "below",.int (k:Int),plD a,plD b]
 | .msk l r=>.tuple [.str "mask",.int l,plD r]
 | .tab=>.tuple [.str "table"]
def zO:Pl->Nat
 | .pick _=>0
 | .one _ r=>zO r+1
 | .wit _ r=>zO r+1
 | .low _ a b=>max (zO a) (zO b)+1
 | .msk _ r=>zO r+1
 | .tab=>0
def dw:Pl->Nat
 | .pick _=>1
 | .one _ r=>dw r+1
 | .wit _ r=>dw r+1
 | .low _ a b=>dw a+dw b+1
 | .msk _ r=>dw r+1
 | .tab=>1
abbrev Sts:=List (Int×Int×Int)
def bJ(ss:Sts)(k:Nat):Int×Int×Int:=ss.getD k (0,0,0)
structure Lf(ss:Sts)(left:List Nat):Prop where
 ne:left≠[]
 lt:∀k∈left,k<ss.length
 up:left.Pairwise (· < ·)
def kids(ss:Sts):Pl->List Nat->List (List Nat×Pl)
 | .pick _,_=>[]
 | .tab,_=>[]
 | .one k r,left=>[(left.filter (·≠k),r)]
 | .wit k r,left=>[(left.filter (·≠k),r)]
 | .low k a b,left=>[(left.filter (· < k),a),(left.filter (k<=·),b)]
 | .msk l r,left=>[(left.filter λk=>(bJ ss k).2.2≠l,r)]
def Dk(ss:Sts):Pl->List Nat->Prop
 | .pick _,left=>Lf ss left
 | .tab,left=>Lf ss left
 | .one k r,left=>Lf ss left/\Dk ss r (left.filter (·≠k))
 | .wit k r,left=>Lf ss left/\Dk ss r (left.filter (·≠k))
 | .low k a b,left=>Lf ss left/\Dk ss a (left.filter (· < k))/\Dk ss b (left.filter (k<=·))
 | .msk l r,left=>Lf ss left/\Dk ss r (left.filter λk=>(bJ ss k).2.2≠l)
theorem Dk.lf{ss:Sts}{p:Pl}{left:List Nat}(h:Dk ss p left):Lf ss left:=by
 cases p with
 | pick l=>exact h
 | tab=>exact h
 | one k r=>exact h.1
 | wit k r=>exact h.1
 | low k a b=>exact h.1
 | msk l r=>exact h.1
def nF(ss:Sts)(f:List Nat->Pl->Int):Pl->List Nat->Int
 | .pick l,left=>f left (.pick l)
 | .tab,left=>f left .tab
 | .one k r,left=>f left (.one k r)+nF ss f r (left.filter (·≠k))
 | .wit k r,left=>f left (.wit k r)+nF ss f r (left.filter (·≠k))
 | .low k a b,left=>f left (.low k a b)+nF ss f a (left.filter (· < k))+nF ss f b (left.filter (k<=·))
 | .msk l r,left=>f left (.msk l r)+nF ss f r (left.filter λk=>(bJ ss k).2.2≠l)
def sI(left:List Nat):A0:=.list (left.map λ(k:Nat)=>.int (k:Int))
def cU(ss:Sts)(left:List Nat):Int:=(bJ ss (left.getLast?.getD 0)).2.1-(bJ ss (left.head?.getD 0)).1+1
def zm:Sp:=λvs H Q _=>∃(s l:V)(ok:ID->Prop)(ss:Sts)(left:List Nat),vs=[s,l]/\aH ok H s (.list (ss.map stD))/\aH ok H l (sI left)/\Lf ss left/\Q (.int (cU ss left)) H
theorem vH{k:Nat}:∀{left:List Nat},left.Pairwise (· < ·)->left.drop (left.filter (· < k)).length=left.filter (k<=·)
 | [],_=>rfl
 | a::left,h=>by
  rw[CO] at h;by_cases ha:a<k
  ·rw[GO (by simpa using ha),GS (by simpa using ha),C7,List.drop_succ_cons];exact vH h.2
  have h1:left.filter (· < k)=[]:=FV.mpr λb hb=>by have:=h.1 b hb;simp;omega
  have h2:left.filter (k<=·)=left:=LJ.mpr λb hb=>by have:=h.1 b hb;simp;omega
  rw[GS (by simpa using ha),h1,GO (by simp;omega),h2];rfl
theorem aaN{ok:ID->Prop}{H:Hp}(left:List Nat):aG ok H (left.map λ(k:Nat)=>As (k:Int)) (left.map λ(k:Nat)=>A0.int (k:Int)):=by
 induction left with
 | nil=>exact .nil
 | cons a l ih=>exact .cons (.int _) ih
theorem aG.nats{ok:ID->Prop}{H:Hp}:∀{xs:List V}{left:List Nat},aG ok H xs (left.map λ(k:Nat)=>A0.int (k:Int))->xs=left.map λ(k:Nat)=>As (k:Int)
 | _,[],.nil=>rfl
 | _,a::l,.cons h r=>by
  cases h;rw[r.nats];rfl
theorem aH.left{ok:ID->Prop}{H:Hp}{x:V}{left:List Nat}(t:aH ok H x (sI left)):∃a,x=.ref a/\ok a/\H a=GT (.lst (left.map λ(k:Nat)=>As (k:Int)))/\left.length<=1000000:=by
 cases t with
 | lst o e z ts=>
  rw[ts.nats] at e z;rw[AE] at z;exact⟨_,rfl,o,e,z⟩
theorem yZ{ss:Sts}{k:Nat}(h:k<ss.length):ss[k]?=GT (bJ ss k):=by
 unfold bJ;rw[A4,AF h];rfl
theorem aG.stN{ok:ID->Prop}{H:Hp}{xs:List V}{ss:Sts}(t:aG ok H xs (ss.map stD)){k:Nat}(h:k<ss.length):∃a,atI xs (k:Int)=GT (.ref a)/\H a=GT (.tup [.int (bJ ss k).1,.int (bJ ss k).2.1,.int (bJ ss k).2.2]):=by
 have hl:=t.length;rw[AE] at hl;have hx:xs[k]?=GT xs[k]:=AF ω;obtain⟨a,s,h1,_,h2,h3⟩:=t.st hx;rw[yZ h] at h2;cases h2;refine⟨a,?_,h3⟩;rw[<- h1];exact cH hx
def nv(left:List Nat):List V:=left.map λ(k:Nat)=>As (k:Int)
theorem gJ(left:List Nat):(nv left).length=left.length:=by unfold nv;rw[AE]
theorem zU{left:List Nat}{i:Nat}{x:V}(h:(nv left)[i]?=GT x):∃k,left[i]?=GT k/\x=.int (k:Int):=by
 unfold nv at h;rw[AQ] at h;cases e:left[i]? with
 | none=>rw[e] at h;cases h
 | some k=>rw[e] at h;cases h;exact⟨k,rfl,rfl⟩
theorem aaI{left:List Nat}(h:left≠[]):∃k,left.getLast?=GT k/\k∈left/\atI (nv left) (-1)=GT (.int (k:Int)):=by
 obtain⟨a,b,rfl⟩:=rD left (LI.mpr h);refine⟨b,by simp,by simp,?_⟩;have:=RZ (a.map λ(k:Nat)=>(k:Int)) (b:Int);unfold nv;rw[show((a++[b]).map λ(k:Nat)=>As (k:Int))=((a.map λ(k:Nat)=>(k:Int))++[(b:Int)]).map As by simp];exact this
theorem aaJ{left:List Nat}(h:left≠[]):∃k,left.head?=GT k/\k∈left/\atI (nv left) 0=GT (.int (k:Int)):=by
 cases left with
 | nil=>exact absurd rfl h
 | cons a l=>exact⟨a,rfl,A7,cH (j:=0) (show(nv (a::l))[0]?=_ from rfl)⟩
theorem Eu{left:List Nat}{P:Nat->Bool}{i k:Nat}(h:left[i]?=GT k):(left.take (i+1)).filter P=(left.take i).filter P++(if P k=true then [k] else []):=by
 rw[take_snoc h,Me];cases hp:P k with
 | true=>rw[GO hp];rfl
 | false=>rw[GS (by rw[hp];decide)];rfl
theorem acT(a b:List Nat):nv (a++b)=nv a++nv b:=by unfold nv;rw[A6]
theorem iG{ok:ID->Prop}{H:Hp}{a:ID}{left:List Nat}(h:ok a)(e:H a=GT (.lst (nv left)))(hl:left.length<=1000000):aH ok H (.ref a) (sI left):=.lst h e (by rw[gJ];exact hl) (aaN left)
theorem rG{K:AD}{mp:List (Option Nat)}{g:TG}{tc:TT}{te:TE}{σ:St}{H:Hp}{Q:VK}{R:It->Hp->Prop}{a:ID}{left:List Nat}(P:Nat->Bool)(okT:St->Prop)(hR:R=N7 mp g tc te σ Q)(e:H a=GT (.lst (nv left)))(hz:left.length<=1000000)(h0:okT (fM mp σ))
  (hs:∀(i k:Nat) τ (acc:List V) (Pn:List V->St->Hp->Prop),left[i]?=GT k->okT τ->(P k=true->∀τ1,okT τ1->Pn (acc++[As (k:Int)]) τ1 H)->(P k=false->∀τ1,okT τ1->Pn acc τ1 H)->g (.int (k:Int)) τ H λτ1 H4=>tc τ1 H4 λb H5=>if b=true then te τ1 H5 λv H6=>Pn (acc++[v]) τ1 H6 else Pn acc τ1 H5)
  (hd:∀d,H d=Is->Q (.ref d) (upd H d (.lst (nv (left.filter P))))):R (Itl K a) H:=by
 refine jr hR (xs:=nv left) (aM (by rw[gJ];exact hz)) (λi acc τ H'=>H'=H/\acc=nv ((left.take i).filter P)/\okT τ) ⟨rfl,rfl,h0⟩ ?_ ?_ ?_ ?_
 ·rintro i acc τ H' ⟨_,rfl,_⟩;rw[gJ];exact CF (EB _ _) (C9 _ _)
 ·rintro i acc τ H' ⟨rfl,_,_⟩;exact SqL.of e
 ·rintro i x acc τ H' hx ⟨rfl,rfl,ht⟩;obtain⟨k,hk,rfl⟩:=zU hx;refine hs i k τ _ (λacc τ H1=>H1=H'/\acc=nv ((left.take (i+1)).filter P)/\okT τ) hk ht (λhp τ1 h1=>⟨rfl,?_,h1⟩) (λhp τ1 h1=>⟨rfl,?_,h1⟩)
  ·rw[Eu hk,acT,if_pos hp];rfl
  rw[Eu hk,if_neg (by rw[hp];decide),EK]
 rintro acc τ H' d ⟨rfl,rfl,_⟩ hdn;rw[D7 (by rw[gJ];exact AU _)];exact hd d hdn
theorem Ye(xs:List V)(n:Nat)(h:n<=xs.length):jT xs (GT (n:Int)) Is=xs.drop n:=by
 unfold jT;have e1:HT.sIx xs.length 0 (GT (n:Int))=n:=by
  simp only[HT.sIx];split
  ·omega
  omega
 have e2:HT.sIx xs.length xs.length Is=xs.length:=by simp[HT.sIx]
 rw[e1,e2];exact D7 (by rw[F1];exact AU _)
theorem SX{left:List Nat}{k:Nat}(h:left.Pairwise (· < ·)):jT (nv left) (GT ((left.filter (· < k)).length:Int)) Is=nv (left.filter (k<=·)):=by
 rw[Ye _ _ (by rw[gJ];exact EB _ _),<- vH h];unfold nv;rw[map_drop]
theorem aG.dropLast{ok:ID->Prop}{H:Hp}{xs:List V}{ds:List A0}{d:A0}(t:aG ok H xs (ds++[d])):aG ok H xs.dropLast ds/\∃y,xs[xs.length-1]?=GT y/\aH ok H y d:=by
 have hl:=t.length;rw[AV,BG] at hl;constructor
 ·have:=t.take ds.length;rw[List.take_left,show xs.take ds.length=xs.dropLast by rw[List.dropLast_eq_take,hl,IQ]] at this;exact this
 have hx:xs[xs.length-1]?=GT xs[xs.length-1]:=AF ω;obtain⟨d',hd,td⟩:=t.get hx;rw[hl,IQ,B8 (AU _),IP] at hd;cases hd;exact⟨_,hx,td⟩
def bR:Pl->Str
 | .pick _ => "pick"
 | .one _ _ => "is"
 | .wit _ _ => "within"
 | .low _ _ _ => "below"
 | .msk _ _ => "mask"
 | .tab => "table"
def aeQ:Pl->Nat
 | .pick _=>0
 | .one _ _=>0
 | .wit _ _=>1
 | .low _ _ _=>2
 | .msk _ _=>3
 | .tab=>4
def Dt:List Str:=["is","within","below","mask","table"]
theorem uy{zs:List Int}{i:Nat}(h:i<zs.length):atI (zs.map As) (i:Int)=GT (.int (zs.getD i 0)):=by
 refine cH ?_;rw[AQ,AF h,A4,AF h];rfl
theorem Ez{K:AD}{mp:List (Option Nat)}{g:TG}{tc:TT}{te:TE}{σ:St}{H:Hp}{Q:VK}{R:It->Hp->Prop}{a:ID}{left:List Nat}(fI:Nat->Int)(okT:St->Prop)(hR:R=N7 mp g tc te σ Q)(e:H a=GT (.lst (nv left)))(hz:left.length<=1000000)(h0:okT (fM mp σ))
  (hs:∀(i k:Nat) τ (acc:List V) (Pn:List V->St->Hp->Prop),left[i]?=GT k->okT τ->(∀τ1,okT τ1->Pn (acc++[As (fI k)]) τ1 H)->g (.int (k:Int)) τ H λτ1 H4=>tc τ1 H4 λb H5=>if b=true then te τ1 H5 λv H6=>Pn (acc++[v]) τ1 H6 else Pn acc τ1 H5)
  (hd:∀d,H d=Is->Q (.ref d) (upd H d (.lst ((left.map fI).map As)))):R (Itl K a) H:=by
 refine jr hR (xs:=nv left) (aM (by rw[gJ];exact hz)) (λi acc τ H'=>H'=H/\acc=((left.take i).map fI).map As/\okT τ) ⟨rfl,rfl,h0⟩ ?_ ?_ ?_ ?_
 ·rintro i acc τ H' ⟨_,rfl,_⟩;rw[AE,AE];exact C9 _ _
 ·rintro i acc τ H' ⟨rfl,_,_⟩;exact SqL.of e
 ·rintro i x acc τ H' hx ⟨rfl,rfl,ht⟩;obtain⟨k,hk,rfl⟩:=zU hx;refine hs i k τ _ (λacc τ H1=>H1=H'/\acc=((left.take (i+1)).map fI).map As/\okT τ) hk ht (λτ1 h1=>⟨rfl,?_,h1⟩);rw[take_snoc hk,A6,A6];rfl
 rintro acc τ H' d ⟨rfl,rfl,_⟩ hdn;rw[D7 (by rw[gJ];exact AU _)];exact hd d hdn
theorem Ph(l:List Nat):(nv l).all iQ=true:=by
 unfold nv;rw[all_map,LD];intro x _;rfl
section
variable {X:Cx}{e o:Expr}{te to:TE}{pos:Pos}
def aeS(xs:List V)(y:V)(n:Nat):Prop:=(∃(is:List Int)(i:Int),xs=is.map As/\y=.int i/\n=is.count i)\/(∃(ws:List Str)(w:Str),xs=ws.map At/\y=.str w/\n=ws.count w)
def abv(K:AD)(to te:TE):TE:=λσ H Q=>to σ H λx H1=>∃(p:ID),x=.ref p/\(∃xs,SqL K H1 p xs)/\te σ H1 λy H2=>∃(xs:List V)(n:Nat),SqL K H2 p xs/\aeS xs y n/\Q (.int (n:Nat)) H2
theorem Ko{ws:List Int}{its:List Ap}(r:Vals (ws.map As) its){i:Nat}{v:Ap}(h:its[i]?=GT v):∃w t,ws[i]?=GT w/\v=DO w t:=by
 have hl:=r.length;rw[AE] at hl;have hi:=(AM.mp h).1;have hx:(ws.map As)[i]?=GT (As ws[i]):=by rw[AQ,AF ω];rfl
 obtain⟨u,hu,ru⟩:=r.get hx;rw[hu] at h;cases h;obtain⟨t,rfl⟩:=ru;exact⟨ws[i],t,AF ω,rfl⟩
def isI(w:Int):Ap->Bool
 | .int z _=>z == w
 | _=>false
def isS(w:Str):Ap->Bool
 | .str z _=>z == w
 | _=>false
theorem cnt_ints(w:Int):∀{is:List Int}{its:List Ap},Vals (is.map As) its->its.countP (isI w)=is.count w
 | [],_,.nil=>rfl
 | i::is,_,.cons r rs=>by
  obtain⟨t,rfl⟩:=r;rw[List.countP_cons,List.count_cons,cnt_ints w rs];rfl
theorem cnt_strs(w:Str):∀{is:List Str}{its:List Ap},Vals (is.map At) its->its.countP (isS w)=is.count w
 | [],_,.nil=>rfl
 | i::is,_,.cons r rs=>by
  obtain⟨t,rfl⟩:=r;rw[List.countP_cons,List.count_cons,cnt_strs w rs];rfl
theorem aas{apos cpos:Pos}(hu:X.A.in1.units<FU)(ho:PE X o to)(he:PE X e te)
  (hbase:DM o "count" X.env (eval o X.env)=eval o X.env:=by rfl)
   (hfew:((CS cpos (AH [e] X.env)).all (λx=>!x.1)&&(Hb cpos (Ff [] X.env)).all (λx=>x.1.isSome)
   && decide ([e].length+([]:List EJ).length+(if ([]:List EJ).isEmpty then 0 else 1)<30))=true:=by rfl)
  (hline:(apos.endLine == cpos.line)=true:=by rfl) (hs:AH [e] X.env=(false,eval e X.env)::AH [] X.env:=by rfl) (hplain:(CS cpos (AH [] X.env)).any (·.1)=false:=by rfl) :
  PE X (.Call (.Attribute o "count" apos) [e] [] cpos) (abv X.K to te):=by
 intro pins s σ H Q I h;refine ES hbase hfew hline Z (thE (ho pins s σ H _ I h) λv s1 x H1 I1 r1 q=>?_);obtain⟨p,rfl,⟨xs0,hq⟩,q⟩:=q;obtain⟨h1,h2⟩:=pK (T := "list") I1 r1 (.inl ⟨rfl,_,hq⟩);refine⟨"list","list.count",D0,PySem.F.slot_list_count,PySem.F.type_list_count,h1,h2,?_⟩;rw[hs];refine DC (by show(false||(CS cpos (AH [] X.env)).any (·.1))=false;rw[hplain] <;> rfl) (EG ?_)
 refine B9 (thn (he pins s1 σ H1 _ I1 q) λu s2 ⟨y,H2,I2,r2,xs,n,hq2,hc,q3⟩=>B6 ?_);cases r1;obtain⟨its,rv,pl,hz⟩:=I2.list hq2;obtain⟨ob,nn,eo,ec,ed,es⟩:=pl;cases ob with
 | mk cls dict data slots=>
  cases ec;cases es;rcases hc with⟨is,i,rfl,rfl,rfl⟩|⟨ws,w,rfl,rfl,rfl⟩
  ·obtain⟨t,rfl⟩:=r2;refine EA F.slot_list_count ⟨_,eo,rfl⟩ F.entry_list_count (F.args_list_count_2 _ _) (SeqAt.list_countAt p its.toArray nn _ _ _ (isI i)) ⟨eo,λy hy=>?_,?_⟩
   ·have hy':y∈its:=by simpa using hy
    obtain⟨m,hm,em⟩:=D9.mp hy';obtain⟨w',t',h1,h2⟩:=Ko rv (AF hm);rw[em] at h2;rw[h2];exact BF.int_int w' t' i t
   rw[show its.toArray.toList=its from rfl,cnt_ints i rv];exact⟨.int (is.count i:Nat),H2,I2.tok _,⟨_,rfl⟩,q3⟩
  obtain⟨t,rfl⟩:=r2;refine EA F.slot_list_count ⟨_,eo,rfl⟩ F.entry_list_count (F.args_list_count_2 _ _) (SeqAt.list_countAt p its.toArray nn _ _ _ (isS w)) ⟨eo,λy hy=>?_,?_⟩
  ·have hy':y∈its:=by simpa using hy
   obtain⟨m,hm,em⟩:=D9.mp hy';obtain⟨w',t',h1,h2⟩:=ni rv (AF hm);rw[em] at h2;rw[h2];exact BF.str_str w' t' w t
  rw[show its.toArray.toList=its from rfl,cnt_strs w rv];exact⟨.int (ws.count w:Nat),H2,I2.tok _,⟨_,rfl⟩,q3⟩
theorem O4(K:AD){apos cpos:Pos}(hu:X.A.in1.units<FU)(ho:QE X o to)(he:QE X e te)(hK:X.K=K:=by rfl)
  (hbase:DM o "count" X.env (eval o X.env)=eval o X.env:=by rfl)
  (hfew:((CS cpos (AH [e] X.env)).all (λx=>!x.1)&&(Hb cpos (Ff [] X.env)).all (λx=>x.1.isSome)
   && decide ([e].length+([]:List EJ).length+(if ([]:List EJ).isEmpty then 0 else 1)<30))=true:=by rfl)
  (hline:(apos.endLine == cpos.line)=true:=by rfl) (hs:AH [e] X.env=(false,eval e X.env)::AH [] X.env:=by rfl) (hplain:(CS cpos (AH [] X.env)).any (·.1)=false:=by rfl) :
  QE X (.Call (.Attribute o "count" apos) [e] [] cpos) (abv K to te):=by
 subst hK;exact⟨aas hu ho.h he.h hbase hfew hline hs hplain⟩
end
theorem ZD(K:AD){X:Cx}{tg l:Expr}{tl:TE}(hl:QE X l tl)(hK:X.K=K:=by rfl):QI X tg l (Qc K tl):=by
 subst hK;exact cj hl
def sumK(ws:List Int)(left:List Nat):Int:=(left.map λk=>ws.getD k 0).sum
def dI(ws zs:List Int)(left:List Nat):Pl->Int
 | .pick _=>0
 | p=>zs.getD (aeQ p) 0*sumK ws left
def Few(zs:List Int):Prop:=∀z∈zs,-(2^40)<z/\z<2^40
def U3:Sp:=λvs H Q _=>∃(s p:V)(wa z:ID)(ok:ID->Prop)(ss:Sts)(ws zs:List Int)(pl:Pl),vs=[s,.ref wa,.ref z,p]/\gF ok H/\aH ok H s (.list (ss.map stD))/\aH ok H p (plD pl)/\H wa=GT (.lst (ws.map As))/\ws.length=ss.length/\H z=GT (.tup (zs.map As))/\zs.length=5/\Few zs/\ss.length<=60/\dw pl<=4000/\Dk ss pl (Bi ss.length) /\
 ∀H',Same H H'->Q (.int (nF ss (dI ws zs) pl (Bi ss.length))) H'
def dY(ss:Sts)(k:Nat):Pl->List Nat
 | .pick _=>[]
 | .tab=>[4]
 | .one j r=>0::(if k=j then [] else dY ss k r)
 | .wit j r=>1::(if k=j then [] else dY ss k r)
 | .low j a b=>2::(if k<j then dY ss k a else dY ss k b)
 | .msk l r=>3::(if (bJ ss k).2.2=l then [] else dY ss k r)
def rN(zs:List Int)(w:List Nat):Int:=(w.map λi=>zs.getD i 0).sum
theorem mL(zs:List Int)(i:Nat)(w:List Nat):rN zs (i::w)=zs.getD i 0+rN zs w:=by
 unfold rN;rw[CB,Fc]
theorem qU(P:Nat->Bool)(f:Nat->Int):∀left:List Nat,((left.filter P).map f).sum=(left.map λk=>if P k=true then f k else 0).sum
 | []=>rfl
 | a::left=>by
  rw[CB,Fc,<- qU P f left];cases h:P a with
  | true=>rw[GO h,CB,Fc,if_pos rfl]
  | false=>rw[GS (by rw[h];decide),if_neg δ,Int.zero_add]
theorem mj(f g:Nat->Int):∀left:List Nat,(left.map f).sum+(left.map g).sum=(left.map λk=>f k+g k).sum
 | []=>rfl
 | a::left=>by
  rw[CB,CB,CB,Fc,Fc,Fc,<- mj f g left];omega
theorem j8(c:Int)(f:Nat->Int):∀left:List Nat,c*(left.map f).sum=(left.map λk=>c*f k).sum
 | []=>mul_zero c
 | a::left=>by
  rw[CB,CB,Fc,Fc,<- j8 c f left,mul_add]
def J3(ss:Sts)(ws zs:List Int)(pl:Pl)(left:List Nat):Int:=(left.map λk=>ws.getD k 0*rN zs (dY ss k pl)).sum
theorem kJ(ss:Sts)(ws zs:List Int):∀(pl:Pl)(left:List Nat),nF ss (dI ws zs) pl left=J3 ss ws zs pl left
 | .pick l,left=>by
  show(0:Int)=(left.map λk=>ws.getD k 0*0).sum
  induction left with
  | nil=>rfl
  | cons a left ih=>rw[CB,Fc,<- ih,mul_zero,Kt]
 | .tab,left=>by
  show zs.getD 4 0*sumK ws left=(left.map λk=>ws.getD k 0*(zs.getD 4 0+0)).sum;unfold sumK;rw[j8];congr 1;apply C4;intro k _;rw[Kt,EM]
 | .one j r,left=>by
  show zs.getD 0 0*sumK ws left+nF ss (dI ws zs) r (left.filter (·≠j))=_;rw[kJ ss ws zs r];unfold sumK J3;rw[j8,qU,mj];congr 1;apply C4;intro k _;show _=ws.getD k 0*rN zs (0::(if k=j then [] else dY ss k r));rw[mL,mul_add];by_cases h:k=j
  ·rw[if_pos h,if_neg (by simpa using h),show rN zs []=0 from rfl,mul_zero,EM]
  rw[if_neg h,if_pos (by simpa using h),EM (zs.getD 0 0)]
 | .wit j r,left=>by
  show zs.getD 1 0*sumK ws left+nF ss (dI ws zs) r (left.filter (·≠j))=_;rw[kJ ss ws zs r];unfold sumK J3;rw[j8,qU,mj];congr 1;apply C4;intro k _;show _=ws.getD k 0*rN zs (1::(if k=j then [] else dY ss k r));rw[mL,mul_add];by_cases h:k=j
  ·rw[if_pos h,if_neg (by simpa using h),show rN zs []=0 from rfl,mul_zero,EM]
  rw[if_neg h,if_pos (by simpa using h),EM (zs.getD 1 0)]
 | .msk l r,left=>by
  show zs.getD 3 0*sumK ws left+nF ss (dI ws zs) r (left.filter λk=>(bJ ss k).2.2≠l)=_;rw[kJ ss ws zs r];unfold sumK J3;rw[j8,qU,mj];congr 1;apply C4;intro k _;show _=ws.getD k 0*rN zs (3::(if (bJ ss k).2.2=l then [] else dY ss k r));rw[mL,mul_add];by_cases h:(bJ ss k).2.2=l
  ·rw[if_pos h,if_neg (by simpa using h),show rN zs []=0 from rfl,mul_zero,EM]
  rw[if_neg h,if_pos (by simpa using h),EM (zs.getD 3 0)]
 | .low j a b,left=>by
  show zs.getD 2 0*sumK ws left+nF ss (dI ws zs) a (left.filter (· < j))+nF ss (dI ws zs) b (left.filter (j<=·))=_;rw[kJ ss ws zs a,kJ ss ws zs b];unfold sumK J3;rw[j8,qU,qU,mj,mj];congr 1;apply C4;intro k _;show _=ws.getD k 0*rN zs (2::(if k<j then dY ss k a else dY ss k b));rw[mL,mul_add];by_cases h:k<j
  ·rw[if_pos h,if_pos (by simpa using h),if_neg (by simp;omega),EM (zs.getD 2 0),Kt]
  rw[if_neg h,if_neg (by simpa using h),if_pos (by simp;omega),EM (zs.getD 2 0),Kt]
def iH(i:Nat):Str:=Dt.getD i ""
def abw:Sp:=λvs H Q _=>∃(s p:V)(k:Nat)(ok:ID->Prop)(ss:Sts)(pl:Pl)(left:List Nat),vs=[s,p,.int (k:Int)]/\gF ok H/\aH ok H s (.list (ss.map stD))/\aH ok H p (plD pl)/\Dk ss pl left/\k<ss.length/\dw pl<=4000 /\
 ∀(a:ID) H',Same H H'->ok a->H a=Is->H' a=GT (.lst ((dY ss k pl).map λi=>At (iH i)))->Q (.ref a) H'
def DQ:Sp:=λvs H Q _=>∃(p:ID)(B:Int),vs=[.ref p,.int 5]/\bQ H p B/\0<=B/\B<=900000 /\
 ∀(t:ID)(zs:List Int) H',bY p H H'->bQ H' p (B+20)->t≠p->H t=Is->H' t=GT (.tup (zs.map As))->zs.length=5->(∀z∈zs,1<=z/\z<=99)->Q (.ref t) H'
def Dz:Sp:=λvs H Q _=>∃(p:ID)(m:Nat)(B:Int),vs=[.ref p,.int (m:Int)]/\bQ H p B/\0<=B/\B<=900000/\m<=60 /\
 ∀(l:ID)(ws:List Int) H',bY p H H'->bQ H' p (B+130)->l≠p->H l=Is->H' l=GT (.lst (ws.map As))->ws.length=m->(∀z∈ws,0<=z/\z<=1000000)->Q (.ref l) H'
def lbl(ss:Sts)(k:Nat):Int:=(bJ ss k).2.2
def vU(ss:Sts):Pl->List Nat->List (List Nat×Pl)
 | .pick l,left=>[(left,.pick l)]
 | .tab,left=>[(left,.tab)]
 | .one k r,left=>(left,.one k r)::vU ss r (left.filter (·≠k))
 | .wit k r,left=>(left,.wit k r)::vU ss r (left.filter (·≠k))
 | .low k a b,left=>(left,.low k a b)::(vU ss b (left.filter (k<=·))++vU ss a (left.filter (· < k)))
 | .msk l r,left=>(left,.msk l r)::vU ss r (left.filter λk=>(bJ ss k).2.2≠l)
def VL(ss:Sts)(left:List Nat):Pl->Prop
 | .pick l=>∀k∈left,lbl ss k=l
 | .tab=>cU ss left<=200
 | .one k _=>k∈left/\(bJ ss k).1=(bJ ss k).2.1
 | .wit k _=>k∈left
 | .low k _ _=>k∈left
 | .msk l _=>cU ss left<=64/\∃k∈left,lbl ss k=l
def PlV(ss:Sts):Pl->List Nat->Prop
 | .pick l,left=>Lf ss left/\VL ss left (.pick l)
 | .tab,left=>Lf ss left/\VL ss left .tab
 | .one k r,left=>(Lf ss left/\VL ss left (.one k r))/\PlV ss r (left.filter (·≠k))
 | .wit k r,left=>(Lf ss left/\VL ss left (.wit k r))/\PlV ss r (left.filter (·≠k))
 | .low k a b,left=>(Lf ss left/\VL ss left (.low k a b))/\PlV ss a (left.filter (· < k))/\PlV ss b (left.filter (k<=·))
 | .msk l r,left=>(Lf ss left/\VL ss left (.msk l r))/\PlV ss r (left.filter λk=>(bJ ss k).2.2≠l)
theorem PlV.ok{ss:Sts}:∀{p:Pl}{left:List Nat},PlV ss p left->Dk ss p left
 | .pick l,left,h=>h.1
 | .tab,left,h=>h.1
 | .one k r,left,h=>⟨h.1.1,PlV.ok h.2⟩
 | .wit k r,left,h=>⟨h.1.1,PlV.ok h.2⟩
 | .msk k r,left,h=>⟨h.1.1,PlV.ok h.2⟩
 | .low k a b,left,h=>⟨h.1.1,PlV.ok h.2.1,PlV.ok h.2.2⟩
def rH:Pl->Nat->List (Nat×Nat)
 | .pick _,_=>[]
 | .tab,_=>[]
 | .one _ r,p=>rH r (p+1)
 | .wit _ r,p=>rH r (p+1)
 | .msk _ r,p=>rH r (p+1)
 | .low _ a b,p=>rH b (p+1)++(p,p+1+dw b)::rH a (p+1+dw b)
theorem mJ(p:Pl):1<=dw p:=by cases p <;> simp[dw]
def adg:List Pl->List Nat->Nat->List (Nat×Nat)
 | [],_,_=>[]
 | c::rest,T,p=>rH c p++(match T with | []=>[]|t::T'=>match rest with | []=>[]|_::_=>(t,p+dw c)::adg rest T' (p+dw c))
theorem vQ(ss:Sts)(k:Nat):∀(pl:Pl),∀i∈dY ss k pl,i<5
 | .pick _,i,h=>absurd h BA
 | .tab,i,h=>by rw[AL.mp h];decide
 | .one j r,i,h=>by
  rcases A1.mp h with h|h
  ·omega
  by_cases c:k=j
  ·rw[if_pos c] at h;exact absurd h BA
  rw[if_neg c] at h;exact vQ ss k r i h
 | .wit j r,i,h=>by
  rcases A1.mp h with h|h
  ·omega
  by_cases c:k=j
  ·rw[if_pos c] at h;exact absurd h BA
  rw[if_neg c] at h;exact vQ ss k r i h
 | .msk l r,i,h=>by
  rcases A1.mp h with h|h
  ·omega
  by_cases c:(bJ ss k).2.2=l
  ·rw[if_pos c] at h;exact absurd h BA
  rw[if_neg c] at h;exact vQ ss k r i h
 | .low j a b,i,h=>by
  rcases A1.mp h with h|h
  ·omega
  by_cases c:k<j
  ·rw[if_pos c] at h;exact vQ ss k a i h
  rw[if_neg c] at h;exact vQ ss k b i h
theorem Mw(l:List Int):(l.map As).all iQ=true:=by
 rw[all_map,LD];intro x _;rfl
theorem Yi{K:AD}{mp:List (Option Nat)}{g:TG}{tc:TT}{te:TE}{σ:St}{H:Hp}{Q:VK}{R:It->Hp->Prop}{a:ID}{w:List Nat}(fI:Nat->Int)(okT:St->Prop)(hR:R=N7 mp g tc te σ Q)(e:H a=GT (.lst (w.map λi=>At (iH i))))(hz:w.length<=1000000)(h0:okT (fM mp σ))
  (hs:∀(i:Nat)(z:Nat) τ (acc:List V) (Pn:List V->St->Hp->Prop),w[i]?=GT z->okT τ->(∀τ1,okT τ1->Pn (acc++[As (fI z)]) τ1 H)->g (.str (iH z)) τ H λτ1 H4=>tc τ1 H4 λb H5=>if b=true then te τ1 H5 λv H6=>Pn (acc++[v]) τ1 H6 else Pn acc τ1 H5)
  (hd:∀d,H d=Is->Q (.ref d) (upd H d (.lst ((w.map fI).map As)))):R (Itl K a) H:=by
 refine jr hR (xs:=w.map λi=>At (iH i)) (aM (by rw[AE];exact hz)) (λi acc τ H'=>H'=H/\acc=((w.take i).map fI).map As/\okT τ) ⟨rfl,rfl,h0⟩ ?_ ?_ ?_ ?_
 ·rintro i acc τ H' ⟨_,rfl,_⟩;rw[AE,AE];exact C9 _ _
 ·rintro i acc τ H' ⟨rfl,_,_⟩;exact SqL.of e
 ·rintro i x acc τ H' hx ⟨rfl,rfl,ht⟩;rw[AQ] at hx;cases hk:w[i]? with
  | none=>rw[hk] at hx;cases hx
  | some z=>
   rw[hk] at hx;cases hx;refine hs i z τ _ (λacc τ H1=>H1=H'/\acc=((w.take (i+1)).map fI).map As/\okT τ) hk ht (λτ1 h1=>⟨rfl,?_,h1⟩);rw[take_snoc hk,A6,A6];rfl
 rintro acc τ H' d ⟨rfl,rfl,_⟩ hdn;rw[D7 (by rw[AE];exact AU _)];exact hd d hdn
theorem qR(ss:Sts)(k:Nat):∀pl:Pl,(dY ss k pl).length<=dw pl
 | .pick _=>DJ _
 | .tab=>AU _
 | .one j r=>by
  have:=qR ss k r;show(0::(if k=j then [] else dY ss k r)).length<=dw r+1;split <;> simp <;> omega
 | .wit j r=>by
  have:=qR ss k r;show(1::(if k=j then [] else dY ss k r)).length<=dw r+1;split <;> simp <;> omega
 | .msk l r=>by
  have:=qR ss k r;show(3::(if (bJ ss k).2.2=l then [] else dY ss k r)).length<=dw r+1;split <;> simp <;> omega
 | .low j a b=>by
  have:=qR ss k a;have:=qR ss k b;show(2::(if k<j then dY ss k a else dY ss k b)).length<=dw a+dw b+1;split <;> simp <;> omega
theorem adn(xs:List V)(n:Nat)(h:n<=xs.length):jT xs Is (GT (n:Int))=xs.take n:=by
 unfold jT;have e1:HT.sIx xs.length 0 Is=0:=by simp[HT.sIx]
 have e2:HT.sIx xs.length xs.length (GT (n:Int))=n:=by
  simp only[HT.sIx];split
  ·omega
  omega
 rw[e1,e2];rfl
theorem Ho:typeLookup (EQ "zip") (A8 "keys")=pure Is:=am_miss_of_fast (by rfl)
theorem yR:typeLookup (EQ "zip") (A8 "__getattr__")=pure Is:=am_miss_of_fast (by rfl)
theorem wB(a:ID)(vs:Array Ap)(u:Tok):Meets (AI.«object.__getattribute__» { pos:=[Do a,Ap.str (A8 "keys") u] }) λA R s=>
  s.heap.get? a=GT { cls:=EQ "zip",data:=Co vs }/\raisesAttr (Do a) (A8 "keys") A R s:=by
 refine LF λprog w A R s hs=>?_;obtain⟨hp,g,d,tk,os⟩:=s;obtain⟨hx,hr⟩:=hs;have hT:(⟨hp,g,d,tk,os⟩:AA).TypeIs (Do a) "zip" := ⟨_,hx,rfl⟩;unfold AI.«object.__getattribute__» slotArgs;refine An (BD Z (BD Z (Au ?_)));refine An ?_;show AG _ _ (pure (A8 "keys")) _ _ _;refine Au ?_;refine An (E9 hT ?_);refine An ?_;unfold AI.ObjectAttr.find;refine An (Cs Ho ?_);refine An ?_;show AG _ _ (pure Is) _ _ _;refine Au (An ?_);show AG _ _ (pure Is) _ _ _;refine Au ?_;show AG _ _ (AI.ObjectAttr.ownThenClass (Do a) (A8 "keys") Is Is) _ _ _;unfold AI.ObjectAttr.ownThenClass;refine An ?_;unfold AI.ObjectAttr.inOwnDict;refine An ?_;unfold AI.ObjectAttr.ownDict;refine An (GH hx ?_);show AG _ _ (instanceDict a false) _ _ _;unfold instanceDict;refine An (GH hx (EH Z (Au ?_)));show AG _ _ (pure Is) _ _ _;refine Au ?_;show AG _ _ (AI.ObjectAttr.copiedAttributeGuard (A8 "keys") (Do a) >>= _) _ _ _;refine An ?_;unfold AI.ObjectAttr.copiedAttributeGuard;refine BD δ (Au ?_);show AG _ _ (rule _ >>= _) _ _ _;refine An (CY (Au ?_));refine BD Z ?_;refine BD Z ?_;show AG _ _ (typeNameOfCut 100 (Do a) >>= _) _ _ _;refine An ?_;show AG _ _ (shownTypeOf (Do a) >>= _) _ _ _;refine An ?_;show AG _ _ (typeOf (Do a) >>= _) _ _ _;refine An (E9 hT ?_);refine BD Z (Au ?_);show AG _ _ (pure _) _ _ _;refine Au ?_;exact wpAny_raiseAttrError hr.1 hr.2 (attrMsg_fits δ δ)
theorem G7:IR table "zip.__getattribute__" = GT AI.«object.__getattribute__»:=LL (id' := "object.__getattribute__") (by rfl) ψ ψ (by rfl)
theorem Ce{prog:AR}{w:A9}{A:A5}{E:Ap->AA->Prop}{s:AA}{a:ID}{vs:Array Ap}{Q:Option Ap->AA->Prop}(hh:A.handled=Is)(hx:s.heap.get? a=GT { cls:=EQ "zip",data:=Co vs })
  (h:∀(h':Heap)(tk:Nat),(∀c o,s.heap.get? c=GT o->h'.get? c=GT o)->Q Is { s with heap:=h',toks:=tk }):AG (AJ prog w) A (getAttr? (Do a) (A8 "keys")) Q E s:=by
 obtain⟨hp,g,d,tk,os⟩:=s;have hT:∀tk,(⟨hp,g,d,tk,os⟩:AA).TypeIs (Do a) "zip" := λ_=>⟨_,hx,rfl⟩;unfold getAttr? mkText;refine An (An (wpAny_fresh' (Au ?_)));unfold getAttrBy?;refine An (De ?_);unfold getAttrBy;refine BH (An (E9 (hT _) ?_));refine An (Cs Kx.lookup ?_);show AG _ _ (ite _ _ _) _ _ _;refine BD Z ?_;unfold getAttrByItsOwn hookBefore;refine An (BD Z (Au ?_));refine An (De (BH ?_));unfold callGetattribute;refine BD Z ?_;unfold boundAndCalled;refine An (Cs (Kx.bind (Do a)) ?_);refine EA Kx (hT _) G7 (F.args_zip_getattribute_2 _ _) (wB a vs _) ⟨hx,hh,λh' tk' e ne=>?_⟩;obtain⟨t,u,he⟩:=ne.there;have hTe:(⟨h',g,d,tk',os⟩:AA).TypeIs (Do e) "AttributeError" := ⟨_,he,rfl⟩;unfold getattributeRaised;refine An (EV hTe sub_AttributeError (EH Z ?_));unfold hookBehind;refine An (BD Z (Cs yR ?_));show AG _ _ (throw (Do e) >>= _) _ _ _;refine An (wpAny_throw ?_);show AG _ _ (isInstance (Do e) (EQ "AttributeError") >>= _) _ _ _;refine An (EV hTe sub_AttributeError (EH Z (Au ?_)));exact h h' tk' λc o e=>ne.keeps c o e
def Wlk(h:Heap)(i l:ID)(k:Nat)(xs:Array Ap):Prop:=(h.IsTupleIter i l k/\h.IsTuple l xs)\/(h.IsListIter i l k/\h.IsList l xs)
theorem Wlk.keep{h h':Heap}{i l:ID}{k:Nat}{xs:Array Ap}(I:Wlk h i l k xs)(ki:∀o,h.get? i=GT o->h'.get? i=GT o)(kl:∀o,h.get? l=GT o->h'.get? l=GT o):Wlk h' i l k xs:=by
 rcases I with⟨a,o,e,r⟩|⟨a,o,e,r⟩
 ·exact .inl ⟨a.at ki,o,kl o e,r⟩
 exact .inr ⟨a.at ki,o,kl o e,r⟩
theorem Wlk.item{prog:AR}{w:A9}{A:A5}{E:Ap->AA->Prop}{s:AA}{i l:ID}{k:Nat}{xs:Array Ap}{x:Ap}{Q:Ap->AA->Prop}(I:Wlk s.heap i l k xs)(hl:l≠i)(hx:xs[k]?=GT x)
  (hQ:∀h',Wlk h' i l (k+1) xs->B3 i s.heap h'->Q x { s with heap:=h' }):AG (AJ prog w) A (AI.SmallTypes.nextOf (Do i)) Q E s:=by
 rcases I with⟨a,b⟩|⟨a,b⟩
 ·refine dJ a b hx λh' h1 sb=>hQ h' (.inl ⟨h1,?_⟩) sb;obtain⟨o,e,r⟩:=b;exact⟨o,(sb.2 l hl).trans e,r⟩
 refine wpAny_nextOf_list_item a b hx λh' h1 sb=>hQ h' (.inr ⟨h1,?_⟩) sb;obtain⟨o,e,r⟩:=b;exact⟨o,(sb.2 l hl).trans e,r⟩
theorem Wlk.last{prog:AR}{w:A9}{A:A5}{E:Ap->AA->Prop}{s:AA}{i l:ID}{k:Nat}{xs:Array Ap}{Q:Ap->AA->Prop}(hh:A.handled=Is)(I:Wlk s.heap i l k xs)(hx:xs[k]?=Is)
  (hE:∀h' e,Heap.ExtBut i s.heap h'->(∃o,h'.get? e=GT o/\o.cls=EQ "StopIteration")->E (.ref e) { s with heap:=h' }):AG (AJ prog w) A (AI.SmallTypes.nextOf (Do i)) Q E s:=by
 rcases I with⟨a,b⟩|⟨a,b⟩
 ·exact gB hh a b hx hE
 exact wpAny_nextOf_list_end hh a b hx hE
theorem T5{M:Model}{A:A5}{E:Ap->AA->Prop}{s:AA}{a:ID}{Q:Option Obj->AA->Prop}(h:Q (s.heap.get? a) s):AG M A (loadIfAlive a) Q E s:=by
 intro Γ p hΓ;show Sem.wp M Γ (Sem.loadIfAlive a Sem.pure) _ _ p s;rw[Sem.wp_loadIfAlive];exact h
@[reducible] def lE (h:Heap) (z TI TO a:ID) (b:Bool):Prop:=h.get? z=GT { cls:=EQ "zip",data:=Co #[C0 a,GE b,GE false,Do TI,Do TO] }
theorem JM{prog:AR}{w:A9}{A:A5}{E:Ap->AA->Prop}{s:AA}{z TI TO a:ID}{b:Bool}{o:Obj}{Q:Bool->AA->Prop}(hz:lE s.heap z TI TO a b)(ha:s.heap.get? a=GT o)
  (hQ:∀h',lE h' z TI TO a true->B3 z s.heap h'->Q false { s with heap:=h' }):AG (AJ prog w) A (AI.SmallTypes.ownedTupleIsFree (Do z)) Q E s:=by
 unfold AI.SmallTypes.ownedTupleIsFree;refine An (BO hz Z Z ?_);show AG _ _ (loadIfAlive ((a:Int).toNat) >>= _) _ _ _;refine An (T5 ?_);rw[show((a:Int).toNat)=a from Fs a,ha];refine BD Z ?_;refine An (BO hz Z Z ?_);cases b with
 | true=>
  refine BD Z (Au ?_);exact hQ s.heap hz ⟨rfl,λ_ _=>rfl⟩
 | false=>
  refine EH Z ?_;refine An (B0 hz (EU (ET 3)) λh' hz' hs'=>Au ?_);exact hQ h' hz' hs'
theorem YF{prog:AR}{w:A9}{A:A5}{E:Ap->AA->Prop}{s:AA}{z TI TO i1 i2 l1 l2 a:ID}{ob:Bool}{k1 k2:Nat}{xs ys:Array Ap}{x y:Ap}{o:Obj}{Q:Ap->AA->Prop}(D:EL z TI TO i1 i2 l1 l2)(hz:lE s.heap z TI TO a ob)(ha:s.heap.get? a=GT o)(hTI:Cn s.heap TI (Do i1) (Do i2))
  (h1:Wlk s.heap i1 l1 k1 xs)(h2:Wlk s.heap i2 l2 k2 ys)(hx:xs[k1]?=GT x)(hy:ys[k2]?=GT y)
  (hQ:∀h':Heap,lE h' z TI TO a true->Wlk h' i1 l1 (k1+1) xs->Wlk h' i2 l2 (k2+1) ys->Cn h' s.heap.objs.size x y->h'.objs.size=s.heap.objs.size+1->(∀c o,c≠z->c≠i1->c≠i2->s.heap.get? c=GT o->h'.get? c=GT o)->Q (Do s.heap.objs.size) { s with heap:=h' }) :
  AG (AJ prog w) A (AI.«zip.__next__» { pos:=[Do z] }) (λfin s'=>∃v,fin=Fin.done (Flow.ret v)/\Q v s') E s:=by
 show AG _ _ (Kj (Do z) 2 >>= _) _ _ _;refine An (BO hz Z Z ?_);show AG _ _ (Kj (Do z) 3 >>= _) _ _ _;refine An (BO hz Z Z ?_);refine An (B4 hTI Z ?_);show AG _ _ (AI.SmallTypes.ownedTupleIsFree (Do z) >>= _) _ _ _;refine An (JM hz ha λh₁ hz₁ hs₁=>?_);refine BD Z ?_;have old1:∀c o,c≠z->s.heap.get? c=GT o->h₁.get? c=GT o:=λc o hc e=>(hs₁.2 c hc).trans e;have h1a:=h1.keep (h':=h₁) (λo e=>old1 i1 o D.i1z e) (λo e=>old1 l1 o D.l1z e);show AG _ _ (forIn #[Do i1,Do i2] (Is,#[]) _ >>= _) _ _ _;refine An ?_;rw[<- Array.forIn_toList];show AG _ _ (forIn [Do i1,Do i2] (Is,#[]) _) _ _ _;rw[DI];refine An ?_;show AG _ _ (EN [] (AI.SmallTypes.nextOf (Do i1) >>= λv=>pure (GT v)) >>= _) _ _ _;refine An (BH (An (h1a.item (s:={ s with heap:=h₁ }) D.l1i1 hx λh₂ h1b sb₂=>Au ?_)));have old2:∀c o,c≠z->c≠i1->s.heap.get? c=GT o->h₂.get? c=GT o:=λc o hc hc1 e=>(sb₂.2 c hc1).trans (old1 c o hc e);refine Au ?_;show AG _ _ (forIn [Do i2] (Is,#[x]) _) _ _ _;rw[DI];refine An ?_;have h2a:=h2.keep (h':=h₂) (λo e=>old2 i2 o D.i2z (BC D.i12) e) (λo e=>old2 l2 o D.l2z D.l2i1 e);show AG _ _ (EN [x] (AI.SmallTypes.nextOf (Do i2) >>= λv=>pure (GT v)) >>= _) _ _ _;refine An (BH (An (h2a.item (s:={ s with heap:=h₂ }) D.l2i2 hy λh₃ h2b sb₃=>Au ?_)));have old3:∀c o,c≠z->c≠i1->c≠i2->s.heap.get? c=GT o->h₃.get? c=GT o:=λc o hc hc1 hc2 e=>(sb₃.2 c hc2).trans (old2 c o hc hc1 e);refine Au ?_;show AG _ _ (forIn [] (Is,#[x,y]) _) _ _ _;rw[forIn_nil];refine Au ?_;show AG _ _ (IL [x,y] >>= _) _ _ _;refine An (EZ ?_ (by show 2<=AK;decide));have sz:h₃.objs.size=s.heap.objs.size:=by rw[sb₃.1,sb₂.1,hs₁.1]
 have old4:∀c o,h₃.get? c=GT o->(h₃.push { cls:=EQ "tuple",data:=Ev #[x,y] }).get? c=GT o:=λc o e=>AB _ e;refine Au ⟨_,rfl,?_⟩;rw[show(({ s with heap:=h₃ }:AA).heap.objs.size)=s.heap.objs.size from sz];refine hQ (h₃.push { cls:=EQ "tuple",data:=Ev #[x,y] }) ?_ ?_ ?_ ?_ ?_ λc o hc1 hc2 hc3 e=>old4 c o (old3 c o hc1 hc2 hc3 e)
 ·exact old4 z _ ((sb₃.2 z (BC D.i2z)).trans ((sb₂.2 z (BC D.i1z)).trans hz₁))
 ·exact h1b.keep (λo e=>old4 i1 o ((sb₃.2 i1 D.i12).trans e)) (λo e=>old4 l1 o ((sb₃.2 l1 D.l1i2).trans e))
 ·exact h2b.keep (λo e=>old4 i2 o e) (λo e=>old4 l2 o e)
 ·show(h₃.push { cls:=EQ "tuple",data:=Ev #[x,y] }).get? s.heap.objs.size=_;rw[<- sz];exact AO _ rfl
 rw[Ct,sz]
theorem abJ{prog:AR}{w:A9}{A:A5}{E:Ap->AA->Prop}{s:AA}{z TI TO i1 i2 l1 l2 a:ID}{ob:Bool}{k1:Nat}{xs:Array Ap}{o:Obj}{Q:PySem.Fin->AA->Prop}(hh:A.handled=Is)(D:EL z TI TO i1 i2 l1 l2)(hz:lE s.heap z TI TO a ob)(ha:s.heap.get? a=GT o)(hTI:Cn s.heap TI (Do i1) (Do i2))
  (h1:Wlk s.heap i1 l1 k1 xs)(hx:xs[k1]?=Is)
  (hE:∀(h':Heap)(e:ID),(∀c o,c≠z->c≠i1->s.heap.get? c=GT o->h'.get? c=GT o)->(∃o,h'.get? e=GT o/\o.cls=EQ "StopIteration")->E (Do e) { s with heap:=h' }) :
  AG (AJ prog w) A (AI.«zip.__next__» { pos:=[Do z] }) Q E s:=by
 show AG _ _ (Kj (Do z) 2 >>= _) _ _ _;refine An (BO hz Z Z ?_);show AG _ _ (Kj (Do z) 3 >>= _) _ _ _;refine An (BO hz Z Z ?_);refine An (B4 hTI Z ?_);show AG _ _ (AI.SmallTypes.ownedTupleIsFree (Do z) >>= _) _ _ _;refine An (JM hz ha λh₁ hz₁ hs₁=>?_);refine BD Z ?_;have old1:∀c o,c≠z->s.heap.get? c=GT o->h₁.get? c=GT o:=λc o hc e=>(hs₁.2 c hc).trans e;have h1a:=h1.keep (h':=h₁) (λo e=>old1 i1 o D.i1z e) (λo e=>old1 l1 o D.l1z e);show AG _ _ (forIn #[Do i1,Do i2] (Is,#[]) _ >>= _) _ _ _;refine An ?_;rw[<- Array.forIn_toList];show AG _ _ (forIn [Do i1,Do i2] (Is,#[]) _) _ _ _;rw[DI];refine An ?_;show AG _ _ (EN [] (AI.SmallTypes.nextOf (Do i1) >>= λv=>pure (GT v)) >>= _) _ _ _;refine An (BH (An (Wlk.last (s:={ s with heap:=h₁ }) hh h1a hx λh₂ e ext he=>?_)));exact hE h₂ e (λc o c1 c2 g=>ext c o c2 (old1 c o c1 g)) he
theorem TY{prog:AR}{w:A9}{A:A5}{E:Ap->AA->Prop}{s:AA}{z TI TO i1 i2 l1 l2:ID}{k1 k2:Nat}{xs ys:Array Ap}{x y a b:Ap}{Q:Ap->AA->Prop}(D:EL z TI TO i1 i2 l1 l2)(hz:Ki s.heap z TI TO Ap.none)(hTI:Cn s.heap TI (Do i1) (Do i2))(hTO:Cn s.heap TO a b)
  (h1:Wlk s.heap i1 l1 k1 xs)(h2:Wlk s.heap i2 l2 k2 ys)(hx:xs[k1]?=GT x)(hy:ys[k2]?=GT y)
  (hQ:∀h':Heap,lE h' z TI TO s.heap.objs.size false->Wlk h' i1 l1 (k1+1) xs->Wlk h' i2 l2 (k2+1) ys->Cn h' s.heap.objs.size x y->h'.objs.size=s.heap.objs.size+1->(∀c o,c≠z->c≠TO->c≠i1->c≠i2->s.heap.get? c=GT o->h'.get? c=GT o)->Q (Do s.heap.objs.size) { s with heap:=h' }) :
  AG (AJ prog w) A (AI.«zip.__next__» { pos:=[Do z] }) (λfin s'=>∃v,fin=Fin.done (Flow.ret v)/\Q v s') E s:=by
 show AG _ _ (Kj (Do z) 2 >>= _) _ _ _;refine An (BO hz Z Z ?_);show AG _ _ (Kj (Do z) 3 >>= _) _ _ _;refine An (BO hz Z Z ?_);refine An (B4 hTI Z ?_);show AG _ _ (AI.SmallTypes.ownedTupleIsFree (Do z) >>= _) _ _ _;refine An ?_;show AG _ _ (Kj (Do z) 0 >>= _) _ _ _;refine An (BO hz Z Z (Au ?_));show AG _ _ (rule _ >>= _) _ _ _;refine An (CY (An (BO hz Z Z ?_)));show AG _ _ (Fh (Do z) 0 Ap.ellipsis >>= _) _ _ _;refine An (B0 hz (EU (ET 4)) λh₁ hz₁ hs₁=>?_);have old1:∀c o,c≠z->s.heap.get? c=GT o->h₁.get? c=GT o:=λc o hc e=>(hs₁.2 c hc).trans e;have h1a:=h1.keep (h':=h₁) (λo e=>old1 i1 o D.i1z e) (λo e=>old1 l1 o D.l1z e);refine An ?_;show AG _ _ (forIn [(Do i1,0),(Do i2,1)] (Is,()) _) _ _ _;rw[DI];refine An ?_;show AG _ _ ((JE (AI.SmallTypes.nextOf (Do i1) >>= λv=>pure (GT v)) (λ_=>Fh (Do z) 0 Ap.none)) >>= _) _ _ _;refine An (GA (An (h1a.item (s:={ s with heap:=h₁ }) D.l1i1 hx λh₂ h1b sb₂=>Au ?_)));have old2:∀c o,c≠z->c≠i1->s.heap.get? c=GT o->h₂.get? c=GT o:=λc o hc hc1 e=>(sb₂.2 c hc1).trans (old1 c o hc e);have hTO2:Cn h₂ TO a b:=old2 TO _ D.TOz D.TOi1 hTO;show AG _ _ (Kk (Do TO) >>= _) _ _ _;refine An (B4 (s:={ s with heap:=h₂ }) hTO2 Z ?_);show AG _ _ (Kn TO _ >>= _) _ _ _;refine An (F6 (s:={ s with heap:=h₂ }) hTO2 λh₃ g₃ sb₃=>?_);refine An (LH (Au ?_));show AG _ _ (forIn [(Do i2,1)] (Is,()) _) _ _ _;rw[DI];refine An ?_;have old3:∀c o,c≠z->c≠i1->c≠TO->s.heap.get? c=GT o->h₃.get? c=GT o:=λc o hc hc1 hc2 e=>(sb₃.2 c hc2).trans (old2 c o hc hc1 e);have h2c:=h2.keep (h':=h₃) (λo e=>old3 i2 o D.i2z (BC D.i12) (BC D.TOi2) e) (λo e=>old3 l2 o D.l2z D.l2i1 D.l2TO e);have g₃':Cn h₃ TO x b:=g₃;show AG _ _ ((JE (AI.SmallTypes.nextOf (Do i2) >>= λv=>pure (GT v)) (λ_=>Fh (Do z) 0 Ap.none)) >>= _) _ _ _;refine An (GA (An (h2c.item (s:={ s with heap:=h₃ }) D.l2i2 hy λh₄ h2d sb₄=>Au ?_)));have hTO4:Cn h₄ TO x b:=(sb₄.2 TO D.TOi2).trans g₃';show AG _ _ (Kk (Do TO) >>= _) _ _ _;refine An (B4 (s:={ s with heap:=h₄ }) hTO4 Z ?_);show AG _ _ (Kn TO _ >>= _) _ _ _;refine An (F6 (s:={ s with heap:=h₄ }) hTO4 λh₅ g₅ sb₅=>?_);refine An (LH (Au ?_));have g₅':Cn h₅ TO x y:=g₅;show AG _ _ (forIn [] (Is,()) _) _ _ _;rw[forIn_nil];refine Au ?_;show AG _ _ (Kk (Do TO) >>= _) _ _ _
 refine An (B4 (s:={ s with heap:=h₅ }) g₅' Z ?_);show AG _ _ (IL [x,y] >>= _) _ _ _;refine An (EZ ?_ (by show 2<=AK;decide));have sz:h₅.objs.size=s.heap.objs.size:=by
  rw[sb₅.1,sb₄.1,sb₃.1,sb₂.1,hs₁.1]
 have z5:h₅.get? z=_:=(sb₅.2 z (BC D.TOz)).trans ((sb₄.2 z (BC D.i2z)).trans ((sb₃.2 z (BC D.TOz)).trans ((sb₂.2 z (BC D.i1z)).trans hz₁)));have z6:(h₅.push { cls:=EQ "tuple",data:=Ev #[x,y] }).get? z=_:=AB _ z5;refine An ?_;show AG _ _ (Fh (Do z) 0 (C0 h₅.objs.size) >>= λ_=>Fh (Do z) 1 (GE false)) _ _ _;refine An (B0 (s:={ s with heap:=h₅.push { cls:=EQ "tuple",data:=Ev #[x,y] } }) z6 (EU (ET 4)) λh₇ hz₇ hs₇=>?_);refine B0 (s:={ s with heap:=h₇ }) hz₇ (EU (ET 3)) λh₈ hz₈ hs₈=>?_;have nzs:s.heap.objs.size≠z:=λq=>by
  have:=AY hz;rw[<- q] at this;exact E4 _ this
 have old6:∀c o,h₅.get? c=GT o->(h₅.push { cls:=EQ "tuple",data:=Ev #[x,y] }).get? c=GT o:=λc o e=>AB _ e;have old8:∀c o,c≠z->h₅.get? c=GT o->h₈.get? c=GT o:=λc o hc e=>(hs₈.2 c hc).trans ((hs₇.2 c hc).trans (old6 c o e));have new8:h₈.get? s.heap.objs.size=GT { cls:=EQ "tuple",data:=Ev #[x,y] }:=by
  refine(hs₈.2 _ nzs).trans ((hs₇.2 _ nzs).trans ?_);show(h₅.push { cls:=EQ "tuple",data:=Ev #[x,y] }).get? s.heap.objs.size=_;rw[<- sz];exact AO _ rfl
 refine Au ⟨_,rfl,?_⟩;rw[show(({ s with heap:=h₅ }:AA).heap.objs.size)=s.heap.objs.size from sz];refine hQ h₈ ?_ ?_ ?_ new8 ?_ ?_
 ·rw[sz] at hz₈;exact hz₈
 ·exact h1b.keep (λo e=>old8 i1 o D.i1z ((sb₅.2 i1 (BC D.TOi1)).trans ((sb₄.2 i1 D.i12).trans ((sb₃.2 i1 (BC D.TOi1)).trans e)))) (λo e=>old8 l1 o D.l1z ((sb₅.2 l1 D.l1TO).trans ((sb₄.2 l1 D.l1i2).trans ((sb₃.2 l1 D.l1TO).trans e))))
 ·exact h2d.keep (λo e=>old8 i2 o D.i2z ((sb₅.2 i2 (BC D.TOi2)).trans e)) (λo e=>old8 l2 o D.l2z ((sb₅.2 l2 D.l2TO).trans e))
 ·rw[hs₈.1,hs₇.1];show(h₅.push { cls:=EQ "tuple",data:=Ev #[x,y] }).objs.size=_;rw[Ct,sz]
 intro c o hc1 hc2 hc3 hc4 e;exact old8 c o hc1 ((sb₅.2 c hc2).trans ((sb₄.2 c hc4).trans (old3 c o hc1 hc3 hc2 e)))
theorem V3{prog:AR}{w:A9}{A:A5}{E:Ap->AA->Prop}{s:AA}{z TI TO i1 i2 l1 l2:ID}{k1 k2:Nat}{xs ys:Array Ap}{x y a b:Ap}{Q:Option Ap->AA->Prop}(D:EL z TI TO i1 i2 l1 l2)(hz:Ki s.heap z TI TO Ap.none)(hTI:Cn s.heap TI (Do i1) (Do i2))(hTO:Cn s.heap TO a b)
  (h1:Wlk s.heap i1 l1 k1 xs)(h2:Wlk s.heap i2 l2 k2 ys)(hx:xs[k1]?=GT x)(hy:ys[k2]?=GT y)
  (hQ:∀h':Heap,lE h' z TI TO s.heap.objs.size false->Wlk h' i1 l1 (k1+1) xs->Wlk h' i2 l2 (k2+1) ys->Cn h' s.heap.objs.size x y->h'.objs.size=s.heap.objs.size+1->(∀c o,c≠z->c≠TO->c≠i1->c≠i2->s.heap.get? c=GT o->h'.get? c=GT o)->Q (GT (Do s.heap.objs.size)) { s with heap:=h' }) :
  AG (AJ prog w) A (D2 (Do z)) Q E s:=by
 have hT:∃o,s.heap.get? z=GT o/\o.cls=EQ "zip" := ⟨_,hz,rfl⟩;exact An (De (BM hT Ee (BQ Ee hT HL
  (TY D hz hTI hTO h1 h2 hx hy λh' a1 a2 a3 a4 a5 a6=>Au (hQ h' a1 a2 a3 a4 a5 a6)) (Hc (Do z)))))
theorem Z8{prog:AR}{w:A9}{A:A5}{E:Ap->AA->Prop}{s:AA}{z TI TO i1 i2 l1 l2 a:ID}{ob:Bool}{k1 k2:Nat}{xs ys:Array Ap}{x y:Ap}{o:Obj}{Q:Option Ap->AA->Prop}(D:EL z TI TO i1 i2 l1 l2)(hz:lE s.heap z TI TO a ob)(ha:s.heap.get? a=GT o)(hTI:Cn s.heap TI (Do i1) (Do i2))
  (h1:Wlk s.heap i1 l1 k1 xs)(h2:Wlk s.heap i2 l2 k2 ys)(hx:xs[k1]?=GT x)(hy:ys[k2]?=GT y)
  (hQ:∀h':Heap,lE h' z TI TO a true->Wlk h' i1 l1 (k1+1) xs->Wlk h' i2 l2 (k2+1) ys->Cn h' s.heap.objs.size x y->h'.objs.size=s.heap.objs.size+1->(∀c o,c≠z->c≠i1->c≠i2->s.heap.get? c=GT o->h'.get? c=GT o)->Q (GT (Do s.heap.objs.size)) { s with heap:=h' }) :
  AG (AJ prog w) A (D2 (Do z)) Q E s:=by
 have hT:∃o,s.heap.get? z=GT o/\o.cls=EQ "zip" := ⟨_,hz,rfl⟩;exact An (De (BM hT Ee (BQ Ee hT HL
  (YF D hz ha hTI h1 h2 hx hy λh' a1 a2 a3 a4 a5 a6=>Au (hQ h' a1 a2 a3 a4 a5 a6)) (Hc (Do z)))))
theorem acu{prog:AR}{w:A9}{A:A5}{E:Ap->AA->Prop}{s:AA}{z TI TO i1 i2 l1 l2 a:ID}{ob:Bool}{k1:Nat}{xs:Array Ap}{o:Obj}{Q:Option Ap->AA->Prop}(hh:A.handled=Is)(D:EL z TI TO i1 i2 l1 l2)(hz:lE s.heap z TI TO a ob)(ha:s.heap.get? a=GT o)(hTI:Cn s.heap TI (Do i1) (Do i2))
  (h1:Wlk s.heap i1 l1 k1 xs)(hx:xs[k1]?=Is)
  (hQ:∀h':Heap,(∀c o,c≠z->c≠i1->s.heap.get? c=GT o->h'.get? c=GT o)->Q Is { s with heap:=h' }):AG (AJ prog w) A (D2 (Do z)) Q E s:=by
 have hT:∃o,s.heap.get? z=GT o/\o.cls=EQ "zip" := ⟨_,hz,rfl⟩;exact An (De (BM hT Ee (BQ Ee hT HL
  (abJ hh D hz ha hTI h1 hx λh' e hk he=>by
   obtain⟨o,ho,hc⟩:=he;exact An (EV ⟨o,ho,hc⟩ IM (Au (hQ h' hk)))) (Hc (Do z)))))
theorem lA:IR table "dict.update.loop" = GT AI.«dict.update.loop»:=HP (by rfl)
theorem Dw{K:Type}[DecidableEq K](kvs:List (K×Ap))(k:K)(v:Ap):(LG kvs k v).length<=kvs.length+1:=by
 unfold LG;split
 ·rw[AE];omega
 rw[AV];simp
theorem O9{prog:AR}{w:A9}{A:A5}{E:Ap->AA->Prop}{s:AA}{d p:ID}{kvs:List (Key×Ap)}{k:Key}{u v:Ap}{hd:Ap->Sem (List Ap)}{el:List Ap->Sem Unit}{Q:Unit->AA->Prop}(hp:Cn s.heap p u v)(hk:(bI prog w).is k u=true)(hd':s.heap.DictOf (bI prog w) d kvs)(hz:kvs.length<=AK)
  (hQ:∀h',h'.DictOf (bI prog w) d (LG kvs k v)->B3 d s.heap h'->Q () { s with heap:=h',toks:=s.toks+1 }) :
  AG (AJ prog w) A (EN [Do p] (do
   let pair <- (AI.Dict.pairItems (Do p)).tryCatch hd
   match pair with
    | [k,v]=>EN [k,v] (dictSet d k v)
    | l=>el l)) Q E s:=by
 refine BH (An ?_);refine wpAny_tryCatch ?_;unfold AI.Dict.pairItems;refine An (E9 (T := "tuple") ⟨_,hp,rfl⟩ (EH Z ?_));refine An (B4 hp Z (Au ?_));show AG _ _ (EN [u,v] (dictSet d u v)) _ _ _;exact BH (wpAny_dictSet_pairs hk hd' hQ hz)
structure adv(prog:AR)(w:A9)(rs:List (Key×Ap))(xs ys:Array Ap):Prop where
 at_:∀(j:Nat) kv,rs[j]?=GT kv->∃u,xs[j]?=GT u/\(bI prog w).is kv.1 u=true/\ys[j]?=GT kv.2
 end_:xs[rs.length]?=Is
theorem Hu{prog:AR}{w:A9}{A:A5}{R:Result->AA->Prop}{z TI TO i1 i2 l1 l2 a d:ID}{rs:List (Key×Ap)}{xs ys:Array Ap}(hh:A.handled=Is)(D:EL z TI TO i1 i2 l1 l2)(S:adv prog w rs xs ys)(dz:d≠z)(dTI:d≠TI)(d1:d≠i1)(d2:d≠i2)(dl1:d≠l1)(dl2:d≠l2) :
  ∀(m i:Nat)(s:AA)(ob:Bool)(kvs:List (Key×Ap)),rs.length-i=m->i<=rs.length->lE s.heap z TI TO a ob->(∃o,s.heap.get? a=GT o)->a≠z->a≠i1->a≠i2->a≠d->Cn s.heap TI (Do i1) (Do i2)->Wlk s.heap i1 l1 i xs->Wlk s.heap i2 l2 i ys->s.heap.DictOf (bI prog w) d kvs->kvs.length+m<=AK ->
   (∀(h':Heap)(t':Nat),h'.DictOf (bI prog w) d (merged kvs (rs.drop i))->(∀c o,c≠z->c≠i1->c≠i2->c≠d->s.heap.get? c=GT o->h'.get? c=GT o)->R (.ok (.ret .none)) { s with heap:=h',toks:=t' }) ->
   DL (AJ prog w) A (Code.builtin "dict.update.loop" { pos:=[Do d,Do z,C0 i,Ap.none] }) R s
 | 0,i,s,ob,kvs,hm,hi,hz,⟨oa,ha⟩,az,a1,a2,ad,hTI,h1,h2,hd,hl,hR=>by
  have hi':i=rs.length:=ω;subst hi';refine C5 lA ?_;show AG _ _ (D2 (Do z) >>= _) _ _ _;refine An (acu (A:=A.under _) hh D hz ha hTI h1 S.end_ λh' hk=>?_);show AG _ _ (AI.Dict.addKeywords d [] >>= _) _ _ _;refine An ?_;show AG _ _ (pure ()) _ _ _;refine Au (Au ?_);refine hR h' s.toks ?_ λc o c1 c2 c3 c4 e=>hk c o c1 c2 e;rw[drop_length];obtain⟨o,es,ep,e,r⟩:=hd;exact⟨o,es,ep,hk d o dz d1 e,r⟩
 | m+1,i,s,ob,kvs,hm,hi,hz,⟨oa,ha⟩,az,a1,a2,ad,hTI,h1,h2,hd,hl,hR=>by
  have hlt:i<rs.length:=ω;have hrs:rs[i]?=GT rs[i]:=AF hlt;obtain⟨u,hx,hk,hy⟩:=S.at_ i _ hrs;refine C5 lA ?_;show AG _ _ (D2 (Do z) >>= _) _ _ _;refine An (Z8 D hz ha hTI h1 h2 hx hy λh' z1 w1 w2 pr sz old=>?_);have hd':h'.DictOf (bI prog w) d kvs:=by
   obtain⟨o,es,ep,e,r⟩:=hd;exact⟨o,es,ep,old d o dz d1 d2 e,r⟩
  refine An (O9 (s:={ s with heap:=h' }) pr hk hd' ω λh'' hd'' sb=>?_);refine Au ⟨FI _ ψ,?_⟩;show DL _ _ (Code.builtin "dict.update.loop" { pos:=[Do d,Do z,C0 ((i:Int)+1),Ap.none] }) _ _;rw[show((i:Int)+1)=((i+1:Nat):Int) by omega];have old2:∀c o,c≠z->c≠i1->c≠i2->c≠d->s.heap.get? c=GT o->h''.get? c=GT o:=λc o c1 c2 c3 c4 e=>(sb.2 c c4).trans (old c o c1 c2 c3 e);refine Hu hh D S dz dTI d1 d2 dl1 dl2 m (i+1) _ true (LG kvs rs[i].1 rs[i].2) ω ω ((sb.2 z (BC dz)).trans z1) ⟨oa,old2 a oa az a1 a2 ad ha⟩ az a1 a2 ad (old2 TI _ D.TIz D.TIi1 D.TIi2 (BC dTI) hTI) (w1.keep (λo e=>(sb.2 i1 (BC d1)).trans e) (λo e=>(sb.2 l1 (BC dl1)).trans e)) (w2.keep (λo e=>(sb.2 i2 (BC d2)).trans e) (λo e=>(sb.2 l2 (BC dl2)).trans e)) hd'' (by have:=Dw kvs rs[i].1 rs[i].2;omega) λh3 t3 hd3 old3=>?_;refine hR h3 t3 ?_ λc o c1 c2 c3 c4 e=>old3 c o c1 c2 c3 c4 (old2 c o c1 c2 c3 c4 e);rw[F7 hlt];exact hd3
theorem YM{prog:AR}{w:A9}{A:A5}{R:Result->AA->Prop}{z TI TO i1 i2 l1 l2 d:ID}{rs:List (Key×Ap)}{xs ys:Array Ap}{b1 b2:Ap}{s:AA}(hh:A.handled=Is)(D:EL z TI TO i1 i2 l1 l2)(S:adv prog w rs xs ys)(dz:d≠z)(dTI:d≠TI)(dTO:d≠TO)(d1:d≠i1)(d2:d≠i2)(dl1:d≠l1)(dl2:d≠l2)(hn:0<rs.length)(hl:rs.length<=AK)
  (hz:Ki s.heap z TI TO Ap.none)(hTI:Cn s.heap TI (Do i1) (Do i2))(hTO:Cn s.heap TO b1 b2)(h1:Wlk s.heap i1 l1 0 xs)(h2:Wlk s.heap i2 l2 0 ys)(hd:s.heap.DictOf (bI prog w) d [])
  (hR:∀(h':Heap)(t':Nat),h'.DictOf (bI prog w) d (merged [] rs)->(∀c o,c≠z->c≠TO->c≠i1->c≠i2->c≠d->s.heap.get? c=GT o->h'.get? c=GT o)->R (.ok (.ret .none)) { s with heap:=h',toks:=t' }) :
  DL (AJ prog w) A (Code.builtin "dict.update.loop" { pos:=[Do d,Do z,C0 0,Ap.none] }) R s:=by
 have hrs:rs[0]?=GT rs[0]:=AF hn;obtain⟨u,hx,hk,hy⟩:=S.at_ 0 _ hrs;have fr:∀{c:ID}{o:Obj},s.heap.get? c=GT o->s.heap.objs.size≠c:=λ{c o} e q=>by
  have:=AY e;rw[<- q] at this;exact E4 _ this
 have g1:∃o,s.heap.get? i1=GT o:=by rcases h1 with⟨⟨o,e,_⟩,_⟩|⟨⟨o,e,_⟩,_⟩ <;> exact⟨o,e⟩
 have g2:∃o,s.heap.get? i2=GT o:=by rcases h2 with⟨⟨o,e,_⟩,_⟩|⟨⟨o,e,_⟩,_⟩ <;> exact⟨o,e⟩
 obtain⟨o1,e1⟩:=g1;obtain⟨o2,e2⟩:=g2;have gd:∃o,s.heap.get? d=GT o:=by obtain⟨o,_,_,e,_⟩:=hd;exact⟨o,e⟩
 obtain⟨od,ed⟩:=gd;refine C5 lA ?_;show AG _ _ (D2 (Do z) >>= _) _ _ _;refine An (V3 D hz hTI hTO h1 h2 hx hy λh' z1 w1 w2 pr sz old=>?_);have hd':h'.DictOf (bI prog w) d []:=by
  obtain⟨o,es,ep,e,r⟩:=hd;exact⟨o,es,ep,old d o dz dTO d1 d2 e,r⟩
 refine An (O9 (s:={ s with heap:=h' }) pr hk hd' (DJ _) λh'' hd'' sb=>?_);refine Au ⟨FI _ ψ,?_⟩;show DL _ _ (Code.builtin "dict.update.loop" { pos:=[Do d,Do z,C0 ((1:Nat):Int),Ap.none] }) _ _;have old2:∀c o,c≠z->c≠TO->c≠i1->c≠i2->c≠d->s.heap.get? c=GT o->h''.get? c=GT o:=λc o c1 c5 c2 c3 c4 e=>(sb.2 c c4).trans (old c o c1 c5 c2 c3 e);refine Hu (a:=s.heap.objs.size) hh D S dz dTI d1 d2 dl1 dl2 (rs.length-1) 1 _ false (LG [] rs[0].1 rs[0].2) Z hn ((sb.2 z (BC dz)).trans z1) ⟨_,(sb.2 _ (fr ed)).trans pr⟩ (fr hz) (fr e1) (fr e2) (fr ed) (old2 TI _ D.TIz D.TITO D.TIi1 D.TIi2 (BC dTI) hTI) (w1.keep (λo e=>(sb.2 i1 (BC d1)).trans e) (λo e=>(sb.2 l1 (BC dl1)).trans e)) (w2.keep (λo e=>(sb.2 i2 (BC d2)).trans e) (λo e=>(sb.2 l2 (BC dl2)).trans e)) hd'' (by have:=Dw [] rs[0].1 rs[0].2;simp only[KW] at this;omega) λh3 t3 hd3 old3=>?_;refine hR h3 t3 ?_ λc o c1 c5 c2 c3 c4 e=>old3 c o c1 c2 c3 c4 (old2 c o c1 c5 c2 c3 c4 e);have hm:merged [] rs=merged (LG [] rs[0].1 rs[0].2) (rs.drop 1):=by
  have:=F7 hn;rw[drop_zero] at this
  conv=>lhs;rw[this]
  rfl
 rw[hm];exact hd3
theorem Di{prog:AR}{w:A9}{A:A5}{E:Ap->AA->Prop}{s:AA}{z TI TO i1 i2 l1 l2:ID}{rs:List (Key×Ap)}{xs ys:Array Ap}{b1 b2:Ap}{Q:Ap->AA->Prop}(hh:A.handled=Is)(D:EL z TI TO i1 i2 l1 l2)(S:adv prog w rs xs ys)(hn:0<rs.length)(hl:rs.length<=AK)(hb:DV<s.heap.objs.size)
  (hz:Ki s.heap z TI TO Ap.none)(hTI:Cn s.heap TI (Do i1) (Do i2))(hTO:Cn s.heap TO b1 b2)(h1:Wlk s.heap i1 l1 0 xs)(h2:Wlk s.heap i2 l2 0 ys)
  (hQ:∀(h':Heap)(t':Nat),h'.DictOf (bI prog w) s.heap.objs.size (merged [] rs)->(∀c o,c≠z->c≠TO->c≠i1->c≠i2->s.heap.get? c=GT o->h'.get? c=GT o)->Q (.ref s.heap.objs.size) { s with heap:=h',toks:=t' }) :
  AG (AJ prog w) A (call (EQ "dict") [Do z]) Q E s:=by
 have fr:∀{c:ID}{o:Obj},s.heap.get? c=GT o->s.heap.objs.size≠c:=λ{c o} e q=>by
  have:=AY e;rw[<- q] at this;exact E4 _ this
 have g1:∃o,s.heap.get? i1=GT o:=by rcases h1 with⟨⟨o,e,_⟩,_⟩|⟨⟨o,e,_⟩,_⟩ <;> exact⟨o,e⟩
 have g2:∃o,s.heap.get? i2=GT o:=by rcases h2 with⟨⟨o,e,_⟩,_⟩|⟨⟨o,e,_⟩,_⟩ <;> exact⟨o,e⟩
 have k1:∃o,s.heap.get? l1=GT o:=by rcases h1 with⟨_,⟨o,e,_⟩⟩|⟨_,⟨o,e,_⟩⟩ <;> exact⟨o,e⟩
 have k2:∃o,s.heap.get? l2=GT o:=by rcases h2 with⟨_,⟨o,e,_⟩⟩|⟨_,⟨o,e,_⟩⟩ <;> exact⟨o,e⟩
 obtain⟨o1,e1⟩:=g1;obtain⟨o2,e2⟩:=g2;obtain⟨q1,f1⟩:=k1;obtain⟨q2,f2⟩:=k2;refine callType_codes F.kt_called_dict (F.kt_typeCall_dict_1 _) F.entry_dict_init (kt_code_dict_new _ (Q₁:=λobj s₁=>obj=Do s.heap.objs.size/\s₁={ s with heap:=s.heap.push { cls:=EQ "dict",data:=L6 #[] } }) ⟨rfl,rfl⟩) λobj s₁ q=>?_;obtain⟨rfl,rfl⟩:=q;have gd:(s.heap.push { cls:=EQ "dict",data:=L6 #[] }).get? s.heap.objs.size=GT { cls:=EQ "dict",data:=L6 #[] }:=AO _ rfl;have up:∀c o,s.heap.get? c=GT o->(s.heap.push { cls:=EQ "dict",data:=L6 #[] }).get? c=GT o:=λc o e=>AB _ e;refine⟨⟨_,gd,rfl⟩,F.args_dict_init_2 _ _,?_⟩;unfold AI.«dict.__init__» AI.Dict.selfAndRest AI.Dict.notOrdered;refine An (An (EH ψ ?_));refine An (E9 (T := "dict") ⟨_,gd,rfl⟩ (BD Z (Au ?_)));show AG _ _ (AI.Dict.addrOf (Do s.heap.objs.size) >>= _) _ _ _;refine An ?_;show AG _ _ (pure s.heap.objs.size) _ _ _;refine Au (Au ?_);show AG _ _ (AI.Dict.updateFrom "dict.__init__" s.heap.objs.size (Do z) [] Ap.none) _ _ _;unfold AI.Dict.updateFrom;refine An (E9 (T := "zip") ⟨_,up z _ hz,rfl⟩ (EH Z ?_));refine An (Ce (A:=A.in1.in1) hh (up z _ hz) λh' tk kp=>?_);refine EH Z ?_;refine An (CY ?_);have up2:∀c o,s.heap.get? c=GT o->h'.get? c=GT o:=λc o e=>kp c o (up c o e);refine An (Gc (up2 z _ hz) (Au ⟨FI _ ψ,?_⟩));have hd0:h'.DictOf (bI prog w) s.heap.objs.size []:=by
  obtain⟨_,_,vs,kv,o,es,ep,e,r⟩:=JZ (P:=prog) (w:=w) (H:=λ_=>Is) s.heap hb;cases kv;exact⟨o,es,ep,kp _ o e,r⟩
 refine YM (A:=A.in1) hh D S (fr hz) (fr hTI) (fr hTO) (fr e1) (fr e2) (fr f1) (fr f2) hn hl (up2 z _ hz) (up2 TI _ hTI) (up2 TO _ hTO) (h1.keep (λo e=>up2 i1 o e) (λo e=>up2 l1 o e)) (h2.keep (λo e=>up2 i2 o e) (λo e=>up2 l2 o e)) hd0 λh3 t3 d3 old3=>?_;exact⟨rfl,hQ h3 t3 d3 λc o c1 c2 c3 c4 e=>old3 c o c1 c2 c3 c4 (BC (fr e)) (up2 c o e)⟩
def mz1(h:Heap)(l1:ID):Heap:=h.push { cls:=EQ "list_iterator",data:=Co #[Do l1,DO 0 0] }
def mz2(h:Heap)(l1 l2:ID):Heap:=(mz1 h l1).push { cls:=EQ "tuple_iterator",data:=Co #[Do l2,DO 0 0] }
def mz3(h:Heap)(l1 l2:ID):Heap:=(mz2 h l1 l2).push { cls:=EQ "tuple",data:=Ev #[Do h.objs.size,Do (mz1 h l1).objs.size] }
def mz4(h:Heap)(l1 l2:ID):Heap:=(mz3 h l1 l2).push { cls:=EQ "tuple",data:=Ev #[Ap.none,Ap.none] }
def mz5(h:Heap)(l1 l2:ID):Heap:=(mz4 h l1 l2).push { cls:=EQ "zip",data:=Co #[Ap.none,GE false,GE false,Do (mz2 h l1 l2).objs.size,Do (mz3 h l1 l2).objs.size] }
theorem T4(l1 l2:ID)(xs ys:Array Ap):Meets (AI.«zip.__new__» { pos:=[EQ "zip",Do l1,Do l2] }) λ_ R s=>
  s.heap.IsList l1 xs/\s.heap.IsTuple l2 ys/\R (.ok (.ret (.ref (mz4 s.heap l1 l2).objs.size))) { s with heap:=mz5 s.heap l1 l2 }:=by
 refine LF λprog w A R s h=>?_;obtain⟨ht1,ht2,hR⟩:=h;unfold AI.«zip.__new__» AI.SmallTypes.newClass;refine An (An (Au (BD Z (An (Cs sub_zip (BD Z (Au ?_)))))));show AG _ _ (AI.SmallTypes.iterAll [Do l1,Do l2] >>= _) _ _ _;refine An ?_;unfold AI.SmallTypes.iterAll;refine An ?_;rw[DI];refine An (An (BH (G1 ht1 (Au ?_))));show AG _ _ (forIn [Do l2] #[Do s.heap.objs.size] _) _ _ _;rw[DI];have ht2':(mz1 s.heap l1).IsTuple l2 ys:=by
  obtain⟨o,e,r⟩:=ht2;exact⟨o,AB _ e,r⟩
 refine An (An (BH (FH (s:={ s with heap:=mz1 s.heap l1 }) ht2' (Au ?_))));show AG _ _ (forIn [] #[Do s.heap.objs.size,Do (mz1 s.heap l1).objs.size] _) _ _ _;rw[forIn_nil];refine Au (Au ?_);show AG _ _ (IL [Do s.heap.objs.size,Do (mz1 s.heap l1).objs.size] >>= _) _ _ { s with heap:=mz2 s.heap l1 l2 };refine An (EZ ?_ (by show 2<=AK;decide));show AG _ _ (IL [Ap.none,Ap.none] >>= _) _ _ { s with heap:=mz3 s.heap l1 l2 };refine An (EZ ?_ (by show 2<=AK;decide));show AG _ _ (newObj (.type "zip") (.fields #[.none,.bool false,.bool false,.ref (mz2 s.heap l1 l2).objs.size,.ref (mz3 s.heap l1 l2).objs.size]) >>= λr=>ret r) _ _ { s with heap:=mz4 s.heap l1 l2 };refine An (Be ?_);exact Au ⟨_,rfl,hR⟩
theorem J6{prog:AR}{w:A9}{A:A5}{E:Ap->AA->Prop}{s:AA}{l1 l2:ID}{xs ys:Array Ap}{Q:Ap->AA->Prop}(hl1:s.heap.IsList l1 xs)(hl2:s.heap.IsTuple l2 ys)
   (h:∀h':Heap,Ki h' (s.heap.objs.size+4) (s.heap.objs.size+2) (s.heap.objs.size+3) Ap.none->Cn h' (s.heap.objs.size+2) (Do s.heap.objs.size) (Do (s.heap.objs.size+1))->Cn h' (s.heap.objs.size+3) Ap.none Ap.none->h'.IsListIter s.heap.objs.size l1 0->h'.IsTupleIter (s.heap.objs.size+1) l2 0 ->
   h'.objs.size=s.heap.objs.size+5->(∀c o,s.heap.get? c=GT o->h'.get? c=GT o)->Q (Do (s.heap.objs.size+4)) { s with heap:=h' }):AG (AJ prog w) A (call (EQ "zip") [Do l1,Do l2]) Q E s:=by
 refine callType_new F.called_zip δ (F.typeCall_zip_2 _ _) (F.newCall_zip_2 _ _) (λobj=>F.args_object_init_3 obj _ _) F.entry_zip_new (T4 l1 l2 xs ys) ⟨hl1,hl2,?_⟩;have z1:(mz1 s.heap l1).objs.size=s.heap.objs.size+1:=Ct ..;have z2:(mz2 s.heap l1 l2).objs.size=s.heap.objs.size+2:=(Ct ..).trans (by rw[z1]);have z3:(mz3 s.heap l1 l2).objs.size=s.heap.objs.size+3:=(Ct ..).trans (by rw[z2]);have z4:(mz4 s.heap l1 l2).objs.size=s.heap.objs.size+4:=(Ct ..).trans (by rw[z3]);have z5:(mz5 s.heap l1 l2).objs.size=s.heap.objs.size+5:=(Ct ..).trans (by rw[z4]);have g5:(mz5 s.heap l1 l2).get? (mz4 s.heap l1 l2).objs.size=_:=AO _ rfl;have g4:(mz5 s.heap l1 l2).get? (mz3 s.heap l1 l2).objs.size=_:=AB _ (AO _ Z);have g3:(mz5 s.heap l1 l2).get? (mz2 s.heap l1 l2).objs.size=_:=AB _ (AB _ (AO _ Z));have g2:(mz5 s.heap l1 l2).get? (mz1 s.heap l1).objs.size=_:=AB _ (AB _ (AB _ (AO _ Z)));have g1:(mz5 s.heap l1 l2).get? s.heap.objs.size=_:=AB _ (AB _ (AB _ (AB _ (AO _ Z))));have hk:∀c o,s.heap.get? c=GT o->(mz5 s.heap l1 l2).get? c=GT o:=λc o e=>AB _ (AB _ (AB _ (AB _ (AB _ e))));rw[z4,z2,z3] at g5;rw[z3] at g4;rw[z2,z1] at g3;rw[z1] at g2;rw[z4];generalize mz5 s.heap l1 l2=h' at z5 g5 g4 g3 g2 g1 hk;exact⟨⟨_,g5,rfl⟩,h h' g5 g3 g4 ⟨_,g1,rfl,rfl⟩ ⟨_,g2,rfl,rfl⟩ z5 hk⟩
theorem PB{P:AR}{w:A9}:∀{kvs:List (Key×V)}{its1 its2:List Ap}{ys:List V},Vals (kvs.map λkv=>kV kv.1) its1->Vals ys its2->ys.take kvs.length=kvs.map (·.2) ->
  ∃rs,KV kvs rs/\rs.length=kvs.length/\its1.length=kvs.length/\∀(j:Nat) kv,rs[j]?=GT kv->∃u,its1[j]?=GT u/\(bI P w).is kv.1 u=true/\its2[j]?=GT kv.2
 | [],its1,its2,ys,h1,h2,h3=>by
  cases h1;exact⟨[],.nil,rfl,rfl,λj kv e=>by simp at e⟩
 | kv::kvs,its1,its2,ys,h1,h2,h3=>by
  cases h1 with
  | cons r1 t1=>
   rename_i u us;cases h2 with
   | nil=>simp at h3
   | cons r2 t2=>
    rename_i y v ys' vs;simp only[C7,List.take_succ_cons,CB,List.cons.injEq] at h3;obtain⟨rs,k1,k2,k4,k3⟩:=PB (P:=P) (w:=w) t1 t2 h3.2;refine⟨(kv.1,v)::rs,.cons ⟨rfl,by rw[<- h3.1];exact r2⟩ k1,by simp[k2],by simp[k4],λj q e=>?_⟩;cases j with
    | zero=>
     simp only[GU,Option.some.injEq] at e;subst e;exact⟨u,by simp,Jx r1,by simp⟩
    | succ j=>
     rw[IT] at e;obtain⟨u',e1,e2,e3⟩:=k3 j q e;exact⟨u',by simpa using e1,e2,by simpa using e3⟩
def adE(K:AD)(ta:TA):TE:=λσ H Q=>ta σ H λvs H1=>∃(a b:ID)(kvs:List (Key×V)) (ys:List V),vs=[.ref a,.ref b]/\(SqT K H1 a (kvs.map λkv=>kV kv.1)\/SqL K H1 a (kvs.map λkv=>kV kv.1))/\SqT K H1 b ys/\ys.take kvs.length=kvs.map (·.2)/\0<kvs.length/\kvs.length<=15/\∀p,H1 p=Is->Q (.ref p) (upd H1 p (.dK (cP [] kvs)))
section
variable {X:Cx}
theorem aap{a b:Expr}{ta:TA}{p p2 pos pos2:Pos}(hc:X.calm=true)(hgl:Gl X "dict")(hml:X.mg "dict" = Is)(hg:Gl X "zip")(hm:X.mg "zip" = Is)(ha:PA X [a,b] ta)
  (hs:AH [a,b] X.env=[(false,eval a X.env),(false,eval b X.env)]:=by rfl)(hs2:AH [b] X.env=[(false,eval b X.env)]:=by rfl)
  (he:AH [.Call (.Name "zip" p2) [a,b] [] pos2] X.env=[(false,eval (.Call (.Name "zip" p2) [a,b] [] pos2) X.env)]:=by rfl) :
  PE X (.Call (.Name "dict" p) [.Call (.Name "zip" p2) [a,b] [] pos2] [] pos) (adE X.K ta):=by
 intro pins s σ H Q I h;refine Ex (dW I hgl hml boot_dict ?_ δ δ);refine A3 ?_ he rfl;rw[he];show AG _ _ (L3 ((false,eval (.Call (.Name "zip" p2) [a,b] [] pos2) X.env)::[])) _ _ s;refine B9 ?_;refine LA (dW I hg hm boot_zip (A3 (thA (ha pos2 pins s σ H _ I h) λus s1 vs H1 I1 r1 q1=>?_) (by rw[hs,hs2]) (by rw[hs2];rfl)));obtain⟨l1,l2,kvs,ys,rfl,sq1,sq2,htk,hn,hl,q⟩:=q1;cases r1 with
 | cons r rr=>
  cases rr with
  | cons r' rr=>
   cases rr;cases r;cases r';have apart:l1<s1.heap.objs.size->l2<s1.heap.objs.size->EL (s1.heap.objs.size+4) (s1.heap.objs.size+2) (s1.heap.objs.size+3) s1.heap.objs.size (s1.heap.objs.size+1) l1 l2:=by
    generalize s1.heap.objs.size=n;intro lt1 lt2;have lt1':@LT.lt Nat _ l1 n:=lt1;have lt2':@LT.lt Nat _ l2 n:=lt2;constructor <;> (intro(z:@Eq Nat _ _);omega)
   obtain⟨its2,rv2,p2',hz2⟩:=I1.tuple sq2;have lt2:l2<s1.heap.objs.size:=by obtain⟨_,e,_⟩:=p2';exact AY e
   have fin:∀(its1:List Ap)(h':Heap),Vals (kvs.map λkv=>kV kv.1) its1->l1<s1.heap.objs.size->Ki h' (s1.heap.objs.size+4) (s1.heap.objs.size+2) (s1.heap.objs.size+3) Ap.none->Cn h' (s1.heap.objs.size+2) (Do s1.heap.objs.size) (Do (s1.heap.objs.size+1))->Cn h' (s1.heap.objs.size+3) Ap.none Ap.none->Wlk h' s1.heap.objs.size l1 0 its1.toArray->Wlk h' (s1.heap.objs.size+1) l2 0 its2.toArray->h'.objs.size=s1.heap.objs.size+5->(∀c o,s1.heap.get? c=GT o->h'.get? c=GT o) ->
     AG (AJ X.prog X.w) X.A (call (EQ "dict") [Do (s1.heap.objs.size+4)]) (EP X pins σ Q) X.xe { s1 with heap:=h' }:=λits1 h' rv1 lt1 b1 b2 b3 b4 b5 b6 hk=>by
    obtain⟨rs,k1,k2,k4,k3⟩:=PB (P:=X.prog) (w:=X.w) rv1 rv2 htk;have I2:Inv X pins σ H1 { s1 with heap:=h' }:=I1.kept (t':=s1.toks) hk;refine Di (s:={ s1 with heap:=h' }) (rs:=rs) (xs:=its1.toArray) (ys:=its2.toArray) (I1.ok.hd hc) (apart lt1 lt2) ⟨λj kv e=>?_,?_⟩ ω (CF (by omega:rs.length<=15) δ) I2.big b1 b2 b3 b4 b5 λh3 t3 d3 old3=>?_
    ·obtain⟨u,e1,e2,e3⟩:=k3 j kv e;exact⟨u,by simpa using e1,e2,by simpa using e3⟩
    ·simp[k2,k4]
    have hp:H1 h'.objs.size=Is:=I2.hok.fresh (AU _);have le5:s1.heap.objs.size<=h'.objs.size:=by rw[b6];exact Nat.le_add_right _ _
    have kp3:∀c o,s1.heap.get? c=GT o->h3.get? c=GT o:=λc o e=>by
     have lt:=AY e;refine old3 c o ?_ ?_ ?_ ?_ (hk c o e) <;> (intro(z:@Eq Nat _ _);have lt':@LT.lt Nat _ c s1.heap.objs.size:=lt;omega)
    refine⟨.ref h'.objs.size,_,I1.laid (t':=t3) kp3 le5 (Ng ?_ ?_ (KV.merge k1 .nil) d3),rfl,q _ hp⟩
    ·have:=jz kvs [];simp only[KW] at this;exact CF (by omega:(cP [] kvs).length<=15) δ
    have:=I1.big;have ne:h'.objs.size≠DV:=by
     intro(z:@Eq Nat _ _);have t1:@LT.lt Nat _ DV s1.heap.objs.size:=this;have t2:@LE.le Nat _ s1.heap.objs.size h'.objs.size:=le5;omega
    exact beq_false_of_ne ne
   rcases sq1 with sq1|sq1
   ·obtain⟨its1,rv1,p1',hz1⟩:=I1.tuple sq1;have lt1:l1<s1.heap.objs.size:=by obtain⟨_,e,_⟩:=p1';exact AY e
    refine qL p1' p2' λh' b1 b2 b3 b4 b5 b6 hk=>B6 ?_;refine fin its1 h' rv1 lt1 b1 b2 b3 (.inl ⟨b4,?_⟩) (.inl ⟨b5,?_⟩) b6 hk
    ·obtain⟨o,e,r⟩:=p1';exact⟨o,hk _ o e,r⟩
    obtain⟨o,e,r⟩:=p2';exact⟨o,hk _ o e,r⟩
   obtain⟨its1,rv1,p1',hz1⟩:=I1.list sq1;have p1'':=p1'.isList;have lt1:l1<s1.heap.objs.size:=by obtain⟨_,e,_⟩:=p1'';exact AY e
   refine J6 p1'' p2' λh' b1 b2 b3 b4 b5 b6 hk=>B6 ?_;refine fin its1 h' rv1 lt1 b1 b2 b3 (.inr ⟨b4,?_⟩) (.inl ⟨b5,?_⟩) b6 hk
   ·obtain⟨o,e,r⟩:=p1'';exact⟨o,hk _ o e,r⟩
   obtain⟨o,e,r⟩:=p2';exact⟨o,hk _ o e,r⟩
end
def dzQ(K:AD)(vs:List V)(H1:Hp)(Q:VK):Prop:=∃(a b:ID)(kvs:List (Key×V)) (ys:List V),vs=[.ref a,.ref b]/\(SqT K H1 a (kvs.map λkv=>kV kv.1)\/SqL K H1 a (kvs.map λkv=>kV kv.1))/\SqT K H1 b ys/\ys.take kvs.length=kvs.map (·.2)/\0<kvs.length/\kvs.length<=15/\∀p,H1 p=Is->Q (.ref p) (upd H1 p (.dK (cP [] kvs)))
def tDZ(K:AD)(ta:TA):TE:=λσ H Q=>ta σ H λvs H1=>dzQ K vs H1 Q
theorem abS(K:AD)(ta:TA)(σ:St)(H:Hp)(Q:VK):tDZ K ta σ H Q=ta σ H λvs H1=>dzQ K vs H1 Q:=rfl
def dgQ(x y:V)(H:Hp)(Q:VK):Prop:=∃a v,x=.ref a/\lF H a y (GT v)/\Q v H
def tDG(td ty:TE):TE:=λσ H Q=>td σ H λx H1=>ty σ H1 λy H2=>dgQ x y H2 Q
theorem abT(td ty:TE)(σ:St)(H:Hp)(Q:VK):tDG td ty σ H Q=td σ H λx H1=>ty σ H1 λy H2=>dgQ x y H2 Q:=rfl
def dpQ(x y v:V)(H:Hp)(R:Hp->Prop):Prop:=∃a H4,x=.ref a/\rT H a y v H4/\R H4
def sDP(td ty tv:TE):TS:=λD σ H=>tv σ H λv H1=>td σ H1 λx H2=>ty σ H2 λy H3=>dpQ x y v H3 λH4=>D.nx σ H4
theorem abZ(td ty tv:TE)(D:Ends)(σ:St)(H:Hp):sDP td ty tv D σ H=tv σ H λv H1=>td σ H1 λx H2=>ty σ H2 λy H3=>dpQ x y v H3 λH4=>D.nx σ H4:=rfl
section
variable {X:Cx}{o i e value:Expr}{pos pos' tpos:Pos}{td ty tv:TE}
theorem adQ{a b:Expr}{ta:TA}{p p2 pos pos2:Pos}(hc:X.calm=true)(hgl:Gl X "dict")(hml:X.mg "dict" = Is)(hg:Gl X "zip")(hm:X.mg "zip" = Is)(ha:QA X [a,b] ta)
  (hs:AH [a,b] X.env=[(false,eval a X.env),(false,eval b X.env)]:=by rfl)(hs2:AH [b] X.env=[(false,eval b X.env)]:=by rfl)
  (he:AH [.Call (.Name "zip" p2) [a,b] [] pos2] X.env=[(false,eval (.Call (.Name "zip" p2) [a,b] [] pos2) X.env)]:=by rfl) :
  QE X (.Call (.Name "dict" p) [.Call (.Name "zip" p2) [a,b] [] pos2] [] pos) (tDZ X.K ta):=⟨aap hc hgl hml hg hm ha.h hs hs2 he⟩
theorem pX(hu:X.A.units+1<FU)(ho:QE X o td)(hi:QE X i ty)(hs:ady i):QE X (.Subscript o i pos) (tDG td ty):=⟨aaq hu ho.h hi.h hs⟩
theorem VH(hu:X.A.units+1<FU)(ho:QE X o td)(hi:QE X i ty)(hv:QE X value tv)(hs:JP value (GT (.Subscript o i pos')) pos.line X.env=pure false) :
  QS X (.Assign [.Subscript o i pos'] value pos) (sDP td ty tv):=⟨Z2 hu ho.h hi.h hv.h hs⟩
end
def rdA:=AC @abS (AC @abT @abZ)
def gj(zs:List Int):List (Key×V):=[(ED "is",As (zs.getD 0 0)),(ED "within",As (zs.getD 1 0)),(ED "below",As (zs.getD 2 0)),(ED "mask",As (zs.getD 3 0)),(ED "table",As (zs.getD 4 0))]
theorem XJ(zs:List Int):(gj zs).length=5:=rfl
theorem Sx{zs:List Int}(h:5<=zs.length):(zs.map As).take (gj zs).length=(gj zs).map (·.2):=by
 match zs,h with
 | a::b::c::d::e::_,_=>rfl
theorem aa8(zs:List Int):(cP [] (gj zs)).length<AK:=by
 have:=jz (gj zs) [];rw[XJ,KW] at this;exact LM this δ
theorem kne{a b:Str}(h:a≠b):¬(ED a:Key)=ED b:=λe=>h (ED.inj e)
def abr(P:AR)(w:A9)(o:Obj)(vs:List (Key×Ap)):Prop:=∃es ep,o.ExactDict/\o.data=L6 es ep/\PySem.KeysOf (bI P w) es/\Pairs (bI P w) es.toList vs/\(List.map (λx=>x.fst) vs).Nodup
theorem abr.at{P:AR}{w:A9}{o:Obj}{vs:List (Key×Ap)}{h:Heap}{a:ID}(d:abr P w o vs)(e:h.get? a=GT o):h.DictOf (bI P w) a vs:=by
 obtain⟨es,ep,r⟩:=d;exact⟨o,es,ep,e,r⟩
theorem X8{P:AR}{w:A9}{h:Heap}(hb:DV<h.objs.size):abr P w { cls:=.type "dict",data:=.dict #[] } []:=by
 obtain⟨_,_,vs,kv,o,es,ep,e,r⟩:=JZ (P:=P) (w:=w) (H:=λ_=>Is) h hb;cases kv;have e2:(h.push { cls:=.type "dict",data:=.dict #[] }).get? h.objs.size=GT { cls:=.type "dict",data:=.dict #[] }:=AO _ rfl;rw[e2] at e;cases e;exact⟨es,ep,r⟩
section
variable {prog:AR}{w:A9}{A:A5}{R:Result->AA->Prop}{s:AA}
theorem Ni{kx vx tg iter:Expr}{ifs:List Expr}{scope:E5}{pos:Pos}{it:Ap}{D:ID}{env:Env}(J:Nat->AA->Prop)
   (turn:∀n s,J n s->AG (AJ prog w) A (D2 it) (λr s1=>match r with
   | none=>R (.ok .next) s1
   | some v=>AG (AJ prog w) A (DS tg it v) (λ_ s1'=>AG (AJ prog w) A (EO tg env v) (λ_ s2=>
     AG (AJ prog w) A (forIn ifs true λc r=>if r=true then do let ok <- KI c env (eval c env);pure (Db ok) else pure (Db r)) (λok s3=>
      if ok=true then AG (AJ prog w) A (eval kx env) (λx s4=>AG (AJ prog w) A (eval vx env) (λy s4'=>
       AG (AJ prog w) A (dictSet D x y) (λ_ s5=>∃m,m<n/\J m s5) (ER (AJ prog w) A env λe z=>R (.error e) z) s4') (ER (AJ prog w) A env λe z=>R (.error e) z) s4) (ER (AJ prog w) A env λe z=>R (.error e) z) s3
      else ∃m,m<n/\J m s3) (ER (AJ prog w) A env λe z=>R (.error e) z) s2) (ER (AJ prog w) A env λe z=>R (.error e) z) s1') (ER (AJ prog w) A env λe z=>R (.error e) z) s1) (ER (AJ prog w) A env λe z=>R (.error e) z) s)
  (n:Nat) (h:J n s):DL (AJ prog w) A (.compLoop (.DictComp kx vx [⟨tg,iter,ifs,0⟩] scope pos) 0 it (.ref D) env) R s:=by
 refine KP Z J (λn z hJ=>?_) n h;show AG _ A ((JY (.DictComp kx vx [⟨tg,iter,ifs,0⟩] scope pos) 0 it (.ref D) env).onRaise (λy=>do Kb y env;Ix y)) _ _ z;refine LB ?_;rw[compTurn_dict];refine An (C6 (An (Bz (turn n z hJ) (λr s1 h1=>?_) λ_ _ q=>q)));cases r with
 | none=>exact Au h1
 | some v=>
  refine An (Bz h1 (λ_ s1' h1'=>?_) λ_ _ q=>q);refine An (Bz h1' (λ_ s2 h2=>An (Bz h2 (λok s3 h3=>?_) λ_ _ q=>q)) λ_ _ q=>q);cases ok with
  | false=>exact Au ⟨rfl,h3⟩
  | true=>
   exact An (An (Bz h3 (λx s4 h4=>An (BH (Bz h4 (λy s4' h4'=>An (C6 (BH (Bz h4' (λ_ s5 h5=>Au ⟨rfl,h5⟩) λ_ _ q=>q)))) λ_ _ q=>q))) λ_ _ q=>q))
end
def kvQ(kx:V)(R:Key->Prop):Prop:=∃k,kx=kV k/\R k
def Fy(mp:List (Option Nat))(wi:TI)(g:TG)(tc:TT)(tk tv:TE):TE:=λσ H Q=>wi σ H λJ H1=>
 ∃W:Nat->Nat->List (Key×V)->St->Hp->Prop,(∃m,W 0 m [] (fM mp σ) H1)/\∀i m acc τ H2,W i m acc τ H2 ->
  (J.stop i H2/\∀d,H2 d=Is->Q (.ref d) (upd H2 d (.dK acc))) \/
  (J.go i H2/\acc.length<AK/\∃N:List (Key×V)->St->Hp->Prop,(∀acc' τ' H',N acc' τ' H'->∃m',m'<m/\W (i+1) m' acc' τ' H')/\∀x H3,J.yld i H2 x H3->g x τ H3 λτ1 H4=>tc τ1 H4 λb H5=>
   if b=true then tk τ1 H5 λkv H6=>tv τ1 H6 λv H7=>kvQ kv λk=>N (putK acc k v) τ1 H7 else N acc τ1 H5)
section
variable {X:Cx}{NX N:List Str}{kX:List (Str×DE)}{mp:List (Option Nat)}{scope:E5}
set_option maxHeartbeats 8000000 in
theorem ZX{tg iter kx vx:Expr}{ifs:List Expr}{pos pos' pos2:Pos}{wi:TI}{g:TG}{tc:TT}{tk tv:TE}{i:Nat}{x:Str}(N:List Str)(mp:List (Option Nat))(hn:Nm X.N X.env.scope i x)(hNd:X.N.Nodup)(hNX:X.N=NX)(hkX:X.env.scope.names=kX)(S:oY NX kX N mp scope)(hc:X.calm=true)
  (hi:PI X tg iter wi)(hg:∀cl C s H fp,PG (aO X N scope cl C s H fp) tg g)(ht:∀cl C s H fp,PTs (aO X N scope cl C s H fp) ifs tc)(hek:∀cl C s H fp,PE (aO X N scope cl C s H fp) kx tk)(hev:∀cl C s H fp,PE (aO X N scope cl C s H fp) vx tv)
  (hf:X.fn x=true\/X.env.scope.names.lookup x=GT .local:=by exact .inl Z)
  (hsw:FM [.Name x pos'] (.DictComp kx vx [⟨tg,iter,ifs,0⟩] scope pos) pos2.line X.env=pure true:=by rfl)
  (h1:(DZ [.Name x pos'] X.env).map (·.2)=[EO (.Name x pos') X.env]:=by rfl)
  (hs:∀x,B2 iter X.env x=pure x:=by intro _;rfl):PS X (.Assign [.Name x pos'] (.DictComp kx vx [⟨tg,iter,ifs,0⟩] scope pos) pos2) (xZ (Fy mp wi g tc tk tv) (lz i)):=by
 intro pins s σ H Dn I h;rw[exec_Assign_arm];refine An (C6 ?_);rw[hsw];refine An (Au ?_);rw[if_pos rfl,h1];replace h:Fy mp wi g tc tk tv σ H (λv H1=>Dn.nx (σ.set i (GT v)) H1):=h;obtain⟨cl,hcl,hsub,hhas⟩:=vJ (env:=X.env) (scope:=scope) λy hy hf=>I.ok.has y.1 (by
  rcases S.fre y hy hf with q|q
  ·exact .inl (show X.env.scope.names.lookup y.1=_ by rw[hkX];exact q)
  exact .inr (show X.env.scope.names.lookup y.1=_ by rw[hkX];exact q))
 generalize hQ:(λ(v:V)(H1:Hp)=>Dn.nx (σ.set i (GT v)) H1)=Q at h
 let QQ:Ap->AA->Prop:=λ_ s'=>∃τ H',Inv X pins τ H' s'/\Dn.nx τ H'
 refine An (An (thn (Q:=QQ) (Fn (e:=.DictComp kx vx [⟨tg,iter,ifs,0⟩] scope pos) (use:=GT λv=>assignAll v [EO (.Name x pos') X.env]) Z hs hcl S.kind S.locs ?_) λ_ s' ⟨τ,H',I',q'⟩=>Au (Au ⟨τ,H',I',q'⟩)));refine thn (hi pins s σ H _ I h) λv s1 h1=>thn h1 λitv s2 h2=>?_;obtain⟨it,fp,tn,J,H2,e,I2,T,st2,f2,W,⟨m0,w0⟩,turn⟩:=h2;subst e;refine Be (F3 S.nocell (by intro y hy;simp at hy) (λh3 hns hsb=>?_) S.kind);dsimp only at hns hsb |-;have hold:∀b∈fp,b<s2.heap.objs.size:=λb hb=>by
  obtain⟨o,q,_⟩:=T.obj _ _ st2 b hb;exact AY q
 generalize hD:s2.heap.objs.size=D at hns hsb;generalize hH2:s2.heap.push { cls:=.type "dict",dict:=Is,data:=.dict #[] }=P2 at hns hsb |-;have hC:P2.objs.size=D+1:=by rw[<- hH2,Ct,hD]
 generalize hC':P2.objs.size=C at hns hsb |-;rw[hC'] at hC;have old:∀b o,s2.heap.get? b=GT o->h3.get? b=GT o:=λb o q=>by
  have hb:=AY q;exact hsb.extBut b o (na1 hb hD hC) (AB _ (hH2 ▸ AB _ q))
 have accD:h3.get? D=GT { cls:=.type "dict",data:=.dict #[] }:=
  hsb.extBut _ _ (na2 hC) (AB _ (by rw[<- hH2,<- hD];exact AO _ Z))
 have hfr:D∉frs X.stack:=λz=>by
  rcases A1.mp (I2.pO D z) with q|q
  ·exact na0 I2.lt hD q.symm
  exact I2.RP (na4 hD) q
 have I0:Inv (aO X N scope cl C s2 H2 fp) [(D,{ cls:=.type "dict",data:=.dict #[] })] (fM mp σ) H2 { s2 with heap:=h3,toks:=s2.toks+([]:List (Str×Ap)).length }:=
  vI (s':={ s2 with heap:=h3,toks:=s2.toks+([]:List (Str×Ap)).length }) hNX hkX S I2 f2 hold (na3 hD hC) hsub hhas Z Z ⟨_,hns⟩ old λp hp=>by
   have ep:=AL.mp hp;subst ep;exact⟨accD,I2.hok.fresh (na4 hD),na2 hC,hfr,λv z=>by cases z⟩
 have hsys:(D == DV)=false:=by
  have t1:@LT.lt Nat _ DV s2.heap.objs.size:=I2.big;have t2:@Eq Nat s2.heap.objs.size D:=hD;exact beq_false_of_ne (by intro(z:@Eq Nat _ _);omega)
 have T0:tn 0 h3:=T.keep _ _ _ st2 λb _ o q=>old b o q;have loop:∀z:AA,z={ s2 with heap:=h3,toks:=s2.toks+([]:List (Str×Ap)).length } ->
   DL (AJ X.prog X.w) X.A (.compLoop (.DictComp kx vx [⟨tg,iter,ifs,0⟩] scope pos) 0 (.ref it) (.ref D) (EW scope cl C X.env))
    (compPost (AJ X.prog X.w) X.A X.xe (GT λv=>assignAll v [EO (.Name x pos') X.env]) QQ (.ref D) C) z:=by
  rintro z rfl;have stat:∀{H':Hp}{pl:List (ID×Obj)},(∀b∈fp,H' b=Is)->(∀p∈pl,p.1=D)->∀b∈fp,pH (aO X N scope cl C s2 H2 fp) pl H' b:=λhn hp b hb=>by
   have hb2:=hold b hb;refine⟨hn b hb,na1 hb2 hD hC,(wN hkX S I2 f2 hold (na3 hD hC) hsub hhas).exfs b hb,.inl hb,λx c q=>(f2 b hb).2.2.2.2.1 x c (hsub x c q),λp hpp=>?_⟩;have hpD:=hp p (by simpa [aO] using hpp);rw[hpD];exact(na0 hb2 hD).symm
  refine Ni (env:=EW scope cl C X.env) (λn z=>∃i acc τ H' o vs,Inv (aO X N scope cl C s2 H2 fp) [(D,o)] τ H' z/\abr X.prog X.w o vs/\tn i z.heap/\(∀b∈fp,H' b=Is)/\KV acc vs/\acc.length<=AK/\W i n acc τ H')
   ?_ m0 ⟨0,[],_,H2,_,[],I0,X8 I2.big,T0,λb hb=>(f2 b hb).1,.nil,DJ _,w0⟩
  rintro n s5 ⟨i,acc,τ,H5,ob,vs,I5,dob,st5,fr5,va,hz,w5⟩;rcases turn i n acc τ H5 w5 with⟨stop,qn⟩|⟨go,hz2,N9,hN9,step⟩
  ·refine thn (T.done (aO X N scope cl C s2 H2 fp) Z Z Z hc i _ s5 τ H5 _ I5 (stat fr5 ζ) st5 stop) λr s6 ⟨hr,I6⟩=>?_;subst hr;obtain⟨m6,hn6,_⟩:=I6.loc;obtain⟨dD,nD,_,_,_⟩:=I6.pin (D,_) (AN _ (AL.mpr Z));have U:=I6.base;have nC:H5 C=Is:=I6.free;have ne:∀b o,s2.heap.get? b=GT o->b≠C/\b≠D:=λb o q=>by
    exact⟨na1 (AY q) hD hC,na0 (AY q) hD⟩
   have key:∀h',B3 C s6.heap h'->Inv X pins σ (upd H5 D (.dK acc)) { s6 with heap:=h' }:=λh' sb=>by
    have keepC:∀b o,b≠C->s6.heap.get? b=GT o->h'.get? b=GT o:=λb o hb q=>(sb.2 b hb).trans q;have U':Un (frs X.stack) fp H2 (upd H5 D (.dK acc)) s2.heap h':=by
     refine⟨λb o q n1 hb hx=>keepC b o (ne b o q).1 (U.keep b o q n1 hb hx),λb o q n1 hb hx=>?_,λb o q n1 hx=>?_,λb o q hx=>?_,λb xs q=>?_,λb o xs q=>?_,λb ps q=>?_⟩
     ·obtain⟨sl,z⟩:=U.slot b o q n1 hb hx;exact⟨sl,keepC b _ (ne b o q).1 z⟩
     ·rw[aJ (ne b o q).2];exact U.free b o q n1 hx
     ·obtain⟨o',z⟩:=U.there b o q hx;exact⟨o',keepC b _ (ne b o q).1 z⟩
     ·have z:=U.tups b xs q;rw[aJ (aF z nD)];exact z
     ·have z:=U.frzs b o xs q;rw[aJ (aF z nD)];exact z
     obtain⟨more,z⟩:=U.tbls b ps q;exact⟨more,by rw[aJ (aF z nD)];exact z⟩
    have hok:HOk X.prog X.w (upd H5 D (.dK acc)) h':=λb u q=>by
     by_cases hb:b=D
     ·subst hb;rw[aA] at q;cases q;exact Ng hz hsys va (dob.at (keepC _ _ (na2 hC) dD))
     rw[aJ hb] at q;refine(I6.hok b u q).stay (λc v hcc z=>keepC c v ?_ z) (λc z=>by rw[aJ (aF z nD)];exact z) λc xs z=>by rw[aJ (aF z nD)];exact z
     rcases hcc with z1|z1
     ·subst z1;exact aF q nC
     exact aF z1 nC
    have I7:Inv X pins σ (upd H5 D (.dK acc)) { s6 with heap:=h' }:=I2.call' (s':={ s6 with heap:=h' }) (ch:=fp) I6.os U' hok I6.bare λb hb=>by
     obtain⟨_,a2,_,a4,a5,a6⟩:=f2 b hb;exact⟨a4,a2,a5,a6⟩
    exact I7
   have I7:Inv X pins σ (upd H5 D (.dK acc)) s6:=key s6.heap (B3.refl _ _);have lC:X.env.locals≠C:=na1 I2.lt hD hC;have cC:∀y c,X.env.cells.lookup y=GT c->c≠C:=λy c z=>by
    obtain⟨_,o,h1,_⟩:=I2.cell y c z;exact na1 (AY h1) hD hC
   show AG _ _ (EO (.Name x pos') X.env (.ref D)) _ _ s6;refine wpAny_assign_Name (vR (v:=.ref D) I7 hNd hn.hN hn.hv Z (λs7 I8 ⟨a,sa,ha⟩=>?_) hf);have aC:a≠C:=by
    rcases ha with rfl|ha
    ·exact lC
    exact cC _ _ ha
   obtain⟨o6,es6,ep6,g1,g2,g3,g4⟩:=hn6;refine⟨m6,⟨o6,es6,ep6,(sa.2 C (BC aC)).trans g1,g2,g3,g4⟩,λh' sb=>?_⟩;have q9:=qn D nD;rw[<- hQ] at q9;refine⟨_,_,I8.turned (it:=C) (t':=s7.toks) (λb o hb q=>(sb.2 b hb).trans q) ?_ (BC lC) (.inr (CF I2.sz (na3 hD hC))) cC (λp hp=>?_),q9⟩
   ·rw[aJ (BC (na2 hC))];exact nC
   obtain⟨h1,_⟩:=I2.pin p hp;exact na1 (AY h1) hD hC
  refine thn (T.item (aO X N scope cl C s2 H2 fp) Z Z Z hc i _ s5 τ H5 _ I5 (stat fr5 ζ) st5 go) λr s6 ⟨u,hr,h6⟩=>?_;subst hr;refine thn h6 λ_ s7 ⟨x,H7,I7,r7,y7,st7,fr7⟩=>?_;have I7':=I7.pinned (stat fr7 ζ) (T.obj _ _ st7);have no:∀{α:Type}{t:Sem α}{Q1 Q2:α->AA->Prop}{E:Ap->AA->Prop}{z:AA},AG (AJ X.prog X.w) X.A t Q1 (λ_ _=>False) z->(∀a z,Q1 a z->Q2 a z)->AG (AJ X.prog X.w) X.A t Q2 E z:=
   λq f=>Bz q f λ_ _ z=>z.elim
  refine no (hg cl C s2 H2 fp _ s7 τ H7 x u _ I7' r7 (step x H7 y7)) λ_ s8 ⟨τ1,H8,I8,q8⟩=>?_;refine no (ht cl C s2 H2 fp _ s8 τ1 H8 _ I8 q8) λok s9 ⟨H9,I9,q9⟩=>?_;have GW:∀{H':Hp}{z:AA}{o':Obj},Inv (aO X N scope cl C s2 H2 fp) ([(D,o')]++dU fp s7.heap) τ1 H' z ->
    tn (i+1) z.heap/\(∀b∈fp,H' b=Is)/\Inv (aO X N scope cl C s2 H2 fp) [(D,o')] τ1 H' z:=λ{H' z o'} Iz=>by
   have get:∀b∈fp,∀o,s7.heap.get? b=GT o->z.heap.get? b=GT o/\H' b=Is:=λb hb o q=>by
    obtain⟨a1,a2,_⟩:=Iz.pin (b,o) (AN _ (AN _ (f9 hb q)));exact⟨a1,a2⟩
   refine⟨T.keep _ _ _ st7 λb hb o q=>(get b hb o q).1,λb hb=>?_,Iz.iR⟩;obtain⟨o,q,_⟩:=T.obj _ _ st7 b hb;exact(get b hb o q).2
  cases ok with
  | false=>
   rw[if_neg AZ] at q9 |-;obtain⟨m',hm,w9⟩:=hN9 _ _ _ q9;obtain⟨a1,a2,a3⟩:=GW I9;exact⟨m',hm,i+1,acc,τ1,H9,ob,vs,a3,dob,a1,a2,va,hz,w9⟩
  | true=>
   rw[if_pos rfl] at q9 |-;refine no (hek cl C s2 H2 fp _ s9 τ1 H9 _ I9 q9) λuk s10 ⟨xk,H10,I10,rk,q10⟩=>?_;refine no (hev cl C s2 H2 fp _ s10 τ1 H10 _ I10 q10) λy s11 ⟨v,H11,I11,rv,kk,ek,q11⟩=>?_;subst ek;obtain⟨m',hm,w11⟩:=hN9 _ _ _ q11;obtain⟨a1,a2,a3⟩:=GW I11;obtain⟨dD,nD,_,_,_⟩:=a3.pin (D,_) (AN _ (AL.mpr Z));have hlen:=va.length;refine wpAny_dictSet_pairs (knd:=bI X.prog X.w) (Jx rk) (dob.at dD) (λh' dd sb=>?_) (by rw[<- hlen];omega);obtain⟨o',es',ep',g1,g2⟩:=dd;have a4:Inv (aO X N scope cl C s2 H2 fp) (dU fp s7.heap) τ1 H11 s11:=I11.ig λp hp=>I11.pin p (AN _ (AN _ hp));have a5:Inv (aO X N scope cl C s2 H2 fp) (dU fp s7.heap) τ1 H11 { s11 with heap:=h',toks:=s11.toks+1 }:=
    a4.turned (it:=D) (λb o hb z=>(sb.2 b hb).trans z) nD (na2 hC) (.inr (na4 hD))
     (λx c z=>by
      obtain⟨_,o,h1,_⟩:=I2.cell x c (hsub x c z);exact na0 (AY h1) hD) λp hp=>by
      have hb:=(kj (by simpa [aO] using hp)).1;exact na0 (hold _ hb) hD
   have b1:tn (i+1) h':=T.keep _ _ _ a1 λb hb o z=>(sb.2 b (na0 (hold b hb) hD)).trans z;have hpl:=gb acc kk v;refine⟨m',hm,i+1,putK acc kk v,τ1,H11,o',LG vs kk y,a5.ig λp hp=>?_,⟨es',ep',g2⟩,b1,a2,va.put kk rv,ω,w11⟩;have ep:=AL.mp hp;subst ep;exact⟨g1,nD,na2 hC,hfr,λv z=>by rw[g2.2.1] at z;cases z⟩
 have e1:{ newEnv scope C X.env.globals cl X.env.qual Is .none (GT X.env) X.env.builtins with scope:=relabel scope X.env }=EW scope cl C X.env:=rfl;exact codeAny_compStart_dict (loop _ Z) (T.self _ 0 _ _ _ T0 (loop _ Z))
theorem Zy{tg iter kx vx:Expr}{ifs:List Expr}{pos pos' pos2:Pos}{wi:TI}{g:TG}{tc:TT}{tk tv:TE}{i:Nat}{x:Str}(N:List Str)(mp:List (Option Nat))(hn:Nm X.N X.env.scope i x)(hNd:X.N.Nodup)(hNX:X.N=NX)(hkX:X.env.scope.names=kX)(S:oY NX kX N mp scope)(hc:X.calm=true)
  (hi:QI X tg iter wi)(hg:∀cl C s H fp,QG (aO X N scope cl C s H fp) tg g)(ht:∀cl C s H fp,QC (aO X N scope cl C s H fp) ifs tc)(hek:∀cl C s H fp,QE (aO X N scope cl C s H fp) kx tk)(hev:∀cl C s H fp,QE (aO X N scope cl C s H fp) vx tv)
  (hf:X.fn x=true\/X.env.scope.names.lookup x=GT .local:=by exact .inl Z)
  (hsw:FM [.Name x pos'] (.DictComp kx vx [⟨tg,iter,ifs,0⟩] scope pos) pos2.line X.env=pure true:=by rfl)
  (h1:(DZ [.Name x pos'] X.env).map (·.2)=[EO (.Name x pos') X.env]:=by rfl)
  (hs:∀x,B2 iter X.env x=pure x:=by intro _;rfl):QS X (.Assign [.Name x pos'] (.DictComp kx vx [⟨tg,iter,ifs,0⟩] scope pos) pos2) (xZ (Fy mp wi g tc tk tv) (lz i)):=
 ⟨ZX N mp hn hNd hNX hkX S hc hi.h (λcl C s H fp=>(hg cl C s H fp).h) (λcl C s H fp=>(ht cl C s H fp).h) (λcl C s H fp=>(hek cl C s H fp).h) (λcl C s H fp=>(hev cl C s H fp).h) hf hsw h1 hs⟩
end
def zsQ(K:AD)(vs:List V)(H:Hp)(R:It->Hp->Prop):Prop:=∃a b xs ys,vs=[.ref a,.ref b]/\SqT K H a xs/\SqT K H b ys/\R (Itu K a b) H
def Xo(K:AD)(ta:TA):TI:=λσ H R=>ta σ H λvs H1=>zsQ K vs H1 R
theorem Xn(K:AD)(ta:TA)(σ:St)(H:Hp)(R:It->Hp->Prop):Xo K ta σ H R=ta σ H λvs H1=>zsQ K vs H1 R:=rfl
section
variable {X:Cx}
theorem aac{es:List Expr}{kk:Nat}{tpos:Pos}{a b:Expr}{ta:TA}{p pos:Pos}(hg:Gl X "zip")(hm:X.mg "zip" = Is)(ha:PA X [a,b] ta)(hs:AH [a,b] X.env=[(false,eval a X.env),(false,eval b X.env)]:=by rfl)(hs2:AH [b] X.env=[(false,eval b X.env)]:=by rfl) :
  PI X (.Tuple es kk tpos) (.Call (.Name "zip" p) [a,b] [] pos) (Xo X.K ta):=by
 intro pins s σ H R I h;refine LA (dW I hg hm boot_zip (A3 (thA (ha pos pins s σ H _ I h) λus s1 vs H1 I1 r1 q1=>?_) (by rw[hs,hs2]) (by rw[hs2];rfl)));obtain⟨l1,l2,xs,ys,rfl,e1,e2,q⟩:=q1;cases r1 with
 | cons r rr=>
  cases rr with
  | cons r' rr=>
   cases rr;cases r;cases r';have apart:l1<s1.heap.objs.size->l2<s1.heap.objs.size->EL (s1.heap.objs.size+4) (s1.heap.objs.size+2) (s1.heap.objs.size+3) s1.heap.objs.size (s1.heap.objs.size+1) l1 l2:=by
    generalize s1.heap.objs.size=n;intro lt1 lt2;have lt1':@LT.lt Nat _ l1 n:=lt1;have lt2':@LT.lt Nat _ l2 n:=lt2;constructor <;> (intro(z:@Eq Nat _ _);omega)
   have fp:∀b∈[s1.heap.objs.size+4,s1.heap.objs.size+2,s1.heap.objs.size+3,s1.heap.objs.size,s1.heap.objs.size+1],pH X pins H1 b:=λb hb=>by
    have hle:s1.heap.objs.size<=b:=by
     simp only[A1,BA,or_false] at hb;rcases hb with rfl|rfl|rfl|rfl|rfl <;> simp
    exact I1.Dg hle (I1.hok.fresh hle)
   obtain⟨its1,rv1,p1,hz1⟩:=I1.tuple e1;obtain⟨its2,rv2,p2,hz2⟩:=I1.tuple e2;have lt1:l1<s1.heap.objs.size:=by obtain⟨_,e,_⟩:=p1;exact AY e
   have lt2:l2<s1.heap.objs.size:=by obtain⟨_,e,_⟩:=p2;exact AY e
   refine qL p1 p2 λh' b1 b2 b3 b4 b5 b6 hk=>?_;refine Gc (s:={ s1 with heap:=h' }) b1 ?_;exact⟨_,_,_,_,H1,rfl,I1.kept (t':=s1.toks) hk,Dq (apart lt1 lt2),⟨b1,b2,⟨_,_,b3⟩,b4,b5⟩,fp,q⟩
theorem Zz{es:List Expr}{kk:Nat}{tpos:Pos}{a b:Expr}{t:TA}{p pos:Pos}(hg:Gl X "zip")(hm:X.mg "zip" = Is)(ha:QA X [a,b] t)(hs:AH [a,b] X.env=[(false,eval a X.env),(false,eval b X.env)]:=by rfl)(hs2:AH [b] X.env=[(false,eval b X.env)]:=by rfl):QI X (.Tuple es kk tpos) (.Call (.Name "zip" p) [a,b] [] pos) (Xo X.K t):=⟨aac hg hm ha.h hs hs2⟩
end
theorem SqT.same{K:AD}{H H':Hp}{a:ID}{xs:List V}(h:SqT K H a xs)(s:Same H H'):SqT K H' a xs:=by
 rcases h with h|h
 ·rcases h with h|⟨o,h⟩
  ·exact .inl (.inl (s _ _ h))
  exact .inl (.inr ⟨o,s _ _ h⟩)
 exact .inr h
def abE(mp:List (Option Nat))(g:TG)(tc:TT)(tk tv:TE)(σ:St)(Q:VK)(J:It)(H1:Hp):Prop:=
 ∃W:Nat->Nat->List (Key×V)->St->Hp->Prop,(∃m,W 0 m [] (fM mp σ) H1)/\∀i m acc τ H2,W i m acc τ H2 ->
  (J.stop i H2/\∀d,H2 d=Is->Q (.ref d) (upd H2 d (.dK acc))) \/
  (J.go i H2/\acc.length<AK/\∃N:List (Key×V)->St->Hp->Prop,(∀acc' τ' H',N acc' τ' H'->∃m',m'<m/\W (i+1) m' acc' τ' H')/\∀x H3,J.yld i H2 x H3->g x τ H3 λτ1 H4=>tc τ1 H4 λb H5=>
   if b=true then tk τ1 H5 λkv H6=>tv τ1 H6 λv H7=>kvQ kv λk=>N (putK acc k v) τ1 H7 else N acc τ1 H5)
theorem abi{mp:List (Option Nat)}{wi:TI}{g:TG}{tc:TT}{tk tv:TE}{σ:St}{H:Hp}{Q:VK}(h:∀R:It->Hp->Prop,R=abE mp g tc tk tv σ Q->wi σ H R):Fy mp wi g tc tk tv σ H Q:=h _ rfl
theorem Ml(kvs:List (Key×V))(kv:Key×V):cP [] (kvs++[kv])=putK (cP [] kvs) kv.1 kv.2:=by
 unfold cP;rw[List.foldl_append];rfl
theorem abh{K:AD}{mp:List (Option Nat)}{g:TG}{tc:TT}{tk tv:TE}{σ:St}{H:Hp}{Q:VK}{R:It->Hp->Prop}{a b:ID}{ys:List V}{kvs:List (Key×V)}(okT:St->Prop)(hR:R=abE mp g tc tk tv σ Q)(ea:SqT K H a (kvs.map λkv=>kV kv.1))(eb:SqT K H b ys)(hl:kvs.length<=ys.length)(hz:kvs.length<=15)(h0:okT (fM mp σ))
   (hs:∀(i:Nat) kv y τ H' p (Nx:List (Key×V)->St->Hp->Prop),kvs[i]?=GT kv->ys[i]?=GT y->Same H H'->okT τ->H' p=Is->(∀τ1 H1,Same H H1->okT τ1->Nx (putK (cP [] (kvs.take i)) kv.1 kv.2) τ1 H1) ->
   g (.ref p) τ (upd H' p (.tup [kV kv.1,y])) λτ1 H4=>tc τ1 H4 λbb H5=>if bb=true then tk τ1 H5 λkx H6=>tv τ1 H6 λv H7=>kvQ kx λk=>Nx (putK (cP [] (kvs.take i)) k v) τ1 H7 else Nx (cP [] (kvs.take i)) τ1 H5)
  (hd:∀d H',Same H H'->H' d=Is->Q (.ref d) (upd H' d (.dK (cP [] kvs)))):R (Itu K a b) H:=by
 rw[hR];refine⟨λi m acc τ H'=>m+i=kvs.length/\Same H H'/\okT τ/\acc=cP [] (kvs.take i),⟨kvs.length,ω,Same.refl _,h0,rfl⟩,?_⟩;rintro i m acc τ H2 ⟨hm,s2,ot,rfl⟩;cases m with
 | zero=>
  refine .inl ⟨⟨_,ys,ea.same s2,eb.same s2,.inl (Dx (by rw[AE];omega))⟩,λd hd'=>?_⟩;rw[D7 ω];exact hd d H2 s2 hd'
 | succ m=>
  have hi:i<kvs.length:=ω;have hy:i<ys.length:=ω;have hk:kvs[i]?=GT kvs[i]:=AF hi;have hx:(kvs.map λkv=>kV kv.1)[i]?=GT (kV kvs[i].1):=by rw[AQ,hk];rfl
  refine .inr ⟨⟨_,ys,_,_,ea.same s2,eb.same s2,hx,AF hy⟩,?_,λacc' τ' H'=>acc'=cP [] (kvs.take (i+1))/\Same H H'/\okT τ',λacc' τ' H' ⟨e,s',o'⟩=>⟨m,ω,ω,s',o',e⟩,?_⟩
  ·have:=jz (kvs.take i) [];rw[KW] at this;have h2:(kvs.take i).length<=15:=by rw[FF];omega
   exact LM (by omega:_<=15) δ
  rintro x H3 ⟨p,x1,y1,rfl,hp,rfl,g1,g2⟩;have e1:=g1 _ (ea.same s2);rw[hx] at e1;cases e1;have e2:=g2 _ (eb.same s2);refine hs i kvs[i] y1 τ H2 p (λacc' τ' H'=>acc'=cP [] (kvs.take (i+1))/\Same H H'/\okT τ') hk e2 s2 ot hp λτ1 H1 s1 o1=>⟨?_,s1,o1⟩;rw[take_add_one,hk];exact(Ml _ _).symm
def Bw(zs:List Int)(t:Int):List (Key×V):=putK (cP [] (gj (zs.map (· * t)))) (ED "pick") (As 0)
theorem aa9{zs:List Int}{i:Nat}{kv:Key×V}(h:(gj zs)[i]?=GT kv):kv.2=As (zs.getD i 0):=by
 match i,h with
 | 0,h=>cases h;rfl
 | 1,h=>cases h;rfl
 | 2,h=>cases h;rfl
 | 3,h=>cases h;rfl
 | 4,h=>cases h;rfl
 | n+5,h=>simp[gj] at h
theorem JC(zs:List Int)(t:Int)(i:Nat):(zs.map (· * t)).getD i 0=zs.getD i 0*t:=by
 rw[A4,A4,AQ];cases zs[i]? with
 | none=>simp
 | some z=>rfl
def Oj:Sp:=λvs H Q _=>∃(l:V)(wa z:ID)(ok:ID->Prop)(ws zs:List Int)(left:List Nat),vs=[.ref wa,.ref z,l]/\aH ok H l (sI left)/\(∀k∈left,k<ws.length)/\H wa=GT (.lst (ws.map As))/\H z=GT (.tup (zs.map As))/\zs.length=5/\Few zs /\
 ∀p H',Same H H'->H' p=GT (.dK (Bw zs (sumK ws left)))->Q (.ref p) H'
theorem Yh(ws zs:List Int)(left:List Nat)(p:Pl):gM (Bw zs (sumK ws left)) (ED (bR p))=GT (As (dI ws zs left p)):=by
 unfold Bw cP gj;simp only[foldl_cons,List.foldl_nil,jA,Hs,JC];cases p with
 | pick l=>
  rw[show bR (.pick l)=("pick" : Str) from rfl];rw[if_pos rfl];rfl
 | one k r=>
  rw[show bR (.one k r)=("is" : Str) from rfl];rw[if_neg (kne (a := "is") (b := "pick") ψ),if_neg (kne (a := "is") (b := "table") ψ),if_neg (kne (a := "is") (b := "mask") ψ),if_neg (kne (a := "is") (b := "below") ψ),if_neg (kne (a := "is") (b := "within") ψ),if_pos rfl];rfl
 | wit k r=>
  rw[show bR (.wit k r)=("within" : Str) from rfl];rw[if_neg (kne (a := "within") (b := "pick") ψ),if_neg (kne (a := "within") (b := "table") ψ),if_neg (kne (a := "within") (b := "mask") ψ),if_neg (kne (a := "within") (b := "below") ψ),if_pos rfl];rfl
 | low k a b=>
  rw[show bR (.low k a b)=("below" : Str) from rfl];rw[if_neg (kne (a := "below") (b := "pick") ψ),if_neg (kne (a := "below") (b := "table") ψ),if_neg (kne (a := "below") (b := "mask") ψ),if_pos rfl];rfl
 | msk l r=>
  rw[show bR (.msk l r)=("mask" : Str) from rfl];rw[if_neg (kne (a := "mask") (b := "pick") ψ),if_neg (kne (a := "mask") (b := "table") ψ),if_pos rfl];rfl
 | tab=>
  rw[show bR .tab=("table" : Str) from rfl];rw[if_neg (kne (a := "table") (b := "pick") ψ),if_pos rfl];rfl
theorem XH{zs:List Int}{i:Nat}(h:i<5):gM (cP [] (gj zs)) (ED (iH i))=GT (As (zs.getD i 0)):=by
 unfold cP gj;simp only[foldl_cons,List.foldl_nil,jA,Hs]
 match i,h with
 | 0,_=>
  rw[show iH 0=("is" : Str) from rfl];rw[if_neg (kne (a := "is") (b := "table") ψ),if_neg (kne (a := "is") (b := "mask") ψ),if_neg (kne (a := "is") (b := "below") ψ),if_neg (kne (a := "is") (b := "within") ψ),if_pos rfl]
 | 1,_=>
  rw[show iH 1=("within" : Str) from rfl];rw[if_neg (kne (a := "within") (b := "table") ψ),if_neg (kne (a := "within") (b := "mask") ψ),if_neg (kne (a := "within") (b := "below") ψ),if_pos rfl]
 | 2,_=>
  rw[show iH 2=("below" : Str) from rfl];rw[if_neg (kne (a := "below") (b := "table") ψ),if_neg (kne (a := "below") (b := "mask") ψ),if_pos rfl]
 | 3,_=>
  rw[show iH 3=("mask" : Str) from rfl];rw[if_neg (kne (a := "mask") (b := "table") ψ),if_pos rfl]
 | 4,_=>
  rw[show iH 4=("table" : Str) from rfl];rw[if_pos rfl]
theorem adi{zs:List Int}(few:Few zs)(i:Nat):-(2^40)<=zs.getD i 0/\zs.getD i 0<=2^40:=by
 rw[A4];cases e:zs[i]? with
 | none=>exact⟨δ,δ⟩
 | some z=>
  have:=few z (BB e);exact⟨by show -(2^40)<=z;omega,by show z<=2^40;omega⟩
theorem O8{zs:List Int}(few:Few zs):∀w:List Nat,-(2^40*(w.length:Int))<=rN zs w/\rN zs w<=2^40*(w.length:Int)
 | []=>by
  show -(2^40*(0:Int))<=0/\(0:Int)<=2^40*0;omega
 | i::w=>by
  have ih:=O8 few w;have h:=adi few i;rw[mL,C7];have e:((w.length+1:Nat):Int)=(w.length:Int)+1:=ω;rw[e];omega
def pk(c:Int×Int):List Int:=[c.1,c.2]
def slc(ws:List Int)(i j:Nat):List Int:=(ws.drop i).take (j-i)
theorem G8(ws:List Int)(i j:Nat)(h1:i<=j)(h2:j<=ws.length):jT (ws.map As) (GT (i:Int)) (GT (j:Int))=(slc ws i j).map As:=by
 unfold jT slc;have e1:HT.sIx (ws.map As).length 0 (GT (i:Int))=i:=by
  rw[AE];simp only[HT.sIx];split <;> omega
 have e2:HT.sIx (ws.map As).length (ws.map As).length (GT (j:Int))=j:=by
  rw[AE];simp only[HT.sIx];split <;> omega
 rw[e1,e2,map_take,map_drop]
section
variable {X:Cx}
theorem K4{pos:Pos}:QE X (.Dict [] [] pos) Uw:=⟨Wd⟩
end
def key2(a b:Int):List Key:=[IB a,IB b]
theorem Xd{a b c d:Int}(h:key2 a b=key2 c d):a=c/\b=d:=by
 unfold key2 at h;simp only[List.cons.injEq,IB.injEq,and_true] at h;exact h
theorem lF.k2{H:Hp}{a t:ID}{kvs:List (List Key×V)}{x y:Int}{v:V}(e:H a=GT (.dT kvs))(eb:H t=GT (.tup [As x,As y]))(hv:gM kvs (key2 x y)=GT v):lF H a (.ref t) (GT v):=by
 have:=lF.t (k:=key2 x y) e eb;rwa [hv] at this
theorem rT.k2{H:Hp}{a t:ID}{kvs:List (List Key×V)}{x y:Int}{v:V}(e:H a=GT (.dT kvs))(eb:H t=GT (.tup [As x,As y]))(hl:kvs.length<AK):rT H a (.ref t) v (upd H a (.dT (putK kvs (key2 x y) v))):=rT.t (k:=key2 x y) e eb hl
theorem wW{n:Nat}(h:n<=1000000):n<AK:=LM h δ
theorem mC{H H3:Hp}{bd:ID}{o:HO}(s:Same H H3)(hb:H bd=Is):Same H (upd H3 bd o):=λb u e=>by
 rw[aJ (aF e hb)];exact s b u e
open PySem.W (Frag clsIn findIn takerIn InstAt looks_clsIn looks_findIn looks_takesIn Looks check_slot looks_mroIn mroIn set_plain osa_eq)
open Builtin Builtin.ObjectAttr
open PySem.W (Frag clsIn findIn takerIn InstAt looks_clsIn looks_findIn looks_takesIn Looks check_slot looks_mroIn mroIn handedIn handedOut_of)
open PySem.W (Frag clsIn findIn takerIn InstAt looks_clsIn looks_findIn looks_takesIn looks_specialIn specialIn takesIn Looks check_slot looks_mroIn mroIn handedIn handedOut_of class_get KitX)
open Builtin
mutual
def noL:A0->Bool
 | .list _=>false
 | .tuple ds=>ad8 ds
 | _=>true
def ad8:List A0->Bool
 | []=>true
 | d::ds=>noL d&&ad8 ds
end
theorem lZ{ok:ID->Prop}{H:Hp}:∀gs:List Int,aG ok H (gs.map As) (gs.map A0.int)
 | []=>.nil
 | g::gs=>.cons (.int g) (lZ gs)
def ac6:Pl->Bool
 | .pick _=>true
 | .tab=>true
 | _=>false
def aep(ss:Sts)(C:List (List Nat×Pl)):List (List Nat×Pl):=(C.map λx=>vU ss x.2 x.1).flatten
def W9(S:List (List Nat×Pl)):Nat->Bool
 | 0=>false
 | i+1=>match S[i]? with
  | some x=>ac6 x.2
  | none=>false
theorem aH.dR{ok:ID->Prop}{H:Hp}{x:V}{ds:List A0}(t:aH ok H x (.tuple ds)):∃p xs,x=.ref p/\H p=GT (.tup xs)/\aG ok H xs ds:=by
 cases t with
 | tup o e z ts=>exact⟨_,_,rfl,e,ts⟩
def FJ:Sp:=λvs H Q _=>∃(s l:V)(ok:ID->Prop)(ss:Sts)(left:List Nat),vs=[s,l]/\aH ok H s (.list (ss.map stD))/\aH ok H l (sI left)/\Lf ss left /\
 ∀(a:ID),H a=Is->Q (.ref a) (upd H a (.lst ((left.map (lbl ss)).map As)))
def KD:Sp:=λvs H Q _=>∃(p:ID)(m B:Int),vs=[.ref p,.int m]/\bQ H p B/\0<=B/\B<=900000/\1<=m/\m<=60 /\
 ∀(l:ID)(ss:Sts) H',bY p H H'->bQ H' p (B+2000)->aH (·≠p) H' (.ref l) (.list (ss.map stD))->(ss.length:Int)=m->rR ss->(∀s,ss[0]?=GT s->s.1<=10^9)->Q (.ref l) H'
def vV:Sp:=λvs H Q _=>∃(p l:ID)(B:Int)(ss:Sts),vs=[.ref p,.ref l]/\bQ H p B/\0<=B/\B<=900000/\aH (·≠p) H (.ref l) (.list (ss.map stD))/\ss≠[]/\rR ss/\(∀s,ss[0]?=GT s->s.1<=10^9) /\
 ∀(l':ID)(ss':Sts) H',bY p H H'->bQ H' p (B+4)->aH (·≠p) H' (.ref l') (.list (ss'.map stD))->ss'.length=ss.length->rR ss'->Q (.ref l') H'
theorem rR.pre{a b:Sts}(h:rR (a++b)):rR a:=by
 have get:∀(i:Nat) s,a[i]?=GT s->(a++b)[i]?=GT s:=λi s e=>by
  rw[E8 (AM.mp e).1];exact e
 exact⟨λi s e=>h.lh i s (get i s e),λi s t e f=>h.nx i s t (get i s e) (get _ t f),λi s e=>h.bd i s (get i s e)⟩
theorem rR.Xb{a:Sts}{lo hi b hi':Int}(h:rR (a++[(lo,hi,b)]))(h1:lo<=hi')(h2:hi'<=10^9+(10^12+10)*(a.length+1)):rR (a++[(lo,hi',b)]):=by
 have e:(a++[(lo,hi,b)])[a.length]?=GT (lo,hi,b):=by rw[B8 (AU _),IP];rfl
 refine h.pre.snoc h1 (h.lh _ _ e).2 ⟨(h.bd _ _ e).1,h2⟩ λs hs=>?_;have hl:=(AM.mp hs).1;exact h.nx (a.length-1) s (lo,hi,b) (by rw[E8 hl];exact hs) (by rw[show a.length-1+1=a.length by omega];exact e)
theorem Yd(xs:List V):jT xs Is (GT (-1))=xs.dropLast:=by
 unfold jT;have e1:HT.sIx xs.length 0 Is=0:=by simp[HT.sIx]
 have e2:HT.sIx xs.length xs.length (GT (-1))=xs.length-1:=by
  simp only[HT.sIx];split
  ·omega
  omega
 rw[e1,e2,drop_zero,sub_zero,List.dropLast_eq_take]
section
variable {X:Cx}{e o:Expr}{te to:TE}{pos:Pos}
theorem Wi:OpR X (CU .IsNot) (λx y H Q=>∃a b,x=.bl a/\y=.bl b/\Q (.bl (!decide (a=b))) H):=by
 intro pins s σ H x y v u Q I rx ry h;obtain⟨a,b,rfl,rfl,q⟩:=h;cases rx;cases ry;cases a <;> cases b <;> exact Au ⟨.bl _,H,I,rfl,q⟩
def adN:R2:=λx y H Q=>∃(ok ok':ID->Prop)(d:A0),aH ok H x d/\aH ok' H y d/\d.canLay0=true/\d.depth<=100/\Q (.bl false) H
theorem aay(hu:X.A.units+200<FU):OpR X (CU .NotEq) adN:=by
 intro pins s σ H x y v u Q I rx ry h;obtain⟨ok,ok',d,t1,t2,hc,hd,q⟩:=h;obtain⟨as,ra⟩:=t1.reads I rx;obtain⟨bs,rb⟩:=t2.reads I ry;refine SeqAt.rcNeAt_reads ra rb hc hc (by rw[Nat.min_self];omega) X.prog X.w X.xe (EP X pins σ Q) ⟨.bl false,H,I,?_,q⟩;rw[SeqAt.eqv_refl d hc];rfl
end
theorem lF.k'{H:Hp}{a:ID}{kvs:List (Key×V)}{k:Key}{v:V}(e:H a=GT (.dK kvs))(hv:gM kvs k=GT v):lF H a (kV k) (GT v):=by
 rw[<- hv];exact lF.k e
theorem ln1{α:Type}{us:List α}(h:us.length=1):∃a,us=[a]:=by
 cases us with
 | nil=>cases h
 | cons a r=>
  cases r with
  | nil=>exact⟨a,rfl⟩
  | cons b r=>cases h
theorem ln2{α:Type}{us:List α}(h:us.length=2):∃a0 a1,us=[a0,a1]:=by
 cases us with
 | nil=>cases h
 | cons a0 r=>
  obtain⟨a1,rfl⟩:=ln1 (Nat.succ.inj h);exact⟨a0,a1,rfl⟩
theorem ln3{α:Type}{us:List α}(h:us.length=3):∃a0 a1 a2,us=[a0,a1,a2]:=by
 cases us with
 | nil=>cases h
 | cons a0 r=>
  obtain⟨a1,a2,rfl⟩:=ln2 (Nat.succ.inj h);exact⟨a0,a1,a2,rfl⟩
theorem ln4{α:Type}{us:List α}(h:us.length=4):∃a0 a1 a2 a3,us=[a0,a1,a2,a3]:=by
 cases us with
 | nil=>cases h
 | cons a0 r=>
  obtain⟨a1,a2,a3,rfl⟩:=ln3 (Nat.succ.inj h);exact⟨a0,a1,a2,a3,rfl⟩
theorem ln5{α:Type}{us:List α}(h:us.length=5):∃a0 a1 a2 a3 a4,us=[a0,a1,a2,a3,a4]:=by
 cases us with
 | nil=>cases h
 | cons a0 r=>
  obtain⟨a1,a2,a3,a4,rfl⟩:=ln4 (Nat.succ.inj h);exact⟨a0,a1,a2,a3,a4,rfl⟩
def tV(i:Nat):TE:=λσ H Q=>match σ[i]? with
 | some (GT x)=>Q x H
 | _=>False
theorem abt{i:Nat}{σ:St}{H:Hp}{Q:VK}(h:tV i σ H Q):Ui i σ H Q:=by
 unfold tV at h;split at h
 ·rename_i x e;exact⟨x,e,h⟩
 exact h.elim
section
variable {X:Cx}{i:Nat}{x:Str}{pos:Pos}
theorem ao(h:Nm X.N X.env.scope i x):QE X (.Name x pos) (tV i):=⟨λpins s σ H Q I q=>(aeK h).h pins s σ H Q I (abt q)⟩
theorem bf(i:Nat){x:Str}{pos:Pos}(hN:X.N[i]?=GT x:=by rfl)(hv:Vis X.env.scope x:=by first|exact C3 rfl|exact Or.inr (C3 Z)|exact Or.inr (Or.inr Z))(hd:(x == ("__debug__" : Str))=false:=by decide)
  (hcd:(x == ("__classdict__" : Str))=false:=by decide):QE X (.Name x pos) (tV i):=⟨λpins s σ H Q I q=>(aeJ i hN hv hd hcd).h pins s σ H Q I (abt q)⟩
end
def atq(o:Option V)(H:Hp)(Q:VK):Prop:=∃v,o=GT v/\Q v H
theorem Yr(v:V)(H:Hp)(Q:VK):atq (GT v) H Q=Q v H:=propext ⟨λ⟨_,e,h⟩=>by cases e;exact h,λh=>⟨v,rfl,h⟩⟩
theorem Xg(xs:List V)(i:Int)(H:Hp)(Q:VK):ixq (GT (.lst xs)) i H Q=atq (atI xs i) H Q:=rfl
theorem Xf(xs:List V)(i:Int)(H:Hp)(Q:VK):ixq (GT (.tup xs)) i H Q=atq (atI xs i) H Q:=rfl
theorem adk{b:Bool}{P:Bool->Prop}:(∃k,V.bl b=V.bl k/\P k)=P b:=propext ⟨λ⟨_,e,h⟩=>by cases e;exact h,λh=>⟨b,rfl,h⟩⟩
theorem abe{a:Int}{P:Int->Prop}:(∃k,As a=As k/\P k)=P a:=propext ⟨λ⟨_,e,h⟩=>by cases e;exact h,λh=>⟨a,rfl,h⟩⟩
theorem abd{a b:Int}{P:Int->Int->Prop}:(∃i j,As a=As i/\As b=As j/\P i j)=P a b:=propext ⟨λ⟨_,_,e,f,h⟩=>by cases e;cases f;exact h,λh=>⟨a,b,rfl,rfl,h⟩⟩
theorem abb{a b:V}{P:V->V->Prop}:(∃i j,[a,b]=[i,j]/\P i j)=P a b:=propext ⟨λ⟨_,_,e,h⟩=>by cases e;exact h,λh=>⟨a,b,rfl,h⟩⟩
theorem aeu{α:Type}(a b c d:α)(l:List α):atI (a::b::c::d::l) 3=GT d:=cH (j:=3) rfl
def ry0:=AC @QX.eq_1 (AC @Q0.eq_1 (AC @Hv.eq_1 (AC @tOp.eq_1 (AC @rI.eq_1 (AC @rI0.eq_1 (AC @rU.eq_1 (AC @tUn.eq_1 (AC @tC.eq_1 (AC @Uj.eq_1 (AC @Hw.eq_1 (AC @yX.eq_1 (AC @wV.eq_1 (AC @Kw.eq_1 (AC @tCB.eq_1 (AC @tIf.eq_1 (AC @Ur.eq_1 (AC @tB.eq_1 (AC @Uy.eq_1 (AC @Uq.eq_1 (AC @QZ.eq_1 (AC @Kv.eq_1 (AC @xZ.eq_1 (AC @lz.eq_1 (AC @aa5.eq_1 (AC @Sv (AC @aa3 (AC @Vs (AC @Vu (AC @Y4.eq_1 (AC @aa6 @ade))))))))))))))))))))))))))))))
def ry1:=AC @zL (AC @Rj (AC @Rm (AC @Zo (AC @Xg (AC @Xf (AC @Y8 (AC @aaT (AC @aaS (AC Xh.1 (AC Xh.2.1 (AC Xh.2.2 (AC @aew (AC @Yu (AC @aev (AC @aA (AC @Vx (AC @Xe (AC @ac4 (AC @kc_bool (AC @ty_int (AC @adD (AC @ty_str (AC @abL (AC @abK (AC @YS (AC @YQ (AC @vZ (AC @yd (AC @uK (AC @Gd @Ig))))))))))))))))))))))))))))))
def ry2:=AC @Cm (AC @Ie (AC @KR (AC @Gb (AC @Ia (AC @KQ (AC @FZ (AC @Ga (AC @Ib (AC @Ck (AC @Cj (AC @FW (AC @zJ (AC @Mk (AC @LN (AC @Fm (AC @decide_true (AC @Hx.eq_1 (AC @rEq.eq_1 (AC @rNe.eq_1 @Zx)))))))))))))))))))
def ry3:=AC @Zw (AC @NT (AC @ab6 (AC @ab8 (AC @aei (AC @aeh (AC @Ri (AC @Zb (AC @Us.eq_1 (AC @abQ.eq_1 (AC @KC.eq_1 (AC @Va (AC @U9 (AC @TX.eq_1 (AC @adA.eq_1 (AC @abG.eq_1 (AC @L2.start.eq_1 (AC @CB.{0,0} (AC @map_nil.{0,0} (AC @C7.{0} (AC @KW.{0} (AC @List.cons_append.{0} (AC @nil_append.{0} (AC @GY.{0} (AC @List.replicate_zero.{0} (AC @EK.{0} (AC @GU.{0} @IT.{0}))))))))))))))))))))))))))
def ry4:=AC @Mm.{0} (AC @set_cons_succ.{0} (AC @IP (AC @Option.some.injEq.{0} (AC @exists_eq_left'.{1} (AC @XQ (AC @V.int.injEq (AC @V.str.injEq (AC @V.ref.injEq (AC @List.cons.injEq.{0} (AC @and_true (AC @true_and (AC @exists_and_left.{1} (AC @decide_eq_true_eq (AC @Ux (AC @Kg (AC @yO (AC @vN (AC @Vp (AC @Zc (AC @tSl.eq_1 (AC @Fx.eq_1 (AC @Uo.eq_1 @Zm))))))))))))))))))))))
def ry5:=AC @Zn (AC @Zf (AC @Zt (AC @Zr (AC @Jy (AC @PX (AC @PN (AC @Y5 (AC @Ud (AC @Ug (AC @YW (AC @Ue (AC @YZ (AC @YX (AC @Xp (AC @abI (AC @abH (AC @Ul (AC @Z5 (AC @Z4 (AC @Ky.eq_1 (AC @abU.eq_1 @ipI.eq_1)))))))))))))))))))))
def ry6:=AC @aeu (AC @Yr (AC @adk (AC @abe (AC @abd @abb))))
def rdy:=AC ry0 (AC ry1 (AC ry2 (AC ry3 (AC ry4 (AC ry5 (AC ry6 @tV.eq_1))))))
theorem adl{K:AD}{h:Heap}{mg:Str->Option Ap}{x:Str}{st:Stmt}{ps:List Str}{f:ID}{oc:Ap}{od an:Option ID}{osl:Array (Option Ap)}{kV doc pm cdv ct:Ap}(X:K.In h)(G:h.Ns CD mg)(a:nsIn K CD x=GT (GT (.ref f)))
  (l:K.lookup f=GT ⟨oc,od,.func (fnOf x x (iB st) (fC st) (aj st) .none kV doc pm an cdv ct),osl⟩)(c:codeIn K cdv x=true)(k:keepIn K (.ref f)=true)
  (hb:∀(kV doc pm:Ap)(an:Option ID)(cdv ct:Ap)(us:List Ap),us.length=ps.length->bindArgs (fnOf x x (iB st) (fC st) (aj st) .none kV doc pm an cdv ct) ⟨us,[]⟩=pure (ps.zip us)):YD K mg x st ps f (fnOf x x (iB st) (fC st) (aj st) .none kV doc pm an cdv ct):=
 ⟨Xy (st:=st) l c k,(Xy (st:=st) l c k).binds hb,mg_of X G a⟩
end L2
set_option maxHeartbeats 4100000
namespace SRT
open PySem PyProof.Rows
def Ris(xs:Array Nat):Prop:=xs.toList.Pairwise (· < ·)
theorem Ris.lt{xs:Array Nat}(h:Ris xs){i k x y:Nat}(hx:xs[i]?=GT x)(hy:xs[k]?=GT y)(hik:i<k):x<y:=by
 rw[<- Da] at hx hy;obtain⟨h1,rfl⟩:=AM.mp hx;obtain⟨h2,rfl⟩:=AM.mp hy;exact List.pairwise_iff_getElem.mp h i k h1 h2 hik
theorem aa4{xs:Array Nat}(hr:Ris xs)(j:Nat):∀fuel lo hi,hi-lo<=fuel->lo<=hi->hi<=xs.size->(∀i x,xs[i]?=GT x->i<lo->x<j)->(∀i x,xs[i]?=GT x->hi<=i->j<=x) ->
  (∀i x,xs[i]?=GT x->(i<AW.below.go xs j fuel lo hi↔x<j))/\AW.below.go xs j fuel lo hi<=xs.size:=by
 intro fuel
 induction fuel with
 | zero=>
  intro lo hi h1 h2 h3 h4 h5;have e:hi=lo:=ω;subst e;refine⟨λi x hx=>⟨λhl=>h4 i x hx hl,λhl=>?_⟩,h3⟩;show i<hi;refine Nat.lt_of_not_le λhle=>?_;have:=h5 i x hx hle;omega
 | succ fuel ih=>
  intro lo hi h1 h2 h3 h4 h5;show(∀i x,xs[i]?=GT x->(i<(if lo<hi then if xs.getD ((lo+hi)/2) j<j then AW.below.go xs j fuel ((lo+hi)/2+1) hi else AW.below.go xs j fuel lo ((lo+hi)/2) else lo)↔x<j))/\(if lo<hi then if xs.getD ((lo+hi)/2) j<j then AW.below.go xs j fuel ((lo+hi)/2+1) hi else AW.below.go xs j fuel lo ((lo+hi)/2) else lo)<=xs.size;by_cases hl:lo<hi
  ·rw[if_pos hl];have hm:(lo+hi)/2<xs.size:=ω;have hg:xs[(lo+hi)/2]?=GT xs[(lo+hi)/2]:=by simp[hm]
   have hd:xs.getD ((lo+hi)/2) j=xs[(lo+hi)/2]:=by simp[Array.getD,hm]
   rw[hd];by_cases hc:xs[(lo+hi)/2]<j
   ·rw[if_pos hc];refine ih _ _ ω ω h3 (λi x hx hi'=>?_) h5;by_cases e:i=(lo+hi)/2
    ·subst e;rw[hg] at hx;cases hx;exact hc
    exact lt_trans (hr.lt hx hg ω) hc
   rw[if_neg hc];refine ih _ _ ω ω ω h4 (λi x hx hi'=>?_);by_cases e:i=(lo+hi)/2
   ·subst e;rw[hg] at hx;cases hx;omega
   have:=hr.lt hg hx ω;omega
  rw[if_neg hl];have e:hi=lo:=ω;subst e;refine⟨λi x hx=>⟨λhl=>h4 i x hx hl,λhl=>?_⟩,h3⟩;refine Nat.lt_of_not_le λhle=>?_;have:=h5 i x hx hle;omega
theorem uq{xs:Array Nat}(hr:Ris xs)(j:Nat):(∀i x,xs[i]?=GT x->(i<AW.below xs j↔x<j))/\AW.below xs j<=xs.size:=by
 unfold AW.below;refine aa4 hr j _ _ _ ω ω (AU _) (λ_ _ _ h=>absurd h ω) λi x hx hi=>?_;have:=(Array.getElem?_eq_some_iff.mp hx).1;omega
theorem Ke{xs:Array Nat}(hr:Ris xs){j:Nat}(hn:xs[AW.below xs j]?≠GT j):∀x∈xs.toList,x≠j:=by
 intro x hx e;subst e;obtain⟨i,hi,e⟩:=D9.mp hx;have hg:xs[i]?=GT x:=by rw[<- Da,AF hi,e]
 have hs:=uq hr x;have h1:=(hs.1 i x hg);have h2:AW.below xs x<=i:=by
  refine Nat.le_of_not_lt λh=>?_;exact E4 _ (h1.mp h)
 rcases G2 (AW.below xs x) i with h|h
 ·have hi':i<xs.size:=by simpa using hi
  have hb:AW.below xs x<xs.size:=ω;have hgb:xs[AW.below xs x]?=GT xs[AW.below xs x]:=by simp[hb]
  have l1:=hr.lt hgb hg h;have:=(hs.1 _ _ hgb).mpr l1;omega
 have e:AW.below xs x=i:=ω;rw[e] at hn;exact hn hg
theorem CG{α:Type}(xs:Array α)(p:Nat)(x:α):(AW.insertAt xs p x).toList=xs.toList.take p++x::xs.toList.drop p:=by
 unfold AW.insertAt;simp[Array.toList_extract,List.extract,D7]
theorem KY{xs:Array Nat}(hr:Ris xs){j:Nat}(hn:xs[AW.below xs j]?≠GT j):Ris (AW.insertAt xs (AW.below xs j) j):=by
 have hs:=uq hr j;have hne:=Ke hr hn;show(AW.insertAt xs (AW.below xs j) j).toList.Pairwise (· < ·);rw[CG];have hx:xs.toList.Pairwise (· < ·):=hr;rw[LO,CO];refine⟨hx.sublist (List.take_sublist _ _),⟨λy hy=>?_,hx.sublist (List.drop_sublist _ _)⟩,λa ha b hb=>?_⟩
 ·obtain⟨i,hi,e⟩:=D9.mp hy;rw[List.getElem_drop] at e;have hl:AW.below xs j+i<xs.toList.length:=by rw[F1] at hi;omega
  have hg:xs[AW.below xs j+i]?=GT y:=by rw[<- Da,AF hl,e]
  have h1:=hs.1 _ _ hg;have h2:=hne y (List.mem_of_mem_drop hy);have:¬(y<j):=λh=>by have:=h1.mpr h;omega
  omega
 have l1:a<j:=by
  obtain⟨i,hi,e⟩:=D9.mp ha;rw[List.getElem_take] at e;have hl:i<AW.below xs j/\i<xs.toList.length:=by rw[FF] at hi;omega
  have hg:xs[i]?=GT a:=by rw[<- Da,AF hl.2,e]
  exact(hs.1 _ _ hg).mp hl.1
 rcases A1.mp hb with rfl|hb
 ·exact l1
 obtain⟨i,hi,e⟩:=D9.mp hb;rw[List.getElem_drop] at e;have hl:AW.below xs j+i<xs.toList.length:=by rw[F1] at hi;omega
 have hg:xs[AW.below xs j+i]?=GT b:=by rw[<- Da,AF hl,e]
 have h1:=hs.1 _ _ hg;have:¬(b<j):=λh=>by have:=h1.mpr h;omega
 omega
def TOk(b:Bool)(t:AW):Prop:=Ris t.place/\t.dummies=#[]/\t.led=b
theorem QK{b:Bool}{t:AW}(h:TOk b t)(p:Bool):TOk b { t with plain:=p }:=h
theorem Rc(n:Nat):Ris (Array.range n):=by
 show(Array.range n).toList.Pairwise (· < ·);rw[Array.toList_range];exact FX
theorem lK{b:Bool}{t:AW}(h:TOk b t)(n:Nat):TOk b (t.standIn n):=⟨Rc n,rfl,h.2.2⟩
theorem Cg{b:Bool}{t:AW}(h:TOk b t)(n:Nat):TOk b (t.orStandIn n):=by
 unfold AW.orStandIn;split
 ·exact h
 exact lK h n
theorem Ds(f m:Nat)(b:Bool):TOk b (AW.fresh f m b):=⟨List.Pairwise.nil,rfl,rfl⟩
theorem K6{t:AW}(hd:t.dummies=#[]){f:Nat->Int}{h:Int}(hf:∀i,(f i == h)=false):∀(fuel:Nat)(p:AW.Probe),p.dummy=Is ->
  ∀m,AW.probe.go t f h fuel p=GT m->∃j,m=.empty j Is/\t.place[AW.below t.place j]?≠GT j:=by
 intro fuel
 induction fuel with
 | zero=>intro p _ m e;exact absurd e (by simp[AW.probe.go])
 | succ fuel ih=>
  intro p hp m e;unfold AW.probe.go at e;have hnd:∀j,AW.has t.dummies j=false:=λj=>by rw[hd];simp[AW.has]
  have hadv:∀q:AW.Probe,q.dummy=Is->(t.advance q).dummy=Is:=λq hq=>by
   unfold AW.advance;split
   ·exact hq
   exact hq
  split at e
  ·rename_i hs;cases e;refine⟨p.j,by rw[hp],λhc=>?_⟩;unfold AW.slot at hs;simp[hc] at hs
  ·rename_i hs;unfold AW.slot at hs;dsimp only at hs;split at hs
   ·cases hs
   rw[hnd] at hs;simp at hs
  rw[hf,if_neg ζ] at e;exact ih _ (hadv _ hp) m e
theorem JN{t:AW}(hd:t.dummies=#[]){h:Int}{j:Nat}{b:Bool}(e:t.freeSlot h=GT (j,b)):t.place[AW.below t.place j]?≠GT j:=by
 unfold AW.freeSlot AW.probe at e;split at e
 ·rename_i j' d hp;obtain⟨j2,e2,hn⟩:=K6 hd (f:=λ_=>h+1) (h:=h) (λi=>by simp;omega) _ _ Z _ hp;cases e2;simp at e;rw[<- e.1];exact hn
 cases e
theorem Ms{b:Bool}{t:AW}(ht:TOk b t)(es:Array (Int×Ap))(h:Int)(x:Ap):TOk b (layNew t es h x).2.1:=by
 unfold layNew;split
 ·rename_i slot wd hs;have hn:=JN ht.2.1 hs;refine Cg ?_ _;unfold AW.put;refine⟨KY ht.1 hn,?_,ht.2.2⟩;show(if AW.has t.dummies slot=true then AW.eraseAt t.dummies (AW.below t.dummies slot) else t.dummies)=#[];rw[ht.2.1];rfl
 exact lK ht _
theorem Ge{b:Bool}{t:AW}(ht:TOk b t)(es:Array (Int×Ap))(n:Nat):TOk b (relayAll t es n).2.1:=by
 unfold relayAll;split
 ·rename_i t' order hr;dsimp only;split
  ·unfold AW.relaid AW.laid at hr;cases ho:AW.layClean (AW.sizeAbove n-1) (es.map (·.1)) with
   | none=>rw[ho] at hr;cases hr
   | some owner=>
    rw[ho] at hr;simp only[Option.bind_eq_bind,Option.bind_some,Option.pure_def,Option.some.injEq,Prod.mk.injEq] at hr;obtain⟨rfl,-⟩:=hr;refine⟨?_,rfl,ht.2.2⟩;show(List.map _ _).toArray.toList.Pairwise (· < ·);rw[List.toList_toArray,K0,List.pairwise_filterMap];refine FX.imp λ{a c} hac p hp q hq=>?_;simp only[BU] at hp hq;obtain⟨_,_,rfl⟩:=hp;obtain⟨_,_,rfl⟩:=hq;exact hac
  exact lK ht _
 exact lK ht _
end SRT
namespace SRT
open PySem PyProof.Rows
section
variable {prog:AR}{w:A9}{K:Type}[DecidableEq K]
def SetT(knd:KeyKind prog w K)(b:Bool)(h:Heap)(a:ID)(S:K->Bool)(n:Nat):Prop:=
 ∃o es ep t,h.get? a=GT o/\o.ExactSet/\o.data=.set es ep t/\(ElemsOf knd es.toList/\(∀k,S k=true ↔ ∃e∈es.toList,knd.is k e.2=true)/\es.size<FO)/\t.fits es.size=true/\es.size=n/\TOk b t
variable {knd:KeyKind prog w K}{A:A5}{E:Ap->AA->Prop}{s:AA}{b:Bool}
theorem SetT.get{h h':Heap}{a:ID}{S:K->Bool}{n:Nat}(hS:SetT knd b h a S n)(hk:∀o,h.get? a=GT o->h'.get? a=GT o):SetT knd b h' a S n:=
 let ⟨o,es,ep,t,ho,r⟩:=hS;⟨o,es,ep,t,hk o ho,r⟩
theorem SetT.congr{h:Heap}{a:ID}{S S':K->Bool}{n n':Nat}(hS:SetT knd b h a S n)(e:∀k,S k=S' k)(en:n=n'):SetT knd b h a S' n':=by
 have:S=S':=funext e;subst this;subst en;exact hS
theorem Ea{h:Heap}{a:ID}{o:Obj}{es:Array (Int×Ap)}{ep:Nat}{t:AW}(ho:h.get? a=GT o)(hex:o.ExactSet)(hd:o.data=.set es ep t)
  {es':Array (Int×Ap)}{t':AW}{S':K->Bool}(hel:ElemsOf knd es'.toList/\(∀k,S' k=true ↔ ∃e∈es'.toList,knd.is k e.2=true)/\es'.size<FO)(hf:t'.fits es'.size=true)(ht:TOk b t') :
  (h.update a (Obj.putSet es' t')).get? a=GT { o with data:=.set es' (ep+1) t' }/\SetT knd b (h.update a (Obj.putSet es' t')) a S' es'.size:=by
 have hg:(h.update a (Obj.putSet es' t')).get? a=GT { o with data:=.set es' (ep+1) t' }:=by
  have q:=HK (Obj.putSet es' t') ho (by rw[putSet_of es' t' hd];rfl);rw[putSet_of es' t' hd] at q;exact q
 exact⟨hg,_,es',ep+1,t',hg,hex,rfl,hel,hf,rfl,ht⟩
theorem Kh{g:Bool->Sem Unit}(hg:∀(c:Bool)(s₁:AA)(Q':Unit->AA->Prop),Q' () s₁->AG (AJ prog w) A (g c) Q' E s₁)
  {a:ID}{o:Obj}{es:Array (Int×Ap)}{ep:Nat}{t:AW}(ho:s.heap.get? a=GT o)(hex:o.ExactSet)(hd:o.data=.set es ep t)
  {es1:Array (Int×Ap)}{t2:AW}{S':K->Bool}(hel:ElemsOf knd es1.toList/\(∀k,S' k=true ↔ ∃e∈es1.toList,knd.is k e.2=true)/\es1.size<FO)
  (hf:t2.fits es1.size=true)(ht:TOk b t2){wd:Bool}{R:Option Bool->AA->Prop}
  (h:∀h',B3 a s.heap h'->SetT knd b h' a S' es1.size->R (GT true) { s with heap:=h' }) :
  AG (AJ prog w) A (storeSet a es1 t2 >>= λ_=>if (!wd&&t2.tooFull)=true then (g (relayAll t2 es1 (AW.grown es1.size)).2.2 >>= λ_=>storeSet a (relayAll t2 es1 (AW.grown es1.size)).1 (relayAll t2 es1 (AW.grown es1.size)).2.1 >>= λ_=>pure (GT true)) else pure (GT true)) R E s:=by
 refine An (wpAny_storeSet_of ho hd ?_ (fits_of_scanBound hel.2.2));obtain⟨ho1,hS1⟩:=Ea (knd:=knd) ho hex hd hel hf ht;have hsb1:=B3.update s.heap a (Obj.putSet es1 t2);by_cases hc:(!wd&&t2.tooFull)=true
 ·rw[if_pos hc];have hp:=relayAll_perm t2 es1 (AW.grown es1.size);have hfr:=relayAll_fits t2 es1 (AW.grown es1.size);have htr:=Ge ht es1 (AW.grown es1.size);generalize relayAll t2 es1 (AW.grown es1.size)=Rl at hp hfr htr |-;obtain⟨es2,t3,gv⟩:=Rl;dsimp only at hp hfr htr |-;have hsz:es2.size=es1.size:=by rw[<- EF,hp.length_eq,EF]
  have hel2:ElemsOf knd es2.toList/\(∀k,S' k=true ↔ ∃e∈es2.toList,knd.is k e.2=true)/\es2.size<FO:=
   ⟨hel.1.perm hp,λk=>(hel.2.1 k).trans ⟨λ⟨e,he,q⟩=>⟨e,hp.mem_iff.mpr he,q⟩,λ⟨e,he,q⟩=>⟨e,hp.mem_iff.mp he,q⟩⟩,by rw[hsz];exact hel.2.2⟩
  refine An (hg _ _ _ (An (wpAny_storeSet_of ho1 Z ?_ (fits_of_scanBound hel2.2.2))));obtain⟨_,hS2⟩:=Ea (knd:=knd) ho1 hex Z hel2 hfr htr;rw[hsz] at hS2;exact Au (h _ (hsb1.trans (B3.update _ a _)) hS2)
 rw[if_neg hc];exact Au (h _ hsb1 hS1)
theorem HW{a:ID}{S:K->Bool}{n:Nat}{k:K}{x:Ap}{Q:Bool->AA->Prop}(hkey:knd.is k x=true)(hsc:x.scannable=true)(hS:SetT knd b s.heap a S n)(hroom:n+1<FO)
  (h:∀h',B3 a s.heap h'->SetT knd b h' a (λk'=>S k'||decide (k'=k)) (if S k then n else n+1)->Q (!S k) { s with heap:=h' }) :
  AG (AJ prog w) A (setAddHashed a x (knd.hash k)) Q E s:=by
 obtain⟨o,es,ep,t,ho,hex,hd,hel,hf,hn,ht⟩:=hS;unfold setAddHashed setAddHashedIn;refine BH (An (wpAny_setState_of ho hd hf ?_));dsimp only;rw[byScan_of hsc hel.2.2 hel.1,if_pos rfl];unfold setAddByScan;refine An (An (CY (An (wpAny_setScan_of hkey ho hd hf hel.1 ?_))));cases hr:List.findIdx? (λe=>knd.is k e.2) es.toList with
 | some j=>
  dsimp only;obtain⟨hj,hpj,_⟩:=List.findIdx?_eq_some_iff_getElem.mp hr;have hSk:S k=true:=(hel.2.1 k).mpr ⟨es.toList[j],FG hj,hpj⟩;refine Au (Au ?_);have q:=h s.heap (B3.refl a s.heap) ⟨o,es,ep,t,ho,hex,hd,⟨hel.1,λk'=>by
   rw[or_eq_true,decide_eq_true_eq,<- hel.2.1 k'];exact⟨λhk=>hk.elim id (λe=>e ▸ hSk),.inl⟩,hel.2.2⟩,hf,by rw[hSk];exact hn,ht⟩
  rw[hSk] at q;exact q
 | none=>
  dsimp only;have hSk:S k=false:=by
   cases hk:S k with
   | false=>rfl
   | true=>
    obtain⟨e,he,hp⟩:=(hel.2.1 k).mp hk;have q:=List.findIdx?_eq_none_iff.mp hr e he;rw[hp] at q;exact Bool.noConfusion q
  have hgw:∀(c:Bool){s₁:AA}{Q':Unit->AA->Prop},Q' () s₁->AG (AJ prog w) A (match c with|true=>rule "set.scan.the-table-gave-way" | false=>pure ()) Q' E s₁:=
   λc s₁ Q' hq=>by cases c <;> first|exact Au hq|exact CY hq
  have hperm:=layNew_perm t es (knd.hash k) x;have hfits:=layNew_fits t es (knd.hash k) x;have htok:=Ms ht es (knd.hash k) x;generalize layNew t es (knd.hash k) x=L at hperm hfits htok |-;obtain⟨es1,t1,wd,gv⟩:=L;dsimp only at hperm hfits htok |-;rw[toList_push] at hperm;have hsz1:es1.size=n+1:=by rw[<- EF,hperm.length_eq,AV,EF,hn];rfl
  have hel1:ElemsOf knd es1.toList/\(∀k',(S k'||decide (k'=k))=true ↔ ∃e∈es1.toList,knd.is k' e.2=true)/\es1.size<FO:=
   ⟨(hel.1.push hkey hsc).perm hperm,mem_push_iff hkey hel.2.1 hperm,by rw[hsz1];exact hroom⟩
  have hend:∀h',B3 a s.heap h'->SetT knd b h' a (λk'=>S k'||decide (k'=k)) es1.size->Q true { s with heap:=h' }:=by
   intro h' hsb hS';have q:=h h' hsb;rw[hSk] at q;rw[hsz1] at hS';exact q hS'
  refine An (hgw _ ?_);by_cases hpl:t1.plain=true
  ·rw[if_pos hpl,hashByValue_scannable 8 hsc];refine An (Au ?_);refine Kh (b:=b) ?_ ho hex hd hel1 (t2:=if plainKind x=true then t1 else { t1 with plain:=false }) ?_ ?_ ?_
   ·intro c s₁ Q' hq;cases c <;> first|exact Au hq|exact CY hq
   ·split
    ·exact hfits
    exact AW.fits_plain_off hfits
   ·split
    ·exact htok
    exact QK htok false
   intro h' hsb hS';dsimp only;exact Au (hend h' hsb hS')
  rw[if_neg hpl];refine An (Au ?_);refine Kh (b:=b) ?_ ho hex hd hel1 hfits htok ?_
  ·intro c s₁ Q' hq;cases c <;> first|exact Au hq|exact CY hq
  intro h' hsb hS';dsimp only;exact Au (hend h' hsb hS')
end
end SRT
namespace SRT
open PySem PyProof.Rows
abbrev bt(w:A9):Bool:=w.params.followText "set-order"
section
variable {prog:AR}{w:A9}{A:A5}{R:Result->AA->Prop}{I:ID}{fp wr:List ID}{G:Array GenState->Array GenState->Prop}{n:Nat}{P:Nat->Ap->Prop}{St:Nat->AA->Prop}{b:Bool}
theorem T7(W:WalksS prog w A.in1 I fp wr G n P St)(S:ID)(hSf:S∉fp)(val:Nat->Int)(hval:∀i v,P i v->∃t,v=.int (val i) t)(hb:n+1<FO) :
  ∀(k i:Nat)(s:AA),n-i=k->i<=n->St i s->SetT (FR prog w) b s.heap S (λk'=>(FL val i).any (· == k')) (FL val i).length ->
   (∀s',Moved (S::wr) G s s'->SetT (FR prog w) b s'.heap S (λk'=>(FL val n).any (· == k')) (FL val n).length->R (.ok (.ret .none)) s') ->
   DL (AJ prog w) A (.builtin "set.update.loop" ⟨[.ref S,.ref I],[]⟩) R s:=by
 have hSw:S∉wr:=λh=>hSf (W.sub _ h);have hsub:∀c∈wr,c∈S::wr:=λc hc=>BE _ hc;intro k
 induction k with
 | zero=>
  intro i s hk hi hst hS hR;have hin:i=n:=ω;subst hin;refine C5 F.entry_set_update_loop ?_;rw[A5.under_plainId KA _];show AG _ A.in1 (D2 (.ref I) >>= _) _ _ s;refine An (W.done s _ _ hst λs' hm=>?_);show AG _ A.in1 (ret Ap.none) _ _ s';exact Au (hR s' (hm.mono hsub) (hS.get λo e=>hm.heap S _ hSw e))
 | succ k ih=>
  intro i s hk hi hst hS hR;have hlt:i<n:=ω;refine C5 F.entry_set_update_loop ?_;rw[A5.under_plainId KA _];show AG _ A.in1 (D2 (.ref I) >>= _) _ _ s;refine An (W.item i s _ _ hlt hst λv s' hP hst' hm=>?_);obtain⟨t,rfl⟩:=hval i v hP;have hS':=hS.get λo e=>hm.heap S _ hSw e;show AG _ A.in1 (EN [DO (val i) t] (setAdd S (.int (val i) t)) >>= _) _ _ s';refine An (BH ?_);unfold setAdd;refine BH (An ((FR prog w).pyHash (k:=val i) (intKind_is _ _ _ _) ?_));have hroom:(FL val i).length+1<FO:=by have:=firstMet_length_le val i;omega
  refine HW (knd:=FR prog w) (s:={ s' with toks:=s'.toks+1 }) (intKind_is _ _ _ _) Z hS' hroom λh' hsb hS2=>?_;have hSi:SetT (FR prog w) b h' S (λk'=>(FL val (i+1)).any (· == k')) (FL val (i+1)).length:=
   hS2.congr (λk'=>by rw[firstMet_succ,step_any]) (by rw[firstMet_succ,step_length])
  refine Au ⟨HR KA _,ih (i+1) _ ω hlt (W.frame _ s' _ _ hst' (le_succ _) λc hc o e=>?_) hSi λs'' hm'' hS''=>?_⟩
  ·rw[hsb.2 c (λh:c=S=>hSf (by rw[<- h];exact hc))];exact e
  refine hR s'' (Moved.trans W.gtrans ((hm.mono hsub).then_heap (le_succ _) λc o hc e=>?_) hm'') hS'';rw[hsb.2 c (λh:c=S=>hc (by rw[h];exact A7))];exact e
end
abbrev uF(w:A9):Obj:={ cls:=.type "set",dict:=Is,data:=.set #[] 0 (.fresh 0 0 (!bt w)) }
section
variable {prog:AR}{w:A9}{A:A5}{E:Ap->AA->Prop}{s:AA}
theorem S7(a:Ap){Q₁:Ap->AA->Prop}(h:Q₁ (.ref s.heap.objs.size) { s with heap:=s.heap.push (uF w) }) :
  DL (AJ prog w) A (.call (.builtin "set.__new__") ⟨[.type "set",a],[]⟩) (wants Q₁ E) s:=by
 refine GI (show AG _ A.in1 (checkBuiltinCall "set.__new__" ⟨[.type "set",a],[]⟩ >>= λ_=>GW (.builtin "set.__new__" ⟨[.type "set",a],[]⟩)) _ _ s from ?_);refine An (Cs (F.newCall_set_1 a) (Au ⟨HR F.plain_set_new _,C5 F.entry_set_new ?_⟩));rw[A5.under_plainId F.plain_set_new _];unfold AI.«set.__new__» AI.Frozenset.newClass;have hsub:=sub_set_self;obtain⟨hp,g,d,tk,os⟩:=s;dsimp only
 wp_walk
 refine EC (Au ?_);dsimp only;simp only[newObj];exact An (wpAny_alloc (Au (Au h)))
set_option maxHeartbeats 3200000 in
theorem Tc{l:ID}{items:Array Ap}{ns:List Int}{Q:Ap->AA->Prop}(hh:A.handled=Is)(hl:s.heap.IsList l items)(hi:Fu items.toList ns)(hb:items.size+1<FO)
   (h:∀(h':Heap)(tk:Nat),SetT (FR prog w) (!bt w) h' s.heap.objs.size (λk'=>(FL (λi=>ns.getD i 0) items.size).any (· == k')) (FL (λi=>ns.getD i 0) items.size).length ->
   (∀c o,c<s.heap.objs.size->s.heap.get? c=GT o->h'.get? c=GT o)->Q (.ref s.heap.objs.size) { s with heap:=h',toks:=tk }) :
  AG (AJ prog w) A (call (.type "set") [.ref l]) Q E s:=by
 obtain⟨c,tl,hmro⟩:=Go.mro;have hmade:=Go.made;have hsub:=Go.sub;refine wpAny_call (GI (show AG _ _ (callAny (.type "set") _) _ _ _ from Au ⟨FI _ ψ,C5 F.entry_type_call ?_⟩));rw[A5.under_plain (Lo "set" [.ref l] []) rfl];have h1:=Go.notType;have h2:=Go.canCreate;have hct:=F.typeCall_set_1 (.ref l)
 repeat (any_goals (first|assumption|wp_step))
 refine IC (S7 (.ref l) (E:=E) (Q₁:=λobj s₁=>obj=.ref s.heap.objs.size/\s₁={ s with heap:=s.heap.push (uF w) }) ⟨rfl,rfl⟩) λr s₁ hr=>?_;cases r with
 | error e=>exact hr
 | ok fl=>
  cases fl with
  | ret obj=>
   obtain⟨rfl,rfl⟩:=hr;have hS:(s.heap.push (uF w)).get? s.heap.objs.size=GT (uF w):=AO _ rfl;have hT:AA.TypeIs { s with heap:=s.heap.push (uF w) } (.ref s.heap.objs.size) "set" := ⟨_,hS,rfl⟩;have hli:=Go.init.lookup;have hbi:=Go.init.bind (.ref s.heap.objs.size)
   repeat (any_goals (first|assumption|wp_step))
   refine IC (F8 (R:=wants (λr s₂=>r=.none/\∃h' tk,s₂={ s with heap:=h',toks:=tk } /\
     SetT (FR prog w) (!bt w) h' s.heap.objs.size (λk'=>(FL (λi=>ns.getD i 0) items.size).any (· == k')) (FL (λi=>ns.getD i 0) items.size).length /\
     (∀c o,c<s.heap.objs.size->s.heap.get? c=GT o->h'.get? c=GT o)) E) Go.init.plain F.entry_set_init (check_set_init_1 hT ?_)) λr₂ s₂ hr₂=>?_
   ·obtain⟨ol,hol,hcl,nl,hdl⟩:=hl;obtain⟨ocls,odict,odata,oslots⟩:=ol;simp only at hcl hdl;subst hcl;subst hdl;have hol':(s.heap.push (uF w)).get? l=GT { cls:=.type "list",dict:=odict,data:=.seq items nl,slots:=oslots }:=AB _ hol;have hsls:=F.sub_list_set;have hslf:=F.sub_list_frozenset;have hne:(EQ "list" == EQ "dict")=false:=by decide
    have hl1:(s.heap.push (uF w)).IsList l items:=⟨_,hol',rfl,nl,rfl⟩;unfold AI.«set.__init__» noKeywords AI.Frozenset.updateFrom;generalize hPI:IH=PI
    wp_walk
    subst hPI;refine G1 hl1 (An (LP ?_));have hlS:l<s.heap.objs.size:=AY hol;have hh3:A.in1.in1.in1.handled=Is:=by simp[hh]
    have hneI:l≠(s.heap.push (uF w)).objs.size:=by
     rw[Ct];exact B5 (D4 hlS)
    have hSf:s.heap.objs.size∉[(s.heap.push (uF w)).objs.size,l]:=by
     rw[Ct];simp only[A1,AL,BA,or_false,not_or];exact⟨B5 (C8 _),ne_of_gt hlS⟩
    have hval:∀(i:Nat)(v:Ap),items[i]?=GT v->∃t,v=.int ((λi=>ns.getD i 0) i) t:=λi v hv=>Fu.int_at hi i v (by rw[Da];exact hv);refine T7 (b:=!bt w) ((Walks.list hh3 _ l hneI items).toS) s.heap.objs.size hSf (λi=>ns.getD i 0) hval hb (items.size-0) 0 _ ω (DJ _)
     ⟨⟨_,AO _ rfl,rfl,rfl⟩,(hl1.push _)⟩ ?hS0 ?hR
    case hS0=>exact⟨_,#[],0,_,AB _ hS,⟨rfl,rfl,rfl⟩,rfl,⟨λe he=>by simp at he,λk=>by simp[firstMet_zero],δ⟩,by rfl,rfl,Ds _ _ _⟩
    case hR=>
     intro s' hm hS';obtain⟨h',g',d',tk',os'⟩:=s';have eg:g'=s.gens:=hm.gens;have ed:d'=s.drawn:=hm.drawn;have eo:os'=s.os:=hm.os;subst eg;subst ed;subst eo;show AG _ _ _ _ _ _;refine Au (show AG _ _ (ret Ap.none) _ _ _ from Au ⟨rfl,h',tk',rfl,hS',λc o hc e=>?_⟩);have hc1:c≠s.heap.objs.size:=B5 hc;have hc2:c≠(s.heap.push (uF w)).objs.size:=by
      rw[Ct];exact B5 (D4 hc)
     exact hm.heap c o (by simp only[A1,AL,BA,or_false,not_or];exact⟨hc1,hc2⟩) (AB _ (AB _ e))
   cases r₂ with
   | error e=>exact hr₂
   | ok fl₂=>
    cases fl₂ with
    | ret r=>
     obtain⟨rfl,h',tk,rfl,hS',hk'⟩:=hr₂
     repeat (any_goals (first|assumption|wp_step))
     exact h _ _ hS' hk'
    | _=>exact hr₂.elim
  | _=>exact hr.elim
end
end SRT
namespace SRT
open PySem PyProof.Rows
theorem tH{α:Type}:∀{l:List α}{i:Nat}(h:i<l.length),(l[i]::l.eraseIdx i).Perm l
 | x::l,0,_=>FB.refl _
 | x::l,i+1,h=>by
  have h':i<l.length:=by simpa using h
  show(l[i]::x::l.eraseIdx i).Perm (x::l);exact(FB.swap _ _ _).trans (FB.cons _ (tH h'))
section
variable {prog:AR}{w:A9}{A:A5}{E:Ap->AA->Prop}
theorem wp_choose{s:AA}{src:Source}{n:Nat}{Q:Nat->AA->Prop}(hn:n≠0)(h:∀k d,k<n->Q k { s with drawn:=d }):AG (AJ prog w) A (choose src n) Q E s:=
 λ_ _ _=>⟨hn,h _ _ (mod_lt _ (Nat.pos_of_ne_zero hn))⟩
theorem abf{α:Type}:∀(n:Nat)(xs:List α)(s:AA){Q:List α->AA->Prop},xs.length=n->(∀ys d,ys.Perm xs->Q ys { s with drawn:=d })->AG (AJ prog w) A (drawOrder n xs) Q E s:=by
 intro n
 induction n with
 | zero=>
  intro xs s Q hl h;have e:xs=[]:=IU.mp hl;subst e;exact Au (h [] s.drawn (FB.refl _))
 | succ n ih=>
  intro xs s Q hl h;cases xs with
  | nil=>cases hl
  | cons x xs=>
   unfold drawOrder;refine An (wp_choose ζ λi d hi=>?_);have hg:(x::xs)[i]?=GT (x::xs)[i]:=AF hi;rw[hg];dsimp only;refine An (ih _ _ (by rw[Lm,if_pos hi];simpa using hl) λys d' hp=>Au (h _ d' ?_));exact(FB.cons _ hp).trans (tH hi)
end
theorem Z9{α:Type}(next:Nat->Nat):∀(fuel k:Nat)(left:List α)(out:Array α),left.length=fuel->(IG.go next fuel k left out).toList.Perm (out.toList++left):=by
 intro fuel
 induction fuel with
 | zero=>
  intro k left out hl;have e:left=[]:=IU.mp hl;subst e;show out.toList.Perm _;rw[EK]
 | succ fuel ih=>
  intro k left out hl;unfold IG.go;have hi:next k%left.length<left.length:=mod_lt _ ω;rw[AF hi];dsimp only;refine(ih (k+1) _ _ (by rw[Lm,if_pos hi];omega)).trans ?_;rw[toList_push,G0];exact FB.append_left _ (tH hi)
theorem Rq{α:Type}(next:Nat->Nat)(xs:Array α):(IG next xs).toList.Perm xs.toList:=by
 have:=Z9 next xs.size 0 xs.toList #[] ζ;simpa [IG] using this
def jc(h:Heap)(S:ID)(es:Array (Int×Ap))(ep:Nat)(t:AW):Prop:=∃o,h.get? S=GT o/\o.ExactSet/\o.data=.set es ep t
def gK(h:Heap)(I:ID)(first:Ap)(i:Nat)(S:ID)(n ep:Nat):Prop:=
 h.get? I=GT { cls:=.type "set_iterator",dict:=Is,data:=.fields #[first,.int i 0,.ref S,.int n 0,.int ep 0],slots:=#[] }
theorem jc.get{h h':Heap}{S:ID}{es:Array (Int×Ap)}{ep:Nat}{t:AW}(hS:jc h S es ep t)(hk:∀o,h.get? S=GT o->h'.get? S=GT o):jc h' S es ep t:=
 let ⟨o,ho,r⟩:=hS;⟨o,hk o ho,r⟩
section
variable {prog:AR}{w:A9}{A:A5}{E:Ap->AA->Prop}{s:AA}{S:ID}{es:Array (Int×Ap)}{ep:Nat}{t:AW}
theorem pP{Q:(Array (Int×Ap)×Nat×AW)->AA->Prop}(hS:jc s.heap S es ep t)(hf:t.fits es.size=true)(h:Q (es,ep,t) s):AG (AJ prog w) A (setState S) Q E s:=
 let ⟨_,ho,_,hd⟩:=hS;wpAny_setState_of ho hd hf h
theorem below_at{xs:Array Nat}(hr:Ris xs){i:Nat}(hi:i<=xs.size):AW.below xs (if i=0 then 0 else xs.getD (i-1) 0+1)=i:=by
 have hs:=uq hr (if i=0 then 0 else xs.getD (i-1) 0+1);generalize hb:AW.below xs (if i=0 then 0 else xs.getD (i-1) 0+1)=b at hs;by_cases h0:i=0
 ·subst h0;simp only[↓reduceIte] at hs;rcases Nat.eq_zero_or_pos b with h|h
  ·exact h
  have hl:0<xs.size:=ω;have hg:xs[0]?=GT xs[0]:=by simp[hl]
  have:=(hs.1 0 _ hg).mp h;omega
 rw[if_neg h0] at hs;have hl:i-1<xs.size:=ω;have hg:xs[i-1]?=GT xs[i-1]:=by simp[hl]
 have hd:xs.getD (i-1) 0=xs[i-1]:=by simp[Array.getD,hl]
 rw[hd] at hs;have h1:i-1<b:=(hs.1 _ _ hg).mpr ω;rcases G2 i b with h|h
 ·have hl2:i<xs.size:=ω;have hg2:xs[i]?=GT xs[i]:=by simp[hl2]
  have h2:=(hs.1 _ _ hg2).mp h;have h3:=hr.lt hg hg2 ω;omega
 omega
theorem aaL(hf:t.fits es.size=true)(ht:TOk (!bt w) t)(hd:bt w=true\/(!t.plain&&decide (es.size>1))=false) :
  ∃(vs:List Ap)(sl:Nat->Nat),sl 0=0/\vs.Perm (es.toList.map (·.2))/\∀(i:Nat)(s:AA)(A:A5)(E:Ap->AA->Prop)(Q:Option (Ap×Nat)->AA->Prop),i<=vs.length->jc s.heap S es ep t ->
   Q (vs[i]?.map λx=>(x,sl (i+1))) s->AG (AJ prog w) A (setNext S (sl i) i ep) Q E s:=by
 by_cases hb:bt w=true
 ·refine⟨(IG (w.params.setOrder S ep) es).toList.map (·.2),λ_=>0,rfl,(Rq _ es).map _,λi s A E Q hi hS h=>?_⟩;unfold setNext;refine An (pP hS hf ?_);dsimp only;unfold setsByText;refine An (An (EC (Au ?_)));show AG _ _ (if bt w=true then _ else _) _ _ _;rw[if_pos hb,if_neg ζ];unfold setWalk;refine An (An (pP hS hf ?_));dsimp only;unfold setsByText;refine An (An (EC (Au ?_)));show AG _ _ (if bt w=true then _ else _) _ _ _;rw[if_pos hb];refine An (EC (Au (Au ?_)));have e:((IG (w.params.setOrder S ep) es)[i]?).map (λe=>(e.2,0))=(((IG (w.params.setOrder S ep) es).toList.map (·.2))[i]?).map λx=>(x,0):=by
   rw[AQ,Option.map_map,Da];rfl
  show Q (((IG (w.params.setOrder S ep) es)[i]?).map (λe=>(e.2,0))) s;rw[e];exact h
 have hb':bt w=false:=by simpa using hb
 have hdr:=hd.resolve_left hb;have hps:t.place.size=es.size:=by
  have:=hf;unfold AW.fits at this;simp only[CL,beq_iff_eq] at this;exact this.1
 refine⟨es.toList.map (·.2),λi=>if i=0 then 0 else t.place.getD (i-1) 0+1,rfl,FB.refl _,λi s A E Q hi hS h=>?_⟩;unfold setNext;refine An (pP hS hf ?_);dsimp only;unfold setsByText;refine An (An (EC (Au ?_)));show AG _ _ (if bt w=true then _ else _) _ _ _;rw[if_neg hb];show AG _ _ (if (!t.plain&&decide (es.size>1))=true then _ else _) _ _ _;rw[if_neg (by rw[hdr];simp)];refine An ?_;show AG _ _ (if (!t.led && !es.isEmpty)=true then _ else _) _ _ _;have hled:t.led=true:=by rw[ht.2.2,hb'];rfl
 rw[if_neg (by rw[hled];simp)];refine Au (Au ?_);have hi':i<=es.size:=by simpa using hi
 rw[below_at ht.1 (by rw[hps];exact hi')];rcases G2 i es.size with hlt|hge
 ·have g1:es[i]?=GT es[i]:=by simp[hlt]
  have g2:t.place[i]?=GT t.place[i]:=by simp[hps,hlt]
  have g3:(es.toList.map (·.2))[i]?=GT es[i].2:=by rw[AQ,Da,g1];rfl
  rw[g1,g2];rw[g3] at h;have g4:t.place.getD i 0=t.place[i]'(by rw[hps];exact hlt):=by simp[Array.getD,hps,hlt]
  simp only[map_some,Nat.add_one_ne_zero,if_false,IQ,g4] at h;exact h
 have g1:es[i]?=Is:=by simp[hge]
 have g3:(es.toList.map (·.2))[i]?=Is:=by rw[AQ,Da,g1];rfl
 rw[g1];rw[g3] at h;exact h
end
end SRT
namespace SRT
open PySem PyProof.Rows
theorem JT:IR table "set.__iter__" = GT AI.«frozenset.__iter__»:=LL (id' := "frozenset.__iter__") (by kernel_rfl) Z ψ (by kernel_rfl)
theorem c7:Slot "set_iterator" "__next__" "set_iterator.__next__" :=
 .of (owner := "set_iterator") (n := "__next__") (by rw[GL,E3];kernel_rfl) ψ ψ ψ (by first|exact .inl ψ|exact .inr ψ) (by rw[FC];kernel_rfl)
theorem zu:Slot "set_iterator" "__iter__" "set_iterator.__iter__" :=
 .of (owner := "set_iterator") (n := "__iter__") (by rw[GL,E3];kernel_rfl) ψ ψ ψ (by first|exact .inl ψ|exact .inr ψ) (by rw[FC];kernel_rfl)
theorem lN:IR table "set_iterator.__next__" = GT AI.«set_iterator.__next__»:=HP (by kernel_rfl)
theorem JS:IR table "set_iterator.__iter__" = GT AI.«dict_keyiterator.__iter__»:=LL (id' := "dict_keyiterator.__iter__") (by kernel_rfl) Z ψ (by kernel_rfl)
theorem oM(a:Ap):JI "set_iterator.__next__" ⟨[a],[]⟩:=by unfold JI;kernel_rfl
theorem NK(a:Ap):JI "set_iterator.__iter__" ⟨[a],[]⟩:=by unfold JI;kernel_rfl
section
variable {prog:AR}{w:A9}{A:A5}{E:Ap->AA->Prop}{s:AA}{S I:ID}{es:Array (Int×Ap)}{ep:Nat}{t:AW}
theorem gK.ty{h:AA}{first:Ap}{i n:Nat}(hI:gK h.heap I first i S n ep):h.TypeIs (.ref I) "set_iterator" := ⟨_,hI,rfl⟩
theorem gK.get{h h':Heap}{first:Ap}{i n:Nat}(hI:gK h I first i S n ep)(hk:∀o,h.get? I=GT o->h'.get? I=GT o):gK h' I first i S n ep:=hk _ hI
theorem lB{Q:Array (Int×Ap)->AA->Prop}(hS:jc s.heap S es ep t)(hf:t.fits es.size=true)(h:Q es s):AG (AJ prog w) A (setEntries S) Q E s:=
 let ⟨_,ho,_,hd⟩:=hS;wpAny_setEntries_of ho hd hf h
theorem JR{Q:Nat->AA->Prop}(hS:jc s.heap S es ep t)(hf:t.fits es.size=true)(h:Q ep s):AG (AJ prog w) A (setEpoch S) Q E s:=
 let ⟨_,ho,_,hd⟩:=hS;wpAny_setEpoch_of ho hd hf h
theorem Od(hh:A.handled=Is){s:AA}{P:Fin->AA->Prop}{E':Ap->AA->Prop}(h:∀(h':Heap)(e:Ap),(∀c o,s.heap.get? c=GT o->h'.get? c=GT o)->AA.TypeIs { s with heap:=h' } e "StopIteration" -> E' e { s with heap:=h' }) :
  AG (AJ prog w) A (newExc (.type "StopIteration") [] >>= λe=>(raiseNew e:Sem Fin)) P E' s:=by
 refine An ?_;simp only[newExc,IL];refine An (Be (An (m:=LS _ _) (Cs (a:=Ap.none) (by first|rfl|(simp only[LS];rfl)) ?_)) (by size_fits))
 refine Be ?_ (by size_fits);simp only[raiseNew];refine An (wpAny_handled ?_);rw[hh];refine An (Au (wpAny_throw (h _ (.ref _) (λc o e=>AB _ (AB _ e)) ⟨_,AO _ rfl,rfl⟩)))
theorem next_item{n i:Nat}{first:Nat}{v:Ap}{sl:Nat}{Q:Option Ap->AA->Prop}(hI:gK s.heap I (.int first 0) i S es.size ep)(hS:jc s.heap S es ep t)(hf:t.fits es.size=true)
  (hn:∀(s:AA)(A:A5)(E:Ap->AA->Prop)(Q:Option (Ap×Nat)->AA->Prop),jc s.heap S es ep t->Q (GT (v,sl)) s->AG (AJ prog w) A (setNext S first i ep) Q E s)
  (hne:S≠I)(hQ:∀h',gK h' I (.int sl 0) (i+1) S es.size ep->B3 I s.heap h'->Q (GT v) { s with heap:=h' }):AG (AJ prog w) A (D2 (.ref I)) Q E s:=by
 unfold D2;refine An (De (BM (name:=A8 "__next__") hI.ty c7 (BQ c7 hI.ty lN ?_ (oM _))));show AG _ _ (fieldsOf (.ref I) >>= _) _ _ s;refine An (LU hI Z ?_);refine An (lB hS hf ?_);rw[if_neg ζ];dsimp only;refine An (hn s _ _ _ hS ?_);dsimp only;refine An (B0 hI ζ λh1 g1 b1=>?_);refine An (B0 (s:={ s with heap:=h1 }) g1 ζ λh2 g2 b2=>?_);exact Au ⟨_,rfl,Au (hQ h2 g2 (b1.trans b2))⟩
end
end SRT
namespace SRT
open PySem PyProof.Rows
section
variable {prog:AR}{w:A9}{A:A5}{E:Ap->AA->Prop}{s:AA}{S I T:ID}{es:Array (Int×Ap)}{ep:Nat}{t:AW}
theorem Ih{a:ID}{h h' h'':Heap}(b:B3 a h h')(k:∀c o,h'.get? c=GT o->h''.get? c=GT o)(c:ID)(o:Obj)(hc:c≠a)(e:h.get? c=GT o):h''.get? c=GT o:=k c o (b.extBut c o hc e)
theorem next_end{i first:Nat}{Q:Option Ap->AA->Prop}(hh:A.handled=Is)(hI:gK s.heap I (.int first 0) i S es.size ep)(hS:jc s.heap S es ep t)(hf:t.fits es.size=true)
  (hn:∀(s:AA)(A:A5)(E:Ap->AA->Prop)(Q:Option (Ap×Nat)->AA->Prop),jc s.heap S es ep t->Q Is s->AG (AJ prog w) A (setNext S first i ep) Q E s)
  (hQ:∀h',(∀c o,c≠I->s.heap.get? c=GT o->h'.get? c=GT o)->Q Is { s with heap:=h' }):AG (AJ prog w) A (D2 (.ref I)) Q E s:=by
 unfold D2;refine An (De (BM (name:=A8 "__next__") hI.ty c7 (BQ c7 hI.ty lN ?_ (oM _))));show AG _ _ (fieldsOf (.ref I) >>= _) _ _ s;refine An (LU hI Z (An (lB hS hf ?_)));rw[if_neg ζ];dsimp only;refine An (hn s _ _ _ hS ?_);dsimp only;refine An (B0 hI ζ λh1 g1 b1=>?_);refine Od (s:={ s with heap:=h1 }) (by simpa using hh) λh2 e k2 ty=>An (EV ty IM (Au (hQ h2 λc o hc x=>Ih b1 k2 c o hc x)))
def TupAt(h:Heap)(T:ID)(ds:List Nat):Prop:=h.get? T=GT { cls:=.type "tuple",data:=.seq (ds.map λ(i:Nat)=>C0 i).toArray }
theorem Nf{i d:Nat}{ds:List Nat}{v:Ap}{Q:Option Ap->AA->Prop}(hI:gK s.heap I (.ref T) i S es.size ep)(hS:jc s.heap S es ep t)(hT:TupAt s.heap T ds)(hf:t.fits es.size=true)
  (hd:ds[i]?=GT d)(hv:(es[d]?).map (·.2)=GT v)(hne:S≠I)
  (hQ:∀h',gK h' I (.ref T) (i+1) S es.size ep->B3 I s.heap h'->Q (GT v) { s with heap:=h' }):AG (AJ prog w) A (D2 (.ref I)) Q E s:=by
 unfold D2;refine An (De (BM (name:=A8 "__next__") hI.ty c7 (BQ c7 hI.ty lN ?_ (oM _))));show AG _ _ (fieldsOf (.ref I) >>= _) _ _ s;refine An (LU hI Z (An (lB hS hf ?_)));rw[if_neg ζ];dsimp only;refine An (B4 hT Z ?_);dsimp only;have hg:(ds.map λ(i:Nat)=>C0 i).toArray[(i:Int).toNat]?=GT (.int (d:Int) 0):=by
  rw[Fs,HM,AQ,hd];rfl
 rw[hg];dsimp only;unfold setNextDrawn;refine An (An (pP hS hf ?_));dsimp only;rw[if_neg ζ];obtain⟨⟨hh,x⟩,he,rfl⟩:=BU.mp hv;rw[Fs,he];dsimp only;refine Au ?_;refine An (B0 hI ζ λh1 g1 b1=>?_);exact Au ⟨_,rfl,Au (hQ h1 g1 b1)⟩
theorem SN{i:Nat}{ds:List Nat}{Q:Option Ap->AA->Prop}(hh:A.handled=Is)(hI:gK s.heap I (.ref T) i S es.size ep)(hS:jc s.heap S es ep t)(hT:TupAt s.heap T ds)(hf:t.fits es.size=true)
  (hd:ds[i]?=Is)(hQ:∀h',(∀c o,c≠I->s.heap.get? c=GT o->h'.get? c=GT o)->Q Is { s with heap:=h' }):AG (AJ prog w) A (D2 (.ref I)) Q E s:=by
 unfold D2;refine An (De (BM (name:=A8 "__next__") hI.ty c7 (BQ c7 hI.ty lN ?_ (oM _))));show AG _ _ (fieldsOf (.ref I) >>= _) _ _ s;refine An (LU hI Z (An (lB hS hf ?_)));rw[if_neg ζ];dsimp only;refine An (B4 hT Z ?_);dsimp only;have hg:(ds.map λ(i:Nat)=>C0 i).toArray[(i:Int).toNat]?=Is:=by
  rw[Fs,HM,AQ,hd];rfl
 rw[hg];dsimp only;refine An (B0 hI ζ λh1 g1 b1=>?_);refine An (B0 (s:={ s with heap:=h1 }) g1 ζ λh2 g2 b2=>?_);refine Od (s:={ s with heap:=h2 }) (by simpa using hh) λh3 e k3 ty=>An (EV ty IM (Au (hQ h3 λc o hc x=>Ih (b1.trans b2) k3 c o hc x)))
theorem Ow{first:Ap}{i n:Nat}{Q:Ap->AA->Prop}(hI:gK s.heap I first i S n ep)(h:Q (.ref I) s):AG (AJ prog w) A (IH (.ref I)) Q E s:=by
 refine wpAny_pyIter_slot hI.ty zu (BQ zu hI.ty JS ?_ (NK _));show AG _ _ (ret (.ref I)) _ _ s;exact Au ⟨_,rfl, "set_iterator",_,hI.ty,c7.lookup,h⟩
theorem U6{Q:Ap->AA->Prop}(hh:A.handled=Is)(hS:jc s.heap S es ep t)(hf:t.fits es.size=true)(ht:TOk (!bt w) t)(hz:es.size<=AK)
   (h:∀(s':AA)(I:ID)(fp:List ID)(vs:List Ap)(St:Nat->AA->Prop),(∀c o,s.heap.get? c=GT o->s'.heap.get? c=GT o)->s'.gens=s.gens->s'.os=s.os->s'.toks=s.toks->vs.Perm (es.toList.map (·.2))->I=s'.heap.objs.size-1->s.heap.objs.size<=I->I<s'.heap.objs.size ->
   (∀A':A5,A'.handled=Is->WalksS prog w A' I fp [I] (λa b=>b=a) vs.length (λi v=>vs[i]?=GT v) St)->St 0 s'->(∀b∈fp,b<s'.heap.objs.size/\(b=S\/s.heap.objs.size<=b))->Q (.ref I) s') :
  AG (AJ prog w) A (IH (.ref S)) Q E s:=by
 obtain⟨o,ho,hx,hd⟩:=id hS;have hty:s.TypeIs (.ref S) "set" := ⟨o,ho,hx.1⟩;have lt:S<s.heap.objs.size:=AY ho;refine wpAny_pyIter_slot hty F.slot_set_iter (BQ F.slot_set_iter hty JT ?_ (F.args_set_iter_1 _));unfold AI.«frozenset.__iter__»;show AG _ _ (AI.Frozenset.sizeOf S >>= _) _ _ s;unfold AI.Frozenset.sizeOf;refine An (An (lB hS hf (Au ?_)));unfold setDrawn setsByText;refine An (An (pP hS hf ?_));dsimp only;refine An (An (EC (Au (Au ?_))));show AG _ _ (if (!bt w&&(!t.plain&&decide (es.size>1)))=true then _ else _) _ _ _;have arith:∀{n m:Nat},m=n+1->n=m-1:=by intros;omega
 by_cases hc:(!bt w&&(!t.plain&&decide (es.size>1)))=true
 ·rw[if_pos hc];refine An (abf es.size (Bi es.size) _ (Fk) λds d hp=>?_);have hdl:ds.length=es.size:=by rw[hp.length_eq,Fk]
  refine An (EZ ?_ (by rw[AE,hdl];exact hz));have hS1:jc (s.heap.push { cls:=.type "tuple",data:=.seq (ds.map λ(i:Nat)=>C0 i).toArray }) S es ep t:=hS.get λo e=>AB _ e;have hT1:TupAt (s.heap.push { cls:=.type "tuple",data:=.seq (ds.map λ(i:Nat)=>C0 i).toArray }) s.heap.objs.size ds:=AO _ rfl;have hz1:(s.heap.push { cls:=.type "tuple",data:=.seq (ds.map λ(i:Nat)=>C0 i).toArray }).objs.size=s.heap.objs.size+1:=Ct ..;have hk1:∀c o,s.heap.get? c=GT o->(s.heap.push { cls:=.type "tuple",data:=.seq (ds.map λ(i:Nat)=>C0 i).toArray }).get? c=GT o:=λc o e=>AB _ e;generalize s.heap.push { cls:=.type "tuple",data:=.seq (ds.map λ(i:Nat)=>C0 i).toArray }=h1 at hS1 hT1 hz1 hk1 |-;refine An (JR (s:={ s with drawn:=d,heap:=h1 }) hS1 hf (An (Be ?_)));have hI:gK (h1.push { cls:=.type "set_iterator",data:=.fields #[.ref s.heap.objs.size,.int (0:Nat) 0,.ref S,.int (es.size:Nat) 0,.int (ep:Nat) 0] }) h1.objs.size (.ref s.heap.objs.size) 0 S es.size ep:=AO _ rfl;refine Au ⟨_,rfl, "set_iterator",_,⟨_,hI,rfl⟩,c7.lookup,?_⟩;have hz2:(h1.push { cls:=.type "set_iterator",data:=.fields #[.ref s.heap.objs.size,.int (0:Nat) 0,.ref S,.int (es.size:Nat) 0,.int (ep:Nat) 0] }).objs.size=h1.objs.size+1:=Ct ..;have hk2:∀c o,h1.get? c=GT o->(h1.push { cls:=.type "set_iterator",data:=.fields #[.ref s.heap.objs.size,.int (0:Nat) 0,.ref S,.int (es.size:Nat) 0,.int (ep:Nat) 0] }).get? c=GT o:=λc o e=>AB _ e;show Q (.ref h1.objs.size) { s with drawn:=d,heap:=h1.push { cls:=.type "set_iterator",data:=.fields #[.ref s.heap.objs.size,.int (0:Nat) 0,.ref S,.int (es.size:Nat) 0,.int (ep:Nat) 0] } };generalize h1.push { cls:=.type "set_iterator",data:=.fields #[.ref s.heap.objs.size,.int (0:Nat) 0,.ref S,.int (es.size:Nat) 0,.int (ep:Nat) 0] }=h2 at hI hz2 hk2 |-;have n1:S≠h1.objs.size:=by rw[hz1];exact B5 (D4 lt)
  have n2:s.heap.objs.size≠h1.objs.size:=by rw[hz1];exact B5 (C8 _)
  have hmem:∀i d:Nat,ds[i]?=GT d->∃x:Ap,(es[d]?).map (λ(e:Int×Ap)=>e.2)=GT x/\(ds.map λd=>(es.toList.map (·.2)).getD d .none)[i]?=GT x:=by
   intro i d hi;have:d<es.size:=by have:=hp.mem_iff.mp (BB hi);simpa using this
   refine⟨es[d].2,by simp[this],?_⟩;rw[AQ,hi];simp[this]
  refine h { s with drawn:=d,heap:=h2 } h1.objs.size [h1.objs.size,S,s.heap.objs.size] (ds.map λd=>(es.toList.map (·.2)).getD d .none)
   (λi s'=>gK s'.heap h1.objs.size (.ref s.heap.objs.size) i S es.size ep/\jc s'.heap S es ep t/\TupAt s'.heap s.heap.objs.size ds)
   (λc o e=>hk2 c o (hk1 c o e)) Z Z Z ?_ (arith hz2) (by rw[hz1];exact le_succ _) (by show h1.objs.size<h2.objs.size;rw[hz2];exact C8 _) (λA' hh'=>?_) ⟨hI,hS1.get (hk2 S),hk2 _ _ hT1⟩ ?_
  ·have e:(Bi es.size).map (λd=>(es.toList.map (·.2)).getD d .none)=es.toList.map (·.2):=by
    refine ext_getElem ζ λi h1 h2=>?_;simp at h1 h2;simp[h2]
   exact(hp.map λd=>(es.toList.map λ(x:Int×Ap)=>x.2).getD d Ap.none).trans (FB.of_eq e)
  ·have hlen:(ds.map λd=>(es.toList.map (·.2)).getD d .none).length=ds.length:=AE _;exact {
    sub:=λb hb=>by simp at hb;simp[hb]
    grefl:=λ_=>rfl
    gtrans:=λa b c e f=>f.trans e
    frame:=λi s1 h' tk st _ hk=>⟨st.1.get λo e=>hk _ ζ o e,st.2.1.get λo e=>hk _ ζ o e,hk _ ζ _ st.2.2⟩
    item:=λi s1 Q1 E1 hi st hQ1=>by
     rw[hlen] at hi;obtain⟨x,e1,e2⟩:=hmem i ds[i] (AF hi);refine Nf st.1 st.2.1 st.2.2 hf (AF hi) e1 n1 λh' i' b'=>?_;exact hQ1 x { s1 with heap:=h' } e2 ⟨i',st.2.1.get λo e=>b'.extBut _ o n1 e,b'.extBut _ _ n2 st.2.2⟩ ⟨λb o hb e=>b'.extBut b o (λz=>hb (by simp[z])) e,rfl,rfl,rfl,AU _⟩
    done:=λs1 Q1 E1 st hQ1=>by
     refine SN hh' st.1 st.2.1 st.2.2 hf (by rw[hlen];simp) λh' k'=>?_;exact hQ1 { s1 with heap:=h' } ⟨λb o hb e=>k' b o (λz=>hb (by simp[z])) e,rfl,rfl,rfl,AU _⟩
    self:=λi s1 Q1 E1 st hQ1=>Ow st.1 hQ1 }
  intro b hb;show b<h2.objs.size/\_;have l0:=D4 lt;simp only[A1,BA,or_false] at hb;rw[hz2,hz1];rcases hb with rfl|rfl|rfl
  ·rw[hz1];exact⟨C8 _,.inr (le_succ _)⟩
  ·exact⟨D4 l0,.inl rfl⟩
  exact⟨D4 (C8 _),.inr (AU _)⟩
 rw[if_neg hc];obtain⟨vs,sl,sl0,hp,hn⟩:=aaL (prog:=prog) (w:=w) (S:=S) (ep:=ep) hf ht (by
  cases hb:bt w with
  | true=>exact .inl rfl
  | false=>rw[hb] at hc;exact .inr (by simpa using hc))
 refine An (Au (An (JR hS hf (An (Be ?_)))));have hI:gK (s.heap.push { cls:=.type "set_iterator",data:=.fields #[.int (0:Nat) 0,.int (0:Nat) 0,.ref S,.int (es.size:Nat) 0,.int (ep:Nat) 0] }) s.heap.objs.size (.int (sl 0) 0) 0 S es.size ep:=by rw[sl0];exact AO _ rfl
 refine Au ⟨_,rfl, "set_iterator",_,⟨_,hI,rfl⟩,c7.lookup,?_⟩;have hz2:(s.heap.push { cls:=.type "set_iterator",data:=.fields #[.int (0:Nat) 0,.int (0:Nat) 0,.ref S,.int (es.size:Nat) 0,.int (ep:Nat) 0] }).objs.size=s.heap.objs.size+1:=Ct ..;have hk2:∀c o,s.heap.get? c=GT o->(s.heap.push { cls:=.type "set_iterator",data:=.fields #[.int (0:Nat) 0,.int (0:Nat) 0,.ref S,.int (es.size:Nat) 0,.int (ep:Nat) 0] }).get? c=GT o:=λc o e=>AB _ e;show Q (.ref s.heap.objs.size) { s with heap:=s.heap.push { cls:=.type "set_iterator",data:=.fields #[.int (0:Nat) 0,.int (0:Nat) 0,.ref S,.int (es.size:Nat) 0,.int (ep:Nat) 0] } };generalize s.heap.push { cls:=.type "set_iterator",data:=.fields #[.int (0:Nat) 0,.int (0:Nat) 0,.ref S,.int (es.size:Nat) 0,.int (ep:Nat) 0] }=h2 at hI hz2 hk2 |-;have n1:S≠s.heap.objs.size:=B5 lt;refine h { s with heap:=h2 } s.heap.objs.size [s.heap.objs.size,S] vs (λi s'=>gK s'.heap s.heap.objs.size (.int (sl i) 0) i S es.size ep/\jc s'.heap S es ep t)
  (λc o e=>hk2 c o e) Z Z Z hp (arith hz2) (AU _) (by show s.heap.objs.size<h2.objs.size;rw[hz2];exact C8 _) (λA' hh'=>?_) ⟨hI,hS.get (hk2 S)⟩ ?_
 ·exact {
   sub:=λb hb=>by simp at hb;simp[hb]
   grefl:=λ_=>rfl
   gtrans:=λa b c e f=>f.trans e
   frame:=λi s1 h' tk st _ hk=>⟨st.1.get λo e=>hk _ ζ o e,st.2.get λo e=>hk _ ζ o e⟩
   item:=λi s1 Q1 E1 hi st hQ1=>by
    have hv:vs[i]?=GT vs[i]:=AF hi;refine next_item (n:=0) st.1 st.2 hf (v:=vs[i]) (sl:=sl (i+1)) (λs2 A2 E2 Q2 st2 hQ2=>hn i s2 A2 E2 Q2 (Lu hi) st2 (by rw[hv];exact hQ2)) n1 λh' i' b'=>?_;exact hQ1 vs[i] { s1 with heap:=h' } hv ⟨i',st.2.get λo e=>b'.extBut _ o n1 e⟩ ⟨λb o hb e=>b'.extBut b o (λz=>hb (by simp[z])) e,rfl,rfl,rfl,AU _⟩
   done:=λs1 Q1 E1 st hQ1=>by
    have hv:vs[vs.length]?=Is:=by simp
    refine next_end hh' st.1 st.2 hf (λs2 A2 E2 Q2 st2 hQ2=>hn vs.length s2 A2 E2 Q2 (AU _) st2 (by rw[hv];exact hQ2)) λh' k'=>?_;exact hQ1 { s1 with heap:=h' } ⟨λb o hb e=>k' b o (λz=>hb (by simp[z])) e,rfl,rfl,rfl,AU _⟩
   self:=λi s1 Q1 E1 st hQ1=>Ow st.1 hQ1 }
 intro b hb;show b<h2.objs.size/\_;rw[hz2];simp only[A1,BA,or_false] at hb;rcases hb with rfl|rfl
 ·exact⟨C8 _,.inr (AU _)⟩
 exact⟨D4 lt,.inl rfl⟩
end
end SRT
namespace SRT
open PySem PyProof.Rows
def gallopF:Bool->CM->Array CM->Nat->Nat->Nat->StateT D3 Sem (Option Nat):=sortPriv% PySem.Builtin.gallop
def mergeLoF:Array CM->Array CM->StateT D3 Sem (Array CM):=sortPriv% PySem.Builtin.mergeLo
def mergeHiF:Array CM->Array CM->StateT D3 Sem (Array CM):=sortPriv% PySem.Builtin.mergeHi
def IK(p:CM):Prop:=∃n t,p.1=.int n t
def Fq(xs:Array CM):Prop:=∀(i:Nat) p,xs[i]?=GT p->IK p
section
variable {prog:AR}{w:A9}{s:AA}{A:A5}{E:Ap->AA->Prop}
theorem Qj{st:D3}{xs:Array CM}{i:Nat}{Q:CM->D3->Prop}(hi:i<xs.size)(h:∀p,xs[i]?=GT p->Q p st):wpS (AJ prog w) A E s (elem' xs i) Q st:=by
 rw[elem'_eq];have e:xs[i]?=GT xs[i]:=getElem?_pos xs i hi;rw[e];exact D1 (h _ e)
end
end SRT
namespace SRT
open PySem PyProof.Rows
abbrev withG(st:D3)(g:Nat):D3:=D3.mk' (kindOf st) (Cc st) (CC st) g (KB st)
section
variable {prog:AR}{w:A9}{s:AA}{A:A5}{E:Ap->AA->Prop}
def ab1(a b out:Array CM)(i j:Nat):List CM:=out.toList++(a.toList.drop i++b.toList.drop j)
def LoI(a b out:Array CM)(i j:Nat):Prop:=(ab1 a b out i j).Perm (a.toList++b.toList)/\i+1<a.size/\j<b.size
def RetI(a b:Array CM)(c:Option (Array CM)):Prop:=∃r,c=GT r/\r.toList.Perm (a.toList++b.toList)
end
end SRT
namespace SRT
open PySem PyProof.Rows
section
variable {prog:AR}{w:A9}{s:AA}{A:A5}{E:Ap->AA->Prop}
def ab2(a b out:Array CM)(i j:Nat):List CM:=(a.toList.take i++b.toList.take j)++out.toList
def HiI(a b out:Array CM)(i j:Nat):Prop:=(ab2 a b out i j).Perm (a.toList++b.toList)/\0<i/\1<j/\i<=a.size/\j<=b.size
end
end SRT
namespace SRT
open PySem PyProof.Rows
def Chain:List (Nat×Nat×Nat)->Nat->Nat->Prop
 | [],a,b=>a=b
 | (p,n,_)::t,a,b=>p=a/\1<=n/\Chain t (a+n) b
theorem Chain.le:∀{l:List (Nat×Nat×Nat)}{a b:Nat},Chain l a b->a<=b
 | [],_,_,h=>Nat.le_of_eq h
 | (_,n,_)::_,a,_,⟨_,_,h⟩=>CF (Nat.le_add_right a n) h.le
theorem Chain.two:∀{pre post:List (Nat×Nat×Nat)}{sa na w sb nb v a b:Nat},Chain (pre++(sa,na,w)::(sb,nb,v)::post) a b ->
  sb=sa+na/\1<=na/\1<=nb/\sb+nb<=b/\Chain (pre++(sa,na+nb,w)::post) a b
 | [],post,sa,na,w,sb,nb,v,a,b,⟨h1,h2,h3,h4,h5⟩=>by
  have:=h5.le;refine⟨ω,h2,h4,ω,h1,ω,?_⟩;rw[<- Nat.add_assoc];exact h5
 | (_,_,_)::pre,post,sa,na,w,sb,nb,v,a,b,⟨h1,h2,h3⟩=>by
  obtain⟨k1,k2,k3,k4,k5⟩:=Chain.two h3;exact⟨k1,k2,k3,k4,h1,h2,k5⟩
theorem Chain.snoc:∀{l:List (Nat×Nat×Nat)}{a b n w:Nat},Chain l a b->1<=n->Chain (l++[(b,n,w)]) a (b+n)
 | [],a,b,n,w,h,h1=>by cases h;exact⟨rfl,h1,rfl⟩
 | (_,_,_)::t,a,b,n,w,⟨k1,k2,k3⟩,h1=>⟨k1,k2,k3.snoc h1⟩
theorem Chain.Vn:∀{l:List (Nat×Nat×Nat)}{a b p n w v:Nat},Chain (l++[(p,n,w)]) a b->Chain (l++[(p,n,v)]) a b
 | [],a,b,p,n,w,v,h=>h
 | (_,_,_)::t,a,b,p,n,w,v,⟨k1,k2,k3⟩=>⟨k1,k2,k3.Vn⟩
theorem Fq.perm{a b:Array CM}(h:Fq a)(hp:b.toList.Perm a.toList):Fq b:=by
 intro i p hi;have h1:p∈b.toList:=by rw[<- Da] at hi;exact BB hi
 obtain⟨j,hj⟩:=List.getElem?_of_mem (hp.mem_iff.mp h1);exact h j p (by rw[<- Da];exact hj)
theorem Fq.ext{a:Array CM}(h:Fq a)(x y:Nat):Fq (a.extract x y):=by
 intro i p hi;rw[Array.getElem?_extract] at hi;split at hi
 ·exact h _ p hi
 cases hi
section
variable {prog:AR}{w:A9}{s:AA}{A:A5}{E:Ap->AA->Prop}{a₀:Array CM}
structure MB(a₀:Array CM)(st:D3):Prop where
 kind:kindOf st=oneType'
 perm:(Cc st).toList.Perm a₀.toList
 fail:KB st=Is
theorem MB.size{st:D3}(h:MB a₀ st):(Cc st).size=a₀.size:=by simpa using h.perm.length_eq
end
end SRT
namespace SRT
open PySem PyProof.Rows
section
variable {prog:AR}{w:A9}{s:AA}{A:A5}{E:Ap->AA->Prop}{a₀:Array CM}{pd:Array (Nat×Nat×Nat)}
def MP(a₀:Array CM)(pd:Array (Nat×Nat×Nat))(st:D3):Prop:=MB a₀ st/\CC st=pd
theorem MP.set{st:D3}{xs:Array CM}(h:MP a₀ pd st)(hp:xs.Perm (Cc st)):MP a₀ pd (setArr st xs):=
 ⟨⟨h.1.kind,(Array.perm_iff_toList_perm.mp hp).trans h.1.perm,h.1.fail⟩,h.2⟩
end
end SRT
namespace SRT
open PySem PyProof.Rows
section
variable {prog:AR}{w:A9}{s:AA}{A:A5}{E:Ap->AA->Prop}{a₀:Array CM}{pd:Array (Nat×Nat×Nat)}
def MC(a₀:Array CM)(hi:Nat)(st:D3):Prop:=MB a₀ st/\Chain (CC st).toList 0 hi
theorem Za:∀(l:List (Nat×Nat×Nat)),l≠[]->∃t p n v,l=t++[(p,n,v)]
 | l,h=>⟨l.dropLast,(l.getLast h).1,(l.getLast h).2.1,(l.getLast h).2.2,(List.dropLast_concat_getLast h).symm⟩
theorem xU{α:Type}(f:α->α)(x:α):∀t:List α,(t++[x]).modify t.length f=t++[f x]
 | []=>rfl
 | y::t=>congrArg (y :: ·) (xU f x t)
theorem MC.Vn{st:D3}{hi pw:Nat}(h:MC a₀ hi st):MC a₀ hi (K2 st ((CC st).modify ((CC st).size-1) λ(x,len,_)=>(x,len,pw))):=by
 refine⟨⟨h.1.kind,h.1.perm,h.1.fail⟩,?_⟩;show Chain ((CC st).modify ((CC st).size-1) λ(x,len,_)=>(x,len,pw)).toList 0 hi;have hc:=h.2;by_cases he:(CC st).toList=[]
 ·have:CC st=#[]:=by simpa using he
  rw[this] at hc |-;simpa using hc
 obtain⟨t,p,n,v,e⟩:=Za _ he;have e2:CC st=(t++[(p,n,v)]).toArray:=by rw[<- e]
 rw[e] at hc;rw[e2];have:((t++[(p,n,v)]).toArray.modify ((t++[(p,n,v)]).toArray.size-1) λ(x,len,_)=>(x,len,pw)).toList=t++[(p,n,pw)]:=by
  simp[xU]
 rw[this];exact hc.Vn
theorem MC.push{st:D3}{lo n:Nat}(h:MC a₀ lo st)(h1:1<=n):MC a₀ (lo+n) (K2 st ((CC st).push (lo,n,0))):=by
 refine⟨⟨h.1.kind,h.1.perm,h.1.fail⟩,?_⟩;show Chain ((CC st).push (lo,n,0)).toList 0 (lo+n);rw[toList_push];exact h.2.snoc h1
theorem MC.of{st st':D3}{lo:Nat}(h:MC a₀ lo st)(h':MP a₀ (CC st) st'):MC a₀ lo st':=⟨h'.1,by rw[h'.2];exact h.2⟩
theorem YG{σ α:Type}{c:Prop}[Decidable c]{m n:StateT σ Sem α}{st:σ}{Q:α->σ->Prop}(h1:c->wpS (AJ prog w) A E s m Q st)(h2:¬c->wpS (AJ prog w) A E s n Q st):wpS (AJ prog w) A E s (if c then m else n) Q st:=by
 by_cases h:c
 ·rw[if_pos h];exact h1 h
 rw[if_neg h];exact h2 h
end
end SRT
namespace SRT
open PySem PyProof.Rows
section
variable {prog:AR}{w:A9}{s:AA}{A:A5}{E:Ap->AA->Prop}
theorem Ej(vs:List Ap):((FY vs).map (·.2)).toList=vs:=by
 unfold FY;simp[List.map_snd_zip]
end
end SRT
namespace SRT
open PySem PyProof.Rows
theorem R9{vs xs:List Ap}(hp:xs.Perm vs):∀{ns:List Int},Fu vs ns->∃ns',Fu xs ns'/\ns'.Perm ns:=by
 induction hp with
 | nil=>intro ns h;exact⟨ns,h,FB.refl _⟩
 | cons x _ ih=>
  intro ns h;cases h with
  | cons n t h=>
   obtain⟨ns',h1,h2⟩:=ih h;exact⟨n::ns',.cons n t h1,h2.cons n⟩
 | swap x y l=>
  intro ns h;cases h with
  | cons n t h=>
   cases h with
   | cons m u h=>exact⟨m::n::_,.cons m u (.cons n t h),FB.swap _ _ _⟩
 | trans _ _ ih1 ih2=>
  intro ns h;obtain⟨n1,a1,b1⟩:=ih2 h;obtain⟨n2,a2,b2⟩:=ih1 a1;exact⟨n2,a2,b2.trans b1⟩
theorem rW{α:Type}[DecidableEq α]:∀{l ks:List α},l.Nodup->(∀x∈l,x∈ks)->ks.length=l.length->ks.Perm l
 | [],ks,_,_,h=>by rw[IU.mp h]
 | x::l,ks,hn,hs,hl=>by
  obtain⟨h1,h2⟩:=GN.mp hn;have hx:x∈ks:=hs x (A7 ..);refine(List.perm_cons_erase hx).trans (FB.cons _ (rW h2 (λy hy=>?_) ?_))
  ·have:y≠x:=λe=>h1 (e ▸ hy);exact(List.mem_erase_of_ne this).mpr (hs y (BE _ hy))
  rw[List.length_erase_of_mem hx,hl];rfl
theorem qI(val:Nat->Int):∀i,(FL val i).Nodup
 | 0=>nodup_nil
 | i+1=>by
  rw[firstMet_succ];unfold step_dedup;have ih:=qI val i;split
  ·exact ih
  rename_i h;rw[List.nodup_append];refine⟨ih,by simp,λa ha b hb e=>?_⟩;simp only[AL] at hb;exact h (List.any_eq_true.mpr ⟨a,ha,by simp[e,hb]⟩)
def ded(ns:List Int):List Int:=FL (λi=>ns.getD i 0) ns.length
theorem wM(ns:List Int):(ded ns).Nodup:=qI _ _
theorem yQ(ns:List Int):(ded ns).length<=ns.length:=firstMet_length_le _ _
theorem Qk{ns:List Int}{k:Int}:k∈ded ns↔k∈ns:=by
 have e:=firstMet_any (λi=>ns.getD i 0) ns.length k;have hr:(Bi ns.length).map (λi=>ns.getD i 0)=ns:=by
  refine ext_getElem ζ λi h1 h2=>?_;simp at h1 h2;simp[h2]
 rw[hr] at e;have a1:∀l:List Int,l.any (· == k)=true↔k∈l:=λl=>by simp
 rw[<- a1,<- a1];unfold ded;rw[e]
section
variable {prog:AR}{w:A9}{A:A5}{E:Ap->AA->Prop}{s:AA}{S:ID}{es:Array (Int×Ap)}{ep:Nat}{t:AW}
theorem Bu:∀{l:List (Int×Ap)},ElemsOf (FR prog w) l->∃ks:List Int,Fu (l.map (·.2)) ks/\∀k,k∈ks ↔ ∃e∈l,(FR prog w).is k e.2=true
 | [],_=>⟨[],.nil,λk=>by simp⟩
 | (h,v)::l,he=>by
  obtain⟨⟨k,hk,_⟩,_⟩:=he.head;obtain⟨tk,e⟩:=Ap.isInt_shape hk;dsimp only at e hk;subst e;obtain⟨ks,h1,h2⟩:=Bu he.tail;refine⟨k::ks,.cons k tk h1,λj=>?_⟩;rw[A1,h2];constructor
  ·rintro(rfl|⟨e,a,b⟩)
   ·exact⟨_,A7 ..,hk⟩
   exact⟨e,BE _ a,b⟩
  rintro⟨e,a,b⟩;rcases A1.mp a with rfl|a
  ·exact .inl ((FR prog w).inj _ _ _ b hk)
  exact .inr ⟨e,a,b⟩
theorem Xi{vs:List Ap}{acc:Array Ap}(h:ItemsOf (λi v=>vs[i]?=GT v) acc vs.length):acc.toList=vs:=by
 refine ext_getElem (by simpa using h.1) λi h1 h2=>?_;have:vs[i]?=GT acc[i]:=h.2 i acc[i] ζ;rw[AF h2] at this;simpa using this.symm
theorem J4{Q:List Ap->AA->Prop}(hh:A.handled=Is)(hS:jc s.heap S es ep t)(hf:t.fits es.size=true)(ht:TOk (!bt w) t)(hz:es.size<=AK)
  (hQ:∀(s':AA)(vs:List Ap),vs.Perm (es.toList.map (·.2))->(∀c o,s.heap.get? c=GT o->s'.heap.get? c=GT o)->s'.gens=s.gens->s'.os=s.os->s.heap.objs.size<=s'.heap.objs.size->Q vs s') :
  AG (AJ prog w) A (collect (.ref S)) Q E s:=by
 obtain⟨o,ho,hx,hd⟩:=id hS;have hty:s.TypeIs (.ref S) "set" := ⟨o,ho,hx.1⟩;have lt:S<s.heap.objs.size:=AY ho;unfold collect;refine An (LP (C5 F.entry_proto_collect ?_));rw[A5.under_plainId F.plain_proto_collect _];show AG _ A.in1 (newList [] >>= λl=>GW (.builtin "list.__iadd__" ⟨[l,.ref S],[]⟩)) _ _ s;refine An (Be ?_);refine Au ⟨HR F.plain_list_iadd _,C5 F.entry_list_iadd ?_⟩;rw[A5.under_plainId F.plain_list_iadd _];have hS1:jc (s.heap.push { cls:=.type "list",data:=.seq ([]:List Ap).toArray }) S es ep t:=hS.get λo e=>AB _ e;have hL1:(s.heap.push { cls:=.type "list",data:=.seq ([]:List Ap).toArray }).get? s.heap.objs.size=GT { cls:=.type "list",data:=.seq ([]:List Ap).toArray }:=AO _ rfl;have hk1:∀c o,s.heap.get? c=GT o->(s.heap.push { cls:=.type "list",data:=.seq ([]:List Ap).toArray }).get? c=GT o:=λc o e=>AB _ e;have hty1:AA.TypeIs { s with heap:=s.heap.push { cls:=.type "list",data:=.seq ([]:List Ap).toArray } } (.ref S) "set" := ⟨o,hk1 _ _ ho,hx.1⟩;generalize s.heap.push { cls:=.type "list",data:=.seq ([]:List Ap).toArray }=h1 at hS1 hL1 hk1 hty1 |-;have ne1:s.heap.objs.size≠S:=ne_of_gt lt;show AG _ A.in1 (AI.List.listExtendWith (.ref s.heap.objs.size) (.ref S) (.ref s.heap.objs.size)) _ _ _;unfold AI.List.listExtendWith;refine An (E9 hty1 ?_);have q1:AI.List.listSameRef (.ref s.heap.objs.size) (.ref S)=false:=by simp[AI.List.listSameRef,ne1]
 rw[if_neg (by rw[q1];decide)];refine An (U6 (s:={ s with heap:=h1 }) hh hS1 hf ht hz λs2 I fp vs St hk2 hg2 ho2 ht2 hp hI hle hlt W st0 hfp=>?_);have hty2:s2.TypeIs (.ref S) "set" := ⟨o,hk2 _ _ (hk1 _ _ ho),hx.1⟩;refine An (BH ?_);unfold AI.List.listLengthHint;refine An (wpAny_specialOf hty2 F.slot_set_len.lookup ?_)
 (generalize hid:("set.__len__" : String)=id0;(fail_if_success (clear hid id0));wp_delta;rw[show splitId id0=GT ("set","__len__") from by subst hid;decide +kernel];subst hid)
 refine An (EV (b:=true) hty2 sub_set_self ?_);refine BD Z (EH ψ (An (E9 hty2 (Au ?_))));rw[if_pos δ];have hSf:s.heap.objs.size∉fp:=λz=>by
  have l1:s.heap.objs.size<h1.objs.size:=AY hL1;rcases(hfp _ z).2 with e|e
  ·exact ne1 e
  exact E4 _ (BS l1 e)
 have hL2:=hk2 _ _ hL1;refine An (CY (An ?_));show AG _ A.in1 (Kn s.heap.objs.size (·.push .none) >>= λ_=>Kn s.heap.objs.size (·.pop)) _ _ _;refine An (wpAny_updateSeq hL2 Z ?_);have hL3:=HK (Ch (·.push Ap.none)) hL2 rfl;refine wpAny_updateSeq hL3 Z ?_;have hL4:=HK (Ch (·.pop)) hL3 rfl;have oth:∀b o,b≠s.heap.objs.size->s2.heap.get? b=GT o->((s2.heap.update s.heap.objs.size (Ch (·.push Ap.none))).update s.heap.objs.size (Ch (·.pop))).get? b=GT o:=
  λb o hb e=>(CH _ _ (BC hb)).trans ((CH _ _ (BC hb)).trans e)
 have W1:=W A.in1 (by simpa using hh);refine Au ⟨HR F.plain_extend_loop _,codeAny_extend_loopS W1 (by rw[hp.length_eq,AE,EF];exact hz) _ hSf _ vs.length 0 _ _ _ Z (DJ _)
  (W1.frame 0 s2 _ s2.toks st0 (AU _) λb hb o e=>oth b o (λz=>hSf (z ▸ hb)) e) hL4 (ItemsOf.nil _) λs' acc' c' hm hS' hacc=>?_⟩
 show AG _ A (load s.heap.objs.size >>= _) _ _ s';refine An (wpAny_load hS' (Au ?_));rw[Xi hacc];have l2:s.heap.objs.size<s'.heap.objs.size:=AY hS';refine hQ s' vs hp (λc o e=>?_) (hm.gens.trans hg2) (hm.os.trans ho2) (Lu l2);have lc:c<s.heap.objs.size:=AY e;have nI:c≠I:=λz=>by
  have l3:s.heap.objs.size<h1.objs.size:=AY hL1;have l4:h1.objs.size<=I:=hle;rw[z] at lc;exact E4 _ (BS (lt_trans lc l3) l4)
 exact hm.heap c o (by simp only[A1,BA,or_false,not_or];exact⟨B5 lc,nI⟩) (oth c o (B5 lc) (hk2 _ _ (hk1 _ _ e)))
theorem HN{l:List Int}{Q:Ap->AA->Prop}(hh:A.handled=Is)(hS:SetT (FR prog w) (!bt w) s.heap S (λk'=>l.any (· == k')) l.length)(hnd:l.Nodup)(h64:l.length<64)
   (h:∀(s':AA)(L:ID)(xs:List Ap)(ns':List Int)(k:Nat),s'.heap.get? L=GT (F9 "list" xs.toArray k)->Fu xs ns'->ns'.Perm l->(l.length<64->ns'.Pairwise (·<=·)) ->
   (∀c o,s.heap.get? c=GT o->s'.heap.get? c=GT o)->s'.gens=s.gens->s'.os=s.os->s.heap.objs.size<=L->Q (.ref L) s'):AG (AJ prog w) A (call (.builtin "sorted") [.ref S]) Q E s:=by
 obtain⟨o,es,ep,t,ho,hex,hd,⟨hel,hmem,hb⟩,hf,hn,ht⟩:=hS;have hz:es.size<=AK:=fits_of_scanBound hb;obtain⟨ks,hks,hkm⟩:=Bu hel;have hkp:ks.Perm l:=rW hnd (λx hx=>(hkm x).mpr ((hmem x).mp (by simpa using hx))) (by rw[<- hn,<- EF,<- Fu.length hks,AE]);refine Calls.call_function_entry kind_sorted plain_sorted entry_sorted (args_sorted1 (.ref S)) ?_;unfold AI.«sorted»;refine An (m:=checkCount "sorted" 1 1 _) (Au (An (J4 (by simpa using hh) ⟨o,ho,hex,hd⟩ hf ht hz λs1 vs hp hk1 hg1 ho1 hl1=>An (wpAny_newList ?_ ?_))))
 ·obtain⟨ms,hms,hmp⟩:=R9 hp hks;have hvl:vs.length=l.length:=by rw[Fu.length hms,hmp.length_eq,hkp.length_eq]
  have hL:(s1.heap.push (F9 "list" vs.toArray 0)).get? s1.heap.objs.size=GT (F9 "list" vs.toArray 0):=AO _ rfl;show AG (AJ prog w) A.in1 _ _ E { s1 with heap:=s1.heap.push (F9 "list" vs.toArray 0) };refine An (BH (BQ slot_list_sort ⟨_,hL,rfl⟩ entry_list_sort (list_sort_tree hL hms ?_ λxs ns' a1 a2 a3=>⟨_,rfl,Au ⟨_,rfl,?_⟩⟩) (args_list_sort _)))
  ·rw[hvl];exact h64
  obtain⟨e,he⟩:=sortedHeap_at (out:=xs) hL;refine h _ _ xs.toList ns' e (by simpa using he) a1 (a2.trans (hmp.trans hkp)) (λ_=>a3) (λc o x=>?_) hg1 ho1 hl1;have lc:c<s1.heap.objs.size:=AY (hk1 c o x);show(sortedHeap _ _ _ _).get? c=GT o;rw[sortedHeap_old (B5 lc) (by rw[size_push'];exact D4 lc)];exact AB _ (hk1 c o x)
 rw[hp.length_eq,AE,EF];exact hz
end
end SRT
set_option maxHeartbeats 4000000
namespace L2
open PySem PySem.Spec PyProof.Rows
theorem yV:∀{xs:List Int}{us:List Ap},Vals (xs.map As) us->Fu us xs
 | [],_,h=>by cases h;exact .nil
 | x::xs,_,h=>by
  cases h with
  | cons r h=>
   obtain⟨t,rfl⟩:=r;exact .cons x t (yV h)
theorem wA:∀{us:List Ap}{xs:List Int},Fu us xs->Vals (xs.map As) us
 | _,_,.nil=>.nil
 | _,_,.cons n t h=>.cons ⟨t,rfl⟩ (wA h)
def tSS(K:AD)(ta:TA):TE:=λσ H Q=>ta σ H λvs H1=>∃(l:ID)(xs:List Int),vs=[.ref l]/\SqL K H1 l (xs.map As)/\xs.length<64 /\
 ∀(p:ID)(ys:List Int),H1 p=Is->ys.Perm (SRT.ded xs)->((SRT.ded xs).length<64->ys.Pairwise (·<=·))->Q (.ref p) (upd H1 p (.lst (ys.map As)))
section
variable {X:Cx}{pins:List (ID×Obj)}{s:AA}{σ:St}{H:Hp}
theorem Inv.drawn(I:Inv X pins σ H s)(d:Drawn):Inv X pins σ H { s with drawn:=d }:=
 I.step (g':=s.gens) (d':=d) (t':=s.toks) (h':=s.heap) (ch:=[]) (λ_ z=>nomatch z) (λb o _ _ _ e _=>e) (λb o _ _ _ e _=>⟨o.slots,e⟩) (λ_ _ _ _ n=>n) (λb o _ e=>⟨o,e⟩) (λ_ _ e=>e) (λ_ _ _ e=>e) (λb ps e=>⟨#[],by rw[e];simp⟩) (λ_ h=>h) I.hok I.bare
theorem aai{a:Expr}{ta:TA}{p p2 pos pos2:Pos}(hc:X.calm=true)(hgl:Gl X "sorted")(hml:X.mg "sorted" = Is)(hg:Gl X "set")(hm:X.mg "set" = Is)(ha:PA X [a] ta)
  (hs:AH [a] X.env=[(false,eval a X.env)]:=by rfl)
  (he:AH [.Call (.Name "set" p2) [a] [] pos2] X.env=[(false,eval (.Call (.Name "set" p2) [a] [] pos2) X.env)]:=by rfl) :
  PE X (.Call (.Name "sorted" p) [.Call (.Name "set" p2) [a] [] pos2] [] pos) (tSS X.K ta):=by
 intro pins s σ H Q I h;refine Ex (dW I hgl hml JJ ?_ δ δ);refine HI ?_ he rfl;rw[he];show AG _ _ (L3 ((false,eval (.Call (.Name "set" p2) [a] [] pos2) X.env)::[])) _ _ s;refine B9 ?_;refine LA (dW I hg hm PyProof.Rows.boot_set (A3 (thA (ha pos2 pins s σ H _ I h) λus s1 vs H1 I1 r1 q1=>?_) hs Z));obtain⟨l,xs,rfl,sq,hn,q⟩:=q1;cases r1 with
 | cons r rr=>
  cases rr;cases r;obtain⟨its,rv,pl,hz⟩:=I1.list sq;have hI:=yV rv;have hlen:its.length=xs.length:=Fu.length hI;refine SRT.Tc (I1.ok.hd hc) pl.isList (by simpa using hI) (by simp[hlen,FO];omega) λh2 t2 hS hk=>B6 ?_;have eq:FL (λi=>xs.getD i 0) its.toArray.size=SRT.ded xs:=by unfold SRT.ded;rw[AX,hlen]
  rw[eq] at hS;have hk2:∀c o,s1.heap.get? c=GT o->h2.get? c=GT o:=λc o e=>hk c o (AY e) e;refine SRT.HN (s:={ s1 with heap:=h2,toks:=t2 }) (I1.ok.hd hc) hS (SRT.wM xs) (LM (SRT.yQ xs) hn) λs3 L ys ns k gL iL pL oL k3 g3 o3 l3=>?_;have le:s1.heap.objs.size<=L:=by
   obtain⟨o,_,_,_,e,_⟩:=hS;exact CF (Lu (AY e)) l3
  have hf:H1 L=Is:=I1.hok.fresh le;obtain⟨h3,g3',d3,t3,o3'⟩:=s3;cases g3;cases o3;have hl:ns.length<=AK:=by
   rw[pL.length_eq];exact CF (SRT.yQ xs) (CF (Lu hn) δ)
  refine⟨.ref L,_,((I1.drawn d3).laid (t':=t3) (h':=h3) (λc o e=>k3 c o (hk2 c o e)) le (show cD X.prog X.w _ h3 _ (.lst (ns.map As)) from⟨by simpa using hl,ys,k,wA iL,gL⟩)),rfl,q L ns hf pL oL⟩
theorem O3{a:Expr}{ta:TA}{p p2 pos pos2:Pos}(hc:X.calm=true)(hgl:Gl X "sorted")(hml:X.mg "sorted" = Is)(hg:Gl X "set")(hm:X.mg "set" = Is)(ha:QA X [a] ta)
  (hs:AH [a] X.env=[(false,eval a X.env)]:=by rfl)
  (he:AH [.Call (.Name "set" p2) [a] [] pos2] X.env=[(false,eval (.Call (.Name "set" p2) [a] [] pos2) X.env)]:=by rfl) :
  QE X (.Call (.Name "sorted" p) [.Call (.Name "set" p2) [a] [] pos2] [] pos) (tSS X.K ta):=⟨aai hc hgl hml hg hm ha.h hs he⟩
end
structure DA(K:AD)(x:Str)(st:Stmt)(f:ID)(od an:Option ID)(sl:Array (Option Ap))(oc kV dc pm cd ct:Ap):Prop where
 a:nsIn K CD x=GT (GT (.ref f))
 l:K.lookup f=GT ⟨oc,od,.func (fnOf x x (iB st) (fC st) (aj st) .none kV dc pm an cd ct),sl⟩
 c:codeIn K cd x=true
 k:keepIn K (.ref f)=true
theorem DA.d{K:AD}{h:Heap}{mg:Str->Option Ap}{x:Str}{st:Stmt}{f:ID}{od an:Option ID}{sl:Array (Option Ap)}{oc kV dc pm cd ct:Ap}(D:DA K x st f od an sl oc kV dc pm cd ct)(ps:List Str)(X:K.In h)(G:h.Ns CD mg)
  (hb:∀(kV doc pm:Ap)(an:Option ID)(cdv ct:Ap)(us:List Ap),us.length=ps.length->bindArgs (fnOf x x (iB st) (fC st) (aj st) .none kV doc pm an cdv ct) ⟨us,[]⟩=pure (ps.zip us)):YD K mg x st ps f (fnOf x x (iB st) (fC st) (aj st) .none kV dc pm an cd ct):=
 adl X G D.a D.l D.c D.k hb
def DB(K:AD)(x:Str)(st:Stmt):Prop:=∃(f:ID)(od an:Option ID)(sl:Array (Option Ap)) (oc kV dc pm cd ct:Ap),DA K x st f od an sl oc kV dc pm cd ct
theorem DB.d{K:AD}{h:Heap}{mg:Str->Option Ap}{x:Str}{st:Stmt}(D:DB K x st)(ps:List Str)(X:K.In h)(G:h.Ns CD mg)
   (hb:∀(kV doc pm:Ap)(an:Option ID)(cdv ct:Ap)(us:List Ap),us.length=ps.length->bindArgs (fnOf x x (iB st) (fC st) (aj st) .none kV doc pm an cdv ct) ⟨us,[]⟩=pure (ps.zip us):=by
   intro _ _ _ _ _ _ us hl
   first
   | (obtain⟨z0,rfl⟩:=ln1 hl;rfl)
   | (obtain⟨z0,z1,rfl⟩:=ln2 hl;rfl)
   | (obtain⟨z0,z1,z2,rfl⟩:=ln3 hl;rfl)
   | (obtain⟨z0,z1,z2,z3,rfl⟩:=ln4 hl;rfl)
   | (obtain⟨z0,z1,z2,z3,z4,rfl⟩:=ln5 hl;rfl)):∃f fd,YD K mg x st ps f fd:=by
 obtain⟨f,od,an,sl,oc,kV,dc,pm,cd,ct,a⟩:=D;exact⟨_,_,a.d ps X G hb⟩
def NS(K:AD):List Str->Prop
 | []=>True
 | x::r=>nsIn K CD x=GT Is/\NS K r
theorem NS.all{K:AD}:∀{l:List Str},NS K l->∀x∈l,nsIn K CD x=GT Is
 | y::r,h,x,hx=>(A1.mp hx).elim (λe=>e ▸ h.1) (NS.all h.2 x)
theorem Fun.okz{x qual:Str}{st:Stmt}{f:ID}{fd:D6}{N ps:List Str}{k:Nat}{sp:Sp}{P:AR}{w:A9}{K:AD}{mg:Str->Option Ap}{base:Heap}(F:Fun K x qual st f fd)(S:aZ N ps (aj st))
   (hbody:∀(cdv:Ap)(A:A5)(outer:List Env)(s:AA)(H:Hp)(vs:List V)(Q:VK)(E:XK),jg k (A.deeper (KO qual (aj st) s.heap.objs.size f cdv))->sp vs H Q E ->
   ∃t,QB (J1 CX0 P w K mg base N qual (aj st) f cdv A outer s H E).nox (fC st) t/\t { nx:=λ_ H'=>Q .non H',rt:=Q } (L2.start N vs) H)
  (len:∀vs H Q E,sp vs H Q E->vs.length=ps.length:=by
   intro vs H Q E h
   repeat (first|(obtain⟨rfl,_⟩:=h;rfl)|obtain⟨_,h⟩:=h)):cQ P w K mg base CX0 (k+1) f fd ps sp:=F.okq S len hbody
def jL(ss:Sts)(left:List Nat)(l:Int):Nat:=(left.map (lbl ss)).count l
def IX(ss:Sts)(left:List Nat):Pl->Bool
 | .tab=>decide (cU ss left<=200)
 | .pick l=>decide (jL ss left l=left.length)
 | .low k _ _=>(left.drop 1).contains k
 | .msk l _=>(decide (0<jL ss left l)&&decide (jL ss left l<left.length))&&decide (cU ss left<=64)
 | .one k _=>(left.contains k&&decide (left.length≠1))&&decide ((bJ ss k).1=(bJ ss k).2.1)
 | .wit k _=>left.contains k&&decide (left.length≠1)
def okP(ss:Sts):Pl->List Nat->Bool
 | .tab,left=>IX ss left .tab
 | .pick l,left=>IX ss left (.pick l)
 | .low k a b,left=>IX ss left (.low k a b)&&(okP ss a (left.filter (· < k))&&okP ss b (left.filter (k<=·)))
 | .msk l r,left=>IX ss left (.msk l r)&&okP ss r (left.filter λk=>(bJ ss k).2.2≠l)
 | .one k r,left=>IX ss left (.one k r)&&okP ss r (left.filter (·≠k))
 | .wit k r,left=>IX ss left (.wit k r)&&okP ss r (left.filter (·≠k))
theorem Qg{left:List Nat}{k:Nat}(hk:k∈left)(hu:left.Pairwise (· < ·))(h1:left.length≠1):left.filter (·≠k)≠[]:=by
 intro e;have all:∀x∈left,x=k:=λx hx=>by
  rcases Decidable.em (x=k) with h|h
  ·exact h
  have:x∈left.filter (·≠k):=DF.mpr ⟨hx,by simpa using h⟩;rw[e] at this;cases this
 cases left with
 | nil=>cases hk
 | cons a r=>
  cases r with
  | nil=>exact h1 rfl
  | cons b r=>
   have h2:=(CO.mp hu).1 b (A7 ..);have h3:=all a (A7 ..);have h4:=all b (BE _ (A7 ..));omega
theorem Q6{ss:Sts}{left:List Nat}{p:Pl}(lf:Lf ss left)(h:IX ss left p=true):∀x∈kids ss p left,Lf ss x.1:=by
 have mk:∀q:Nat->Bool,left.filter q≠[]->Lf ss (left.filter q):=λq hq=>⟨hq,λk hk=>lf.lt k (DF.mp hk).1,lf.up.sublist (List.filter_sublist ..)⟩;intro x hx;cases p with
 | tab=>cases hx
 | pick l=>cases hx
 | one k r=>
  simp only[kids,AL] at hx;subst hx;simp only[IX,CL,FD,decide_eq_true_eq] at h;exact mk _ (Qg h.1.1 lf.up h.1.2)
 | wit k r=>
  simp only[kids,AL] at hx;subst hx;simp only[IX,CL,FD,decide_eq_true_eq] at h;exact mk _ (Qg h.1 lf.up h.2)
 | msk l r=>
  simp only[kids,AL] at hx;subst hx;simp only[IX,CL,decide_eq_true_eq] at h;refine mk _ λe=>?_;have:jL ss left l=left.length:=by
   unfold jL;have e2:∀y∈left.map (lbl ss),l=y:=λy hy=>by
    obtain⟨k,hk,rfl⟩:=DD.mp hy;rcases Decidable.em ((bJ ss k).2.2=l) with h|h
    ·exact h.symm
    have:k∈left.filter λk=>decide ((bJ ss k).2.2≠l):=DF.mpr ⟨hk,by simpa using h⟩;rw[e] at this;cases this
   rw[LV.mpr e2,AE]
  omega
 | low k a b=>
  simp only[IX,FD] at h;have hk:k∈left:=List.mem_of_mem_drop h;simp only[kids,A1,BA,or_false] at hx;rcases hx with rfl|rfl
  ·refine mk _ λe=>?_;cases left with
   | nil=>cases hk
   | cons c r=>
    have h2:=(CO.mp lf.up).1 k (by simpa using h);have:c∈(c::r).filter (λx=>decide (x<k)):=DF.mpr ⟨A7 ..,by simpa using h2⟩;rw[e] at this;cases this
  refine mk _ λe=>?_;have:k∈left.filter (λx=>decide (k<=x)):=DF.mpr ⟨hk,by simp⟩;rw[e] at this;cases this
theorem Pu{ss:Sts}{p:Pl}{left:List Nat}(h:PlV ss p left):Lf ss left:=h.ok.lf
theorem Py{left:List Nat}{k:Nat}(hk:k∈left)(h:left.filter (λx=>decide (x≠k))≠[]):left.length≠1:=by
 intro e;obtain⟨a,rfl⟩:=List.length_eq_one_iff.mp e;rw[AL] at hk;subst hk;exact h ζ
theorem PlV.okP{ss:Sts}:∀{p:Pl}{left:List Nat},PlV ss p left->okP ss p left=true
 | .tab,left,h=>decide_eq_true h.2
 | .pick l,left,h=>by
  refine decide_eq_true ?_;unfold jL;rw[LV.mpr λy hy=>?_,AE];obtain⟨k,hk,rfl⟩:=DD.mp hy;exact(h.2 k hk).symm
 | .one k r,left,h=>by
  obtain⟨⟨lf,hk,e⟩,hr⟩:=h;have h1:=Py hk (Pu hr).ne;show(((left.contains k&&decide (left.length≠1))&&decide ((bJ ss k).1=(bJ ss k).2.1))&&L2.okP ss r _)=true;rw[PlV.okP hr,decide_eq_true h1,decide_eq_true e,FD.mpr hk];rfl
 | .wit k r,left,h=>by
  obtain⟨⟨lf,hk⟩,hr⟩:=h;have h1:=Py hk (Pu hr).ne;show((left.contains k&&decide (left.length≠1))&&L2.okP ss r _)=true;rw[PlV.okP hr,decide_eq_true h1,FD.mpr hk];rfl
 | .low k a b,left,h=>by
  obtain⟨⟨lf,hk⟩,ha,hb⟩:=h;have h1:k∈left.drop 1:=by
   cases left with
   | nil=>cases hk
   | cons c r=>
    rcases A1.mp hk with rfl|hk
    ·refine absurd ?_ (Pu ha).ne;rw[FV];intro x hx;rcases A1.mp hx with rfl|hx
     ·simp
     have:=(CO.mp lf.up).1 x hx;simp;omega
    simpa using hk
  show((left.drop 1).contains k&&(L2.okP ss a _&&L2.okP ss b _))=true;rw[PlV.okP ha,PlV.okP hb,FD.mpr h1];rfl
 | .msk l r,left,h=>by
  obtain⟨⟨lf,hs,k,hk,e⟩,hr⟩:=h;have h1:0<jL ss left l:=List.count_pos_iff.mpr (DD.mpr ⟨k,hk,e⟩);have h2:jL ss left l<left.length:=by
   refine Nat.lt_of_le_of_ne (CF (List.count_le_length ..) (by rw[AE];exact AU _)) λz=>?_;refine(Pu hr).ne ?_;rw[FV];intro x hx;have:=LV.mp (show(left.map (lbl ss)).count l=(left.map (lbl ss)).length by rw[AE];exact z) _ (DD.mpr ⟨x,hx,rfl⟩);simp only[decide_eq_true_eq,Decidable.not_not];exact this.symm
  show(((decide (0<jL ss left l)&&decide (jL ss left l<left.length))&&decide (cU ss left<=64))&&L2.okP ss r _)=true;rw[PlV.okP hr,decide_eq_true h1,decide_eq_true h2,decide_eq_true hs];rfl
def Oo:Sp:=λvs H Q _=>∃(s l:V)(ok:ID->Prop)(ss:Sts)(left:List Nat)(m:Int),vs=[s,l,.int m]/\aH ok H s (.list (ss.map stD))/\aH ok H l (sI left)/\Lf ss left/\left.length<=1000000 /\
 ∀H',Same H H'->Q (.bl (decide (0<jL ss left m)&&decide (jL ss left m<left.length))) H'
inductive Pg where
 | pick (l:Int)
 | one (k:Nat) (r:Pg)
 | wit (k:Nat) (r:Pg)
 | low (k:Nat) (a b:Pg)
 | msk (l:Int) (r:Pg)
 | tab
 | odd (d:A0)
def pgD:Pg->A0
 | .pick l=>.tuple [.str "pick",.int l]
 | .one k r=>.tuple [.str "is",.int (k:Int),pgD r]
 | .wit k r=>.tuple [.str "within",.int (k:Int),pgD r]
 | .low k a b=>.tuple [.str "below",.int (k:Int),pgD a,pgD b]
 | .msk l r=>.tuple [.str "mask",.int l,pgD r]
 | .tab=>.tuple [.str "table"]
 | .odd d=>d
def jV:Pg->Nat
 | .pick _=>1
 | .one _ r=>jV r+1
 | .wit _ r=>jV r+1
 | .low _ a b=>jV a+jV b+1
 | .msk _ r=>jV r+1
 | .tab=>1
 | .odd _=>1
structure abC(d:A0):Prop where
 tab:d≠.tuple [.str "table"]
 pick:∀l,d≠.tuple [.str "pick",.int l]
 one:∀(k:Nat) r,d≠.tuple [.str "is",.int (k:Int),r]
 wit:∀(k:Nat) r,d≠.tuple [.str "within",.int (k:Int),r]
 low:∀(k:Nat) a b,d≠.tuple [.str "below",.int (k:Int),a,b]
 msk:∀l r,d≠.tuple [.str "mask",.int l,r]
def WfG:Pg->Prop
 | .pick _=>True
 | .one _ r=>WfG r
 | .wit _ r=>WfG r
 | .low _ a b=>WfG a/\WfG b
 | .msk _ r=>WfG r
 | .tab=>True
 | .odd d=>abC d
def ji(ss:Sts):Pg->List Nat->List (List Nat×Pg)
 | .pick _,_=>[]
 | .tab,_=>[]
 | .one k r,left=>[(left.filter (·≠k),r)]
 | .wit k r,left=>[(left.filter (·≠k),r)]
 | .low k a b,left=>[(left.filter (· < k),a),(left.filter (k<=·),b)]
 | .msk l r,left=>[(left.filter λk=>(bJ ss k).2.2≠l,r)]
 | .odd _,_=>[]
def jh(ss:Sts)(left:List Nat):Pg->Bool
 | .tab=>decide (cU ss left<=200)
 | .pick l=>decide (jL ss left l=left.length)
 | .low k _ _=>(left.drop 1).contains k
 | .msk l _=>(decide (0<jL ss left l)&&decide (jL ss left l<left.length))&&decide (cU ss left<=64)
 | .one k _=>(left.contains k&&decide (left.length≠1))&&decide ((bJ ss k).1=(bJ ss k).2.1)
 | .wit k _=>left.contains k&&decide (left.length≠1)
 | .odd _=>false
def okG(ss:Sts):Pg->List Nat->Bool
 | .tab,left=>jh ss left .tab
 | .pick l,left=>jh ss left (.pick l)
 | .low k a b,left=>jh ss left (.low k a b)&&(okG ss a (left.filter (· < k))&&okG ss b (left.filter (k<=·)))
 | .msk l r,left=>jh ss left (.msk l r)&&okG ss r (left.filter λk=>(bJ ss k).2.2≠l)
 | .one k r,left=>jh ss left (.one k r)&&okG ss r (left.filter (·≠k))
 | .wit k r,left=>jh ss left (.wit k r)&&okG ss r (left.filter (·≠k))
 | .odd _,_=>false
theorem Ja(ss:Sts)(p:Pg)(left:List Nat):okG ss p left=(jh ss left p&&(ji ss p left).all λx=>okG ss x.2 x.1):=by
 cases p with
 | tab=>simp[okG,ji]
 | pick l=>simp[okG,ji]
 | one k r=>simp[okG,ji]
 | wit k r=>simp[okG,ji]
 | msk l r=>simp[okG,ji]
 | low k a b=>simp[okG,ji]
 | odd d=>simp[okG,ji,jh]
def aek:Pg->Option Pl
 | .pick l=>GT (.pick l)
 | .one k _=>GT (.one k .tab)
 | .wit k _=>GT (.wit k .tab)
 | .low k _ _=>GT (.low k .tab .tab)
 | .msk l _=>GT (.msk l .tab)
 | .tab=>GT .tab
 | .odd _=>Is
theorem Sq{ss:Sts}{left:List Nat}{p:Pg}{q:Pl}(h:aek p=GT q):jh ss left p=IX ss left q/\(ji ss p left).map (·.1)=(kids ss q left).map (·.1):=by
 cases p <;> cases h <;> exact⟨rfl,rfl⟩
theorem MJ{ss:Sts}{left:List Nat}{p:Pg}(lf:Lf ss left)(h:jh ss left p=true):∀x∈ji ss p left,Lf ss x.1:=by
 cases hq:aek p with
 | none=>
  cases p <;> cases hq
  cases h
 | some q=>
  obtain⟨h1,h2⟩:=Sq (ss:=ss) (left:=left) hq;rw[h1] at h;intro x hx;have hm:x.1∈(kids ss q left).map (·.1):=by
   rw[<- h2];exact FE hx
  obtain⟨y,hy,e⟩:=DD.mp hm;rw[<- e];exact Q6 lf h y hy
theorem WfG.kids{ss:Sts}{left:List Nat}{p:Pg}(h:WfG p):∀x∈ji ss p left,WfG x.2:=by
 intro x hx;cases p with
 | pick l=>cases hx
 | tab=>cases hx
 | odd d=>cases hx
 | one k r=>rw[AL.mp hx];exact h
 | wit k r=>rw[AL.mp hx];exact h
 | msk l r=>rw[AL.mp hx];exact h
 | low k a b=>
  rcases A1.mp hx with rfl|hx
  ·exact h.1
  rw[AL.mp hx];exact h.2
def iM(W:List (List Nat×Pg)):Nat:=(W.map λx=>jV x.2).sum
theorem rF(A B:List (List Nat×Pg)):iM (A++B)=iM A+iM B:=by
 unfold iM;rw[A6,List.sum_append]
theorem Er(ss:Sts)(p:Pg)(left:List Nat):iM (ji ss p left)<jV p:=by
 cases p <;> simp[iM,ji,jV]
theorem Xw(W:List (List Nat×Pg)):W.length<=iM W:=by
 induction W with
 | nil=>exact AU _
 | cons x W ih=>
  have h1:1<=jV x.2:=by cases x.2 <;> simp[jV]
  have h2:iM (x::W)=jV x.2+iM W:=by simp[iM]
  rw[C7,h2];omega
def gwD(x:List Nat×Pg):A0:=.tuple [sI x.1,pgD x.2]
def Oi:Sp:=λvs H Q _=>∃(s l p:V)(ok:ID->Prop)(ss:Sts)(left:List Nat)(pl:Pg),vs=[s,l,p]/\aH ok H s (.list (ss.map stD))/\aH ok H l (sI left)/\aH ok H p (pgD pl)/\WfG pl/\Lf ss left /\
 ∀H',Same H H'->Q (.bl (jh ss left pl)) H'
def Ot:Sp:=λvs H Q _=>∃(s l p:V)(ok:ID->Prop)(ss:Sts)(left:List Nat)(pl:Pg),vs=[s,l,p]/\gF ok H/\aH ok H s (.list (ss.map stD))/\aH ok H l (sI left)/\aH ok H p (pgD pl)/\jh ss left pl=true/\Lf ss left /\
 ∀v H',Same H H'->aH ok H' v (.list ((ji ss pl left).map gwD))->Q v H'
def DW:Sp:=λvs H Q _=>∃(s p:V)(ok:ID->Prop)(ss:Sts)(pl:Pg),vs=[s,p]/\gF ok H/\aH ok H s (.list (ss.map stD))/\aH ok H p (pgD pl)/\WfG pl/\0<ss.length/\ss.length<=100/\jV pl<=4000 /\
 ∀H',Same H H'->Q (.bl (okG ss pl (Bi ss.length))) H'
theorem yP{i:Int}(h:i<0):∀left:List Nat,inV (As i) (nv left)=false
 | []=>rfl
 | k::left=>by
  have ih:=yP h left;unfold inV nv at ih |-;rw[CB,HV,ih,Bool.or_false];exact decide_eq_false ω
theorem GK(k:Nat)(left:List Nat):inV (As (k:Int)) (nv left)=left.contains k:=aa0 k left
def jB(ss:Sts)(left:List Nat)(d0:A0)(ds:List A0):Bool:=
 if cT d0 "table" = true then ds.isEmpty&&decide (cU ss left<=200)
 else match ds with
  | .int i::es=>
   if cT d0 "pick" = true then es.isEmpty&&decide (jL ss left i=left.length)
   else if cT d0 "below" = true then decide (es.length=2)&&inV (As i) (nv (left.drop 1))
   else if es.length≠1 then false
   else if cT d0 "mask" = true then (decide (0<jL ss left i)&&decide (jL ss left i<left.length))&&decide (cU ss left<=64)
   else if inV (As i) (nv left)=false\/left.length=1 then false
   else if cT d0 "is" = true then decide ((bJ ss i.toNat).1=(bJ ss i.toNat).2.1)
   else cT d0 "within"
  | _=>false
def stepT(ss:Sts)(left:List Nat):A0->Bool
 | .tuple (d0::ds)=>jB ss left d0 ds
 | _=>false
theorem tM{a b:Str}(h:a≠b):¬cT (.str a) b=true:=λz=>h (of_decide_eq_true z)
theorem Ro(a:Str):cT (.str a) a=true:=decide_eq_true rfl
theorem Wt{ss:Sts}{left:List Nat}{d:A0}(wf:abC d):stepT ss left d=false:=by
 cases d with
 | tuple ds=>
  cases ds with
  | nil=>rfl
  | cons d0 ds=>
   show jB ss left d0 ds=false;unfold jB;split
   ·rename_i h;obtain rfl:=kI h;cases ds with
    | nil=>exact absurd rfl wf.tab
    | cons _ _=>rfl
   split
   ·rename_i _ i es;split
    ·rename_i h;obtain rfl:=kI h;cases es with
     | nil=>exact absurd rfl (wf.pick i)
     | cons _ _=>rfl
    split
    ·rename_i h;obtain rfl:=kI h;rcases lt_or_le i 0 with z|z
     ·rw[yP z,F2]
     obtain⟨k,rfl⟩:=KE z
     match es with
     | []=>rfl
     | [_]=>rfl
     | [a,b]=>exact absurd rfl (wf.low k a b)
     | _::_::_::es=>rw[decide_eq_false (by simp only[C7];omega),FA]
    split
    ·rfl
    rename_i hl;obtain⟨d2,rfl⟩:∃d2,es=[d2]:=List.length_eq_one_iff.mp (Decidable.not_not.mp hl);split
    ·rename_i h;obtain rfl:=kI h;exact absurd Z (wf.msk i d2)
    split
    ·rfl
    rename_i hin;rcases lt_or_le i 0 with z|z
    ·exact absurd (.inl (yP z left)) hin
    obtain⟨k,rfl⟩:=KE z;split
    ·rename_i h;obtain rfl:=kI h;exact absurd Z (wf.one k d2)
    cases h:cT d0 "within" with
    | false=>rfl
    | true=>
     obtain rfl:=kI h;exact absurd Z (wf.wit k d2)
   rfl
 | _=>rfl
theorem MK{ss:Sts}{left:List Nat}{pl:Pg}(wf:WfG pl):jh ss left pl=stepT ss left (pgD pl):=by
 cases pl with
 | odd d=>exact(Wt wf).symm
 | tab=>
  show _=jB ss left (.str "table") [];unfold jB;rw[if_pos (Ro _)];rfl
 | pick l=>
  show _=jB ss left (.str "pick") [.int l];unfold jB;rw[if_neg (tM ψ)];dsimp only;rw[if_pos (Ro _)];rfl
 | low k a b=>
  show _=jB ss left (.str "below") [.int (k:Int),pgD a,pgD b];unfold jB;rw[if_neg (tM ψ)];dsimp only;rw[if_neg (tM ψ),if_pos (Ro _),GK];rfl
 | msk l r=>
  show _=jB ss left (.str "mask") [.int l,pgD r];unfold jB;rw[if_neg (tM ψ)];dsimp only;rw[if_neg (tM ψ),if_neg (tM ψ),if_neg ζ,if_pos (Ro _)];rfl
 | one k r=>
  show((left.contains k&&decide (left.length≠1))&&decide ((bJ ss k).1=(bJ ss k).2.1))=jB ss left (.str "is") [.int (k:Int),pgD r];unfold jB;rw[if_neg (tM ψ)];dsimp only;rw[if_neg (tM ψ),if_neg (tM ψ),if_neg ζ,if_neg (tM ψ),GK,if_pos (Ro _),Fs];by_cases c:left.contains k=false\/left.length=1
  ·rw[if_pos c];rcases c with c|c
   ·rw[c];rfl
   rw[decide_eq_false (show ¬left.length≠1 from λz=>z c),F2];rfl
  rw[if_neg c,decide_eq_true (show left.length≠1 from λz=>c (.inr z))];cases h:left.contains k with
  | false=>exact absurd (.inl h) c
  | true=>rfl
 | wit k r=>
  show(left.contains k&&decide (left.length≠1))=jB ss left (.str "within") [.int (k:Int),pgD r];unfold jB;rw[if_neg (tM ψ)];dsimp only;rw[if_neg (tM ψ),if_neg (tM ψ),if_neg ζ,if_neg (tM ψ),GK,if_neg (tM (a := "within") (b := "is") ψ),Ro];by_cases c:left.contains k=false\/left.length=1
  ·rw[if_pos c];rcases c with c|c
   ·rw[c];rfl
   rw[decide_eq_false (show ¬left.length≠1 from λz=>z c),F2]
  rw[if_neg c,decide_eq_true (show left.length≠1 from λz=>c (.inr z))];cases h:left.contains k with
  | false=>exact absurd (.inl h) c
  | true=>rfl
section
variable {prog:AR}{w:A9}{A:A5}{R:Result->AA->Prop}{s:AA}
abbrev qK(elt tg iter tg2 iter2:Expr)(scope:E5)(pos:Pos):Expr:=.ListComp elt [⟨tg,iter,[],0⟩,⟨tg2,iter2,[],0⟩] scope pos
theorem Uc(elt tg iter tg2 iter2:Expr)(scope:E5)(pos:Pos)(it acc:Ap)(env:Env) :
  JY (qK elt tg iter tg2 iter2 scope pos) 0 it acc env=(FS iter.pos >>= λ_=>D2 it >>= λr=>match r with
   | none=>pure (.done .next)
   | some v=>DS tg it v >>= λ_=>EO tg env v >>= λ_=>
    eval iter2 env >>= λx=>FS iter2.pos >>= λ_=>B2 iter2 env x >>= λx=>EN [x] (IH x) >>= λit2=>runOwn (.compStart (qK elt tg iter tg2 iter2 scope pos) 1 it2 acc env) env >>= λ_=>
     GW (.compLoop (qK elt tg iter tg2 iter2 scope pos) 0 it acc env)):=by rfl
theorem YT(elt tg iter tg2 iter2:Expr)(scope:E5)(pos:Pos)(it acc:Ap)(env:Env) :
  JY (qK elt tg iter tg2 iter2 scope pos) 1 it acc env=(FS iter2.pos >>= λ_=>D2 it >>= λr=>match r with
   | none=>pure (.done .next)
   | some v=>DS tg2 it v >>= λ_=>EO tg2 env v >>= λ_=>
    (eval elt env >>= λx=>call (.builtin "list.append") [acc,x] >>= λ_=>pure ()) >>= λ_=>
     GW (.compLoop (qK elt tg iter tg2 iter2 scope pos) 1 it acc env)):=by rfl
theorem UJ{elt tg iter tg2 iter2:Expr}{scope:E5}{pos:Pos}{it acc:Ap}{env:Env}
  (h0:DL (AJ prog w) A (.compLoop (qK elt tg iter tg2 iter2 scope pos) 1 it acc env) R s)
  (h:AG (AJ prog w) A (IH it) (λit' s'=>DL (AJ prog w) A (.compLoop (qK elt tg iter tg2 iter2 scope pos) 1 it' acc env) R s') (ER (AJ prog w) A env λx s'=>R (.error x) s') s) :
  DL (AJ prog w) A (.compStart (qK elt tg iter tg2 iter2 scope pos) 1 it acc env) R s:=by
 refine GI (show AG _ _ ((compStart (qK elt tg iter tg2 iter2 scope pos) 1 it acc env).onRaise (λx=>do Kb x env;FS theWindowsPlace)) _ _ s from wpAny_notedAt ?_);unfold compStart;show AG _ _ (ask >>= _) _ _ s;refine An (EC (wpAny_ite ?_));split
 ·exact Au (AC Z h0)
 refine An (CY ?_);show AG _ _ (FS iter2.pos >>= _) _ _ s;exact An (C6 (An (Bz h (λit' s' h'=>Au (AC Z h')) λ_ _ x=>x)))
theorem W5{elt tg iter tg2 iter2:Expr}{scope:E5}{pos:Pos}{it acc:Ap}{env:Env}(hs2:∀x,B2 iter2 env x=pure x)(J:Nat->AA->Prop)
   (turn:∀n s,J n s->AG (AJ prog w) A (D2 it) (λr s1=>match r with
   | none=>R (.ok .next) s1
   | some v=>AG (AJ prog w) A (DS tg it v) (λ_ s1'=>AG (AJ prog w) A (EO tg env v) (λ_ s2=>
     AG (AJ prog w) A (eval iter2 env) (λx s3=>AG (AJ prog w) A (IH x) (λit2 s4=>
      DL (AJ prog w) A (.compStart (qK elt tg iter tg2 iter2 scope pos) 1 it2 acc env) (λr s5=>match r with | .ok _=>∃m,m<n/\J m s5 | .error _=>False) s4)
      (λ_ _=>False) s3) (λ_ _=>False) s2) (λ_ _=>False) s1') (λ_ _=>False) s1) (λ_ _=>False) s)
  (n:Nat) (h:J n s):DL (AJ prog w) A (.compLoop (qK elt tg iter tg2 iter2 scope pos) 0 it acc env) R s:=by
 refine KP Z J (λn z hJ=>?_) n h;show AG _ A ((JY (qK elt tg iter tg2 iter2 scope pos) 0 it acc env).onRaise (λy=>do Kb y env;Ix y)) _ _ z;refine LB ?_;rw[Uc];refine An (C6 (An (Bz (turn n z hJ) (λr s1 h1=>?_) λ_ _ q=>q.elim)));cases r with
 | none=>exact Au h1
 | some v=>
  refine An (Bz h1 (λ_ s1' h1'=>?_) λ_ _ q=>q.elim);refine An (Bz h1' (λ_ s2 h2=>An (Bz h2 (λx s3 h3=>?_) λ_ _ q=>q.elim)) λ_ _ q=>q.elim);refine An (C6 (An (Cs (hs2 x) (An (BH (Bz h3 (λit2 s4 h4=>?_) λ_ _ q=>q.elim))))));refine An (wpAny_runOwn (IC h4 λr s5 h5=>?_));cases r with
  | ok f=>exact Au ⟨rfl,h5⟩
  | error e=>exact h5.elim
theorem aaR{elt tg iter tg2 iter2:Expr}{scope:E5}{pos:Pos}{it acc:Ap}{env:Env}(J:Nat->AA->Prop)
   (turn:∀n s,J n s->AG (AJ prog w) A (D2 it) (λr s1=>match r with
   | none=>R (.ok .next) s1
   | some v=>AG (AJ prog w) A (DS tg2 it v) (λ_ s1'=>AG (AJ prog w) A (EO tg2 env v) (λ_ s2=>
     AG (AJ prog w) A (eval elt env) (λx s4=>AG (AJ prog w) A (call (.builtin "list.append") [acc,x]) (λ_ s5=>∃m,m<n/\J m s5) (λ_ _=>False) s4) (λ_ _=>False) s2) (λ_ _=>False) s1') (λ_ _=>False) s1) (λ_ _=>False) s)
  (n:Nat) (h:J n s):DL (AJ prog w) A (.compLoop (qK elt tg iter tg2 iter2 scope pos) 1 it acc env) R s:=by
 refine KP Z J (λn z hJ=>?_) n h;show AG _ A ((JY (qK elt tg iter tg2 iter2 scope pos) 1 it acc env).onRaise (λy=>do Kb y env;Ix y)) _ _ z;refine LB ?_;rw[YT];refine An (C6 (An (Bz (turn n z hJ) (λr s1 h1=>?_) λ_ _ q=>q.elim)));cases r with
 | none=>exact Au h1
 | some v=>
  refine An (Bz h1 (λ_ s1' h1'=>?_) λ_ _ q=>q.elim);refine An (Bz h1' (λ_ s2 h2=>An (An (Bz h2 (λx s3 h3=>?_) λ_ _ q=>q.elim))) λ_ _ q=>q.elim);exact An (Bz h3 (λ_ s5 h5=>Au (Au ⟨rfl,h5⟩)) λ_ _ q=>q.elim)
end
end L2
set_option maxHeartbeats 8000000
namespace L2
open PySem PySem.Spec PyProof.Rows
def Kz(mp:List (Option Nat))(wi:TI)(g:TG)(wi2:TI)(g2:TG)(te:TE):TE:=λσ H Q=>wi σ H λJ H1=>
 ∃W:Nat->Nat->List V->St->Hp->Prop,(∃m,W 0 m [] (fM mp σ) H1)/\∀i m acc τ H2,W i m acc τ H2 ->
  (J.stop i H2/\∀d,H2 d=Is->Q (.ref d) (upd H2 d (.lst acc))) \/
  (J.go i H2/\∃N:List V->St->Hp->Prop,(∀acc' τ' H',N acc' τ' H'->∃m',m'<m/\W (i+1) m' acc' τ' H')/\∀x H3,J.yld i H2 x H3->g x τ H3 λτ1 H4=>wi2 τ1 H4 λJ2 H5=>
   ∃W2:Nat->Nat->List V->St->Hp->Prop,(∃m2,W2 0 m2 acc τ1 H5)/\∀j m2 acc2 τ2 H6,W2 j m2 acc2 τ2 H6 ->
    (J2.stop j H6/\N acc2 τ2 H6) \/
    (J2.go j H6/\acc2.length<AK/\∃N2:List V->St->Hp->Prop,(∀acc' τ' H',N2 acc' τ' H'->∃m',m'<m2/\W2 (j+1) m' acc' τ' H')/\∀x2 H7,J2.yld j H6 x2 H7->g2 x2 τ2 H7 λτ3 H8=>te τ3 H8 λv H9=>N2 (acc2++[v]) τ3 H9))
section
variable {X:Cx}{NX N:List Str}{kX:List (Str×DE)}{mp:List (Option Nat)}{scope:E5}
theorem Wf{tg iter tg2 iter2 elt:Expr}{pos:Pos}{wi wi2:TI}{g g2:TG}{te:TE}(N:List Str)(mp:List (Option Nat))(hNX:X.N=NX)(hkX:X.env.scope.names=kX)(S:oY NX kX N mp scope)(hc:X.calm=true)
  (hi:PI X tg iter wi)(hg:∀cl C s H fp,PG (aO X N scope cl C s H fp) tg g)(hi2:∀cl C s H fp,PI (aO X N scope cl C s H fp) tg2 iter2 wi2)(hg2:∀cl C s H fp,PG (aO X N scope cl C s H fp) tg2 g2)(he:∀cl C s H fp,PE (aO X N scope cl C s H fp) elt te)
  (hs:∀x,B2 iter X.env x=pure x:=by intro _;rfl)(hs2:∀env x,B2 iter2 env x=pure x:=by intro _ _;rfl):PE X (qK elt tg iter tg2 iter2 scope pos) (Kz mp wi g wi2 g2 te):=by
 intro pins s σ H Q I h;obtain⟨cl,hcl,hsub,hhas⟩:=vJ (env:=X.env) (scope:=scope) λy hy hf=>I.ok.has y.1 (by
  rcases S.fre y hy hf with q|q
  ·exact .inl (show X.env.scope.names.lookup y.1=_ by rw[hkX];exact q)
  exact .inr (show X.env.scope.names.lookup y.1=_ by rw[hkX];exact q))
 rw[eval_ListComp];refine Fn (use:=Is) Z hs hcl S.kind S.locs ?_;refine thn (hi pins s σ H _ I h) λv s1 h1=>thn h1 λitv s2 h2=>?_;obtain⟨it,fp,tn,J,H2,e,I2,T,st2,f2,W,⟨m0,w0⟩,turn⟩:=h2;subst e;refine Be (F3 S.nocell (by intro y hy;simp at hy) (λh3 hns hsb=>?_) S.kind);dsimp only at hns hsb |-;have hold:∀b∈fp,b<s2.heap.objs.size:=λb hb=>by
  obtain⟨o,q,_⟩:=T.obj _ _ st2 b hb;exact AY q
 generalize hD:s2.heap.objs.size=D at hns hsb;generalize hH2:s2.heap.push { cls:=.type "list",dict:=Is,data:=.seq ([]:List Ap).toArray }=P2 at hns hsb |-;have hC:P2.objs.size=D+1:=by rw[<- hH2,Ct,hD]
 generalize hC':P2.objs.size=C at hns hsb |-;rw[hC'] at hC;have old:∀b o,s2.heap.get? b=GT o->h3.get? b=GT o:=λb o q=>by
  have hb:=AY q;exact hsb.extBut b o (na1 hb hD hC) (AB _ (hH2 ▸ AB _ q))
 have accD:h3.get? D=GT { cls:=.type "list",data:=.seq ([]:List Ap).toArray }:=
  hsb.extBut _ _ (na2 hC) (AB _ (by rw[<- hH2,<- hD];exact AO _ Z))
 have hfr:D∉frs X.stack:=λz=>by
  rcases A1.mp (I2.pO D z) with q|q
  ·exact na0 I2.lt hD q.symm
  exact I2.RP (na4 hD) q
 have I0:Inv (aO X N scope cl C s2 H2 fp) [(D,{ cls:=.type "list",data:=.seq ([]:List Ap).toArray })] (fM mp σ) H2 { s2 with heap:=h3,toks:=s2.toks+([]:List (Str×Ap)).length }:=
  vI (s':={ s2 with heap:=h3,toks:=s2.toks+([]:List (Str×Ap)).length }) hNX hkX S I2 f2 hold (na3 hD hC) hsub hhas Z Z ⟨_,hns⟩ old λp hp=>by
   have ep:=AL.mp hp;subst ep;exact⟨accD,I2.hok.fresh (na4 hD),na2 hC,hfr,λv z=>by cases z⟩
 have T0:tn 0 h3:=T.keep _ _ _ st2 λb _ o q=>old b o q;have no:∀{α:Type}{t:Sem α}{Q1 Q2:α->AA->Prop}{E:Ap->AA->Prop}{z:AA},AG (AJ X.prog X.w) X.A t Q1 (λ_ _=>False) z->(∀a z,Q1 a z->Q2 a z)->AG (AJ X.prog X.w) X.A t Q2 E z:=
  λq f=>Bz q f λ_ _ z=>z.elim
 have loop:∀z:AA,z={ s2 with heap:=h3,toks:=s2.toks+([]:List (Str×Ap)).length } ->
   DL (AJ X.prog X.w) X.A (.compLoop (qK elt tg iter tg2 iter2 scope pos) 0 (.ref it) (.ref D) (EW scope cl C X.env))
    (compPost (AJ X.prog X.w) X.A X.xe Is (EP X pins σ Q) (.ref D) C) z:=by
  rintro z rfl;have stat:∀{H':Hp}{pl:List (ID×Obj)},(∀b∈fp,H' b=Is)->(∀p∈pl,p.1=D)->∀b∈fp,pH (aO X N scope cl C s2 H2 fp) pl H' b:=λhn hp b hb=>by
   have hb2:=hold b hb;refine⟨hn b hb,na1 hb2 hD hC,(wN hkX S I2 f2 hold (na3 hD hC) hsub hhas).exfs b hb,.inl hb,λx c q=>(f2 b hb).2.2.2.2.1 x c (hsub x c q),λp hpp=>?_⟩;have hpD:=hp p (by simpa [aO] using hpp);rw[hpD];exact(na0 hb2 hD).symm
  refine W5 (env:=EW scope cl C X.env) (hs2 _) (λn z=>∃i acc τ H' its k,Inv (aO X N scope cl C s2 H2 fp) [(D,{ cls:=.type "list",data:=.seq (DU its) k })] τ H' z/\tn i z.heap/\(∀b∈fp,H' b=Is)/\Vals acc its/\acc.length<=AK/\W i n acc τ H')
   ?_ m0 ⟨0,[],_,H2,[],0,I0,T0,λb hb=>(f2 b hb).1,.nil,DJ _,w0⟩
  rintro n s5 ⟨i,acc,τ,H5,its,k,I5,st5,fr5,va,hz,w5⟩;rcases turn i n acc τ H5 w5 with⟨stop,qn⟩|⟨go,N9,hN9,step⟩
  ·refine no (T.done (aO X N scope cl C s2 H2 fp) Z Z Z hc i _ s5 τ H5 _ I5 (stat fr5 ζ) st5 stop) λr s6 ⟨hr,I6⟩=>?_;subst hr;obtain⟨m6,hn6,_⟩:=I6.loc;refine⟨m6,hn6,λh' sb=>?_⟩;obtain⟨dD,nD,_,_,_⟩:=I6.pin (D,_) (AN _ (AL.mpr Z));have U:=I6.base;have nC:H5 C=Is:=I6.free;have ne:∀b o,s2.heap.get? b=GT o->b≠C/\b≠D:=λb o q=>by
    exact⟨na1 (AY q) hD hC,na0 (AY q) hD⟩
   have keepC:∀b o,b≠C->s6.heap.get? b=GT o->h'.get? b=GT o:=λb o hb q=>(sb.2 b hb).trans q;have U':Un (frs X.stack) fp H2 (upd H5 D (.lst acc)) s2.heap h':=by
    refine⟨λb o q n1 hb hx=>keepC b o (ne b o q).1 (U.keep b o q n1 hb hx),λb o q n1 hb hx=>?_,λb o q n1 hx=>?_,λb o q hx=>?_,λb xs q=>?_,λb o xs q=>?_,λb ps q=>?_⟩
    ·obtain⟨sl,z⟩:=U.slot b o q n1 hb hx;exact⟨sl,keepC b _ (ne b o q).1 z⟩
    ·rw[aJ (ne b o q).2];exact U.free b o q n1 hx
    ·obtain⟨o',z⟩:=U.there b o q hx;exact⟨o',keepC b _ (ne b o q).1 z⟩
    ·have z:=U.tups b xs q;rw[aJ (aF z nD)];exact z
    ·have z:=U.frzs b o xs q;rw[aJ (aF z nD)];exact z
    obtain⟨more,z⟩:=U.tbls b ps q;exact⟨more,by rw[aJ (aF z nD)];exact z⟩
   have hok:HOk X.prog X.w (upd H5 D (.lst acc)) h':=λb u q=>by
    by_cases hb:b=D
    ·subst hb;rw[aA] at q;cases q;exact⟨hz,its,k,va,keepC _ _ (na2 hC) dD⟩
    rw[aJ hb] at q;refine(I6.hok b u q).stay (λc v hcc z=>keepC c v ?_ z) (λc z=>by rw[aJ (aF z nD)];exact z) λc xs z=>by rw[aJ (aF z nD)];exact z
    rcases hcc with z1|z1
    ·subst z1;exact aF q nC
    exact aF z1 nC
   have I7:Inv X pins σ (upd H5 D (.lst acc)) { s6 with heap:=h' }:=I2.call' (s':={ s6 with heap:=h' }) (ch:=fp) I6.os U' hok I6.bare λb hb=>by
    obtain⟨_,a2,_,a4,a5,a6⟩:=f2 b hb;exact⟨a4,a2,a5,a6⟩
   exact⟨.ref D,_,I7,rfl,qn D nD⟩
  refine no (T.item (aO X N scope cl C s2 H2 fp) Z Z Z hc i _ s5 τ H5 _ I5 (stat fr5 ζ) st5 go) λr s6 ⟨u,hr,h6⟩=>?_;subst hr;refine no h6 λ_ s7 ⟨x,H7,I7,r7,y7,st7,fr7⟩=>?_;have I7':=I7.pinned (stat fr7 ζ) (T.obj _ _ st7);have GW:∀{H':Hp}{z:AA}{its':List Ap}{k':Nat}{τ1:St},Inv (aO X N scope cl C s2 H2 fp) ([(D,{ cls:=.type "list",data:=.seq (DU its') k' })]++dU fp s7.heap) τ1 H' z ->
    tn (i+1) z.heap/\(∀b∈fp,H' b=Is)/\Inv (aO X N scope cl C s2 H2 fp) [(D,{ cls:=.type "list",data:=.seq (DU its') k' })] τ1 H' z:=λ{H' z its' k' τ1} Iz=>by
   have get:∀b∈fp,∀o,s7.heap.get? b=GT o->z.heap.get? b=GT o/\H' b=Is:=λb hb o q=>by
    obtain⟨a1,a2,_⟩:=Iz.pin (b,o) (AN _ (AN _ (f9 hb q)));exact⟨a1,a2⟩
   refine⟨T.keep _ _ _ st7 λb hb o q=>(get b hb o q).1,λb hb=>?_,Iz.iR⟩;obtain⟨o,q,_⟩:=T.obj _ _ st7 b hb;exact(get b hb o q).2
  refine no (hg cl C s2 H2 fp _ s7 τ H7 x u _ I7' r7 (step x H7 y7)) λ_ s8 ⟨τ1,H8,I8,q8⟩=>?_
  -- the second walk
  refine no (hi2 cl C s2 H2 fp _ s8 τ1 H8 _ I8 q8) λv9 s9 h9=>no h9 λitv2 s10 h10=>?_;obtain⟨it2,fp2,tn2,J2,H10,e2,I10,T2,st10,f10,W2,⟨m2,w10⟩,turn2⟩:=h10;subst e2;have stat2:∀{H':Hp}{its':List Ap}{k':Nat},(∀b∈fp2,H' b=Is)->∀b∈fp2,pH (aO X N scope cl C s2 H2 fp) ([(D,{ cls:=.type "list",data:=.seq (DU its') k' })]++dU fp s7.heap) H' b:=λ{H' its' k'} hn b hb=>by
   obtain⟨_,a2,a3,a4,a5,a6⟩:=f10 b hb;refine⟨hn b hb,a2,a3,a4,a5,λp hp=>?_⟩;rcases Cf.mp hp with z|z
   ·exact a6 p (D8 _ z)
   rcases Cf.mp z with z|z
   ·have ep:=AL.mp z;subst ep;exact a6 (D,{ cls:=.type "list",data:=.seq (DU its) k }) (AN _ (D8 _ (AL.mpr Z)))
   exact a6 p (AN _ (AN _ z))
  have nD2:∀b∈fp2,b≠D:=λb hb=>by
   obtain⟨_,_,_,_,_,a6⟩:=f10 b hb;exact(a6 (D,{ cls:=.type "list",data:=.seq (DU its) k }) (AN _ (D8 _ (AL.mpr Z)))).symm
  have inner:DL (AJ X.prog X.w) X.A (.compLoop (qK elt tg iter tg2 iter2 scope pos) 1 (.ref it2) (.ref D) (EW scope cl C X.env))
    (λr s5=>match r with | .ok _=>∃m,m<n/\∃i acc τ H' its k,Inv (aO X N scope cl C s2 H2 fp) [(D,{ cls:=.type "list",data:=.seq (DU its) k })] τ H' s5/\tn i s5.heap/\(∀b∈fp,H' b=Is)/\Vals acc its/\acc.length<=AK/\W i m acc τ H' | .error _=>False) s10:=by
   refine aaR (env:=EW scope cl C X.env) (λn z=>∃j acc τ H' its k,Inv (aO X N scope cl C s2 H2 fp) ([(D,{ cls:=.type "list",data:=.seq (DU its) k })]++dU fp s7.heap) τ H' z/\tn2 j z.heap/\(∀b∈fp2,H' b=Is)/\Vals acc its/\acc.length<=AK/\W2 j n acc τ H')
    ?_ m2 ⟨0,acc,τ1,H10,its,k,I10,st10,λb hb=>(f10 b hb).1,va,hz,w10⟩
   rintro n2 s11 ⟨j,acc2,τ2,H11,its2,k2,I11,st11,fr11,va2,hz2,w11⟩;rcases turn2 j n2 acc2 τ2 H11 w11 with⟨stop,qn⟩|⟨go2,hlt,N2,hN2,step2⟩
   ·refine no (T2.done (aO X N scope cl C s2 H2 fp) Z Z Z hc j _ s11 τ2 H11 _ I11 (stat2 fr11) st11 stop) λr s12 ⟨hr,I12⟩=>?_;subst hr;obtain⟨m',hm,w12⟩:=hN9 _ _ _ qn;obtain⟨a1,a2,a3⟩:=GW I12;exact⟨m',hm,i+1,acc2,τ2,H11,its2,k2,a3,a1,a2,va2,hz2,w12⟩
   refine no (T2.item (aO X N scope cl C s2 H2 fp) Z Z Z hc j _ s11 τ2 H11 _ I11 (stat2 fr11) st11 go2) λr s12 ⟨u2,hr,h12⟩=>?_;subst hr;refine no h12 λ_ s13 ⟨x2,H13,I13,r13,y13,st13,fr13⟩=>?_;have I13':=I13.pinned (stat2 fr13) (T2.obj _ _ st13);refine no (hg2 cl C s2 H2 fp _ s13 τ2 H13 x2 u2 _ I13' r13 (step2 x2 H13 y13)) λ_ s14 ⟨τ3,H14,I14,q14⟩=>?_;refine no (he cl C s2 H2 fp _ s14 τ3 H14 _ I14 q14) λy s15 ⟨v,H15,I15,rv,q15⟩=>?_;obtain⟨m',hm,w15⟩:=hN2 _ _ _ q15;have get2:∀b∈fp2,∀o,s13.heap.get? b=GT o->s15.heap.get? b=GT o/\H15 b=Is:=λb hb o q=>by
    obtain⟨a1,a2,_⟩:=I15.pin (b,o) (AN _ (AN _ (f9 hb q)));exact⟨a1,a2⟩
   have t15:tn2 (j+1) s15.heap:=T2.keep _ _ _ st13 λb hb o q=>(get2 b hb o q).1;have f15:∀b∈fp2,H15 b=Is:=λb hb=>by
    obtain⟨o,q,_⟩:=T2.obj _ _ st13 b hb;exact(get2 b hb o q).2
   have I16:=I15.iR;obtain⟨dD,nD,_,_,_⟩:=I16.pin (D,_) (AN _ (D8 _ (AL.mpr Z)));have hlen:=va2.length;refine EA IJ ⟨_,dD,rfl⟩ IA (HZ _ _) (Jn D its2.toArray k2 y (by rw[AX];omega)) ⟨dD,?_⟩;obtain⟨k',q⟩:∃k',(s15.heap.update D (Ch λa=>a.push y)).get? D=GT { cls:=.type "list",data:=.seq (its2++[y]).toArray k' }:=by
    have q:=JU dD (λa=>a.push y);rw[show its2.toArray.push y=(its2++[y]).toArray by simp] at q;exact⟨_,q⟩
   have a4:Inv (aO X N scope cl C s2 H2 fp) (dU fp s7.heap) τ3 H15 s15:=I16.ig λp hp=>I16.pin p (AN _ (AN _ hp));have a5:Inv (aO X N scope cl C s2 H2 fp) (dU fp s7.heap) τ3 H15 { s15 with heap:=s15.heap.update D (Ch λa=>a.push y),toks:=s15.toks }:=
    a4.turned (it:=D) (λb o hb z=>(CH _ _ (BC hb)).trans z) nD (na2 hC) (.inr (na4 hD))
     (λx c z=>by
      obtain⟨_,o,h1,_⟩:=I2.cell x c (hsub x c z);exact na0 (AY h1) hD) λp hp=>by
      have hb:=(kj (by simpa [aO] using hp)).1;exact na0 (hold _ hb) hD
   refine⟨m',hm,j+1,acc2++[v],τ3,H15,its2++[y],k',a5.ig λp hp=>?_,T2.keep _ _ _ t15 λb hb o z=>(CH _ _ (nD2 b hb).symm).trans z,f15,va2.append (.cons rv .nil),by rw[AV,BG];omega,w15⟩;rcases Cf.mp hp with z|z
   ·have ep:=AL.mp z;subst ep;exact⟨q,nD,na2 hC,hfr,λv z=>by cases z⟩
   exact a5.pin p (AN _ z)
  exact UJ inner (T2.self _ 0 _ _ _ st10 inner)
 exact KS (loop _ Z) (T.self _ 0 _ _ _ T0 (loop _ Z))
end
end L2
set_option maxHeartbeats 4000000
namespace L2
open PySem PySem.Spec PyProof.Rows
def InW(g2:TG)(te:TE)(N:List V->St->Hp->Prop)(acc:List V)(τ1:St)(J2:It)(H5:Hp):Prop:=
 ∃W2:Nat->Nat->List V->St->Hp->Prop,(∃m2,W2 0 m2 acc τ1 H5)/\∀j m2 acc2 τ2 H6,W2 j m2 acc2 τ2 H6 ->
  (J2.stop j H6/\N acc2 τ2 H6) \/
  (J2.go j H6/\acc2.length<AK/\∃N2:List V->St->Hp->Prop,(∀acc' τ' H',N2 acc' τ' H'->∃m',m'<m2/\W2 (j+1) m' acc' τ' H')/\∀x2 H7,J2.yld j H6 x2 H7->g2 x2 τ2 H7 λτ3 H8=>te τ3 H8 λv H9=>N2 (acc2++[v]) τ3 H9)
def abF(mp:List (Option Nat))(g:TG)(wi2:TI)(g2:TG)(te:TE)(σ:St)(Q:VK)(J:It)(H1:Hp):Prop:=
 ∃W:Nat->Nat->List V->St->Hp->Prop,(∃m,W 0 m [] (fM mp σ) H1)/\∀i m acc τ H2,W i m acc τ H2 ->
  (J.stop i H2/\∀d,H2 d=Is->Q (.ref d) (upd H2 d (.lst acc))) \/
  (J.go i H2/\∃N:List V->St->Hp->Prop,(∀acc' τ' H',N acc' τ' H'->∃m',m'<m/\W (i+1) m' acc' τ' H')/\∀x H3,J.yld i H2 x H3->g x τ H3 λτ1 H4=>wi2 τ1 H4 (InW g2 te N acc τ1))
section
variable {mp:List (Option Nat)}{wi wi2:TI}{g g2:TG}{te:TE}{σ τ1:St}{H:Hp}{Q:VK}{R:It->Hp->Prop}{K:AD}{a:ID}{xs:List V}
theorem abj(h:∀R:It->Hp->Prop,R=abF mp g wi2 g2 te σ Q->wi σ H R):Kz mp wi g wi2 g2 te σ H Q:=h _ rfl
end
section
variable {X:Cx}
theorem VR{NX:List Str}{kX:List (Str×DE)}{scope:E5}{tg iter tg2 iter2 elt:Expr}{pos:Pos}{wi wi2:TI}{g g2:TG}{te:TE}(N:List Str)(mp:List (Option Nat))(hNX:X.N=NX)(hkX:X.env.scope.names=kX)(S:oY NX kX N mp scope)(hc:X.calm=true)
  (hi:QI X tg iter wi)(hg:∀cl C s H fp,QG (aO X N scope cl C s H fp) tg g)(hi2:∀cl C s H fp,QI (aO X N scope cl C s H fp) tg2 iter2 wi2)(hg2:∀cl C s H fp,QG (aO X N scope cl C s H fp) tg2 g2)(he:∀cl C s H fp,QE (aO X N scope cl C s H fp) elt te)
  (hs:∀x,B2 iter X.env x=pure x:=by intro _;rfl)(hs2:∀env x,B2 iter2 env x=pure x:=by intro _ _;rfl):QE X (.ListComp elt [⟨tg,iter,[],0⟩,⟨tg2,iter2,[],0⟩] scope pos) (Kz mp wi g wi2 g2 te):=
 ⟨Wf N mp hNX hkX S hc hi.h (λcl C s H fp=>(hg cl C s H fp).h) (λcl C s H fp=>(hi2 cl C s H fp).h) (λcl C s H fp=>(hg2 cl C s H fp).h) (λcl C s H fp=>(he cl C s H fp).h) hs hs2⟩
end
end L2
namespace SRT
open PySem PySem.Builtin PySem.Builtin.List PyProof.Rows
def uE:SortKind:=(sortPriv% PySem.Builtin.KeyKind.tuples) true
def TK(s:AA)(x:Ap)(a k:Int):Prop:=∃q o n t u z,x=.ref q/\s.heap.get? q=GT o/\o.cls=.type "tuple" /\ o.data=.seq #[.int a t,.int k u,z] n
section
variable {prog:AR}{w:A9}{s:AA}{A:A5}{E:Ap->AA->Prop}
theorem La{a b:Int}{t u:Tok}{Q:Bool->AA->Prop}(h:Q (decide (a<b)) s):AG (AJ prog w) A (oneLt' false (.int a t) (.int b u)) Q E s:=by
 rw[oneLt'_eq];refine An (wpAny_richCompare_same (op:=.Lt) (T := "int") (typeIs_int s a t) (typeIs_int s b u) slot_int_lt (call_int_lt ⟨(by intro h;cases h),?_⟩));exact E6 h
def acZ(a k b l:Int):Bool:=decide (a<b\/(a=b/\k<l))
theorem Xc{x y:Ap}{a k b l:Int}{Q:Bool->AA->Prop}(hx:TK s x a k)(hy:TK s y b l)(hd:k≠l)(h:Q (acZ a k b l) s):AG (AJ prog w) A (keyLt' uE x y) Q E s:=by
 obtain⟨q,o,n,t,u,z,rfl,ho,_,hs⟩:=hx;obtain⟨q',o',n',t',u',z',rfl,ho',_,hs'⟩:=hy;show AG _ _ (AI.List.listItems (.ref q) >>= λxs=>AI.List.listItems (.ref q') >>= _) _ _ s;refine An (Hd ho hs ?_);refine An (Hd ho' hs' ?_);show AG _ _ (forIn [((DO a t,DO b t'),0),((DO k u,DO l u'),1),((z,z'),2)] _ _ >>= _) _ _ s;rw[DI];refine An (An (An (JO ?_)));unfold acZ at h;by_cases e:a=b
 ·subst e;rw[beq_self_eq_true];refine Au ?_;simp only[DI];refine An (An (JO ?_));rw[beq_false_of_ne hd];refine An (La (Au (Au (Au ?_))));rw[show decide (a<a\/a=a/\k<l)=decide (k<l) from decide_eq_decide.mpr ω] at h;exact h
 rw[beq_false_of_ne e];refine An (oneLt_int (Au (Au (Au ?_))));rw[show decide (a<b\/a=b/\k<l)=decide (a<b) from decide_eq_decide.mpr ω] at h;exact h
end
end SRT
namespace SRT
open PySem PyProof.Rows
def Rk(f:CM->Int)(xs:Array CM)(i:Nat):Int:=match xs[i]? with
 | some p=>f p
 | none=>0
theorem Rk.at{f:CM->Int}{xs ys:Array CM}{i j:Nat}(h:xs[i]?=ys[j]?):Rk f xs i=Rk f ys j:=by
 unfold Rk;rw[h]
def Asc(f:CM->Int)(xs:Array CM)(n:Nat):Prop:=∀i j,i<j->j<n->Rk f xs i<Rk f xs j
def Dsc(f:CM->Int)(xs:Array CM)(n:Nat):Prop:=∀i j,i<j->j<n->Rk f xs j<Rk f xs i
theorem Asc.snoc{f:CM->Int}{xs:Array CM}{n:Nat}(h:Asc f xs n)(h1:1<=n)(hl:Rk f xs (n-1)<Rk f xs n):Asc f xs (n+1):=λi j hij hj=>by
 by_cases e:j=n
 ·subst e;by_cases e2:i=j-1
  ·subst e2;exact hl
  have:=h i (j-1) ω ω;omega
 exact h i j hij ω
theorem Dsc.snoc{f:CM->Int}{xs:Array CM}{n:Nat}(h:Dsc f xs n)(h1:1<=n)(hl:Rk f xs n<Rk f xs (n-1)):Dsc f xs (n+1):=λi j hij hj=>by
 by_cases e:j=n
 ·subst e;by_cases e2:i=j-1
  ·subst e2;exact hl
  have:=h i (j-1) ω ω;omega
 exact h i j hij ω
theorem Dsc.mirror{f:CM->Int}{xs:Array CM}{n:Nat}(h:Dsc f xs n)(hn:n<=xs.size):Asc f (mirror xs 0 n ((n-0)/2)) n:=λi j hij hj=>by
 have e1:=getElem?_mirror_all (i:=0) hn i;have e2:=getElem?_mirror_all (i:=0) hn j;rw[if_pos ⟨DJ _,ω⟩] at e1 e2;rw[Rk.at e1,Rk.at e2];exact h _ _ ω ω
structure RB(a₀:Array CM)(st:D3):Prop where
 kind:kindOf st=uE
 perm:(Cc st).toList.Perm a₀.toList
 fail:KB st=Is
 pend:CC st=#[]
theorem RB.size{a₀:Array CM}{st:D3}(h:RB a₀ st):(Cc st).size=a₀.size:=by
 have:=h.perm.length_eq;simpa using this
theorem RB.set{a₀ xs:Array CM}{st:D3}(h:RB a₀ st)(hp:xs.Perm (Cc st)):RB a₀ (setArr st xs):=
 ⟨h.kind,(Array.perm_iff_toList_perm.mp hp).trans h.perm,h.fail,h.pend⟩
section
variable {prog:AR}{w:A9}{s:AA}{A:A5}{E:Ap->AA->Prop}{a₀:Array CM}{f:CM->Int}
def Asks(prog:AR)(w:A9)(A:A5)(E:Ap->AA->Prop)(s:AA)(a₀:Array CM)(f:CM->Int):Prop:=
 ∀(st:D3)(x y:CM)(Q:Option Bool->D3->Prop),kindOf st=uE->x∈a₀.toList->y∈a₀.toList->f x≠f y->Q (GT (decide (f x<f y))) st->wpS (AJ prog w) A E s (lt' x y) Q st
theorem Ik{st:D3}{i j:Nat}(hB:RB a₀ st)(hf:(a₀.toList.map f).Nodup)(hi:i<a₀.size)(hj:j<a₀.size)(hij:i≠j):Rk f (Cc st) i≠Rk f (Cc st) j:=by
 have hn:((Cc st).toList.map f).Nodup:=(hB.perm.map f).nodup_iff.mpr hf;have hz:=hB.size;have e1:(Cc st)[i]?=GT (Cc st)[i]:=getElem?_pos _ i ω;have e2:(Cc st)[j]?=GT (Cc st)[j]:=getElem?_pos _ j ω;unfold Rk;rw[e1,e2];show f _≠f _;intro e;refine hij ((List.getElem_inj (xs:=(Cc st).toList.map f) (i:=i) (j:=j) (h₀:=by simp;omega) (h₁:=by simp;omega) hn).mp ?_);simpa using e
theorem ltR{st:D3}{i' j':Nat}{Q:Option Bool->D3->Prop}(O:Asks prog w A E s a₀ f)(hf:(a₀.toList.map f).Nodup)(hB:RB a₀ st)(i j:Nat)(ei:i'=i)(ej:j'=j)(hi:i<a₀.size)(hj:j<a₀.size)(hij:i≠j)
  (h:Q (GT (decide (Rk f (Cc st) i<Rk f (Cc st) j))) st):wpS (AJ prog w) A E s (ltAt' i' j') Q st:=by
 subst ei;subst ej;have hz:=hB.size;have hne:=Ik hB hf hi hj hij;rw[ltAt'_eq];refine CI (wpS_get ?_);refine CI (Qj ω λp hp=>?_);refine CI (Qj ω λq hq=>?_);have mp:p∈a₀.toList:=hB.perm.mem_iff.mp (by simpa using Array.mem_of_getElem? hp);have mq:q∈a₀.toList:=hB.perm.mem_iff.mp (by simpa using Array.mem_of_getElem? hq);unfold Rk at h hne;rw[hp,hq] at h hne;exact O st p q Q hB.kind mp mq hne h
theorem adp{st:D3}{Q:Option Nat->D3->Prop}(O:Asks prog w A E s a₀ f)(hf:(a₀.toList.map f).Nodup)(hB:RB a₀ st)(nrem:Nat)(en:nrem=a₀.size)(h1:1<=nrem)
  (h:∀n st',1<=n->n<=nrem->RB a₀ st'->Asc f (Cc st') n->Q (GT n) st'):wpS (AJ prog w) A E s (countRun' 0 nrem) Q st:=by
 refine CI (LX (He (I:=λx c z=>z=st/\c=(Is,x)/\Asc f (Cc st) x) (Q:=λc z=>z=st/\∃n,c=(Is,n)/\1<=n/\n<=nrem/\Asc f (Cc st) n/\(n<nrem->Rk f (Cc st) n<Rk f (Cc st) (n-1))) ?_ ?_ ⟨rfl,rfl,λi j _ _=>ω⟩) ?_)
 ·rintro x c z h1x hx ⟨rfl,rfl,ha⟩;dsimp only;refine CI (ltR O hf hB x (x-1) ω ω ω ω ω ?_);by_cases e:Rk f (Cc z) x<Rk f (Cc z) (x-1)
  ·rw[decide_eq_true e];exact D1 ⟨rfl,x,rfl,h1x,ω,ha,λ_=>e⟩
  rw[decide_eq_false e];have:=Ik hB hf (i:=x) (j:=x-1) ω ω ω;exact D1 ⟨rfl,rfl,ha.snoc h1x ω⟩
 ·rintro c z ⟨rfl,rfl,ha⟩;exact⟨rfl,_,rfl,ω,ω,(by rw[Lc h1] at ha;rw[Lc h1];exact ha),λq=>ω⟩
 rintro c z ⟨rfl,n,rfl,k1,k2,ha,hx⟩;dsimp only;by_cases he:(n == nrem)=true
 ·rw[if_pos he];exact D1 (h n z k1 k2 hB ha)
 rw[if_neg he];have k3:n<nrem:=by have:¬(n=nrem):=(by simpa using he);omega
 by_cases hg:n>1
 ·rw[if_pos hg];refine CI (ltR O hf hB 0 (n-1) Z ω ω ω ω ?_);rw[decide_eq_true (ha 0 (n-1) ω ω)];exact D1 (h n z k1 k2 hB ha)
 rw[if_neg hg];have e1:n=1:=ω;subst e1;have hd:Dsc f (Cc z) 2:=λi j hij hj=>by
  have:i=0:=by omega
  have:j=1:=by omega
  subst i;subst j;exact hx k3
 refine CI (wpS_lift (CY (AC Z ?_)));refine CI (LX (He (I:=λx c z'=>z'=z/\c=(Is,x,0)/\Dsc f (Cc z) x) (Q:=λc z'=>z'=z/\∃n,c=(Is,n,0)/\2<=n/\n<=nrem/\Dsc f (Cc z) n) ?_ ?_ ⟨rfl,rfl,hd⟩) ?_)
 ·rintro x c z' h2x hx2 ⟨rfl,rfl,hd⟩;dsimp only;refine CI (ltR O hf hB x (x-1) ω ω ω ω ω ?_);have hne:=Ik hB hf (i:=x) (j:=x-1) ω ω ω;by_cases e:Rk f (Cc z') x<Rk f (Cc z') (x-1)
  ·rw[decide_eq_true e];dsimp only;rw[if_pos rfl,if_neg δ];exact D1 ⟨rfl,rfl,hd.snoc ω e⟩
  rw[decide_eq_false e];dsimp only;rw[if_neg (AZ)];refine CI (ltR O hf hB (x-1) x ω ω ω ω ω ?_);have hlt:Rk f (Cc z') (x-1)<Rk f (Cc z') x:=ω;rw[decide_eq_true hlt];exact D1 ⟨rfl,x,rfl,h2x,ω,hd⟩
 ·rintro c z' ⟨rfl,rfl,hd⟩;rw[Lc ω] at hd |-;exact⟨rfl,_,rfl,ω,AU _,hd⟩
 rintro c z' ⟨rfl,n,rfl,q1,q2,hd⟩;dsimp only;rw[if_neg δ];have hz:=hB.size;apply CI;apply wpS_reverse;have hB':RB a₀ (setArr z' (mirror (Cc z') 0 (0+n) ((0+n-0)/2))):=hB.set (mirror_perm _ _ _ _);have ha':Asc f (Cc (setArr z' (mirror (Cc z') 0 (0+n) ((0+n-0)/2)))) n:=by
  have:=hd.mirror ω;rw[zero_add];exact this
 generalize setArr z' (mirror (Cc z') 0 (0+n) ((0+n-0)/2))=st2 at hB' ha' |-;refine CI (LX (He (I:=λx c z=>z=st2/\c=(Is,x)/\Asc f (Cc st2) x) (Q:=λc z=>z=st2/\∃n,c=(Is,n)/\1<=n/\n<=nrem/\Asc f (Cc st2) n) ?_ ?_ ⟨rfl,rfl,ha'⟩) ?_)
 ·rintro x c z h1x hx ⟨rfl,rfl,ha⟩;dsimp only;refine CI (ltR O hf hB' x (x-1) ω ω ω ω ω ?_);by_cases e:Rk f (Cc z) x<Rk f (Cc z) (x-1)
  ·rw[decide_eq_true e];exact D1 ⟨rfl,x,rfl,ω,ω,ha⟩
  rw[decide_eq_false e];have:=Ik hB' hf (i:=x) (j:=x-1) ω ω ω;exact D1 ⟨rfl,rfl,ha.snoc ω ω⟩
 ·rintro c z ⟨rfl,rfl,ha⟩;rw[Lc ω] at ha |-;exact⟨rfl,_,rfl,ω,AU _,ha⟩
 rintro c z ⟨rfl,n,rfl,k1,k2,ha⟩;exact D1 (h n z k1 k2 hB' ha)
end
end SRT
namespace SRT
open PySem PyProof.Rows
theorem Nz{f:CM->Int}{xs:Array CM}{k l:Nat}(h:Asc f xs k)(hk:k<xs.size)(hl:l<=k)(h1:∀i,i<l->Rk f xs i<Rk f xs k)(h2:∀i,l<=i->i<k->Rk f xs k<Rk f xs i):Asc f (bubble xs k (k-l)) (k+1):=by
 have g:∀i,Rk f (bubble xs k (k-l)) i=if i=l then Rk f xs k else if l<i/\i<=k then Rk f xs (i-1) else Rk f xs i:=λi=>by
  have e:=getElem?_bubble hk (k-l) ω i;rw[show k-(k-l)=l by omega] at e;split
  ·rename_i c;rw[if_pos c] at e;exact Rk.at e
  rename_i c;rw[if_neg c] at e;split
  ·rename_i c2;rw[if_pos c2] at e;exact Rk.at e
  rename_i c2;rw[if_neg c2] at e;exact Rk.at e
 intro i j hij hj;rw[g i,g j];by_cases a1:i=l
 ·rw[if_pos a1,if_neg ω,if_pos ω];exact h2 _ ω ω
 rw[if_neg a1];by_cases a2:l<i/\i<=k
 ·rw[if_pos a2,if_neg ω,if_pos ω];exact h _ _ ω ω
 rw[if_neg a2];by_cases b1:j=l
 ·rw[if_pos b1];exact h1 _ ω
 rw[if_neg b1];by_cases b2:l<j/\j<=k
 ·rw[if_pos b2];by_cases c:i=j-1
  ·omega
  exact h _ _ ω ω
 rw[if_neg b2];exact h _ _ ω ω
section
variable {prog:AR}{w:A9}{s:AA}{A:A5}{E:Ap->AA->Prop}{a₀:Array CM}{f:CM->Int}
theorem aeT{st:D3}{n ok:Nat}{Q:Bool->D3->Prop}(O:Asks prog w A E s a₀ f)(hf:(a₀.toList.map f).Nodup)(hB:RB a₀ st)(hn:n<=a₀.size)(hok:1<=ok)(hon:ok<=n)(ha:Asc f (Cc st) ok)
  (h:∀st',RB a₀ st'->Asc f (Cc st') n->Q true st'):wpS (AJ prog w) A E s (binarySort' 0 n ok) Q st:=by
 have hm:max ok 1=ok:=ω;refine CI (LX (He (I:=λx c z=>RB a₀ z/\c=(Is,())/\Asc f (Cc z) x) (Q:=λc z=>RB a₀ z/\c=(Is,())/\Asc f (Cc z) n) ?_ (λc z hh=>by rw[hm,Lc hon] at hh;exact hh) ⟨hB,rfl,by rw[hm];exact ha⟩) ?_)
 ·rintro k c z hk1 hk ⟨hz,rfl,hk2⟩;dsimp only;have hsz:=hz.size;refine CI (LX (He (I:=λx c z'=>z'=z/\∃l r,c=(Is,l,r)/\l<=r/\r<=k/\r-l<=k-x/\(∀i,i<l->Rk f (Cc z) i<Rk f (Cc z) k)/\(∀i,r<=i->i<k->Rk f (Cc z) k<Rk f (Cc z) i)) (Q:=λc z'=>z'=z/\∃l,c=(Is,l,l)/\l<=k/\(∀i,i<l->Rk f (Cc z) i<Rk f (Cc z) k)/\(∀i,l<=i->i<k->Rk f (Cc z) k<Rk f (Cc z) i)) ?_ ?_ ⟨rfl,0,k,rfl,DJ _,AU _,AU _,λi hi=>ω,λi h1 h2=>ω⟩) ?_)
  ·rintro x c z' _ hx ⟨rfl,l,r,rfl,q1,q2,q3,q4,q5⟩;dsimp only;by_cases hl:l≥r
   ·rw[if_pos hl];have:l=r:=by omega
    subst this;exact D1 ⟨rfl,l,rfl,q2,q4,q5⟩
   rw[if_neg hl];refine CI (ltR O hf hz k ((l+r)/2) ω ω ω ω ω ?_);have hne:=Ik hz hf (i:=k) (j:=(l+r)/2) ω ω ω;by_cases e:Rk f (Cc z') k<Rk f (Cc z') ((l+r)/2)
   ·rw[decide_eq_true e];refine D1 ⟨rfl,l,(l+r)/2,rfl,ω,ω,ω,q4,λi h1 h2=>?_⟩;by_cases c:i=(l+r)/2
    ·rw[c];exact e
    have:=hk2 ((l+r)/2) i ω h2;omega
   rw[decide_eq_false e];refine D1 ⟨rfl,(l+r)/2+1,r,rfl,ω,q2,ω,λi h1=>?_,q5⟩;by_cases c:i=(l+r)/2
   ·rw[c];omega
   have:=hk2 i ((l+r)/2) ω ω;omega
  ·rintro c z' ⟨rfl,l,r,rfl,q1,q2,q3,q4,q5⟩;have:l=r:=by omega
   subst this;exact⟨rfl,l,rfl,q2,q4,q5⟩
  rintro c z' ⟨rfl,l,rfl,q2,q4,q5⟩;dsimp only;refine CI (wpS_modify (D1 ⟨hz.set (bubble_perm _ _ _),rfl,?_⟩));have:=Nz hk2 ω q2 q4 q5;show Asc f (bubble (Cc z') (0+k) (0+k-(0+l))) (k+1);rw[zero_add,zero_add];exact this
 rintro c z ⟨hz,rfl,hk⟩;exact D1 (h z hz hk)
theorem adK{st:D3}{Q:Unit->D3->Prop}(O:Asks prog w A E s a₀ f)(hf:(a₀.toList.map f).Nodup)(hB:RB a₀ st)(h1:1<=a₀.size)(h64:a₀.size<64)
  (h:∀st',(Cc st').toList.Perm a₀.toList->KB st'=Is->Asc f (Cc st') a₀.size->Q () st'):wpS (AJ prog w) A E s sortRuns' Q st:=by
 refine CI (wpS_get ?_);dsimp only;have hs:=hB.size;dsimp only [Cc] at hs;simp only[hs];have hmr:(sortPriv% PySem.Builtin.minRun) a₀.size a₀.size 0=a₀.size:=by
  obtain⟨k,hk⟩:∃k,a₀.size=k+1:=⟨a₀.size-1,ω⟩;have:minRun' (k+1) a₀.size 0=a₀.size:=by
   rw[minRun'_succ,if_pos h64];rfl
  rw[<- hk] at this;exact this
 rw[hmr];refine CI (LX (He (I:=λx c z=>(x=0/\c=(Is,0)/\RB a₀ z)\/(c=(Is,a₀.size)/\(Cc z).toList.Perm a₀.toList/\KB z=Is/\(CC z).size=1/\Asc f (Cc z) a₀.size)) (Q:=λc z=>c=(Is,a₀.size)/\(Cc z).toList.Perm a₀.toList/\KB z=Is/\(CC z).size=1/\Asc f (Cc z) a₀.size) ?step ?fin (.inl ⟨rfl,rfl,hB⟩)) ?post)
 case fin=>
  rintro c z (⟨hx,_,_⟩|hD)
  ·omega
  exact hD
 case step=>
  rintro x c z _ hx (⟨rfl,rfl,hz⟩|⟨rfl,d1,d2,d3,d4⟩)
  ·dsimp only;rw[if_neg ω];refine CI (adp O hf hz _ (sub_zero _) ω λn z' n1 n2 hz' ha=>?_);dsimp only;have fin:∀z':D3,RB a₀ z'->Asc f (Cc z') a₀.size->∀m,m=a₀.size->(Cc (K2 z' ((CC z').push (0,m,0)))).toList.Perm a₀.toList/\KB (K2 z' ((CC z').push (0,m,0)))=Is/\(CC (K2 z' ((CC z').push (0,m,0)))).size=1/\Asc f (Cc (K2 z' ((CC z').push (0,m,0)))) a₀.size:=λz' hz' ha m hm=>
    ⟨hz'.perm,hz'.fail,(by show((CC z').push _).size=1;rw[hz'.pend];rfl),ha⟩
   by_cases hlt:n<a₀.size
   ·rw[if_pos hlt];refine CI (wpS_lift (CY (AC Z ?_)));refine CI (aeT O hf hz' (show min (a₀.size-0) a₀.size<=a₀.size by omega) n1 ω ha λz2 hz2 ha2=>?_);rw[if_neg (show ¬((!true)=true) by decide)];refine CI (wpS_get ?_);have hp2:(CC z2).back?=Is:=by rw[hz2.pend];rfl
    rw[show min (a₀.size-0) a₀.size=a₀.size by omega] at ha2;dsimp only [CC] at hp2;rw[hp2];refine CI (wpS_modify (D1 (.inr ⟨?_,fin z2 hz2 ha2 _ ω⟩)));rw[show 0+min (a₀.size-0) a₀.size=a₀.size by omega]
   rw[if_neg hlt];have e:n=a₀.size:=ω;refine CI (wpS_get ?_);have hp2:(CC z').back?=Is:=by rw[hz'.pend];rfl
   dsimp only [CC] at hp2;rw[hp2];refine CI (wpS_modify (D1 (.inr ⟨?_,fin z' hz' (e ▸ ha) _ e⟩)));rw[zero_add,e]
  dsimp only;rw[if_pos (AU _)];exact D1 ⟨rfl,d1,d2,d3,d4⟩
 case post=>
  rintro c z ⟨rfl,d1,d2,d3,d4⟩;dsimp only;refine CI (LX (He (I:=λ_ c z'=>c=(Is,())/\z'=z) (Q:=λc z'=>c=(Is,())/\z'=z) ?_ (λ_ _ hh=>hh) ⟨rfl,rfl⟩) ?_)
  ·rintro x c z' _ _ ⟨rfl,rfl⟩;refine CI (wpS_get ?_);refine YG (λ_=>D1 ⟨rfl,rfl⟩) λhg=>?_;have hg2:¬(CC z').size<=1:=hg;omega
  rintro c z' ⟨rfl,rfl⟩;exact D1 (h z' d1 d2 d4)
end
end SRT
namespace SRT
open PySem PyProof.Rows
section
variable {prog:AR}{w:A9}{s:AA}{A:A5}{E:Ap->AA->Prop}
theorem XM{v:Ap}{a k:Int}{Q:Option Ap->AA->Prop}(h:TK s v a k)(q:∀t,Q (GT (.int a t)) s):AG (AJ prog w) A (firstOfTuple' v) Q E s:=by
 obtain⟨p,o,n,t,u,z,rfl,ho,hc,hs⟩:=h;show AG _ _ (typeOf (.ref p) >>= λty=>_) _ _ s;refine An (E9 (T := "tuple") (show s.TypeIs (.ref p) "tuple" from⟨o,ho,hc⟩) ?_);rw[if_neg δ];exact An (Hd ho hs (Au (q t)))
theorem Et:∀{vs:List Ap}{Q:List (Option Ap)->AA->Prop},(∀v∈vs,∃a k,TK s v a k)->(∀(ws:List Ap)(ns:List Int),Fu ws ns->ws.length=vs.length->Q (ws.map GT) s)->AG (AJ prog w) A (vs.mapM firstOfTuple') Q E s
 | [],Q,_,q=>by
  rw[List.mapM_nil];exact Au (q [] [] .nil Z)
 | v::vs,Q,h,q=>by
  rw[List.mapM_cons];obtain⟨a,k,hv⟩:=h v (A7 ..);refine An (XM hv λt=>?_);refine An (Et (vs:=vs) (λx hx=>h x (BE _ hx)) λws ns hI hl=>?_);exact Au (q (.int a t::ws) (a::ns) (.cons a t hI) (by rw[C7,C7,hl]))
theorem T9{v:Ap}{vs:List Ap}{ns:List Int}(hI:Fu (v::vs) ns):oneTypeOnly' (v::vs).toArray=pure (GT (.type "int")):=by
 simp only[oneTypeOnly'_eq,List.mapM_toArray,mapM_typeOf_ints hI,map_pure,pure_bind,CB,HM,GU];rw[if_pos ?_];rw[List.all_toArray,all_cons];have e:(EQ "int" == EQ "int")=true:=rfl;rw[e,GB,all_map];exact LD.mpr λ_ _=>rfl
theorem aaW{vs:List Ap}{Q:SortKind->AA->Prop}(h:∀v∈vs,∃a k,TK s v a k)(hn:1<=vs.length)(q:Q uE s):AG (AJ prog w) A (keyKind' vs.toArray) Q E s:=by
 rw[keyKind'_eq];rw[List.mapM_toArray];rw[map_eq_pure_bind];refine An (An (Et h λws ns hI hl=>Au ?_));have ha:(ws.map GT).toArray.all (·.isSome)=true:=by simp
 rw[if_pos ha];have hfm:(ws.map GT).toArray.filterMap id=ws.toArray:=by simp[filterMap_map]
 rw[hfm];cases ws with
 | nil=>rw[<- hl] at hn;cases hn
 | cons v ws=>
  rw[T9 hI];refine An (CY ?_);exact An (Au (Au q))
structure BX(s:AA)(g:Ap->Int)(vs:List Ap):Prop where
 tk:∀v∈vs,∃a k,TK s v a k/\0<=k/\k<64/\g v=64*a+k
 nd:(vs.map g).Nodup
theorem W7{a k b l:Int}(h1:0<=k)(h2:k<64)(h3:0<=l)(h4:l<64):acZ a k b l=decide (64*a+k<64*b+l):=decide_eq_decide.mpr ω
theorem zP{vs:List Ap}{p:CM}(h:p∈(FY vs).toList):p.1∈vs/\p.2=p.1:=by
 unfold FY at h;rw[Array.toList_zip] at h;obtain⟨i,hi,rfl⟩:=List.getElem_of_mem h;simp
theorem Rx(vs:List Ap):(FY vs).toList.map (·.1)=vs:=by
 unfold FY;simp[List.map_fst_zip]
theorem abo{g:Ap->Int}{vs:List Ap}(h:BX s g vs):Asks prog w A E s (FY vs) λp=>g p.1:=by
 intro st x y Q hk hx hy hne q;obtain⟨a,k,h1,h2,h3,e1⟩:=h.tk x.1 (zP hx).1;obtain⟨b,l,h4,h5,h6,e2⟩:=h.tk y.1 (zP hy).1;rw[lt'_eq];refine CI (wpS_get ?_);rw[hk];refine CI (wpS_lift (De ?_));by_cases hkl:k=l
 ·-- the same second number: the first are unlike
  subst hkl;obtain⟨p,o,n,t,u,z,e,ho,hc,hs⟩:=h1;obtain⟨p',o',n',t',u',z',e',ho',hc',hs'⟩:=h4;have hab:a≠b:=λz=>hne (by show g x.1=g y.1;rw[e1,e2,z]);rw[e,e'];show AG _ _ (AI.List.listItems (.ref p) >>= λxs=>AI.List.listItems (.ref p') >>= _) _ _ s;refine An (Hd ho hs ?_);refine An (Hd ho' hs' ?_);show AG _ _ (forIn [((DO a t,DO b t'),0),((DO k u,DO k u'),1),((z,z'),2)] _ _ >>= _) _ _ s;rw[DI];refine An (An (An (JO ?_)));rw[beq_false_of_ne hab];refine An (oneLt_int (Au (Au (Au ⟨rfl,D1 ?_⟩))));have:decide (a<b)=decide (g x.1<g y.1):=decide_eq_decide.mpr ω;rw[this];exact q
 refine Xc h1 h4 hkl ⟨rfl,D1 ?_⟩;rw[W7 h2 h3 h5 h6,<- e1,<- e2];exact q
end
end SRT
namespace SRT
open PySem PyProof.Rows
section
variable {prog:AR}{w:A9}{s:AA}{A:A5}{E:Ap->AA->Prop}
theorem BX.keep{g:Ap->Int}{vs:List Ap}{s':AA}(h:BX s g vs)(k:∀q o,s.heap.get? q=GT o->o.cls=.type "tuple" -> s'.heap.get? q=GT o):BX s' g vs:=
 ⟨λv hv=>by
  obtain⟨a,b,⟨q,o,n,t,u,z,e,ho,hc,hs⟩,r⟩:=h.tk v hv;exact⟨a,b,⟨q,o,n,t,u,z,e,k q o ho hc,hc,hs⟩,r⟩,h.nd⟩
theorem Tz{g:Ap->Int}{vs:List Ap}{xs:Array CM}(hp:xs.toList.Perm (FY vs).toList)(h:Asc (λp=>g p.1) xs (FY vs).size):((xs.map (·.2)).toList.map g).Pairwise (· < ·):=by
 have hz:xs.size=(FY vs).size:=by
  have:=hp.length_eq;simpa using this
 refine List.pairwise_iff_getElem.mpr λi j hi hj hij=>?_;have hix:i<xs.size:=by simpa using hi
 have hjx:j<xs.size:=by simpa using hj
 have e:∀(k:Nat)(hk:k<xs.size),g xs[k].2=Rk (λp=>g p.1) xs k:=λk hk=>by
  have m:xs[k]∈(FY vs).toList:=hp.mem_iff.mp ζ;unfold Rk;rw[getElem?_pos xs k hk];show g _=g _;rw[(zP m).2]
 have a1:=h i j hij ω;rw[<- e i hix,<- e j hjx] at a1;simpa using a1
theorem acX{a:ID}{vs:List Ap}{n:Nat}{P:Fin->AA->Prop}{g:Ap->Int}(ho:s.heap.get? a=GT (F9 "list" vs.toArray n))(hR:BX s g vs)
  (hlen:vs.length<64)(h:∀xs:Array Ap,xs.toList.Perm vs->(xs.toList.map g).Pairwise (· < ·)->P (.done (.ret .none)) { s with heap:=sortedHeap s.heap a vs xs }):AG (AJ prog w) A (AI.«list.sort» ⟨[.ref a],[]⟩) P E s:=by
 rw[list_sort_plain];have la:a<s.heap.objs.size:=AY ho;refine An (Hd ho Z (An (listUpdate_at ho Z ?_)));obtain⟨e,he⟩:∃e,(s.heap.update a (Ch λ_=>#[])).get? a=GT (F9 "list" #[] e):=⟨_,get?_update_seq ho λ_=>#[]⟩;refine An (seqEpoch_at he Z (An (EZ (An (wpAny_newList (BH ?_))))));have h6:(((s.heap.update a (Ch λ_=>#[])).push (F9 "tuple" vs.toArray 0)).push (F9 "list" #[] 0)).get? a=GT (F9 "list" #[] e):=by
  rw[Heap.get?_push_ne _ _ _ (by rw[size_push',size_update];exact B5 (Nat.le_succ_of_le la)),Heap.get?_push_ne _ _ _ (by rw[size_update];exact B5 la),he]
 have hR6:BX { s with heap:=((s.heap.update a (Ch λ_=>#[])).push (F9 "tuple" vs.toArray 0)).push (F9 "list" #[] 0) } g vs:=hR.keep λq o hq hc=>by
  have hne:q≠a:=λz=>by
   rw[z,ho] at hq;cases hq;exact absurd (show EQ "list" = EQ "tuple" from hc) δ
  exact AB _ (AB _ ((CH _ _ (BC hne)).trans hq))
 show AG _ A _ P E { s with heap:=((s.heap.update a (Ch λ_=>#[])).push (F9 "tuple" vs.toArray 0)).push (F9 "list" #[] 0) };dsimp only;by_cases h2:(vs.toArray.size<2)
 ·rw[if_pos h2,if_pos h2];refine(An (Au ?_));rw[StateT.run_pure];refine An (Au (An (seqEpoch_at h6 Z (An (listUpdate_at h6 Z ?_ (hsz2:=?z))))))
  case z=>rw[Array.size_map];show(FY vs).size<=_;rw[pairsOf_size,IZ];omega
  simp only[Fm,bne_self_eq_false,if_false];have e0:((vs.toArray.zip vs.toArray).map (·.2)).toList=vs:=by rw[show(vs.toArray.zip vs.toArray).map (·.2)=(FY vs).map (·.2) from rfl,Ej]
  refine Au (h _ (by rw[e0]) ?_);rw[e0]
  match vs,h2 with
  | [],_=>exact .nil
  | [v],_=>exact KF _ _
  | _::_::t,h2=>exact absurd h2 ζ
 rw[if_neg h2,if_neg h2];refine An (aaW (λv hv=>?_) (by simp at h2;omega) ?_)
 ·obtain⟨a,k,t,_⟩:=hR6.tk v hv;exact⟨a,k,t⟩
 refine An (Bz (adK (a₀:=FY vs) (f:=λp=>g p.1) (st:=D3.mk' uE (vs.toArray.zip vs.toArray) #[] 7 Is) (Q:=λ_ z=>(Cc z).toList.Perm (FY vs).toList/\KB z=Is/\Asc (λp=>g p.1) (Cc z) (FY vs).size) (abo hR6) ?nd ⟨rfl,FB.refl _,rfl,rfl⟩ (by rw[pairsOf_size];simp at h2;omega) (by rw[pairsOf_size];exact hlen) λz d1 d2 d3=>⟨d1,d2,d3⟩) ?_ λ_ _ e=>e)
 case nd=>
  have:=hR.nd;rw[<- Rx vs,Hm] at this;exact this
 rintro⟨⟨⟩,z⟩ s' ⟨rfl,d1,d2,d3⟩;have hm:((Cc z).map (·.2)).toList.Perm vs:=by
  have:=d1.map (·.2);rw[<- toList_map,<- toList_map,Ej] at this;exact this
 refine An (seqEpoch_at h6 Z (An (listUpdate_at h6 Z ?_ (hsz2:=?z))))
 case z=>
  have:=hm.length_eq;rw[EF] at this;show((Cc z).map (·.2)).size<=_;rw[this,IZ];omega
 dsimp only;rw[d2];simp only[Fm,bne_self_eq_false,if_false];exact Au (h _ hm (Tz d1 d3))
theorem Y9{l:ID}{vs:List Ap}{Q:Ap->AA->Prop}{g:Ap->Int}(hl:s.heap.IsList l vs.toArray)(hR:BX s g vs)(hlen:vs.length<64)
  (h:∀xs:Array Ap,xs.toList.Perm vs->(xs.toList.map g).Pairwise (· < ·)->Q (.ref (s.heap.objs.size+1)) { s with heap:=sortedAll s.heap vs xs }):AG (AJ prog w) A (call (.builtin "sorted") [.ref l]) Q E s:=by
 refine Calls.call_function_entry kind_sorted plain_sorted entry_sorted (args_sorted1 (.ref l)) ?_;unfold AI.«sorted»;refine An (m:=checkCount "sorted" 1 1 _) (Au (An (collect_list hl (An (wpAny_newList ?_)))));have hz:((s.heap.push (F9 "list" #[] 0)).update s.heap.objs.size (Ch (· ++ vs.toArray))).objs.size=s.heap.objs.size+1:=size_update .. |>.trans (size_push' _ _);have hL:(((s.heap.push (F9 "list" #[] 0)).update s.heap.objs.size (Ch (· ++ vs.toArray))).push (F9 "list" vs.toArray 0)).get? (s.heap.objs.size+1)=GT (F9 "list" vs.toArray 0):=hz ▸ AO _ rfl;show AG (AJ prog w) A.in1 _ _ E { s with heap:=((s.heap.push (F9 "list" #[] 0)).update s.heap.objs.size (Ch (· ++ vs.toArray))).push (F9 "list" vs.toArray 0) };rw[hz];refine An (BH (BQ slot_list_sort ⟨_,hL,rfl⟩ entry_list_sort (acX hL (hR.keep λq o hq hc=>?_) hlen λxs hp ho=>⟨_,rfl,Au ⟨_,rfl,h xs hp ho⟩⟩) (args_list_sort _)));have hne:s.heap.objs.size≠q:=λz=>by
  exact B5 (AY hq) z.symm
 exact AB _ ((CH _ _ hne).trans (AB _ hq))
end
end SRT
namespace L2
open PySem PySem.Spec PyProof.Rows
def rkT(key:ID->Int×Int)(p:ID):Int:=64*(key p).1+(key p).2
def adL:List V->Hp->VK->Prop:=λvs H Q=>∃(l:ID)(ps:List ID)(key:ID->Int×Int),vs=[.ref l]/\H l=GT (.lst (ps.map AS))/\ps.length<64 /\
 (∀p∈ps,(∃v,H p=GT (.tup [.int (key p).1,.int (key p).2,v]))/\0<=(key p).2/\(key p).2<64)/\(ps.map (rkT key)).Nodup /\
 ∀(d:ID)(qs:List ID),H d=Is->qs.Perm ps->(qs.map (rkT key)).Pairwise (· < ·)->Q (.ref d) (upd H d (.lst (qs.map AS)))
theorem Dl:∀{ps:List ID}{us:List Ap},Vals (ps.map AS) us->us=ps.map Do
 | [],_,h=>by cases h;rfl
 | p::ps,_,h=>by
  cases h with
  | cons r h=>
   cases r;rw[Dl h];rfl
theorem Eg:∀(ps:List ID),Vals (ps.map AS) (ps.map Do)
 | []=>.nil
 | p::ps=>.cons rfl (Eg ps)
def rkV(key:ID->Int×Int):Ap->Int
 | .ref p=>rkT key p
 | _=>0
theorem Rv:∀{xs:List Ap}{ps:List ID},xs.Perm (ps.map Do)->∃qs:List ID,xs=qs.map Do/\qs.Perm ps:=λ{xs ps} h=>by
 have hx:∀v∈xs,∃p,v=Do p:=λv hv=>by
  obtain⟨p,_,e⟩:=DD.mp (h.mem_iff.mp hv);exact⟨p,e.symm⟩
 obtain⟨qs,rfl⟩:∃qs:List ID,xs=qs.map Do:=by
  clear h
  induction xs with
  | nil=>exact⟨[],rfl⟩
  | cons v xs ih=>
   obtain⟨p,rfl⟩:=hx v (A7 ..);obtain⟨qs,rfl⟩:=ih λx m=>hx x (BE _ m);exact⟨p::qs,rfl⟩
 refine⟨qs,rfl,?_⟩;have:=h.filterMap λv=>match v with | .ref p=>GT p|_=>Is
 simpa [filterMap_map,Function.comp_def] using this
section
variable {X:Cx}
theorem Nj:gq X (.builtin "sorted") adL:=by
 intro pins s σ H xs us Q I rv h;obtain⟨l,ps,key,rfl,el,hl,hp,hnd,q⟩:=h;cases rv with
 | cons r rr=>
  cases rr;cases r;obtain⟨its,rl,pl,hz⟩:=I.list (SqL.of el);have e:=Dl rl;subst e;have hg:(λv=>rkV key v)∘Do=rkT key:=rfl;refine SRT.Y9 (g:=rkV key) pl.isList ⟨λv hv=>?_,?_⟩ (by rw[AE];exact hl) λys hy ho=>?_
  ·obtain⟨p,hm,rfl⟩:=DD.mp hv;obtain⟨⟨v,ep⟩,k1,k2⟩:=hp p hm;obtain⟨ts,rt,pt,_⟩:=I.tuple (SqT.of ep);obtain⟨ob,g1,g2,n,g3⟩:=pt;cases rt with
   | cons r1 rt=>
    cases rt with
    | cons r2 rt=>
     cases rt with
     | cons r3 rt=>
      cases rt;obtain⟨t,rfl⟩:=r1;obtain⟨u,rfl⟩:=r2;exact⟨(key p).1,(key p).2,⟨p,ob,n,t,u,_,rfl,g1,g2,g3⟩,k1,k2,rfl⟩
  ·rw[Hm];exact hnd
  obtain⟨qs,e,hq⟩:=Rv hy;rw[e,Hm] at ho;obtain⟨n,he⟩:=sortedAll_at s.heap (ps.map Do) ys;have le:s.heap.objs.size<=s.heap.objs.size+1:=le_succ _;have hf:H (s.heap.objs.size+1)=Is:=I.hok.fresh le;refine⟨.ref (s.heap.objs.size+1),_,I.laid (t':=s.toks) (λc o z=>sortedAll_old z) le (show cD X.prog X.w _ _ _ (.lst (qs.map AS)) from⟨aM (by rw[AE,hq.length_eq];omega),qs.map Do,n,Eg qs,?_⟩),rfl,q _ qs hf hq ho⟩;rw[he];have:ys=(qs.map Do).toArray:=by rw[<- e]
  rw[this]
end
end L2
namespace SRT
open PySem PyProof.Rows
theorem GF:mroOf (.type "reversed")=pure [.type "reversed",.type "object"]:=by rw[mroOf_type];kernel_rfl
theorem aaM:typeLookup (.type "reversed") "__new__" = pure (GT (.builtin "reversed.__new__")):=by rw[GL,E3];kernel_rfl
theorem Ju:Bind.madeBy (.type "reversed")=pure (GT "reversed.__new__"):=madeBy_type GF aaM ψ
theorem Yg(a:Ap):checkTypeCall "reversed" ⟨[a],[]⟩=pure ():=by kernel_rfl
theorem Yk(a:Ap):checkBuiltinCall "reversed.__new__" ⟨[.type "reversed",a],[]⟩=pure ():=by kernel_rfl
theorem Bt:IR table "reversed.__new__" = GT AI.«reversed.__new__»:=HP (by kernel_rfl)
theorem zN:plainId "reversed.__new__" = true:=by decide +kernel
theorem aaK:isSubtype (.type "list_reverseiterator") (.type "reversed")=pure false:=by rw[FC];kernel_rfl
theorem kW:Slot "list_reverseiterator" "__next__" "list_reverseiterator.__next__" :=
 .of (owner := "list_reverseiterator") (n := "__next__") (by rw[GL,E3];kernel_rfl) ψ ψ ψ (by first|exact .inl ψ|exact .inr ψ) (by rw[FC];kernel_rfl)
theorem zx:Slot "list_reverseiterator" "__iter__" "list_reverseiterator.__iter__" :=
 .of (owner := "list_reverseiterator") (n := "__iter__") (by rw[GL,E3];kernel_rfl) ψ ψ ψ (by first|exact .inl ψ|exact .inr ψ) (by rw[FC];kernel_rfl)
theorem xW:IR table "list_reverseiterator.__next__" = GT AI.«list_reverseiterator.__next__»:=HP (by kernel_rfl)
theorem JV:IR table "list_reverseiterator.__iter__" = GT AI.«dict_keyiterator.__iter__»:=LL (id' := "dict_keyiterator.__iter__") (by kernel_rfl) Z ψ (by kernel_rfl)
theorem BR(a:Ap):JI "list_reverseiterator.__next__" ⟨[a],[]⟩:=by unfold JI;kernel_rfl
theorem NP(a:Ap):JI "list_reverseiterator.__iter__" ⟨[a],[]⟩:=by unfold JI;kernel_rfl
def sV(h:Heap)(rt l:ID)(j:Int):Prop:=h.get? rt=GT { cls:=.type "list_reverseiterator",data:=.fields #[.ref l,.int j 0] }
section
variable {prog:AR}{w:A9}{A:A5}{E:Ap->AA->Prop}{s:AA}{rt l:ID}{j:Int}
theorem sV.ty(h:sV s.heap rt l j):s.TypeIs (.ref rt) "list_reverseiterator" := ⟨_,h,rfl⟩
theorem Vk{items:Array Ap}{x:Ap}{Q:Option Ap->AA->Prop}(hI:sV s.heap rt l j)(hl:s.heap.IsList l items)(h0:0<=j)(hx:items[j.toNat]?=GT x)
  (hQ:∀h',sV h' rt l (j-1)->B3 rt s.heap h'->Q (GT x) { s with heap:=h' }):AG (AJ prog w) A (D2 (.ref rt)) Q E s:=by
 obtain⟨oL,hoL,_,nL,hdL⟩:=hl;unfold D2;refine An (De (BM (name:=A8 "__next__") hI.ty kW (BQ kW hI.ty xW ?_ (BR _))));show AG _ _ (Kj (.ref rt) 1 >>= _) _ _ s;refine An (BO hI Z (x:=.int j 0) Z ?_);dsimp only;rw[if_neg ω];refine An (BO hI Z (x:=.ref l) Z ?_);refine An (B4 hoL hdL ?_);dsimp only;rw[hx];refine An (B0 hI ζ λh1 g1 b1=>?_);exact Au ⟨_,rfl,Au (hQ h1 g1 b1)⟩
theorem UG{α:Type}(hh:A.handled=Is){P:α->AA->Prop}{E':Ap->AA->Prop}(h:∀(h':Heap)(e:Ap),(∀c o,s.heap.get? c=GT o->h'.get? c=GT o)->AA.TypeIs { s with heap:=h' } e "StopIteration" -> E' e { s with heap:=h' }) :
  AG (AJ prog w) A (newExc (.type "StopIteration") [] >>= λe=>(raiseNew e:Sem α)) P E' s:=by
 refine An ?_;simp only[newExc,IL];refine An (Be (An (m:=LS _ _) (Cs (a:=Ap.none) (by first|rfl|(simp only[LS];rfl)) ?_)) (by size_fits))
 refine Be ?_ (by size_fits);simp only[raiseNew];refine An (wpAny_handled ?_);rw[hh];exact An (Au (wpAny_throw (h _ (.ref _) (λc o e=>AB _ (AB _ e)) ⟨_,AO _ rfl,rfl⟩)))
theorem Zi{Q:Option Ap->AA->Prop}(hh:A.handled=Is)(hI:sV s.heap rt l j)(h0:j<0)
  (hQ:∀h',Heap.ExtBut rt s.heap h'->Q Is { s with heap:=h' }):AG (AJ prog w) A (D2 (.ref rt)) Q E s:=by
 unfold D2;refine An (De (BM (name:=A8 "__next__") hI.ty kW (BQ kW hI.ty xW ?_ (BR _))));show AG _ _ (Kj (.ref rt) 1 >>= _) _ _ s;refine An (BO hI Z (x:=.int j 0) Z ?_);dsimp only;rw[if_pos h0];refine An (CY ?_);refine An ?_;show AG _ _ (newExc (.type "StopIteration") [] >>= λe=>(raiseNew e:Sem _)) _ _ s;refine UG (show A.in1.handled=Is from hh) λh' e k te=>?_;refine An (EV (T := "StopIteration") (b:=true) te IM ?_);exact Au (hQ h' λb o _ z=>k b o z)
theorem Il{Q:Ap->AA->Prop}(hI:sV s.heap rt l j)(h:Q (.ref rt) s):AG (AJ prog w) A (IH (.ref rt)) Q E s:=by
 refine wpAny_pyIter_slot hI.ty zx (BQ zx hI.ty JV ?_ (NP _));show AG _ _ (ret (.ref rt)) _ _ s;exact Au ⟨_,rfl, "list_reverseiterator",_,hI.ty,kW.lookup,h⟩
end
end SRT
namespace SRT
open PySem PyProof.Rows
theorem Oc:isSubtype (.type "reversed") (.type "reversed")=pure true:=by rw[FC];kernel_rfl
section
variable {prog:AR}{w:A9}{A:A5}{E:Ap->AA->Prop}{s:AA}{l:ID}{items:Array Ap}
theorem Zh{P:PySem.Fin->AA->Prop}(hL:s.heap.IsList l items)(h:P (.done (.ret (.ref s.heap.objs.size))) { s with heap:=s.heap.push { cls:=.type "list_reverseiterator",data:=.fields #[.ref l,.int ((items.size:Int)-1) 0] } }) :
  AG (AJ prog w) A (AI.«reversed.__new__» ⟨[.type "reversed",.ref l],[]⟩) P E s:=by
 have hT:=hL.typeIs;have hs:=Oc;unfold AI.«reversed.__new__»
 wp_walk
 refine Cs Ic.lookup ?_;refine An (Cs (Ic.bind _) ?_);show AG _ _ (rule "reversed.__new__.own-method" >>= _) _ _ s;refine An (CY (An (LP ?_)));obtain⟨oL,ho,_,nL,hd⟩:=hL;refine F8 Ic.plain F.entry_list_reversed (Ic.check _ _ _ _ _ _ _ _ hT (F.args_list_reversed_1 _) ?_);show AG _ _ (AI.List.listItems (.ref l) >>= λxs=>newFields "list_reverseiterator" [.ref l,C0 ((xs.size:Int)-1)] >>= λv=>ret v) _ _ s;exact An (Hd ho hd (An (Be (Au (Au h)))))
theorem Yl{Q:Ap->AA->Prop}(hL:s.heap.IsList l items)(h:Q (.ref s.heap.objs.size) { s with heap:=s.heap.push { cls:=.type "list_reverseiterator",data:=.fields #[.ref l,.int ((items.size:Int)-1) 0] } }) :
  AG (AJ prog w) A (call (.type "reversed") [.ref l]) Q E s:=by
 have hmro:=GF;have hmade:=Ju;have hsub:=aaK;have hct:=Yg (.ref l);refine wpAny_call (GI ?_);show AG _ _ (callAny (.type "reversed") _) _ _ _;refine Au (AC (FI _ ψ) (C5 F.entry_type_call ?_));rw[A5.under_plain (Lo "reversed" [.ref l] []) (units_type_call_type "reversed" [.ref l] [])];have h1:(EQ "reversed" == EQ "type")=false:=by decide +kernel
 have h2:((LY "reversed").bind (·.mro.findSome? λt=>(LY t).bind λb=>if b.noNew then GT true else if b.attrs.any (·.1 == "__new__") then GT false else Is)).getD false=false:=by decide +kernel
 iterate 60 (try any_goals first|assumption|wp_step)
 refine F8 zN Bt (Cs (Yk _) (Zh hL ?_));dsimp only;have hT:AA.TypeIs { s with heap:=s.heap.push { cls:=.type "list_reverseiterator",data:=.fields #[.ref l,.int ((items.size:Int)-1) 0] } } (.ref s.heap.objs.size) "list_reverseiterator" := ⟨_,AO _ rfl,rfl⟩
 iterate 60 (try any_goals first|assumption|wp_step)
end
end SRT
namespace L2
open PySem PySem.Spec PyProof.Rows
def Itv(K:AD)(a:ID)(n:Nat):It:=
 ⟨λi H=>∃xs x,SqL K H a xs/\xs.length=n/\i<n/\xs[n-1-i]?=GT x,λi H x H'=>H'=H/\∀xs,SqL K H a xs->xs[n-1-i]?=GT x,λi H=>n<=i⟩
theorem Ub{P:AR}{w:A9}{K:AD}{tg:Expr}(a it:ID)(n:Nat):Turn P w K tg (Itv K a n) [it] it (λi h=>SRT.sV h it a ((n:Int)-1-i)) where
 mem:=by simp
 obj:=λi h st b hb=>by
  have e:b=it:=by simpa using hb
  subst e;exact⟨_,st,λv z=>by cases z⟩
 keep:=λi h h' st k=>k it ζ _ st
 item:=by
  intro X hP hw hK hc i pins s σ H E I hf st hg;subst hP hw hK;obtain⟨xs,x,hq,hl,hi,hx⟩:=hg;obtain⟨its,rv,p,hz⟩:=I.list hq;obtain⟨u,hu,ru⟩:=rv.get hx;obtain⟨f0,f1,f2,f3,f4,f5⟩:=hf it ζ;refine SRT.Vk st p.isList ω (x:=u) (by rw[show((n:Int)-1-i).toNat=n-1-i by omega];simpa using hu) λh' st' sb=>?_;have I1:Inv X pins σ H { s with heap:=h' }:=I.turned (t':=s.toks) (λb o hb e=>(sb.2 b hb).trans e) f0 f1 f3 f4 f5;have st2:SRT.sV h' it a ((n:Int)-1-((i+1:Nat):Int)):=by
   rw[show(n:Int)-1-((i+1:Nat):Int)=(n:Int)-1-i-1 by omega];exact st'
  exact⟨u,rfl,JB (s:={ s with heap:=h' }) st' Z Z δ ⟨x,H,I1,ru,⟨rfl,λys hy=>by rw[I.qC hy hq];exact hx⟩,st2,λb hb=>(hf b hb).1⟩⟩
 done:=by
  intro X hP hw hK hc i pins s σ H E I hf st hg;subst hP hw hK;replace hg:n<=i:=hg;obtain⟨f0,f1,f2,f3,f4,f5⟩:=hf it ζ;exact SRT.Zi (I.ok.hd hc) st ω λh' eb=>⟨rfl,I.turned (t':=s.toks) (λb o hb e=>eb b o hb e) f0 f1 f3 f4 f5⟩
 self:=λ_ _ _ _ _ st h=>SRT.Il st h
def ac9(K:AD)(ta:TA):TI:=λσ H R=>ta σ H λvs H1=>∃a xs,vs=[.ref a]/\SqL K H1 a xs/\R (Itv K a xs.length) H1
section
variable {X:Cx}{tg:Expr}
theorem acv{a:Expr}{ta:TA}{p pos:Pos}(hg:Gl X "reversed")(hm:X.mg "reversed" = Is)(ha:PA X [a] ta)(hs:AH [a] X.env=[(false,eval a X.env)]:=by rfl):PI X tg (.Call (.Name "reversed" p) [a] [] pos) (ac9 X.K ta):=by
 intro pins s σ H R I h;refine LA (dW I hg hm boot_reversed (A3 (thA (ha pos pins s σ H _ I h) λus s1 vs H1 I1 r1 q1=>?_) hs Z));obtain⟨l,xs,e,g1,q⟩:=q1;subst e;cases r1 with
 | cons r rr=>
  cases rr;cases r;obtain⟨its,rv,p1,hz1⟩:=I1.list g1;have hl:=rv.length;refine SRT.Yl p1.isList ?_;have b1:SRT.sV (s1.heap.push { cls:=.type "list_reverseiterator",data:=.fields #[.ref l,.int ((its.toArray.size:Int)-1) 0] }) s1.heap.objs.size l ((xs.length:Int)-1-((0:Nat):Int)):=by
   have e:=AO s1.heap (o:={ cls:=.type "list_reverseiterator",data:=.fields #[.ref l,.int ((its.toArray.size:Int)-1) 0] }) rfl;unfold SRT.sV;rw[e,show((its.toArray.size:Int)-1)=(xs.length:Int)-1-((0:Nat):Int) by rw[AX];omega]
  refine SRT.Il (s:={ s1 with heap:=_ }) b1 ?_;refine⟨s1.heap.objs.size,[s1.heap.objs.size],_,_,H1,rfl,I1.kept (t':=s1.toks) λb o e=>AB _ e,Ub l _ xs.length,b1,λb hb=>?_,q⟩;have e:b=s1.heap.objs.size:=by simpa using hb
  subst e;exact I1.Dg (AU _) (I1.hok.fresh (AU _))
theorem ab9{a:Expr}{ta:TA}{p pos:Pos}(hg:Gl X "reversed")(hm:X.mg "reversed" = Is)(ha:QA X [a] ta)(hs:AH [a] X.env=[(false,eval a X.env)]:=by rfl):QI X tg (.Call (.Name "reversed" p) [a] [] pos) (ac9 X.K ta):=⟨acv hg hm ha.h hs⟩
theorem aem{K:AD}{a:ID}{xs:List V}{g:TG}{tb:TS}{D:Ends}{σ:St}{H:Hp}{R:It->Hp->Prop}(hR:R=(λJ H1=>∃W:Nat->Nat->St->Hp->Prop,(∃m,W 0 m σ H1)/\∀i m σ H,W i m σ H ->
  (J.stop i H/\D.nx σ H)\/(J.go i H/\∃N:St->Hp->Prop,(∀σ' H',N σ' H'->∃m',m'<m/\W (i+1) m' σ' H')/\∀x H',J.yld i H x H'->g x σ H' λσ2 H2=>tb { D with nx:=N,ct:=N,bk:=D.nx } σ2 H2)))
  (Pv:Nat->St->Hp->Prop)(h0:Pv 0 σ H)(hl:∀i σ H,Pv i σ H->SqL K H a xs)(hs:∀i x σ H,xs.reverse[i]?=GT x->Pv i σ H->g x σ H λσ2 H2=>tb { D with nx:=Pv (i+1),ct:=Pv (i+1),bk:=D.nx } σ2 H2)(hd:∀σ H,Pv xs.length σ H->D.nx σ H):R (Itv K a xs.length) H:=by
 subst hR;refine⟨λi m σ H=>m=xs.length-i/\i<=xs.length/\Pv i σ H,⟨xs.length,by simp,DJ _,h0⟩,?_⟩;rintro i m σ H ⟨rfl,hi,p⟩;have q:=hl i σ H p;by_cases hlt:i<xs.length
 ·have ex:xs[xs.length-1-i]?=GT xs[xs.length-1-i]:=AF ω;refine .inr ⟨⟨xs,_,q,rfl,hlt,ex⟩,Pv (i+1),λσ' H' p'=>⟨xs.length-(i+1),ω,rfl,hlt,p'⟩,λx H' y=>?_⟩;obtain⟨e,y⟩:=y;subst e;refine hs i x σ _ ?_ p;rw[List.getElem?_reverse hlt];exact y xs q
 have e:i=xs.length:=ω;subst e;exact .inl ⟨AU _,hd σ H p⟩
end
theorem vh{α β:Type}(f:α->β):∀(l:List α)(j:Nat),(l.eraseIdx j).map f=(l.map f).eraseIdx j
 | [],_=>rfl
 | _::_,0=>rfl
 | a::l,j+1=>by
  show f a::(l.eraseIdx j).map f=f a::(l.map f).eraseIdx j;rw[vh f l j]
end L2
namespace SRT
open PySem PyProof.Rows
theorem S5(a b c:Ap):checkTypeCall "range" ⟨[a,b,c],[]⟩=pure ():=by kernel_rfl
theorem S8(a b c:Ap):checkBuiltinCall "range.__new__" ⟨[.type "range",a,b,c],[]⟩=pure ():=by kernel_rfl
theorem Sd(obj a b c:Ap):JI "object.__init__" ⟨[obj,a,b,c],[]⟩:=by
 unfold JI;rw[signature?_of (id := "object.__init__") (n:=['_','_','t','i','n','i','_','_']) (o:=['t','c','e','j','b','o']) (by kernel_rfl) F.owner_object];kernel_rfl
theorem nH:Slot "range" "__reversed__" "range.__reversed__" :=
 .of (owner := "range") (n := "__reversed__") (by rw[GL,E3];kernel_rfl) ψ ψ ψ (by first|exact .inl ψ|exact .inr ψ) (by rw[FC];kernel_rfl)
theorem JW:IR table "range.__reversed__" = GT AI.«range.__reversed__»:=HP (by kernel_rfl)
theorem NQ(a:Ap):JI "range.__reversed__" ⟨[a],[]⟩:=by unfold JI;kernel_rfl
theorem RN:isSubtype (.type "range_iterator") (.type "reversed")=pure false:=by rw[FC];kernel_rfl
section
variable {prog:AR}{w:A9}{A:A5}{E:Ap->AA->Prop}{s:AA}
theorem call_range_3{a b:Int}{t u v:Tok}{Q:Ap->AA->Prop}(hd:AI.divisionGoesByPylong (b-a) (-1)=false)
  (h:Q (.ref s.heap.objs.size) { s with heap:=s.heap.push { cls:=.type "range",data:=.fields #[.int a t,.int b u,.int (-1) v] } }) :
  AG (AJ prog w) A (call (.type "range") [.int a t,.int b u,.int (-1) v]) Q E s:=
 callType_new F.called_range δ (S5 _ _ _) (S8 _ _ _) (λobj=>Sd obj _ _ _) F.entry_range_new
  (AutoRange.range___new___type_int_int_int_1 a b (-1) t u v F.called_range.sub δ) ⟨hd,⟨_,AO _ rfl,rfl⟩,h⟩
theorem DY(a b:Int):AI.Range.rangeSize a b (-1)=((a-b).toNat:Int):=by
 unfold AI.Range.rangeSize;rw[if_neg δ,show(-(-1):Int)=1 by decide];split <;> omega
theorem small_down{a b:Int}(ha:-(2^62)<=a)(ha':a<2^62)(hb:-(2^62)<=b)(hb':b<2^62):AI.Range.small a b (-1)=true:=by
 unfold AI.Range.small;rw[DY];simp only[AI.Range.rangeFitsLong,CL,or_eq_true,decide_eq_true_eq,beq_iff_eq,show ¬(-1:Int)>0 by decide,if_false];omega
theorem Rf{r:ID}{n:Int}{t u v:Tok}{P:PySem.Fin->AA->Prop}(hr:IsRange s.heap r 0 n 1 t u v)(h0:0<=n)(h1:n<2^62)(h:P (.done (.ret (.ref s.heap.objs.size))) { s with heap:=s.heap.push { cls:=.type "range_iterator",data:=.fields #[C0 (n-1),C0 n,C0 (-1)] } }) :
  AG (AJ prog w) A (AI.«reversed.__new__» ⟨[.type "reversed",.ref r],[]⟩) P E s:=by
 have hT:s.TypeIs (.ref r) "range" := ⟨_,hr,rfl⟩;have hs:=Oc;unfold AI.«reversed.__new__»
 wp_walk
 refine Cs nH.lookup ?_;refine An (Cs (nH.bind _) ?_);show AG _ _ (rule "reversed.__new__.own-method" >>= _) _ _ s;refine An (CY (An (LP ?_)));refine F8 nH.plain JW (nH.check _ _ _ _ _ _ _ _ hT (NQ _) ?_);have hsz:AI.Range.rangeSize 0 n 1=n:=by rw[Md];split <;> omega
 show AG _ _ (AI.Range.rangeFields (.ref r) >>= _) _ _ s;unfold AI.Range.rangeFields;refine An (An (BO hr Z (x:=.int 0 t) Z (An (Cs (a:=GT 0) Z ?_))));refine An (BO hr Z (x:=.int n u) Z (An (Cs (a:=GT n) Z ?_)));refine An (BO hr Z (x:=.int 1 v) Z (An (Cs (a:=GT 1) Z ?_)));refine Au ?_;dsimp only;have hsm:(AI.Range.rangeFitsLong 0&&AI.Range.rangeFitsLong n&&AI.Range.rangeFitsLong 1&&AI.Range.rangeFitsLong (-1)&&AI.Range.rangeFitsLong (0-1)&&AI.Range.rangeFitsLong n)=true:=by
  simp only[AI.Range.rangeFitsLong,CL,decide_eq_true_eq];omega
 rw[hsz,hsm,if_neg δ,if_pos rfl,show(0:Int)+(n-1)*1=n-1 by omega];exact An (Be (Au (Au h)))
theorem Nk{r:ID}{n:Int}{t u v:Tok}{Q:Ap->AA->Prop}(hr:IsRange s.heap r 0 n 1 t u v)(h0:0<=n)(h1:n<2^62)(h:Q (.ref s.heap.objs.size) { s with heap:=s.heap.push { cls:=.type "range_iterator",data:=.fields #[C0 (n-1),C0 n,C0 (-1)] } }) :
  AG (AJ prog w) A (call (.type "reversed") [.ref r]) Q E s:=by
 have hmro:=GF;have hmade:=Ju;have hsub:=RN;have hct:=Yg (.ref r);refine wpAny_call (GI ?_);show AG _ _ (callAny (.type "reversed") _) _ _ _;refine Au (AC (FI _ ψ) (C5 F.entry_type_call ?_));rw[A5.under_plain (Lo "reversed" [.ref r] []) (units_type_call_type "reversed" [.ref r] [])];have h1':(EQ "reversed" == EQ "type")=false:=by decide +kernel
 have h2:((LY "reversed").bind (·.mro.findSome? λt=>(LY t).bind λb=>if b.noNew then GT true else if b.attrs.any (·.1 == "__new__") then GT false else Is)).getD false=false:=by decide +kernel
 iterate 60 (try any_goals first|assumption|wp_step)
 refine F8 zN Bt (Cs (Yk _) (Rf hr h0 h1 ?_));dsimp only;have hT:AA.TypeIs { s with heap:=s.heap.push { cls:=.type "range_iterator",data:=.fields #[C0 (n-1),C0 n,C0 (-1)] } } (.ref s.heap.objs.size) "range_iterator" := ⟨_,AO _ rfl,rfl⟩
 iterate 60 (try any_goals first|assumption|wp_step)
end
end SRT
namespace L2
open PySem PySem.Spec PyProof.Rows
def TV(lo:Int)(n:Nat):It:=⟨λi _=>i<n,λi H x H'=>H'=H/\x=.int (lo-i),λi _=>n<=i⟩
theorem Dr{P:AR}{w:A9}{K:AD}{tg:Expr}(it:ID)(lo:Int)(n:Nat):Turn P w K tg (TV lo n) [it] it (λi h=>IY h it (lo+(i:Nat)*(-1)) ((n:Int)-(i:Nat)) (-1)) where
 mem:=by simp
 obj:=λi h st b hb=>by
  have e:b=it:=by simpa using hb
  subst e;exact⟨_,st,λv z=>by
   have z':Co _=Data.cell v:=z;cases z'⟩
 keep:=λi h h' st k=>k it ζ _ st
 item:=by
  intro X hP hw hK hc i pins s σ H E I hf st hg;subst hP hw hK;obtain⟨f0,f1,f2,f3,f4,f5⟩:=hf it ζ;have W:=Walks.range (prog:=X.prog) (w:=X.w) (I.ok.hd hc) it lo (-1) n;refine W.item i s _ _ hg st λv h' tk hv st' kk=>?_;obtain⟨t,rfl⟩:=hv;have I1:Inv X pins σ H { s with heap:=h',toks:=tk }:=I.turned (λb o hb e=>kk b o (by simpa using hb) e) f0 f1 f3 f4 f5;refine⟨_,rfl,JB (s:={ s with heap:=h',toks:=tk }) (n := "range_iterator") st' Z Z δ ⟨.int (lo-i),H,I1,⟨t,?_⟩,⟨rfl,rfl⟩,st',λb hb=>(hf b hb).1⟩⟩;rw[show lo+(i:Int)*(-1)=lo-i by omega]
 done:=by
  intro X hP hw hK hc i pins s σ H E I hf st hg;subst hP hw hK;obtain⟨f0,f1,f2,f3,f4,f5⟩:=hf it ζ;exact wpAny_pyNext_range_end (I.ok.hd hc) st (by have:n<=i:=hg;omega) λh' eb=>⟨rfl,I.turned (t':=s.toks) (λb o hb e=>eb b o hb e) f0 f1 f3 f4 f5⟩
 self:=λ_ _ _ _ _ st h=>KL st h
def Xr(ta:TA):TI:=λσ H R=>ta σ H λvs H1=>∃i j:Int,vs=[.int i,.int j,.int (-1)]/\(-(2^60)<=i/\i<2^60/\-(2^60)<=j/\j<2^60)/\R (TV i (i-j).toNat) H1
section
variable {X:Cx}{tg:Expr}
theorem abg{pins:List (ID×Obj)}{σ:St}{H:Hp}{s:AA}{R:It->Hp->Prop}{E:Ap->AA->Prop}{lo hi:Int}{t u v:Tok}{tk:Nat}(I:Inv X pins σ H s)(h1:-(2^62)<=lo)(h2:lo<2^62)(h3:-(2^62)<=hi)(h4:hi<2^62)
  (q:R (TV lo (lo-hi).toNat) H):AG (AJ X.prog X.w) X.A (IH (.ref s.heap.objs.size)) (PIE X pins σ tg R) E { s with heap:=s.heap.push { cls:=.type "range",data:=.fields #[.int lo t,.int hi u,.int (-1) v] },toks:=tk }:=by
 refine wpAny_pyIter_range (Lv ..) (SRT.small_down h1 h2 h3 h4) ?_;have I1:Inv X pins σ H { s with heap:=s.heap.push { cls:=.type "range",data:=.fields #[.int lo t,.int hi u,.int (-1) v] },toks:=tk }:=I.kept λb o e=>AB _ e;refine⟨(s.heap.push { cls:=.type "range",data:=.fields #[.int lo t,.int hi u,.int (-1) v] }).objs.size,[(s.heap.push { cls:=.type "range",data:=.fields #[.int lo t,.int hi u,.int (-1) v] }).objs.size],_,_,H,rfl,
  I1.kept (t':=tk) λb o e=>AB _ e,Dr _ lo (lo-hi).toNat,?_,λb hb=>?_,q⟩
 ·have e1:lo+((0:Nat):Int)*(-1)=lo:=by simp
  have e2:(((lo-hi).toNat:Nat):Int)-((0:Nat):Int)=AI.Range.rangeSize lo hi (-1):=by rw[SRT.DY];omega
  show IY _ _ (lo+((0:Nat):Int)*(-1)) ((((lo-hi).toNat:Nat):Int)-((0:Nat):Int)) (-1);rw[e1,e2];exact AO _ rfl
 have e:b=(s.heap.push { cls:=.type "range",data:=.fields #[.int lo t,.int hi u,.int (-1) v] }).objs.size:=by simpa using hb
 subst e;exact I1.Dg (AU _) (I1.hok.fresh (AU _))
theorem Rr{a b c:Expr}{ta:TA}{p pos:Pos}(hg:Gl X "range")(hm:X.mg "range" = Is)(ha:PA X [a,b,c] ta)(hs:AH [a,b,c] X.env=[(false,eval a X.env),(false,eval b X.env),(false,eval c X.env)]:=by rfl)(hs2:AH [b,c] X.env=[(false,eval b X.env),(false,eval c X.env)]:=by rfl) :
  PI X tg (.Call (.Name "range" p) [a,b,c] [] pos) (Xr ta):=by
 intro pins s σ H R I h;refine LA (dW I hg hm KM (A3 (thA (ha pos pins s σ H _ I h) λus s1 vs H1 I1 r1 q1=>?_) (by rw[hs,hs2]) (by rw[hs2];rfl)));obtain⟨i,j,e,⟨q1,q2,q3,q4⟩,q⟩:=q1;subst e;cases r1 with
 | cons r rr=>
  cases rr with
  | cons r' rr=>
   cases rr with
   | cons r'' rr=>
    cases rr;obtain⟨t,rfl⟩:=r;obtain⟨t',rfl⟩:=r';obtain⟨t'',rfl⟩:=r'';exact SRT.call_range_3 (by unfold AI.divisionGoesByPylong;exact Bool.and_eq_false_iff.mpr (.inl ψ)) (abg (tk:=s1.toks) I1 ω ω ω ω q)
theorem Rn{a b c:Expr}{ta:TA}{p pos:Pos}(hg:Gl X "range")(hm:X.mg "range" = Is)(ha:QA X [a,b,c] ta)(hs:AH [a,b,c] X.env=[(false,eval a X.env),(false,eval b X.env),(false,eval c X.env)]:=by rfl)(hs2:AH [b,c] X.env=[(false,eval b X.env),(false,eval c X.env)]:=by rfl) :
  QI X tg (.Call (.Name "range" p) [a,b,c] [] pos) (Xr ta):=⟨Rr hg hm ha.h hs hs2⟩
def Xu(ta:TA):TI:=λσ H R=>ta σ H λvs H1=>∃j:Int,vs=[.int j]/\(0<=j/\j<2^60)/\R (TV (j-1) j.toNat) H1
theorem aaf{a:Expr}{ta:TA}{p p2 pos pos2:Pos}(hgR:Gl X "reversed")(hmR:X.mg "reversed" = Is)(hg:Gl X "range")(hm:X.mg "range" = Is)(ha:PA X [a] ta)(hs:AH [a] X.env=[(false,eval a X.env)]:=by rfl)(hsR:AH [.Call (.Name "range" p2) [a] [] pos2] X.env=[(false,eval (.Call (.Name "range" p2) [a] [] pos2) X.env)]:=by rfl) :
  PI X tg (.Call (.Name "reversed" p) [.Call (.Name "range" p2) [a] [] pos2] [] pos) (Xu ta):=by
 intro pins s σ H R I h;refine LA (dW I hgR hmR boot_reversed (A3 ?_ hsR Z));rw[hsR];show AG _ _ (L3 ((false,eval (.Call (.Name "range" p2) [a] [] pos2) X.env)::CS pos [])) _ _ s;refine B9 ?_;refine LA (dW I hg hm KM (A3 (thA (ha pos2 pins s σ H _ I h) λus s1 vs H1 I1 r1 q1=>?_) hs Z));obtain⟨j,e,⟨q1,q2⟩,q⟩:=q1;subst e;cases r1 with
 | cons r rr=>
  cases rr;obtain⟨t,rfl⟩:=r;refine call_range_1 (B6 ?_);refine SRT.Nk (Lv ..) q1 ω ?_;have I2:Inv X pins σ H1 { s1 with heap:=s1.heap.push { cls:=.type "range",data:=.fields #[.int 0 s1.toks,.int j t,.int 1 (s1.toks+1)] },toks:=s1.toks+1+1 }:=I1.kept λb o e=>AB _ e;have st:IY ((s1.heap.push { cls:=.type "range",data:=.fields #[.int 0 s1.toks,.int j t,.int 1 (s1.toks+1)] }).push { cls:=.type "range_iterator",data:=.fields #[C0 (j-1),C0 j,C0 (-1)] }) (s1.heap.push { cls:=.type "range",data:=.fields #[.int 0 s1.toks,.int j t,.int 1 (s1.toks+1)] }).objs.size (j-1) j (-1):=AO _ rfl;refine KL st ?_;refine⟨_,[_],_,_,H1,rfl,I2.kept (t':=s1.toks+1+1) λb o e=>AB _ e,Dr _ (j-1) j.toNat,?_,λb hb=>?_,q⟩
  ·show IY _ _ (j-1+((0:Nat):Int)*(-1)) (((j.toNat:Nat):Int)-((0:Nat):Int)) (-1);rw[show j-1+((0:Nat):Int)*(-1)=j-1 by omega,show((j.toNat:Nat):Int)-((0:Nat):Int)=j by omega];exact st
  have e:b=(s1.heap.push { cls:=.type "range",data:=.fields #[.int 0 s1.toks,.int j t,.int 1 (s1.toks+1)] }).objs.size:=by simpa using hb
  subst e;exact I2.Dg (AU _) (I2.hok.fresh (AU _))
theorem ZF{a:Expr}{ta:TA}{p p2 pos pos2:Pos}(hgR:Gl X "reversed")(hmR:X.mg "reversed" = Is)(hg:Gl X "range")(hm:X.mg "range" = Is)(ha:QA X [a] ta)(hs:AH [a] X.env=[(false,eval a X.env)]:=by rfl)(hsR:AH [.Call (.Name "range" p2) [a] [] pos2] X.env=[(false,eval (.Call (.Name "range" p2) [a] [] pos2) X.env)]:=by rfl) :
  QI X tg (.Call (.Name "reversed" p) [.Call (.Name "range" p2) [a] [] pos2] [] pos) (Xu ta):=⟨aaf hgR hmR hg hm ha.h hs hsR⟩
end
end L2
namespace SRT
open PySem PyProof.Rows
def TP(s:AA)(x:Ap)(a:Int):Prop:=∃q o n t z,x=.ref q/\s.heap.get? q=GT o/\o.cls=.type "tuple" /\ o.data=.seq #[.int a t,z] n
end SRT
namespace L2
open PySem PySem.Spec PyProof.Rows
end L2
namespace SRT
open PySem PyProof.Rows
end SRT
namespace L2
open PySem PySem.Spec PyProof.Rows
def isT(ss:Sts)(zs:List Int)(k:Nat):Bool:=decide ((bJ ss k).1=(bJ ss k).2.1)&&decide (zs.getD 0 0<=zs.getD 1 0)
def kO(ss:Sts)(zs:List Int)(k:Nat):Str:=if isT ss zs k=true then "is" else "within"
def dB(ss:Sts)(zs:List Int)(k:Nat):Int:=if isT ss zs k=true then zs.getD 0 0 else zs.getD 1 0
def tK(ss:Sts)(zs:List Int)(k:Nat):Int:=if isT ss zs k=true then zs.getD 1 0 else zs.getD 0 0
def vo(ss:Sts)(ws zs:List Int)(k:Nat):Int:=-(ws.getD k 0)*tK ss zs k
def iI(ss:Sts)(ws zs:List Int)(k:Nat):Int:=64*vo ss ws zs k+(k:Int)
def Cp(ss:Sts)(zs:List Int)(lab:Int):List Nat->A0
 | []=>.tuple [.str "pick",.int lab]
 | k::r=>.tuple [.str (kO ss zs k),.int (k:Int),Cp ss zs lab r]
theorem S9{ss:Sts}{ws zs:List Int}{p b:Nat}(h0:1<=zs.getD 0 0)(h1:1<=zs.getD 1 0) :
  (ws.getD b 0*dB ss zs p<ws.getD p 0*dB ss zs b)↔vo ss ws zs p<vo ss ws zs b:=by
 unfold vo dB tK;have m:∀(x y c:Int),1<=c->(x*c<y*c↔x<y):=λx y c hc=>⟨λh=>Int.lt_of_mul_lt_mul_right h ω,λh=>Int.mul_lt_mul_of_pos_right h ω⟩;by_cases c1:isT ss zs p=true
 ·by_cases c2:isT ss zs b=true
  ·simp only[if_pos c1,if_pos c2];rw[m _ _ _ h0,m _ _ _ h1];omega
  simp only[if_pos c1,if_neg c2];rw[neg_mul,neg_mul];omega
 by_cases c2:isT ss zs b=true
 ·simp only[if_neg c1,if_pos c2];rw[neg_mul,neg_mul];omega
 simp only[if_neg c1,if_neg c2];rw[m _ _ _ h1,m _ _ _ h0];omega
theorem Ek{r:Nat->Int}:∀{l1 l2:List Nat},l1.Perm l2->(l1.map r).Pairwise (· < ·)->(l2.map r).Pairwise (· < ·)->l1=l2
 | [],l2,p,_,_=>by rw[List.nil_perm.mp p]
 | a::l1,[],p,_,_=>by have:=p.length_eq;simp at this
 | a::l1,b::l2,p,h1,h2=>by
  rw[CB,CO] at h1 h2;have e:a=b:=by
   have ma:a∈b::l2:=p.mem_iff.mp (A7 ..);have mb:b∈a::l1:=p.mem_iff.mpr (A7 ..);rcases A1.mp ma with z|z
   ·exact z
   rcases A1.mp mb with z2|z2
   ·exact z2.symm
   have q1:=h1.1 _ (FE (f:=r) z2);have q2:=h2.1 _ (FE (f:=r) z);omega
  subst e;rw[Ek ((List.perm_cons a).mp p) h1.2 h2.2]
def aef(ss:Sts)(lab:Int):List Nat:=(Bi ss.length).filter λk=>decide ((bJ ss k).2.2≠lab)
def m7(H:Hp)(t:ID)(zs:List Int):Prop:=H t=GT (.tup (zs.map As))/\zs.length=5/\∀z∈zs,1<=z/\z<=99
def Og:Sp:=λvs H Q _=>∃(a t:ID)(ss:Sts)(zs:List Int)(k:Nat),vs=[.ref a,.ref t]/\H a=GT (.tup [.int (bJ ss k).1,.int (bJ ss k).2.1,.int (bJ ss k).2.2])/\m7 H t zs/\Q (.str (kO ss zs k)) H
def Ob(ss:Sts)(zs:List Int)(k:Nat):A0:=.tuple [.str (kO ss zs k),.int (k:Int)]
def Om:Sp:=λvs H Q _=>∃(sa p:ID)(lab:Int)(xs:List V)(ok:ID->Prop)(ss:Sts)(zs:List Int)(ord:List Nat),vs=[.ref sa,.ref p,.int lab]/\H sa=GT (.lst xs)/\aG ok H xs (ss.map stD)/\(∀k∈ord,k<ss.length)/\ord.length<=60/\aH (λ_=>True) H (.ref p) (.list (ord.map (Ob ss zs))) /\
 ∀(v:V) H',Same H H'->aH (λ_=>True) H' v (Cp ss zs lab (ord.filter λk=>decide ((bJ ss k).2.2≠lab)))->Q v H'
theorem yU{ss:Sts}{zs:List Int}{k:Nat}(h:isT ss zs k=true):kO ss zs k = "is" /\ tK ss zs k=zs.getD 1 0/\dB ss zs k=zs.getD 0 0:=by
 unfold kO tK dB;rw[if_pos h,if_pos h,if_pos h];exact⟨rfl,rfl,rfl⟩
theorem uz{ss:Sts}{zs:List Int}{k:Nat}(h:¬isT ss zs k=true):kO ss zs k = "within" /\ tK ss zs k=zs.getD 0 0/\dB ss zs k=zs.getD 1 0:=by
 unfold kO tK dB;rw[if_neg h,if_neg h,if_neg h];exact⟨rfl,rfl,rfl⟩
def eX(H:Hp)(p:ID):Int×Int:=match H p with
 | some (.tup [.int a,.int b,_])=>(a,b)
 | _=>(0,0)
theorem R5{H:Hp}{p:ID}{a b:Int}{v:V}(h:H p=GT (.tup [.int a,.int b,v])):eX H p=(a,b):=by
 unfold eX;rw[h]
theorem Zk{ss:Sts}{ws zs:List Int}{i j:Nat}(hi:i<64)(hj:j<64)(h:i≠j):iI ss ws zs i≠iI ss ws zs j:=by
 unfold iI;omega
theorem m7.bd{H:Hp}{t:ID}{zs:List Int}(h:m7 H t zs){i:Nat}(hi:i<5):1<=zs.getD i 0/\zs.getD i 0<=99:=by
 have hl:i<zs.length:=by rw[h.2.1];exact hi
 have e:zs.getD i 0=zs[i]:=by simp[hl]
 rw[e];exact h.2.2 _ (FG hl)
theorem SM{α:Type}{l:List α}{i:Nat}{x:α}(hi:i<l.length)(h:l[l.length-1-i]?=GT x):l.drop (l.length-(i+1))=x::l.drop (l.length-i):=by
 have hl:l.length-(i+1)<l.length:=ω;rw[F7 hl,show l.length-(i+1)+1=l.length-i by omega];congr 1;have:l[l.length-(i+1)]?=GT x:=by rw[<- h];congr 1;omega
 rw[AF hl] at this;exact BI this
def plT(ss:Sts)(zs:List Int)(lab:Int):List Nat->Pl
 | []=>.pick lab
 | k::r=>if isT ss zs k=true then .one k (plT ss zs lab r) else .wit k (plT ss zs lab r)
theorem abz(ss:Sts)(zs:List Int)(lab:Int):∀l,plD (plT ss zs lab l)=Cp ss zs lab l
 | []=>rfl
 | k::r=>by
  have ih:=abz ss zs lab r;show plD (if isT ss zs k=true then .one k (plT ss zs lab r) else .wit k (plT ss zs lab r))=.tuple [.str (kO ss zs k),.int (k:Int),Cp ss zs lab r];unfold kO;split
  ·rw[<- ih];rfl
  rw[<- ih];rfl
theorem O6(ss:Sts)(zs:List Int)(lab:Int):∀l,dw (plT ss zs lab l)=l.length+1
 | []=>rfl
 | k::r=>by
  have ih:=O6 ss zs lab r;unfold plT;split
  ·show dw (plT ss zs lab r)+1=_;rw[ih];rfl
  show dw (plT ss zs lab r)+1=_;rw[ih];rfl
theorem Lf.less{ss:Sts}{left:List Nat}{k m:Nat}(h:Lf ss left)(hm:m∈left)(hk:m≠k):Lf ss (left.filter (·≠k))/\m∈left.filter (·≠k):=by
 have hm2:m∈left.filter (·≠k):=DF.mpr ⟨hm,by simpa using hk⟩;exact⟨⟨List.ne_nil_of_mem hm2,λa ha=>h.lt a (DF.mp ha).1,h.up.filter _⟩,hm2⟩
def uN(ss:Sts)(ws zs:List Int):Int->List Nat->Int
 | _,[]=>0
 | W,k::r=>W*dB ss zs k+uN ss ws zs (W-ws.getD k 0) r
theorem Dv{ws:List Int}{k:Nat}:∀{left:List Nat},left.Pairwise (· < ·)->k∈left->sumK ws (left.filter (·≠k))=sumK ws left-ws.getD k 0
 | [],_,h=>(nomatch h)
 | a::l,h,hk=>by
  rw[CO] at h;have c:∀(x:Nat)(y:List Nat),sumK ws (x::y)=ws.getD x 0+sumK ws y:=λx y=>by unfold sumK;rw[CB,Fc]
  by_cases e:a=k
  ·subst e;have:(a::l).filter (·≠a)=l:=by
    rw[GS ζ];exact LJ.mpr λb hb=>by have:=h.1 b hb;simp;omega
   rw[this,c];omega
  have hk2:k∈l:=by
   rcases A1.mp hk with z|z
   ·exact absurd z.symm e
   exact z
  rw[GO (by simpa using e),c,c,Dv h.2 hk2];omega
theorem Iv{ss:Sts}{ws zs:List Int}{lab:Int}:∀{l left:List Nat},left.Pairwise (· < ·)->l.Nodup->(∀k∈l,k∈left)->nF ss (dI ws zs) (plT ss zs lab l) left=uN ss ws zs (sumK ws left) l
 | [],_,_,_,_=>rfl
 | k::r,left,h,hn,hin=>by
  rw[GN] at hn;have hk:=hin k (A7 ..);have ih:=Iv (ss:=ss) (ws:=ws) (zs:=zs) (lab:=lab) (l:=r) (left:=left.filter (·≠k)) (h.filter _) hn.2 λa ha=>DF.mpr ⟨hin a (BE _ ha),by simpa using λ(z:a=k)=>hn.1 (z ▸ ha)⟩;rw[Dv h hk] at ih;show _=sumK ws left*dB ss zs k+uN ss ws zs (sumK ws left-ws.getD k 0) r;rw[<- ih];rw[plT.eq_2];unfold dB;split
  ·show zs.getD 0 0*sumK ws left+nF ss (dI ws zs) (plT ss zs lab r) (left.filter (·≠k))=_;rw[EM]
  show zs.getD 1 0*sumK ws left+nF ss (dI ws zs) (plT ss zs lab r) (left.filter (·≠k))=_;rw[EM]
theorem Hf(elt tg iter:Expr)(ifs:List Expr)(scope:E5)(pos:Pos)(it acc:Ap)(env:Env) :
  JY (.SetComp elt [⟨tg,iter,ifs,0⟩] scope pos) 0 it acc env=(do
   FS iter.pos
   match <- D2 it with
   | none=>pure (.done .next)
   | some v=>
    DS tg it v
    EO tg env v
    let mut ok:=true
    for c in ifs do
     if ok then ok <- KI c env (eval c env)
    if ok then
     (do
      let v <- eval elt env
      FS elt.pos
      let _ <- call (.builtin "set.add") [acc,v])
    GW (.compLoop (.SetComp elt [⟨tg,iter,ifs,0⟩] scope pos) 0 it acc env)):=by rfl
section
variable {prog:AR}{w:A9}{A:A5}{R:Result->AA->Prop}{s:AA}
theorem Nh{elt tg iter:Expr}{ifs:List Expr}{scope:E5}{pos:Pos}{it acc:Ap}{env:Env}(J:Nat->AA->Prop)
   (turn:∀n s,J n s->AG (AJ prog w) A (D2 it) (λr s1=>match r with
   | none=>R (.ok .next) s1
   | some v=>AG (AJ prog w) A (DS tg it v) (λ_ s1'=>AG (AJ prog w) A (EO tg env v) (λ_ s2=>
     AG (AJ prog w) A (forIn ifs true λc r=>if r=true then do let ok <- KI c env (eval c env);pure (Db ok) else pure (Db r)) (λok s3=>
      if ok=true then AG (AJ prog w) A (eval elt env) (λx s4=>
       AG (AJ prog w) A (call (.builtin "set.add") [acc,x]) (λ_ s5=>∃m,m<n/\J m s5) (ER (AJ prog w) A env λe z=>R (.error e) z) s4) (ER (AJ prog w) A env λe z=>R (.error e) z) s3
      else ∃m,m<n/\J m s3) (ER (AJ prog w) A env λe z=>R (.error e) z) s2) (ER (AJ prog w) A env λe z=>R (.error e) z) s1') (ER (AJ prog w) A env λe z=>R (.error e) z) s1) (ER (AJ prog w) A env λe z=>R (.error e) z) s)
  (n:Nat) (h:J n s):DL (AJ prog w) A (.compLoop (.SetComp elt [⟨tg,iter,ifs,0⟩] scope pos) 0 it acc env) R s:=by
 refine KP Z J (λn z hJ=>?_) n h;show AG _ A ((JY (.SetComp elt [⟨tg,iter,ifs,0⟩] scope pos) 0 it acc env).onRaise (λy=>do Kb y env;Ix y)) _ _ z;refine LB ?_;rw[Hf];refine An (C6 (An (Bz (turn n z hJ) (λr s1 h1=>?_) λ_ _ q=>q)));cases r with
 | none=>exact Au h1
 | some v=>
  refine An (Bz h1 (λ_ s1' h1'=>?_) λ_ _ q=>q);refine An (Bz h1' (λ_ s2 h2=>An (Bz h2 (λok s3 h3=>?_) λ_ _ q=>q)) λ_ _ q=>q);cases ok with
  | false=>exact Au ⟨rfl,h3⟩
  | true=>
   exact An (An (Bz h3 (λx s4 h4=>An (C6 (An (Bz h4 (λ_ s5 h5=>Au (Au ⟨rfl,h5⟩)) λ_ _ q=>q)))) λ_ _ q=>q))
theorem Dh{elt target iter ifs rest scope pos it acc env}
  (h0:DL (AJ prog w) A (.compLoop (.SetComp elt (⟨target,iter,ifs,0⟩::rest) scope pos) 0 it acc env) R s)
   (h:AG (AJ prog w) A (IH it) (λit' s'=>DL (AJ prog w) A (.compLoop (.SetComp elt (⟨target,iter,ifs,0⟩::rest) scope pos) 0 it' acc env) R s')
   (ER (AJ prog w) A env λx s'=>R (.error x) s') s) :
  DL (AJ prog w) A (.compStart (.SetComp elt (⟨target,iter,ifs,0⟩::rest) scope pos) 0 it acc env) R s:=by
 refine GI ?_;show AG _ A ((compStart (.SetComp elt (⟨target,iter,ifs,0⟩::rest) scope pos) 0 it acc env).onRaise (λy=>do Kb y env;FS theWindowsPlace)) _ _ s;refine wpAny_notedAt ?_;unfold compStart;change AG _ A (ask >>= _) _ _ s;refine An (EC (wpAny_ite ?_));split
 ·first
   | exact An (Au (Au ⟨rfl,h0⟩))
   | exact Au ⟨rfl,h0⟩
 first
  | exact An (CY (An (C6 (An (Bz h (λit' s' h'=>Au ⟨rfl,h'⟩) λ_ _ q=>q)))))
  | (refine An (CY ?_);change AG _ _ (FS iter.pos >>= _) _ _ s;exact An (C6 (An (Bz h (λit' s' h'=>Au ⟨rfl,h'⟩) λ_ _ q=>q))))
end
end L2
namespace SRT
open PySem PyProof.Rows
section
variable {prog:AR}{w:A9}{K:Type}[DecidableEq K]{knd:KeyKind prog w K}{A:A5}{E:Ap->AA->Prop}{s:AA}{b:Bool}{a:ID}
theorem SetT.ty{S:K->Bool}{n:Nat}(hS:SetT knd b s.heap a S n):s.TypeIs (.ref a) "set" :=
 let ⟨o,_,_,_,ho,hx,_⟩:=hS;⟨o,ho,hx.1⟩
theorem Tg{S:K->Bool}{n:Nat}{k:K}{x:Ap}{Q:Ap->AA->Prop}(hx:knd.is k x=true)(hsc:x.scannable=true)(hS:SetT knd b s.heap a S n)(hr:n+1<FO)
  (h:∀h',B3 a s.heap h'->SetT knd b h' a (λk'=>S k'||decide (k'=k)) (if S k then n else n+1)->Q .none { s with heap:=h',toks:=s.toks+1 }) :
  AG (AJ prog w) A (call (.builtin "set.add") [.ref a,x]) Q E s:=
 BQ F.slot_set_add hS.ty F.entry_set_add (by
  simp only[AI.«set.add»,AI.Frozenset.oneOther,List.isEmpty_nil,bind_assoc,AI.Frozenset.addrOf,setAdd];refine An (Au (An (Au (An (BH (An (knd.pyHash hx ?_)))))));exact HW (s:={ s with toks:=s.toks+1 }) hx hsc hS hr λh' c d=>Au ⟨_,rfl,h h' c d⟩) (F.args_set_add_2 _ _)
end
end SRT
namespace L2
open PySem PySem.Spec PyProof.Rows
section
variable {prog:AR}{w:A9}{A:A5}{E:Ap->AA->Prop}{s:AA}
theorem Wu{Q:Ap->AA->Prop}(h:Q (.ref s.heap.objs.size) { s with heap:=s.heap.push (SRT.uF w) }):AG (AJ prog w) A (newSet (.type "set")) Q E s:=by
 unfold newSet setsByText;refine An (An (EC (Au ?_)));dsimp only;simp only[newObj];exact Be h
theorem Ov{K:Type}[DecidableEq K]{knd:KeyKind prog w K}{b:Bool}{h:Heap}{a:ID}{S:K->Bool}{n:Nat}(hS:SRT.SetT knd b h a S n) :
  ∃o,h.get? a=GT o/\(∃es ep t,o.data=.set es ep t)/\∀h' a',h'.get? a'=GT o->SRT.SetT knd b h' a' S n:=by
 obtain⟨o,es,ep,t,ho,hx,hd,r⟩:=hS;exact⟨o,ho,⟨es,ep,t,hd⟩,λh' a' e=>⟨o,es,ep,t,e,hx,hd,r⟩⟩
end
def ur(acc:List Int)(k:Int):List Int:=if acc.any (· == k) then acc else acc++[k]
theorem N5{acc:List Int}(k:Int)(h:acc.Nodup):(ur acc k).Nodup:=by
 unfold ur;split
 ·exact h
 rename_i q;refine List.nodup_append.mpr ⟨h,by simp,λa ha b hb e=>q ?_⟩;simp only[AL] at hb;subst hb;subst e;simpa using ha
theorem Yz(acc:List Int)(k j:Int):(ur acc k).any (· == j)=(acc.any (· == j)||decide (j=k)):=by
 unfold ur;split
 ·rename_i q;by_cases e:j=k
  ·subst e;simp[q]
  simp[e]
 rw[List.any_append];congr 1;simp[Bool.beq_eq_decide_eq,eq_comm]
theorem BV(acc:List Int)(k:Int):(ur acc k).length=if acc.any (· == k) then acc.length else acc.length+1:=by
 unfold ur;split <;> simp
def abP(mp:List (Option Nat))(wi:TI)(g:TG)(tc:TT)(te:TE):TE:=λσ H Q=>wi σ H λJ H1=>
 ∃W:Nat->Nat->List Int->St->Hp->Prop,(∃m,W 0 m [] (fM mp σ) H1)/\∀i m acc τ H2,W i m acc τ H2 ->
  (J.stop i H2/\∀d (ys:List Int),H2 d=Is->acc.Nodup->ys.Perm acc->(acc.length<64->ys.Pairwise (·<=·))->Q (.ref d) (upd H2 d (.lst (ys.map As)))) \/
  (J.go i H2/\acc.length<63/\∃N:List Int->St->Hp->Prop,(∀acc' τ' H',N acc' τ' H'->∃m',m'<m/\W (i+1) m' acc' τ' H')/\∀x H3,J.yld i H2 x H3->g x τ H3 λτ1 H4=>tc τ1 H4 λb H5=>
   if b=true then te τ1 H5 λv H6=>∃k:Int,v=.int k/\N (ur acc k) τ1 H6 else N acc τ1 H5)
section
variable {X:Cx}{NX N:List Str}{kX:List (Str×DE)}{mp:List (Option Nat)}{scope:E5}
set_option maxHeartbeats 8000000 in
theorem acA{tg iter elt:Expr}{ifs:List Expr}{p pos pos2:Pos}{wi:TI}{g:TG}{tc:TT}{te:TE}(N:List Str)(mp:List (Option Nat))(hgl:Gl X "sorted")(hml:X.mg "sorted" = Is)(hNX:X.N=NX)(hkX:X.env.scope.names=kX)(S:oY NX kX N mp scope)(hc:X.calm=true)
  (hi:PI X tg iter wi)(hg:∀cl C s H fp,PG (aO X N scope cl C s H fp) tg g)(ht:∀cl C s H fp,PTs (aO X N scope cl C s H fp) ifs tc)(he:∀cl C s H fp,PE (aO X N scope cl C s H fp) elt te)
  (hse:AH [.SetComp elt [⟨tg,iter,ifs,0⟩] scope pos2] X.env=[(false,eval (.SetComp elt [⟨tg,iter,ifs,0⟩] scope pos2) X.env)]:=by rfl)
  (hs:∀x,B2 iter X.env x=pure x:=by intro _;rfl):PE X (.Call (.Name "sorted" p) [.SetComp elt [⟨tg,iter,ifs,0⟩] scope pos2] [] pos) (abP mp wi g tc te):=by
 intro pins s σ H Q I h;refine Ex (dW I hgl hml JJ ?_ δ δ);refine HI ?_ hse rfl;rw[hse];show AG _ _ (L3 ((false,eval (.SetComp elt [⟨tg,iter,ifs,0⟩] scope pos2) X.env)::[])) _ _ s;refine B9 ?_;obtain⟨cl,hcl,hsub,hhas⟩:=vJ (env:=X.env) (scope:=scope) λy hy hf=>I.ok.has y.1 (by
  rcases S.fre y hy hf with q|q
  ·exact .inl (show X.env.scope.names.lookup y.1=_ by rw[hkX];exact q)
  exact .inr (show X.env.scope.names.lookup y.1=_ by rw[hkX];exact q))
 let QQ:Ap->AA->Prop:=λv s'=>∃D H' acc,v=.ref D/\Inv X pins σ H' s'/\SRT.SetT (FR X.prog X.w) (!SRT.bt X.w) s'.heap D (λk=>acc.any (· == k)) acc.length/\acc.Nodup/\acc.length<=63 /\
  ∀d (ys:List Int),H' d=Is->acc.Nodup->ys.Perm acc->(acc.length<64->ys.Pairwise (·<=·))->Q (.ref d) (upd H' d (.lst (ys.map As)))
 refine thn (Q:=QQ) ?aa λv s9 hq=>?bb
 case bb=>
  obtain⟨D,H9,acc,rfl,I9,hS,nd,hle,q⟩:=hq;refine B6 ?_;refine SRT.HN (I9.ok.hd hc) hS nd (Nat.lt_succ_of_le hle) λs3 L ys ns k gL iL pL oL k3 g3 o3 l3=>?_;have hf:H9 L=Is:=I9.hok.fresh l3;obtain⟨h3,g3',d3,t3,o3'⟩:=s3;cases g3;cases o3;have hl:ns.length<=AK:=by
   rw[pL.length_eq];exact CF hle δ
  exact⟨.ref L,_,((I9.drawn d3).laid (t':=t3) (h':=h3) k3 l3 (show cD X.prog X.w _ h3 _ (.lst (ns.map As)) from⟨by simpa using hl,ys,k,wA iL,gL⟩)),rfl,q L ns hf nd pL oL⟩
 rw[arm_eval_SetComp];refine Fn (use:=Is) Z hs hcl S.kind S.locs ?_;refine thn (hi pins s σ H _ I h) λv s1 h1=>thn h1 λitv s2 h2=>?_;obtain⟨it,fp,tn,J,H2,e,I2,T,st2,f2,W,⟨m0,w0⟩,turn⟩:=h2;subst e;refine Wu (F3 S.nocell (by intro y hy;simp at hy) (λh3 hns hsb=>?_) S.kind);dsimp only at hns hsb |-;have hold:∀b∈fp,b<s2.heap.objs.size:=λb hb=>by
  obtain⟨o,q,_⟩:=T.obj _ _ st2 b hb;exact AY q
 generalize hD:s2.heap.objs.size=D at hns hsb;generalize hH2:s2.heap.push (SRT.uF X.w)=P2 at hns hsb |-;have hC:P2.objs.size=D+1:=by rw[<- hH2,Ct,hD]
 generalize hC':P2.objs.size=C at hns hsb |-;rw[hC'] at hC;have old:∀b o,s2.heap.get? b=GT o->h3.get? b=GT o:=λb o q=>by
  have hb:=AY q;exact hsb.extBut b o (na1 hb hD hC) (AB _ (hH2 ▸ AB _ q))
 have accD:h3.get? D=GT (SRT.uF X.w):=
  hsb.extBut _ _ (na2 hC) (AB _ (by rw[<- hH2,<- hD];exact AO _ Z))
 have hfr:D∉frs X.stack:=λz=>by
  rcases A1.mp (I2.pO D z) with q|q
  ·exact na0 I2.lt hD q.symm
  exact I2.RP (na4 hD) q
 have I0:Inv (aO X N scope cl C s2 H2 fp) [(D,(SRT.uF X.w))] (fM mp σ) H2 { s2 with heap:=h3,toks:=s2.toks+([]:List (Str×Ap)).length }:=
  vI (s':={ s2 with heap:=h3,toks:=s2.toks+([]:List (Str×Ap)).length }) hNX hkX S I2 f2 hold (na3 hD hC) hsub hhas Z Z ⟨_,hns⟩ old λp hp=>by
   have ep:=AL.mp hp;subst ep;exact⟨accD,I2.hok.fresh (na4 hD),na2 hC,hfr,λv z=>by cases z⟩
 have T0:tn 0 h3:=T.keep _ _ _ st2 λb _ o q=>old b o q;have S0:SRT.SetT (FR X.prog X.w) (!SRT.bt X.w) h3 D (λk=>([]:List Int).any (· == k)) ([]:List Int).length:=
  ⟨_,#[],0,_,accD,⟨rfl,rfl,rfl⟩,rfl,⟨λe he=>by simp at he,λk=>by simp,δ⟩,by rfl,rfl,SRT.Ds _ _ _⟩
 have loop:∀z:AA,z={ s2 with heap:=h3,toks:=s2.toks+([]:List (Str×Ap)).length } ->
   DL (AJ X.prog X.w) X.A (.compLoop (.SetComp elt [⟨tg,iter,ifs,0⟩] scope pos2) 0 (.ref it) (.ref D) (EW scope cl C X.env))
    (compPost (AJ X.prog X.w) X.A X.xe Is QQ (.ref D) C) z:=by
  rintro z rfl;have stat:∀{H':Hp}{pl:List (ID×Obj)},(∀b∈fp,H' b=Is)->(∀p∈pl,p.1=D)->∀b∈fp,pH (aO X N scope cl C s2 H2 fp) pl H' b:=λhn hp b hb=>by
   have hb2:=hold b hb;refine⟨hn b hb,na1 hb2 hD hC,(wN hkX S I2 f2 hold (na3 hD hC) hsub hhas).exfs b hb,.inl hb,λx c q=>(f2 b hb).2.2.2.2.1 x c (hsub x c q),λp hpp=>?_⟩;have hpD:=hp p (by simpa [aO] using hpp);rw[hpD];exact(na0 hb2 hD).symm
  obtain⟨ob0,go0,_,so0⟩:=Ov S0;rw[accD] at go0;cases go0;refine Nh (env:=EW scope cl C X.env) (λn z=>∃i acc τ H' o,Inv (aO X N scope cl C s2 H2 fp) [(D,o)] τ H' z/\(∀h' a',h'.get? a'=GT o->SRT.SetT (FR X.prog X.w) (!SRT.bt X.w) h' a' (λk=>acc.any (· == k)) acc.length)/\tn i z.heap/\(∀b∈fp,H' b=Is)/\acc.Nodup/\acc.length<=63/\W i n acc τ H')
   ?_ m0 ⟨0,[],_,H2,_,I0,so0,T0,λb hb=>(f2 b hb).1,.nil,DJ _,w0⟩
  rintro n s5 ⟨i,acc,τ,H5,ob,I5,dob,st5,fr5,nd,hz,w5⟩;rcases turn i n acc τ H5 w5 with⟨stop,qn⟩|⟨go,hz2,N9,hN9,step⟩
  ·refine thn (T.done (aO X N scope cl C s2 H2 fp) Z Z Z hc i _ s5 τ H5 _ I5 (stat fr5 ζ) st5 stop) λr s6 ⟨hr,I6⟩=>?_;subst hr;obtain⟨m6,hn6,_⟩:=I6.loc;refine⟨m6,hn6,λh' sb=>?_⟩;obtain⟨dD,nD,_,_,_⟩:=I6.pin (D,_) (AN _ (AL.mpr Z));have U:=I6.base;have nC:H5 C=Is:=I6.free;have ne:∀b o,s2.heap.get? b=GT o->b≠C:=λb o q=>na1 (AY q) hD hC;have keepC:∀b o,b≠C->s6.heap.get? b=GT o->h'.get? b=GT o:=λb o hb q=>(sb.2 b hb).trans q;have U':Un (frs X.stack) fp H2 H5 s2.heap h':=by
    refine⟨λb o q n1 hb hx=>keepC b o (ne b o q) (U.keep b o q n1 hb hx),λb o q n1 hb hx=>?_,U.free,λb o q hx=>?_,U.tups,U.frzs,U.tbls⟩
    ·obtain⟨sl,z⟩:=U.slot b o q n1 hb hx;exact⟨sl,keepC b _ (ne b o q) z⟩
    obtain⟨o',z⟩:=U.there b o q hx;exact⟨o',keepC b _ (ne b o q) z⟩
   have hok:HOk X.prog X.w H5 h':=λb u q=>by
    refine(I6.hok b u q).stay (λc v hcc z=>keepC c v ?_ z) (λc z=>z) λc xs z=>z;rcases hcc with z1|z1
    ·subst z1;exact aF q nC
    exact aF z1 nC
   have I7:Inv X pins σ H5 { s6 with heap:=h' }:=I2.call' (s':={ s6 with heap:=h' }) (ch:=fp) I6.os U' hok I6.bare λb hb=>by
    obtain⟨_,a2,_,a4,a5,a6⟩:=f2 b hb;exact⟨a4,a2,a5,a6⟩
   exact⟨D,H5,acc,rfl,I7,dob h' D (keepC _ _ (na2 hC) dD),nd,hz,qn⟩
  refine thn (T.item (aO X N scope cl C s2 H2 fp) Z Z Z hc i _ s5 τ H5 _ I5 (stat fr5 ζ) st5 go) λr s6 ⟨u,hr,h6⟩=>?_;subst hr;refine thn h6 λ_ s7 ⟨x,H7,I7,r7,y7,st7,fr7⟩=>?_;have I7':=I7.pinned (stat fr7 ζ) (T.obj _ _ st7);have no:∀{α:Type}{t:Sem α}{Q1 Q2:α->AA->Prop}{E:Ap->AA->Prop}{z:AA},AG (AJ X.prog X.w) X.A t Q1 (λ_ _=>False) z->(∀a z,Q1 a z->Q2 a z)->AG (AJ X.prog X.w) X.A t Q2 E z:=
   λq f=>Bz q f λ_ _ z=>z.elim
  refine no (hg cl C s2 H2 fp _ s7 τ H7 x u _ I7' r7 (step x H7 y7)) λ_ s8 ⟨τ1,H8,I8,q8⟩=>?_;refine no (ht cl C s2 H2 fp _ s8 τ1 H8 _ I8 q8) λok s9 ⟨H9,I9,q9⟩=>?_;have GW:∀{H':Hp}{z:AA}{o':Obj},Inv (aO X N scope cl C s2 H2 fp) ([(D,o')]++dU fp s7.heap) τ1 H' z ->
    tn (i+1) z.heap/\(∀b∈fp,H' b=Is)/\Inv (aO X N scope cl C s2 H2 fp) [(D,o')] τ1 H' z:=λ{H' z o'} Iz=>by
   have get:∀b∈fp,∀o,s7.heap.get? b=GT o->z.heap.get? b=GT o/\H' b=Is:=λb hb o q=>by
    obtain⟨a1,a2,_⟩:=Iz.pin (b,o) (AN _ (AN _ (f9 hb q)));exact⟨a1,a2⟩
   refine⟨T.keep _ _ _ st7 λb hb o q=>(get b hb o q).1,λb hb=>?_,Iz.iR⟩;obtain⟨o,q,_⟩:=T.obj _ _ st7 b hb;exact(get b hb o q).2
  cases ok with
  | false=>
   rw[if_neg AZ] at q9 |-;obtain⟨m',hm,w9⟩:=hN9 _ _ _ q9;obtain⟨a1,a2,a3⟩:=GW I9;exact⟨m',hm,i+1,acc,τ1,H9,ob,a3,dob,a1,a2,nd,hz,w9⟩
  | true=>
   rw[if_pos rfl] at q9 |-;refine no (he cl C s2 H2 fp _ s9 τ1 H9 _ I9 q9) λy s10 ⟨v,H10,I10,rv,kk,ek,q10⟩=>?_;subst ek;obtain⟨tk,rfl⟩:=rv;obtain⟨m',hm,w10⟩:=hN9 _ _ _ q10;obtain⟨a1,a2,a3⟩:=GW I10;obtain⟨dD,nD,_,_,_⟩:=a3.pin (D,_) (AN _ (AL.mpr Z));refine SRT.Tg (knd:=FR X.prog X.w) (intKind_is _ _ kk tk) Z (dob _ _ dD) (by simp only[FO];omega) λh' sb dd=>?_;obtain⟨o',g1,⟨es',ep',t',g2⟩,g3⟩:=Ov (dd.congr (S':=λk=>(ur acc kk).any (· == k)) (n':=(ur acc kk).length) (λk=>(Yz acc kk k).symm) (BV acc kk).symm);have a4:Inv (aO X N scope cl C s2 H2 fp) (dU fp s7.heap) τ1 H10 s10:=I10.ig λp hp=>I10.pin p (AN _ (AN _ hp));have a5:Inv (aO X N scope cl C s2 H2 fp) (dU fp s7.heap) τ1 H10 { s10 with heap:=h',toks:=s10.toks+1 }:=
    a4.turned (it:=D) (λb o hb z=>(sb.2 b hb).trans z) nD (na2 hC) (.inr (na4 hD))
     (λx c z=>by
      obtain⟨_,o,h1,_⟩:=I2.cell x c (hsub x c z);exact na0 (AY h1) hD) λp hp=>by
      have hb:=(kj (by simpa [aO] using hp)).1;exact na0 (hold _ hb) hD
   have b1:tn (i+1) h':=T.keep _ _ _ a1 λb hb o z=>(sb.2 b (na0 (hold b hb) hD)).trans z;have hpl:(ur acc kk).length<=63:=by rw[BV];split <;> omega
   refine⟨m',hm,i+1,ur acc kk,τ1,H10,o',a5.ig λp hp=>?_,g3,b1,a2,N5 kk nd,hpl,w10⟩;have ep:=AL.mp hp;subst ep;exact⟨g1,nD,na2 hC,hfr,λv z=>by rw[g2] at z;cases z⟩
 have e1:{ newEnv scope C X.env.globals cl X.env.qual Is .none (GT X.env) X.env.builtins with scope:=relabel scope X.env }=EW scope cl C X.env:=rfl;exact Dh (loop _ Z) (T.self _ 0 _ _ _ T0 (loop _ Z))
theorem acd{tg iter elt:Expr}{ifs:List Expr}{p pos pos2:Pos}{wi:TI}{g:TG}{tc:TT}{te:TE}(N:List Str)(mp:List (Option Nat))(hgl:Gl X "sorted")(hml:X.mg "sorted" = Is)(hNX:X.N=NX)(hkX:X.env.scope.names=kX)(S:oY NX kX N mp scope)(hc:X.calm=true)
  (hi:QI X tg iter wi)(hg:∀cl C s H fp,QG (aO X N scope cl C s H fp) tg g)(ht:∀cl C s H fp,QC (aO X N scope cl C s H fp) ifs tc)(he:∀cl C s H fp,QE (aO X N scope cl C s H fp) elt te)
  (hse:AH [.SetComp elt [⟨tg,iter,ifs,0⟩] scope pos2] X.env=[(false,eval (.SetComp elt [⟨tg,iter,ifs,0⟩] scope pos2) X.env)]:=by rfl)
  (hs:∀x,B2 iter X.env x=pure x:=by intro _;rfl):QE X (.Call (.Name "sorted" p) [.SetComp elt [⟨tg,iter,ifs,0⟩] scope pos2] [] pos) (abP mp wi g tc te):=
 ⟨acA N mp hgl hml hNX hkX S hc hi.h (λcl C s H fp=>(hg cl C s H fp).h) (λcl C s H fp=>(ht cl C s H fp).h) (λcl C s H fp=>(he cl C s H fp).h) hse hs⟩
end
def jf(ss:Sts)(lab:Int)(ord:List Nat):List Nat:=ord.filter λk=>decide ((bJ ss k).2.2≠lab)
def DP:Sp:=λvs H Q _=>∃(sa wa t p:ID)(lab:Int)(xs:List V)(ok:ID->Prop)(ss:Sts)(ws zs:List Int)(ord:List Nat),vs=[.ref sa,.ref wa,.ref t,.ref p,.int lab]/\H sa=GT (.lst xs)/\aG ok H xs (ss.map stD)/\H wa=GT (.lst (ws.map As))/\ws.length=ss.length/\m7 H t zs/\(∀k∈ord,k<ss.length)/\ord.length<=60/\aH (λ_=>True) H (.ref p) (.list (ord.map (Ob ss zs))) /\
 ∀H',Same H H'->Q (.int (uN ss ws zs (sumK ws ord) (jf ss lab ord))) H'
def jb(ss:Sts)(ws zs:List Int)(W:Int)(ord:List Nat)(lab:Int):Int:=uN ss ws zs W (jf ss lab ord)
theorem V8{l m:List Int}(h:l.Perm m):l.sum=m.sum:=by
 induction h with
 | nil=>rfl
 | cons a _ ih=>rw[Fc,Fc,ih]
 | swap a b l=>simp only[Fc];omega
 | trans _ _ i1 i2=>exact i1.trans i2
def aex(mp:List (Option Nat))(g:TG)(tc:TT)(te:TE)(σ:St)(Q:VK)(J:It)(H1:Hp):Prop:=
 ∃W:Nat->Nat->List Int->St->Hp->Prop,(∃m,W 0 m [] (fM mp σ) H1)/\∀i m acc τ H2,W i m acc τ H2 ->
  (J.stop i H2/\∀d (ys:List Int),H2 d=Is->acc.Nodup->ys.Perm acc->(acc.length<64->ys.Pairwise (·<=·))->Q (.ref d) (upd H2 d (.lst (ys.map As)))) \/
  (J.go i H2/\acc.length<63/\∃N:List Int->St->Hp->Prop,(∀acc' τ' H',N acc' τ' H'->∃m',m'<m/\W (i+1) m' acc' τ' H')/\∀x H3,J.yld i H2 x H3->g x τ H3 λτ1 H4=>tc τ1 H4 λb H5=>
   if b=true then te τ1 H5 λv H6=>∃k:Int,v=.int k/\N (ur acc k) τ1 H6 else N acc τ1 H5)
theorem adH{mp:List (Option Nat)}{wi:TI}{g:TG}{tc:TT}{te:TE}{σ:St}{H:Hp}{Q:VK}(h:∀R,R=aex mp g tc te σ Q->wi σ H R):abP mp wi g tc te σ H Q:=h _ rfl
theorem adG{K:AD}{mp:List (Option Nat)}{g:TG}{tc:TT}{te:TE}{σ:St}{H:Hp}{Q:VK}{R:It->Hp->Prop}{a:ID}{xs:List V}(hR:R=aex mp g tc te σ Q)(hx:xs.length<63)(Pv:Nat->List Int->St->Hp->Prop)(h0:Pv 0 [] (fM mp σ) H)(hl:∀i acc τ H,Pv i acc τ H->acc.length<=i)
  (hq:∀i acc τ H,Pv i acc τ H->SqL K H a xs)
  (hs:∀i x acc τ H,xs[i]?=GT x->Pv i acc τ H->g x τ H λτ1 H4=>tc τ1 H4 λb H5=>if b=true then te τ1 H5 λv H6=>∃k:Int,v=.int k/\Pv (i+1) (ur acc k) τ1 H6 else Pv (i+1) acc τ1 H5)
  (hd:∀acc τ H d (ys:List Int),Pv xs.length acc τ H->H d=Is->ys.Perm acc->(acc.length<64->ys.Pairwise (·<=·))->acc.Nodup->Q (.ref d) (upd H d (.lst (ys.map As)))):R (Itl K a) H:=by
 rw[hR];refine⟨λi m acc τ H2=>Pv i acc τ H2/\i<=xs.length/\m=xs.length-i,⟨_,h0,DJ _,rfl⟩,λi m acc τ H2 ⟨p,hi,hm⟩=>?_⟩;rcases G2 i xs.length with z|z
 ·refine .inr ⟨⟨xs,xs[i],hq i acc τ H2 p,AF z⟩,by have:=hl i acc τ H2 p;omega,λacc' τ' H'=>Pv (i+1) acc' τ' H',λacc' τ' H' p'=>⟨xs.length-(i+1),ω,p',z,rfl⟩,λx H3 y=>?_⟩;obtain⟨rfl,hx'⟩:=y;exact hs i x acc τ _ (hx' xs (hq i acc τ _ p)) p
 have e:i=xs.length:=ω;subst e;exact .inl ⟨⟨xs,hq _ acc τ H2 p,AU _⟩,λd ys h1 h2 h3 h4=>hd acc τ H2 d ys p h1 h3 h4 h2⟩
theorem Yy{acc:List Int}{k l:Int}:l∈ur acc k↔l∈acc\/l=k:=by
 unfold ur;split
 ·rename_i c;obtain⟨x,mx,e⟩:=List.any_eq_true.mp c;have e:x=k:=by simpa using e
  exact⟨.inl,λh=>h.elim id λz=>by rw[z,<- e];exact mx⟩
 rw[Cf,AL]
theorem Al{ys:List Int}(h:ys.Pairwise (·<=·))(n:ys.Nodup):ys.Pairwise (· < ·):=(h.and n).imp λ{a b} z=>by
 have h1:a<=b:=z.1;have h2:a≠b:=z.2;omega
end L2
namespace HT
open PySem PySem.Spec PyProof.Rows
end HT
namespace L2
open PySem PySem.Spec PyProof.Rows
def aeX(ss:Sts)(ws zs:List Int)(lab:Int)(ol:List Nat):Prop:=ol.Perm (aef ss lab)/\(ol.map (iI ss ws zs)).Pairwise (· < ·)
def adw(ss:Sts)(ws zs:List Int)(H:Hp)(lab:Int)(q:ID):Prop:=∃ol,aeX ss ws zs lab ol/\H q=GT (.tup [.int (uN ss ws zs ws.sum ol),.int lab])
structure Pairs(ss:Sts)(ws zs:List Int)(H:Hp)(ys:List Int)(qs:List ID):Prop where
 len:qs.length=ys.length
 all:∀(m:Nat) q lab,qs[m]?=GT q->ys[m]?=GT lab->adw ss ws zs H lab q
theorem adh{lo:Int}{n:Nat}{g:TG}{tb:TS}{D:Ends}{σ:St}{H:Hp}{R:It->Hp->Prop}(hR:R=(λJ H1=>∃W:Nat->Nat->St->Hp->Prop,(∃m,W 0 m σ H1)/\∀i m σ H,W i m σ H ->
  (J.stop i H/\D.nx σ H)\/(J.go i H/\∃N:St->Hp->Prop,(∀σ' H',N σ' H'->∃m',m'<m/\W (i+1) m' σ' H')/\∀x H',J.yld i H x H'->g x σ H' λσ2 H2=>tb { D with nx:=N,ct:=N,bk:=D.nx } σ2 H2)))
  (Pv:Nat->St->Hp->Prop)(h0:Pv 0 σ H)(hs:∀i σ H,i<n->Pv i σ H->g (.int (lo-i)) σ H λσ2 H2=>tb { D with nx:=Pv (i+1),ct:=Pv (i+1),bk:=D.nx } σ2 H2)(hd:∀σ H,Pv n σ H->D.nx σ H):R (TV lo n) H:=by
 subst hR;refine⟨λi m σ H=>m=n-i/\i<=n/\Pv i σ H,⟨n,rfl,DJ _,h0⟩,?_⟩;rintro i m σ H ⟨rfl,hi,p⟩;by_cases hlt:i<n
 ·refine .inr ⟨hlt,Pv (i+1),λσ' H' p'=>⟨n-(i+1),ω,rfl,hlt,p'⟩,λx H' y=>?_⟩;obtain⟨rfl,rfl⟩:=y;exact hs i σ _ hlt p
 have e:i=n:=ω;subst e;exact .inl ⟨AU _,hd σ H p⟩
section
variable {mp:List (Option Nat)}{wi wi2:TI}{g g2:TG}{te:TE}{σ τ1:St}{H:Hp}{Q:VK}{R:It->Hp->Prop}
theorem Yj{lo:Int}{n:Nat}(hR:R=abF mp g wi2 g2 te σ Q)(Pv:Nat->List V->St->Hp->Prop)(h0:Pv 0 [] (fM mp σ) H)
  (hs:∀i acc τ H,i<n->Pv i acc τ H->g (.int (lo-i)) τ H λτ1 H4=>∀R2:It->Hp->Prop,R2=InW g2 te (Pv (i+1)) acc τ1->wi2 τ1 H4 R2)
  (hg:∀x τ H k k',(∀τ' H',k τ' H'->k' τ' H')->g x τ H k->g x τ H k')
  (hd:∀acc τ H d,Pv n acc τ H->H d=Is->Q (.ref d) (upd H d (.lst acc))):R (TV lo n) H:=by
 subst hR;refine⟨λi m acc τ H2=>m=n-i/\i<=n/\Pv i acc τ H2,⟨_,rfl,DJ _,h0⟩,?_⟩;rintro i m acc τ H2 ⟨rfl,hi,p⟩;by_cases hlt:i<n
 ·refine .inr ⟨hlt,Pv (i+1),λacc' τ' H' q=>⟨_,ω,rfl,hlt,q⟩,λx H3 y=>?_⟩;obtain⟨rfl,rfl⟩:=y;exact hg _ _ _ _ _ (λτ' H' z=>z _ Z) (hs i acc τ _ hlt p)
 have e:i=n:=ω;subst e;exact .inl ⟨AU _,λd hd'=>hd acc τ H2 d p hd'⟩
theorem aeP{lo:Int}{n:Nat}{N:List V->St->Hp->Prop}{acc0:List V}(hR:R=InW g2 te N acc0 τ1)(Pw:Nat->List V->St->Hp->Prop)(h0:Pw 0 acc0 τ1 H)
  (hl:∀j acc τ H,j<n->Pw j acc τ H->acc.length<AK)
  (hs:∀i acc τ H,i<n->Pw i acc τ H->g2 (.int (lo+i)) τ H λτ3 H8=>te τ3 H8 λv H9=>Pw (i+1) (acc++[v]) τ3 H9)
  (hd:∀acc τ H,Pw n acc τ H->N acc τ H):R (Itr lo n) H:=by
 subst hR;refine⟨λi m acc τ H2=>m=n-i/\i<=n/\Pw i acc τ H2,⟨_,rfl,DJ _,h0⟩,?_⟩;rintro i m acc τ H2 ⟨rfl,hi,p⟩;by_cases hlt:i<n
 ·refine .inr ⟨hlt,hl i acc τ H2 hlt p,Pw (i+1),λacc' τ' H' q=>⟨_,ω,rfl,hlt,q⟩,λx H3 y=>?_⟩;obtain⟨rfl,rfl⟩:=y;exact hs i acc τ _ hlt p
 have e:i=n:=ω;subst e;exact .inl ⟨AU _,hd acc τ H2 p⟩
end
section
variable {X:Cx}
def ab5:TF:=λo i v H Q=>∃(a:ID)(H4:Hp),o=.ref a/\rT H a i v H4/\Q H4
theorem U7(hu:X.A.units+1<FU):TQ X ab5:=by
 intro pins s σ H o i v ov iv u Q I ro ri rv h;obtain⟨a,H4,rfl,g,q⟩:=h;cases ro;exact Ey hu I g ri rv λs4 I4=>⟨H4,I4,q⟩
end
end L2
namespace SRT
open PySem PyProof.Rows PySem.SeqAt
open MeetsSeq MeetsSeq2 MeetsSeq3 SeqRoads2 AutoSeq1
theorem ab3(l:ID)(items:Array Ap)(n:Nat)(x:Ap)(e:Ap->Bool)(j:Nat)(hj:j<items.size)(hit:e items[j]=true)(hs1:items.size<=AK)(k:Nat) :
  ∀i:Nat,j-i=k->i<=j->(∀m (hm:m<items.size),i<=m->m<j->e items[m]=false)->Meets (AI.«list.remove.loop» ⟨[.ref l,x,C0 i],[]⟩)
   (λA R s=>s.heap.get? l=GT { cls:=.type "list",dict:=Is,data:=.seq items n,slots:=#[] }/\(∀y,y∈items->EqAt A.in1 s y x (e y))/\R (.ok (.ret .none)) { s with heap:=s.heap.update l (Ch λxs=>xs.eraseIdxIfInBounds j) }):=by
 induction k with
 | zero=>
  intro i hk hij hno prog w A R s h;obtain⟨hp,g,d,tk,os⟩:=s;obtain⟨hl,he,h⟩:=h;obtain rfl:i=j:=by omega
  wp_walk using GH hl
  rw[show items[((i:Nat):Int).toNat]?=GT items[i] by simp[hj]];refine An (he _ (Array.getElem_mem hj) prog w _ _ ?_);rw[hit];have hz:(items.eraseIdxIfInBounds i).size<=AK+1:=CF (size_erased items _) (Nat.le_succ_of_le hs1)
  wp_walk using (wpAny_updateSeq hl Z (hz:=hs1) (_hz':=hz)),GH hl
  simpa using h
 | succ k ih=>
  intro i hk hij hno prog w A R s h;obtain⟨hp,g,d,tk,os⟩:=s;obtain⟨hl,he,h⟩:=h;have hi:i<items.size:=ω
  wp_walk using GH hl
  rw[show items[((i:Nat):Int).toNat]?=GT items[i] by simp[hi]];refine An (he _ (Array.getElem_mem hi) prog w _ _ ?_);rw[hno i hi (AU _) ω]
  wp_walk
  rw[show((i:Int)+1)=((i+1:Nat):Int) by push_cast;rfl];refine⟨HR plain_remove_loop _,C5 entry_remove_loop ?_⟩;rw[A5.under_plainId plain_remove_loop _];exact ih (i+1) ω ω (λm hm h1 h2=>hno m hm ω h2) prog w A R _ ⟨hl,he,h⟩
theorem Rg(l:ID)(items:Array Ap)(n:Nat)(x:Ap)(e:Ap->Bool)(j:Nat)(hj:j<items.size)(hit:e items[j]=true)(hno:∀m (hm:m<items.size),m<j->e items[m]=false)(hs1:items.size<=AK) :
  Meets (AI.«list.remove» ⟨[.ref l,x],[]⟩)
   (λA R s=>s.heap.get? l=GT { cls:=.type "list",dict:=Is,data:=.seq items n,slots:=#[] }/\(∀y,y∈items->EqAt A.in1 s y x (e y))/\R (.ok (.ret .none)) { s with heap:=s.heap.update l (Ch λxs=>xs.eraseIdxIfInBounds j) }):=by
 intro prog w A R s h;obtain⟨hp,g,d,tk,os⟩:=s;obtain⟨hl,he,h⟩:=h
 wp_walk using GH hl
 refine⟨HR plain_remove_loop _,C5 entry_remove_loop ?_⟩;rw[A5.under_plainId plain_remove_loop _];exact ab3 l items n x e j hj hit hs1 _ 0 Z (DJ _) (λm hm _ h2=>hno m hm h2) prog w A R _ ⟨hl,he,h⟩
end SRT
namespace L2
open PySem PySem.Spec PyProof.Rows
def eqG(g:ID->Int×Int)(q:ID):Ap->Bool
 | .ref p=>decide (g p=g q)
 | _=>false
def Vr:V->List V->Hp->VK->Prop:=λx vs H Q=>∃(l q:ID)(ps:List ID)(g:ID->Int×Int),x=.ref l/\vs=[.ref q]/\H l=GT (.lst (ps.map AS))/\q∈ps/\(∀p∈ps,H p=GT (.tup [.int (g p).1,.int (g p).2]))/\ps.length<=1000000 /\
 ∀j,(ps.map g).idxOf (g q)=j->Q .non (upd H l (.lst ((ps.eraseIdx j).map AS)))
theorem Im:∀{ps:List ID}{us:List Ap}{m:Nat}{v:Ap},Vals (ps.map AS) us->us[m]?=GT v->∃p,ps[m]?=GT p/\v=.ref p
 | [],us,m,v,r,e=>by cases r;cases e
 | p::ps,us,m,v,r,e=>by
  cases r with
  | cons r1 rr=>
   cases m with
   | zero=>cases e;cases r1;exact⟨p,rfl,rfl⟩
   | succ m=>exact Im (ps:=ps) rr e
section
variable {X:Cx}
theorem aaO(hu:X.A.in1.units<FU):MtM X "list.remove" Vr:=by
 intro pins s σ H x vs v us Q I rx rv h;obtain⟨l,q,ps,g,rfl,rfl,hH,hq,hg,hl,qq⟩:=h;cases rx;obtain⟨u,rfl,ru⟩:=rv.one;cases ru;obtain⟨z,its,n,r,hll,e⟩:=I.Jv hH;have hz:its.length=ps.length:=by have:=r.length;rw[AE] at this;omega
 obtain⟨j,hj⟩:∃j,(ps.map g).idxOf (g q)=j:=⟨_,rfl⟩;have hmem:g q∈ps.map g:=FE hq;have hjl:j<ps.length:=by rw[<- hj,<- AE (f:=g)];exact IE hmem
 have get:∀(m:Nat)(hm:m<its.toArray.size),∃p,ps[m]?=GT p/\its.toArray[m]=.ref p:=λm hm=>by
  have hm':m<its.length:=by simpa using hm
  obtain⟨p,e1,e2⟩:=Im r (AF hm');exact⟨p,e1,by simpa using e2⟩
 refine EA F.slot_list_remove ⟨_,e,rfl⟩ F.entry_list_remove (F.args_list_remove_2 _ _) (SRT.Rg l its.toArray n (.ref q) (eqG g q) j (by simp;omega) ?_ (λm hm hlt=>?_) (by rw[AX];exact CF ω (aM (AU 1000000)))) ⟨e,λy hy=>?_,?_⟩
 ·obtain⟨p,e1,e2⟩:=get j (by simp;omega);rw[e2];have:(ps.map g)[j]?=GT (g q):=by
   subst hj;rw[AF (IE hmem),List.getElem_idxOf]
  rw[AQ,e1] at this;exact decide_eq_true (BI this)
 ·obtain⟨p,e1,e2⟩:=get m hm;rw[e2];refine decide_eq_false λz=>?_;rw[<- hj] at hlt;have:=List.not_of_lt_findIdx (p:=(· == g q)) (xs:=ps.map g) (i:=m) hlt;rw[List.getElem_map] at this;have e3:ps[m]'ω=p:=by rw[AF ω] at e1;exact BI e1
  rw[e3,z] at this;simp at this
 ·obtain⟨m,hm,rfl⟩:=Array.getElem_of_mem hy;obtain⟨p,e1,e2⟩:=get m hm;rw[e2];by_cases hpq:p=q
  ·subst hpq;rw[show eqG g p (.ref p)=true from decide_eq_true rfl];exact BF.same _
  have h1:=hg p (BB e1);have h2:=hg q hq;obtain⟨its1,r1,pl1,hz1⟩:=I.tuple (SqT.of h1);obtain⟨its2,r2,pl2,hz2⟩:=I.tuple (SqT.of h2);cases r1 with
  | cons x1 r1=>
   cases r1 with
   | cons x2 r1=>
    cases r1;cases r2 with
    | cons y1 r2=>
     cases r2 with
     | cons y2 r2=>
      cases r2;obtain⟨t1,rfl⟩:=x1;obtain⟨t2,rfl⟩:=x2;obtain⟨t3,rfl⟩:=y1;obtain⟨t4,rfl⟩:=y2;refine BF.of_refs hpq ?_;have:=SeqAt.RcAt.tuples (A:=X.A.in1) (e:=λj=>if j=0 then (g p).1 == (g q).1 else (g p).2 == (g q).2) pl1 pl2 hu (λj h1 h2=>?_)
      ·rw[show eqG g q (.ref p)=((g p).1 == (g q).1&&(g p).2 == (g q).2) from ?_]
       ·have e5:((Bi (min 2 2)).all (λj=>if j=0 then (g p).1 == (g q).1 else (g p).2 == (g q).2)&&(2 == 2))=((g p).1 == (g q).1&&(g p).2 == (g q).2):=by
         show(((if (0:Nat)=0 then (g p).1 == (g q).1 else (g p).2 == (g q).2)&&((if (1:Nat)=0 then (g p).1 == (g q).1 else (g p).2 == (g q).2)&&true))&&true)=_;rw[if_pos rfl,if_neg δ,Mn,Mn]
        rw[<- e5];exact this
       show decide (g p=g q)=_;rw[GG,decide_eq_true_eq,CL,beq_iff_eq,beq_iff_eq];exact Prod.ext_iff
      have h1':j<2:=h1
      match j,h1' with
      | 0,_=>exact BF.int_int (g p).1 t1 (g q).1 t3
      | 1,_=>exact BF.int_int (g p).2 t2 (g q).2 t4
 refine⟨.non,_,I.aaQ (ys:=(ps.eraseIdx j).map AS) (its':=its.eraseIdx j) hH e ?_ ?_ ?_,rfl,qq j hj⟩
 ·simp[Array.eraseIdxIfInBounds];omega
 ·rw[vh];exact Vals.eraseIdx _ r
 rw[AE,Lm];split <;> exact aM ω
variable {o e:Expr}{to te:TE}
def Vm(x:V)(te:TE)(σ:St)(H1:Hp)(Q:VK):Prop:=match x with
 | .ref l=>isq (H1 l)/\te σ H1 λy H2=>Vr (.ref l) [y] H2 Q
 | _=>False
def abu(to te:TE):TE:=λσ H Q=>to σ H λx H1=>Vm x te σ H1 Q
theorem Uk(to te:TE)(σ:St)(H:Hp)(Q:VK):abu to te σ H Q=to σ H λx H1=>Vm x te σ H1 Q:=rfl
theorem Rh(l:ID)(te:TE)(σ:St)(H1:Hp)(Q:VK):Vm (.ref l) te σ H1 Q=(isq (H1 l)/\te σ H1 λy H2=>Vr (.ref l) [y] H2 Q):=rfl
theorem ZG{apos cpos:Pos}(hu:X.A.in1.units<FU)(ho:QE X o to)(he:QE X e te)
  (hbase:DM o "remove" X.env (eval o X.env)=eval o X.env:=by rfl)
   (hfew:((CS cpos (AH [e] X.env)).all (λx=>!x.1)&&(Hb cpos (Ff [] X.env)).all (λx=>x.1.isSome)
   && decide ([e].length+([]:List EJ).length+(if ([]:List EJ).isEmpty then 0 else 1)<30))=true:=by rfl)
  (hline:(apos.endLine == cpos.line)=true:=by rfl) (hs:AH [e] X.env=(false,eval e X.env)::AH [] X.env:=by rfl) (hplain:(CS cpos (AH [] X.env)).any (·.1)=false:=by rfl) :
  QE X (.Call (.Attribute o "remove" apos) [e] [] cpos) (abu to te):=⟨by
 intro pins s σ H Q I h;refine ES hbase hfew hline Z (thE (ho.h pins s σ H _ I h) λv s1 x H1 I1 r1 q=>?_);cases x with
 | ref l=>
  obtain⟨q1,q2⟩:=q;cases el:H1 l with
  | none=>rw[el] at q1;exact q1.elim
  | some ob=>
   cases ob with
   | lst xs=>
    obtain⟨h1,h2⟩:=pK (T := "list") I1 r1 (.inl ⟨rfl,xs,SqL.of el⟩);refine⟨"list","list.remove",D0,PySem.F.slot_list_remove,PySem.F.type_list_remove,h1,h2,?_⟩;rw[hs];refine DC (by show(false||(CS cpos (AH [] X.env)).any (·.1))=false;rw[hplain] <;> rfl) (EG ?_)
    refine B9 (thE (he.h pins s1 σ H1 _ I1 q2) λu s2 y H2 I2 r2 q3=>B6 ?_);exact aaO hu pins s2 σ H2 (.ref l) [y] v [u] Q I2 r1 (.cons r2 .nil) q3
   | _=>rw[el] at q1;exact q1.elim
 | _=>exact q.elim⟩
end
def adI:List Nat->Nat
 | []=>0
 | k::l=>2^k+adI l
def Qw(n s:Nat):List Nat:=(Bi n).filter λk=>s.testBit k
inductive Wy where
 | pick (l:Int)
 | tab
 | msk (l:Int)
 | one (k:Nat)
 | wit (k:Nat)
 | low (k:Nat)
def hdL:Wy->List A0
 | .pick l=>[.str "pick",.int l]
 | .tab=>[.str "table"]
 | .msk l=>[.str "mask",.int l]
 | .one k=>[.str "is",.int (k:Int)]
 | .wit k=>[.str "within",.int (k:Int)]
 | .low k=>[.str "below",.int (k:Int)]
def aeL(ss:Sts)(left:List Nat):Wy->List (List Nat)
 | .pick _=>[]
 | .tab=>[]
 | .msk l=>[left.filter λk=>(bJ ss k).2.2≠l]
 | .one k=>[left.filter (·≠k)]
 | .wit k=>[left.filter (·≠k)]
 | .low k=>[left.filter (· < k),left.filter (k<=·)]
section
variable {ok:ID->Prop}{σ:St}{H:Hp}{te:TE}{d:A0}{ds:List A0}{D:Ends}{i:Nat}
theorem gvV{v:V}(h:σ[i]?=GT (GT v))(t:aH ok H v d):Gv ok (tV i) σ H d:=λH2 s Q q=>by
 unfold tV;rw[h];exact q _ _ (Same.refl _) (t.same s)
theorem Yx{r:ID}{xs:List V}(hσ:σ[i]?=GT (GT (.ref r)))(er:H r=GT (.lst xs))(hx:xs.length<1000000)(hr:∀a,ok a->a≠r)(t:aG ok H xs ds)(h:Gv ok te σ H d)
  (q:∀v H',Same H H'->aG ok (upd H' r (.lst (xs++[v]))) (xs++[v]) (ds++[d])->D.nx σ (upd H' r (.lst (xs++[v])))):Hx (Hy (tV i) te) D σ H:=by
 unfold Hx Hy tV;rw[hσ];show abp _ _ _ _ _;rw[Kg];refine⟨by rw[er];trivial,h H (Same.refl _) _ λv H' s tv=>?_⟩;rw[s _ _ er,vN];refine⟨BS hx δ,q v H' s ?_⟩;exact((t.same s).append (.cons tv .nil)).keep λa o h e=>⟨h,by rw[aJ (hr a h)];exact e⟩
end
theorem adb{ok:ID->Prop}{σ:St}{H:Hp}{i:Nat}{p:ID}{L:List Int}(hσ:σ[i]?=GT (GT (.ref p)))(e:H p=GT (.lst (L.map As)))(hL:0<L.length):Gv ok (tOp KZ (tV i) (tC (As 0))) σ H (.int (L.getD 0 0)):=λH' s Q q=>by
 unfold tOp tV tC;rw[hσ];show KZ (.ref p) (.int 0) H' Q;rw[zL,s _ _ e,PJ];cases L with
 | nil=>exact absurd hL δ
 | cons x L=>exact⟨As x,cH (xs:=As x::L.map As) (j:=0) rfl,q _ _ (Same.refl _) (.int x)⟩
def aey(ss:Sts)(left:List Nat):Wy->Prop
 | .pick l=>∀k∈left,lbl ss k=l
 | .tab=>cU ss left<=200
 | .msk l=>cU ss left<=64/\(∃k∈left,lbl ss k=l)/\∃k∈left,lbl ss k≠l
 | .one k=>(k∈left/\1<left.length)/\(bJ ss k).1=(bJ ss k).2.1
 | .wit k=>k∈left/\1<left.length
 | .low k=>k∈left.drop 1
def mkP:Wy->List Pl->Pl
 | .pick l,_=>.pick l
 | .tab,_=>.tab
 | .msk l,ps=>.msk l (ps.getD 0 .tab)
 | .one k,ps=>.one k (ps.getD 0 .tab)
 | .wit k,ps=>.wit k (ps.getD 0 .tab)
 | .low k,ps=>.low k (ps.getD 0 .tab) (ps.getD 1 .tab)
def aez(w:Wy):Pl:=mkP w []
def adB(f:List Nat->Pl->Int)(N:List Int)(ss:Sts)(left:List Nat)(w:Wy):Int:=f left (aez w)+((aeL ss left w).map λp=>N.getD (adI p) 0).sum
def adz(f:List Nat->Pl->Int)(N:List Int)(ss:Sts)(left:List Nat)(c:Int):Prop:=(∃w,aey ss left w/\c=adB f N ss left w)/\∀w,aey ss left w->c<=adB f N ss left w
def abA(is:List Int)(w:Int)(j:Nat):Prop:=is[j]?=GT w/\∀m<j,is[m]?≠GT w
def Ut(K:AD)(to te:TE):TE:=λσ H Q=>to σ H λx H1=>∃(p:ID)(is:List Int),x=.ref p/\SqL K H1 p (is.map As)/\te σ H1 λy H2=>∃w,y=.int w/\SqL K H2 p (is.map As)/\w∈is/\∀j,abA is w j->Q (.int (j:Nat)) H2
theorem Xz:∀{is:List Int}{w:Int},w∈is->∃j,abA is w j
 | a::is,w,h=>by
  by_cases c:a=w
  ·subst c;exact⟨0,rfl,λm hm=>ω⟩
  obtain⟨j,h1,h2⟩:=Xz (is:=is) (w:=w) (by
   rcases A1.mp h with z|z
   ·exact absurd z.symm c
   exact z)
  refine⟨j+1,h1,λm hm=>?_⟩;cases m with
  | zero=>intro z;exact c (BI z)
  | succ m=>exact h2 m ω
section
variable {X:Cx}{o e:Expr}{to te:TE}
theorem aal{apos cpos:Pos}(hu:X.A.in1.units<FU)(ho:PE X o to)(he:PE X e te)
  (hbase:DM o "index" X.env (eval o X.env)=eval o X.env:=by rfl)
   (hfew:((CS cpos (AH [e] X.env)).all (λx=>!x.1)&&(Hb cpos (Ff [] X.env)).all (λx=>x.1.isSome)
   && decide ([e].length+([]:List EJ).length+(if ([]:List EJ).isEmpty then 0 else 1)<30))=true:=by rfl)
  (hline:(apos.endLine == cpos.line)=true:=by rfl) (hs:AH [e] X.env=(false,eval e X.env)::AH [] X.env:=by rfl) (hplain:(CS cpos (AH [] X.env)).any (·.1)=false:=by rfl) :
  PE X (.Call (.Attribute o "index" apos) [e] [] cpos) (Ut X.K to te):=by
 intro pins s σ H Q I h;refine ES hbase hfew hline Z (thE (ho pins s σ H _ I h) λv s1 x H1 I1 r1 q=>?_);obtain⟨p,is,rfl,hq,q⟩:=q;obtain⟨h1,h2⟩:=pK (T := "list") I1 r1 (.inl ⟨rfl,_,hq⟩);refine⟨"list","list.index",D0,PySem.F.slot_list_index,PySem.F.type_list_index,h1,h2,?_⟩;rw[hs];refine DC (by show(false||(CS cpos (AH [] X.env)).any (·.1))=false;rw[hplain] <;> rfl) (EG ?_)
 refine B9 (thn (he pins s1 σ H1 _ I1 q) λu s2 ⟨y,H2,I2,r2,w,ey,hq2,hw,q3⟩=>B6 ?_);subst ey;obtain⟨j,hf⟩:=Xz hw;cases r1;obtain⟨its,rv,pl,hz⟩:=I2.list hq2;have hl:=rv.length;rw[AE] at hl;have hj:j<its.length:=by have:=(AM.mp hf.1).1;omega
 have at':∀m (hm:m<its.length),∃t,its[m]=DO (is.getD m 0) t:=λm hm=>nj rv m _ (by simp[AF hm]);have gd:∀m,m<its.length->is[m]?=GT (is.getD m 0):=λm hm=>by
  rw[A4,AF ω];rfl
 obtain⟨tu,rfl⟩:=r2;obtain⟨ob,n,eo,ec,ed,es⟩:=pl;cases ob with
 | mk cls dict data slots=>
  cases ec;cases es;have hj2:((j:Nat):Int)<2^63-1:=by
   have hl:=rv.length;have:=IZ;omega
  refine EA F.slot_list_index ⟨_,eo,rfl⟩ F.entry_list_index (F.args_list_index_2 _ _) (SeqAt.list_indexAt p its.toArray n _ _ (.int w tu) (λy=>match y with | .int z _=>z == w|_=>false) j (by simpa using hj) hj2 ?_ ?_) ⟨eo,λy hy=>?_,?_⟩
  ·obtain⟨t,e⟩:=at' j hj;have:its.toArray[j]'(by simpa using hj)=DO (is.getD j 0) t:=by simpa using e
   rw[this];have:=hf.1;rw[gd j hj] at this;simpa using BI this
  ·intro m hm hmj;have hm':m<its.length:=by simpa using hm
   obtain⟨t,e⟩:=at' m hm';have:its.toArray[m]=DO (is.getD m 0) t:=by simpa using e
   rw[this];have:=hf.2 m hmj;rw[gd m hm'] at this;have:is.getD m 0≠w:=λz=>this (by rw[z]);simpa using this
  ·have hy':y∈its:=by simpa using hy
   obtain⟨m,hm,em⟩:=D9.mp hy';obtain⟨t,e⟩:=at' m hm;rw[em] at e;rw[e];exact BF.int_int _ t w tu
  exact⟨.int (j:Nat),H2,I2.tok _,⟨_,rfl⟩,q3 j hf⟩
theorem ZL{apos cpos:Pos}(hu:X.A.in1.units<FU)(ho:QE X o to)(he:QE X e te)
  (hbase:DM o "index" X.env (eval o X.env)=eval o X.env:=by rfl)
   (hfew:((CS cpos (AH [e] X.env)).all (λx=>!x.1)&&(Hb cpos (Ff [] X.env)).all (λx=>x.1.isSome)
   && decide ([e].length+([]:List EJ).length+(if ([]:List EJ).isEmpty then 0 else 1)<30))=true:=by rfl)
  (hline:(apos.endLine == cpos.line)=true:=by rfl) (hs:AH [e] X.env=(false,eval e X.env)::AH [] X.env:=by rfl) (hplain:(CS cpos (AH [] X.env)).any (·.1)=false:=by rfl) :
  QE X (.Call (.Attribute o "index" apos) [e] [] cpos) (Ut X.K to te):=⟨aal hu ho.h he.h hbase hfew hline hs hplain⟩
end
def plG:Pl->Pg
 | .pick l=>.pick l
 | .tab=>.tab
 | .one k r=>.one k (plG r)
 | .wit k r=>.wit k (plG r)
 | .low k a b=>.low k (plG a) (plG b)
 | .msk l r=>.msk l (plG r)
theorem Ei:∀p:Pl,pgD (plG p)=plD p
 | .pick l=>rfl
 | .tab=>rfl
 | .one k r=>by show A0.tuple [_,_,pgD (plG r)]=_;rw[Ei r];rfl
 | .wit k r=>by show A0.tuple [_,_,pgD (plG r)]=_;rw[Ei r];rfl
 | .low k a b=>by show A0.tuple [_,_,pgD (plG a),pgD (plG b)]=_;rw[Ei a,Ei b];rfl
 | .msk l r=>by show A0.tuple [_,_,pgD (plG r)]=_;rw[Ei r];rfl
theorem wg:∀p:Pl,WfG (plG p)
 | .pick l=>trivial
 | .tab=>trivial
 | .one k r=>wg r
 | .wit k r=>wg r
 | .low k a b=>⟨wg a,wg b⟩
 | .msk l r=>wg r
theorem rz:∀p:Pl,jV (plG p)=dw p
 | .pick l=>rfl
 | .tab=>rfl
 | .one k r=>congrArg (· + 1) (rz r)
 | .wit k r=>congrArg (· + 1) (rz r)
 | .low k a b=>by show jV (plG a)+jV (plG b)+1=_;rw[rz a,rz b];rfl
 | .msk l r=>congrArg (· + 1) (rz r)
theorem wj(ss:Sts):∀(p:Pl)(left:List Nat),okG ss (plG p) left=okP ss p left
 | .pick l,_=>rfl
 | .tab,_=>rfl
 | .one k r,left=>by show(jh ss left (.one k (plG r))&&okG ss (plG r) _)=_;rw[wj ss r];rfl
 | .wit k r,left=>by show(jh ss left (.wit k (plG r))&&okG ss (plG r) _)=_;rw[wj ss r];rfl
 | .low k a b,left=>by show(jh ss left (.low k (plG a) (plG b))&&(okG ss (plG a) _&&okG ss (plG b) _))=_;rw[wj ss a,wj ss b];rfl
 | .msk l r,left=>by show(jh ss left (.msk l (plG r))&&okG ss (plG r) _)=_;rw[wj ss r];rfl
theorem rE:∀{ds:List A0},(∀d∈ds,d.canLay0=true)->A0.canLayAll0 ds=true
 | [],_=>rfl
 | d::ds,h=>by
  show(d.canLay0&&A0.canLayAll0 ds)=true;rw[h d A7,rE λd hd=>h d (BE _ hd)];rfl
def Fz(ss:Sts)(ws:List Int):A0:=.tuple [.list (ss.map stD),.list (ws.map A0.int)]
theorem Dy(ss:Sts)(ws:List Int):(Fz ss ws).canLay0=true/\(Fz ss ws).depth<=100:=by
 constructor
 ·refine rE λd hd=>?_;rcases A1.mp hd with rfl|hd
  ·refine rE λd hd=>?_;obtain⟨s,_,rfl⟩:=DD.mp hd;rfl
  rw[AL.mp hd];refine rE λd hd=>?_;obtain⟨s,_,rfl⟩:=DD.mp hd;rfl
 have h1:=qJ (ds:=ss.map stD) (k:=2) λd hd=>by
  obtain⟨s,_,rfl⟩:=DD.mp hd;show(1:Nat)<=2;decide
 have h2:=qJ (ds:=ws.map A0.int) (k:=2) λd hd=>by
  obtain⟨s,_,rfl⟩:=DD.mp hd;show(0:Nat)<=2;decide
 show max (A0.depthAll (ss.map stD)+1) (max (A0.depthAll (ws.map A0.int)+1) 0)+1<=100;omega
def HJ:Sp:=λvs H Q _=>∃(sa wa t la:ID)(xs:List V)(ok:ID->Prop)(ss:Sts)(ws zs:List Int)(left:List Nat),vs=[.ref sa,.ref wa,.ref t,.ref la]/\H sa=GT (.lst xs)/\aG ok H xs (ss.map stD)/\ss.length<=60/\H wa=GT (.lst (ws.map As))/\ws.length=ss.length/\m7 H t zs/\H la=GT (.lst (nv left))/\Lf ss left/\left.length<=60 /\
 ∀(p:ID)(ord:List Nat) H',Same H H'->ord.Perm left->(ord.map (iI ss ws zs)).Pairwise (· < ·)->aH (λ_=>True) H' (.ref p) (.list (ord.map (Ob ss zs)))->Q (.ref p) H'
theorem tE{ss:Sts}{ws zs:List Int}:∀{left:List Nat},left.Pairwise (· < ·)->(∀k∈left,k<64)->(left.map (iI ss ws zs)).Nodup
 | [],_,_=>nodup_nil
 | a::l,h,h64=>by
  rw[CO] at h;refine GN.mpr ⟨λm=>?_,tE h.2 λk hk=>h64 k (BE _ hk)⟩;obtain⟨b,hb,e⟩:=DD.mp m;have:=h.1 b hb;exact Zk (h64 b (BE _ hb)) (h64 a A7) ω e
theorem Eh{H:Hp}:∀{ps:List ID}{left:List Nat}{g:Nat->Int×Int},ps.length=left.length->(∀(j:Nat) p k,ps[j]?=GT p->left[j]?=GT k->eX H p=g k)->ps.map (eX H)=left.map g
 | [],[],_,_,_=>rfl
 | p::ps,k::left,g,hl,h=>by
  rw[CB,CB,h 0 p k Z rfl,Eh (by simpa using hl) λj p k h1 h2=>h (j+1) p k h1 h2]
def sY(ss:Sts)(left:List Nat)(L:List Int):Prop:=L.Pairwise (· < ·)/\∀l,l∈L ↔ ∃k∈left,lbl ss k=l
def Ol:Sp:=λvs H Q _=>∃(sa wa t la:ID)(xs:List V)(ok:ID->Prop)(ss:Sts)(ws zs:List Int)(left:List Nat),vs=[.ref sa,.ref wa,.ref t,.ref la]/\H sa=GT (.lst xs)/\aG ok H xs (ss.map stD)/\ss.length<=60/\H wa=GT (.lst (ws.map As))/\ws.length=ss.length/\m7 H t zs/\H la=GT (.lst (nv left))/\Lf ss left/\left.length<=60 /\
 ∀(r:ID)(ts:List ID)(L:List Int)(ord:List Nat) H',Same H H'->H r=Is->H' r=GT (.lst (ts.map AS))->sY ss left L->ord.Perm left->(ord.map (iI ss ws zs)).Pairwise (· < ·)->ts.length=L.length ->
  (∀(j:Nat) t lab,ts[j]?=GT t->L[j]?=GT lab->∃v,H' t=GT (.tup [.int (jb ss ws zs (sumK ws left) ord lab),v])/\aH (λ_=>True) H' v (Cp ss zs lab (jf ss lab ord)))->Q (.ref r) H'
theorem Q5{ws:List Int}{a b:List Nat}(h:a.Perm b):sumK ws a=sumK ws b:=by
 unfold sumK;exact V8 (h.map _)
def gC:Int->List (Int×Int)->Int
 | _,[]=>0
 | W,x::r=>W*x.2+gC (W-x.1) r
def Fall(l:List (Int×Int)):Prop:=l.Pairwise λx y=>y.1*x.2<=x.1*y.2
theorem JL{a:Int×Int}:∀{pre post:List (Int×Int)}{W:Int},(∀b∈pre,b.1*a.2<=a.1*b.2)->gC W (a::(pre++post))<=gC W (pre++a::post)
 | [],post,W,_=>Iq _
 | b::pre,post,W,h=>by
  have ih:=JL (a:=a) (pre:=pre) (post:=post) (W:=W-b.1) λc hc=>h c (BE _ hc);have hb:=h b A7;show W*a.2+((W-a.1)*b.2+gC (W-a.1-b.1) (pre++post))<=W*b.2+gC (W-b.1) (pre++a::post);have e:gC (W-b.1) (a::(pre++post))=(W-b.1)*a.2+gC (W-a.1-b.1) (pre++post):=by
   show(W-b.1)*a.2+gC (W-b.1-a.1) (pre++post)=_;rw[show W-b.1-a.1=W-a.1-b.1 by omega]
  rw[e] at ih;rw[Int.sub_mul] at ih |-;omega
theorem Bq:∀{l o:List (Int×Int)}{W:Int},Fall l->o.Perm l->gC W l<=gC W o
 | [],o,W,_,p=>by rw[List.perm_nil.mp p];exact Iq _
 | a::l,o,W,hr,p=>by
  obtain⟨h1,h2⟩:=CO.mp hr;obtain⟨pre,post,rfl⟩:=List.append_of_mem (p.mem_iff.mpr A7);have p2:(pre++post).Perm l:=(List.perm_cons a).mp (List.perm_middle.symm.trans p);have ih:=Bq (l:=l) (o:=pre++post) (W:=W-a.1) h2 p2;refine Int.le_trans ?_ (JL (a:=a) (pre:=pre) (post:=post) λb hb=>h1 b (p2.mem_iff.mp (D8 _ hb)));show W*a.2+gC (W-a.1) l<=W*a.2+gC (W-a.1) (pre++post);omega
theorem aa7{l o:List (Int×Int)}{W:Int}(h:Fall l)(k:Fall o)(p:o.Perm l):gC W o=gC W l:=Int.le_antisymm (Bq k p.symm) (Bq h p)
def prK(ss:Sts)(ws zs:List Int)(k:Nat):Int×Int:=(ws.getD k 0,dB ss zs k)
theorem Pa(ss:Sts)(ws zs:List Int):∀(l:List Nat)(W:Int),uN ss ws zs W l=gC W (l.map (prK ss ws zs))
 | [],_=>rfl
 | k::l,W=>by
  show W*dB ss zs k+uN ss ws zs (W-ws.getD k 0) l=W*dB ss zs k+gC (W-ws.getD k 0) (l.map (prK ss ws zs));rw[Pa ss ws zs l]
theorem Ew{ss:Sts}{ws zs:List Int}(h0:1<=zs.getD 0 0)(h1:1<=zs.getD 1 0):∀{l:List Nat},(∀k∈l,k<64)->(l.map (iI ss ws zs)).Pairwise (· < ·)->Fall (l.map (prK ss ws zs))
 | [],_,_=>List.Pairwise.nil
 | a::l,h64,hr=>by
  rw[CB,CO] at hr;refine CO.mpr ⟨λy hy=>?_,Ew h0 h1 (λk hk=>h64 k (BE _ hk)) hr.2⟩;obtain⟨b,hb,rfl⟩:=DD.mp hy;have q:=hr.1 _ (FE (f:=iI ss ws zs) hb);have ha64:=h64 a A7;have hb64:=h64 b (BE _ hb);have nk:¬vo ss ws zs b<vo ss ws zs a:=by
   unfold iI at q;omega
  exact not_lt.mp λz=>nk ((S9 (ss:=ss) (ws:=ws) (zs:=zs) (p:=b) (b:=a) h0 h1).mp z)
theorem Io{x b n:Int×Int}(hx:0<x.2)(hb:0<b.2)(hn:0<n.2)(h1:x.1*b.2<=b.1*x.2)(h2:b.1*n.2<=n.1*b.2):x.1*n.2<=n.1*x.2:=by
 have h3:=Int.mul_le_mul_of_nonneg_right h1 (Int.le_of_lt hn);have h4:=Int.mul_le_mul_of_nonneg_right h2 (Int.le_of_lt hx);refine Int.le_of_mul_le_mul_right (show x.1*n.2*b.2<=n.1*x.2*b.2 from ?_) hb;rw[show x.1*n.2*b.2=x.1*b.2*n.2 by rw[L7,EM n.2,<- L7],show n.1*x.2*b.2=n.1*b.2*x.2 by rw[L7,EM x.2,<- L7]];rw[show b.1*n.2*x.2=b.1*x.2*n.2 by rw[L7,EM n.2,<- L7]] at h4;exact Int.le_trans h3 h4
def rng(a b:Nat):List Nat:=(Bi (b-a)).map (a + ·)
theorem eG{a b k:Nat}:k∈rng a b↔a<=k/\k<b:=by
 unfold rng;rw[DD];constructor
 ·rintro⟨j,hj,rfl⟩;have:=GV.mp hj;omega
 rintro⟨h1,h2⟩;exact⟨k-a,GV.mpr ω,ω⟩
theorem iT(a b:Nat):(rng a b).length=b-a:=by unfold rng;rw[AE,Fk]
theorem Ve(a b:Nat):(rng a b).Pairwise (· < ·):=K0.mpr (FX.imp λh=>ω)
theorem Vh{ss:Sts}{a b:Nat}(h:a<b)(hb:b<=ss.length):Lf ss (rng a b):=⟨λz=>by have:=iT a b;rw[z] at this;simp at this;omega,λk hk=>by have:=eG.mp hk;omega,Ve a b⟩
theorem v5{a k b:Nat}(h1:a<=k)(h2:k<=b):rng a b=rng a k++rng k b:=by
 unfold rng;rw[show b-a=(k-a)+(b-k) by omega,List.range_add,A6,Hm];congr 1;refine C4 λj _=>?_;show a+(k-a+j)=k+j;omega
theorem Vg{a k b:Nat}(h1:a<=k)(h2:k<=b):(rng a b).filter (· < k)=rng a k:=by
 rw[v5 h1 h2,Me,LJ.mpr λj hj=>by have:=eG.mp hj;simp;omega,FV.mpr λj hj=>by have:=eG.mp hj;simp;omega,EK]
theorem Vi{a k b:Nat}(h1:a<=k)(h2:k<=b):(rng a b).filter (k<=·)=rng k b:=by
 rw[v5 h1 h2,Me,FV.mpr λj hj=>by have:=eG.mp hj;simp;omega,LJ.mpr λj hj=>by have:=eG.mp hj;simp;omega,nil_append]
theorem Ef(n:Nat):rng 0 n=Bi n:=by
 unfold rng;rw[sub_zero];refine(C4 λj _=>?_).trans (map_id _);show 0+j=j;omega
theorem Vj(a b:Nat):uL (a:Int) (b-a)=nv (rng a b):=by
 unfold uL nv rng;rw[Hm];refine C4 λj _=>?_;show As ((a:Int)+(j:Nat))=As ((a+j:Nat):Int);congr 1
abbrev lJ:=Int×List A0×List (Nat×Nat)
def Ii(ss:Sts)(zs:List Int)(lab:Int):List Nat->List A0
 | []=>[.str "pick",.int lab]
 | k::r=>[.str (kO ss zs k),.int (k:Int),Cp ss zs lab r]
theorem Vd(ss:Sts)(zs:List Int)(lab:Int)(l:List Nat):Cp ss zs lab l=.tuple (Ii ss zs lab l):=by cases l <;> rfl
structure sW(ss:Sts)(ws zs:List Int)(left ord:List Nat):Prop where
 pm:ord.Perm left
 up:(ord.map (iI ss ws zs)).Pairwise (· < ·)
theorem sW.one{ss:Sts}{ws zs:List Int}{left o u:List Nat}(h:sW ss ws zs left o)(k:sW ss ws zs left u):o=u:=Ek (h.pm.trans k.pm.symm) h.up k.up
inductive m5 (ss:Sts)(ws zs:List Int)(a b:Nat):lJ->Prop
 | row (lab:Int) (ord:List Nat):(∃k∈rng a b,lbl ss k=lab)->sW ss ws zs (rng a b) ord->m5 ss ws zs a b (jb ss ws zs (sumK ws (rng a b)) ord lab,Ii ss zs lab (jf ss lab ord),[])
 | tab:cU ss (rng a b)<=200->m5 ss ws zs a b (zs.getD 4 0*sumK ws (rng a b),[.str "table"],[])
 | msk (l0 l1:Int):cU ss (rng a b)<=64->sY ss (rng a b) [l0,l1]->m5 ss ws zs a b (zs.getD 3 0*sumK ws (rng a b),[.str "mask",.int l0,.tuple [.str "pick",.int l1]],[])
 | low (k:Nat):a<k->k<b->m5 ss ws zs a b (zs.getD 2 0*sumK ws (rng a b),[.str "below",.int (k:Int)],[(a,k),(k,b)])
def rpD(x:Nat×Nat):A0:=.tuple [.int (x.1:Int),.int (x.2:Int)]
def rwD(x:lJ):A0:=.tuple [.int x.1,.tuple x.2.1,.list (x.2.2.map rpD)]
def nq(N:Nat->Nat->Int)(x:lJ):Int:=x.1+(x.2.2.map λp=>N p.1 p.2).sum
def dF(ss:Sts)(ws zs:List Int)(N:Nat->Nat->Int)(a b:Nat)(c:Int):Prop:=(∃x,m5 ss ws zs a b x/\c=nq N x)/\∀x,m5 ss ws zs a b x->c<=nq N x
theorem dF.uniq{ss:Sts}{ws zs:List Int}{N:Nat->Nat->Int}{a b:Nat}{c d:Int}(h:dF ss ws zs N a b c)(k:dF ss ws zs N a b d):c=d:=by
 obtain⟨⟨x,hx,ex⟩,l1⟩:=h;obtain⟨⟨y,hy,ey⟩,l2⟩:=k;have:=l1 y hy;have:=l2 x hx;omega
theorem Iu{ss:Sts}{ws zs:List Int}{a b:Nat}{x:lJ}(h:m5 ss ws zs a b x):∀p∈x.2.2,a<=p.1/\p.1<p.2/\p.2<=b/\p.2-p.1<b-a:=by
 cases h with
 | low k h1 h2=>
  intro p hp;rcases A1.mp hp with rfl|hp
  ·exact⟨AU _,h1,ω,ω⟩
  rw[AL.mp hp];exact⟨ω,h2,AU _,ω⟩
 | _=>intro p hp;cases hp
theorem dF.congr{ss:Sts}{ws zs:List Int}{N M:Nat->Nat->Int}{a b:Nat}{c:Int}(e:∀i j,a<=i->i<j->j<=b->j-i<b-a->N i j=M i j)(h:dF ss ws zs N a b c):dF ss ws zs M a b c:=by
 have key:∀x,m5 ss ws zs a b x->nq N x=nq M x:=λx hx=>by
  unfold nq;rw[C4 λp hp=>by obtain⟨h1,h2,h3,h4⟩:=Iu hx p hp;exact e _ _ h1 h2 h3 h4]
 obtain⟨⟨x,hx,ex⟩,l⟩:=h;exact⟨⟨x,hx,by rw[<- key x hx];exact ex⟩,λy hy=>by rw[<- key y hy];exact l y hy⟩
def O5(T:Nat->Nat->A0)(x:lJ):A0:=.tuple (x.2.1++x.2.2.map λp=>T p.1 p.2)
structure YB(N:Nat->Nat->Int)(ok:ID->Prop)(H:Hp)(r nd:ID)(xs:List V)(W:List lJ)(kn:List (List Key×V)):Prop where
 er:H r=GT (.lst xs)
 t:aG ok H xs (W.map rwD)
 hx:xs.length<=1000
 en:H nd=GT (.dT kn)
 at':∀x∈W,∀p∈x.2.2,gM kn (key2 p.1 p.2)=GT (.int (N p.1 p.2))
 hd:∀x∈W,x.2.1≠[]/\x.2.1.length<=10/\x.2.2.length<=2
def DX(N:Nat->Nat->Int):Sp:=λvs H Q _=>∃(r nd:ID)(ok:ID->Prop)(xs:List V)(W:List lJ)(kn:List (List Key×V)),vs=[.ref r,.ref nd]/\YB N ok H r nd xs W kn /\
 ∀b H',Same H H'->H b=Is->H' b=GT (.lst ((W.map (nq N)).map As))->Q (.ref b) H'
def zf(N:Nat->Nat->Int)(T:Nat->Nat->A0):Sp:=λvs H Q _=>∃(r nd pd:ID)(ok:ID->Prop)(xs:List V)(W:List lJ)(kn kp:List (List Key×V)),vs=[.ref r,.ref nd,.ref pd]/\YB N ok H r nd xs W kn/\gF ok H/\H pd=GT (.dT kp)/\(∀x∈W,∀p∈x.2.2,∃v,gM kp (key2 p.1 p.2)=GT v/\aH ok H v (T p.1 p.2))/\W≠[] /\
 ∀(v:V) x H',Same H H'->x∈W->(∀x'∈W,nq N x<=nq N x')->aH ok H' v (.tuple [.int (nq N x),O5 T x])->Q v H'
theorem sZ{ok:ID->Prop}{H:Hp}{y:V}{p:Nat×Nat}(t:aH ok H y (rpD p)):∃q,y=.ref q/\H q=GT (.tup [.int (p.1:Int),.int (p.2:Int)]):=by
 obtain⟨q,xs,rfl,e,tt⟩:=aH.dR t;cases aG.ints (is:=[(p.1:Int),(p.2:Int)]) tt;exact⟨q,rfl,e⟩
def kZ(n i:Nat):List (Nat×Nat):=(Bi (i+1)).map λj=>(n-1-i,n-i+j)
def gH(n i:Nat):List (Nat×Nat):=(Bi i).flatMap (kZ n)
theorem wY(n i:Nat):gH n (i+1)=gH n i++kZ n i:=by
 unfold gH;rw[range_succ,List.flatMap_append,List.flatMap_cons,List.flatMap_nil,EK]
theorem zK(n i:Nat):(kZ n i).length=i+1:=by unfold kZ;rw[AE,Fk]
theorem tD(n:Nat):∀i,i<=60->(gH n i).length<=61*i
 | 0,_=>AU _
 | i+1,h=>by
  have:=tD n i ω;rw[wY,AV,zK];omega
def DG(n:Nat):Sp:=λvs H Q _=>vs=[.int (n:Int)]/\n<=60 /\
 ∀(r:ID)(xs:List V) H',Same H H'->H r=Is->H' r=GT (.lst xs)->aG (λ_=>True) H' xs ((gH n n).map rpD)->Q (.ref r) H'
theorem Ww{H:Hp}:gF (λ_=>True) H:=λ_ _ _ _=>trivial
def Oh:Sp:=λvs H Q _=>∃(sa wa t rp:ID)(a b:Nat)(xs:List V)(ok:ID->Prop)(ss:Sts)(ws zs:List Int),vs=[.ref sa,.ref wa,.ref t,.ref rp]/\H sa=GT (.lst xs)/\aG ok H xs (ss.map stD)/\ss.length<=60/\H wa=GT (.lst (ws.map As))/\ws.length=ss.length/\m7 H t zs/\H rp=GT (.tup [.int (a:Int),.int (b:Int)])/\a<b/\b<=ss.length /\
 ∀(r:ID)(ys:List V)(W:List lJ) H',Same H H'->H r=Is->H' r=GT (.lst ys)->(∀x,x∈W↔m5 ss ws zs a b x)->W≠[]->aG (λ_=>True) H' ys (W.map rwD)->ys.length<=200->Q (.ref r) H'
theorem YH{ss:Sts}{ws zs:List Int}{a b:Nat}{x:lJ}(h:m5 ss ws zs a b x):x.2.1≠[]/\x.2.1.length<=10/\x.2.2.length<=2:=by
 cases h with
 | row lab ord _ _=>cases jf ss lab ord <;> exact⟨by simp[Ii],by simp[Ii],by simp⟩
 | tab _=>exact⟨by simp,by simp,by simp⟩
 | msk l0 l1 _ _=>exact⟨by simp,by simp,by simp⟩
 | low k _ _=>exact⟨by simp,by simp,by simp⟩
theorem T8:∀{L M:List Int},L.Pairwise (· < ·)->M.Pairwise (· < ·)->(∀l,l∈L↔l∈M)->L=M
 | [],[],_,_,_=>rfl
 | [],m::M,_,_,h=>absurd ((h m).mpr A7) ζ
 | a::L,[],_,_,h=>absurd ((h a).mp A7) ζ
 | a::L,m::M,hL,hM,h=>by
  rw[CO] at hL hM;have e:a=m:=by
   rcases A1.mp ((h a).mp A7) with z|z
   ·exact z
   rcases A1.mp ((h m).mpr A7) with y|y
   ·exact y.symm
   have:=hL.1 m y;have:=hM.1 a z;omega
  subst e;rw[T8 hL.2 hM.2 λl=>⟨λz=>?_,λz=>?_⟩]
  ·rcases A1.mp ((h l).mp (BE _ z)) with y|y
   ·have:=hL.1 l z;omega
   exact y
  rcases A1.mp ((h l).mpr (BE _ z)) with y|y
  ·have:=hM.1 l z;omega
  exact y
theorem sY.one{ss:Sts}{left:List Nat}{L M:List Int}(h:sY ss left L)(k:sY ss left M):L=M:=T8 h.1 k.1 λl=>(h.2 l).trans (k.2 l).symm
def Ed(ss:Sts)(ws zs:List Int)(a b:Nat)(ord:List Nat)(L:List Int):List lJ:=L.map λlab=>(jb ss ws zs (sumK ws (rng a b)) ord lab,Ii ss zs lab (jf ss lab ord),[])
def Pr(ws zs:List Int)(a b:Nat):List lJ:=(rng (a+1) b).map λ(k:Nat)=>(zs.getD 2 0*sumK ws (rng a b),[.str "below",.int (k:Int)],[(a,k),(k,b)])
def rM(ss:Sts)(ws zs:List Int)(a b:Nat):List lJ:=if cU ss (rng a b)<=200 then [(zs.getD 4 0*sumK ws (rng a b),[.str "table"],[])] else []
def yq(ss:Sts)(ws zs:List Int)(a b:Nat)(L:List Int):List lJ:=if cU ss (rng a b)<=64/\L.length=2 then [(zs.getD 3 0*sumK ws (rng a b),[.str "mask",.int (L.getD 0 0),.tuple [.str "pick",.int (L.getD 1 0)]],[])] else []
theorem rB{ss:Sts}{ws zs:List Int}{a b:Nat}{ord:List Nat}{L:List Int}(hL:sY ss (rng a b) L)(ho:sW ss ws zs (rng a b) ord)(x:lJ):x∈Ed ss ws zs a b ord L++rM ss ws zs a b++yq ss ws zs a b L++Pr ws zs a b↔m5 ss ws zs a b x:=by
 rw[Cf,Cf,Cf];constructor
 ·rintro(((h|h)|h)|h)
  ·obtain⟨lab,hl,rfl⟩:=DD.mp h;exact .row lab ord ((hL.2 lab).mp hl) ho
  ·unfold rM at h;split at h
   ·rename_i c;rw[AL.mp h];exact .tab c
   cases h
  ·unfold yq at h;split at h
   ·rename_i c;rw[AL.mp h]
    match L,c.2,hL with
    | [l0,l1],_,hL=>exact .msk l0 l1 c.1 hL
   cases h
  obtain⟨k,hk,rfl⟩:=DD.mp h;have:=eG.mp hk;exact .low k ω ω
 intro h;cases h with
 | row lab o2 hl h2=>
  rw[<- ho.one h2];exact .inl (.inl (.inl (DD.mpr ⟨lab,(hL.2 lab).mpr hl,rfl⟩)))
 | tab c=>exact .inl (.inl (.inr (by unfold rM;rw[if_pos c];exact A7)))
 | msk l0 l1 c h2=>
  rw[hL.one h2];exact .inl (.inr (by unfold yq;rw[if_pos ⟨c,rfl⟩];exact A7))
 | low k h1 h2=>exact .inr (DD.mpr ⟨k,eG.mpr ⟨ω,h2⟩,rfl⟩)
theorem Qz{ss:Sts}{ws zs:List Int}{a b:Nat}{ord:List Nat}{L:List Int}{W:List lJ}(hab:a<b)(ho:sW ss ws zs (rng a b) ord)(h:∀x,x∈W↔m5 ss ws zs a b x):W≠[]:=λz=>by
 have:=(h _).mpr (m5.row (lbl ss a) ord ⟨a,eG.mpr ⟨AU _,hab⟩,rfl⟩ ho);rw[z] at this;cases this
theorem MF{ok:ID->Prop}{σ:St}{H:Hp}{i:Nat}{p:ID}{kvs:List (Key×V)}{w:Str}{c:Int}(hσ:σ[i]?=GT (GT (.ref p)))(e:H p=GT (.dK kvs))(hv:gM kvs (ED w)=GT (.int c)):Gv ok (tDG (tV i) (tC (.str w))) σ H (.int c):=λH' s Q q=>by
 unfold tDG tV tC;rw[hσ];exact⟨p,.int c,rfl,lF.k' (k:=ED w) (s _ _ e) hv,q _ _ (Same.refl _) (.int c)⟩
theorem ada{ok:ID->Prop}{σ:St}{H:Hp}{i:Nat}{p:ID}{L:List Int}(hσ:σ[i]?=GT (GT (.ref p)))(e:H p=GT (.lst (L.map As)))(hL:1<L.length):Gv ok (tOp KZ (tV i) (tC (As 1))) σ H (.int (L.getD 1 0)):=λH' s Q q=>by
 unfold tOp tV tC;rw[hσ];show KZ (.ref p) (.int 1) H' Q;rw[zL,s _ _ e,PJ]
 match L,hL with
 | x::y::L,_=>exact⟨As y,cH (xs:=As x::As y::L.map As) (j:=1) rfl,q _ _ (Same.refl _) (.int y)⟩
theorem Vf{a b:Nat}(h:a<b):(rng a b).drop 1=rng (a+1) b:=by
 rw[v5 (le_succ a) (show a+1<=b from h),List.drop_left' (by rw[iT];omega)]
def lQ:Pl->Option Int
 | .one _ r=>lQ r
 | .wit _ r=>lQ r
 | .pick l=>GT l
 | _=>Is
def inRun(ss:Sts):Pl->Nat->Nat->Prop
 | .pick _,_,_=>True
 | .tab,_,_=>True
 | .msk _ r,_,_=>∃l,r=.pick l
 | .low k p q,a,b=>(a<k/\k<b)/\inRun ss p a k/\inRun ss q k b
 | .one _ r,a,b=>∃l,lQ r=GT l/\∃j∈rng a b,lbl ss j=l
 | .wit _ r,a,b=>∃l,lQ r=GT l/\∃j∈rng a b,lbl ss j=l
structure Fp(ss:Sts)(ws zs:List Int)(c:Int)(a b:Nat)(pl:Pl):Prop where
 v:PlV ss pl (rng a b)
 s:nF ss (dI ws zs) pl (rng a b)=c
 r:inRun ss pl a b
 z:dw pl+1<=2*(b-a)
theorem Ij(ss:Sts)(zs:List Int)(lab:Int):∀l,lQ (plT ss zs lab l)=GT lab
 | []=>rfl
 | k::r=>by
  have ih:=Ij ss zs lab r;unfold plT;split <;> exact ih
theorem aby{ss:Sts}{zs:List Int}{lab:Int}{m:Nat}:∀{l left:List Nat},Lf ss left->m∈left->m∉l->l.Nodup->(∀k∈l,k∈left)->(∀k∈left,k∈l\/lbl ss k=lab)->PlV ss (plT ss zs lab l) left
 | [],_,h,_,_,_,_,ha=>⟨h,λk hk=>(ha k hk).elim (λz=>nomatch z) id⟩
 | k::r,left,h,hm,hn,nd,hs,ha=>by
  have hk:m≠k:=λz=>hn (z ▸ A7);have hr:m∉r:=λz=>hn (BE _ z);obtain⟨h1,h2⟩:=h.less hm hk;obtain⟨nd1,nd2⟩:=GN.mp nd;have ih:=aby (zs:=zs) (lab:=lab) (l:=r) h1 h2 hr nd2 (λj hj=>DF.mpr ⟨hs j (BE _ hj),by have:j≠k:=λz=>nd1 (z ▸ hj);simpa using this⟩) λj hj=>by
   obtain⟨g1,g2⟩:=DF.mp hj;rcases ha j g1 with z|z
   ·rcases A1.mp z with rfl|z
    ·simp at g2
    exact .inl z
   exact .inr z
  have hkl:=hs k A7;unfold plT;split
  ·rename_i c;unfold isT at c;rw[CL,decide_eq_true_eq] at c;exact⟨⟨h,hkl,c.1⟩,ih⟩
  exact⟨⟨h,hkl⟩,ih⟩
theorem T6{ss:Sts}{ws zs:List Int}{a b:Nat}{x:lJ}{N:Nat->Nat->Int}{T:Nat->Nat->Pl}(hab:a<b)(hb:b<=ss.length)(hx:m5 ss ws zs a b x)(hT:∀p∈x.2.2,Fp ss ws zs (N p.1 p.2) p.1 p.2 (T p.1 p.2)):∃pl,O5 (λi j=>plD (T i j)) x=plD pl/\Fp ss ws zs (nq N x) a b pl:=by
 have lf:=Vh hab hb;have hll:=iT a b;cases hx with
 | row lab ord hl ho=>
  obtain⟨m,hm,em⟩:=hl;have hmem:∀k,k∈jf ss lab ord↔k∈rng a b/\lbl ss k≠lab:=λk=>by
   unfold jf;rw[DF,ho.pm.mem_iff,decide_eq_true_eq];rfl
  have hmn:m∉jf ss lab ord:=λz=>((hmem m).mp z).2 em;have nd:(jf ss lab ord).Nodup:=(ho.pm.nodup_iff.mpr (lf.up.imp λh=>B5 h)).filter _;have hlen:(jf ss lab ord).length+1<=b-a:=by
   have h1:(jf ss lab ord).length<ord.length:=List.length_filter_lt_length_iff_exists.mpr ⟨m,ho.pm.mem_iff.mpr hm,by simp;exact em⟩;have h2:=ho.pm.length_eq;rw[hll] at h2;omega
  refine⟨plT ss zs lab (jf ss lab ord),?_,aby lf hm hmn nd (λk hk=>((hmem k).mp hk).1) (λk hk=>?_),?_,?_,by rw[O6];omega⟩
  ·rw[abz,Vd];show A0.tuple (Ii ss zs lab (jf ss lab ord)++[])=_;rw[EK]
  ·by_cases c:lbl ss k=lab
   ·exact .inr c
   exact .inl ((hmem k).mpr ⟨hk,c⟩)
  ·rw[Iv lf.up nd λk hk=>((hmem k).mp hk).1];exact(Kt _).symm
  have he:=Ij ss zs lab;cases hn:jf ss lab ord with
  | nil=>exact trivial
  | cons k r=>
   unfold plT;split <;> exact⟨lab,he r,m,hm,em⟩
 | tab c=>exact⟨.tab,rfl,⟨lf,c⟩,(Kt _).symm,trivial,by show 1+1<=_;omega⟩
 | msk l0 l1 c hL=>
  obtain⟨k0,hk0,e0⟩:=(hL.2 l0).mp A7;obtain⟨k1,hk1,e1⟩:=(hL.2 l1).mp ζ;have hlt:l0<l1:=(CO.mp hL.1).1 l1 ζ;have hf:k1∈(rng a b).filter λk=>(bJ ss k).2.2≠l0:=DF.mpr ⟨hk1,decide_eq_true (show lbl ss k1≠l0 by omega)⟩;refine⟨.msk l0 (.pick l1),rfl,⟨⟨lf,c,k0,hk0,e0⟩,⟨List.ne_nil_of_mem hf,λk hk=>lf.lt k (DF.mp hk).1,lf.up.filter _⟩,λk hk=>?_⟩,?_,⟨l1,rfl⟩,?_⟩
  ·obtain⟨g1,g2⟩:=DF.mp hk;have h2:lbl ss k≠l0:=of_decide_eq_true g2;have:=(hL.2 (lbl ss k)).mpr ⟨k,g1,rfl⟩;simp at this;rcases this with z|z
   ·exact absurd z h2
   exact z
  ·show zs.getD 3 0*sumK ws (rng a b)+0=zs.getD 3 0*sumK ws (rng a b)+0;rfl
  have:2<=b-a:=by
   have h1:k0≠k1:=λz=>by rw[z] at e0;omega
   have:=eG.mp hk0;have:=eG.mp hk1;omega
  show 1+1+1<=_;omega
 | low k h1 h2=>
  obtain⟨v1,s1,r1,z1⟩:=hT (a,k) A7;obtain⟨v2,s2,r2,z2⟩:=hT (k,b) ζ;dsimp only at v1 s1 r1 z1 v2 s2 r2 z2;refine⟨.low k (T a k) (T k b),rfl,⟨⟨lf,eG.mpr ⟨ω,h2⟩⟩,?_,?_⟩,?_,⟨⟨h1,h2⟩,r1,r2⟩,?_⟩
  ·rw[Vg ω ω];exact v1
  ·rw[Vi ω ω];exact v2
  ·show zs.getD 2 0*sumK ws (rng a b)+nF ss (dI ws zs) (T a k) ((rng a b).filter (· < k))+nF ss (dI ws zs) (T k b) ((rng a b).filter (k<=·))=zs.getD 2 0*sumK ws (rng a b)+(N a k+(N k b+0));rw[Vg ω ω,Vi ω ω,s1,s2];omega
  show dw (T a k)+dw (T k b)+1+1<=_;omega
def YC(H:Hp)(a:ID):Prop:=∃xs,H a=GT (.lst xs)\/H a=GT (.tup xs)
mutual
theorem aH.seq{ok:ID->Prop}{H:Hp}:∀{v:V}{d:A0},aH ok H v d->aH (λa=>ok a/\YC H a) H v d
 | _,_,.non=>.non
 | _,_,.bl b=>.bl b
 | _,_,.int i=>.int i
 | _,_,.str x=>.str x
 | _,_,.lst o e z t=>.lst ⟨o,_,.inl e⟩ e z t.seq
 | _,_,.tup o e z t=>.tup ⟨o,_,.inr e⟩ e z t.seq
theorem aG.seq{ok:ID->Prop}{H:Hp}:∀{vs:List V}{ds:List A0},aG ok H vs ds->aG (λa=>ok a/\YC H a) H vs ds
 | _,_,.nil=>.nil
 | _,_,.cons h r=>.cons h.seq r.seq
end
def bfR(q p:Nat×Nat):Prop:=p.1<q.1\/(p.1=q.1/\q.2<p.2)
theorem oG{n i:Nat}{p:Nat×Nat}:p∈kZ n i ↔ ∃j,j<i+1/\(n-1-i,n-i+j)=p:=by
 unfold kZ;rw[DD];exact⟨λ⟨j,h,e⟩=>⟨j,GV.mp h,e⟩,λ⟨j,h,e⟩=>⟨j,GV.mpr h,e⟩⟩
theorem fZ{n:Nat}{p:Nat×Nat}:p∈gH n n↔p.1<p.2/\p.2<=n:=by
 unfold gH;rw[List.mem_flatMap];constructor
 ·rintro⟨i,hi,h⟩;have:=GV.mp hi;obtain⟨j,hj,rfl⟩:=oG.mp h;exact⟨by show n-1-i<n-i+j;omega,by show n-i+j<=n;omega⟩
 rintro⟨h1,h2⟩;refine⟨n-1-p.1,GV.mpr ω,oG.mpr ⟨p.2-p.1-1,ω,?_⟩⟩;exact Prod.ext (show n-1-(n-1-p.1)=p.1 by omega) (show n-(n-1-p.1)+(p.2-p.1-1)=p.2 by omega)
theorem Rb(n:Nat):(gH n n).Pairwise bfR:=by
 unfold gH;refine List.pairwise_flatMap.mpr ⟨λi hi=>?_,FX.imp_of_mem λ{i j} hi hj h x hx y hy=>?_⟩
 ·unfold kZ;exact K0.mpr (FX.imp λ{j k} h=>.inr ⟨rfl,show n-i+j<n-i+k by omega⟩)
 have:=GV.mp hj;obtain⟨_,_,rfl⟩:=oG.mp hx;obtain⟨_,_,rfl⟩:=oG.mp hy;exact .inl (show n-1-j<n-1-i by omega)
theorem Y0{l:List (Nat×Nat)}{i:Nat}{p:Nat×Nat}(h:l.Pairwise bfR)(hi:l[i]?=GT p):∀q,q∈l.take i↔q∈l/\bfR q p:=by
 obtain⟨hl,e⟩:=AM.mp hi;have es:l=l.take i++p::l.drop (i+1):=by rw[<- e,<- F7 hl,List.take_append_drop]
 rw[es] at h;obtain⟨_,h2,h3⟩:=LO.mp h;intro q;constructor
 ·intro hq;exact⟨LZ hq,h3 q hq p A7⟩
 rintro⟨hq,hb⟩;rw[es] at hq;rcases Cf.mp hq with z|z
 ·exact z
 exfalso;rcases A1.mp z with rfl|z
 ·unfold bfR at hb;omega
 have:=(CO.mp h2).1 q z;unfold bfR at hb this;omega
structure Kl(ss:Sts)(ws zs:List Int)(H:Hp)(nd pd:ID)(m:Nat)(D:Nat×Nat->Prop)(N:Nat->Nat->Int)(T:Nat->Nat->Pl)(kn kp:List (List Key×V)):Prop where
 en:H nd=GT (.dT kn)
 ep:H pd=GT (.dT kp)
 ln:kn.length<=m
 lp:kp.length<=m
 num:∀p,D p->gM kn (key2 p.1 p.2)=GT (.int (N p.1 p.2))
 pln:∀p,D p->∃v,gM kp (key2 p.1 p.2)=GT v/\aH (λa=>a≠nd/\a≠pd) H v (plD (T p.1 p.2))
 good:∀p,D p->Fp ss ws zs (N p.1 p.2) p.1 p.2 (T p.1 p.2)
 lst:∀p,D p->dF ss ws zs N p.1 p.2 (N p.1 p.2)
theorem Kl.same{ss:Sts}{ws zs:List Int}{H H':Hp}{nd pd:ID}{m:Nat}{D:Nat×Nat->Prop}{N:Nat->Nat->Int}{T:Nat->Nat->Pl}{kn kp:List (List Key×V)}(h:Kl ss ws zs H nd pd m D N T kn kp)(s:Same H H'):Kl ss ws zs H' nd pd m D N T kn kp:=
 ⟨s _ _ h.en,s _ _ h.ep,h.ln,h.lp,h.num,λp hp=>by obtain⟨v,e,t⟩:=h.pln p hp;exact⟨v,e,t.same s⟩,h.good,h.lst⟩
theorem Am{a b c d:Nat}(h:key2 (a:Int) (b:Int)=key2 (c:Int) (d:Int)):(a,b)=(c,d):=by
 obtain⟨h1,h2⟩:=Xd h;rw[show a=c by omega,show b=d by omega]
theorem Kl.step{ss:Sts}{ws zs:List Int}{H:Hp}{nd pd:ID}{m:Nat}{D D':Nat×Nat->Prop}{N:Nat->Nat->Int}{T:Nat->Nat->Pl}{kn kp:List (List Key×V)}{a b:Nat}{c:Int}{pl:Pl}{v:V}(h:Kl ss ws zs H nd pd m D N T kn kp)(hne:nd≠pd)(hab:¬D (a,b))(hD':∀p,D' p↔D p\/p=(a,b))(hin:∀p,D' p->∀i j,p.1<=i->i<j->j<=p.2->j-i<p.2-p.1->D (i,j))
  (hg:Fp ss ws zs c a b pl)(hl:dF ss ws zs N a b c)(tv:aH (λx=>x≠nd/\x≠pd) H v (plD pl)) :
  ∃N' T',Kl ss ws zs (upd (upd H nd (.dT (putK kn (key2 (a:Int) (b:Int)) (.int c)))) pd (.dT (putK kp (key2 (a:Int) (b:Int)) v))) nd pd (m+1) D' N' T' (putK kn (key2 (a:Int) (b:Int)) (.int c)) (putK kp (key2 (a:Int) (b:Int)) v):=by
 obtain⟨N',eN⟩:∃N':Nat->Nat->Int,N'=λi j=>if (i,j)=(a,b) then c else N i j:=⟨_,rfl⟩;obtain⟨T',eT⟩:∃T':Nat->Nat->Pl,T'=λi j=>if (i,j)=(a,b) then pl else T i j:=⟨_,rfl⟩;have nN:∀p,D p->N' p.1 p.2=N p.1 p.2/\T' p.1 p.2=T p.1 p.2:=λp hp=>by
  have:¬(p.1,p.2)=(a,b):=λz=>hab (z ▸ hp);rw[eN,eT];exact⟨if_neg this,if_neg this⟩
 have nA:N' a b=c/\T' a b=pl:=by rw[eN,eT];exact⟨if_pos rfl,if_pos rfl⟩
 have tk:∀{v:V}{d:A0},aH (λx=>x≠nd/\x≠pd) H v d->aH (λx=>x≠nd/\x≠pd) (upd (upd H nd (.dT (putK kn (key2 (a:Int) (b:Int)) (.int c)))) pd (.dT (putK kp (key2 (a:Int) (b:Int)) v))) v d:=λt=>t.keep λx u hx e=>⟨hx,by rw[aJ hx.2,aJ hx.1];exact e⟩;have tk2:∀{u v:V}{d:A0},aH (λx=>x≠nd/\x≠pd) H u d->aH (λx=>x≠nd/\x≠pd) (upd (upd H nd (.dT (putK kn (key2 (a:Int) (b:Int)) (.int c)))) pd (.dT (putK kp (key2 (a:Int) (b:Int)) v))) u d:=λt=>t.keep λx u hx e=>⟨hx,by rw[aJ hx.2,aJ hx.1];exact e⟩;have lc:∀p,D' p->∀c,dF ss ws zs N p.1 p.2 c->dF ss ws zs N' p.1 p.2 c:=λp hp c l=>l.congr λi j h1 h2 h3 h4=>((nN (i,j) (hin p hp i j h1 h2 h3 h4)).1).symm;have key:∀p:Nat×Nat,∀(q:Prop),(D p->q)->(p=(a,b)->q)->D' p->q:=λp q h1 h2 h=>((hD' p).mp h).elim h1 h2;refine⟨N',T',by rw[aJ hne];exact aA,aA,by have:=gb kn (key2 (a:Int) (b:Int)) (.int c);have:=h.ln;omega,by have:=gb kp (key2 (a:Int) (b:Int)) v;have:=h.lp;omega,λp hp=>?_,λp hp=>?_,λp hp=>?_,λp hp=>?_⟩
 ·refine key p _ (λd=>?_) (λe=>?_) hp
  ·rw[jA,if_neg λe=>hab (by rw[<- Am e];exact d),(nN p d).1];exact h.num p d
  subst e;rw[jA,if_pos rfl];show _=GT (As (N' a b));rw[nA.1]
 ·refine key p _ (λd=>?_) (λe=>?_) hp
  ·obtain⟨u,e,t⟩:=h.pln p d;refine⟨u,by rw[jA,if_neg λe=>hab (by rw[<- Am e];exact d)];exact e,?_⟩;rw[(nN p d).2];exact tk2 t
  subst e;refine⟨v,by rw[jA,if_pos rfl],?_⟩;show aH _ _ v (plD (T' a b));rw[nA.2];exact tk2 tv
 ·refine key p _ (λd=>?_) (λe=>?_) hp
  ·rw[(nN p d).1,(nN p d).2];exact h.good p d
  subst e;show Fp ss ws zs (N' a b) a b (T' a b);rw[nA.1,nA.2];exact hg
 refine key p _ (λd=>?_) (λe=>?_) hp
 ·rw[(nN p d).1];exact lc p hp _ (h.lst p d)
 subst e;show dF ss ws zs N' a b (N' a b);rw[nA.1];exact lc _ hp _ hl
def DR:Sp:=λvs H Q _=>∃(sa wa t:ID)(xs:List V)(ok:ID->Prop)(ss:Sts)(ws zs:List Int),vs=[.ref sa,.ref wa,.ref t]/\H sa=GT (.lst xs)/\aG ok H xs (ss.map stD)/\1<=ss.length/\ss.length<=60/\H wa=GT (.lst (ws.map As))/\ws.length=ss.length/\m7 H t zs /\
 ∀(r nd pd:ID) H' (m:Nat) (N:Nat->Nat->Int) (T:Nat->Nat->Pl) (kn kp:List (List Key×V)),Same H H'->H' r=GT (.tup [.ref nd,.ref pd])->Kl ss ws zs H' nd pd m (λp=>p.1<p.2/\p.2<=ss.length) N T kn kp->Q (.ref r) H'
def zc:Sp:=λvs H Q _=>∃(sa wa t:ID)(xs:List V)(ok:ID->Prop)(ss:Sts)(ws zs:List Int),vs=[.ref sa,.ref wa,.ref t]/\H sa=GT (.lst xs)/\aG ok H xs (ss.map stD)/\1<=ss.length/\ss.length<=60/\H wa=GT (.lst (ws.map As))/\ws.length=ss.length/\m7 H t zs /\
 ∀(r:ID)(v:V) H' (N:Nat->Nat->Int) (pl:Pl),Same H H'->H' r=GT (.tup [.int (N 0 ss.length),v])->aH (λ_=>True) H' v (plD pl)->Fp ss ws zs (N 0 ss.length) 0 ss.length pl->(∀p:Nat×Nat,p.1<p.2->p.2<=ss.length->dF ss ws zs N p.1 p.2 (N p.1 p.2))->Q (.ref r) H'
def KH:Sp:=λvs H Q E=>∃n:(Nat->Nat->Int)×(Nat->Nat->A0),zf n.1 n.2 vs H Q E
def Q7:Sp:=λvs H Q E=>∃n:Nat,DG n vs H Q E
theorem JQ{ι:Type}{P:AR}{w:A9}{K:AD}{mg:Str->Option Ap}{base:Heap}{CX:CXT}{k:Nat}{f:ID}{fd:D6}{ps:List Str}{sp:ι->Sp}(h:∀n,cQ P w K mg base CX k f fd ps (sp n)):cQ P w K mg base CX k f fd ps (λvs H Q E=>∃n,sp n vs H Q E):=
 ⟨λvs H Q E ⟨n,z⟩=>(h n).1 vs H Q E z,λA outer s H args us vs Q E a b c d ⟨n,z⟩=>(h n).2 A outer s H args us vs Q E a b c d z⟩
def qN(nd pd:ID)(H H':Hp):Prop:=∀x o,x≠nd->x≠pd->H x=GT o->H' x=GT o
theorem qN.of{nd pd:ID}{H0 H H':Hp}(s:Same H0 H)(b:qN nd pd H H')(h1:H0 nd=Is)(h2:H0 pd=Is):Same H0 H':=λx o e=>b x o (aF e h1) (aF e h2) (s x o e)
theorem qN.tree{nd pd:ID}{H H':Hp}{v:V}{d:A0}(b:qN nd pd H H')(t:aH (λx=>x≠nd/\x≠pd) H v d):aH (λx=>x≠nd/\x≠pd) H' v d:=t.keep λa o h e=>⟨h,b a o h.1 h.2 e⟩
theorem qN.trans{nd pd:ID}{H H1 H2:Hp}(b:qN nd pd H H1)(s:Same H1 H2):qN nd pd H H2:=λx o h1 h2 e=>s _ _ (b x o h1 h2 e)
theorem qN.put{nd pd:ID}{H H1:Hp}{o1 o2:HO}(b:qN nd pd H H1):qN nd pd H (upd (upd H1 nd o1) pd o2):=λx o h1 h2 e=>by
 rw[aJ h2,aJ h1];exact b x o h1 h2 e
theorem noD{H:Hp}{nd pd a:ID}{kn kp:List (List Key×V)}(en:H nd=GT (.dT kn))(ep:H pd=GT (.dT kp))(h:YC H a):a≠nd/\a≠pd:=by
 constructor
 ·rintro rfl;obtain⟨xs,e|e⟩:=h
  ·rw[en] at e;cases e
  rw[en] at e;cases e
 rintro rfl;obtain⟨xs,e|e⟩:=h
 ·rw[ep] at e;cases e
 rw[ep] at e;cases e
theorem aG.ad9{H:Hp}{nd pd:ID}{kn kp:List (List Key×V)}{ok:ID->Prop}{vs:List V}{ds:List A0}(en:H nd=GT (.dT kn))(ep:H pd=GT (.dT kp))(t:aG ok H vs ds):aG (λx=>x≠nd/\x≠pd) H vs ds:=t.seq.keep λa o h e=>⟨noD en ep h.2,e⟩
theorem aeN{H:Hp}{nd pd:ID}{kn kp:List (List Key×V)}(en:H nd=GT (.dT kn))(ep:H pd=GT (.dT kp)):gF (λx=>x≠nd/\x≠pd) H:=λH2 p s hp=>⟨(aF (s _ _ en) hp).symm,(aF (s _ _ ep) hp).symm⟩
def DN:Sp:=λvs H Q _=>∃(p:ID)(B:Int),vs=[.ref p]/\bQ H p B/\0<=B/\B<=900000 /\
 ∀(m:Nat) H',1<=m->m<=30->bY p H H'->bQ H' p (B+4)->Q (.int (m:Int)) H'
def nu(ss:Sts)(ws zs:List Int)(lab:Int):List (Int×Int):=((Bi ss.length).filter λk=>lbl ss k≠lab).map (prK ss ws zs)
def zb:Sp:=λvs H Q _=>∃(sa wa t:ID)(xs:List V)(ok:ID->Prop)(ss:Sts)(ws zs:List Int)(lab:Int),vs=[.ref sa,.ref wa,.ref t,.int lab]/\H sa=GT (.lst xs)/\aG ok H xs (ss.map stD)/\ss.length<=60/\H wa=GT (.lst (ws.map As))/\ws.length=ss.length/\m7 H t zs /\
 ∀(l:List (Int×Int)) H',Same H H'->Fall l->l.Perm (nu ss ws zs lab)->Q (.int (gC ws.sum l)) H'
def gOf(H:Hp)(p:ID):Int×Int:=match H p with
 | some (.tup [.int a,.int b])=>(a,b)
 | _=>(0,0)
theorem Bk{H:Hp}{p:ID}{a b:Int}(e:H p=GT (.tup [.int a,.int b])):gOf H p=(a,b):=by
 unfold gOf;rw[e]
structure PrL(H:Hp)(d:ID)(ps:List ID)(L:List (Int×Int)):Prop where
 e:H d=GT (.lst (ps.map AS))
 at':∀p∈ps,H p=GT (.tup [.int (gOf H p).1,.int (gOf H p).2])
 l:ps.map (gOf H)=L
theorem PrL.same{H H':Hp}{d:ID}{ps:List ID}{L:List (Int×Int)}(h:PrL H d ps L)(s:Same H H'):PrL H' d ps L:=by
 have k:∀p∈ps,gOf H' p=gOf H p:=λp hp=>Bk (s _ _ (h.at' p hp));exact⟨s _ _ h.e,λp hp=>by rw[k p hp];exact s _ _ (h.at' p hp),by rw[<- h.l];exact C4 k⟩
theorem PrL.put{H:Hp}{d:ID}{ps qs:List ID}{L:List (Int×Int)}(h:PrL H d ps L)(hq:∀q∈qs,q∈ps\/∃a b,H q=GT (.tup [.int a,.int b])):PrL (upd H d (.lst (qs.map AS))) d qs (qs.map (gOf H)):=by
 have hd:∀q∈qs,∃a b,H q=GT (.tup [.int a,.int b]):=λq z=>(hq q z).elim (λy=>⟨_,_,h.at' q y⟩) id;have k:∀q∈qs,upd H d (.lst (qs.map AS)) q=H q:=λq z=>by
  obtain⟨a,b,e⟩:=hd q z;exact aJ (Pj e h.e (λz=>by cases z))
 have k2:∀q∈qs,gOf (upd H d (.lst (qs.map AS))) q=gOf H q:=λq z=>by
  obtain⟨a,b,e⟩:=hd q z;rw[Bk e,Bk (by rw[k q z];exact e)]
 refine⟨aA,λq z=>?_,C4 k2⟩;obtain⟨a,b,e⟩:=hd q z;rw[k2 q z,Bk e,k q z];exact e
theorem Ft{c:TT}{tb:TS}{D:Ends}{σ:St}{H:Hp}(Pv:Nat->St->Hp->Prop)(n:Nat)(h0:Pv n σ H)
  (hs:∀m σ H,Pv m σ H->c σ H λb H1=>if b=true then ∃N:St->Hp->Prop,(∀σ' H',N σ' H'->∃m',m'<m/\Pv m' σ' H')/\tb { D with nx:=N,ct:=N,bk:=D.nx } σ H1 else D.nx σ H1):Ku c tb D σ H:=
 ⟨Pv,⟨n,h0⟩,hs⟩
theorem Sy{p:Nat->Bool}(i:Nat):(Bi (i+1)).filter p=(Bi i).filter p++(if p i=true then [i] else []):=by
 rw[range_succ,Me,L0,List.filter_nil]
theorem PrL.push{H:Hp}{d q:ID}{ps:List ID}{L:List (Int×Int)}{a b:Int}(h:PrL H d ps L)(e:H q=GT (.tup [.int a,.int b])):PrL (upd H d (.lst (ps.map AS++[.ref q]))) d (ps++[q]) (L++[(a,b)]):=by
 have:=h.put (qs:=ps++[q]) λx hx=>(Cf.mp hx).elim .inl λz=>.inr (by rw[AL.mp z];exact⟨_,_,e⟩);rw[A6,A6,h.l] at this;rw[CB,CB,Bk e] at this;exact this
theorem PrL.len{H:Hp}{d:ID}{ps:List ID}{L:List (Int×Int)}(h:PrL H d ps L):ps.length=L.length:=by rw[<- h.l,AE]
theorem sO(f:ID->Int×Int):∀(ps:List ID)(j:Nat),(ps.map f).eraseIdx j=(ps.eraseIdx j).map f
 | [],_=>rfl
 | _::_,0=>rfl
 | p::ps,j+1=>congrArg (f p :: ·) (sO f ps j)
theorem PrL.drop{H:Hp}{d:ID}{ps:List ID}{L:List (Int×Int)}{b:Int×Int}(h:PrL H d ps L)(j:Nat)(hj:L.idxOf b=j):PrL (upd H d (.lst ((ps.eraseIdx j).map AS))) d (ps.eraseIdx j) (L.erase b):=by
 have:=h.put (qs:=ps.eraseIdx j) λx hx=>.inl (List.mem_of_mem_eraseIdx hx);rw[<- h.l] at hj |-;rw[List.erase_eq_eraseIdx_of_idxOf hj,sO];exact this
theorem aaY(ps:List ID):(ps.map AS).isEmpty=ps.isEmpty:=by cases ps <;> rfl
theorem QL{ss:Sts}{ws zs:List Int}{lab:Int}(hz:zs.length=5)(h:∀z∈zs,1<=z/\z<=99):∀x∈nu ss ws zs lab,0<x.2/\x.2<=99:=by
 intro x hx;obtain⟨k,_,rfl⟩:=DD.mp hx;show 0<dB ss zs k/\dB ss zs k<=99;have g:∀i,i<5->1<=zs.getD i 0/\zs.getD i 0<=99:=λi hi=>by
  rw[A4,AF ω];exact h _ (FG _)
 unfold dB;split
 ·have:=g 0 δ;omega
 have:=g 1 δ;omega
theorem lt_of_le_ne:∀{l:List Int},l.Pairwise (·<=·)->l.Nodup->l.Pairwise (· < ·)
 | [],_,_=>.nil
 | a::l,h,k=>by
  rw[CO] at h;rw[GN] at k;exact CO.mpr ⟨λb hb=>by have:=h.1 b hb;have:a≠b:=λz=>k.1 (z ▸ hb);omega,lt_of_le_ne h.2 k.2⟩
theorem acI{ss:Sts}{ws zs:List Int}{left:List Nat}(up:left.Pairwise (· < ·))(h64:∀k∈left,k<64):∃o,sW ss ws zs left o:=by
 have pm:=List.mergeSort_perm left λx y=>decide (iI ss ws zs x<=iI ss ws zs y);have pw:=List.pairwise_mergeSort (le:=λx y=>decide (iI ss ws zs x<=iI ss ws zs y)) (λa b c h1 h2=>by simp at h1 h2 |-;omega) (λa b=>by simp;omega) left;refine⟨_,pm,lt_of_le_ne (K0.mpr (pw.imp λh=>by simpa using h)) ((pm.map _).nodup_iff.mpr (tE up h64))⟩
def sls(ss:Sts)(a b:Nat):Sts:=(ss.drop a).take (b-a)
theorem qW{ss:Sts}{a b:Nat}(h:b<=ss.length):(sls ss a b).length=b-a:=by unfold sls;rw[FF,F1];omega
theorem zq{ss:Sts}{a b k:Nat}(h:b<=ss.length)(hk:k<b-a):bJ (sls ss a b) k=bJ ss (a+k):=by
 unfold bJ sls;rw[A4,A4,getElem?_take,if_pos ω,getElem?_drop]
theorem abW{ws:List Int}{a b k:Nat}(hk:k<b-a):(slc ws a b).getD k 0=ws.getD (a+k) 0:=by
 unfold slc;rw[A4,A4,getElem?_take,if_pos ω,getElem?_drop]
theorem FP{ws:List Int}{a b:Nat}(h:b<=ws.length):(slc ws a b).sum=sumK ws (rng a b):=by
 unfold sumK rng;rw[Hm];congr 1;refine List.ext_getElem? λk=>?_;rw[AQ];by_cases hk:k<b-a
 ·rw[Ha hk];unfold slc;rw[getElem?_take,if_pos ω,getElem?_drop,AF ω];show _=GT (ws.getD (a+k) 0);rw[A4,AF ω];rfl
 rw[Dx (by unfold slc;rw[FF,F1];omega),Dx (by rw[Fk];omega)];rfl
theorem Ks{ss:Sts}{ws zs:List Int}{a b:Nat}{lab:Int}(h:b<=ss.length):nu (sls ss a b) (slc ws a b) zs lab=((rng a b).filter λk=>decide (lbl ss k≠lab)).map (prK ss ws zs):=by
 unfold nu rng;rw[qW h,List.filter_map,Hm];have e:(Bi (b-a)).filter (λk=>decide (lbl (sls ss a b) k≠lab))=(Bi (b-a)).filter ((λk=>decide (lbl ss k≠lab))∘λx=>a+x):=List.filter_congr λk hk=>by
  show decide (lbl (sls ss a b) k≠lab)=decide (lbl ss (a+k)≠lab);unfold lbl;rw[zq h (GV.mp hk)]
 rw[e];refine C4 λk hk=>?_;have hk:=GV.mp (DF.mp hk).1;show prK _ _ _ k=prK ss ws zs (a+k);unfold prK dB isT;rw[abW hk,zq h hk]
theorem Vc{ss:Sts}{ws zs:List Int}{a b:Nat}{lab:Int}{ord:List Nat}{l:List (Int×Int)}(h60:ss.length<=60)(hb:b<=ss.length)(hw:ws.length=ss.length)(h0:1<=zs.getD 0 0)(h1:1<=zs.getD 1 0)(ho:sW ss ws zs (rng a b) ord)(fl:Fall l)(pm:l.Perm (nu (sls ss a b) (slc ws a b) zs lab)):gC (slc ws a b).sum l=jb ss ws zs (sumK ws (rng a b)) ord lab:=by
 unfold jb;rw[FP ω,Pa];refine(aa7 fl (Ew h0 h1 (λk hk=>?_) ?_) ?_).symm
 ·have h2:=ho.pm.mem_iff.mp (DF.mp hk).1;have:=eG.mp h2;omega
 ·have:=ho.up;rw[K0] at this |-;exact this.filter _
 rw[Ks hb] at pm;exact(((ho.pm.filter _).map (prK ss ws zs)).trans (by unfold lbl at pm;exact pm.symm))
def flat(x:lJ):Prop:=x.2.2=[]
def Bv(ss:Sts)(ws zs:List Int)(a b:Nat)(ord:List Nat)(L:List Int):List Int:=(if cU ss (rng a b)<=200 then [sumK ws (rng a b)*zs.getD 4 0] else [])++(if cU ss (rng a b)<=64/\L.length=2 then [sumK ws (rng a b)*zs.getD 3 0] else [])++L.map λlab=>jb ss ws zs (sumK ws (rng a b)) ord lab
theorem S6(ss:Sts)(ws zs:List Int)(a b:Nat)(ord:List Nat)(L:List Int):Bv ss ws zs a b ord L=(rM ss ws zs a b++yq ss ws zs a b L++Ed ss ws zs a b ord L).map (·.1):=by
 unfold Bv rM yq Ed;rw[A6,A6,Hm];congr 1;congr 1
 ·split
  ·rw[EM];rfl
  rfl
 split
 ·rw[EM];rfl
 rfl
theorem Mp{ss:Sts}{ws zs:List Int}{a b:Nat}{ord:List Nat}{L:List Int}(hL:sY ss (rng a b) L)(ho:sW ss ws zs (rng a b) ord)(c:Int):c∈Bv ss ws zs a b ord L ↔ ∃x,m5 ss ws zs a b x/\x.2.2=[]/\c=x.1:=by
 rw[S6,DD];have hf:∀x,x∈rM ss ws zs a b++yq ss ws zs a b L++Ed ss ws zs a b ord L->x.2.2=[]:=λx hx=>by
  rcases Cf.mp hx with hx|hx
  ·rcases Cf.mp hx with hx|hx
   ·unfold rM at hx;split at hx
    ·rw[AL.mp hx]
    cases hx
   unfold yq at hx;split at hx
   ·rw[AL.mp hx]
   cases hx
  obtain⟨lab,_,rfl⟩:=DD.mp hx;rfl
 constructor
 ·rintro⟨x,hx,rfl⟩;refine⟨x,(rB hL ho x).mp ?_,hf x hx,rfl⟩;simp only[Cf] at hx |-;rcases hx with(h|h)|h
  ·exact .inl (.inl (.inr h))
  ·exact .inl (.inr h)
  exact .inl (.inl (.inl h))
 rintro⟨x,hx,e,rfl⟩;refine⟨x,?_,rfl⟩;have:=(rB hL ho x).mpr hx;simp only[Cf] at this |-;rcases this with((h|h)|h)|h
 ·exact .inr h
 ·exact .inl (.inl h)
 ·exact .inl (.inr h)
 obtain⟨k,_,rfl⟩:=DD.mp h;cases e
def DK:Sp:=λvs H Q _=>∃(sa wa t:ID)(a b:Nat)(xs:List V)(ok:ID->Prop)(ss:Sts)(ws zs:List Int),vs=[.ref sa,.ref wa,.ref t,.int (a:Int),.int (b:Int)]/\H sa=GT (.lst xs)/\aG ok H xs (ss.map stD)/\ss.length<=60/\H wa=GT (.lst (ws.map As))/\ws.length=ss.length/\m7 H t zs/\a<b/\b<=ss.length /\
 ∀(d:ID)(C:List Int) H',Same H H'->H d=Is->H' d=GT (.lst (C.map As))->C.length<=200->C≠[]->(∀c,c∈C ↔ ∃x,m5 ss ws zs a b x/\x.2.2=[]/\c=x.1)->Q (.ref d) H'
theorem abB{xs:List V}{i j:Nat}(h1:i<=j)(h2:j<=xs.length):jT xs (GT (i:Int)) (GT (j:Int))=(xs.drop i).take (j-i):=by
 unfold jT;have e1:HT.sIx xs.length 0 (GT (i:Int))=i:=by
  simp only[HT.sIx];split <;> omega
 have e2:HT.sIx xs.length xs.length (GT (j:Int))=j:=by
  simp only[HT.sIx];split <;> omega
 rw[e1,e2]
theorem aG.X7{ok:ID->Prop}{H:Hp}:∀{vs:List V}{ds:List A0}(n:Nat),aG ok H vs ds->aG ok H (vs.drop n) (ds.drop n)
 | _,_,0,t=>t
 | _,_,n+1,.nil=>.nil
 | _,_,n+1,.cons _ r=>aG.X7 n r
theorem aG.Uh{ok:ID->Prop}{H:Hp}:∀{vs:List V}{ds:List A0}(n:Nat),aG ok H vs ds->aG ok H (vs.take n) (ds.take n)
 | _,_,0,_=>.nil
 | _,_,n+1,.nil=>.nil
 | _,_,n+1,.cons t r=>.cons t (aG.Uh n r)
theorem Ou(ss:Sts)(a b:Nat):((ss.map stD).drop a).take (b-a)=(sls ss a b).map stD:=by unfold sls;rw[map_take,map_drop]
theorem Yt{α:Type}{xs:List α}(h:1<=xs.length):atI xs (-1)=atI xs ((xs.length-1:Nat):Int):=by
 unfold atI ixN;rw[if_neg δ,if_pos ω,if_pos ω,if_pos ω];congr 2;omega
theorem UL{ss:Sts}{a b:Nat}(hab:a<b)(h:b<=ss.length):(bJ (sls ss a b) (b-a-1)).2.1-(bJ (sls ss a b) 0).1+1=cU ss (rng a b):=by
 rw[zq h ω,zq h ω];unfold cU;have e1:(rng a b).head?=GT a:=by
  unfold rng;rw[List.head?_map,show b-a=(b-a-1)+1 by omega,List.range_succ_eq_map];rfl
 have e2:(rng a b).getLast?=GT (b-1):=by
  unfold rng;rw[show b-a=(b-a-1)+1 by omega,range_succ,A6,List.map_singleton,List.getLast?_concat];exact congrArg GT ω
 rw[e1,e2,show a+(b-a-1)=b-1 by omega];rfl
theorem Jw{ss:Sts}{a b:Nat}(h:b<=ss.length):(sls ss a b).map (·.2.2)=(rng a b).map (lbl ss):=by
 refine List.ext_getElem? λk=>?_;rw[AQ,AQ];unfold rng;rw[AQ];by_cases hk:k<b-a
 ·rw[Ha hk,yZ (by rw[qW h];exact hk),zq h hk];rfl
 rw[Dx (by rw[qW h];omega),Dx (by rw[Fk];omega)];rfl
theorem Vl(p:Prop)[Decidable p](c:Int):(CA (if p then 1 else 0:Int).toNat [As c]).flatten=(if p then [c] else []).map As:=by
 by_cases h:p
 ·rw[if_pos h,if_pos h];rfl
 rw[if_neg h,if_neg h];rfl
theorem K9(p:Prop)[Decidable p]:(-2^63<=(if p then 1 else 0:Int))/\(if p then 1 else 0:Int)<2^63/\1*(if p then 1 else 0:Int).toNat<=AK:=by
 by_cases h:p
 ·rw[if_pos h];exact⟨δ,δ,aM δ⟩
 rw[if_neg h];exact⟨δ,δ,aM δ⟩
theorem Qa(p:Prop)[Decidable p](c:Int):(if p then [c] else []).length<=1:=by
 by_cases h:p
 ·rw[if_pos h];exact AU _
 rw[if_neg h];exact DJ _
theorem j7{M:Nat->Nat->Int}{x:lJ}(h:x.2.2=[]):nq M x=x.1:=by unfold nq;rw[h];show x.1+0=x.1;omega
theorem W8{ss:Sts}{ws zs:List Int}{M:Nat->Nat->Int}{a b:Nat}{C:List Int}{m:Int}(hab:a<b)(hC:∀c,c∈C ↔ ∃x,m5 ss ws zs a b x/\x.2.2=[]/\c=x.1)(hm:m∈C++(rng (a+1) b).map λk=>zs.getD 2 0*sumK ws (rng a b)+M a k+M k b)(hle:∀c∈C++(rng (a+1) b).map λk=>zs.getD 2 0*sumK ws (rng a b)+M a k+M k b,m<=c):dF ss ws zs M a b m:=by
 have lowv:∀k:Nat,nq M (zs.getD 2 0*sumK ws (rng a b),[.str "below",.int (k:Int)],[(a,k),(k,b)])=zs.getD 2 0*sumK ws (rng a b)+M a k+M k b:=λk=>by
  show zs.getD 2 0*sumK ws (rng a b)+(M a k+(M k b+0))=_;omega
 constructor
 ·rcases Cf.mp hm with h|h
  ·obtain⟨x,hx,e,rfl⟩:=(hC m).mp h;exact⟨x,hx,(j7 e).symm⟩
  obtain⟨k,hk,rfl⟩:=DD.mp h;have:=eG.mp hk;exact⟨_,m5.low k ω this.2,(lowv k).symm⟩
 intro x hx;have flat:x.2.2=[]->m<=nq M x:=λe=>by
  rw[j7 e];exact hle _ (D8 _ ((hC _).mpr ⟨x,hx,e,rfl⟩))
 cases hx with
 | row lab ord h1 h2=>exact flat rfl
 | tab c=>exact flat rfl
 | msk l0 l1 c h=>exact flat rfl
 | low k h1 h2=>
  rw[lowv];exact hle _ (AN _ (DD.mpr ⟨k,eG.mpr ⟨ω,h2⟩,rfl⟩))
structure yI(ss:Sts)(ws zs:List Int)(H:Hp)(bd:ID)(m:Nat)(D:Nat×Nat->Prop)(M:Nat->Nat->Int)(kvs:List (List Key×V)):Prop where
 e:H bd=GT (.dT kvs)
 l:kvs.length<=m
 num:∀p,D p->gM kvs (key2 p.1 p.2)=GT (.int (M p.1 p.2))
 one:∀p,D p->p.2=p.1+1->M p.1 p.2=0
 lst:∀p,D p->p.1+2<=p.2->dF ss ws zs M p.1 p.2 (M p.1 p.2)
theorem yI.same{ss:Sts}{ws zs:List Int}{H H':Hp}{bd:ID}{m:Nat}{D:Nat×Nat->Prop}{M:Nat->Nat->Int}{kvs:List (List Key×V)}(h:yI ss ws zs H bd m D M kvs)(s:Same H H'):yI ss ws zs H' bd m D M kvs:=⟨s _ _ h.e,h.l,h.num,h.one,h.lst⟩
theorem yI.iff{ss:Sts}{ws zs:List Int}{H:Hp}{bd:ID}{m m':Nat}{D D':Nat×Nat->Prop}{M:Nat->Nat->Int}{kvs:List (List Key×V)}(h:yI ss ws zs H bd m D M kvs)(hm:m<=m')(k:∀p,D' p->D p):yI ss ws zs H bd m' D' M kvs:=⟨h.e,CF h.l hm,λp hp=>h.num p (k p hp),λp hp=>h.one p (k p hp),λp hp=>h.lst p (k p hp)⟩
theorem yI.step{ss:Sts}{ws zs:List Int}{H:Hp}{bd:ID}{m:Nat}{D D':Nat×Nat->Prop}{M:Nat->Nat->Int}{kvs:List (List Key×V)}{a b:Nat}{c:Int}(h:yI ss ws zs H bd m D M kvs)(hab:¬D (a,b))(hD':∀p,D' p->D p\/p=(a,b))(hin:∀p,D' p->∀i j,p.1<=i->i<j->j<=p.2->j-i<p.2-p.1->D (i,j))
  (h1:b=a+1->c=0)(hl:a+2<=b->dF ss ws zs M a b c):∃M',yI ss ws zs (upd H bd (.dT (putK kvs (key2 (a:Int) (b:Int)) (.int c)))) bd (m+1) D' M' (putK kvs (key2 (a:Int) (b:Int)) (.int c)):=by
 obtain⟨M',eM⟩:∃M':Nat->Nat->Int,M'=λi j=>if (i,j)=(a,b) then c else M i j:=⟨_,rfl⟩;have nM:∀p,D p->M' p.1 p.2=M p.1 p.2:=λp hp=>by
  rw[eM];exact if_neg λz:(p.1,p.2)=(a,b)=>hab (z ▸ hp)
 have nA:M' a b=c:=by rw[eM];exact if_pos rfl
 have lc:∀p,D' p->∀c,dF ss ws zs M p.1 p.2 c->dF ss ws zs M' p.1 p.2 c:=λp hp c l=>l.congr λi j g1 g2 g3 g4=>(nM (i,j) (hin p hp i j g1 g2 g3 g4)).symm;refine⟨M',aA,by have:=gb kvs (key2 (a:Int) (b:Int)) (.int c);have:=h.l;omega,λp hp=>?_,λp hp=>?_,λp hp=>?_⟩
 ·rcases hD' p hp with d|rfl
  ·rw[jA,if_neg λe=>hab (by rw[<- Am e];exact d),nM p d];exact h.num p d
  rw[jA,if_pos rfl];show _=GT (As (M' a b));rw[nA]
 ·rcases hD' p hp with d|rfl
  ·rw[nM p d];exact h.one p d
  intro e;show M' a b=0;rw[nA];exact h1 e
 intro e;rcases hD' p hp with d|rfl
 ·rw[nM p d];exact lc p hp _ (h.lst p d e)
 show dF ss ws zs M' a b (M' a b);rw[nA];exact lc _ hp _ (hl e)
theorem HS{ss:Sts}{ws zs:List Int}{N:Nat->Nat->Int}{a:Nat}{c:Int}(hw:∀k,0<=ws.getD k 0)(hz:∀k,k<5->0<=zs.getD k 0)(h:dF ss ws zs N a (a+1) c):c=0:=by
 have hr:rng a (a+1)=[a]:=by
  unfold rng;rw[show a+1-a=1 by omega];rfl
 have hs:0<=sumK ws (rng a (a+1)):=by
  rw[hr];show 0<=ws.getD a 0+0;have:=hw a;omega
 have hrow:m5 ss ws zs a (a+1) (jb ss ws zs (sumK ws (rng a (a+1))) [a] (lbl ss a),Ii ss zs (lbl ss a) (jf ss (lbl ss a) [a]),[]):=.row (lbl ss a) [a] ⟨a,by rw[hr];exact A7,rfl⟩ ⟨by rw[hr],KF _ _⟩;have zero:∀o,o.Perm [a]->jb ss ws zs (sumK ws (rng a (a+1))) o (lbl ss a)=0:=λo ho=>by
  unfold jb;have:jf ss (lbl ss a) o=[]:=by
   unfold jf;refine FV.mpr λk hk=>?_;have:=AL.mp (ho.mem_iff.mp hk);subst this;simp[lbl]
  rw[this];rfl
 have up:c<=0:=by
  have:=h.2 _ hrow;rw[j7 rfl] at this;rw[zero [a] (.refl _)] at this;exact this
 have dn:0<=c:=by
  obtain⟨⟨x,hx,rfl⟩,_⟩:=h;cases hx with
  | row lab ord h1 h2=>
   obtain⟨k,hk,rfl⟩:=h1;rw[hr] at hk;rw[AL.mp hk,j7 rfl];show 0<=jb ss ws zs _ ord (lbl ss a);rw[zero ord (by rw[<- hr];exact h2.pm)];exact Iq _
  | tab c1=>rw[j7 rfl];exact mul_nonneg (hz 4 δ) hs
  | msk l0 l1 c1 c2=>rw[j7 rfl];exact mul_nonneg (hz 3 δ) hs
  | low k g1 g2=>omega
 omega
theorem QV{ss:Sts}{ws zs:List Int}{N M:Nat->Nat->Int}{n:Nat}(hw:∀k,0<=ws.getD k 0)(hz:∀k,k<5->0<=zs.getD k 0)(hN:∀p:Nat×Nat,p.1<p.2->p.2<=n->dF ss ws zs N p.1 p.2 (N p.1 p.2))(h1:∀p:Nat×Nat,p.1<p.2->p.2<=n->p.2=p.1+1->M p.1 p.2=0)(hM:∀p:Nat×Nat,p.1<p.2->p.2<=n->p.1+2<=p.2->dF ss ws zs M p.1 p.2 (M p.1 p.2)):∀d a b,b-a=d->a<b->b<=n->N a b=M a b:=by
 intro d
 induction d using Nat.strongRecOn with
 | ind d ih=>
  intro a b e hab hb;by_cases h:b=a+1
  ·rw[h1 (a,b) hab hb h];have:=hN (a,b) hab hb;subst h;exact HS hw hz this
  have l1:=hN (a,b) hab hb;have l2:=hM (a,b) hab hb (by show a+2<=b;omega);refine(dF.congr (λi j g1 g2 g3 g4=>?_) l1).uniq l2;exact ih (j-i) (by dsimp only at g4;omega) i j Z g2 (by dsimp only at g3;omega)
def zj:Sp:=λvs H Q _=>∃(sa wa t:ID)(xs:List V)(ok:ID->Prop)(ss:Sts)(ws zs:List Int),vs=[.ref sa,.ref wa,.ref t]/\H sa=GT (.lst xs)/\aG ok H xs (ss.map stD)/\1<=ss.length/\ss.length<=60/\H wa=GT (.lst (ws.map As))/\ws.length=ss.length/\m7 H t zs /\
 ∀(bd:ID) H' (m:Nat) (M:Nat->Nat->Int) (kvs:List (List Key×V)),Same H H'->yI ss ws zs H' bd m (λp=>p.1<p.2/\p.2<=ss.length) M kvs->Q (.ref bd) H'
theorem Zg{a b i:Nat}(h:i<b-a):(rng a b)[i]?=GT (a+i):=by
 unfold rng;rw[AQ,Ha h];rfl
def mz(n:Nat):Sp:=λvs H Q _=>∃(sa:ID)(a b:Nat)(v:V)(xs:List V)(ok ok2:ID->Prop)(ss:Sts)(pl:Pl),vs=[.ref sa,.int (a:Int),.int (b:Int),v]/\H sa=GT (.lst xs)/\aG ok H xs (ss.map stD)/\ss.length<=60/\aH ok2 H v (plD pl)/\inRun ss pl a b/\a<b/\b<=ss.length/\b-a<=n /\
 ∀H',Same H H'->Q (.bl true) H'
theorem yK{ok:ID->Prop}{H:Hp}{v:V}:∀{pl:Pl},aH ok H v (plD pl)->∃p rest,v=.ref p/\H p=GT (.tup (.str (bR pl)::rest))
 | .pick l,t=>by
  obtain⟨p,xs,rfl,e,tt⟩:=aH.dR t;cases tt with
  | cons t1 tt=>cases t1;exact⟨p,_,rfl,e⟩
 | .one k r,t=>by
  obtain⟨p,xs,rfl,e,tt⟩:=aH.dR t;cases tt with
  | cons t1 tt=>cases t1;exact⟨p,_,rfl,e⟩
 | .wit k r,t=>by
  obtain⟨p,xs,rfl,e,tt⟩:=aH.dR t;cases tt with
  | cons t1 tt=>cases t1;exact⟨p,_,rfl,e⟩
 | .low k a b,t=>by
  obtain⟨p,xs,rfl,e,tt⟩:=aH.dR t;cases tt with
  | cons t1 tt=>cases t1;exact⟨p,_,rfl,e⟩
 | .msk l r,t=>by
  obtain⟨p,xs,rfl,e,tt⟩:=aH.dR t;cases tt with
  | cons t1 tt=>cases t1;exact⟨p,_,rfl,e⟩
 | .tab,t=>by
  obtain⟨p,xs,rfl,e,tt⟩:=aH.dR t;cases tt with
  | cons t1 tt=>cases t1;exact⟨p,_,rfl,e⟩
theorem at0{x:V}{xs:List V}:atI (x::xs) 0=GT x:=cH (j:=0) rfl
def endP:Pl->Bool
 | .pick _=>true
 | .tab=>true
 | _=>false
theorem Xm:∀pl:Pl,inV (At (bR pl)) [At "pick",At "table"]=endP pl
 | .pick l=>(by decide +kernel:inV (At "pick") [At "pick",At "table"]=true)
 | .one k r=>(by decide +kernel:inV (At "is") [At "pick",At "table"]=false)
 | .wit k r=>(by decide +kernel:inV (At "within") [At "pick",At "table"]=false)
 | .low k p q=>(by decide +kernel:inV (At "below") [At "pick",At "table"]=false)
 | .msk l r=>(by decide +kernel:inV (At "mask") [At "pick",At "table"]=false)
 | .tab=>(by decide +kernel:inV (At "table") [At "pick",At "table"]=true)
def isP:Pl->Bool
 | .one _ _=>true
 | .wit _ _=>true
 | _=>false
theorem aej:∀pl:Pl,inV (At (bR pl)) [At "is",At "within"]=isP pl
 | .pick l=>(by decide +kernel:inV (At "pick") [At "is",At "within"]=false)
 | .one k r=>(by decide +kernel:inV (At "is") [At "is",At "within"]=true)
 | .wit k r=>(by decide +kernel:inV (At "within") [At "is",At "within"]=true)
 | .low k p q=>(by decide +kernel:inV (At "below") [At "is",At "within"]=false)
 | .msk l r=>(by decide +kernel:inV (At "mask") [At "is",At "within"]=false)
 | .tab=>(by decide +kernel:inV (At "table") [At "is",At "within"]=false)
theorem Hr(pl:Pl)(h:∀k p q,pl≠.low k p q):¬bR pl = "below" := by
 cases pl with
 | low k p q=>exact absurd rfl (h k p q)
 | pick l=>exact(by decide +kernel:¬("pick" : Str) = "below")
 | tab=>exact(by decide +kernel:¬("table" : Str) = "below")
 | msk l r=>exact(by decide +kernel:¬("mask" : Str) = "below")
 | one k r=>exact(by decide +kernel:¬("is" : Str) = "below")
 | wit k r=>exact(by decide +kernel:¬("within" : Str) = "below")
theorem Hq(pl:Pl)(h:∀l r,pl≠.msk l r):¬bR pl = "mask" := by
 cases pl with
 | msk l r=>exact absurd rfl (h l r)
 | pick l=>exact(by decide +kernel:¬("pick" : Str) = "mask")
 | tab=>exact(by decide +kernel:¬("table" : Str) = "mask")
 | low k p q=>exact(by decide +kernel:¬("below" : Str) = "mask")
 | one k r=>exact(by decide +kernel:¬("is" : Str) = "mask")
 | wit k r=>exact(by decide +kernel:¬("within" : Str) = "mask")
theorem Xj{ok:ID->Prop}{H:Hp}{p:ID}{pl:Pl}(t:aH ok H (.ref p) (plD pl))(h:isP pl=true):∃(k:Int)(r:Pl)(u:V),H p=GT (.tup [.str (bR pl),.int k,u])/\aH ok H u (plD r)/\lQ pl=lQ r/\zO r<zO pl:=by
 have key:∀(w:Str)(k:Nat)(r:Pl),aH ok H (.ref p) (.tuple [.str w,.int (k:Int),plD r])->∃u,H p=GT (.tup [.str w,.int (k:Int),u])/\aH ok H u (plD r):=λw k r t=>by
  obtain⟨p2,xs,e2,e,tt⟩:=aH.dR t;cases e2;cases tt with
  | cons t1 tt=>
   cases tt with
   | cons t2 tt=>
    cases tt with
    | cons t3 tt=>
     cases tt;cases t1;cases t2;exact⟨_,e,t3⟩
 cases pl with
 | one k r=>
  obtain⟨u,e,t3⟩:=key _ k r t;exact⟨k,r,u,e,t3,rfl,C8 _⟩
 | wit k r=>
  obtain⟨u,e,t3⟩:=key _ k r t;exact⟨k,r,u,e,t3,rfl,C8 _⟩
 | _=>cases h
theorem row_end{ss:Sts}{pl:Pl}{a b:Nat}(h:inRun ss pl a b)(hp:isP pl=true):∃l,lQ pl=GT l/\∃j∈rng a b,lbl ss j=l:=by
 cases pl with
 | one k r=>exact h
 | wit k r=>exact h
 | _=>cases hp
theorem Vb{pl:Pl}{l:Int}(h:lQ pl=GT l)(hp:isP pl=false):pl=.pick l:=by
 cases pl with
 | pick m=>exact congrArg Pl.pick (BI h)
 | one k r=>cases hp
 | wit k r=>cases hp
 | _=>cases h
theorem P0{l:Int}:∀{L:List Int},l∈L->inV (As l) (L.map As)=true
 | m::L,h=>by
  rcases A1.mp h with rfl|h
  ·simp[inV,eqV]
  have:=P0 h;unfold inV at this |-;rw[CB,HV,this,Bool.or_true]
def wI:Pl->Nat
 | .wit _ _=>1
 | .low _ _ _=>2
 | .msk _ _=>3
 | .tab=>4
 | _=>0
theorem YK:∀{r:Pl},endP r=false->iH (wI r)=bR r
 | .one _ _,_=>rfl
 | .wit _ _,_=>rfl
 | .low _ _ _,_=>rfl
 | .msk _ _,_=>rfl
def nxP(ss:Sts)(k:Nat):Pl->Pl
 | .one j r=>if k=j then .pick (bJ ss k).2.2 else r
 | .wit j r=>if k=j then .pick (bJ ss k).2.2 else r
 | .low j a b=>if k<j then a else b
 | .msk l r=>if (bJ ss k).2.2=l then .pick l else r
 | p=>p
theorem aaH(ss:Sts)(k:Nat):∀{r:Pl},endP r=false->dY ss k r=wI r::dY ss k (nxP ss k r)/\dw (nxP ss k r)<dw r
 | .one j r,_=>by
  have:=mJ r;show 0::(if k=j then [] else dY ss k r)=0::dY ss k (if k=j then _ else r)/\dw (if k=j then _ else r)<dw r+1;split
  ·exact⟨rfl,by show 1<_;omega⟩
  exact⟨rfl,ω⟩
 | .wit j r,_=>by
  have:=mJ r;show 1::(if k=j then [] else dY ss k r)=1::dY ss k (if k=j then _ else r)/\dw (if k=j then _ else r)<dw r+1;split
  ·exact⟨rfl,by show 1<_;omega⟩
  exact⟨rfl,ω⟩
 | .msk l r,_=>by
  have:=mJ r;show 3::(if (bJ ss k).2.2=l then [] else dY ss k r)=3::dY ss k (if (bJ ss k).2.2=l then _ else r)/\dw (if (bJ ss k).2.2=l then _ else r)<dw r+1;split
  ·exact⟨rfl,by show 1<_;omega⟩
  exact⟨rfl,ω⟩
 | .low j a b,_=>by
  have:=mJ a;have:=mJ b;show 2::(if k<j then dY ss k a else dY ss k b)=2::dY ss k (if k<j then a else b)/\dw (if k<j then a else b)<dw a+dw b+1;split
  ·exact⟨rfl,ω⟩
  exact⟨rfl,ω⟩
theorem JX(ss:Sts)(k:Nat):∀{r:Pl},endP r=true->(dY ss k r).map (λi=>At (iH i))=if bR r = "table" then [At "table"] else []
 | .pick l,_=>by rw[if_neg (show ¬bR (.pick l) = "table" from(by decide +kernel:¬("pick" : Str) = "table"))];rfl
 | .tab,_=>by rw[if_pos (show bR .tab = "table" from rfl)];rfl
theorem Zj(p:Prop)[Decidable p](v:V):(CA (if p then 1 else 0:Int).toNat [v]).flatten=if p then [v] else []:=by
 by_cases h:p
 ·rw[if_pos h,if_pos h];rfl
 rw[if_neg h,if_neg h];rfl
theorem is_full{ok:ID->Prop}{H:Hp}{p:ID}{ss:Sts}{k:Nat}{r:Pl}(t:aH ok H (.ref p) (plD r))(h:isP r=true):∃(j:Nat)(r1:Pl)(u:V),H p=GT (.tup [.str (bR r),.int (j:Int),u])/\aH ok H u (plD r1)/\nxP ss k r=if k=j then .pick (bJ ss k).2.2 else r1:=by
 have key:∀(w:Str)(k:Nat)(r:Pl),aH ok H (.ref p) (.tuple [.str w,.int (k:Int),plD r])->∃u,H p=GT (.tup [.str w,.int (k:Int),u])/\aH ok H u (plD r):=λw k r t=>by
  obtain⟨p2,xs,e2,e,tt⟩:=aH.dR t;cases e2;cases tt with
  | cons t1 tt=>
   cases tt with
   | cons t2 tt=>
    cases tt with
    | cons t3 tt=>
     cases tt;cases t1;cases t2;exact⟨_,e,t3⟩
 cases r with
 | one j r1=>
  obtain⟨u,e,t3⟩:=key _ j r1 t;exact⟨j,r1,u,e,t3,rfl⟩
 | wit j r1=>
  obtain⟨u,e,t3⟩:=key _ j r1 t;exact⟨j,r1,u,e,t3,rfl⟩
 | _=>cases h
theorem aeg{r:Pl}(h:endP r=false)(c1:¬bR r = "below")(c2:¬bR r = "mask"):isP r=true:=by
 cases r with
 | pick l=>cases h
 | tab=>cases h
 | low k p q=>exact absurd rfl c1
 | msk l r=>exact absurd rfl c2
 | _=>rfl
theorem X4(ss:Sts)(k:Nat):∀{r:Pl},endP r=true->(dY ss k r).length<=1
 | .pick _,_=>DJ _
 | .tab,_=>AU _
theorem abM{ok:ID->Prop}{H:Hp}{p:ID}:∀{r:Pl},aH ok H (.ref p) (plD r)->ok p
 | .pick _,.tup o _ _ _=>o
 | .tab,.tup o _ _ _=>o
 | .one _ _,.tup o _ _ _=>o
 | .wit _ _,.tup o _ _ _=>o
 | .low _ _ _,.tup o _ _ _=>o
 | .msk _ _,.tup o _ _ _=>o
def Hz:Sp:=λvs H Q _=>∃(sa wa z:ID)(xs:List V)(ok:ID->Prop)(ss:Sts)(ws zs:List Int),vs=[.ref sa,.ref wa,.ref z]/\H sa=GT (.lst xs)/\aG ok H xs (ss.map stD)/\1<=ss.length/\ss.length<=60/\H wa=GT (.lst (ws.map As))/\ws.length=ss.length/\m7 H z zs/\(∀w∈ws,0<=w) /\
 ∀H',Same H H'->Q (.bl true) H'
theorem Qd{l:List Int}(h:∀w∈l,0<=w)(k:Nat):0<=l.getD k 0:=by
 rw[A4];cases e:l[k]? with
 | none=>exact Iq _
 | some x=>exact h x (BB e)
end L2
local macro_rules | `(tactic| push_cast) => `(tactic| ((try dsimp only [L2.tV, L2.QX, L2.Q0, L2.Hv, L2.tOp, L2.tC, L2.Uj, L2.Hw, L2.yX, L2.wV, L2.Kw, L2.tCB, L2.tIf, L2.Ur, L2.tB, L2.Y6, L2.tOr, L2.QZ, L2.Kv, L2.xZ, L2.lz, L2.rI0, GU, IT, Mm, set_cons_succ]); try simp only [↓L2.rdy, L2.rdy, ↓reduceIte, reduceCtorEq, Nat.reduceAdd, Nat.reduceSub]))
local macro_rules | `(tactic| push_cast [$ls,*]) => `(tactic| ((try dsimp only [L2.tV, L2.QX, L2.Q0, L2.Hv, L2.tOp, L2.tC, L2.Uj, L2.Hw, L2.yX, L2.wV, L2.Kw, L2.tCB, L2.tIf, L2.Ur, L2.tB, L2.Y6, L2.tOr, L2.QZ, L2.Kv, L2.xZ, L2.lz, L2.rI0, GU, IT, Mm, set_cons_succ]); try simp only [↓L2.rdy, L2.rdy, ↓reduceIte, reduceCtorEq, Nat.reduceAdd, Nat.reduceSub, $ls,*]))
namespace K30
open PySem L2 PyProof.Rows
abbrev q0_:List Str:=["_law_tape_here","_law_many"]
abbrev q1_:List Str:=["_law_stretches_here","_law_weights_here","_law_prices_here"]
abbrev q2_:List Str:=["_law_stretches_here","_law_begin","_law_end","_law_plan"]
abbrev q3_:List Str:=["_law_stretches_here","_law_weights_here","_law_prices_here","_law_begin","_law_end"]
abbrev q4_:List Str:=["stretches","weights","prices","left"]
abbrev q5_:List Str:=["_law_stretches_here","_law_weights_here","_law_prices_here","_law_label"]
abbrev q6_:List Str:=["_law_stretches_here","_law_weights_here","_law_prices_here","_law_plan"]
abbrev q7_:List Str:=["stretches","weights","prices"]
abbrev q8_:List Str:=["stretches","left"]
abbrev q9_:List Str:=["stretches","weights","prices","tests","label"]
abbrev q10_:List Str:=["_law_script","_law_k"]
abbrev q11_:List Str:=["_law_stretches_here","_law_plan","_law_place"]
abbrev q12_:List Str:=["stretches","weights","prices","run"]
abbrev q13_:List Str:=["_law_tape_here","_law_stretches_here"]
abbrev q14_:List Str:=["stretches","tests","label"]
abbrev q15_:List Str:=["stretches","left","label"]
abbrev q16_:List Str:=["stretches","left","thing"]
abbrev q17_:List Str:=["stretches","left","plan"]
abbrev q18_:List Str:=["weights","prices","left"]
abbrev q19_:List Str:=["ways","numbers","plans"]
abbrev q20_:List Str:=["stretches","thing"]
abbrev q21_:List Str:=["stretch","prices"]
def top(i:Nat):Stmt:=PySem.Challenge.pw_caseways_k30_least_plans_in_runs.main.body.getD i (.Pass ⟨0,0,0,0⟩)
abbrev BLs:List Str:=["abs","bool","dict","enumerate","int","isinstance","len","list","max","min","range","reversed","set","sorted","sum","tuple","zip"]
theorem W4:("abs" : Str)∈BLs:=by decide +kernel
theorem Pq:("bool" : Str)∈BLs:=by decide +kernel
theorem aaP:("dict" : Str)∈BLs:=by decide +kernel
theorem GJ:("enumerate" : Str)∈BLs:=by decide +kernel
theorem Aj:("int" : Str)∈BLs:=by decide +kernel
theorem gZ:("isinstance" : Str)∈BLs:=by decide +kernel
theorem eV:("len" : Str)∈BLs:=by decide +kernel
theorem yN:("list" : Str)∈BLs:=by decide +kernel
theorem W3:("max" : Str)∈BLs:=by decide +kernel
theorem Ai:("min" : Str)∈BLs:=by decide +kernel
theorem fH:("range" : Str)∈BLs:=by decide +kernel
theorem xV:("reversed" : Str)∈BLs:=by decide +kernel
theorem WY:("set" : Str)∈BLs:=by decide +kernel
theorem rC:("sorted" : Str)∈BLs:=by decide +kernel
theorem tZ:("sum" : Str)∈BLs:=by decide +kernel
theorem vm:("tuple" : Str)∈BLs:=by decide +kernel
theorem Mr:("zip" : Str)∈BLs:=by decide +kernel
abbrev BZ:List Str:=["_law_script","_law_k"]
abbrev GI_(s:Stmt)(x:Str):Prop:=(aj s).names.lookup x=GT .globalImplicit
abbrev NM_(N:List Str)(s:Stmt)(i:Nat)(x:Str):Prop:=Nm N (aj s) i x
abbrev mD:Stmt:=top 29
theorem Q9:aZ BZ q10_ (aj mD):=⟨rfl,rfl,rfl,ψ,rfl,ψ,ψ⟩
theorem zZ:NM_ BZ mD 0 "_law_script":=.of ψ
theorem zY:NM_ BZ mD 1 "_law_k":=.of ψ
theorem GX:GI_ mD "len":=ψ
theorem Tp:Bn "_law_cell_at" := ⟨ψ,ψ⟩
abbrev Hj:List Str:=["_law_script","_law_k","_law_cell"]
abbrev nO:Stmt:=top 30
theorem Ox:aZ Hj q10_ (aj nO):=⟨rfl,rfl,rfl,ψ,rfl,ψ,ψ⟩
theorem Wx:NM_ Hj nO 0 "_law_script":=.of ψ
theorem zW:NM_ Hj nO 1 "_law_k":=.of ψ
theorem uO:NM_ Hj nO 2 "_law_cell":=.of ψ
theorem Av:GI_ nO "_law_cell_at":=ψ
theorem Ar:GI_ nO "abs":=ψ
theorem MN:GI_ nO "int":=ψ
theorem abl:Bn "_law_tape" := ⟨ψ,ψ⟩
abbrev wQ:List Str:=["_law_tape_here","_law_many","_law_found","_law_prime","_law_once"]
abbrev nP:Stmt:=top 31
theorem uG:aZ wQ q0_ (aj nP):=⟨rfl,rfl,rfl,ψ,rfl,ψ,ψ⟩
theorem dj:NM_ wQ nP 0 "_law_tape_here":=.of ψ
theorem qe:NM_ wQ nP 1 "_law_many":=.of ψ
theorem qd:NM_ wQ nP 2 "_law_found":=.of ψ
theorem Jh:NM_ wQ nP 3 "_law_prime":=.of ψ
theorem zX:NM_ wQ nP 4 "_law_once":=.of ψ
theorem GR:GI_ nP "_law_take":=ψ
theorem cJ:Bn "_law_take" := ⟨ψ,ψ⟩
section
variable {P:AR}{w:A9}{K:AD}{mg:Str->Option Ap}{base:Heap}{f:ID}{fd:D6}{bs:List Str}
theorem aaF(hB:∀x:Str,x∈BLs->mg x=Is)(F:Fun K "_law_cell_at" "_law_cell_at" mD f fd):cQ P w K mg base CX0 1 f fd q10_ (U4 K):=by
 refine F.okz Q9 λcdv A outer s H vs Q E hr h=>?_;obtain⟨a,ns,k,rfl,hS,h0,q⟩:=h;refine⟨_,(aL (aV (pW (bh xg (ao zY) (bW j6 GX (hB "len" eV) B1 eY (ak (ao zZ) aB Z) Z Z) (aR _)) (aK PK (ao zZ) (ao zY) (λ_ _=>rfl)) aq))),?_⟩;push_cast;refine⟨_,.inl hS,?_⟩;split
 ·rename_i c;rw[AE] at c;have hk:k.toNat<ns.length:=ω;have ek:k=((k.toNat:Nat):Int):=ω;have z:atI (ns.map As) ((k.toNat:Nat):Int)=GT (.int ns[k.toNat]):=cH (by rw[AQ,AF hk];rfl);rw[<- ek] at z;unfold adO;exact⟨a,_,k,_,rfl,rfl,hS,z,q _⟩
 exact q _
theorem aaD(hB:∀x:Str,x∈BLs->mg x=Is)(CZCellAt:Cal P w K mg base "_law_cell_at" 1 q10_ (U4 K))(F:Fun K "_law_tape" "_law_tape" nO f fd):cQ P w K mg base CX0 2 f fd q10_ (UW K):=by
 refine F.okz Ox λcdv A outer s H vs Q E hr h=>?_;obtain⟨a,ns,k,rfl,hS,h0,h1,q⟩:=h;refine⟨_,(aD (aX uO Ox.nd (bw CZCellAt (hr.mono δ) Av Tp (ak (ao Wx) (ak (ao zW) aB Z) Z) Z Z) Z (.inl Z))
  (aL (aV (cF (ak (aP cG (bW J7 Ar (hB "abs" W4) PyProof.Rows.Boot.«abs» Yo (ak (ao uO) aB Z) Z Z) (w6 oJ MN (hB "int" Aj) boot_int BK (ak (fu ad5 (bW J7 Ar (hB "abs" W4) PyProof.Rows.Boot.«abs» Yo (ak (ao uO) aB Z) Z Z) (aP tL aq aq) (aR _)) aB Z) Z Z)) (ak (aP jN (aP cG (aP aY (aP aY (aP jN (ao uO) aq) (aP cG (aP cG aq (ao zW)) (ao zW))) aq) aq) aq) (ak aq aB Z) Z) Z))))),?_⟩
 push_cast;refine⟨a,ns,k,rfl,hS,h0,λv=>?_⟩;push_cast;refine⟨⟨δ,δ,δ⟩,?_,δ,.inl δ,.inr ω,.inr δ,δ,aM δ,λp hp=>q p _ hp (au hp) ⟨_,_,_,aA,?_,?_,?_,Iq _,Iq _⟩⟩
 ·right;generalize (if v<0 then -v else v)=u;split <;> decide
 ·refine mul_nonneg ?_ ?_
  ·split <;> omega
  generalize (if v<0 then -v else v)=u;split <;> decide
 ·exact F4 _ δ
 exact EX _ δ
theorem Pb{n:Nat}(hB:∀x:Str,x∈BLs->mg x=Is)(hn:n<=10)(CZTake:Cal P w K mg base "_law_take" n q0_ (nG n))(F:Fun K "_law_take" "_law_take" nP f fd):cQ P w K mg base CX0 (n+1) f fd q0_ (nG (n+1)):=by
 refine F.okz uG λcdv A outer s H vs Q E hr h=>?_;obtain⟨p,m,B,rfl,⟨a,b,c,hp,ha,hb0,hb1,hc0,hc1⟩,hB0,hm0,hm1,hn1,hn2,q⟩:=h;refine⟨_,(aD (dh (bh Wk (aK aU (ao dj) aq (λ_ _=>rfl)) aq (aR _)) (aD (aX qd uG.nd (aP jN (aK aU (ao dj) aq (λ_ _=>rfl)) (ao qe)) Z (.inl Z))
  (aD (nQ (aP Iw (aK aU (ao dj) aq (λ_ _=>rfl)) (ao qe)) (Gh (ao dj) aq U8) Z Z Z)
  (aL (aV (ao qd))))) cu)
  (aD (nQ (aP aY (aK aU (ao dj) aq (λ_ _=>rfl)) aq) (Gh (ao dj) aq U8) Z Z Z)
  (aD (aX Jh uG.nd (aK aU (cF (ak aq (ak aq (ak aq (ak aq (ak aq (ak aq (ak aq aB Z) Z) Z) Z) Z) Z) Z)) (aP jN (aK aU (ao dj) aq (λ_ _=>rfl)) aq) (λ_ _=>rfl)) Z (.inl Z))
  (aD (aX zX uG.nd (aP jN (aP cG (aP aY (aK aU (ao dj) aq (λ_ _=>rfl)) (aP cG aq (aK aU (ao dj) aq (λ_ _=>rfl)))) (aP aY aq (aK aU (ao dj) aq (λ_ _=>rfl)))) (ao Jh)) Z (.inl Z))
  (aD (nQ (aP jN (aP aY (aP cG (ao zX) (aP aY (aP jN (ao zX) aq) aq)) (aK aU (ao dj) aq (λ_ _=>rfl))) aq) (Gh (ao dj) aq U8) Z Z Z)
  (aD (aX qd uG.nd (aP Iw (aP jN (aP cG (aK aU (ao dj) aq (λ_ _=>rfl)) (aP aY (aP jN (aK aU (ao dj) aq (λ_ _=>rfl)) aq) aq)) aq) aq) Z (.inl Z))
  (aL (aV (pW (bh xg (ao qe) (aP tL aq aq) (aR _)) (aP jN (ao qd) (ao qe)) (aP jN (aP aY (aP cG (ao qd) aq) (bw CZTake (hr.mono ω) GR cJ (ak (ao dj) (ak aq aB Z) Z) Z Z)) (ao qe))))))))))),?_⟩
 push_cast[hp];split
 ·refine⟨hm0,⟨hm0,hm1⟩,?_⟩;refine q _ _ (F4 _ ω) (EX _ hm0) bY.upd ⟨_,_,_,aA,Int.ediv_nonneg ha ω,hb0,hb1,hc0,ω⟩
 refine⟨aM δ,λp1 hp1=>?_⟩;have np:p≠p1:=λz=>by rw[<- z,aA] at hp1;cases hp1
 obtain⟨v,hv,v0⟩:=acs (c+1);push_cast[hp,aJ np,ne_eq,np,not_false_eq_true,hv];have m1:∀x:Int,0<=x%40009/\x%40009<40009:=λx=>⟨F4 _ δ,EX _ δ⟩;have m2:∀x:Int,0<=x%1009/\x%1009<1009:=λx=>⟨F4 _ δ,EX _ δ⟩;have m3:∀x:Int,0<=x%2147483629/\x%2147483629<2147483629:=λx=>⟨F4 _ δ,EX _ δ⟩;refine⟨δ,.inl δ,.inr ω,v0,δ,.inr ?_,δ,δ,.inr ?_,δ,δ,δ,?_⟩
 ·have:=m1 ((b+39373*(c+1))*(48271+(c+1))%v);omega
 ·have:=m2 (((b+39373*(c+1))*(48271+(c+1))%v*((b+39373*(c+1))*(48271+(c+1))%v%40009+7)+(c+1))%2147483629);omega
 have e3:=m3 ((b+39373*(c+1))*(48271+(c+1))%v*((b+39373*(c+1))*(48271+(c+1))%v%40009+7)+(c+1));generalize ((b+39373*(c+1))*(48271+(c+1))%v*((b+39373*(c+1))*(48271+(c+1))%v%40009+7)+(c+1))%2147483629=y at e3 |-;have sx:bY p H (upd (upd (upd H p (AT [As a,As b,As (c+1)])) p1 (AT [As 2147483587,As 2147483579,As 2147483563,As 2147483549,As 2147483543,As 2147483497,As 2147483489])) p (AT [As a,As y,As (c+1)])):=
  (bY.upd.trans (au hp1).x).trans bY.upd
 have tp:bQ (upd (upd (upd H p (AT [As a,As b,As (c+1)])) p1 (AT [As 2147483587,As 2147483579,As 2147483563,As 2147483549,As 2147483543,As 2147483497,As 2147483489])) p (AT [As a,As y,As (c+1)])) p (B+1):=
  ⟨a,y,c+1,aA,ha,e3.1,e3.2,ω,ω⟩
 generalize upd (upd (upd H p (AT [As a,As b,As (c+1)])) p1 (AT [As 2147483587,As 2147483579,As 2147483563,As 2147483549,As 2147483543,As 2147483497,As 2147483489])) p (AT [As a,As y,As (c+1)])=H2 at sx tp |-;split
 ·refine⟨hm0,q _ _ (F4 _ ω) (EX _ hm0) sx ?_⟩;obtain⟨a',b',c',z1,z2,z3,z4,z5,z6⟩:=tp;exact⟨a',b',c',z1,z2,z3,z4,z5,ω⟩
 rename_i hm;have hm':1000000<=m:=by
  rw[show(10:Int)^B7 6=1000000 from by decide] at hm;omega
 have hn3:=hn2 hm';refine⟨.inr δ,p,99991,B+1,rfl,tp,ω,δ,δ,ω,λz=>absurd z δ,λr H3 r0 r1 s3 t3=>?_⟩;push_cast;refine⟨hm0,q _ _ (F4 _ ω) (EX _ hm0) (sx.trans s3) ?_⟩;obtain⟨a',b',c',z1,z2,z3,z4,z5,z6⟩:=t3;exact⟨a',b',c',z1,z2,z3,z4,z5,ω⟩
theorem QM:cQ P w K mg base CX0 0 f fd q0_ (nG 0):=by
 have no:∀vs H Q E,¬nG 0 vs H Q E:=λvs H Q E h=>by
  obtain⟨p,m,B,_,_,_,_,_,h1,_⟩:=h;omega
 exact⟨λvs H Q E h=>absurd h (no vs H Q E),λA outer s H args us vs Q E _ _ _ _ h=>absurd h (no vs H Q E)⟩
theorem vM:Bn "MOST_IN_MASK" := ⟨ψ,ψ⟩
theorem sU:Bn "MOST_IN_TABLE" := ⟨ψ,ψ⟩
theorem Qv:Bn "TESTS" := ⟨ψ,ψ⟩
abbrev lD:List Str:=["stretches","left"]
abbrev fX:Stmt:=top 5
theorem yc:aZ lD q8_ (aj fX):=⟨rfl,rfl,rfl,ψ,rfl,ψ,ψ⟩
theorem mQ:NM_ lD fX 0 "stretches":=.of ψ
theorem mO:NM_ lD fX 1 "left":=.of ψ
theorem jU:Bn "numbers_across" := ⟨ψ,ψ⟩
abbrev jM:List Str:=["stretches","left","plan","word","ahead"]
abbrev fV:Stmt:=top 9
theorem vY:aZ jM q17_ (aj fV):=⟨rfl,rfl,rfl,ψ,rfl,ψ,ψ⟩
theorem oF:NM_ jM fV 1 "left":=.of ψ
theorem lq:NM_ jM fV 2 "plan":=.of ψ
theorem oE:NM_ jM fV 3 "word":=.of ψ
theorem tU:NM_ jM fV 4 "ahead":=.of ψ
theorem G3:GI_ fV "len":=ψ
theorem Tv:Bn "plans_in" := ⟨ψ,ψ⟩
theorem RM(hB:∀x:Str,x∈BLs->mg x=Is)(F:Fun K "numbers_across" "numbers_across" fX f fd):cQ P w K mg base CX0 1 f fd q8_ zm:=by
 refine F.okz yc λcdv A outer s H vs Q E hr h=>?_;obtain⟨s,l,ok,ss,left,rfl,ts,tl,lf,q⟩:=h;refine⟨_,(aL (aV (aP aY (aP lg (aK aU (aK aU (ao mQ) (aK aU (ao mO) (wZ pJ aq) (λ_ _=>rfl)) (λ_ _=>rfl)) aq (λ_ _=>rfl)) (aK aU (aK aU (ao mQ) (aK aU (ao mO) aq (λ_ _=>rfl)) (λ_ _=>rfl)) aq (λ_ _=>rfl))) aq))),?_⟩;obtain⟨la,rfl,_,el,_⟩:=tl.left;replace el:H la=GT (.lst (nv left)):=el;cases ts with
 | lst o es zs tss=>
  obtain⟨k1,e1,m1,a1⟩:=aaI lf.ne;obtain⟨k0,e0,m0,a0⟩:=aaJ lf.ne;obtain⟨p1,x1,y1⟩:=tss.stN (lf.lt _ m1);obtain⟨p0,x0,y0⟩:=tss.stN (lf.lt _ m0);unfold cU at q;rw[e1,e0] at q;push_cast[el,a1,a0,es,x1,x0,y1,y0];exact q
theorem Lj(hB:∀x:Str,x∈BLs->mg x=Is)(F:Fun K "plans_in" "plans_in" fV f fd):cQ P w K mg base CX0 1 f fd q17_ Ot:=by
 refine F.okz vY λcdv A outer s H vs Q E hr h=>?_;obtain⟨s,l,p,ok,ss,left,pl,rfl,hn,ts,tl,tp,hst,lf,q⟩:=h;refine⟨_,(aD (aX oE vY.nd (aK aU (ao lq) aq (λ_ _=>rfl)) Z (.inl Z))
  (aD (dh (bh (bT hr.bD) (ao oE) bC (aR _)) (aD (yJ (NX:=jM) (kX:=(aj fV).names) ["k","plan"] [Is,GT 2] tU vY.nd Z Z ⟨rfl,ψ,ψ,ψ,ψ⟩ Z (cj (ao oF)) (λ_ _ _ _ _=>(bA 0 (show BN (["k","plan"]:List Str) from by decide +kernel) Z (C3 Z))) (λ_ _ _ _ _=>(K5 (bh xg (bf 0) (aK aU (bf 1) aq (λ_ _=>rfl)) (aR _)))) (λ_ _ _ _ _=>(bf 0)))
  (aL (aV (cF (ak (bF (ak (ao tU) (ak (aK aU (ao lq) aq (λ_ _=>rfl)) aB Z) Z)) (ak (bF (ak (fY zB (ao oF) (dZ (bW bM G3 (hB "len" eV) B1 eY (ak (ao tU) aB Z) Z Z)) qZ) (ak (aK aU (ao lq) aq (λ_ _=>rfl)) aB Z) Z)) aB Z) Z))))) cu)
  (aD (dh (bh (bT hr.bD) (ao oE) bC (aR _)) (aL (aV (cF (ak (bF (ak (eE (NX:=jM) (kX:=(aj fV).names) ["k","plan","stretches"] [Is,GT 2,GT 0] Z Z ⟨rfl,ψ,ψ,ψ,ψ⟩ Z (cj (ao oF)) (λ_ _ _ _ _=>(bA 0 (show BN (["k","plan","stretches"]:List Str) from by decide +kernel) Z (C3 Z))) (λ_ _ _ _ _=>(K5 (bh (pZ hr.bD) (aK aU (aK aU (bf 2) (bf 0) (λ_ _=>rfl)) aq (λ_ _=>rfl)) (aK aU (bf 1) aq (λ_ _=>rfl)) (aR _)))) (λ_ _ _ _ _=>(bf 0))) (ak (aK aU (ao lq) aq (λ_ _=>rfl)) aB Z) Z)) aB Z)))) cu)
  (aD (dh (bh (acM hr.un1) (ao oE) (bF (ak bC (ak bC aB Z) Z)) (by with_unfolding_all rfl)) (aL (aV (cF (ak (bF (ak (eE (NX:=jM) (kX:=(aj fV).names) ["k","plan"] [Is,GT 2] Z Z ⟨rfl,ψ,ψ,ψ,ψ⟩ Z (cj (ao oF)) (λ_ _ _ _ _=>(bA 0 (show BN (["k","plan"]:List Str) from by decide +kernel) Z (C3 Z))) (λ_ _ _ _ _=>(K5 (bh (pZ hr.bD) (bf 0) (aK aU (bf 1) aq (λ_ _=>rfl)) (aR _)))) (λ_ _ _ _ _=>(bf 0))) (ak (aK aU (ao lq) aq (λ_ _=>rfl)) aB Z) Z)) aB Z)))) cu)
  (aL (aV (cF aB))))))),?_⟩
 obtain⟨la,rfl,okl,el,ll⟩:=tl.left;replace el:H la=GT (.lst (nv left)):=el;have ts0:=ts;cases ts with
 | lst os es zs tss=>
  rename_i sa xs;cases pl with
  | odd d=>cases hst
  | pick l=>
   cases tp with
   | tup o e z tt=>
    cases tt with
    | cons t1 tt=>
     cases t1;push_cast[e,rdW];refine⟨aM δ,λt ht=>?_⟩;have s1:=au (o:=By [At "is",At "within"]) ht;refine⟨t,["is","within"],.str "pick",ok,rfl,aA,.str _,?_⟩;rw[show([("is" : Str), "within"].any (cT (.str "pick")))=false by decide +kernel];push_cast;exact⟨aM δ,λr hr=>q _ _ (s1.trans (au hr)) (.lst (hn.new (lY hr).1) aA (by show 0<=1000000;decide) .nil)⟩
  | tab=>
   cases tp with
   | tup o e z tt=>
    cases tt with
    | cons t1 tt=>
     cases t1;push_cast[e,rdW];refine⟨aM δ,λt ht=>?_⟩;have s1:=au (o:=By [At "is",At "within"]) ht;refine⟨t,["is","within"],.str "table",ok,rfl,aA,.str _,?_⟩;rw[show([("is" : Str), "within"].any (cT (.str "table")))=false by decide +kernel];push_cast;exact⟨aM δ,λr hr=>q _ _ (s1.trans (au hr)) (.lst (hn.new (lY hr).1) aA (by show 0<=1000000;decide) .nil)⟩
  | one k r=>
   cases tp with
   | tup o e z tt=>
    cases tt with
    | cons t1 tt=>
     cases t1;cases tt with
     | cons t2 tt=>
      cases t2;cases tt with
      | cons t3 tt=>
       cases tt;rename_i pa x3;push_cast[e,rdW];refine⟨aM δ,λt ht=>?_⟩;have s1:=au (o:=By [At "is",At "within"]) ht;refine⟨t,["is","within"],.str "is",ok,rfl,aA,.str _,?_⟩;rw[show([("is" : Str), "within"].any (cT (.str "is")))=true by decide +kernel];have e1:=s1 _ _ e;have el1:=s1 _ _ el;have t31:=t3.same s1;have hn1:=hn.same s1;generalize upd H t (By [At "is",At "within"])=H1 at s1 e1 el1 t31 hn1 |-;push_cast;refine dX λR hR=>?_;push_cast[el1];refine rG (·≠k) (λτ=>∃o0,τ=[o0,GT (.ref pa)]) hR el1 ll ⟨_,rfl⟩ ?_ ?_
       ·rintro i k' τ acc Pn hk ⟨o0,rfl⟩ h1 h2;push_cast[e1];by_cases c:k'=k
        ·subst c;rw[decide_eq_true (show((k':Nat):Int)=(k':Int) from Z),Mk,if_neg δ];exact h2 ζ _ ⟨_,rfl⟩
        rw[decide_eq_false (show ¬((k':Nat):Int)=(k:Int) by omega),LN,if_pos rfl];exact h1 (by simpa using c) _ ⟨_,rfl⟩
       intro d hd;have s2:=au (o:=AT (nv (left.filter (·≠k)))) hd;have e2:=s2 _ _ e1;have okd:=hn1.new hd;have t32:=t31.same s2;have ed:upd H1 d (AT (nv (left.filter (·≠k)))) d=_:=aA;have hn2:=hn1.same s2;generalize upd H1 d (AT (nv (left.filter (·≠k))))=H2 at s2 e2 t32 ed hn2 |-;push_cast[e2];refine⟨aM δ,λt2 ht2=>⟨aM δ,λr2 hr2=>?_⟩⟩;have s3:=au (o:=By [AS d,x3]) ht2;have s4:=au (o:=AT [AS t2]) hr2;have s34:=s3.trans s4;refine q _ _ ((s1.trans s2).trans s34) (.lst (hn2.new (lY hr2).1) aA (by show 1<=1000000;decide) (.cons (.tup (hn2.new ht2) (s4 _ _ aA) (by show 2<=1000000;decide) (.cons (iG okd (s34 _ _ ed) (CF (EB _ _) ll)) (.cons (t32.same s34) .nil))) .nil))
  | wit k r=>
   cases tp with
   | tup o e z tt=>
    cases tt with
    | cons t1 tt=>
     cases t1;cases tt with
     | cons t2 tt=>
      cases t2;cases tt with
      | cons t3 tt=>
       cases tt;rename_i pa x3;push_cast[e,rdW];refine⟨aM δ,λt ht=>?_⟩;have s1:=au (o:=By [At "is",At "within"]) ht;refine⟨t,["is","within"],.str "within",ok,rfl,aA,.str _,?_⟩;rw[show([("is" : Str), "within"].any (cT (.str "within")))=true by decide +kernel];have e1:=s1 _ _ e;have el1:=s1 _ _ el;have t31:=t3.same s1;have hn1:=hn.same s1;generalize upd H t (By [At "is",At "within"])=H1 at s1 e1 el1 t31 hn1 |-;push_cast;refine dX λR hR=>?_;push_cast[el1];refine rG (·≠k) (λτ=>∃o0,τ=[o0,GT (.ref pa)]) hR el1 ll ⟨_,rfl⟩ ?_ ?_
       ·rintro i k' τ acc Pn hk ⟨o0,rfl⟩ h1 h2;push_cast[e1];by_cases c:k'=k
        ·subst c;rw[decide_eq_true (show((k':Nat):Int)=(k':Int) from Z),Mk,if_neg δ];exact h2 ζ _ ⟨_,rfl⟩
        rw[decide_eq_false (show ¬((k':Nat):Int)=(k:Int) by omega),LN,if_pos rfl];exact h1 (by simpa using c) _ ⟨_,rfl⟩
       intro d hd;have s2:=au (o:=AT (nv (left.filter (·≠k)))) hd;have e2:=s2 _ _ e1;have okd:=hn1.new hd;have t32:=t31.same s2;have ed:upd H1 d (AT (nv (left.filter (·≠k)))) d=_:=aA;have hn2:=hn1.same s2;generalize upd H1 d (AT (nv (left.filter (·≠k))))=H2 at s2 e2 t32 ed hn2 |-;push_cast[e2];refine⟨aM δ,λt2 ht2=>⟨aM δ,λr2 hr2=>?_⟩⟩;have s3:=au (o:=By [AS d,x3]) ht2;have s4:=au (o:=AT [AS t2]) hr2;have s34:=s3.trans s4;refine q _ _ ((s1.trans s2).trans s34) (.lst (hn2.new (lY hr2).1) aA (by show 1<=1000000;decide) (.cons (.tup (hn2.new ht2) (s4 _ _ aA) (by show 2<=1000000;decide) (.cons (iG okd (s34 _ _ ed) (CF (EB _ _) ll)) (.cons (t32.same s34) .nil))) .nil))
  | low k a b=>
   cases tp with
   | tup o e z tt=>
    cases tt with
    | cons t1 tt=>
     cases t1;cases tt with
     | cons t2 tt=>
      cases t2;cases tt with
      | cons t3 tt=>
       cases tt with
       | cons t4 tt=>
        cases tt;rename_i pa x3 x4;push_cast[e,rdW];refine dX λR hR=>?_;push_cast[el];refine rG (· < k) (λτ=>∃o0,τ=[o0,GT (.ref pa)]) hR el ll ⟨_,rfl⟩ ?_ ?_
        ·rintro i k' τ acc Pn hk ⟨o0,rfl⟩ h1 h2;push_cast[e];by_cases c:k'<k
         ·rw[if_pos (show((k':Nat):Int)<(k:Int) by omega)];exact h1 (by simpa using c) _ ⟨_,rfl⟩
         rw[if_neg (show ¬((k':Nat):Int)<(k:Int) by omega)];exact h2 (by simpa using c) _ ⟨_,rfl⟩
        intro d hd;have s2:=au (o:=AT (nv (left.filter (· < k)))) hd;have e2:=s2 _ _ e;have okd:=hn.new hd;have t32:=t3.same s2;have t42:=t4.same s2;have el2:=s2 _ _ el;have ed:upd H d (AT (nv (left.filter (· < k)))) d=_:=aA;have hn2:=hn.same s2;generalize upd H d (AT (nv (left.filter (· < k))))=H2 at s2 e2 t32 t42 el2 ed hn2 |-;push_cast[e2];refine⟨aM δ,λt5 ht5=>?_⟩;have s3:=au (o:=By [AS d,x3]) ht5;have e3:=s3 _ _ e2;have el3:=s3 _ _ el2;have ed3:=s3 _ _ ed;have et5:upd H2 t5 (By [AS d,x3]) t5=_:=aA;have ok5:=hn2.new ht5;have hn3:=hn2.same s3;have t33:=t32.same s3;have t43:=t42.same s3;generalize upd H2 t5 (By [AS d,x3])=H3 at s3 e3 el3 ed3 et5 hn3 t33 t43 |-;push_cast[ed3,gJ,el3];intro d6 hd6;rw[SX lf.up];have s6:=au (o:=AT (nv (left.filter (k<=·)))) hd6;have e6:=s6 _ _ e3;have ed6:upd H3 d6 (AT (nv (left.filter (k<=·)))) d6=_:=aA;have ok6:=hn3.new hd6;have hn6:=hn3.same s6;have ed36:=s6 _ _ ed3;have et56:=s6 _ _ et5;have t36:=t33.same s6;have t46:=t43.same s6;generalize upd H3 d6 (AT (nv (left.filter (k<=·))))=H6 at s6 e6 ed6 hn6 ed36 et56 t36 t46 |-;push_cast[e6];refine⟨aM δ,λt7 ht7=>⟨aM δ,λr8 hr8=>?_⟩⟩;have s7:=au (o:=By [AS d6,x4]) ht7;have s8:=au (o:=AT [AS t5,AS t7]) hr8;have s78:=s7.trans s8;refine q _ _ (((s2.trans s3).trans s6).trans s78) (.lst (hn6.new (lY hr8).1) aA (by show 2<=1000000;decide) (.cons (.tup ok5 (s78 _ _ et56) (by show 2<=1000000;decide) (.cons (iG okd (s78 _ _ ed36) (CF (EB _ _) ll)) (.cons (t36.same s78) .nil))) (.cons (.tup (hn6.new ht7) (s8 _ _ aA) (by show 2<=1000000;decide) (.cons (iG ok6 (s78 _ _ ed6) (CF (EB _ _) ll)) (.cons (t46.same s78) .nil))) .nil)))
  | msk l r=>
   cases tp with
   | tup o e z tt=>
    cases tt with
    | cons t1 tt=>
     cases t1;cases tt with
     | cons t2 tt=>
      cases t2;cases tt with
      | cons t3 tt=>
       cases tt;rename_i pa x3;push_cast[e,rdW];refine dX λR hR=>?_;push_cast[el];refine rG (λk=>(bJ ss k).2.2≠l) (λτ=>∃o0,τ=[o0,GT (.ref pa),GT (.ref sa)]) hR el ll ⟨_,rfl⟩ ?_ ?_
       ·rintro i k' τ acc Pn hk ⟨o0,rfl⟩ h1 h2;obtain⟨sk,x1,y1⟩:=tss.stN (lf.lt _ (BB hk));push_cast[e,es,x1,y1];by_cases c:(bJ ss k').2.2=l
        ·rw[decide_eq_true c,Mk,if_neg δ];exact h2 (by simpa using c) _ ⟨_,rfl⟩
        rw[decide_eq_false c,LN,if_pos rfl];exact h1 (by simpa using c) _ ⟨_,rfl⟩
       intro d hd;have s2:=au (o:=AT (nv (left.filter λk=>(bJ ss k).2.2≠l))) hd;have e2:=s2 _ _ e;have okd:=hn.new hd;have t32:=t3.same s2;have ed:upd H d (AT (nv (left.filter λk=>(bJ ss k).2.2≠l))) d=_:=aA;have hn2:=hn.same s2;generalize upd H d (AT (nv (left.filter λk=>(bJ ss k).2.2≠l)))=H2 at s2 e2 t32 ed hn2 |-;push_cast[e2];refine⟨aM δ,λt2 ht2=>⟨aM δ,λr2 hr2=>?_⟩⟩;have s3:=au (o:=By [AS d,x3]) ht2;have s4:=au (o:=AT [AS t2]) hr2;have s34:=s3.trans s4;refine q _ _ (s2.trans s34) (.lst (hn2.new (lY hr2).1) aA (by show 1<=1000000;decide) (.cons (.tup (hn2.new ht2) (s4 _ _ aA) (by show 2<=1000000;decide) (.cons (iG okd (s34 _ _ ed) (CF (EB _ _) ll)) (.cons (t32.same s34) .nil))) .nil))
abbrev qQ:List Str:=["stretches","left"]
abbrev jE:Stmt:=top 6
theorem FT:aZ qQ q8_ (aj jE):=⟨rfl,rfl,rfl,ψ,rfl,ψ,ψ⟩
theorem Cz:NM_ qQ jE 1 "left":=.of ψ
theorem oK:Bn "labels_left" := ⟨ψ,ψ⟩
theorem aaE(hB:∀x:Str,x∈BLs->mg x=Is)(F:Fun K "labels_left" "labels_left" jE f fd):cQ P w K mg base CX0 1 f fd q8_ FJ:=by
 refine F.okz FT λcdv A outer s H vs Q E hr h=>?_;obtain⟨s,l,ok,ss,left,rfl,ts,tl,lf,q⟩:=h;refine⟨_,(aL (aV (eE (NX:=qQ) (kX:=(aj jE).names) ["k","stretches"] [Is,GT 0] Z Z ⟨rfl,ψ,ψ,ψ,ψ⟩ Z (cj (ao Cz)) (λ_ _ _ _ _=>(bA 0 (show BN (["k","stretches"]:List Str) from by decide +kernel) Z (C3 Z))) (λ_ _ _ _ _=>fB) (λ_ _ _ _ _=>(aK aU (aK aU (bf 1) (bf 0) (λ_ _=>rfl)) aq (λ_ _=>rfl)))))),?_⟩;obtain⟨la,rfl,_,el,hll⟩:=tl.left;replace el:H la=GT (.lst (nv left)):=el;cases ts with
 | lst o es zs tss=>
  push_cast;refine dX λR hR=>?_;push_cast[el];refine Ez (lbl ss) (λτ=>∃o0,τ=[o0,GT (.ref _)]) hR el hll ⟨_,rfl⟩ ?_ ?_
  ·rintro i k τ acc Pn hk ⟨o0,rfl⟩ hN;obtain⟨p1,x1,y1⟩:=tss.stN (lf.lt _ (BB hk));push_cast[es,x1,y1];exact hN _ ⟨_,rfl⟩
  intro d hd;exact q d hd
end
abbrev Fo:List Str:=["thing"]
abbrev jl:Stmt:=top 1
theorem KJ:aZ Fo ["thing"] (aj jl):=⟨rfl,rfl,rfl,ψ,rfl,ψ,ψ⟩
theorem xT:NM_ Fo jl 0 "thing":=.of ψ
theorem Bp:GI_ jl "bool":=ψ
theorem Df:GI_ jl "int":=ψ
theorem jK:GI_ jl "isinstance":=ψ
theorem Nv:Bn "is_number" := ⟨ψ,ψ⟩
abbrev oN:List Str:=["stretches","left","label"]
abbrev fW:Stmt:=top 7
theorem HY:aZ oN q15_ (aj fW):=⟨rfl,rfl,rfl,ψ,rfl,ψ,ψ⟩
theorem Gz:NM_ oN fW 0 "stretches":=.of ψ
theorem vg:NM_ oN fW 1 "left":=.of ψ
theorem Gy:NM_ oN fW 2 "label":=.of ψ
theorem pF:GI_ fW "labels_left":=ψ
theorem Bj:GI_ fW "len":=ψ
theorem Kd:Bn "parts_some" := ⟨ψ,ψ⟩
abbrev rJ:List Str:=["stretches","left","thing","word","which"]
abbrev dH:Stmt:=top 8
theorem zH:aZ rJ q16_ (aj dH):=⟨rfl,rfl,rfl,ψ,rfl,ψ,ψ⟩
theorem kE:NM_ rJ dH 0 "stretches":=.of ψ
theorem iK:NM_ rJ dH 1 "left":=.of ψ
theorem fJ:NM_ rJ dH 2 "thing":=.of ψ
theorem jo:NM_ rJ dH 3 "word":=.of ψ
theorem jn:NM_ rJ dH 4 "which":=.of ψ
theorem uh:GI_ dH "MOST_IN_MASK":=ψ
theorem rQ:GI_ dH "MOST_IN_TABLE":=ψ
theorem wL:GI_ dH "is_number":=ψ
theorem ug:GI_ dH "isinstance":=ψ
theorem um:GI_ dH "labels_left":=ψ
theorem gh:GI_ dH "len":=ψ
theorem jj:GI_ dH "numbers_across":=ψ
theorem vG:GI_ dH "parts_some":=ψ
theorem Dc:GI_ dH "tuple":=ψ
theorem Yp:Bn "is_step" := ⟨ψ,ψ⟩
theorem Qp(left:List Nat):jT (nv left) (GT 1) Is=nv (left.drop 1):=by
 unfold jT;have e2:HT.sIx (nv left).length (nv left).length Is=(nv left).length:=rfl;rw[e2];cases left with
 | nil=>rfl
 | cons a r=>
  have e1:HT.sIx (nv (a::r)).length 0 (GT 1)=1:=by
   simp only[HT.sIx,gJ,C7];split
   ·omega
   omega
  rw[e1];show(((nv (a::r)).drop 1).take _)=nv r;rw[D7 (by rw[F1];exact AU _)];rfl
section
variable {P:AR}{w:A9}{K:AD}{mg:Str->Option Ap}{base:Heap}{f:ID}{fd:D6}{bs:List Str}{ckMostInMask ckMostInTable:Tok}
theorem Ws(hB:∀x:Str,x∈BLs->mg x=Is)(F:Fun K "is_number" "is_number" jl f fd):cQ P w K mg base CX0 1 f fd ["thing"] U0:=by
 refine F.okz KJ λcdv A outer s H vs Q E hr h=>?_;obtain⟨v,ok,d,rfl,t,q⟩:=h;refine⟨_,(aL (aV (pY (bW mZ jK (hB "isinstance" gZ) Iy g8 (ak (ao xT) (ak (Ir "int" Df (hB "int" Aj) boot_int BK) aB Z) Z) Z Z) (pU (ace (bW mZ jK (hB "isinstance" gZ) Iy g8 (ak (ao xT) (ak (Ir "bool" Bp (hB "bool" Pq) boot_bool Qu) aB Z) Z) Z Z)))))),?_⟩;cases t with
 | non=>push_cast;exact q
 | bl b=>push_cast;exact q
 | int i=>push_cast;exact q
 | str x=>push_cast;exact q
 | lst o e z t=>push_cast[e];exact q
 | tup o e z t=>push_cast[e];exact q
theorem Wr(hB:∀x:Str,x∈BLs->mg x=Is)(CLabelsLeft:Cal P w K mg base "labels_left" 1 q8_ FJ)(F:Fun K "parts_some" "parts_some" fW f fd):cQ P w K mg base CX0 2 f fd q15_ Oo:=by
 refine F.okz HY λcdv A outer s H vs Q E hr h=>?_;obtain⟨s,l,ok,ss,left,m,rfl,ts,tl,lf,hl9,q⟩:=h;refine⟨_,(aL (aV (V0 xg xg aq (O4 K hr.un1 (bw CLabelsLeft (hr.mono δ) pF oK (ak (ao Gz) (ak (ao vg) aB Z) Z) Z Z) (ao Gy)) (bW bM Bj (hB "len" eV) B1 eY (ak (ao vg) aB Z) Z Z)))),?_⟩;obtain⟨la,rfl,okl,el,ll⟩:=tl.left;replace el:H la=GT (.lst (nv left)):=el;push_cast;refine⟨s,_,ok,ss,left,rfl,ts,tl,lf,λa ha=>?_⟩;have s1:=au (o:=AT ((left.map (lbl ss)).map As)) ha;have e1:upd H a (AT ((left.map (lbl ss)).map As)) a=_:=aA;generalize upd H a (AT ((left.map (lbl ss)).map As))=H1 at s1 e1 |-;have el1:=s1 _ _ el;push_cast[el1];refine⟨⟨_,SqL.of e1⟩,_,SqL.of e1,_,.inl ⟨_,_,rfl,rfl,rfl⟩,?_⟩;have qq:=q _ s1;rw[gJ];split
 ·rename_i c;rw[decide_eq_true (show 0<jL ss left m from by have:(0:Int)<((left.map (lbl ss)).count m:Nat):=c;unfold jL;omega),GB] at qq;rw[show decide ((((left.map (lbl ss)).count m:Nat):Int)<(left.length:Int))=decide (jL ss left m<left.length) from decide_eq_decide.mpr Int.ofNat_lt];exact qq
 rename_i c;rw[decide_eq_false (show ¬0<jL ss left m from by have:¬(0:Int)<((left.map (lbl ss)).count m:Nat):=c;unfold jL;omega),FA] at qq;exact qq
theorem RJ(hB:∀x:Str,x∈BLs->mg x=Is)(cgMostInMask:mg "MOST_IN_MASK" = GT (.int 64 ckMostInMask))(cgMostInTable:mg "MOST_IN_TABLE" = GT (.int 200 ckMostInTable))(CIsNumber:Cal P w K mg base "is_number" 1 ["thing"] U0)(CNumbersAcross:Cal P w K mg base "numbers_across" 1 q8_ zm)(CLabelsLeft:Cal P w K mg base "labels_left" 1 q8_ FJ)(CPartsSome:Cal P w K mg base "parts_some" 2 q15_ Oo)(F:Fun K "is_step" "is_step" dH f fd):cQ P w K mg base CX0 3 f fd q16_ Oi:=by
 refine F.okz zH λcdv A outer s H vs Q E hr h=>?_;obtain⟨s,l,p,ok,ss,left,pl,rfl,ts,tl,tp,wf,lf,q⟩:=h;refine⟨_,(aD (dh (Gg (zM (tG (pR (bW mZ ug (hB "isinstance" gZ) Iy g8 (ak (ao fJ) (ak (Ir "tuple" Dc (hB "tuple" vm) boot_tuple vL) aB Z) Z) Z Z) (λ_=>rfl))) (v7 (tG (VG (ao fJ)))))) (aL (aV mH)) cu)
  (aD (aX jo zH.nd (aK aU (ao fJ) aq (λ_ _=>rfl)) Z (.inl Z))
  (aD (dh (bh (bT hr.bD) (ao jo) bC (aR _)) (aL (aV (pY (fu (bT hr.bD) (bW bM gh (hB "len" eV) B1 eY (ak (ao fJ) aB Z) Z Z) aq (aR _)) (pU (fu zQ (bw CNumbersAcross (hr.mono δ) jj jU (ak (ao kE) (ak (ao iK) aB Z) Z) Z Z) (rm (v:=As 200) rQ cgMostInTable ⟨_,rfl⟩ sU) (aR _)))))) cu)
  (aD (dh (Gg (zM (bh xg (bW bM gh (hB "len" eV) B1 eY (ak (ao fJ) aB Z) Z Z) aq (aR _)) (v7 (tG (pR (bw CIsNumber (hr.mono δ) wL Nv (ak (aK aU (ao fJ) aq (λ_ _=>rfl)) aB Z) Z Z) (λ_=>rfl)))))) (aL (aV mH)) cu)
  (aD (aX jn zH.nd (aK aU (ao fJ) aq (λ_ _=>rfl)) Z (.inl Z))
  (aD (dh (bh (bT hr.bD) (ao jo) bC (aR _)) (aL (aV (pY (fu (bT hr.bD) (bW bM gh (hB "len" eV) B1 eY (ak (ao fJ) aB Z) Z Z) aq (aR _)) (pU (fu (bT hr.bD) (O4 K hr.un1 (bw CLabelsLeft (hr.mono δ) um oK (ak (ao kE) (ak (ao iK) aB Z) Z) Z Z) (ao jn)) (bW bM gh (hB "len" eV) B1 eY (ak (ao iK) aB Z) Z Z) (aR _)))))) cu)
  (aD (dh (bh (bT hr.bD) (ao jo) bC (aR _)) (aL (aV (pY (fu (bT hr.bD) (bW bM gh (hB "len" eV) B1 eY (ak (ao fJ) aB Z) Z Z) aq (aR _)) (pU (fu Gk (ao jn) (fY zB (ao iK) (dZ aq) qZ) (by with_unfolding_all rfl)))))) cu)
  (aD (dh (bh (pZ hr.bD) (bW bM gh (hB "len" eV) B1 eY (ak (ao fJ) aB Z) Z Z) aq (aR _)) (aL (aV mH)) cu)
  (aD (dh (bh (bT hr.bD) (ao jo) bC (aR _)) (aL (aV (pY (bw CPartsSome (hr.mono δ) vG Kd (ak (ao kE) (ak (ao iK) (ak (ao jn) aB Z) Z) Z) Z Z) (pU (fu zQ (bw CNumbersAcross (hr.mono δ) jj jU (ak (ao kE) (ak (ao iK) aB Z) Z) Z Z) (rm (v:=As 64) uh cgMostInMask ⟨_,rfl⟩ vM) (aR _)))))) cu)
  (aD (dh (Gg (zM (bh El (ao jn) (ao iK) (by with_unfolding_all rfl)) (v7 (bh (bT hr.bD) (bW bM gh (hB "len" eV) B1 eY (ak (ao iK) aB Z) Z Z) aq (aR _))))) (aL (aV mH)) cu)
  (aD (dh (bh (bT hr.bD) (ao jo) bC (aR _)) (aL (aV (fu (bT hr.bD) (aK aU (aK aU (ao kE) (ao jn) (λ_ _=>rfl)) aq (λ_ _=>rfl)) (aK aU (aK aU (ao kE) (ao jn) (λ_ _=>rfl)) aq (λ_ _=>rfl)) (aR _)))) cu)
  (aL (aV (fu (bT hr.bD) (ao jo) bC (aR _))))))))))))))),?_⟩
 obtain⟨la,rfl,okl,el,ll⟩:=tl.left;replace el:H la=GT (.lst (nv left)):=el;rw[MK wf] at q;generalize pgD pl=d at tp q;refine aN λk hk=>?_;refine jH λkt ke hkt hke=>?_;have kf:stepT ss left d=false->kt [GT s,GT (.ref la),GT p,Is,Is] H:=λe=>by
  subst hkt;push_cast;rw[e] at q;exact q _ (Same.refl _)
 cases tp with
 | non=>push_cast;exact kf rfl
 | bl b=>push_cast;exact kf rfl
 | int i=>push_cast;exact kf rfl
 | str x=>push_cast;exact kf rfl
 | lst o e z t=>push_cast[e];exact kf rfl
 | tup o e z tt=>
  cases tt with
  | nil=>push_cast[e];exact kf rfl
  | cons t0 tt=>
   rename_i pa x0 d0 xs ds;clear kf hkt;have hlen:=tt.length;replace q:∀H',Same H H'->Q (.bl (jB ss left d0 ds)) H':=q;unfold jB at q;push_cast[e];rw[if_neg ζ];subst hke;push_cast;subst hk;refine aN λk hk=>?_;push_cast[e];subst hk;refine aN λk hk=>?_;refine jH λkt ke hkt hke=>?_;push_cast;refine mY t0 ⟨_,rfl,?_⟩;cases h1:cT d0 "table" with
   | true=>
    rw[if_pos rfl];simp only[h1,↓reduceIte] at q;subst hkt;push_cast[e];cases tt with
    | nil=>
     rw[if_pos δ];exact⟨s,_,ok,ss,left,rfl,ts,tl,lf,_,rfl,q _ (Same.refl _)⟩
    | cons _ tt=>
     rw[if_neg (by simp only[C7];omega)];exact q _ (Same.refl _)
   | false=>
    simp only[h1,Fm,↓reduceIte] at q;rw[if_neg δ];subst hke;push_cast;subst hk;refine aN λk hk=>?_;refine jH λkt ke hkt hke=>?_;push_cast[e];have kf:(∀H',Same H H'->Q (.bl false) H')->kt [GT s,GT (.ref la),GT (.ref pa),GT x0,Is] H:=λq=>by
     subst hkt;push_cast;exact q _ (Same.refl _)
    cases tt with
    | nil=>
     rw[if_pos δ];exact kf q
    | cons t1 tt=>
     rename_i x1 d1 xs ds;replace hlen:=tt.length;rw[if_neg (by simp only[C7];omega),show atI (x0::x1::xs) 1=GT x1 from Yu _ _ _];refine⟨x1,rfl,x1,ok,d1,rfl,t1,_,rfl,?_⟩;cases hn:Mu d1 with
     | false=>
      rw[if_pos (show(!false)=true from Z)];refine kf ?_;cases d1 with
      | int i=>cases hn
      | _=>exact q
     | true=>
      obtain⟨i,rfl⟩:∃i,d1=.int i:=by cases d1 <;> simp[Mu] at hn;exact⟨_,rfl⟩
      cases t1;rw[if_neg δ];clear kf hkt;subst hke;push_cast;subst hk;have a1:atI (x0::As i::xs) 1=GT (As i):=Yu _ _ _;refine aN λk hk=>?_;push_cast[e,a1];subst hk;dsimp only at q;refine aN λk hk=>?_;refine jH λkt ke hkt hke=>?_;push_cast;refine mY t0 ⟨_,rfl,?_⟩;cases h2:cT d0 "pick" with
      | true=>
       rw[if_pos rfl];simp only[h2,↓reduceIte] at q;subst hkt;push_cast[e];cases tt with
       | nil=>
        rw[if_pos δ];refine⟨s,_,ok,ss,left,rfl,ts,tl,lf,λa ha=>?_⟩;have s1:=au (o:=AT ((left.map (lbl ss)).map As)) ha;have e1:upd H a (AT ((left.map (lbl ss)).map As)) a=_:=aA;generalize upd H a (AT ((left.map (lbl ss)).map As))=H1 at s1 e1 |-;have el1:=s1 _ _ el;push_cast[el1];refine⟨⟨_,SqL.of e1⟩,_,SqL.of e1,_,.inl ⟨_,_,rfl,rfl,rfl⟩,?_⟩;rw[gJ,show decide ((((left.map (lbl ss)).count i:Nat):Int)=(left.length:Int))=decide (jL ss left i=left.length) from decide_eq_decide.mpr Int.ofNat_inj];exact q _ s1
       | cons _ tt=>
        rw[if_neg (by simp only[C7];omega)];exact q _ (Same.refl _)
      | false=>
       simp only[h2,Fm,↓reduceIte] at q;rw[if_neg δ];subst hke;push_cast;subst hk;refine aN λk hk=>?_;refine jH λkt ke hkt hke=>?_;push_cast;refine mY t0 ⟨_,rfl,?_⟩;cases h3:cT d0 "below" with
       | true=>
        rw[if_pos rfl];simp only[h3,↓reduceIte] at q;subst hkt;push_cast[e,el];by_cases c4:ds.length=2
        ·rw[if_pos ω];intro p1 hp1;rw[Qp];refine⟨rfl,Ph _,?_⟩;rw[decide_eq_true c4,GB] at q;exact q _ (au hp1)
        rw[if_neg ω];rw[decide_eq_false c4,FA] at q;exact q _ (Same.refl _)
       | false=>
        simp only[h3,Fm,↓reduceIte] at q;rw[if_neg δ];subst hke;push_cast;subst hk;refine aN λk hk=>?_;refine jH λkt ke hkt hke=>?_;push_cast[e];by_cases c3:ds.length=1
        ·rw[decide_eq_true (show((xs.length+1+1:Nat):Int)=3 by omega),if_neg δ];rw[if_neg (show ¬ds.length≠1 from λz=>z c3)] at q;subst hke;push_cast;subst hk;refine aN λk hk=>?_;refine jH λkt ke hkt hke=>?_;push_cast;refine mY t0 ⟨_,rfl,?_⟩;cases h4:cT d0 "mask" with
         | true=>
          rw[if_pos rfl];simp only[h4,↓reduceIte] at q;subst hkt;push_cast;refine⟨s,_,ok,ss,left,i,rfl,ts,tl,lf,ll,λH1 s1=>⟨_,rfl,?_⟩⟩;cases hc:(decide (0<jL ss left i)&&decide (jL ss left i<left.length)) with
          | true=>
           rw[hc,GB] at q;rw[if_pos rfl];exact⟨s,_,ok,ss,left,rfl,ts.same s1,tl.same s1,lf,_,rfl,q _ s1⟩
          | false=>
           rw[hc,FA] at q;rw[if_neg δ];exact q _ s1
         | false=>
          simp only[h4,Fm,↓reduceIte] at q;rw[if_neg δ];subst hke;push_cast;subst hk;refine aN λk hk=>?_;refine jH λkt ke hkt hke=>?_;push_cast[el];refine⟨rfl,Ph _,?_⟩;have kf:(∀H',Same H H'->Q (.bl false) H')->kt [GT s,GT (.ref la),GT (.ref pa),GT x0,GT (.int i)] H:=λq=>by
           subst hkt;push_cast;exact q _ (Same.refl _)
          rw[gJ];cases hc:inV (As i) (nv left) with
          | false=>
           rw[if_pos (show(!false)=true from Z)];rw[if_pos (.inl hc)] at q;exact kf q
          | true=>
           rw[if_neg δ];by_cases h1l:left.length=1
           ·rw[if_pos ω];rw[if_pos (.inr h1l)] at q;exact kf q
           rw[if_neg ω];rw[if_neg (show ¬(inV (As i) (nv left)=false\/left.length=1) from λz=>z.elim (λz=>by rw[hc] at z;cases z) h1l)] at q;clear kf hkt;subst hke;push_cast;subst hk;refine aN λk hk=>?_;refine jH λkt ke hkt hke=>?_;push_cast;refine mY t0 ⟨_,rfl,?_⟩;cases h5:cT d0 "is" with
           | true=>
            rw[if_pos rfl];simp only[h5,↓reduceIte] at q;subst hkt;obtain⟨k9,rfl⟩:∃k9:Nat,i=(k9:Int):=by
             rcases lt_or_le i 0 with z|z
             ·rw[yP z] at hc;cases hc
             exact KE z
            rw[GK] at hc;rw[Fs] at q;cases ts with
            | lst os es zs tss=>
             obtain⟨p1,x1,y1⟩:=tss.stN (lf.lt _ (FD.mp hc));push_cast[es,x1,y1];exact q _ (Same.refl _)
           | false=>
            simp only[h5,Fm,↓reduceIte] at q;rw[if_neg δ];subst hke;push_cast;subst hk;push_cast;exact mY t0 (q _ (Same.refl _))
        rw[decide_eq_false (show ¬((xs.length+1+1:Nat):Int)=3 by omega),if_pos δ];rw[if_pos (show ds.length≠1 from c3)] at q;subst hkt;push_cast;exact q _ (Same.refl _)
end
abbrev rK:List Str:=["stretches","thing","waiting","left","part"]
abbrev gA:Stmt:=top 10
theorem uJ:aZ rK q20_ (aj gA):=⟨rfl,rfl,rfl,ψ,rfl,ψ,ψ⟩
theorem wz:NM_ rK gA 0 "stretches":=.of ψ
theorem RQ:NM_ rK gA 1 "thing":=.of ψ
theorem rA:NM_ rK gA 2 "waiting":=.of ψ
theorem wu:NM_ rK gA 3 "left":=.of ψ
theorem wk:NM_ rK gA 4 "part":=.of ψ
theorem Bo:GI_ gA "is_step":=ψ
theorem JK:GI_ gA "len":=ψ
theorem G5:GI_ gA "list":=ψ
theorem yG:GI_ gA "plans_in":=ψ
theorem Dd:GI_ gA "range":=ψ
theorem Yq:Bn "is_plan" := ⟨ψ,ψ⟩
theorem aeb{ok OD:ID->Prop}{H H':Hp}{lw:ID}{xs:List V}(hn:gF ok H)(hOD:OD=λx=>ok x/\x≠lw)(s:Same H H')(e:H' lw=GT (.lst xs)):gF OD H':=by
 rw[hOD];exact λH2 p s2 hp=>⟨hn H2 p (s.trans s2) hp,(aF (s2 _ _ e) hp).symm⟩
theorem acY{ss:Sts}(h:0<ss.length):Lf ss (Bi ss.length):=by
 refine⟨λz=>?_,λk hk=>by simpa using hk,FX⟩;have e:(Bi ss.length).length=0:=by rw[z];rfl
 rw[Fk] at e;omega
section
variable {P:AR}{w:A9}{K:AD}{mg:Str->Option Ap}{base:Heap}{f:ID}{fd:D6}{bs:List Str}
theorem RK(hB:∀x:Str,x∈BLs->mg x=Is)(CIsStep:Cal P w K mg base "is_step" 3 q16_ Oi)(CPlansIn:Cal P w K mg base "plans_in" 1 q17_ Ot)(F:Fun K "is_plan" "is_plan" gA f fd):cQ P w K mg base CX0 4 f fd q20_ DW:=by
 refine F.okz uJ λcdv A outer s H vs Q E hr h=>?_;obtain⟨s,p,ok,ss,pl,rfl,hn,ts,tp,wf,h0,h60,hsz,q⟩:=h;refine⟨_,(aD (aX rA uJ.nd (cF (ak (bF (ak (VP Z G5 (hB "list" yN) Dd (hB "range" fH) (ak (bW bM JK (hB "len" eV) B1 eY (ak (ao wz) aB Z) Z Z) aB Z)) (ak (ao RQ) aB Z) Z)) aB Z)) Z (.inl Z))
  (aD (uM Cb (VG (ao rA)) (aD (nQ (ZJ (ao rA)) (fj (n:=2) Z (aQ (cV wu uJ.nd (.inl Z)) (aQ (cV wk uJ.nd (.inl Z)) cR Z) Z) Z Z) Z Z Z)
  (aD (dh (tG (pR (bw CIsStep (hr.mono δ) Bo Yp (ak (ao wz) (ak (ao wu) (ak (ao wk) aB Z) Z) Z) Z Z) (λ_=>rfl))) (aL (aV mH)) cu)
  (aL (iU (Gi (ao rA) (bw CPlansIn (hr.mono δ) yG Tv (ak (ao wz) (ak (ao wu) (ak (ao wk) aB Z) Z) Z) Z Z) Z Z Z Z Z) Z)))))
  (aL (aV mH)))),?_⟩
 refine aN λk hk=>?_;have ts0:=ts;cases ts with
 | lst os es zs tss=>
  rename_i sa sxs;have hsl:=tss.length;rw[AE] at hsl;push_cast[es];refine⟨⟨ω,ω⟩,aM ω,λla hla=>⟨aM δ,λta hta=>⟨aM δ,λlw hlw=>?_⟩⟩⟩;rw[show uL 0 ((sxs.length:Int)-0).toNat=nv (Bi ss.length) by
   unfold uL nv;rw[show((sxs.length:Int)-0).toNat=ss.length by omega];refine C4 λk _=>?_;rw[Int.zero_add]] at hta hlw |-
  have u1:=au (o:=AT (nv (Bi ss.length))) hla;have u2:=au (o:=By [AS la,p]) hta;have u3:=au (o:=AT [AS ta]) hlw;have f1:=(u2.trans u3) _ _ (show upd H la (AT (nv (Bi ss.length))) la=_ from aA);have f2:=u3 _ _ (show upd (upd H la (AT (nv (Bi ss.length)))) ta (By [AS la,p]) ta=_ from aA);have f3:upd (upd (upd H la (AT (nv (Bi ss.length)))) ta (By [AS la,p])) lw (AT [AS ta]) lw=_:=aA;have u:=(u1.trans u2).trans u3;have Hta:H ta=Is:=u1.none hta;have Hlw:H lw=Is:=(u1.trans u2).none hlw;have nlaw:la≠lw:=aF (u2 _ _ (show upd H la (AT (nv (Bi ss.length))) la=_ from aA)) hlw;have ntaw:ta≠lw:=aF (show upd (upd H la (AT (nv (Bi ss.length)))) ta (By [AS la,p]) ta=_ from aA) hlw;generalize upd (upd (upd H la (AT (nv (Bi ss.length)))) ta (By [AS la,p])) lw (AT [AS ta])=H1 at u3 f1 f2 f3 u |-;obtain⟨OD,hOD⟩:∃OD:ID->Prop,OD=λx=>ok x/\x≠lw:=⟨_,rfl⟩;have up:∀a o,ok a->H a=GT o->OD a/\H1 a=GT o:=λa o h e=>by
   rw[hOD];exact⟨⟨h,aF e Hlw⟩,u _ _ e⟩
  have tsO:aH OD H1 (.ref sa) (.list (ss.map stD)):=ts0.keep up;have tpO:aH OD H1 p (pgD pl):=tp.keep up;have okla:OD la:=by rw[hOD];exact⟨hn.new hla,nlaw⟩
  have okta:OD ta:=by rw[hOD];exact⟨hn.new Hta,ntaw⟩
  have tw:aG OD H1 [AS ta] ([(Bi ss.length,pl)].map gwD):=.cons (.tup okta f2 (by show 2<=1000000;decide) (.cons (iG okla f1 (by rw[Fk];omega)) (.cons tpO .nil))) .nil;subst hk;refine aN λk hk=>?_;obtain⟨Pv,hPv⟩:∃Pv:Nat->L2.St->Hp->Prop,Pv=λm σ H'=>∃(W:List (List Nat×Pg)) (xs:List V) (o4 o5:Option V),m=iM W/\Same H H'/\H' lw=GT (.lst xs)/\aG OD H' xs (W.map gwD)/\(∀x∈W,Lf ss x.1/\WfG x.2) /\
   okG ss pl (Bi ss.length)=(W.all λx=>okG ss x.2 x.1)/\iM W<=4000/\aH OD H' (.ref sa) (.list (ss.map stD))/\σ=[GT (.ref sa),GT p,GT (.ref lw),o4,o5]:=⟨_,rfl⟩
  refine⟨Pv,⟨iM [(Bi ss.length,pl)],?_⟩,?_⟩
  ·rw[hPv];refine⟨[(Bi ss.length,pl)],_,_,_,rfl,u,f3,tw,?_,?_,?_,tsO,rfl⟩
   ·intro x hx;rw[AL.mp hx];exact⟨acY h0,wf⟩
   ·simp
   simp[iM];exact hsz
  intro m σ H2 pv;rw[hPv] at pv;obtain⟨W,xs,o4,o5,rfl,s2,elw,tW,okW,hall,hlen,tsO2,rfl⟩:=pv;have hxl:=tW.length;rw[AE] at hxl;push_cast[elw];cases hx:xs.isEmpty with
  | true=>
   have hW:W=[]:=IU.mp (by rw[List.isEmpty_iff_length_eq_zero] at hx;omega);subst hW;push_cast;subst hk;push_cast;rw[hall] at q;exact q _ s2
  | false=>
   have hWp:0<W.length:=by
    rw[<- hxl];cases xs with
    | nil=>cases hx
    | cons a b=>simp
   obtain⟨W0,⟨left,p1⟩,rfl⟩:=rD W hWp;push_cast;refine⟨λσ' H'=>∃m',m'<iM (W0++[(left,p1)])/\Pv m' σ' H',λσ' H' h=>h,?_⟩;rw[A6] at tW;obtain⟨tW0,y,hy,ty⟩:=aG.dropLast tW;refine⟨y,hy,?_⟩;obtain⟨lf1,wf1⟩:=okW (left,p1) ζ;have kk:∀(H':Hp)(o':HO) a o,OD a->H' a=GT o->OD a/\upd H' lw o' a=GT o:=λH' o' a o h e=>by
    refine⟨h,?_⟩;rw[hOD] at h;rw[aJ h.2];exact e
   have s3:Same H (upd H2 lw (AT xs.dropLast)):=qY s2 Hlw;have ty3:=ty.keep (kk H2 (AT xs.dropLast));have tW3:=tW0.keep (kk H2 (AT xs.dropLast));have tsO3:=tsO2.keep (kk H2 (AT xs.dropLast));have elw3:upd H2 lw (AT xs.dropLast) lw=_:=aA;generalize upd H2 lw (AT xs.dropLast)=H3 at s3 ty3 tW3 tsO3 elw3 |-;cases ty3 with
   | tup oy ey zy tty=>
    cases tty with
    | cons tl tty=>
     cases tty with
     | cons tpl tty=>
      cases tty;rename_i ya xl xp;push_cast[ey,yW,G6];refine⟨_,_,_,OD,ss,left,p1,rfl,tsO3,tl,tpl,wf1,lf1,λH4 s4=>?_⟩;cases hst:jh ss left p1 with
      | false=>
       push_cast;have hf:okG ss pl (Bi ss.length)=false:=by
        rw[hall,all_append];simp only[all_cons,all_nil,Mn];rw[Ja,hst,FA,F2]
       rw[hf] at q;exact q _ (s3.trans s4)
      | true=>
       have elw4:=s4 _ _ elw3;have tW4:=tW3.same s4;have hn4:gF OD H4:=aeb hn hOD (s3.trans s4) elw4;push_cast[elw4,yO];refine⟨_,_,_,OD,ss,left,p1,rfl,hn4,tsO3.same s4,tl.same s4,tpl.same s4,hst,lf1,λv H6 s6 t6=>?_⟩;cases t6 with
       | lst or er zr tr=>
        rename_i r zs;have elw6:=s6 _ _ elw4;push_cast[Bs,elw6,er,M9];have hzl:=tr.length;rw[AE] at hzl;have hk2:(ji ss p1 left).length<=2:=by cases p1 <;> simp[ji]
        have hW0:=tW4.length;rw[AE] at hW0;have hWs:W0.length<=iM W0:=Xw W0;rw[rF] at hlen;refine⟨aM ω,iM (W0++ji ss p1 left),?_,?_⟩
        ·rw[rF,rF];have:=Er ss p1 left;simp only[iM,CB,map_nil,Fc,sum_nil] at this |-;omega
        rw[hPv];refine⟨W0++ji ss p1 left,_,_,_,rfl,qY ((s3.trans s4).trans s6) Hlw,aA,?_,?_,?_,?_,((tsO3.same s4).same s6).keep (kk H6 _),rfl⟩
        ·rw[A6];exact((tW4.same s6).keep (kk H6 _)).append (tr.keep (kk H6 _))
        ·intro x hx;rcases Cf.mp hx with z|z
         ·exact okW x (D8 _ z)
         exact⟨MJ lf1 hst x z,wf1.kids x z⟩
        ·rw[hall,all_append,all_append];simp only[all_cons,all_nil,Mn];rw[Ja ss p1 left,hst,GB]
        rw[rF];have:=Er ss p1 left;have h4:iM [(left,p1)]=jV p1:=by simp[iM]
        omega
end
abbrev qP:List Str:=["stretch","prices"]
abbrev jD:Stmt:=top 15
theorem FQ:aZ qP q21_ (aj jD):=⟨rfl,rfl,rfl,ψ,rfl,ψ,ψ⟩
theorem sy:NM_ qP jD 0 "stretch":=.of ψ
theorem su:NM_ qP jD 1 "prices":=.of ψ
theorem Hi:Bn "word_of_test" := ⟨ψ,ψ⟩
abbrev b7:List Str:=["stretches","weights","prices","left","ranked","k","word","other"]
abbrev bG:Stmt:=top 16
theorem fP:aZ b7 q4_ (aj bG):=⟨rfl,rfl,rfl,ψ,rfl,ψ,ψ⟩
theorem yj:NM_ b7 bG 0 "stretches":=.of ψ
theorem yh:NM_ b7 bG 1 "weights":=.of ψ
theorem jQ:NM_ b7 bG 2 "prices":=.of ψ
theorem yg:NM_ b7 bG 3 "left":=.of ψ
theorem jP:NM_ b7 bG 4 "ranked":=.of ψ
theorem iu:NM_ b7 bG 5 "k":=.of ψ
theorem jO:NM_ b7 bG 6 "word":=.of ψ
theorem oO:NM_ b7 bG 7 "other":=.of ψ
theorem qH:GI_ bG "sorted":=ψ
theorem lW:GI_ bG "word_of_test":=ψ
theorem BL:Bn "tests_in_order" := ⟨ψ,ψ⟩
abbrev ux:List Str:=["stretches","tests","label","plan","word","k"]
abbrev lO:Stmt:=top 17
theorem uH:aZ ux q14_ (aj lO):=⟨rfl,rfl,rfl,ψ,rfl,ψ,ψ⟩
theorem WQ:NM_ ux lO 0 "stretches":=.of ψ
theorem WN:NM_ ux lO 1 "tests":=.of ψ
theorem Jq:NM_ ux lO 2 "label":=.of ψ
theorem vf:NM_ ux lO 3 "plan":=.of ψ
theorem Jp:NM_ ux lO 4 "word":=.of ψ
theorem Ac:NM_ ux lO 5 "k":=.of ψ
theorem yD:GI_ lO "reversed":=ψ
theorem abn:Bn "row_by" := ⟨ψ,ψ⟩
theorem st5{zs:List Int}(h:zs.length=5):∃a b c d e,zs=[a,b,c,d,e]:=by
 match zs,h with
 | [a,b,c,d,e],_=>exact⟨a,b,c,d,e,rfl⟩
section
variable {P:AR}{w:A9}{K:AD}{mg:Str->Option Ap}{base:Heap}{f:ID}{fd:D6}{bs:List Str}
theorem Wm(F:Fun K "word_of_test" "word_of_test" jD f fd):cQ P w K mg base CX0 1 f fd q21_ Og:=by
 refine F.okz FQ λcdv A outer s H vs Q E hr h=>?_;obtain⟨a,t,ss,zs,k,rfl,ea,⟨et,hz,hb⟩,q⟩:=h;refine⟨_,(aD (dh (Gg (K1 (bh (bT hr.bD) (aK aU (ao sy) aq (λ_ _=>rfl)) (aK aU (ao sy) aq (λ_ _=>rfl)) (aR _)) (Gf (bh zQ (aK aU (ao su) aq (λ_ _=>rfl)) (aK aU (ao su) aq (λ_ _=>rfl)) (aR _))))) (aL (aV bC)) cu)
  (aL (aV bC))),?_⟩
 obtain⟨z0,z1,z2,z3,z4,rfl⟩:=st5 hz;replace et:H t=GT (.tup [.int z0,.int z1,.int z2,.int z3,.int z4]):=et;push_cast[ea,et];split
 ·rename_i c1;split
  ·rename_i c2;rw[(yU (ss:=ss) (k:=k) (show isT ss [z0,z1,z2,z3,z4] k=true by unfold isT;rw[decide_eq_true c1,decide_eq_true (show [z0,z1,z2,z3,z4].getD 0 0<=[z0,z1,z2,z3,z4].getD 1 0 from c2)];rfl)).1] at q;exact q
  rename_i c2;rw[(uz (ss:=ss) (k:=k) (show ¬isT ss [z0,z1,z2,z3,z4] k=true by unfold isT;rw[decide_eq_false (show ¬ [z0,z1,z2,z3,z4].getD 0 0<=[z0,z1,z2,z3,z4].getD 1 0 from c2),F2];decide)).1] at q;exact q
 rename_i c1;rw[(uz (ss:=ss) (k:=k) (show ¬isT ss [z0,z1,z2,z3,z4] k=true by unfold isT;rw[decide_eq_false c1,FA];decide)).1] at q;exact q
theorem Rz(hB:∀x:Str,x∈BLs->mg x=Is)(CWordOfTest:Cal P w K mg base "word_of_test" 1 q21_ Og)(F:Fun K "tests_in_order" "tests_in_order" bG f fd):cQ P w K mg base CX0 2 f fd q4_ HJ:=by
 refine F.okz fP λcdv A outer s H vs Q E hr h=>?_;obtain⟨sa,wa,t,la,xs,ok,ss,ws,zs,left,rfl,es,ts,h60,ew,hwl,h5,el,lf,hl60,q⟩:=h;refine⟨_,(aD (aX jP fP.nd (cF aB) Z (.inl Z))
  (aD (jm Cb Z (cj (ao yg)) (cV iu fP.nd (.inl Z))
  (aD (aX jO fP.nd (bw CWordOfTest (hr.mono δ) lW Hi (ak (aK aU (ao yj) (ao iu) (λ_ _=>rfl)) (ak (ao jQ) aB Z) Z) Z Z) Z (.inl Z))
  (aD (aX oO fP.nd (pW (bh (bT hr.bD) (ao jO) bC (aR _)) (aK aU (ao jQ) aq (λ_ _=>rfl)) (aK aU (ao jQ) aq (λ_ _=>rfl))) Z (.inl Z))
  (aL (iU (nR (ao jP) (bF (ak (aP cG (wZ pJ (aK aU (ao yh) (ao iu) (λ_ _=>rfl))) (ao oO)) (ak (ao iu) (ak (ao jO) aB Z) Z) Z)) Z Z Z Z Z) Z)))) (λ_=>rfl))
  (aL (aV (eE (NX:=b7) (kX:=(aj bG).names) ["rank","k","word"] [Is,Is,Is] Z Z ⟨rfl,ψ,ψ,ψ,ψ⟩ Z (cj (bW Nj qH (hB "sorted" rC) JJ Ti (ak (ao jP) aB Z) Z Z)) (λ_ _ _ _ _=>(fj (n:=3) Z (aQ (bA 0 (show BN (["rank","k","word"]:List Str) from by decide +kernel) Z (C3 Z)) (aQ (bA 1 (show BN (["rank","k","word"]:List Str) from by decide +kernel) Z (C3 Z)) (aQ (bA 2 (show BN (["rank","k","word"]:List Str) from by decide +kernel) Z (C3 Z)) cR Z) Z) Z) Z Z)) (λ_ _ _ _ _=>fB) (λ_ _ _ _ _=>(bF (ak (bf 2) (ak (bf 1) aB Z) Z)))))))),?_⟩
 obtain⟨et,hz,hb⟩:=id h5;refine aN λk hk=>?_;push_cast;refine⟨DJ _,λr hr0=>?_⟩;have s1:=au (o:=AT []) hr0;have e1:upd H r (AT []) r=GT (.lst (([]:List ID).map AS)):=aA;have nr:∀{a:ID}{o:HO},H a=GT o->a≠r:=λh=>aF h hr0;generalize upd H r (AT [])=H1 at s1 e1 |-;subst hk;refine aN λk hk=>?_;have el1:=s1 _ _ el;refine mX λR hR=>?_;push_cast[el1];obtain⟨Pv,hPv⟩:∃Pv:Nat->L2.St->Hp->Prop,Pv=λ(i:Nat) σ H'=>∃(ps:List ID)(o5 o6 o7:Option V),bY r H H'/\H' r=GT (.lst (ps.map AS))/\ps.length=i/\(∀(j:Nat)(p:ID)(k:Nat),ps[j]?=GT p->left[j]?=GT k->p≠r/\H' p=GT (.tup [.int (vo ss ws zs k),.int (k:Int),.str (kO ss zs k)]))/\σ=[GT (.ref sa),GT (.ref wa),GT (.ref t),GT (.ref la),GT (.ref r),o5,o6,o7]:=⟨_,rfl⟩;refine Es hR (xs:=nv left) Pv (by rw[hPv];exact⟨[],_,_,_,s1.x,e1,rfl,λj p k h=>(nomatch h),rfl⟩) (λi σ H' _ pv=>?_) ?_ ?_
 ·rw[hPv] at pv;obtain⟨_,_,_,_,s',_⟩:=pv;exact SqL.of (s' _ _ (nr el) el)
 ·intro i x σ H2 hx pv;rw[hPv] at pv;obtain⟨ps,o5,o6,o7,s2,er2,hps,hp2,rfl⟩:=pv;obtain⟨k0,hk0,rfl⟩:=zU hx;have hin:k0<ss.length:=lf.lt k0 (BB hk0);have es2:=s2 _ _ (nr es) es;have ew2:=s2 _ _ (nr ew) ew;have et2:=s2 _ _ (nr et) et;obtain⟨p0,x0,y0⟩:=ts.stN hin;have y2:=s2 _ _ (nr y0) y0;have w0:=uy (zs:=ws) (i:=k0) ω;have z0:=uy (zs:=zs) (i:=0) ω;have z1:=uy (zs:=zs) (i:=1) ω;refine aN λk2 hk2=>?_;push_cast[es2,x0];refine⟨p0,t,ss,zs,k0,rfl,y2,⟨et2,hz,hb⟩,?_⟩;subst hk2;have fin:∀o6,3<=AK/\∀p,H2 p=Is->apq (upd H2 p (By [.int (vo ss ws zs k0),.int (k0:Int),.str (kO ss zs k0)]) r) r (.ref p) (upd H2 p (By [.int (vo ss ws zs k0),.int (k0:Int),.str (kO ss zs k0)])) λ_ H'=>Pv (i+1) [GT (.ref sa),GT (.ref wa),GT (.ref t),GT (.ref la),GT (.ref r),GT (.int (k0:Int)),GT (.str (kO ss zs k0)),o6] H':=by
   intro o6;refine⟨aM δ,λp hp=>?_⟩;have npr:p≠r:=(aF er2 hp).symm;rw[aJ npr.symm,er2,vN];have hi0:=(AM.mp hk0).1;refine⟨BS (by rw[AE];omega) (aM (AU 1000000)),?_⟩;rw[hPv];refine⟨ps++[p],_,_,_,s2.trans ((au hp).x.trans bY.upd),by rw[aA,A6];rfl,by rw[AV,BG];omega,λj p' k' hj hk'=>?_,rfl⟩;rcases G2 j ps.length with h|h
   ·rw[E8 h] at hj;obtain⟨n1,n2⟩:=hp2 j p' k' hj hk';exact⟨n1,by rw[aJ n1,aJ (aF n2 hp)];exact n2⟩
   rw[B8 h] at hj;have hj0:j-ps.length=0:=by
    have:=(AM.mp hj).1;simp at this;omega
   rw[hj0] at hj;cases hj;have hji:j=i:=ω;rw[hji,hk0] at hk';cases hk';exact⟨npr,by rw[aJ npr,aA]⟩
  have bz0:=h5.bd (i:=0) δ;have bz1:=h5.bd (i:=1) δ;refine aN λk2 hk2=>?_;have kT:-(ws.getD k0 0)*tK ss zs k0=vo ss ws zs k0:=rfl;by_cases c:isT ss zs k0=true
  ·obtain⟨q1,q2,_⟩:=yU c;rw[q2] at kT;rw[q1] at fin |-;push_cast[et2,z1];subst hk2;push_cast[ew2,w0,er2];refine⟨_,z1,?_⟩;push_cast[er2,ew2,w0,kT];exact⟨.inr ⟨ω,ω⟩,fin _⟩
  obtain⟨q1,q2,_⟩:=uz c;rw[q2] at kT;rw[q1] at fin |-;push_cast[et2,z0];subst hk2;push_cast[ew2,w0,er2];rw[if_neg ψ];refine⟨_,z0,?_⟩;push_cast[er2,ew2,w0,kT];exact⟨.inr ⟨ω,ω⟩,fin _⟩
 intro σ H2 pv;rw[hPv] at pv;obtain⟨ps,o5,o6,o7,s2,er2,hps,hp2,rfl⟩:=pv;rw[gJ] at hps;show k _ _;subst hk;push_cast;refine dX λR2 hR2=>?_;push_cast;have at':∀{j:Nat}{p:ID},ps[j]?=GT p->∃k,left[j]?=GT k/\k<ss.length:=λ{j p} hj=>by
  have h1:=(AM.mp hj).1;exact⟨left[j]'ω,AF ω,lf.lt _ (FG _)⟩
 have hkey:∀(j:Nat)(p:ID)(k:Nat),ps[j]?=GT p->left[j]?=GT k->eX H2 p=(vo ss ws zs k,(k:Int)):=λj p k hj hk=>R5 (hp2 j p k hj hk).2;have hall:=Eh (g:=λk=>(vo ss ws zs k,(k:Int))) hps hkey;have hrk:ps.map (rkT (eX H2))=left.map (iI ss ws zs):=by
  have e1:ps.map (rkT (eX H2))=(ps.map (eX H2)).map λx=>64*x.1+x.2:=by rw[Hm];rfl
  rw[e1,hall,Hm];rfl
 have hno:ps.map (λp=>(eX H2 p).2.toNat)=left:=by
  have e1:ps.map (λp=>(eX H2 p).2.toNat)=(ps.map (eX H2)).map λx=>x.2.toNat:=by rw[Hm];rfl
  rw[e1,hall,Hm];have:((λx:Int×Int=>x.2.toNat)∘λ(j:Nat)=>(vo ss ws zs j,(j:Int)))=id:=by
   funext j;rfl
  rw[this,map_id]
 refine⟨r,ps,eX H2,rfl,er2,ω,λp hp=>?_,by rw[hrk];exact tE lf.up λk hk=>by have:=lf.lt k hk;omega,λdd qs hdd hqp hqs=>?_⟩
 ·obtain⟨j,hj⟩:=List.mem_iff_getElem?.mp hp;obtain⟨k,hk,hks⟩:=at' hj;rw[hkey j p k hj hk];exact⟨⟨_,(hp2 j p k hj hk).2⟩,Int.natCast_nonneg _,by show(k:Int)<64;omega⟩
 have hord:(qs.map λp=>(eX H2 p).2.toNat).Perm left:=by
  have:=hqp.map λp=>(eX H2 p).2.toNat;rw[hno] at this;exact this
 have hq1:∀q∈qs,∃j:Nat,j<ss.length/\(eX H2 q).2.toNat=j/\rkT (eX H2) q=iI ss ws zs j/\H2 q=GT (.tup [.int (vo ss ws zs j),.int (j:Int),.str (kO ss zs j)]):=λq hq=>by
  obtain⟨j,hj⟩:=List.mem_iff_getElem?.mp (hqp.mem_iff.mp hq);obtain⟨k,hk,hks⟩:=at' hj;refine⟨k,hks,?_,?_,(hp2 j q k hj hk).2⟩
  ·rw[hkey j q k hj hk];rfl
  unfold rkT;rw[hkey j q k hj hk];rfl
 have hrank:(qs.map λp=>(eX H2 p).2.toNat).map (iI ss ws zs)=qs.map (rkT (eX H2)):=by
  rw[Hm];refine C4 λq hq=>?_;obtain⟨j,_,e1,e2,_⟩:=hq1 q hq;show iI ss ws zs (eX H2 q).2.toNat=_;rw[e1,e2]
 have s3:=au (o:=AT (qs.map AS)) hdd;have e3:upd H2 dd (AT (qs.map AS)) dd=_:=aA;generalize upd H2 dd (AT (qs.map AS))=H3 at s3 e3 |-;push_cast[e3];have hql:qs.length=left.length:=by rw[hqp.length_eq,hps]
 obtain⟨ord,hordE⟩:∃ord,ord=qs.map λp=>(eX H2 p).2.toNat:=⟨_,rfl⟩;rw[<- hordE] at hord hrank;obtain⟨Pc,hPc⟩:∃Pv:Nat->List V->L2.St->Hp->Prop,Pv=λ(i:Nat) acc τ H'=>∃(o1 o2 o3:Option V),Same H3 H'/\aG (λ_=>True) H' acc ((ord.take i).map (Ob ss zs))/\τ=[o1,o2,o3]:=⟨_,rfl⟩;refine jr hR2 (xs:=qs.map AS) (aM (by rw[AE];omega)) Pc (by rw[hPc];exact⟨Is,Is,Is,Same.refl _,.nil,rfl⟩) ?_ ?_ ?_ ?_
 ·intro i acc τ H4 pc;rw[hPc] at pc;obtain⟨_,_,_,_,t4,_⟩:=pc;have:=t4.length;rw[AE,FF] at this;omega
 ·intro i acc τ H4 pc;rw[hPc] at pc;obtain⟨_,_,_,s4,_,_⟩:=pc;exact SqL.of (s4 _ _ e3)
 ·intro i x acc τ H4 hx pc;rw[hPc] at pc;obtain⟨o1,o2,o3,s4,t4,rfl⟩:=pc;rw[AQ] at hx;obtain⟨q0,hq0,rfl⟩:=BU.mp hx;obtain⟨j,hj,e1,_,eq0⟩:=hq1 q0 (BB hq0);have eq4:=s4 _ _ (s3 _ _ eq0);push_cast[eq4];refine⟨aM δ,λp4 hp4=>?_⟩;rw[hPc];refine⟨_,_,_,s4.trans (au hp4),?_,rfl⟩;have ho:ord[i]?=GT j:=by rw[hordE,AQ,hq0,<- e1];rfl
  rw[take_add_one,ho,A6];exact(t4.same (au hp4)).append (.cons (.tup trivial aA (by show 2<=1000000;decide) (.cons (.str _) (.cons (.int _) .nil))) .nil)
 intro acc τ H4 d4 pc hd4;rw[hPc] at pc;obtain⟨o1,o2,o3,s4,t4,rfl⟩:=pc;have hol:ord.length=left.length:=by rw[hordE,AE];exact hql
 rw[D7 (by rw[AE];omega)] at t4;have htl:=t4.length;rw[AE] at htl;exact q d4 ord _ ((Oz s2 hr0).trans (s3.trans (s4.trans (au hd4)))) hord (by rw[hrank];exact hqs) (.lst trivial aA ω (t4.same (au hd4)))
theorem Wq(hB:∀x:Str,x∈BLs->mg x=Is)(F:Fun K "row_by" "row_by" lO f fd):cQ P w K mg base CX0 1 f fd q14_ Om:=by
 refine F.okz uH λcdv A outer s H vs Q E hr h=>?_;obtain⟨sa,p,lab,xs,ok,ss,zs,ord,rfl,es,ts,hlt,h60,tp,q⟩:=h;refine⟨_,(aD (aX vf uH.nd (bF (ak bC (ak (ao Jq) aB Z) Z)) Z (.inl Z))
  (aD (jm Cb Z (ab9 yD (hB "reversed" xV) (ak (ao WN) aB Z)) (fj (n:=2) Z (aQ (cV Jp uH.nd (.inl Z)) (aQ (cV Ac uH.nd (.inl Z)) cR Z) Z) Z Z)
  (aL (dh (bh (pZ hr.bD) (aK aU (aK aU (ao WQ) (ao Ac) (λ_ _=>rfl)) aq (λ_ _=>rfl)) (ao Jq) (aR _)) (aL (aX vf uH.nd (bF (ak (ao Jp) (ak (ao Ac) (ak (ao vf) aB Z) Z) Z)) Z (.inl Z))) cu)) (λ_=>rfl))
  (aL (aV (ao vf))))),?_⟩
 refine aN λk hk=>?_;push_cast;refine⟨aM δ,λp1 hp1=>?_⟩;have s1:=au (o:=By [At "pick",As lab]) hp1;have t1:aH (λ_=>True) (upd H p1 (By [At "pick",As lab])) (.ref p1) (Cp ss zs lab []):=.tup trivial aA (by show 2<=1000000;decide) (.cons (.str _) (.cons (.int _) .nil));generalize upd H p1 (By [At "pick",As lab])=H1 at s1 t1 |-;subst hk;refine aN λk hk=>?_;refine mX λR hR=>?_;push_cast[ac9];cases tp with
 | lst o ep zp tsp=>
  rename_i ys;have hyl:=tsp.length;rw[AE] at hyl;have ep1:=s1 _ _ ep;have es1:=s1 _ _ es;refine⟨ys,SqL.of ep1,?_⟩;obtain⟨Pv,hPv⟩:∃Pv:Nat->L2.St->Hp->Prop,Pv=λ(i:Nat) σ H'=>∃(v:V)(o4 o5:Option V),Same H1 H'/\aH (λ_=>True) H' v (Cp ss zs lab ((ord.drop (ord.length-i)).filter λk=>decide ((bJ ss k).2.2≠lab)))/\σ=[GT (.ref sa),GT (.ref p),GT (.int lab),GT v,o4,o5]:=⟨_,rfl⟩;refine aem hR (xs:=ys) Pv (by rw[hPv];exact⟨_,_,_,Same.refl _,by rw[sub_zero,drop_length];exact t1,rfl⟩) (λi σ H' pv=>?_) ?_ ?_
  ·rw[hPv] at pv;obtain⟨_,_,_,s',_⟩:=pv;exact SqL.of (s' _ _ ep1)
  ·intro i x σ H2 hx pv;rw[hPv] at pv;obtain⟨v,o4,o5,s2,tv,rfl⟩:=pv;have hi:i<ys.length:=by
    have:=(AM.mp hx).1;rwa [List.length_reverse] at this
   rw[List.getElem?_reverse hi] at hx;have s12:=s1.trans s2;obtain⟨d,hd,td⟩:=(tsp.same s12).get hx;rw[AQ] at hd;obtain⟨k0,hk0,rfl⟩:=BU.mp hd;rw[hyl] at hk0;have hdr:=SM ω hk0;obtain⟨a0,x0,y0⟩:=(ts.same s12).stN (hlt k0 (BB hk0));have es2:=s12 _ _ es;cases td with
   | tup o9 e9 z9 t9=>
    cases t9 with
    | cons u1 t9=>
     cases u1;cases t9 with
     | cons u2 t9=>
      cases u2;cases t9;push_cast[e9,es2,x0,y0];by_cases c:(bJ ss k0).2.2=lab
      ·rw[decide_eq_true c,if_neg δ,hPv];refine⟨_,_,_,s2,?_,rfl⟩;rw[hdr,L0,if_neg (by simp[c])];exact tv
      rw[decide_eq_false c,if_pos (show(!false)=true from Z)];refine⟨aM δ,λp4 hp4=>?_⟩;rw[hPv];refine⟨_,_,_,s2.trans (au hp4),?_,rfl⟩;rw[hdr,L0,if_pos (by simp[c])];exact .tup trivial aA (by show 3<=1000000;decide) (.cons (.str _) (.cons (.int _) (.cons (tv.same (au hp4)) .nil)))
  intro σ H2 pv;rw[hPv] at pv;obtain⟨v,o4,o5,s2,tv,rfl⟩:=pv;show k _ _;subst hk;push_cast;rw[hyl,IP,drop_zero] at tv;exact q v _ (s1.trans s2) tv
abbrev gn:List Str:=["stretches","weights","prices","tests","label","waiting","cost","word","k"]
abbrev dg:Stmt:=top 18
theorem jk:aZ gn q9_ (aj dg):=⟨rfl,rfl,rfl,ψ,rfl,ψ,ψ⟩
theorem Ma:NM_ gn dg 0 "stretches":=.of ψ
theorem LR:NM_ gn dg 1 "weights":=.of ψ
theorem LQ:NM_ gn dg 2 "prices":=.of ψ
theorem Ab:NM_ gn dg 3 "tests":=.of ψ
theorem LK:NM_ gn dg 4 "label":=.of ψ
theorem tR:NM_ gn dg 5 "waiting":=.of ψ
theorem tQ:NM_ gn dg 6 "cost":=.of ψ
theorem Aa:NM_ gn dg 7 "word":=.of ψ
theorem tO:NM_ gn dg 8 "k":=.of ψ
theorem Bh:GI_ dg "TESTS":=ψ
theorem GZ:GI_ dg "sum":=ψ
theorem Tt:Bn "row_cost" := ⟨ψ,ψ⟩
abbrev jd:List Str:=["stretches","weights","prices","left","tests","labels"]
abbrev eU:Stmt:=top 19
theorem vX:aZ jd q4_ (aj eU):=⟨rfl,rfl,rfl,ψ,rfl,ψ,ψ⟩
theorem LC:NM_ jd eU 0 "stretches":=.of ψ
theorem Lz:NM_ jd eU 1 "weights":=.of ψ
theorem Ly:NM_ jd eU 2 "prices":=.of ψ
theorem z8:NM_ jd eU 3 "left":=.of ψ
theorem Lx:NM_ jd eU 4 "tests":=.of ψ
theorem z7:NM_ jd eU 5 "labels":=.of ψ
theorem yC:GI_ eU "sorted":=ψ
theorem pD:GI_ eU "tests_in_order":=ψ
theorem Tq:Bn "rows_for" := ⟨ψ,ψ⟩
theorem Li(hB:∀x:Str,x∈BLs->mg x=Is){aTests:ID}(cgTests:mg "TESTS" = GT (.ref aTests))(ktTests:KTup K aTests ([("is" : Str),("within" : Str),("below" : Str),("mask" : Str),("table" : Str)].map At))(F:Fun K "row_cost" "row_cost" dg f fd):cQ P w K mg base CX0 1 f fd q9_ DP:=by
 refine F.okz jk λcdv A outer s H vs Q E hr h=>?_;obtain⟨sa,wa,t,p,lab,xs,ok,ss,ws,zs,ord,rfl,es,ts,ew,hwl,⟨et,hz,hzb⟩,hlt,h60,tp,q⟩:=h;refine⟨_,(aD (aX tR jk.nd (bW (jt Z) GZ (hB "sum" tZ) L1 uo (ak (eE (NX:=gn) (kX:=(aj dg).names) ["word","k","weights"] [Is,Is,GT 1] Z Z ⟨rfl,ψ,ψ,ψ,ψ⟩ Z (cj (ao Ab)) (λ_ _ _ _ _=>(fj (n:=2) Z (aQ (bA 0 (show BN (["word","k","weights"]:List Str) from by decide +kernel) Z (C3 Z)) (aQ (bA 1 (show BN (["word","k","weights"]:List Str) from by decide +kernel) Z (C3 Z)) cR Z) Z) Z Z)) (λ_ _ _ _ _=>fB) (λ_ _ _ _ _=>(aK aU (bf 2) (bf 1) (λ_ _=>rfl)))) aB Z) Z Z) Z (.inl Z))
  (aD (aX tQ jk.nd aq Z (.inl Z))
  (aD (jm Cb Z (cj (ao Ab)) (fj (n:=2) Z (aQ (cV Aa jk.nd (.inl Z)) (aQ (cV tO jk.nd (.inl Z)) cR Z) Z) Z Z)
  (aL (dh (bh (pZ hr.bD) (aK aU (aK aU (ao Ma) (ao tO) (λ_ _=>rfl)) aq (λ_ _=>rfl)) (ao LK) (aR _)) (aD (VJ tQ jk.nd (aP cG (aK aU (ao LQ) (ZM hr.un1 (rm (v:=AS aTests) Bh cgTests Z Qv) (ao Aa)) (λ_ _=>rfl)) (ao tR)) ac8)
  (aL (VJ tR jk.nd (aK aU (ao LR) (ao tO) (λ_ _=>rfl)) ac7))) cu)) (λ_=>rfl))
  (aL (aV (ao tQ)))))),?_⟩
 have tp0:=tp;cases tp with
 | lst o ep zp tsp=>
  rename_i ys;have hyl:=tsp.length;rw[AE] at hyl;refine aN λk hk=>?_;push_cast;refine dX λR hR=>?_;push_cast[ep];obtain⟨Pc,hPc⟩:∃Pv:Nat->List V->L2.St->Hp->Prop,Pv=λ(i:Nat) acc τ H'=>∃(o0 o1:Option V),H'=H/\acc=((ord.take i).map λk=>ws.getD k 0).map As/\τ=[o0,o1,GT (.ref wa)]:=⟨_,rfl⟩;refine jr hR (xs:=ys) (aM ω) Pc (by rw[hPc];exact⟨_,_,rfl,rfl,rfl⟩) ?_ ?_ ?_ ?_
  ·intro i acc τ H2 pc;rw[hPc] at pc;obtain⟨_,_,_,rfl,_⟩:=pc;rw[AE,AE];exact C9 _ _
  ·intro i acc τ H2 pc;rw[hPc] at pc;obtain⟨_,_,rfl,_⟩:=pc;exact SqL.of ep
  ·intro i x acc τ H2 hx pc;rw[hPc] at pc;obtain⟨o0,o1,rfl,rfl,rfl⟩:=pc;obtain⟨d,hd,td⟩:=tsp.get hx;rw[AQ] at hd;obtain⟨k0,hk0,rfl⟩:=BU.mp hd;have hk0l:k0<ws.length:=by rw[hwl];exact hlt k0 (BB hk0)
   have hat:atI (ws.map As) (k0:Int)=GT (As (ws.getD k0 0)):=cH (by rw[AQ,AF hk0l];simp[hk0l]);cases td with
   | tup o9 e9 z9 t9=>
    cases t9 with
    | cons u1 t9=>
     cases u1;cases t9 with
     | cons u2 t9=>
      cases u2;cases t9;push_cast[e9,ew,hat];rw[hPc];refine⟨_,_,rfl,?_,rfl⟩;rw[take_add_one,hk0,A6,A6];rfl
  intro acc τ H2 d2 pc hd2;rw[hPc] at pc;obtain⟨o0,o1,rfl,rfl,rfl⟩:=pc;rw[hyl,EI];have s2:=au (o:=AT ((ord.map λk=>ws.getD k 0).map As)) hd2;have e2:upd H2 d2 (AT ((ord.map λk=>ws.getD k 0).map As)) d2=_:=aA;generalize upd H2 d2 (AT ((ord.map λk=>ws.getD k 0).map As))=H3 at s2 e2 |-;push_cast[e2];refine⟨_,rfl,?_⟩;clear hR hPc;have esum:(ord.map λk=>ws.getD k 0).sum=sumK ws ord:=rfl;rw[esum];subst hk;refine aN λk hk=>?_;push_cast;subst hk;refine aN λk hk=>?_;refine mX λR hR=>?_;have ep3:=s2 _ _ ep;have es3:=s2 _ _ es;have ew3:=s2 _ _ ew;have et3:=s2 _ _ et;push_cast[ep3];obtain⟨Pv,hPv⟩:∃Pv:Nat->L2.St->Hp->Prop,Pv=λ(i:Nat) σ H'=>∃(W C:Int)(o7 o8:Option V),H'=H3/\uN ss ws zs (sumK ws ord) (jf ss lab ord)=C+uN ss ws zs W (jf ss lab (ord.drop i))/\σ=[GT (.ref sa),GT (.ref wa),GT (.ref t),GT (.ref p),GT (.int lab),GT (.int W),GT (.int C),o7,o8]:=⟨_,rfl⟩;refine Es (xs:=ys) hR Pv ?_ ?_ ?_ ?_
  ·rw[hPv];exact⟨_,_,_,_,rfl,by rw[drop_zero,Int.zero_add],rfl⟩
  ·intro i σ H' _ pv;rw[hPv] at pv;obtain⟨_,_,_,_,rfl,_⟩:=pv;exact SqL.of ep3
  ·intro i x σ H4 hx pv;rw[hPv] at pv;obtain⟨W,C,o7,o8,rfl,hco,rfl⟩:=pv;obtain⟨d,hd,td⟩:=(tsp.same s2).get hx;rw[AQ] at hd;obtain⟨k0,hk0,rfl⟩:=BU.mp hd;have hk0s:=hlt k0 (BB hk0);have hk0l:k0<ws.length:=by rw[hwl];exact hk0s
   have hat:atI (ws.map As) (k0:Int)=GT (As (ws.getD k0 0)):=cH (by rw[AQ,AF hk0l];simp[hk0l]);have hdr:ord.drop i=k0::ord.drop (i+1):=by
    obtain⟨li,e⟩:=AM.mp hk0;rw[F7 li,e]
   obtain⟨a0,x0,y0⟩:=(ts.same s2).stN hk0s;cases td with
   | tup o9 e9 z9 t9=>
    cases t9 with
    | cons u1 t9=>
     cases u1;cases t9 with
     | cons u2 t9=>
      cases u2;cases t9;push_cast[e9,es3,x0,y0];by_cases c:(bJ ss k0).2.2=lab
      ·rw[decide_eq_true c,if_neg δ,hPv];refine⟨W,C,_,_,rfl,?_,rfl⟩;rw[hco,hdr];unfold jf;rw[L0,if_neg (by simp[c])]
      rw[decide_eq_false c,if_pos (show(!false)=true from Z)];obtain⟨z0,z1,z2,z3,z4,rfl⟩:=st5 hz;replace et3:H4 t=GT (.tup [.int z0,.int z1,.int z2,.int z3,.int z4]):=et3;have hst:uN ss ws [z0,z1,z2,z3,z4] W (jf ss lab (ord.drop i))=W*dB ss [z0,z1,z2,z3,z4] k0+uN ss ws [z0,z1,z2,z3,z4] (W-ws.getD k0 0) (jf ss lab (ord.drop (i+1))):=by
       rw[hdr];unfold jf;rw[L0,if_pos (by simp[c])];rfl
      push_cast[et3,Uu];refine⟨Dt,false,ktTests,ktTests,?_⟩;by_cases c9:isT ss [z0,z1,z2,z3,z4] k0=true
      ·obtain⟨w1,_,w3⟩:=yU c9;rw[w1];refine⟨0,⟨rfl,λm hm=>absurd hm (Nat.not_lt_zero _)⟩,_,rfl,?_⟩;push_cast[ew3,hat];refine⟨.inl ⟨?_,?_⟩,?_⟩
       ·have:=hzb z0 ζ;omega
       ·have:=hzb z0 ζ;omega
       rw[hPv];refine⟨_,_,_,_,rfl,?_,rfl⟩;rw[hco,hst,w3];show C+(W*z0+_)=C+z0*W+_;rw[EM W z0];omega
      obtain⟨w1,_,w3⟩:=uz c9;rw[w1];refine⟨1,⟨rfl,λm hm=>?_⟩,_,rfl,?_⟩
      ·have:m=0:=by omega
       rw[this];intro z;exact absurd (BI z) ψ
      push_cast[ew3,hat];refine⟨.inl ⟨?_,?_⟩,?_⟩
      ·have:=hzb z1 ζ;omega
      ·have:=hzb z1 ζ;omega
      rw[hPv];refine⟨_,_,_,_,rfl,?_,rfl⟩;rw[hco,hst,w3];show C+(W*z1+_)=C+z1*W+_;rw[EM W z1];omega
  intro σ H4 pv;rw[hPv] at pv;obtain⟨W,C,o7,o8,rfl,hco,rfl⟩:=pv;subst hk;push_cast;rw[hyl,drop_length] at hco;have:uN ss ws zs W (jf ss lab [])=0:=rfl;rw[this,Kt] at hco;rw[hco] at q;exact q _ s2
theorem Lh(hB:∀x:Str,x∈BLs->mg x=Is)(CTestsInOrder:Cal P w K mg base "tests_in_order" 2 q4_ HJ)(CRowCost:Cal P w K mg base "row_cost" 1 q9_ DP)(CRowBy:Cal P w K mg base "row_by" 1 q14_ Om)(F:Fun K "rows_for" "rows_for" eU f fd):cQ P w K mg base CX0 3 f fd q4_ Ol:=by
 refine F.okz vX λcdv A outer s H vs Q E hr h=>?_;obtain⟨sa,wa,t,la,xs,ok,ss,ws,zs,left,rfl,es,ts,h60,ew,hwl,h5,el,lf,hl60,q⟩:=h;refine⟨_,(aD (aX Lx vX.nd (bw CTestsInOrder (hr.mono δ) pD BL (ak (ao LC) (ak (ao Lz) (ak (ao Ly) (ak (ao z8) aB Z) Z) Z) Z) Z Z) Z (.inl Z))
  (aD (aX z7 vX.nd (acd (NX:=jd) (kX:=(aj eU).names) ["k","stretches"] [Is,GT 0] yC (hB "sorted" rC) Z Z ⟨rfl,ψ,ψ,ψ,ψ⟩ Z (cj (ao z8)) (λ_ _ _ _ _=>(bA 0 (show BN (["k","stretches"]:List Str) from by decide +kernel) Z (C3 Z))) (λ_ _ _ _ _=>fB) (λ_ _ _ _ _=>(aK aU (aK aU (bf 1) (bf 0) (λ_ _=>rfl)) aq (λ_ _=>rfl)))) Z (.inl Z))
  (aL (aV (eE (NX:=jd) (kX:=(aj eU).names) ["label","stretches","weights","prices","tests"] [Is,GT 0,GT 1,GT 2,GT 4] Z Z ⟨rfl,ψ,ψ,ψ,ψ⟩ Z (cj (ao z7)) (λ_ _ _ _ _=>(bA 0 (show BN (["label","stretches","weights","prices","tests"]:List Str) from by decide +kernel) Z (C3 Z))) (λ_ _ _ _ _=>fB) (λ_ _ _ _ _=>(bF (ak (bw CRowCost (hr.mono δ) Z Tt (ak (bf 1) (ak (bf 2) (ak (bf 3) (ak (bf 4) (ak (bf 0) aB Z) Z) Z) Z) Z) Z Z) (ak (bw CRowBy (hr.mono δ) Z abn (ak (bf 1) (ak (bf 4) (ak (bf 0) aB Z) Z) Z) Z Z) aB Z) Z)))))))),?_⟩
 refine aN λk hk=>?_;push_cast;refine⟨sa,wa,t,la,xs,ok,ss,ws,zs,left,rfl,es,ts,h60,ew,hwl,h5,el,lf,hl60,λp ord H1 s1 hpm hup tp=>?_⟩;push_cast;have ol:ord.length=left.length:=hpm.length_eq;have olt:∀k∈ord,k<ss.length:=λk hk=>lf.lt k (hpm.mem_iff.mp hk);subst hk;refine aN λk hk=>?_;refine adH λR hR=>?_;have el1:=s1 _ _ el;have es1:=s1 _ _ es;push_cast[el1];obtain⟨Pv,hPv⟩:∃Pv:Nat->List Int->L2.St->Hp->Prop,Pv=λ(i:Nat) acc τ H'=>∃(o0:Option V),H'=H1/\acc.length<=i/\(∀l,l∈acc ↔ ∃k∈left.take i,lbl ss k=l)/\τ=[o0,GT (.ref sa)]:=⟨_,rfl⟩;have hnl:(nv left).length=left.length:=gJ left;refine adG hR (xs:=nv left) ω Pv (by rw[hPv];exact⟨_,rfl,AU _,λl=>⟨λz=>(by cases z),λ⟨k,z,_⟩=>(by cases z)⟩,rfl⟩) ?_ ?_ ?_ ?_
 ·intro i acc τ H2 pv;rw[hPv] at pv;exact pv.choose_spec.2.1
 ·intro i acc τ H2 pv;rw[hPv] at pv;obtain⟨_,rfl,_⟩:=pv;exact SqL.of el1
 ·intro i x acc τ H2 hx pv;rw[hPv] at pv;obtain⟨o0,rfl,hal,hmem,rfl⟩:=pv;obtain⟨k0,hk0,rfl⟩:=zU hx;have li:k0<ss.length:=lf.lt k0 (BB hk0);obtain⟨a0,x0,y0⟩:=(ts.same s1).stN li;push_cast[es1,x0,y0];rw[hPv];refine⟨_,rfl,?_,λl=>?_,rfl⟩
  ·have:=BV acc (bJ ss k0).2.2;split at this <;> omega
  rw[Yy,hmem,take_snoc hk0];constructor
  ·rintro(⟨k,z1,z2⟩|z)
   ·exact⟨k,D8 _ z1,z2⟩
   exact⟨k0,by simp,z.symm⟩
  rintro⟨k,z1,z2⟩;rcases Cf.mp z1 with z1|z1
  ·exact .inl ⟨k,z1,z2⟩
  rw[AL.mp z1] at z2;exact .inr z2.symm
 intro acc τ H2 d2 ys pv hd2 hp hu nd;rw[hPv] at pv;obtain⟨o0,rfl,hal,hmem,rfl⟩:=pv;rw[hnl] at hal hmem;rw[EI] at hmem;have hL:sY ss left ys:=⟨Al (hu ω) (hp.nodup_iff.mpr nd),λl=>hp.mem_iff.trans (hmem l)⟩;have hyl:ys.length<=60:=by have:=hp.length_eq;omega
 have s2:=au (o:=AT (ys.map As)) hd2;have e2:upd H2 d2 (AT (ys.map As)) d2=_:=aA;have s02:=s1.trans s2;generalize upd H2 d2 (AT (ys.map As))=H3 at s2 e2 s02 |-;clear hR hPv;push_cast;subst hk;refine dX λR hR=>?_;push_cast[e2];obtain⟨Pc,hPc⟩:∃Pv:Nat->List V->L2.St->Hp->Prop,Pv=λ(i:Nat) acc τ H'=>∃(tl:List ID)(o0:Option V),Same H3 H'/\acc=tl.map AS/\tl.length=i/\(∀(j:Nat) u lab,tl[j]?=GT u->ys[j]?=GT lab->∃v,H' u=GT (.tup [.int (jb ss ws zs (sumK ws left) ord lab),v])/\aH (λ_=>True) H' v (Cp ss zs lab (jf ss lab ord)))/\τ=[o0,GT (.ref sa),GT (.ref wa),GT (.ref t),GT (.ref p)]:=⟨_,rfl⟩;refine jr hR (xs:=ys.map As) (aM (by rw[AE];omega)) Pc (by rw[hPc];exact⟨[],_,Same.refl _,rfl,rfl,λj u lab h=>(by cases h),rfl⟩) ?_ ?_ ?_ ?_
 ·intro i acc τ H4 pc;rw[hPc] at pc;obtain⟨tl,_,_,rfl,h1,_⟩:=pc;rw[AE];omega
 ·intro i acc τ H4 pc;rw[hPc] at pc;obtain⟨tl,_,s4,_⟩:=pc;exact SqL.of (s4 _ _ e2)
 ·intro i x acc τ H4 hx pc;rw[hPc] at pc;obtain⟨tl,o0,s4,rfl,htl,hall,rfl⟩:=pc;rw[AQ] at hx;obtain⟨lab,hlab,rfl⟩:=BU.mp hx;have s04:=s02.trans s4;have tp4:=(tp.same s2).same s4;push_cast;refine⟨sa,wa,t,p,lab,xs,ok,ss,ws,zs,ord,rfl,s04 _ _ es,ts.same s04,s04 _ _ ew,hwl,⟨s04 _ _ h5.1,h5.2⟩,olt,ω,tp4,λH5 s5=>?_⟩;push_cast;have s05:=s04.trans s5;refine⟨sa,p,lab,xs,ok,ss,zs,ord,rfl,s05 _ _ es,ts.same s05,olt,ω,tp4.same s5,λv H6 s6 tv=>?_⟩;push_cast;refine⟨aM δ,λu hu=>?_⟩;have ecost:uN ss ws zs (sumK ws ord) (jf ss lab ord)=jb ss ws zs (sumK ws left) ord lab:=by unfold jb;rw[Q5 hpm]
  rw[ecost];have s7:=au (o:=By [As (jb ss ws zs (sumK ws left) ord lab),v]) hu;rw[hPc];refine⟨tl++[u],_,((s4.trans s5).trans s6).trans s7,by rw[A6];rfl,by rw[AV,BG,htl],λj u' lab' hj hl'=>?_,rfl⟩;rcases G2 j tl.length with c|c
  ·rw[E8 c] at hj;obtain⟨v',e1,t1⟩:=hall j u' lab' hj hl';have s47:=(s5.trans s6).trans s7;exact⟨v',s47 _ _ e1,t1.same s47⟩
  rw[B8 c] at hj;have:j-tl.length=0:=by
   have:=(AM.mp hj).1;rw[BG] at this;omega
  rw[this] at hj;cases hj;have ej:j=i:=ω;subst ej;rw[hlab] at hl';cases hl';exact⟨v,aA,tv.same s7⟩
 intro acc τ H4 d4 pc hd4;rw[hPc] at pc;obtain⟨tl,o0,s4,rfl,htl,hall,rfl⟩:=pc;rw[AE] at htl;have s5:=au (o:=AT (tl.map AS)) hd4;push_cast;exact q d4 tl ys ord _ ((s02.trans s4).trans s5) ((s02.trans s4).none hd4) aA hL hpm hup htl λj u lab h1 h2=>by
  obtain⟨v',e1,t1⟩:=hall j u lab h1 h2;exact⟨v',s5 _ _ e1,t1.same s5⟩
abbrev jw:List Str:=["weights","prices","left","together","costs"]
abbrev cO:Stmt:=top 13
theorem pQ:aZ jw q18_ (aj cO):=⟨rfl,rfl,rfl,ψ,rfl,ψ,ψ⟩
theorem Gw:NM_ jw cO 1 "prices":=.of ψ
theorem Gu:NM_ jw cO 2 "left":=.of ψ
theorem Gs:NM_ jw cO 3 "together":=.of ψ
theorem oA:NM_ jw cO 4 "costs":=.of ψ
theorem wH:GI_ cO "TESTS":=ψ
theorem Bg:GI_ cO "sum":=ψ
theorem Bf:GI_ cO "zip":=ψ
theorem Ka:Bn "step_costs" := ⟨ψ,ψ⟩
theorem Wo(hB:∀x:Str,x∈BLs->mg x=Is){aTests:ID}(cgTests:mg "TESTS" = GT (.ref aTests))(ktTests:KTup K aTests ([("is" : Str),("within" : Str),("below" : Str),("mask" : Str),("table" : Str)].map At))(F:Fun K "step_costs" "step_costs" cO f fd):cQ P w K mg base CX0 1 f fd q18_ Oj:=by
 refine F.okz pQ λcdv A outer s H vs Q E hr h=>?_;obtain⟨l,wa,z,ok,ws,zs,left,rfl,tl,hlt,hw,hz,h5,few,q⟩:=h;refine⟨_,(aD (aX Gs pQ.nd (bW (jt Z) Bg (hB "sum" tZ) L1 uo (ak (eE (NX:=jw) (kX:=(aj cO).names) ["k","weights"] [Is,GT 0] Z Z ⟨rfl,ψ,ψ,ψ,ψ⟩ Z (cj (ao Gu)) (λ_ _ _ _ _=>(bA 0 (show BN (["k","weights"]:List Str) from by decide +kernel) Z (C3 Z))) (λ_ _ _ _ _=>fB) (λ_ _ _ _ _=>(aK aU (bf 1) (bf 0) (λ_ _=>rfl)))) aB Z) Z Z) Z (.inl Z))
  (aD (Zy (NX:=["weights","prices","left","together","costs"]) (kX:=(aj cO).names) ["word","price","together"] [Is,Is,GT 3] oA pQ.nd Z Z ⟨rfl,ψ,ψ,ψ,ψ⟩ Z (Zz Bf (hB "zip" Mr) (ak (rm (v:=AS aTests) wH cgTests Z Qv) (ak (ao Gw) aB Z) Z) Z Z) (λ_ _ _ _ _=>(fj (n:=2) Z (aQ (bA 0 (show BN (["word","price","together"]:List Str) from by decide +kernel) Z (C3 Z)) (aQ (bA 1 (show BN (["word","price","together"]:List Str) from by decide +kernel) Z (C3 Z)) cR Z) Z) Z Z)) (λ_ _ _ _ _=>fB) (λ_ _ _ _ _=>(bf 0)) (λ_ _ _ _ _=>(aP cG (bf 1) (bf 2))))
  (aD (VH hr.gG (ao oA) bC aq Z)
  (aL (aV (ao oA)))))),?_⟩
 obtain⟨la,rfl,okl,el,ll⟩:=tl.left;replace el:H la=GT (.lst (nv left)):=el;refine aN λk hk=>?_;push_cast;refine dX λR2 hR2=>?_;push_cast[el];refine Ez (λk=>ws.getD k 0) (λτ=>∃o0,τ=[o0,GT (.ref wa)]) hR2 el ll ⟨_,rfl⟩ ?_ ?_
 ·rintro i k' τ acc Pn hk' ⟨o0,rfl⟩ h1;have hwk:=uy (zs:=ws) (i:=k') (hlt _ (BB hk'));push_cast[hw,hwk];exact h1 _ ⟨_,rfl⟩
 intro d2 hd2;have s3:=au (o:=AT ((left.map λk=>ws.getD k 0).map As)) hd2;have e3:upd H d2 (AT ((left.map λk=>ws.getD k 0).map As)) d2=_:=aA;generalize upd H d2 (AT ((left.map λk=>ws.getD k 0).map As))=H3 at s3 e3 |-;push_cast[e3];refine⟨_,rfl,?_⟩;have hz3:=s3 _ _ hz;subst hk;refine aN λk hk=>?_;push_cast;refine abi λR3 hR3=>?_;push_cast[Xn];refine⟨aTests,z,_,_,rfl,ktTests.sq,SqT.of hz3,?_⟩;refine abh (kvs:=gj (zs.map (· * sumK ws left))) (ys:=zs.map As) (λτ=>∃o0 o1,τ=[o0,o1,GT (.int (sumK ws left))]) hR3 ktTests.sq (SqT.of hz3) (by rw[AE,h5];exact AU 5) (by show 5<=15;decide) ⟨_,_,rfl⟩ ?_ ?_
 ·rintro i kv y τ H4 p Nx hkv hy s4 ⟨o0,o1,rfl⟩ hp hN;have s5:=au (o:=By [kV kv.1,y]) hp;have e5:upd H4 p (By [kV kv.1,y]) p=_:=aA;generalize upd H4 p (By [kV kv.1,y])=H5 at s5 e5 |-;rw[AQ] at hy;cases hzi:zs[i]? with
  | none=>rw[hzi] at hy;cases hy
  | some zi=>
   rw[hzi] at hy;cases hy;have hkv2:=aa9 hkv;rw[JC,A4,hzi] at hkv2;have hfz:=few zi (BB hzi);push_cast[e5];refine⟨.inl ⟨ω,ω⟩,kv.1,rfl,?_⟩;have:=hN [GT (kV kv.1),GT (.int zi),GT (.int (sumK ws left))] H5 (s4.trans s5) ⟨_,_,rfl⟩;rw[hkv2] at this;exact this
 intro d H4 s4 hd4;have s5:=au (o:=HO.dK (cP [] (gj (zs.map (· * sumK ws left))))) hd4;subst hk;refine aN λk hk=>?_;push_cast[rdA];refine⟨d,_,rfl,rT.k (k:=ED "pick") aA (aa8 _),?_⟩;subst hk;push_cast;rw[YL];exact q d _ ((s3.trans s4).trans (au hd4)) aA
abbrev wU:List Str:=["ways","numbers"]
abbrev mF:Stmt:=top 23
theorem KN:aZ wU ["ways","numbers"] (aj mF):=⟨rfl,rfl,rfl,ψ,rfl,ψ,ψ⟩
theorem Jr:NM_ wU mF 0 "ways":=.of ψ
theorem Ny:Bn "bounds_of" := ⟨ψ,ψ⟩
abbrev je:List Str:=["ways","numbers","plans","bounds","least","cost","head","parts"]
abbrev dG:Stmt:=top 25
theorem j9:aZ je q19_ (aj dG):=⟨rfl,rfl,rfl,ψ,rfl,ψ,ψ⟩
theorem Ah:NM_ je dG 0 "ways":=.of ψ
theorem Mg:NM_ je dG 1 "numbers":=.of ψ
theorem tY:NM_ je dG 3 "bounds":=.of ψ
theorem tX:NM_ je dG 4 "least":=.of ψ
theorem Mf:NM_ je dG 5 "cost":=.of ψ
theorem Ag:NM_ je dG 6 "head":=.of ψ
theorem Af:NM_ je dG 7 "parts":=.of ψ
theorem vD:GI_ dG "bounds_of":=ψ
theorem G4:GI_ dG "min":=ψ
theorem Bl:GI_ dG "tuple":=ψ
theorem Tw:Bn "least_by" := ⟨ψ,ψ⟩
theorem RL{N:Nat->Nat->Int}(hB:∀x:Str,x∈BLs->mg x=Is)(F:Fun K "bounds_of" "bounds_of" mF f fd):cQ P w K mg base CX0 1 f fd ["ways","numbers"] (DX N):=by
 refine F.okz KN λcdv A outer s H vs Q E hr h=>?_;obtain⟨r,nd,ok,xs,W,kn,rfl,wr,q⟩:=h;refine⟨_,(aL (aV (eE (NX:=wU) (kX:=(aj mF).names) ["cost","head","parts","numbers"] [Is,Is,Is,GT 1] Z Z ⟨rfl,ψ,ψ,ψ,ψ⟩ Z (cj (ao Jr)) (λ_ _ _ _ _=>(fj (n:=3) Z (aQ (bA 0 (show BN (["cost","head","parts","numbers"]:List Str) from by decide +kernel) Z (C3 Z)) (aQ (bA 1 (show BN (["cost","head","parts","numbers"]:List Str) from by decide +kernel) Z (C3 Z)) (aQ (bA 2 (show BN (["cost","head","parts","numbers"]:List Str) from by decide +kernel) Z (C3 Z)) cR Z) Z) Z) Z Z)) (λ_ _ _ _ _=>fB) (λ_ _ _ _ _=>(aP aY (bf 0) (bW (jt Z) Z (hB "sum" tZ) L1 uo (ak (eE (NX:=["cost","head","parts","numbers"]) (kX:=_) ["part","numbers"] [Is,GT 3] Z Z ⟨rfl,ψ,ψ,by (intro y hy hf;repeat (first|(rcases A1.mp hy with rfl|hy;(first|exact Or.inr rfl|exact C3 rfl|exact absurd hf δ))|exact absurd hy BA)),ψ⟩ Z (ZD K (bf 2)) (λ_ _ _ _ _=>(bA 0 (show BN (["part","numbers"]:List Str) from by decide +kernel) Z (C3 Z))) (λ_ _ _ _ _=>fB) (λ_ _ _ _ _=>(pX hr.gG (bf 1) (bf 0) (λ_ _=>rfl)))) aB Z) Z Z)))))),?_⟩
 have hx:=wr.hx;have er:=wr.er;have hxl:=wr.t.length;rw[AE] at hxl;push_cast;refine dX λR hR=>?_;push_cast[er];obtain⟨Pc,hPc⟩:∃Pv:Nat->List V->L2.St->Hp->Prop,Pv=λ(i:Nat) acc τ H'=>∃(o0 o1 o2:Option V),Same H H'/\acc=((W.take i).map (nq N)).map As/\τ=[o0,o1,o2,GT (.ref nd)]:=⟨_,rfl⟩;refine jr hR (xs:=xs) (aM ω) Pc (by rw[hPc];exact⟨_,_,_,Same.refl _,rfl,rfl⟩) ?_ ?_ ?_ ?_
 ·intro i acc τ H2 pc;rw[hPc] at pc;obtain⟨_,_,_,_,rfl,_⟩:=pc;rw[AE,AE];exact C9 _ _
 ·intro i acc τ H2 pc;rw[hPc] at pc;obtain⟨_,_,_,s2,_⟩:=pc;exact SqL.of (s2 _ _ er)
 ·intro i y acc τ H2 hy pc;rw[hPc] at pc;obtain⟨o0,o1,o2,s2,rfl,rfl⟩:=pc;obtain⟨d,hd,td⟩:=(wr.t.same s2).get hy;rw[AQ] at hd;obtain⟨w1,hw1,rfl⟩:=BU.mp hd;have hm1:=BB hw1;cases td with
  | tup ot et zt tt=>
   cases tt with
   | cons tc tt=>
    cases tt with
    | cons th tt=>
     cases tt with
     | cons tp tt=>
      cases tt;cases tc;rename_i ta xh xp;cases tp with
      | lst op ep zp tpp=>
       rename_i la ys;have hyl:=tpp.length;rw[AE] at hyl;have en2:=s2 _ _ wr.en;push_cast[et];refine dX λR2 hR2=>?_;push_cast[ep];obtain⟨Pd,hPd⟩:∃Pv:Nat->List V->L2.St->Hp->Prop,Pv=λ(j:Nat) acc τ H'=>∃(o0:Option V),H'=H2/\acc=((w1.2.2.take j).map λp=>N p.1 p.2).map As/\τ=[o0,GT (.ref nd)]:=⟨_,rfl⟩;refine jr hR2 (xs:=ys) (aM zp) Pd (by rw[hPd];exact⟨_,rfl,rfl,rfl⟩) ?_ ?_ ?_ ?_
       ·intro j acc τ H3 pd;rw[hPd] at pd;obtain⟨_,rfl,rfl,_⟩:=pd;rw[AE,AE];exact C9 _ _
       ·intro j acc τ H3 pd;rw[hPd] at pd;obtain⟨_,rfl,_⟩:=pd;exact SqL.of ep
       ·intro j y2 acc τ H3 hy2 pd;rw[hPd] at pd;obtain⟨o0',rfl,rfl,rfl⟩:=pd;obtain⟨d2,hd2,td2⟩:=tpp.get hy2;rw[AQ] at hd2;obtain⟨p1,hp1,rfl⟩:=BU.mp hd2;obtain⟨q2,rfl,eq2⟩:=sZ td2;push_cast[rdA];refine⟨nd,As (N p1.1 p1.2),rfl,lF.k2 en2 eq2 (wr.at' w1 hm1 p1 (BB hp1)),?_⟩;rw[hPd];exact⟨_,rfl,by rw[take_snoc hp1,A6,A6];rfl,rfl⟩
       intro acc τ H3 d2 pd hd2;rw[hPd] at pd;obtain⟨o0',rfl,rfl,rfl⟩:=pd;rw[hyl,EI];have s3:=au (o:=AT ((w1.2.2.map λp=>N p.1 p.2).map As)) hd2;have e3:upd H3 d2 (AT ((w1.2.2.map λp=>N p.1 p.2).map As)) d2=_:=aA;generalize upd H3 d2 (AT ((w1.2.2.map λp=>N p.1 p.2).map As))=H4 at s3 e3 |-;push_cast[e3];refine⟨_,rfl,?_⟩;rw[hPc];refine⟨_,_,_,s2.trans s3,?_,rfl⟩;rw[take_snoc hw1,A6,A6];rfl
 intro acc τ H2 d pc hd;rw[hPc] at pc;obtain⟨o0,o1,o2,s2,rfl,rfl⟩:=pc;rw[hxl,EI];exact q d _ (s2.trans (au hd)) (s2.none hd) aA
theorem Lp{N:Nat->Nat->Int}{T:Nat->Nat->A0}(hB:∀x:Str,x∈BLs->mg x=Is)(CBoundsOf:Cal P w K mg base "bounds_of" 1 ["ways","numbers"] (DX N))(F:Fun K "least_by" "least_by" dG f fd):cQ P w K mg base CX0 2 f fd q19_ (zf N T):=by
 refine F.okz j9 λcdv A outer s H vs Q E hr h=>?_;obtain⟨r,nd,pd,ok,xs,W,kn,kp,rfl,wr,hnw,epd,hpl,hW,q⟩:=h;refine⟨_,(aD (aX tY j9.nd (bw CBoundsOf (hr.mono δ) vD Ny (ak (ao Ah) (ak (ao Mg) aB Z) Z) Z Z) Z (.inl Z))
  (aD (aX tX j9.nd (bW (Fb Z) G4 (hB "min" Ai) boot_min BJ (ak (ao tY) aB Z) Z Z) Z (.inl Z))
  (aD (nQ (aK aU (ao Ah) (ZL hr.un1 (ao tY) (ao tX)) (λ_ _=>rfl)) (fj (n:=3) Z (aQ (cV Mf j9.nd (.inl Z)) (aQ (cV Ag j9.nd (.inl Z)) (aQ (cV Af j9.nd (.inl Z)) cR Z) Z) Z) Z Z) Z Z Z)
  (aL (aV (bF (ak (ao tX) (ak (aP aaA (ao Ag) (w6 sS Bl (hB "tuple" vm) boot_tuple vL (ak (eE (NX:=je) (kX:=(aj dG).names) ["part","plans"] [Is,GT 2] Z Z ⟨rfl,ψ,ψ,ψ,ψ⟩ Z (cj (ao Af)) (λ_ _ _ _ _=>(bA 0 (show BN (["part","plans"]:List Str) from by decide +kernel) Z (C3 Z))) (λ_ _ _ _ _=>fB) (λ_ _ _ _ _=>(pX hr.gG (bf 1) (bf 0) (λ_ _=>rfl)))) aB Z) Z Z)) aB Z) Z))))))),?_⟩
 refine aN λk hk=>?_;push_cast;refine⟨r,nd,ok,xs,W,kn,rfl,wr,λb H1 s1 hb eb=>?_⟩;push_cast;subst hk;refine aN λk hk=>?_;push_cast;refine⟨_,.inl eb,λz=>hW (L9.mp z),λM hM hle=>?_⟩;subst hk;refine aN λk hk=>?_;have er1:=s1 _ _ wr.er;push_cast[er1,Ut];refine⟨_,SqL.of eb,SqL.of eb,hM,λj hj=>?_⟩;obtain⟨w1,hw1,ew1⟩:∃w1,W[j]?=GT w1/\nq N w1=M:=by
  have:=hj.1;rw[AQ] at this;exact BU.mp this
 have hx:=wr.t.length;rw[AE] at hx;have hjl:=(AM.mp hw1).1;have hxj:xs[j]?=GT (xs[j]'ω):=AF ω;obtain⟨d,hd,td⟩:=(wr.t.same s1).get hxj;rw[AQ,hw1] at hd;cases hd;have eat:atI xs (j:Int)=GT (xs[j]'ω):=cH hxj;generalize xs[j]'ω=xj at td eat;have hm1:=BB hw1;obtain⟨hne,hhl10,hp2⟩:=wr.hd w1 hm1;cases td with
 | tup ot et zt tt=>
  cases tt with
  | cons tc tt=>
   cases tt with
   | cons th tt=>
    cases tt with
    | cons tp tt=>
     cases tt;cases tc;rename_i ta xh xp;cases tp with
     | lst op ep zp tpp=>
      rename_i la ys;have hyl:=tpp.length;rw[AE] at hyl;have epd1:=s1 _ _ epd;cases th with
      | tup oh eh zh thh=>
       rename_i ha hxs;push_cast[eat,et];subst hk;push_cast;refine dX λR2 hR2=>?_;push_cast[ep];obtain⟨Pc,hPc⟩:∃Pv:Nat->List V->L2.St->Hp->Prop,Pv=λ(i:Nat) acc τ H'=>∃(o0:Option V),H1=H'/\acc.length=i/\aG ok H1 acc ((w1.2.2.take i).map λp=>T p.1 p.2)/\τ=[o0,GT (.ref pd)]:=⟨_,rfl⟩;refine jr hR2 (xs:=ys) (aM zp) Pc (by rw[hPc];exact⟨_,rfl,rfl,.nil,rfl⟩) ?_ ?_ ?_ ?_
       ·intro i acc τ H2 pc;rw[hPc] at pc;obtain⟨_,_,hl,_⟩:=pc;omega
       ·intro i acc τ H2 pc;rw[hPc] at pc;obtain⟨_,rfl,_⟩:=pc;exact SqL.of ep
       ·intro i y acc τ H2 hy pc;rw[hPc] at pc;obtain⟨o0,rfl,hl,t2,rfl⟩:=pc;obtain⟨d2,hd2,td2⟩:=tpp.get hy;rw[AQ] at hd2;obtain⟨p1,hp1,rfl⟩:=BU.mp hd2;obtain⟨q2,rfl,eq2⟩:=sZ td2;obtain⟨vp,hvp,tvp⟩:=hpl w1 hm1 p1 (BB hp1);push_cast[rdA];refine⟨pd,vp,rfl,lF.k2 epd1 eq2 hvp,?_⟩;rw[hPc];refine⟨_,rfl,by rw[AV,hl];rfl,?_,rfl⟩;rw[take_snoc hp1,A6];exact t2.append (.cons (tvp.same s1) .nil)
       intro acc τ H2 d pc hd;rw[hPc] at pc;obtain⟨o0,rfl,hl,t2,rfl⟩:=pc;rw[hyl,EI] at t2;have s3:=au (o:=AT acc) hd;have e3:upd H1 d (AT acc) d=_:=aA;generalize upd H1 d (AT acc)=H3 at s3 e3 |-;push_cast;refine⟨acc,.inl ⟨SqL.of e3,λl hl3=>?_⟩⟩;have s4:=au (o:=By acc) hl3;have e4:upd H3 l (By acc) l=_:=aA;generalize upd H3 l (By acc)=H4 at s4 e4 |-;have eh4:=s4 _ _ (s3 _ _ eh);have fin:∀(v:V)(H5:Hp),Same H4 H5->aH ok H5 v (O5 T w1)->(2<=AK/\∀(p:ID),H5 p=Is->Q (AS p) (upd H5 p (By [As M,v]))):=λv H5 s5 t5=>⟨aM δ,λp hp=>by
        have s6:=au (o:=By [As M,v]) hp;have sA:=((s1.trans s3).trans s4).trans s5;refine q _ w1 _ (sA.trans s6) hm1 (λw' hw'=>by rw[ew1];exact hle _ (FE hw')) ?_;rw[ew1];exact .tup (hnw.new (sA.none hp)) aA (by show 2<=1000000;decide) (.cons (.int _) (.cons (t5.same s6) .nil))⟩
       have hhl:=thh.length;have hpos:0<w1.2.1.length:=LI.mpr hne;have hal:=t2.length;rw[AE] at hal;push_cast[eh4,e4,Zu,ado];refine⟨λz=>by rw[z] at hhl;exact absurd hhl (by show ¬0=_;omega),aM ω,λhnil=>?_,λhne p hp=>?_⟩
       ·subst hnil;refine fin _ _ (Same.refl _) ?_;unfold O5;rw[show(w1.2.2.map λp=>T p.1 p.2)=[] from L9.mpr (List.eq_nil_of_length_eq_zero hal.symm),EK];exact .tup oh eh4 zh ((thh.same s3).same s4)
       have s5:=au (o:=By (hxs++acc)) hp;exact fin _ _ s5 (.tup (hnw.new (((s1.trans s3).trans s4).none hp)) aA (by rw[AV];omega) (((thh.same (s3.trans s4)).append (t2.same (s3.trans s4))).same s5))
abbrev uw:List Str:=["many"]
abbrev iD:Stmt:=top 21
theorem HX:aZ uw ["many"] (aj iD):=⟨rfl,rfl,rfl,ψ,rfl,ψ,ψ⟩
theorem Gx:NM_ uw iD 0 "many":=.of ψ
theorem wJ:GI_ iD "range":=ψ
theorem rP:GI_ iD "reversed":=ψ
theorem Kc:Bn "runs_of_row" := ⟨ψ,ψ⟩
abbrev cB:List Str:=["stretches","weights","prices","run","first","behind","left","costs","across","labels","ways"]
abbrev aW:Stmt:=top 22
theorem eZ:aZ cB q12_ (aj aW):=⟨rfl,rfl,rfl,ψ,rfl,ψ,ψ⟩
theorem ou:NM_ cB aW 0 "stretches":=.of ψ
theorem vd:NM_ cB aW 1 "weights":=.of ψ
theorem u9:NM_ cB aW 2 "prices":=.of ψ
theorem Gr:NM_ cB aW 3 "run":=.of ψ
theorem u0:NM_ cB aW 4 "first":=.of ψ
theorem uZ:NM_ cB aW 5 "behind":=.of ψ
theorem gD:NM_ cB aW 6 "left":=.of ψ
theorem n6:NM_ cB aW 7 "costs":=.of ψ
theorem nZ:NM_ cB aW 8 "across":=.of ψ
theorem j4:NM_ cB aW 9 "labels":=.of ψ
theorem gY:NM_ cB aW 10 "ways":=.of ψ
theorem pB:GI_ aW "MOST_IN_MASK":=ψ
theorem oH:GI_ aW "MOST_IN_TABLE":=ψ
theorem pC:GI_ aW "labels_left":=ψ
theorem Bd:GI_ aW "len":=ψ
theorem yx:GI_ aW "list":=ψ
theorem lV:GI_ aW "numbers_across":=ψ
theorem wG:GI_ aW "range":=ψ
theorem uf:GI_ aW "rows_for":=ψ
theorem Bc:GI_ aW "set":=ψ
theorem vB:GI_ aW "sorted":=ψ
theorem qG:GI_ aW "step_costs":=ψ
theorem J9:Bn "ways_of_run" := ⟨ψ,ψ⟩
theorem RD{n:Nat}(hB:∀x:Str,x∈BLs->mg x=Is)(F:Fun K "runs_of_row" "runs_of_row" iD f fd):cQ P w K mg base CX0 1 f fd ["many"] (DG n):=by
 refine F.okz HX λcdv A outer s H vs Q E hr h=>?_;obtain⟨rfl,h60,q⟩:=h;refine⟨_,(aL (aV (VR (NX:=uw) (kX:=(aj iD).names) ["first","behind","many"] [Is,Is,GT 0] Z Z ⟨rfl,ψ,ψ,ψ,ψ⟩ Z (ZF rP (hB "reversed" xV) wJ (hB "range" fH) (ak (ao Gx) aB Z) Z Z) (λ_ _ _ _ _=>(bA 0 (show BN (["first","behind","many"]:List Str) from by decide +kernel) Z (C3 Z))) (λ_ _ _ _ _=>(v8 Z (hB "range" fH) (ak (aP aY (bf 0) aq) (ak (aP aY (bf 2) aq) aB Z) Z) Z Z)) (λ_ _ _ _ _=>(bA 1 (show BN (["first","behind","many"]:List Str) from by decide +kernel) Z (C3 Z))) (λ_ _ _ _ _=>(bF (ak (bf 0) (ak (bf 1) aB Z) Z)))))),?_⟩
 push_cast;refine abj λR hR=>?_;push_cast[Xu];refine⟨ω,?_⟩;rw[Fs];obtain⟨Pc,hPc⟩:∃Pv:Nat->List V->L2.St->Hp->Prop,Pv=λ(i:Nat) acc τ H'=>∃(o0 o1:Option V),Same H H'/\aG (λ_=>True) H' acc ((gH n i).map rpD)/\τ=[o0,o1,GT (.int (n:Int))]:=⟨_,rfl⟩;refine Yj hR Pc (by rw[hPc];exact⟨_,_,Same.refl _,.nil,rfl⟩) ?_ (λx τ H k k' hk h=>hk _ _ h) ?_
 ·intro i acc τ H2 hi pc;rw[hPc] at pc;obtain⟨o0,o1,s2,t2,rfl⟩:=pc;push_cast;intro R2 hR2;push_cast[Jz];refine⟨ω,?_⟩;rw[show((n:Int)+1-((n:Int)-1-(i:Int)+1)).toNat=i+1 by omega];obtain⟨Pw,hPw⟩:∃Pv:Nat->List V->L2.St->Hp->Prop,Pv=λ(j:Nat) acc τ H'=>∃(o1:Option V),Same H H'/\aG (λ_=>True) H' acc ((gH n i++(kZ n i).take j).map rpD)/\τ=[GT (.int ((n:Int)-1-(i:Int))),o1,GT (.int (n:Int))]:=⟨_,rfl⟩;refine aeP hR2 Pw (by rw[hPw];exact⟨_,s2,by rw[List.take_zero,EK];exact t2,rfl⟩) ?_ ?_ ?_
  ·intro j acc τ H3 hj pw;rw[hPw] at pw;obtain⟨_,_,t3,_⟩:=pw;have h1:=t3.length;have h2:=tD n i ω;have h3:=C9 j (kZ n i);rw[AE,AV] at h1;exact wW ω
  ·intro j acc τ H3 hj pw;rw[hPw] at pw;obtain⟨o1',s3,t3,rfl⟩:=pw;push_cast;refine⟨aM δ,λp hp=>?_⟩;have hx:(kZ n i)[j]?=GT (n-1-i,n-i+j):=by
    unfold kZ;rw[AQ,Ha hj];rfl
   rw[hPw];have s4:=au (o:=By [As ((n:Int)-1-(i:Int)),As ((n:Int)-1-(i:Int)+1+(j:Int))]) hp;refine⟨_,s3.trans s4,?_,rfl⟩;rw[take_snoc hx,<- G0,A6];refine(t3.same s4).append (.cons ?_ .nil);show aH _ _ _ (rpD (n-1-i,n-i+j));unfold rpD;rw[show(((n-1-i:Nat)):Int)=(n:Int)-1-(i:Int) by omega,show(((n-i+j:Nat)):Int)=(n:Int)-1-(i:Int)+1+(j:Int) by omega];exact .tup trivial aA (show 2<=1000000 by decide) (.cons (.int _) (.cons (.int _) .nil))
  intro acc τ H3 pw;rw[hPw] at pw;obtain⟨o1',s3,t3,rfl⟩:=pw;rw[hPc];rw[D7 (by rw[zK];exact AU _),<- wY] at t3;exact⟨_,_,s3,t3,rfl⟩
 intro acc τ H2 d pc hd;rw[hPc] at pc;obtain⟨o0,o1,s2,t2,rfl⟩:=pc;exact q d acc _ (s2.trans (au hd)) (s2.none hd) aA (t2.same (au hd))
theorem Wn(hB:∀x:Str,x∈BLs->mg x=Is)(cgMostInMask:mg "MOST_IN_MASK" = GT (.int 64 ckMostInMask))(cgMostInTable:mg "MOST_IN_TABLE" = GT (.int 200 ckMostInTable))(CNumbersAcross:Cal P w K mg base "numbers_across" 1 q8_ zm)(CLabelsLeft:Cal P w K mg base "labels_left" 1 q8_ FJ)(CStepCosts:Cal P w K mg base "step_costs" 1 q18_ Oj)(CRowsFor:Cal P w K mg base "rows_for" 3 q4_ Ol)(F:Fun K "ways_of_run" "ways_of_run" aW f fd):cQ P w K mg base CX0 4 f fd q12_ Oh:=by
 refine F.okz eZ λcdv A outer s H vs Q E hr h=>?_;obtain⟨sa,wa,t,rp,a,b,xs,ok,ss,ws,zs,rfl,es,ts,h60,ew,hwl,h5,erp,hab,hbn,q⟩:=h;refine⟨_,(aD (nQ (ao Gr) (fj (n:=2) Z (aQ (cV u0 eZ.nd (.inl Z)) (aQ (cV uZ eZ.nd (.inl Z)) cR Z) Z) Z Z) Z Z Z)
  (aD (aX gD eZ.nd (ZK Z yx (hB "list" yN) wG (hB "range" fH) (ak (ao u0) (ak (ao uZ) aB Z) Z)) Z (.inl Z))
  (aD (aX n6 eZ.nd (bw CStepCosts (hr.mono δ) qG Ka (ak (ao vd) (ak (ao u9) (ak (ao gD) aB Z) Z) Z) Z Z) Z (.inl Z))
  (aD (aX nZ eZ.nd (bw CNumbersAcross (hr.mono δ) lV jU (ak (ao ou) (ak (ao gD) aB Z) Z) Z Z) Z (.inl Z))
  (aD (aX j4 eZ.nd (O3 Z vB (hB "sorted" rC) Bc (hB "set" WY) (ak (bw CLabelsLeft (hr.mono δ) pC oK (ak (ao ou) (ak (ao gD) aB Z) Z) Z Z) aB Z)) Z (.inl Z))
  (aD (yJ (NX:=cB) (kX:=(aj aW).names) ["cost","plan"] [Is,Is] gY eZ.nd Z Z ⟨rfl,ψ,ψ,ψ,ψ⟩ Z (cj (bw CRowsFor (hr.mono δ) uf Tq (ak (ao ou) (ak (ao vd) (ak (ao u9) (ak (ao gD) aB Z) Z) Z) Z) Z Z)) (λ_ _ _ _ _=>(fj (n:=2) Z (aQ (bA 0 (show BN (["cost","plan"]:List Str) from by decide +kernel) Z (C3 Z)) (aQ (bA 1 (show BN (["cost","plan"]:List Str) from by decide +kernel) Z (C3 Z)) cR Z) Z) Z Z)) (λ_ _ _ _ _=>fB) (λ_ _ _ _ _=>(bF (ak (bf 0) (ak (bf 1) (ak (cF aB) aB Z) Z) Z))))
  (aD (dh (bh zQ (ao nZ) (rm (v:=As 200) oH cgMostInTable ⟨_,rfl⟩ sU) (aR _)) (aL (iU (nR (ao gY) (bF (ak (pX hr.gG (ao n6) bC (λ_ _=>rfl)) (ak (bF (ak bC aB Z)) (ak (cF aB) aB Z) Z) Z)) Z Z Z Z Z) Z)) cu)
  (aD (dh (Gg (K1 (bh zQ (ao nZ) (rm (v:=As 64) pB cgMostInMask ⟨_,rfl⟩ vM) (aR _)) (Gf (bh (bT hr.bD) (bW bM Bd (hB "len" eV) B1 eY (ak (ao j4) aB Z) Z Z) aq (aR _))))) (aL (iU (nR (ao gY) (bF (ak (pX hr.gG (ao n6) bC (λ_ _=>rfl)) (ak (bF (ak bC (ak (aK aU (ao j4) aq (λ_ _=>rfl)) (ak (bF (ak bC (ak (aK aU (ao j4) aq (λ_ _=>rfl)) aB Z) Z)) aB Z) Z) Z)) (ak (cF aB) aB Z) Z) Z)) Z Z Z Z Z) Z)) cu)
  (aD (iU (Gi (ao gY) (eE (NX:=cB) (kX:=(aj aW).names) ["k","costs","first","behind"] [Is,GT 7,GT 4,GT 5] Z Z ⟨rfl,ψ,ψ,ψ,ψ⟩ Z (cj (fY zB (ao gD) (dZ aq) qZ)) (λ_ _ _ _ _=>(bA 0 (show BN (["k","costs","first","behind"]:List Str) from by decide +kernel) Z (C3 Z))) (λ_ _ _ _ _=>fB) (λ_ _ _ _ _=>(bF (ak (pX hr.gG (bf 1) bC (λ_ _=>rfl)) (ak (bF (ak bC (ak (bf 0) aB Z) Z)) (ak (cF (ak (bF (ak (bf 2) (ak (bf 0) aB Z) Z)) (ak (bF (ak (bf 0) (ak (bf 3) aB Z) Z)) aB Z) Z)) aB Z) Z) Z)))) Z Z Z Z Z) Z)
  (aL (aV (ao gY)))))))))))),?_⟩
 have lf:=Vh hab hbn;have hll:=iT a b;have tsl:=ts.length;rw[AE] at tsl;have ts1:∀{H':Hp},Same H H'->aH (λ_=>True) H' (.ref sa) (.list (ss.map stD)):=λs'=>.lst trivial (s' _ _ es) ω ((ts.same s').keep λa o _ e=>⟨trivial,e⟩);have few:Few zs:=λz hz=>by have:=h5.2.2 z hz;omega
 refine aN λk hk=>?_;push_cast[erp];subst hk;refine aN λk hk=>?_;push_cast;refine⟨ω,aM ω,λla hla=>?_⟩;rw[show((b:Int)-(a:Int)).toNat=b-a by omega,Vj];have s1:=au (o:=AT (nv (rng a b))) hla;have el1:upd H la (AT (nv (rng a b))) la=GT (AT (nv (rng a b))):=aA;generalize upd H la (AT (nv (rng a b)))=H1 at s1 el1 |-;have tl:∀{H':Hp},Same H1 H'->aH (λ_=>True) H' (.ref la) (sI (rng a b)):=λs'=>iG trivial (s' _ _ el1) ω;subst hk;refine aN λk hk=>?_;push_cast;refine⟨_,wa,t,_,ws,zs,rng a b,rfl,tl (Same.refl _),λk hk=>by have:=lf.lt k hk;omega,s1 _ _ ew,s1 _ _ h5.1,h5.2.1,few,λpc H2 s2 epc=>?_⟩;push_cast;subst hk;have s12:=s1.trans s2;refine aN λk hk=>?_;push_cast;refine⟨_,_,_,ss,rng a b,rfl,ts1 s12,tl s2,lf,?_⟩;push_cast;subst hk;refine aN λk hk=>?_;push_cast[tSS];refine⟨_,_,_,ss,rng a b,rfl,ts1 s12,tl s2,lf,λa3 ha3=>?_⟩;have s3:=au (o:=AT (((rng a b).map (lbl ss)).map As)) ha3;have e3:upd H2 a3 (AT (((rng a b).map (lbl ss)).map As)) a3=GT (AT (((rng a b).map (lbl ss)).map As)):=aA;generalize upd H2 a3 (AT (((rng a b).map (lbl ss)).map As))=H3 at s3 e3 |-;refine⟨a3,rfl,(rng a b).map (lbl ss),SqL.of e3,by rw[AE];omega,λp4 L hp4 perm hup=>?_⟩;have hdl:=SRT.yQ ((rng a b).map (lbl ss));rw[AE] at hdl;have hpl:=perm.length_eq;have hL:sY ss (rng a b) L:=⟨Al (hup ω) (perm.nodup_iff.mpr (SRT.wM _)),λl=>by
  rw[perm.mem_iff,SRT.Qk,DD]⟩
 have s4:=s12.trans (s3.trans (au (o:=AT (L.map As)) hp4));have e4:upd H3 p4 (AT (L.map As)) p4=GT (AT (L.map As)):=aA;have epc4:=(s3.trans (au (o:=AT (L.map As)) hp4)) _ _ epc;have el4:=(s2.trans (s3.trans (au (o:=AT (L.map As)) hp4))) _ _ el1;generalize upd H3 p4 (AT (L.map As))=H4 at s4 e4 epc4 el4 |-;show k _ _;subst hk;clear s3 e3 hp4 perm hup s2 epc s12 tl;refine aN λk hk=>?_;refine dX λR hR=>?_;push_cast[Jy];refine⟨sa,wa,t,la,xs,ok,ss,ws,zs,rng a b,rfl,s4 _ _ es,ts.same s4,h60,s4 _ _ ew,hwl,⟨s4 _ _ h5.1,h5.2⟩,el4,lf,ω,λr5 tl5 L5 ord H5 s5 hr5 er5 hL5 hpm hrk htl hrow=>?_⟩;show itK K (AS r5) H5 R;rw[PX,er5,PN];have eL:L5=L:=hL5.one hL;subst eL;have oR:sW ss ws zs (rng a b) ord:=⟨hpm,hrk⟩;have s45:=s4.trans s5;have e5:=s5 _ _ e4;have epc5:=s5 _ _ epc4;have el5:=s5 _ _ el4;have hLl:L5.length<=60:=ω;obtain⟨RW,hRW⟩:∃RW,RW=Ed ss ws zs a b ord L5:=⟨_,rfl⟩;have hRl:RW.length=L5.length:=by rw[hRW];exact AE _
 obtain⟨Pc,hPc⟩:∃Pv:Nat->List V->L2.St->Hp->Prop,Pv=λ(i:Nat) acc τ H'=>∃(o0 o1:Option V),Same H5 H'/\aG (λ_=>True) H' acc ((RW.take i).map rwD)/\τ=[o0,o1]:=⟨_,rfl⟩;refine jr hR (xs:=tl5.map AS) (aM (by rw[AE];omega)) Pc (by rw[hPc];exact⟨_,_,Same.refl _,.nil,rfl⟩) ?_ ?_ ?_ ?_
 ·intro i acc τ H6 pc;rw[hPc] at pc;obtain⟨_,_,_,t6,_⟩:=pc;have:=t6.length;rw[AE] at this;have:=C9 i RW;omega
 ·intro i acc τ H6 pc;rw[hPc] at pc;obtain⟨_,_,s6,_⟩:=pc;exact SqL.of (s6 _ _ er5)
 ·intro i y acc τ H6 hy pc;rw[hPc] at pc;obtain⟨o0,o1,s6,t6,rfl⟩:=pc;rw[AQ] at hy;obtain⟨u,hu,rfl⟩:=BU.mp hy;have hil:=(AM.mp hu).1;have hlab:L5[i]?=GT (L5[i]'ω):=AF ω;generalize L5[i]'ω=lab at hlab;obtain⟨v,ev,tv⟩:=hrow i u lab hu hlab;have hx:RW[i]?=GT (jb ss ws zs (sumK ws (rng a b)) ord lab,Ii ss zs lab (jf ss lab ord),[]):=by
   rw[hRW];unfold Ed;rw[AQ,hlab];rfl
  have ev6:=s6 _ _ ev;push_cast[ev6];refine⟨aM δ,λle hle=>⟨aM δ,λp hp=>?_⟩⟩;have s7:=au (o:=AT []) hle;have e7:upd H6 le (AT []) le=GT (AT []):=aA;generalize upd H6 le (AT [])=H7 at s7 e7 hp |-;have s8:=au (o:=By [As (jb ss ws zs (sumK ws (rng a b)) ord lab),v,AS le]) hp;rw[hPc];refine⟨_,_,s6.trans (s7.trans s8),?_,rfl⟩;rw[take_snoc hx,A6];refine(t6.same (s7.trans s8)).append (.cons (.tup trivial aA (show 3<=1000000 by decide) (.cons (.int _) (.cons ?_ (.cons (.lst trivial (s8 _ _ e7) (show 0<=1000000 by decide) .nil) .nil)))) .nil);rw[<- Vd];exact tv.same (s6.trans (s7.trans s8))
 intro acc τ H6 d pc hd;rw[hPc] at pc;obtain⟨o0,o1,s6,t6,rfl⟩:=pc;rw[AE,htl,<- hRl,EI] at t6;have hdn:H d=Is:=(s45.trans s6).none hd;have hp4d:p4≠d:=aF (s6 _ _ e5) hd;have hpcd:pc≠d:=aF (s6 _ _ epc5) hd;have hlad:la≠d:=aF (s6 _ _ el5) hd;have t6':aG (·≠d) H6 acc (RW.map rwD):=t6.keep λa o _ e=>⟨aF e hd,e⟩;have s7:=(s45.trans s6).trans (au (o:=AT acc) hd);have ep7:=au (o:=AT acc) hd _ _ (s6 _ _ e5);have epc7:=au (o:=AT acc) hd _ _ (s6 _ _ epc5);have el7:=au (o:=AT acc) hd _ _ (s6 _ _ el5);have ed7:upd H6 d (AT acc) d=GT (AT acc):=aA;have t7:=t6'.same (au (o:=AT acc) hd);generalize upd H6 d (AT acc)=H7 at s7 ep7 epc7 el7 ed7 t7 |-;show k _ _;clear hR hPc t6 t6' s6 hd s45 s4 s5 e4 e5 epc4 epc5 el4 el5 hrow er5 hr5;obtain⟨So,hSo⟩:∃So:List lJ->Hp->Prop,So=λW H'=>∃ys,Same H H'/\H' p4=GT (.lst (L5.map As))/\H' pc=GT (.dK (Bw zs (sumK ws (rng a b))))/\H' la=GT (.lst (nv (rng a b)))/\H' d=GT (.lst ys)/\aG (·≠d) H' ys (W.map rwD):=⟨_,rfl⟩;have put:∀(W:List lJ)(x:lJ)(v:V)(ys:List V)(H4 H5:Hp),Same H H4->H4 p4=GT (.lst (L5.map As))->H4 pc=GT (.dK (Bw zs (sumK ws (rng a b))))->H4 la=GT (.lst (nv (rng a b)))->Same H4 H5->aG (·≠d) (upd H5 d (.lst (ys++[v]))) (ys++[v]) (W.map rwD++[rwD x])->So (W++[x]) (upd H5 d (.lst (ys++[v]))):=λW x v ys H4 H5 s4 e1 e2 e3 s5 t=>by
  rw[hSo];exact⟨_,qY (s4.trans s5) hdn,(aJ hp4d).trans (s5 _ _ e1),(aJ hpcd).trans (s5 _ _ e2),(aJ hlad).trans (s5 _ _ e3),aA,by rw[A6];exact t⟩
 have so7:So RW H7:=by rw[hSo];exact⟨acc,s7,ep7,epc7,el7,ed7,t7⟩
 have nwk:∀{H':Hp}{ys:List V},H' d=GT (.lst ys)->gF (·≠d) H':=λ{H' ys} e p q s' hq=>(aF (s' _ _ e) hq).symm;have cv:=λp=>Yh ws zs (rng a b) p;clear s7 ep7 epc7 el7 ed7 t7;subst hk
 -- a table
 refine aN λk hk=>?_;have tb:∀H8,So (RW++rM ss ws zs a b) H8->k [GT (.ref sa),GT (.ref wa),GT (.ref t),GT (.ref rp),GT (.int (a:Int)),GT (.int (b:Int)),GT (.ref la),GT (.ref pc),GT (.int (cU ss (rng a b))),GT (.ref p4),GT (.ref d)] H8:=by
  intro H8 so8;subst hk;refine aN λk hk=>?_;have mk:∀H9,So (RW++rM ss ws zs a b++yq ss ws zs a b L5) H9->k [GT (.ref sa),GT (.ref wa),GT (.ref t),GT (.ref rp),GT (.int (a:Int)),GT (.int (b:Int)),GT (.ref la),GT (.ref pc),GT (.int (cU ss (rng a b))),GT (.ref p4),GT (.ref d)] H9:=by
   intro H9 so9;subst hk;refine aN λk hk=>?_;rw[hSo] at so9;obtain⟨ys,s9,ep9,epc9,el9,ed9,t9⟩:=so9;push_cast[yW,G6,ed9,yO];refine dX λR hR=>?_;push_cast[el9];rw[Qp,Vf hab];intro a10 ha10;have s10:=au (o:=AT (nv (rng (a+1) b))) ha10;have e10:upd H9 a10 (AT (nv (rng (a+1) b))) a10=GT (AT (nv (rng (a+1) b))):=aA;generalize upd H9 a10 (AT (nv (rng (a+1) b)))=H10 at s10 e10 |-;obtain⟨LW,hLW⟩:∃LW,LW=Pr ws zs a b:=⟨_,rfl⟩;have hLWl:LW.length=b-(a+1):=by rw[hLW];unfold Pr;rw[AE,iT]
   obtain⟨Pl,hPl⟩:∃Pv:Nat->List V->L2.St->Hp->Prop,Pv=λ(i:Nat) acc τ H'=>∃(o0:Option V),Same H10 H'/\aG (·≠d) H' acc ((LW.take i).map rwD)/\τ=[o0,GT (.ref pc),GT (.int (a:Int)),GT (.int (b:Int))]:=⟨_,rfl⟩;refine jr hR (xs:=nv (rng (a+1) b)) (aM (by rw[gJ,iT];omega)) Pl (by rw[hPl];exact⟨_,Same.refl _,.nil,rfl⟩) ?_ ?_ ?_ ?_
   ·intro i acc τ H11 pl;rw[hPl] at pl;obtain⟨_,_,t11,_⟩:=pl;have:=t11.length;rw[AE] at this;have:=C9 i LW;omega
   ·intro i acc τ H11 pl;rw[hPl] at pl;obtain⟨_,s11,_⟩:=pl;exact SqL.of (s11 _ _ e10)
   ·intro i y acc τ H11 hy pl;rw[hPl] at pl;obtain⟨o0,s11,t11,rfl⟩:=pl;obtain⟨k0,hk0,rfl⟩:=zU hy;have hx:LW[i]?=GT (zs.getD 2 0*sumK ws (rng a b),[.str "below",.int (k0:Int)],[(a,k0),(k0,b)]):=by
     rw[hLW];unfold Pr;rw[AQ,hk0];rfl
    have n11:gF (·≠d) H11:=nwk ((s10.trans s11) _ _ ed9);have epc11:=(s10.trans s11) _ _ epc9;have pk:∀{i j:Nat}{x y:Int},[GT (As (k0:Int)),GT (.ref pc),GT (.int (a:Int)),GT (.int (b:Int))][i]?=GT (GT (As x))->[GT (As (k0:Int)),GT (.ref pc),GT (.int (a:Int)),GT (.int (b:Int))][j]?=GT (GT (As y))->Gv (·≠d) (Kv (wV (tV i) (wV (tV j) Kw))) [GT (As (k0:Int)),GT (.ref pc),GT (.int (a:Int)),GT (.int (b:Int))] H11 (.tuple [.int x,.int y]):=λh1 h2=>qF n11 (bV (gvV h1 (.int _)) (bV (gvV h2 (.int _)) iY)) (by show 2<=1000000;decide);simp only[lz,Y4,Mm,reduceIte];refine(qF n11 (bV (MF (i:=1) Z epc11 (cv (.low 0 .tab .tab))) (bV (qF n11 (bV GQ (bV (gvV (i:=0) Z (.int _)) iY)) (by show 2<=1000000;decide)) (bV (Mz n11 (bV (pk (i:=2) (j:=0) Z Z) (bV (pk (i:=0) (j:=3) Z Z) iY)) (by show 2<=1000000;decide)) iY))) (by show 3<=1000000;decide)) H11 (Same.refl _) _ λv H12 s12 t12=>?_;rw[hPl];refine⟨_,s11.trans s12,?_,rfl⟩;rw[take_snoc hx,A6];exact(t11.same s12).append (.cons t12 .nil)
   intro acc τ H11 d11 pl hd11;rw[hPl] at pl;obtain⟨o0,s11,t11,rfl⟩:=pl;rw[gJ,iT,<- hLWl,EI] at t11;have s12:=s11.trans (au (o:=AT acc) hd11);have e12:upd H11 d11 (AT acc) d11=GT (AT acc):=aA;have t12:=t11.same (au (o:=AT acc) hd11);generalize upd H11 d11 (AT acc)=H12 at s12 e12 t12 |-;have sX:=s10.trans s12;have ed12:=sX _ _ ed9;rw[Bs,ed12,e12,M9];have hl1:=t9.length;have hl2:=t12.length;have htw:(rM ss ws zs a b).length<=1:=by unfold rM;split <;> simp
   have hmw:(yq ss ws zs a b L5).length<=1:=by unfold yq;split <;> simp
   rw[AE] at hl1 hl2;rw[AV,AV] at hl1;refine⟨aM ω,?_⟩;show k _ _;subst hk;push_cast;refine q d (ys++acc) (RW++rM ss ws zs a b++yq ss ws zs a b L5++LW) _ (qY (s9.trans sX) hdn) hdn aA (λx=>?_) (Qz (L:=L5) hab oR λx=>?_) ?_ (by rw[AV];omega)
   ·rw[hRW,hLW];exact rB hL oR x
   ·rw[hRW,hLW];exact rB hL oR x
   rw[A6];exact((t9.same sX).append t12).keep λa o h e=>⟨trivial,by rw[aJ h];exact e⟩
  refine jH λkt ke hkt hke=>?_;rw[hSo] at so8;obtain⟨ys,s8,ep8,epc8,el8,ed8,t8⟩:=so8;push_cast[ep8];rw[AE];unfold yq at mk;by_cases c:cU ss (rng a b)<=64/\L5.length=2
  ·rw[if_pos c.1,if_pos (by have:=c.2;omega)];rw[if_pos c] at mk;subst hkt;have n8:=nwk ed8;have hxl:=t8.length;have htw:(rM ss ws zs a b).length<=1:=by unfold rM;split <;> simp
   rw[AE,AV] at hxl;exact Yx (ok:=(·≠d)) Z ed8 ω (λa h=>h) t8 (d:=rwD (zs.getD 3 0*sumK ws (rng a b),[.str "mask",.int (L5.getD 0 0),.tuple [.str "pick",.int (L5.getD 1 0)]],[])) (qF n8 (bV (MF Z epc8 (cv (.msk 0 .tab))) (bV (qF n8 (bV GQ (bV (adb Z ep8 (by have:=c.2;omega)) (bV (qF n8 (bV GQ (bV (ada Z ep8 (by have:=c.2;omega)) iY)) (by show 2<=1000000;decide)) iY))) (by show 3<=1000000;decide)) (bV (Mz n8 iY (by show 0<=1000000;decide)) iY))) (by show 3<=1000000;decide)) λv H5 s5 t5=>mk _ (put _ _ v ys H8 H5 s8 ep8 epc8 el8 s5 t5)
  rw[if_neg c,EK] at mk;have so8:So (RW++rM ss ws zs a b) H8:=by rw[hSo];exact⟨ys,s8,ep8,epc8,el8,ed8,t8⟩
  subst hke;split
  ·rename_i c1;rw[if_neg (λz=>c ⟨c1,ω⟩)];exact mk _ so8
  exact mk _ so8
 refine jH λkt ke hkt hke=>?_;push_cast;unfold rM at tb;by_cases c:cU ss (rng a b)<=200
 ·rw[if_pos c];rw[if_pos c] at tb;subst hkt;rw[hSo] at so7;obtain⟨ys,s8,ep8,epc8,el8,ed8,t8⟩:=so7;have n8:=nwk ed8;have hxl:=t8.length;rw[AE] at hxl;exact Yx (ok:=(·≠d)) Z ed8 ω (λa h=>h) t8 (d:=rwD (zs.getD 4 0*sumK ws (rng a b),[.str "table"],[])) (qF n8 (bV (MF Z epc8 (cv .tab)) (bV (qF n8 (bV GQ iY) (by show 1<=1000000;decide)) (bV (Mz n8 iY (by show 0<=1000000;decide)) iY))) (by show 3<=1000000;decide)) λv H5 s5 t5=>tb _ (put _ _ v ys H7 H5 s8 ep8 epc8 el8 s5 t5)
 rw[if_neg c];rw[if_neg c,EK] at tb;subst hke;exact tb _ so7
abbrev cY:List Str:=["stretches","weights","prices","numbers","plans","run","ways"]
abbrev bH:Stmt:=top 26
theorem fQ:aZ cY q7_ (aj bH):=⟨rfl,rfl,rfl,ψ,rfl,ψ,ψ⟩
theorem oV:NM_ cY bH 0 "stretches":=.of ψ
theorem yp:NM_ cY bH 1 "weights":=.of ψ
theorem yo:NM_ cY bH 2 "prices":=.of ψ
theorem iz:NM_ cY bH 3 "numbers":=.of ψ
theorem iy:NM_ cY bH 4 "plans":=.of ψ
theorem iw:NM_ cY bH 5 "run":=.of ψ
theorem oU:NM_ cY bH 6 "ways":=.of ψ
theorem pG:GI_ bH "least_by":=ψ
theorem vC:GI_ bH "len":=ψ
theorem mW:GI_ bH "runs_of_row":=ψ
theorem mV:GI_ bH "ways_of_run":=ψ
theorem BP:Bn "leasts_of_runs" := ⟨ψ,ψ⟩
abbrev fG:List Str:=["stretches","weights","prices","numbers","plans","whole"]
abbrev cg:Stmt:=top 27
theorem jx:aZ fG q7_ (aj cg):=⟨rfl,rfl,rfl,ψ,rfl,ψ,ψ⟩
theorem qy:NM_ fG cg 0 "stretches":=.of ψ
theorem Ae:NM_ fG cg 1 "weights":=.of ψ
theorem Ad:NM_ fG cg 2 "prices":=.of ψ
theorem qx:NM_ fG cg 3 "numbers":=.of ψ
theorem qw:NM_ fG cg 4 "plans":=.of ψ
theorem lu:NM_ fG cg 5 "whole":=.of ψ
theorem lH:GI_ cg "leasts_of_runs":=ψ
theorem wK:GI_ cg "len":=ψ
theorem Dj:Bn "least_in_runs" := ⟨ψ,ψ⟩
theorem Lk(hB:∀x:Str,x∈BLs->mg x=Is)(CRunsOfRow:Cal P w K mg base "runs_of_row" 1 ["many"] Q7)(CWaysOfRun:Cal P w K mg base "ways_of_run" 4 q12_ Oh)(CLeastBy:Cal P w K mg base "least_by" 2 q19_ KH)(F:Fun K "leasts_of_runs" "leasts_of_runs" bH f fd):cQ P w K mg base CX0 6 f fd q7_ DR:=by
 refine F.okz fQ λcdv A outer s H vs Q E hr h=>?_;obtain⟨sa,wa,t,xs,ok,ss,ws,zs,rfl,es,ts,h1,h60,ew,hwl,h5,q⟩:=h;refine⟨_,(aD (aX iz fQ.nd K4 Z (.inl Z))
  (aD (aX iy fQ.nd K4 Z (.inl Z))
  (aD (jm Cb Z (cj (bw CRunsOfRow (hr.mono δ) mW Kc (ak (bW bM vC (hB "len" eV) B1 eY (ak (ao oV) aB Z) Z Z) aB Z) Z Z)) (cV iw fQ.nd (.inl Z))
  (aD (aX oU fQ.nd (bw CWaysOfRun (hr.mono δ) mV J9 (ak (ao oV) (ak (ao yp) (ak (ao yo) (ak (ao iw) aB Z) Z) Z) Z) Z Z) Z (.inl Z))
  (aL (nQ (bw CLeastBy (hr.mono δ) pG Tw (ak (ao oU) (ak (ao iz) (ak (ao iy) aB Z) Z) Z) Z Z) (fj (n:=2) Z (aQ (O2 (ao iz) (ao iw) (U7 hr.gG)) (aQ (O2 (ao iy) (ao iw) (U7 hr.gG)) cR Z) Z) Z Z) Z Z Z))) (λ_=>rfl))
  (aL (aV (bF (ak (ao iz) (ak (ao iy) aB Z) Z))))))),?_⟩
 have tsl:=ts.length;rw[AE] at tsl;refine aN λk hk=>?_;push_cast;refine λnd hnd=>?_;subst hk;have sA:=au (o:=BY []) hnd;have eA:upd H nd (BY []) nd=GT (BY []):=aA;generalize upd H nd (BY [])=HA at sA eA |-;refine aN λk hk=>?_;push_cast;refine λpd hpd=>?_;subst hk;have sB:=au (o:=BY []) hpd;have eB:upd HA pd (BY []) pd=GT (BY []):=aA;have hne:nd≠pd:=(aF eA hpd);have epn:=sA.none hpd;have eAB:=sB _ _ eA;have sAB:=sA.trans sB;generalize upd HA pd (BY [])=HB at sB eB eAB sAB |-;refine aN λk hk=>?_;refine mX λR hR=>?_;push_cast;have esB:=sAB _ _ es;push_cast[esB];refine⟨ss.length,by rw[tsl],h60,λr rs HC sC hr0 er tr=>?_⟩;push_cast[er];have sHC:=sAB.trans sC;have hno:∀{a:ID}{o:HO},H a=GT o->a≠nd/\a≠pd:=λe=>⟨aF e hnd,aF e epn⟩;have eC1:=sC _ _ eAB;have eC2:=sC _ _ eB;have trD:=tr.ad9 eC1 eC2;have trl:=tr.length;rw[AE] at trl;have hrl:=tD ss.length ss.length h60;have hr1:r≠nd/\r≠pd:=⟨(aF eAB hr0).symm,(aF eB hr0).symm⟩;obtain⟨Pv,hPv⟩:∃Pv:Nat->L2.St->Hp->Prop,Pv=λi σ H'=>∃(o4 o5:Option V)(N:Nat->Nat->Int)(T:Nat->Nat->Pl)(kn kp:List (List Key×V)),qN nd pd HC H'/\Kl ss ws zs H' nd pd i (λp=>p∈(gH ss.length ss.length).take i) N T kn kp/\σ=[GT (.ref sa),GT (.ref wa),GT (.ref t),GT (.ref nd),GT (.ref pd),o4,o5]:=⟨_,rfl⟩;refine Es hR (xs:=rs) Pv (by rw[hPv];exact⟨_,_,λ_ _=>0,λ_ _=>.tab,[],[],λ_ _ _ _ e=>e,⟨eC1,eC2,AU _,AU _,λ_ h=>(nomatch h),λ_ h=>(nomatch h),λ_ h=>(nomatch h),λ_ h=>(nomatch h)⟩,rfl⟩) ?_ ?_ ?_
 ·intro i σ H2 _ pv;rw[hPv] at pv;obtain⟨_,_,_,_,_,_,b2,_⟩:=pv;exact SqL.of (b2 _ _ hr1.1 hr1.2 er)
 ·intro i y σ H2 hy pv;rw[hPv] at pv;obtain⟨o4,o5,N,T,kn,kp,b2,rt,rfl⟩:=pv;have hil:i<rs.length:=(AM.mp hy).1;obtain⟨d,hd,td⟩:=trD.get hy;rw[AQ] at hd;obtain⟨⟨a,b⟩,hp,rfl⟩:=BU.mp hd;obtain⟨rp,rfl,erp⟩:=sZ (b2.tree td);dsimp only at erp;obtain⟨hab,hbn⟩:=fZ.mp (BB hp);dsimp only at hab hbn;have tb:=Y0 (Rb ss.length) hp;have s02:Same H H2:=b2.of sHC hnd epn;push_cast;refine⟨sa,wa,t,rp,a,b,xs,ok,ss,ws,zs,rfl,s02 _ _ es,ts.same s02,h60,s02 _ _ ew,hwl,⟨s02 _ _ h5.1,h5.2⟩,erp,hab,hbn,λwr ys W H3 s3 hwr ewr hW hWn tW hyl=>?_⟩;have rt3:=rt.same s3;have inD:∀x,m5 ss ws zs a b x->∀p∈x.2.2,p∈(gH ss.length ss.length).take i:=λx hx p hp'=>by
   obtain⟨g1,g2,g3,g4⟩:=Iu hx p hp';exact(tb p).mpr ⟨fZ.mpr ⟨g2,ω⟩,by unfold bfR;show a<p.1\/(a=p.1/\p.2<b);omega⟩
  refine⟨(N,λi j=>plD (T i j)),wr,nd,pd,λx=>x≠nd/\x≠pd,ys,W,kn,kp,rfl,⟨ewr,tW.ad9 rt3.en rt3.ep,ω,rt3.en,λx hx p hp'=>rt3.num p (inD x ((hW x).mp hx) p hp'),λx hx=>YH ((hW x).mp hx)⟩,aeN rt3.en rt3.ep,rt3.ep,λx hx p hp'=>rt3.pln p (inD x ((hW x).mp hx) p hp'),hWn,λv x H4 s4 hxW hle tv=>?_⟩;obtain⟨pl,epl,gpl⟩:=T6 hab hbn ((hW x).mp hxW) λp hp'=>rt3.good p (inD x ((hW x).mp hxW) p hp');rw[epl] at tv;have rt4:=rt3.same s4;have erp4:=s4 _ _ (s3 _ _ erp);cases tv with
  | tup ot et zt tt=>
   cases tt with
   | cons tc tt=>
    cases tt with
    | cons tv tt=>
     cases tt;cases tc;push_cast[et];rename_i va;have hli:i<=3660:=ω;have ln4:=rt4.ln;have lp4:=rt4.lp;have hpb:pd≠nd:=BC hne;refine⟨nd,_,rfl,rT.k2 rt4.en erp4 (wW ω),?_⟩;have ep5:upd H4 nd (BY (putK kn (key2 (a:Int) (b:Int)) (As (nq N x)))) pd=GT (BY kp):=by rw[aJ hpb];exact rt4.ep
     have erp5:upd H4 nd (BY (putK kn (key2 (a:Int) (b:Int)) (As (nq N x)))) rp=GT (By [As (a:Int),As (b:Int)]):=by rw[aJ (Pj erp4 rt4.en (λz=>by cases z))];exact erp4
     refine⟨pd,_,rfl,rT.k2 ep5 erp5 (wW ω),?_⟩;have htk:=take_snoc hp;have hmem:∀p,p∈(gH ss.length ss.length).take (i+1)↔p∈(gH ss.length ss.length).take i\/p=(a,b):=λp=>by
      rw[htk,Cf,AL]
     obtain⟨N',T',rt5⟩:=rt4.step (a:=a) (b:=b) (c:=nq N x) (pl:=pl) (v:=va) (D':=λp=>p∈(gH ss.length ss.length).take (i+1)) hne (λz=>by have:=((tb _).mp z).2;unfold bfR at this;dsimp only at this;omega) hmem (λp hp' i2 j2 g1 g2 g3 g4=>by
      refine(tb _).mpr ⟨fZ.mpr ?_,?_⟩
      ·rcases(hmem p).mp hp' with z|rfl
       ·have:=fZ.mp ((tb p).mp z).1;exact⟨g2,by show j2<=_;omega⟩
       exact⟨g2,by show j2<=_;dsimp only at g3;omega⟩
      rcases(hmem p).mp hp' with z|rfl
      ·have:=((tb p).mp z).2;unfold bfR at this |-;dsimp only at this |-;omega
      unfold bfR;dsimp only at g1 g3 g4 |-;omega) gpl ⟨⟨x,(hW x).mp hxW,rfl⟩,λy hy=>hle y ((hW y).mpr hy)⟩ tv
     rw[hPv];exact⟨_,_,N',T',_,_,((b2.trans s3).trans s4).put,rt5,rfl⟩
 intro σ H2 pv;rw[hPv] at pv;obtain⟨o4,o5,N,T,kn,kp,b2,rt,rfl⟩:=pv;rw[trl,EI] at rt;show k _ H2;subst hk;push_cast;refine⟨aM δ,λp hp=>?_⟩;have s3:=au (o:=By [AS nd,AS pd]) hp;have rt3:=rt.same s3;refine q p nd pd _ _ N T kn kp ((b2.of sHC hnd epn).trans s3) aA ⟨rt3.en,rt3.ep,rt3.ln,rt3.lp,λp hp'=>rt3.num p (fZ.mpr hp'),λp hp'=>rt3.pln p (fZ.mpr hp'),λp hp'=>rt3.good p (fZ.mpr hp'),λp hp'=>rt3.lst p (fZ.mpr hp')⟩
theorem Ln(hB:∀x:Str,x∈BLs->mg x=Is)(CLeastsOfRuns:Cal P w K mg base "leasts_of_runs" 6 q7_ DR)(F:Fun K "least_in_runs" "least_in_runs" cg f fd):cQ P w K mg base CX0 8 f fd q7_ zc:=by
 refine F.okz jx λcdv A outer s H vs Q E hr h=>?_;obtain⟨sa,wa,t,xs,ok,ss,ws,zs,rfl,es,ts,h1,h60,ew,hwl,h5,q⟩:=h;refine⟨_,(aD (nQ (bw CLeastsOfRuns (hr.mono δ) lH BP (ak (ao qy) (ak (ao Ae) (ak (ao Ad) aB Z) Z) Z) Z Z) (fj (n:=2) Z (aQ (cV qx jx.nd (.inl Z)) (aQ (cV qw jx.nd (.inl Z)) cR Z) Z) Z Z) Z Z Z)
  (aD (aX lu jx.nd (bF (ak aq (ak (bW bM wK (hB "len" eV) B1 eY (ak (ao qy) aB Z) Z Z) aB Z) Z)) Z (.inl Z))
  (aL (aV (bF (ak (pX hr.gG (ao qx) (ao lu) (λ_ _=>rfl)) (ak (pX hr.gG (ao qw) (ao lu) (λ_ _=>rfl)) aB Z) Z)))))),?_⟩
 have tsl:=ts.length;rw[AE] at tsl;refine aN λk hk=>?_;push_cast;refine⟨sa,wa,t,xs,ok,ss,ws,zs,rfl,es,ts,h1,h60,ew,hwl,h5,λr nd pd H1 m N T kn kp s1 er rt=>?_⟩;have es1:=s1 _ _ es;push_cast[er];subst hk;refine aN λk hk=>?_;push_cast[es1];refine⟨aM δ,λp hp=>?_⟩;rw[tsl];have s2:=au (o:=By [As 0,As (ss.length:Int)]) hp;have e2:upd H1 p (By [As 0,As (ss.length:Int)]) p=GT (By [As ((0:Nat):Int),As (ss.length:Int)]):=aA;generalize upd H1 p (By [As 0,As (ss.length:Int)])=H2 at s2 e2 |-;subst hk;have rt2:=rt.same s2;have d0:(λp:Nat×Nat=>p.1<p.2/\p.2<=ss.length) (0,ss.length):=⟨by show 0<ss.length;omega,AU _⟩;obtain⟨v,ev,tv⟩:=rt2.pln _ d0;push_cast[rdA];refine⟨nd,_,rfl,lF.k2 rt2.en e2 (rt2.num _ d0),?_⟩;refine⟨pd,_,rfl,lF.k2 rt2.ep e2 ev,aM δ,λp3 hp3=>?_⟩;have s3:=au (o:=By [As (N 0 ss.length),v]) hp3;exact q p3 v _ N (T 0 ss.length) ((s1.trans s2).trans s3) aA ((tv.same s3).keep λa o _ e=>⟨trivial,e⟩) (rt2.good _ d0) λp h1 h2=>rt2.lst p ⟨h1,h2⟩
abbrev cX:List Str:=["_law_tape_here","_law_many","_law_low","_law_labels","_law_found","_law_k","_law_far","_law_wide","_law_label"]
abbrev bN:Stmt:=top 32
theorem b8:aZ cX q0_ (aj bN):=⟨rfl,rfl,rfl,ψ,rfl,ψ,ψ⟩
theorem bU:NM_ cX bN 0 "_law_tape_here":=.of ψ
theorem Cy:NM_ cX bN 1 "_law_many":=.of ψ
theorem gW:NM_ cX bN 2 "_law_low":=.of ψ
theorem jy:NM_ cX bN 3 "_law_labels":=.of ψ
theorem gU:NM_ cX bN 4 "_law_found":=.of ψ
theorem Cw:NM_ cX bN 5 "_law_k":=.of ψ
theorem rZ:NM_ cX bN 6 "_law_far":=.of ψ
theorem gR:NM_ cX bN 7 "_law_wide":=.of ψ
theorem gQ:NM_ cX bN 8 "_law_label":=.of ψ
theorem bB:GI_ bN "_law_take":=ψ
theorem yw:GI_ bN "max":=ψ
theorem vA:GI_ bN "range":=ψ
theorem Hh:Bn "_law_stretches" := ⟨ψ,ψ⟩
theorem acQ(hB:∀x:Str,x∈BLs->mg x=Is)(CZTake:Cal P w K mg base "_law_take" 2 q0_ (nG 2))(F:Fun K "_law_stretches" "_law_stretches" bN f fd):cQ P w K mg base CX0 3 f fd q0_ KD:=by
 refine F.okz b8 λcdv A outer s H vs Q E hr h=>?_;obtain⟨p,m,B,rfl,tp,hB0,hB1,hm1,hm2,q⟩:=h;refine⟨_,(aD (aX gW b8.nd (aK aU (cF (ak aq (ak (aP lg (bw CZTake (hr.mono δ) bB cJ (ak (ao bU) (ak aq aB Z) Z) Z Z) aq) (ak (aP lg (bw CZTake (hr.mono δ) bB cJ (ak (ao bU) (ak (aP tL aq aq) aB Z) Z) Z Z) (aP tL aq aq)) (ak (aP lg aq (aP acJ aq aq)) aB Z) Z) Z) Z)) (bw CZTake (hr.mono δ) bB cJ (ak (ao bU) (ak aq aB Z) Z) Z Z) (λ_ _=>rfl)) Z (.inl Z))
  (aD (aX jy b8.nd (aP aY aq (bw CZTake (hr.mono δ) bB cJ (ak (ao bU) (ak aq aB Z) Z) Z Z)) Z (.inl Z))
  (aD (aX gU b8.nd (cF aB) Z (.inl Z))
  (aD (jm Cb Z (mG vA (hB "range" fH) (ak (ao Cy) aB Z) Z) (cV Cw b8.nd (.inl Z))
  (aD (aX rZ b8.nd (aK aU (cF (ak (aP tL aq aq) (ak (aP tL aq aq) aB Z) Z)) (bw CZTake (hr.mono δ) bB cJ (ak (ao bU) (ak aq aB Z) Z) Z Z) (λ_ _=>rfl)) Z (.inl Z))
  (aD (aX gR b8.nd (cF (ak aq (ak aq (ak aq (ak (aP aY aq (bw CZTake (hr.mono δ) bB cJ (ak (ao bU) (ak aq aB Z) Z) Z Z)) (ak (aP aY aq (bw CZTake (hr.mono δ) bB cJ (ak (ao bU) (ak aq aB Z) Z) Z Z)) (ak (aP aY aq (bw CZTake (hr.mono δ) bB cJ (ak (ao bU) (ak (ao rZ) aB Z) Z) Z Z)) aB Z) Z) Z) Z) Z) Z)) Z (.inl Z))
  (aD (aX gR b8.nd (aK aU (ao gR) (bW (Fd Z) yw (hB "max" W3) boot_max Yn (ak aq (ak (aP lg (bw CZTake (hr.mono δ) bB cJ (ak (ao bU) (ak aq aB Z) Z) Z Z) aq) aB Z) Z) Z Z) (λ_ _=>rfl)) Z (.inl Z))
  (aD (aX gQ b8.nd (bw CZTake (hr.mono δ) bB cJ (ak (ao bU) (ak (ao jy) aB Z) Z) Z Z) Z (.inl Z))
  (aD (dh (Gg (K1 (bh (Wj hr.bD) (ao gU) (cF aB) (aR _)) (Gf (bh (bT hr.bD) (aK aU (aK aU (ao gU) (wZ pJ aq) (λ_ _=>rfl)) aq (λ_ _=>rfl)) (ao gQ) (aR _))))) (aL (aX gQ b8.nd (aP jN (aP aY (aP aY (ao gQ) aq) (bw CZTake (hr.mono δ) bB cJ (ak (ao bU) (ak (aP lg (ao jy) aq) aB Z) Z) Z Z)) (ao jy)) Z (.inl Z))) cu)
  (aD (iU (nR (ao gU) (bF (ak (ao gW) (ak (aP lg (aP aY (ao gW) (ao gR)) aq) (ak (ao gQ) aB Z) Z) Z)) Z Z Z Z Z) Z)
  (aL (aX gW b8.nd (aP aY (ao gW) (ao gR)) Z (.inl Z))))))))) (λ_=>rfl))
  (aL (aV (ao gU))))))),?_⟩
 refine aN λk hk=>?_;push_cast;refine⟨p,100,B,rfl,tp,by show B+2<=1000100;omega,δ,δ,δ,λz=>absurd z δ,λr1 H1 r10 r11 s1 tp1=>?_⟩;push_cast;refine⟨⟨δ,δ,δ⟩,?_⟩;refine⟨p,10^9,B+2,rfl,tp1,by show B+2+2<=1000100;omega,δ,δ,δ,λz=>by decide,λr2 H2 r20 r21 s2 tp2=>?_⟩;push_cast[Int.one_mul];refine⟨⟨δ,δ,δ⟩,?_⟩;refine⟨⟨δ,δ,δ⟩,aM δ,λl0 hl0=>?_⟩;have s3:=au (o:=AT [As 0,As (r1-50),As (r2-10^B7 8),As (0-2^B7 39)]) hl0;have tp3:=tp2.same s3;have n3:=tp2.ne hl0;have e3:upd H2 l0 (AT [As 0,As (r1-50),As (r2-10^B7 8),As (0-2^B7 39)]) l0=_:=aA;generalize upd H2 l0 (AT [As 0,As (r1-50),As (r2-10^B7 8),As (0-2^B7 39)])=H3 at s3 tp3 e3 |-;refine⟨p,4,B+2+2,rfl,tp3,by show B+2+2+2<=1000100;omega,δ,δ,δ,λz=>absurd z δ,λr4 H4 r40 r41 s4 tp4=>?_⟩;obtain⟨lo,hlo,elo⟩:=mK (is:=[0,r1-50,r2-10^B7 8,0-2^B7 39]) r40 r41;replace elo:atI [As 0,As (r1-50),As (r2-10^B7 8),As (0-2^B7 39)] r4=GT (.int lo):=elo;have e4:=s4 _ _ n3 e3;have blo:-(10^12)<=lo/\lo<=10^9:=by
  simp only[A1,BA,or_false] at hlo;have:(10:Int)^B7 8=100000000:=by decide
  have:(2:Int)^B7 39=549755813888:=by decide
  rcases hlo with z|z|z|z <;> omega
 have sx4:bY p H H4:=((s1.trans s2).trans s3.x).trans s4;push_cast[e4,elo];subst hk;refine aN λk hk=>?_;push_cast;refine⟨p,4,B+2+2+2,rfl,tp4,by show B+2+2+2+2<=1000100;omega,δ,δ,δ,λz=>absurd z δ,λr5 H5 r50 r51 s5 tp5=>?_⟩;push_cast;subst hk;refine aN λk hk=>?_;push_cast;refine⟨aM δ,λl hl=>?_⟩;have sx5:=sx4.trans s5;have hlp:l≠p:=tp5.ne hl;have Hl:H l=Is:=(Br sx5 tp5 hl).2;have s6:=au (o:=AT []) hl;have tp6:=tp5.same s6;have e6:upd H5 l (AT []) l=_:=aA;generalize upd H5 l (AT [])=H6 at s6 tp6 e6 |-;have sx6:=sx5.trans s6.x;subst hk;obtain⟨OD,hOD⟩:∃OD:ID->Prop,OD=λa=>a≠p/\a≠l:=⟨_,rfl⟩;have kd:∀{H H':Hp},bY p H H'->∀a o,OD a->H a=GT o->OD a/\H' a=GT o:=λ{H H'} sx a o h e=>by
  refine⟨h,sx a o ?_ e⟩;rw[hOD] at h;exact h.1
 refine aN λk hk=>?_;refine mX λR hR=>?_;push_cast[Aq];refine⟨ω,ω,?_⟩;obtain⟨Pv,hPv⟩:∃Pv:Nat->L2.St->Hp->Prop,Pv=λ(i:Nat) σ H'=>∃(xs:List V)(ss:List (Int×Int×Int)) (lo:Int) (o5 o6 o7 o8:Option V),bY p H H'/\bQ H' p (B+8+18*(i:Int))/\H' l=GT (.lst xs)/\aG OD H' xs (ss.map stD)/\ss.length=i/\rR ss /\
  (∀s,ss[ss.length-1]?=GT s->lo=s.2.1+1)/\(∀s,ss[0]?=GT s->s.1<=10^9)/\-(10^12)<=lo/\lo<=10^9+(10^12+10)*(i:Int)/\σ=[GT (.ref p),GT (.int m),GT (.int lo),GT (.int (2+r5)),GT (.ref l),o5,o6,o7,o8]:=⟨_,rfl⟩
 refine XC hR Pv (by rw[hPv];exact⟨[],[],lo,_,_,_,_,sx6,tp6.le (by show B+2+2+2+2<=B+8+18*((0:Nat):Int);omega),e6,.nil,rfl,rR.nil,λs h=>(by cases h),λs h=>(by cases h),blo.1,by show lo<=10^9+(10^12+10)*((0:Nat):Int);omega,rfl⟩) ?_ ?_
 ·intro i σ H7 hi pv;rw[hPv] at pv;obtain⟨xs,ss,lo,o5,o6,o7,o8,sx7,tp7,e7,ts7,hsl,row,hlast,hfst,bl1,bl2,rfl⟩:=pv;have hi60:i<60:=ω;refine aN λk2 hk2=>?_;push_cast;refine⟨⟨δ,δ,δ⟩,⟨δ,δ,δ⟩,aM δ,λl1 hl1=>?_⟩;have s8:=au (o:=AT [As (10^B7 9),As (10^B7 12)]) hl1;have tp8:=tp7.same s8;have n8:=tp7.ne hl1;have e8:=s8 _ _ e7;have ts8:=ts7.same s8;have e81:upd H7 l1 (AT [As (10^B7 9),As (10^B7 12)]) l1=_:=aA;generalize upd H7 l1 (AT [As (10^B7 9),As (10^B7 12)])=H8 at s8 tp8 e8 ts8 e81 |-;have sx8:=sx7.trans s8.x;refine⟨p,2,B+8+18*(i:Int),rfl,tp8,by show B+8+18*(i:Int)+2<=1000100;omega,δ,δ,δ,λz=>absurd z δ,λr9 H9 r90 r91 s9 tp9=>?_⟩;obtain⟨far,hfar,efar⟩:=mK (is:=[10^B7 9,10^B7 12]) r90 r91;replace efar:atI [As (10^B7 9),As (10^B7 12)] r9=GT (.int far):=efar;have e91:=s9 _ _ n8 e81;have e9:=s9 _ _ hlp e8;have ts9:=ts8.keep (kd s9);have sx9:=sx8.trans s9;have bfar:10^9<=far/\far<=10^12:=by
   simp only[A1,BA,or_false] at hfar;have:(10:Int)^B7 9=1000000000:=by decide
   have:(10:Int)^B7 12=1000000000000:=by decide
   rcases hfar with z|z <;> omega
  push_cast[e91,efar];subst hk2;refine aN λk2 hk2=>?_;push_cast;refine⟨p,4,B+8+18*(i:Int)+2,rfl,tp9,by show B+8+18*(i:Int)+2+2<=1000100;omega,δ,δ,δ,λz=>absurd z δ,λu1 H10 u10 u11 s10 tp10=>?_⟩;push_cast;refine⟨p,30,B+8+18*(i:Int)+2+2,rfl,tp10,by show B+8+18*(i:Int)+2+2+2<=1000100;omega,δ,δ,δ,λz=>absurd z δ,λu2 H11 u20 u21 s11 tp11=>?_⟩;push_cast;refine⟨p,far,B+8+18*(i:Int)+2+2+2,rfl,tp11,by show B+8+18*(i:Int)+2+2+2+2<=1000100;omega,ω,ω,δ,λ_=>by decide,λu3 H12 u30 u31 s12 tp12=>?_⟩;push_cast;refine⟨aM δ,λl2 hl2=>?_⟩;have e12:=s12 _ _ hlp (s11 _ _ hlp (s10 _ _ hlp e9));have ts12:=((ts9.keep (kd s10)).keep (kd s11)).keep (kd s12);have sx12:=((sx9.trans s10).trans s11).trans s12;have s13:=au (o:=AT [As 1,As 1,As 1,As (2+u1),As (2+u2),As (1+u3)]) hl2;have tp13:=tp12.same s13;have n13:=tp12.ne hl2;have e13:=s13 _ _ e12;have ts13:=ts12.same s13;have e132:upd H12 l2 (AT [As 1,As 1,As 1,As (2+u1),As (2+u2),As (1+u3)]) l2=_:=aA;generalize upd H12 l2 (AT [As 1,As 1,As 1,As (2+u1),As (2+u2),As (1+u3)])=H13 at s13 tp13 e13 ts13 e132 |-;have sx13:=sx12.trans s13.x;subst hk2;refine aN λk2 hk2=>?_;push_cast;refine⟨p,11,B+8+18*(i:Int)+2+2+2+2,rfl,tp13,by show B+8+18*(i:Int)+2+2+2+2+2<=1000100;omega,δ,δ,δ,λz=>absurd z δ,λu4 H14 u40 u41 s14 tp14=>?_⟩;have e14:=s14 _ _ hlp e13;have ts14:=ts13.keep (kd s14);have sx14:=sx13.trans s14;have e142:=s14 _ _ n13 e132;have bu:0<=(if u4-5>0 then u4-5 else 0)/\(if u4-5>0 then u4-5 else 0)<6:=by split <;> omega
  obtain⟨wide,hwide,ewide⟩:=mK (is:=[1,1,1,2+u1,2+u2,1+u3]) bu.1 bu.2;replace ewide:atI [As 1,As 1,As 1,As (2+u1),As (2+u2),As (1+u3)] (if u4-5>0 then u4-5 else 0)=GT (.int wide):=ewide;have bwide:1<=wide/\wide<=10^12:=by
   simp only[A1,BA,or_false] at hwide;rcases hwide with z|z|z|z|z|z <;> omega
  push_cast[e142,ewide];subst hk2;refine aN λk2 hk2=>?_;push_cast;refine⟨p,2+r5,B+8+18*(i:Int)+2+2+2+2+2,rfl,tp14,by show B+8+18*(i:Int)+2+2+2+2+2+2<=1000100;omega,ω,ω,δ,λz=>absurd z ω,λlab H15 lab0 lab1 s15 tp15=>?_⟩;have e15:=s15 _ _ hlp e14;have ts15:=ts14.keep (kd s15);have sx15:=sx14.trans s15;push_cast;subst hk2;refine aN λk2 hk2=>?_;have rest:∀(b:Int) H16 o5 o6,0<=b->b<=9->bY p H H16->H16 l=GT (.lst xs)->aG OD H16 xs (ss.map stD)->bQ H16 p (B+8+18*(i:Int)+14)->k2 [GT (.ref p),GT (.int m),GT (.int lo),GT (.int (2+r5)),GT (.ref l),o5,o6,GT (.int wide),GT (.int b)] H16:=by
   intro b H16 o5 o6 b0 b9 sx16 e16 ts16 tp16;subst hk2;refine aN λk3 hk3=>?_;push_cast[e16];refine⟨aM δ,λt ht=>?_⟩;have s17:=au (o:=By [As lo,As (lo+wide-1),As b]) ht;have e17:=s17 _ _ e16;have tp17:=tp16.same s17;have ts17:=ts16.same s17;have nt:t≠p:=tp16.ne ht;have nl:t≠l:=(aF e16 ht).symm;have et:upd H16 t (By [As lo,As (lo+wide-1),As b]) t=_:=aA;generalize upd H16 t (By [As lo,As (lo+wide-1),As b])=H17 at s17 e17 tp17 ts17 et |-;have hxl:=ts17.length;rw[AE] at hxl;push_cast[e17];refine⟨BS (show xs.length<1000000 by omega) (aM (AU _)),?_⟩;have sx18:bY p H (upd H17 l (AT (xs++[AS t]))):=Ra (sx16.trans s17.x) Hl;have tp18:bQ (upd H17 l (AT (xs++[AS t]))) p (B+8+18*(i:Int)+14):=tp17.upd hlp;have e18:upd H17 l (AT (xs++[AS t])) l=_:=aA;have kk:∀a o,OD a->H17 a=GT o->OD a/\upd H17 l (AT (xs++[AS t])) a=GT o:=λa o h e=>by
    refine⟨h,?_⟩;rw[hOD] at h;rw[aJ h.2];exact e
   have tt:aH OD H17 (.ref t) (stD (lo,lo+wide-1,b)):=.tup (by rw[hOD];exact⟨nt,nl⟩) et (by show 3<=1000000;decide) (.cons (.int _) (.cons (.int _) (.cons (.int _) .nil)));have ts18:=(ts17.keep kk).append (.cons (tt.keep kk) .nil);generalize upd H17 l (AT (xs++[AS t]))=H18 at sx18 tp18 e18 ts18 |-;subst hk3;push_cast;rw[hPv];refine⟨_,ss++[(lo,lo+wide-1,b)],lo+wide,_,_,_,_,sx18,tp18.le (by show B+8+18*(i:Int)+14<=B+8+18*((i+1:Nat):Int);omega),e18,by rw[A6];exact ts18,by rw[AV,BG,hsl],row.snoc ω ⟨b0,b9⟩ ⟨bl1,by rw[hsl];omega⟩ hlast,λs hs=>?_,λs hs=>?_,ω,by show lo+wide<=10^9+(10^12+10)*((i+1:Nat):Int);omega,rfl⟩
   ·rw[AV,BG,IQ,B8 (AU _),IP] at hs;cases hs;show lo+wide=lo+wide-1+1;omega
   cases ss with
   | nil=>
    cases hs;show lo<=10^9;have:i=0:=hsl.symm;subst this;omega
   | cons s0 ss0=>exact hfst s hs
  refine jH λkt ke hkt hke=>?_;push_cast;refine⟨aM δ,λl3 hl3=>?_⟩;have s16:=au (o:=AT []) hl3;refine⟨_,_,xs,rfl,rfl,s16 _ _ e15,aA,?_⟩;have e16:=s16 _ _ e15;have ts16:=ts15.same s16;have sx16:=sx15.trans s16.x;have tp16:=tp15.same s16;generalize upd H15 l3 (AT [])=H16 at s16 e16 ts16 sx16 tp16 |-;have hxl:=ts16.length;rw[AE] at hxl;cases hx:xs.isEmpty with
  | true=>
   push_cast;subst hke;push_cast;exact rest lab H16 _ _ lab0 ω sx16 e16 ts16 (tp16.le (by show B+8+18*(i:Int)+2+2+2+2+2+2<=_;omega))
  | false=>
   have hpos:1<=xs.length:=by
    cases xs with
    | nil=>cases hx
    | cons a b=>simp
   obtain⟨j,x,hxj,hxl2⟩:=aaU xs hpos;obtain⟨ax,sx,rfl,okx,hsx,ex⟩:=ts16.st hxj;push_cast[e16,hxl2,ex];split
   ·subst hkt;push_cast;refine⟨p,2+r5-1,B+8+18*(i:Int)+2+2+2+2+2+2,rfl,tp16,by show B+8+18*(i:Int)+2+2+2+2+2+2+2<=1000100;omega,ω,ω,δ,λz=>absurd z ω,λu6 H17 u60 u61 s17 tp17=>?_⟩;push_cast;refine⟨ω,?_⟩;have h1:=F4 (lab+1+u6) (show(2+r5:Int)≠0 by omega);have h2:=EX (lab+1+u6) (show(0:Int)<2+r5 by omega);exact rest _ H17 _ _ h1 ω (sx16.trans s17) (s17 _ _ hlp e16) (ts16.keep (kd s17)) (tp17.le (by show B+8+18*(i:Int)+2+2+2+2+2+2+2<=_;omega))
   subst hke;push_cast;exact rest lab H16 _ _ lab0 ω sx16 e16 ts16 (tp16.le (by show B+8+18*(i:Int)+2+2+2+2+2+2<=_;omega))
 intro σ H7 pv;rw[hPv] at pv;obtain⟨xs,ss,lo,o5,o6,o7,o8,sx7,tp7,e7,ts7,hsl,row,hlast,hfst,bl1,bl2,rfl⟩:=pv;show k _ _;subst hk;push_cast;have hxl:=ts7.length;rw[AE] at hxl;refine q l ss H7 sx7 (tp7.le ω) (.lst hlp e7 ω (ts7.keep λa o h e=>?_)) ω row hfst;rw[hOD] at h;exact⟨h.1,e⟩
abbrev Km:List Str:=["_law_stretches_here","_law_plan","_law_place","_law_found"]
abbrev wX:Stmt:=top 35
theorem zF:aZ Km q11_ (aj wX):=⟨rfl,rfl,rfl,ψ,rfl,ψ,ψ⟩
theorem Pk:NM_ Km wX 0 "_law_stretches_here":=.of ψ
theorem eF:NM_ Km wX 1 "_law_plan":=.of ψ
theorem yM:NM_ Km wX 2 "_law_place":=.of ψ
theorem Gp:NM_ Km wX 3 "_law_found":=.of ψ
theorem Ss:GI_ wX "int":=ψ
theorem adt:Bn "_law_way" := ⟨ψ,ψ⟩
theorem acP(hB:∀x:Str,x∈BLs->mg x=Is)(F:Fun K "_law_way" "_law_way" wX f fd):cQ P w K mg base CX0 1 f fd q11_ abw:=by
 refine F.okz zF λcdv A outer s H vs Q E hr h=>?_;obtain⟨s,p,k,ok,ss,pl,left,rfl,hn,ts,tp,pok,hk60,hsz,q⟩:=h;refine⟨_,(aD (aX Gp zF.nd (cF aB) Z (.inl Z))
  (aD (uM Cb (bh El (aK aU (ao eF) aq (λ_ _=>rfl)) (bF (ak bC (ak bC aB Z) Z)) (by with_unfolding_all rfl)) (aD (iU (nR (ao Gp) (aK aU (ao eF) aq (λ_ _=>rfl)) Z Z Z Z Z) Z)
  (aL (dh (bh (bT hr.bD) (aK aU (ao eF) aq (λ_ _=>rfl)) bC (aR _)) (aL (aX eF zF.nd (pW (bh xg (ao yM) (aK aU (ao eF) aq (λ_ _=>rfl)) (aR _)) (aK aU (ao eF) aq (λ_ _=>rfl)) (aK aU (ao eF) aq (λ_ _=>rfl))) Z (.inl Z))) (aL (dh (bh (bT hr.bD) (aK aU (ao eF) aq (λ_ _=>rfl)) bC (aR _)) (aL (aX eF zF.nd (pW (bh (bT hr.bD) (aK aU (aK aU (ao Pk) (ao yM) (λ_ _=>rfl)) aq (λ_ _=>rfl)) (aK aU (ao eF) aq (λ_ _=>rfl)) (aR _)) (bF (ak bC (ak (aK aU (ao eF) aq (λ_ _=>rfl)) aB Z) Z)) (aK aU (ao eF) aq (λ_ _=>rfl))) Z (.inl Z))) (aL (aX eF zF.nd (pW (bh (bT hr.bD) (ao yM) (aK aU (ao eF) aq (λ_ _=>rfl)) (aR _)) (bF (ak bC (ak (aK aU (aK aU (ao Pk) (ao yM) (λ_ _=>rfl)) aq (λ_ _=>rfl)) aB Z) Z)) (aK aU (ao eF) aq (λ_ _=>rfl))) Z (.inl Z)))))))))
  (aL (aV (aP aY (ao Gp) (aP cG (cF (ak bC aB Z)) (w6 oJ Ss (hB "int" Aj) boot_int BK (ak (fu (bT hr.bD) (aK aU (ao eF) aq (λ_ _=>rfl)) bC (aR _)) aB Z) Z Z))))))),?_⟩
 refine aN λk1 hk1=>?_;push_cast;refine⟨aM δ,λa ha=>?_⟩;have s0:=au (o:=AT []) ha;have ea:upd H a (AT []) a=_:=aA;generalize upd H a (AT [])=H0 at s0 ea |-;subst hk1;refine aN λk1 hk1=>?_;have ts0:=ts;cases ts with
 | lst os es zs tss=>
  rename_i sa sxs;obtain⟨OD,hOD⟩:∃OD:ID->Prop,OD=λx=>ok x/\x≠a:=⟨_,rfl⟩;obtain⟨Pv,hPv⟩:∃Pv:Nat->L2.St->Hp->Prop,Pv=λm σ H'=>∃(r:Pl)(v:V)(dn:List Nat),m=dw r/\Same H H'/\H' a=GT (.lst (dn.map λi=>At (iH i)))/\aH OD H' v (plD r)/\dY ss k pl=dn++dY ss k r/\dn.length+dw r<=4000/\σ=[GT (.ref sa),GT v,GT (.int (k:Int)),GT (.ref a)]:=⟨_,rfl⟩;refine Ft Pv (dw pl) (by
   rw[hPv];exact⟨pl,p,[],rfl,s0,ea,tp.keep λb o h e=>by rw[hOD];exact⟨⟨h,aF e ha⟩,s0 _ _ e⟩,rfl,by simpa using hsz,rfl⟩) ?_
  intro m σ H1 pv;rw[hPv] at pv;obtain⟨r,v,dn,rfl,s1,e1,tv1,hway,hlen,rfl⟩:=pv;obtain⟨pa,rest,rfl,e⟩:=yK tv1;have e0:atI (At (bR r)::rest) 0=GT (At (bR r)):=at0;push_cast[e,e0];refine⟨aM δ,λt ht=>⟨rfl,rfl,?_⟩⟩;rw[show inV (At (bR r)) [At (A8 "pick"),At (A8 "table")]=endP r from Xm r];have s2:=au (o:=By [At (A8 "pick"),At (A8 "table")]) ht;have e2:=s2 _ _ e;have ea2:=s2 _ _ e1;have tv2:=tv1.same s2;have s02:=s1.trans s2;generalize upd H1 t (By [At (A8 "pick"),At (A8 "table")])=H2 at s2 e2 ea2 tv2 s02 |-;cases ce:endP r with
  | true=>
   rw[if_neg ζ];clear hPv Pv;subst hk1;push_cast[e2,e0,ea2];refine⟨aM δ,λt3 ht3=>?_⟩;have s3:=au (o:=AT [At (A8 "table")]) ht3;have e3:=s3 _ _ e2;have ea3:=s3 _ _ ea2;have et3:upd H2 t3 (AT [At (A8 "table")]) t3=_:=aA;generalize upd H2 t3 (AT [At (A8 "table")])=H3 at s3 e3 ea3 et3 |-;push_cast[e3,e0,et3,ea3];have hq:∀t4,H3 t4=Is->adq (upd H3 t4 (AT (if bR r = "table" then [At "table"] else [])) a) (GT (AT (if bR r = "table" then [At "table"] else []))) (upd H3 t4 (AT (if bR r = "table" then [At "table"] else []))) Q:=λt4 ht4=>by
    have s4:=au (o:=AT (if bR r = "table" then [At "table"] else [])) ht4;rw[s4 _ _ ea3,<- JX ss k ce,NT,<- A6,<- hway];refine⟨aM ?_,λt5 ht5=>?_⟩
    ·rw[AE,AE];have:=X4 ss k ce;have:=mJ r;omega
    rw[JX ss k ce] at ht5 |-;have s14:=(s02.trans s3).trans s4;have h5:=s14.none ht5;exact q _ _ (s14.trans (au ht5)) (hn.new h5) h5 aA
   obtain⟨o1,o2,o3⟩:=K9 (bR r=A8 "table");refine⟨o1,o2,o3,λt4 ht4=>?_⟩;rw[Zj];exact hq t4 ht4
  | false=>
   rw[if_pos ζ];obtain⟨hw,hp⟩:=aaH ss k ce;refine⟨λσ' H'=>∃m',m'<dw r/\Pv m' σ' H',λσ' H' h=>h,?_⟩;push_cast[e2,e0,ea2];refine⟨by rw[AE];exact wW ω,?_⟩;have ew:=YK ce;have hOa:∀x,OD x->x≠a:=λx hx=>by rw[hOD] at hx;exact hx.2
   have na:pa≠a:=hOa _ (abM tv2);have e3:upd H2 a (AT (dn.map (λi=>At (iH i))++[At (bR r)])) pa=_:=(aJ na).trans e2;have ea3:upd H2 a (AT (dn.map (λi=>At (iH i))++[At (bR r)])) a=GT (.lst ((dn++[wI r]).map λi=>At (iH i))):=by rw[aA,A6,<- ew];rfl
   have tv3:aH OD (upd H2 a (AT (dn.map (λi=>At (iH i))++[At (bR r)]))) (.ref pa) (plD r):=tv2.keep λb o' hb e=>⟨hb,by rw[aJ (hOa b hb)];exact e⟩;have s03:Same H (upd H2 a (AT (dn.map (λi=>At (iH i))++[At (bR r)]))):=mC s02 ha;generalize upd H2 a (AT (dn.map (λi=>At (iH i))++[At (bR r)]))=H3 at e3 ea3 tv3 s03 |-;have fin:∀(v':V) H4,Same H3 H4->aH OD H4 v' (plD (nxP ss k r))->∃m',m'<dw r/\Pv m' [GT (AS sa),GT v',GT (As (k:Int)),GT (AS a)] H4:=λv' H4 s4 t4=>by
    refine⟨dw (nxP ss k r),hp,?_⟩;rw[hPv];refine⟨nxP ss k r,v',dn++[wI r],rfl,s03.trans s4,s4 _ _ ea3,t4,?_,?_,rfl⟩
    ·rw[hway,hw,G0];rfl
    rw[AV,BG];omega
   have pk:∀(l:Int) t4,H3 t4=Is->nxP ss k r=.pick l->∃m',m'<dw r/\Pv m' [GT (AS sa),GT (AS t4),GT (As (k:Int)),GT (AS a)] (upd H3 t4 (By [At (A8 "pick"),.int l])):=λl t4 ht4 hl=>fin _ _ (au ht4) (by
    rw[hl];refine .tup ?_ aA (by show 2<=1000000;decide) (.cons (.str _) (.cons (.int _) .nil));rw[hOD];exact⟨hn.new (s03.none ht4),(aF ea3 ht4).symm⟩)
   obtain⟨pk2,xk,yk⟩:=tss.stN hk60;have yk3:=s03 _ _ yk;have es3:=s03 _ _ es;push_cast[e3,e0];by_cases cl:bR r = "below"
   ·cases r with
    | low j r1 r2=>
     obtain⟨p2,vs2,eq2,ep2,tt⟩:=aH.dR tv3;cases eq2;cases tt with
     | cons t1 tt=>
      cases tt with
      | cons t2 tt=>
       cases tt with
       | cons t3 tt=>
        cases tt with
        | cons t4 tt=>
         cases tt;cases t1;cases t2;rw[e3] at ep2;cases ep2;rw[if_pos cl];push_cast[e3];show(if (k:Int)<(j:Int) then _ else _);have hn2:nxP ss k (.low j r1 r2)=if k<j then r1 else r2:=rfl;by_cases c:k<j
         ·rw[if_pos ω];refine fin _ H3 (Same.refl _) ?_;rw[hn2,if_pos c];exact t3
         rw[if_neg ω];refine fin _ H3 (Same.refl _) ?_;rw[hn2,if_neg c];exact t4
    | _=>exact absurd cl (Hr _ λ_ _ _ z=>by cases z)
   rw[if_neg cl];by_cases cm:bR r = "mask"
   ·rw[if_pos cm];cases r with
    | msk l r1=>
     obtain⟨p2,vs2,eq2,ep2,tt⟩:=aH.dR tv3;cases eq2;cases tt with
     | cons t1 tt=>
      cases tt with
      | cons t2 tt=>
       cases tt with
       | cons t3 tt=>
        cases tt;cases t1;cases t2;rw[e3] at ep2;cases ep2;push_cast[es3,xk,yk3,e3];have hn2:nxP ss k (.msk l r1)=if (bJ ss k).2.2=l then .pick l else r1:=rfl;by_cases c:(bJ ss k).2.2=l
        ·rw[if_pos c];rw[if_pos c] at hn2;exact⟨aM δ,λt4 ht4=>pk l t4 ht4 hn2⟩
        rw[if_neg c];rw[if_neg c] at hn2;refine fin _ H3 (Same.refl _) ?_;rw[hn2];exact t3
    | _=>exact absurd cm (Hq _ λ_ _ z=>by cases z)
   rw[if_neg cm];obtain⟨j,r1,u,eu,tu,hnx⟩:=is_full (ss:=ss) (k:=k) tv3 (aeg ce cl cm);rw[e3] at eu;cases eu;push_cast[es3,xk,yk3,e3];by_cases c:k=j
   ·rw[if_pos ω];rw[if_pos c] at hnx;exact⟨aM δ,λt4 ht4=>pk _ t4 ht4 hnx⟩
   rw[if_neg ω];rw[if_neg c] at hnx;refine fin _ H3 (Same.refl _) ?_;rw[hnx];exact tu
abbrev lX:List Str:=["_law_stretches_here","_law_weights_here","_law_prices_here","_law_plan","_law_price","_law_total","_law_place","_law_weight"]
abbrev fU:Stmt:=top 36
theorem qX:aZ lX q6_ (aj fU):=⟨rfl,rfl,rfl,ψ,rfl,ψ,ψ⟩
theorem WM:NM_ lX fU 0 "_law_stretches_here":=.of ψ
theorem WL:NM_ lX fU 1 "_law_weights_here":=.of ψ
theorem WK:NM_ lX fU 2 "_law_prices_here":=.of ψ
theorem WD:NM_ lX fU 3 "_law_plan":=.of ψ
theorem Wz:NM_ lX fU 4 "_law_price":=.of ψ
theorem uV:NM_ lX fU 5 "_law_total":=.of ψ
theorem Jo:NM_ lX fU 6 "_law_place":=.of ψ
theorem Jm:NM_ lX fU 7 "_law_weight":=.of ψ
theorem JF:GI_ fU "_law_way":=ψ
theorem JD:GI_ fU "dict":=ψ
theorem wF:GI_ fU "enumerate":=ψ
theorem M7:GI_ fU "sum":=ψ
theorem MT:GI_ fU "zip":=ψ
theorem abm:Bn "_law_cost" := ⟨ψ,ψ⟩
theorem Wl(hB:∀x:Str,x∈BLs->mg x=Is)(CZWay:Cal P w K mg base "_law_way" 1 q11_ abw)(F:Fun K "_law_cost" "_law_cost" fU f fd):cQ P w K mg base CX0 4 f fd q6_ U3:=by
 refine F.okz qX λcdv A outer s H vs Q E hr h=>?_;obtain⟨s,p,wa,z,ok,ss,ws,zs,pl,rfl,hn,ts,tp,hw,hwl,hz,h5,few,h60,hsz,pok,q⟩:=h;refine⟨_,(aD (aX Wz qX.nd (adQ Z JD (hB "dict" aaP) MT (hB "zip" Mr) (ak (cF (ak bC (ak bC (ak bC (ak bC (ak bC aB Z) Z) Z) Z) Z)) (ak (ao WK) aB Z) Z)) Z (.inl Z))
  (aD (aX uV qX.nd aq Z (.inl Z))
  (aD (jm Cb Z (VN wF (hB "enumerate" GJ) (ak (ao WL) aB Z) Z) (fj (n:=2) Z (aQ (cV Jo qX.nd (.inl Z)) (aQ (cV Jm qX.nd (.inl Z)) cR Z) Z) Z Z)
  (aL (aX uV qX.nd (aP aY (ao uV) (aP cG (ao Jm) (bW (jt Z) M7 (hB "sum" tZ) L1 uo (ak (eE (NX:=lX) (kX:=(aj fU).names) ["_law_word","_law_price"] [Is,GT 4] Z Z ⟨rfl,ψ,ψ,ψ,ψ⟩ Z (cj (bw CZWay (hr.mono δ) JF adt (ak (ao WM) (ak (ao WD) (ak (ao Jo) aB Z) Z) Z) Z Z)) (λ_ _ _ _ _=>(bA 0 (show BN (["_law_word","_law_price"]:List Str) from by decide +kernel) Z (C3 Z))) (λ_ _ _ _ _=>fB) (λ_ _ _ _ _=>(pX hr.gG (bf 1) (bf 0) (λ_ _=>rfl)))) aB Z) Z Z))) Z (.inl Z))) (λ_=>rfl))
  (aL (aV (ao uV)))))),?_⟩
 refine aN λk hk=>?_;push_cast[rdA];refine⟨aM δ,λl0 hl0=>?_⟩;have s0:=au (o:=AT [At "is",At "within",At "below",At "mask",At "table"]) hl0;have e0:upd H l0 (AT [At "is",At "within",At "below",At "mask",At "table"]) l0=_:=aA;generalize upd H l0 (AT [At "is",At "within",At "below",At "mask",At "table"])=H0 at s0 e0 |-;refine⟨l0,z,gj zs,zs.map As,rfl,.inr (SqL.of e0),SqT.of (s0 _ _ hz),Sx ω,by show 0<5;decide,by show 5<=15;decide,λp1 hp1=>?_⟩;have s1:=au (o:=HO.dK (cP [] (gj zs))) hp1;have e1:upd H0 p1 (HO.dK (cP [] (gj zs))) p1=_:=aA;generalize upd H0 p1 (HO.dK (cP [] (gj zs)))=H1 at s1 e1 |-;have s01:=s0.trans s1;have hw1:=s01 _ _ hw;subst hk;refine aN λk hk=>?_;push_cast;subst hk;refine aN λk hk=>?_;refine mX λR hR=>?_;push_cast[Sg,aa2,hw1,aa1];obtain⟨Pv,hPv⟩:∃Pv:Nat->L2.St->Hp->Prop,Pv=λ(i:Nat) σ H'=>∃(o1 o2:Option V),Same H1 H'/\σ=[GT s,GT (.ref wa),GT (.ref z),GT p,GT (.ref p1),GT (.int ((Bi i).map λk=>ws.getD k 0*rN zs (dY ss k pl)).sum),o1,o2]:=⟨_,rfl⟩;refine aen hR (xs:=ws.map As) Pv (by rw[hPv];exact⟨_,_,Same.refl _,rfl⟩) ?_ ?_ ?_
 ·intro i σ H2 pv;rw[hPv] at pv;obtain⟨_,_,s2,_⟩:=pv;exact s2 _ _ hw1
 ·intro i x σ H2 p2 hx pv hp2;rw[hPv] at pv;obtain⟨o1,o2,s2,rfl⟩:=pv;have hi:i<ws.length:=by
   have:=(AM.mp hx).1;rwa [AE] at this
  have hxi:x=As (ws.getD i 0):=by
   rw[AQ,AF hi] at hx;cases hx;rw[A4,AF hi];rfl
  subst hxi;have s3:=au (o:=By [As (i:Nat),As (ws.getD i 0)]) hp2;have e3:upd H2 p2 (By [As (i:Nat),As (ws.getD i 0)]) p2=_:=aA;generalize upd H2 p2 (By [As (i:Nat),As (ws.getD i 0)])=H3 at s3 e3 |-;have s23:=s2.trans s3;have s03:=s01.trans s23;push_cast[e3];refine dX λR2 hR2=>?_;push_cast;refine⟨s,p,i,ok,ss,pl,_,rfl,hn.same s03,ts.same s03,tp.same s03,pok,ω,hsz,λwy H4 s4 nwy hwy ewy=>?_⟩;push_cast[ewy];have e14:=(s23.trans s4) _ _ e1;have hwle:=qR ss i pl;have hw5:=vQ ss i pl;refine Yi (λi=>zs.getD i 0) (λτ=>∃o0,τ=[o0,GT (.ref p1)]) hR2 ewy ω ⟨_,rfl⟩ ?_ ?_
  ·rintro j z' τ acc Pn hz' ⟨o0,rfl⟩ h1;have hz5:=hw5 z' (BB hz');push_cast[rdA];refine⟨p1,As (zs.getD z' 0),rfl,(XH (zs:=zs) hz5) ▸ lF.k (k:=ED (iH z')) e14,?_⟩;exact h1 _ ⟨_,rfl⟩
  intro d5 hd5;have s5:=au (o:=AT (((dY ss i pl).map λi=>zs.getD i 0).map As)) hd5;have e5:upd H4 d5 (AT (((dY ss i pl).map λi=>zs.getD i 0).map As)) d5=_:=aA;generalize upd H4 d5 (AT (((dY ss i pl).map λi=>zs.getD i 0).map As))=H5 at s5 e5 |-;push_cast[e5];refine⟨_,rfl,?_⟩;have hpay:=O8 few (dY ss i pl);have hb:-(2^64)<rN zs (dY ss i pl)/\rN zs (dY ss i pl)<2^64:=by
   have:((dY ss i pl).length:Int)<=4000:=by omega
   omega
  refine⟨.inr hb,?_⟩;rw[hPv];refine⟨GT (As (i:Nat)),GT (As (ws.getD i 0)),(s23.trans s4).trans s5,?_⟩;rw[range_succ,A6,List.sum_append];simp only[CB,map_nil,Fc,sum_nil,Kt];rfl
 intro σ H2 pv;rw[hPv] at pv;obtain⟨o1,o2,s2,rfl⟩:=pv;subst hk;push_cast;rw[AE,hwl];have:=q H2 (s01.trans s2);rw[kJ] at this;exact this
abbrev qO:List Str:=["_law_tape_here","_law_many","_law_most"]
abbrev gO:Stmt:=top 34
theorem Eb:aZ qO q0_ (aj gO):=⟨rfl,rfl,rfl,ψ,rfl,ψ,ψ⟩
theorem Lw:NM_ qO gO 0 "_law_tape_here":=.of ψ
theorem Ls:NM_ qO gO 1 "_law_many":=.of ψ
theorem Lr:NM_ qO gO 2 "_law_most":=.of ψ
theorem Ay:GI_ gO "_law_take":=ψ
theorem Ax:GI_ gO "range":=ψ
theorem Aw:GI_ gO "tuple":=ψ
theorem Tj:Bn "_law_prices" := ⟨ψ,ψ⟩
abbrev m8:List Str:=["_law_tape_here","_law_many","_law_most"]
abbrev gw:Stmt:=top 33
theorem zE:aZ m8 q0_ (aj gw):=⟨rfl,rfl,rfl,ψ,rfl,ψ,ψ⟩
theorem Jg:NM_ m8 gw 0 "_law_tape_here":=.of ψ
theorem Jf:NM_ m8 gw 1 "_law_many":=.of ψ
theorem Je:NM_ m8 gw 2 "_law_most":=.of ψ
theorem yu:GI_ gw "_law_take":=ψ
theorem yt:GI_ gw "range":=ψ
theorem Np:Bn "_law_weights" := ⟨ψ,ψ⟩
theorem RG(hB:∀x:Str,x∈BLs->mg x=Is)(CZTake:Cal P w K mg base "_law_take" 2 q0_ (nG 2))(F:Fun K "_law_prices" "_law_prices" gO f fd):cQ P w K mg base CX0 3 f fd q0_ DQ:=by
 refine F.okz Eb λcdv A outer s H vs Q E hr h=>?_;obtain⟨p,B,rfl,tp,hB0,hB1,q⟩:=h;refine⟨_,(aD (aX Lr Eb.nd (aK aU (cF (ak aq (ak aq (ak aq aB Z) Z) Z)) (bw CZTake (hr.mono δ) Ay cJ (ak (ao Lw) (ak aq aB Z) Z) Z Z) (λ_ _=>rfl)) Z (.inl Z))
  (aL (aV (w6 sS Aw (hB "tuple" vm) boot_tuple vL (ak (eE (NX:=qO) (kX:=(aj gO).names) ["_law_k","_law_tape_here","_law_most"] [Is,GT 0,GT 2] Z Z ⟨rfl,ψ,ψ,ψ,ψ⟩ Z (mG Ax (hB "range" fH) (ak (ao Ls) aB Z) Z) (λ_ _ _ _ _=>(bA 0 (show BN (["_law_k","_law_tape_here","_law_most"]:List Str) from by decide +kernel) Z (C3 Z))) (λ_ _ _ _ _=>fB) (λ_ _ _ _ _=>(aP aY aq (bw CZTake (hr.mono δ) Z cJ (ak (bf 1) (ak (bf 2) aB Z) Z) Z Z)))) aB Z) Z Z)))),?_⟩
 refine aN λk hk=>?_;push_cast;refine⟨aM δ,λl0 hl0=>?_⟩;have s3:=au (o:=AT [As 1,As 5,As 99]) hl0;have tp3:=tp.same s3;have n3:=tp.ne hl0;have e3:upd H l0 (AT [As 1,As 5,As 99]) l0=_:=aA;generalize upd H l0 (AT [As 1,As 5,As 99])=H3 at s3 tp3 e3 |-;refine⟨p,3,B,rfl,tp3,by show B+2<=1000100;omega,δ,δ,δ,λz=>absurd z δ,λr4 H4 r40 r41 s4 tp4=>?_⟩;obtain⟨mo,hmo,emo⟩:=mK (is:=[1,5,99]) r40 r41;replace emo:atI [As 1,As 5,As 99] r4=GT (.int mo):=emo;have e4:=s4 _ _ n3 e3;have bmo:1<=mo/\mo<=99:=by
  simp only[A1,BA,or_false] at hmo;omega
 push_cast[e4,emo];subst hk;push_cast;refine dX λR hR=>?_;push_cast[Aq];refine⟨δ,δ,?_⟩;obtain⟨Pc,hPc⟩:∃Pv:Nat->List V->L2.St->Hp->Prop,Pv=λ(i:Nat) acc τ H'=>∃(o0:Option V)(zs:List Int),bY p H4 H'/\bQ H' p (B+2+2*(i:Int))/\acc=zs.map As/\zs.length=i/\(∀z∈zs,1<=z/\z<=99)/\τ=[o0,GT (.ref p),GT (.int mo)]:=⟨_,rfl⟩;refine G9 hR (aM δ) Pc (by rw[hPc];exact⟨Is,[],bY.refl _ _,tp4.le (by show B+2<=B+2+2*0;omega),rfl,rfl,λz hz=>absurd hz BA,rfl⟩) ?_ ?_ ?_
 ·intro i acc τ H5 pc;rw[hPc] at pc;obtain⟨_,zs,_,_,rfl,h1,_⟩:=pc;rw[AE];omega
 ·intro i acc τ H5 hi pc;rw[hPc] at pc;obtain⟨o0,zs,s5,tp5,rfl,hl5,hb5,rfl⟩:=pc;push_cast;refine⟨p,mo,_,rfl,tp5,by show B+2+2*(i:Int)+2<=1000100;omega,ω,ω,δ,λz=>absurd z ω,λr6 H6 r60 r61 s6 tp6=>?_⟩;push_cast;rw[hPc];refine⟨_,zs++[1+r6],s5.trans s6,tp6.le (by show B+2+2*(i:Int)+2<=B+2+2*((i+1:Nat):Int);omega),by rw[A6];rfl,by rw[AV,hl5];rfl,λz hz=>?_,rfl⟩;rcases Cf.mp hz with hz|hz
  ·exact hb5 z hz
  rw[AL.mp hz];omega
 intro acc τ H5 d pc hd;rw[hPc] at pc;obtain⟨o0,zs,s5,tp5,rfl,hl5,hb5,rfl⟩:=pc;have s6:=au (o:=AT (zs.map As)) hd;have tp6:=tp5.same s6;have sx6:bY p H (upd H5 d (.lst (zs.map As))):=((s3.x.trans s4).trans s5).trans s6.x;refine⟨d,rfl,_,.inl ⟨SqL.of aA,λt ht=>?_⟩⟩;have s7:=au (o:=By (zs.map As)) ht;obtain⟨n7,h7⟩:=Br sx6 tp6 ht;exact q _ zs _ (sx6.trans s7.x) ((tp6.same s7).le (by show B+2+2*(5:Int)<=B+20;omega)) n7 h7 aA hl5 hb5
theorem Lb(hB:∀x:Str,x∈BLs->mg x=Is)(CZTake:Cal P w K mg base "_law_take" 2 q0_ (nG 2))(F:Fun K "_law_weights" "_law_weights" gw f fd):cQ P w K mg base CX0 3 f fd q0_ Dz:=by
 refine F.okz zE λcdv A outer s H vs Q E hr h=>?_;obtain⟨p,m,B,rfl,tp,hB0,hB1,hm60,q⟩:=h;refine⟨_,(aD (aX Je zE.nd (aK aU (cF (ak aq (ak aq (ak aq (ak (aP aY (aP tL aq aq) aq) aB Z) Z) Z) Z)) (bw CZTake (hr.mono δ) yu cJ (ak (ao Jg) (ak aq aB Z) Z) Z Z) (λ_ _=>rfl)) Z (.inl Z))
  (aL (aV (eE (NX:=m8) (kX:=(aj gw).names) ["_law_k","_law_tape_here","_law_most"] [Is,GT 0,GT 2] Z Z ⟨rfl,ψ,ψ,ψ,ψ⟩ Z (mG yt (hB "range" fH) (ak (ao Jf) aB Z) Z) (λ_ _ _ _ _=>(bA 0 (show BN (["_law_k","_law_tape_here","_law_most"]:List Str) from by decide +kernel) Z (C3 Z))) (λ_ _ _ _ _=>fB) (λ_ _ _ _ _=>(bw CZTake (hr.mono δ) Z cJ (ak (bf 1) (ak (bf 2) aB Z) Z) Z Z)))))),?_⟩
 refine aN λk hk=>?_;push_cast;refine⟨⟨δ,δ,δ⟩,aM δ,λl0 hl0=>?_⟩;have s3:=au (o:=AT [As 2,As 10,As 1000,As (10^B7 6+1)]) hl0;have tp3:=tp.same s3;have n3:=tp.ne hl0;have e3:upd H l0 (AT [As 2,As 10,As 1000,As (10^B7 6+1)]) l0=_:=aA;generalize upd H l0 (AT [As 2,As 10,As 1000,As (10^B7 6+1)])=H3 at s3 tp3 e3 |-;refine⟨p,4,B,rfl,tp3,by show B+2<=1000100;omega,δ,δ,δ,λz=>absurd z δ,λr4 H4 r40 r41 s4 tp4=>?_⟩;obtain⟨mo,hmo,emo⟩:=mK (is:=[2,10,1000,10^B7 6+1]) r40 r41;replace emo:atI [As 2,As 10,As 1000,As (10^B7 6+1)] r4=GT (.int mo):=emo;have e4:=s4 _ _ n3 e3;have bmo:2<=mo/\mo<=1000001:=by
  simp only[A1,BA,or_false] at hmo;have:(10:Int)^B7 6=1000000:=by decide
  omega
 push_cast[e4,emo];subst hk;push_cast;refine dX λR hR=>?_;push_cast[Aq];refine⟨ω,ω,?_⟩;obtain⟨Pc,hPc⟩:∃Pv:Nat->List V->L2.St->Hp->Prop,Pv=λ(i:Nat) acc τ H'=>∃(o0:Option V)(zs:List Int),bY p H4 H'/\bQ H' p (B+2+2*(i:Int))/\acc=zs.map As/\zs.length=i/\(∀z∈zs,0<=z/\z<=1000000)/\τ=[o0,GT (.ref p),GT (.int mo)]:=⟨_,rfl⟩;refine G9 hR (aM ω) Pc (by rw[hPc];exact⟨Is,[],bY.refl _ _,tp4.le (by show B+2<=B+2+2*0;omega),rfl,rfl,λz hz=>absurd hz BA,rfl⟩) ?_ ?_ ?_
 ·intro i acc τ H5 pc;rw[hPc] at pc;obtain⟨_,zs,_,_,rfl,h1,_⟩:=pc;rw[AE];omega
 ·intro i acc τ H5 hi pc;rw[hPc] at pc;obtain⟨o0,zs,s5,tp5,rfl,hl5,hb5,rfl⟩:=pc;push_cast;refine⟨p,mo,_,rfl,tp5,by show B+2+2*(i:Int)+2<=1000100;omega,ω,ω,δ,λz=>by decide,λr6 H6 r60 r61 s6 tp6=>?_⟩;rw[hPc];refine⟨_,zs++[r6],s5.trans s6,tp6.le (by show B+2+2*(i:Int)+2<=B+2+2*((i+1:Nat):Int);omega),by rw[A6];rfl,by rw[AV,hl5];rfl,λz hz=>?_,rfl⟩;rcases Cf.mp hz with hz|hz
  ·exact hb5 z hz
  rw[AL.mp hz];omega
 intro acc τ H5 d pc hd;rw[hPc] at pc;obtain⟨o0,zs,s5,tp5,rfl,hl5,hb5,rfl⟩:=pc;have s6:=au (o:=AT (zs.map As)) hd;have sx5:bY p H H5:=(s3.x.trans s4).trans s5;obtain⟨n7,h7⟩:=Br sx5 tp5 hd;exact q _ zs _ (sx5.trans s6.x) ((tp5.same s6).le ω) n7 h7 aA ω hb5
abbrev ju:List Str:=["_law_tape_here","_law_stretches_here","_law_end","_law_low","_law_high","_law_label"]
abbrev eO:Stmt:=top 42
theorem kY:aZ ju q13_ (aj eO):=⟨rfl,rfl,rfl,ψ,rfl,ψ,ψ⟩
theorem xu:NM_ ju eO 0 "_law_tape_here":=.of ψ
theorem lM:NM_ ju eO 1 "_law_stretches_here":=.of ψ
theorem xr:NM_ ju eO 2 "_law_end":=.of ψ
theorem qg:NM_ ju eO 3 "_law_low":=.of ψ
theorem Ji:NM_ ju eO 4 "_law_high":=.of ψ
theorem xq:NM_ ju eO 5 "_law_label":=.of ψ
theorem oX:GI_ eO "_law_take":=ψ
theorem CJ:GI_ eO "max":=ψ
theorem Nq:Bn "_law_spanned" := ⟨ψ,ψ⟩
theorem Ld(hB:∀x:Str,x∈BLs->mg x=Is)(CZTake:Cal P w K mg base "_law_take" 2 q0_ (nG 2))(F:Fun K "_law_spanned" "_law_spanned" eO f fd):cQ P w K mg base CX0 3 f fd q13_ vV:=by
 refine F.okz kY λcdv A outer s H vs Q E hr h=>?_;obtain⟨p,l,B,ss,rfl,tp,hB0,hB1,ts,hne,rs,hfst,q⟩:=h;refine⟨_,(aD (dh (bh Wk (bw CZTake (hr.mono δ) oX cJ (ak (ao xu) (ak aq aB Z) Z) Z Z) aq (aR _)) (aL (aV (ao lM))) cu)
  (aD (aX xr kY.nd (aP lg (aP aY (aK aU (aK aU (ao lM) aq (λ_ _=>rfl)) aq (λ_ _=>rfl)) (aK aU (cF (ak aq (ak aq (ak aq (ak aq aB Z) Z) Z) Z)) (bw CZTake (hr.mono δ) oX cJ (ak (ao xu) (ak aq aB Z) Z) Z Z) (λ_ _=>rfl))) aq) Z (.inl Z))
  (aD (nQ (aK aU (ao lM) (wZ pJ aq) (λ_ _=>rfl)) (fj (n:=3) Z (aQ (cV qg kY.nd (.inl Z)) (aQ (cV Ji kY.nd (.inl Z)) (aQ (cV xq kY.nd (.inl Z)) cR Z) Z) Z) Z Z) Z Z Z)
  (aL (aV (aP aY (fY zB (ao lM) qZ (dZ (wZ pJ aq))) (cF (ak (bF (ak (ao qg) (ak (bW (Fd Z) CJ (hB "max" W3) boot_max Yn (ak (ao qg) (ak (ao xr) aB Z) Z) Z Z) (ak (ao xq) aB Z) Z) Z)) aB Z)))))))),?_⟩
 have ts0:=ts;cases ts with
 | lst o el zl tsl=>
  rename_i xs;have hxl:=tsl.length;rw[AE] at hxl;obtain⟨sa,⟨lo,hi,b⟩,rfl⟩:=rD ss (LI.mpr hne);refine aN λk hk=>?_;push_cast;refine⟨p,4,B,rfl,tp,by show B+2<=1000100;omega,δ,δ,δ,λz=>absurd z δ,λr1 H1 r10 r11 s1 tp1=>?_⟩;have el1:=s1 _ _ o el;have tsl1:=tsl.Ec s1;push_cast;split
  ·exact q l _ H1 s1 (tp1.le (by show B+2<=B+4;omega)) (ts0.Ec s1) Z rs
  subst hk;refine aN λk hk=>?_;obtain⟨p0,x0,y0⟩:=tsl1.stN (k:=0) (by rw[AV,BG];omega);replace x0:atI xs 0=GT (.ref p0):=x0;push_cast[el1,x0,y0];refine⟨aM δ,λl2 hl2=>?_⟩;have s2:=au (o:=AT [As 64,As 65,As 200,As 201]) hl2;have e2:upd H1 l2 (AT [As 64,As 65,As 200,As 201]) l2=_:=aA;have n2:=tp1.ne hl2;have tp2:=tp1.same s2;generalize upd H1 l2 (AT [As 64,As 65,As 200,As 201])=H2 at s2 e2 tp2 |-;refine⟨p,4,B+2,rfl,tp2,by show B+2+2<=1000100;omega,δ,δ,δ,λz=>absurd z δ,λr3 H3 r30 r31 s3 tp3=>?_⟩;obtain⟨wd,hwd,ewd⟩:=mK (is:=[64,65,200,201]) r30 r31;replace ewd:atI [As 64,As 65,As 200,As 201] r3=GT (.int wd):=ewd;have bwd:wd<=201:=by
   simp only[A1,BA,or_false] at hwd;rcases hwd with rfl|rfl|rfl|rfl <;> decide
  have e3:=s3 _ _ n2 e2;push_cast[e3,ewd];have sx3:=(s1.trans s2.x).trans s3;have el3:=sx3 _ _ o el;have tsl3:=tsl.Ec sx3;have hs0:(bJ (sa++[(lo,hi,b)]) 0).1<=10^9:=hfst _ (yZ (by rw[AV,BG];omega));generalize (bJ (sa++[(lo,hi,b)]) 0).1=f0 at hs0 |-;have hlen:xs.length=sa.length+1:=by rw[hxl,AV,BG]
  rw[A6] at tsl3;obtain⟨tpre,y,hy,ty⟩:=aG.dropLast tsl3;obtain⟨py,vs,rfl,ey,tvs⟩:=aH.dR (show aH (·≠p) H3 y (.tuple [.int lo,.int hi,.int b]) from ty);have evs:=aG.ints (is:=[lo,hi,b]) tvs;subst evs;replace ey:H3 py=GT (.tup [.int lo,.int hi,.int b]):=ey;have hyl:atI xs (-1)=GT (.ref py):=by
   obtain⟨xa,xb,rfl⟩:=rD xs ω;rw[AV,BG,IQ,B8 (AU _),IP] at hy;cases hy;exact Ys xa _
  subst hk;refine aN λk hk=>?_;push_cast[el3,hyl,ey];subst hk;push_cast[el3];obtain⟨h4,hh4,b4⟩:∃h4:Int,h4=(if f0+wd-1>lo then f0+wd-1 else lo)/\lo<=h4/\h4<=10^9+(10^12+10)*(sa.length+1):=by
   have hb:=rs.bd sa.length (lo,hi,b) (by rw[B8 (AU _),IP];rfl);have hl:=(rs.lh sa.length (lo,hi,b) (by rw[B8 (AU _),IP];rfl)).1;replace hb:-(10^12)<=lo/\hi<=10^9+(10^12+10)*((sa.length:Int)+1):=hb;replace hl:lo<=hi:=hl;refine⟨_,rfl,?_⟩;split <;> omega
  rw[<- hh4,Yd];intro a4 ha4;refine⟨aM δ,λa5 ha5=>⟨aM δ,λa6 ha6=>?_⟩⟩;have s4:=au (o:=AT xs.dropLast) ha4;have s5:=au (o:=By [As lo,As h4,As b]) ha5;have s6:=au (o:=AT [AS a5]) ha6;have e4:=(s5.trans s6) _ _ (show upd H3 a4 (AT xs.dropLast) a4=_ from aA);have e5:=s6 _ _ (show upd (upd H3 a4 (AT xs.dropLast)) a5 (By [As lo,As h4,As b]) a5=_ from aA);have s46:=(s4.trans s5).trans s6;have n5:a5≠p:=(tp3.same s4).ne ha5;generalize upd (upd (upd H3 a4 (AT xs.dropLast)) a5 (By [As lo,As h4,As b])) a6 (AT [AS a5])=H6 at e4 e5 s46 |-;push_cast[e4];have hdl:=List.length_dropLast (xs:=xs);refine⟨aM (show xs.dropLast.length+1<=1000000 by omega),λa7 ha7=>?_⟩;have s7:=au (o:=AT (xs.dropLast++[AS a5])) ha7;have tp7:=(tp3.same s46).same s7;refine q a7 (sa++[(lo,h4,b)]) _ (sx3.trans (s46.trans s7).x) (tp7.le (by show B+2+2<=B+4;omega)) (.lst ((tp3.same s46).ne ha7) aA (by rw[AV,BG,hdl];omega) ?_) (by rw[AV,AV];rfl) (rs.Xb b4.1 b4.2);rw[A6];exact((tpre.same s46).same s7).append (.cons (.tup n5 (s7 _ _ e5) (show 3<=1000000 by decide) (.cons (.int _) (.cons (.int _) (.cons (.int _) .nil)))) .nil)
abbrev wR:List Str:=["_law_tape_here","_law_great"]
abbrev kh:Stmt:=top 37
theorem zG:aZ wR ["_law_tape_here"] (aj kh):=⟨rfl,rfl,rfl,ψ,rfl,ψ,ψ⟩
theorem qp:NM_ wR kh 0 "_law_tape_here":=.of ψ
theorem xK:NM_ wR kh 1 "_law_great":=.of ψ
theorem jR:GI_ kh "_law_take":=ψ
theorem Nt:Bn "_law_run_many" := ⟨ψ,ψ⟩
abbrev cL:List Str:=["_law_stretches_here","_law_weights_here","_law_prices_here","_law_label","_law_tests","_law_low","_law_high","_law_one","_law_weight","_law_left","_law_total","_law_best","_law_test"]
abbrev bO:Stmt:=top 39
theorem cM:aZ cL q5_ (aj bO):=⟨rfl,rfl,rfl,ψ,rfl,ψ,ψ⟩
theorem Jl:NM_ cL bO 0 "_law_stretches_here":=.of ψ
theorem xR:NM_ cL bO 1 "_law_weights_here":=.of ψ
theorem qu:NM_ cL bO 2 "_law_prices_here":=.of ψ
theorem Jk:NM_ cL bO 3 "_law_label":=.of ψ
theorem iJ:NM_ cL bO 4 "_law_tests":=.of ψ
theorem xQ:NM_ cL bO 5 "_law_low":=.of ψ
theorem xP:NM_ cL bO 6 "_law_high":=.of ψ
theorem xO:NM_ cL bO 7 "_law_one":=.of ψ
theorem xM:NM_ cL bO 8 "_law_weight":=.of ψ
theorem qt:NM_ cL bO 9 "_law_left":=.of ψ
theorem nT:NM_ cL bO 10 "_law_total":=.of ψ
theorem dM:NM_ cL bO 11 "_law_best":=.of ψ
theorem jX:NM_ cL bO 12 "_law_test":=.of ψ
theorem CV:GI_ bO "min":=ψ
theorem CT:GI_ bO "sum":=ψ
theorem CQ:GI_ bO "zip":=ψ
theorem Nu:Bn "_law_row_cost" := ⟨ψ,ψ⟩
theorem Lg(hB:∀x:Str,x∈BLs->mg x=Is)(CZTake:Cal P w K mg base "_law_take" 2 q0_ (nG 2))(F:Fun K "_law_run_many" "_law_run_many" kh f fd):cQ P w K mg base CX0 3 f fd ["_law_tape_here"] DN:=by
 refine F.okz zG λcdv A outer s H vs Q E hr h=>?_;obtain⟨p,B,rfl,tp,hB0,hB1,q⟩:=h;refine⟨_,(aD (aX xK zG.nd (fu (bT hr.bD) (bw CZTake (hr.mono δ) jR cJ (ak (ao qp) (ak aq aB Z) Z) Z Z) aq (aR _)) Z (.inl Z))
  (aL (aV (pW (pR (ao xK) (λ_=>rfl)) (aP aY aq (bw CZTake (hr.mono δ) jR cJ (ak (ao qp) (ak aq aB Z) Z) Z Z)) (aP aY aq (bw CZTake (hr.mono δ) jR cJ (ak (ao qp) (ak aq aB Z) Z) Z Z)))))),?_⟩
 refine aN λk hk=>?_;push_cast;refine⟨p,8,B,rfl,tp,by show B+2<=1000100;omega,δ,δ,δ,λz=>absurd z δ,λr1 H1 r10 r11 s1 tp1=>?_⟩;push_cast;subst hk;push_cast;split
 ·refine⟨p,21,B+2,rfl,tp1,by show B+2+2<=1000100;omega,δ,δ,δ,λz=>absurd z δ,λr2 H2 r20 r21 s2 tp2=>?_⟩;push_cast;rw[show 10+r2=((10+r2).toNat:Int) by omega];exact q _ _ ω ω (s1.trans s2) (tp2.le (by show B+2+2<=B+4;omega))
 refine⟨p,9,B+2,rfl,tp1,by show B+2+2<=1000100;omega,δ,δ,δ,λz=>absurd z δ,λr2 H2 r20 r21 s2 tp2=>?_⟩;push_cast;rw[show 1+r2=((1+r2).toNat:Int) by omega];exact q _ _ ω ω (s1.trans s2) (tp2.le (by show B+2+2<=B+4;omega))
theorem IV(hB:∀x:Str,x∈BLs->mg x=Is)(F:Fun K "_law_row_cost" "_law_row_cost" bO f fd):cQ P w K mg base CX0 2 f fd q5_ zb:=by
 refine F.okz cM λcdv A outer s H vs Q E hr h=>?_;obtain⟨sa,wa,t,xs,ok,ss,ws,zs,lab,rfl,es,ts,h60,ew,hwl,h5,q⟩:=h;refine⟨_,(aD (aX iJ cM.nd (cF aB) Z (.inl Z))
  (aD (jm Cb Z (ZC CQ (hB "zip" Mr) (ak (ao Jl) (ak (ao xR) aB Z) Z) Z Z) (fj (n:=2) Z (aQ (fj (n:=3) Z (aQ (cV xQ cM.nd (.inl Z)) (aQ (cV xP cM.nd (.inl Z)) (aQ (cV xO cM.nd (.inl Z)) cR Z) Z) Z) Z Z) (aQ (cV xM cM.nd (.inl Z)) cR Z) Z) Z Z)
  (aL (dh (bh (pZ hr.bD) (ao xO) (ao Jk) (aR _)) (aL (iU (nR (ao iJ) (bF (ak (ao xM) (ak (pW (bh (bT hr.bD) (ao xQ) (ao xP) (aR _)) (bW (wO Z) CV (hB "min" Ai) boot_min BJ (ak (aK aU (ao qu) aq (λ_ _=>rfl)) (ak (aK aU (ao qu) aq (λ_ _=>rfl)) aB Z) Z) Z Z) (aK aU (ao qu) aq (λ_ _=>rfl))) aB Z) Z)) Z Z Z Z Z) Z)) cu)) (λ_=>rfl))
  (aD (K3 (i:=9) (j:=10) Z cM.nd Z Z δ Z Z (ak (bW (jt Z) CT (hB "sum" tZ) L1 uo (ak (ao xR) aB Z) Z Z) (ak aq aB Z) Z) (by rfl))
  (aD (uM Cb (bh (Wj hr.bD) (ao iJ) (cF aB) (aR _)) (aD (aX dM cM.nd (aK aU (ao iJ) aq (λ_ _=>rfl)) Z (.inl Z))
  (aD (jm Cb Z (cj (ao iJ)) (cV jX cM.nd (.inl Z))
  (aL (aX dM cM.nd (pW (bh Wk (aP cG (aK aU (ao jX) aq (λ_ _=>rfl)) (aK aU (ao dM) aq (λ_ _=>rfl))) (aP cG (aK aU (ao dM) aq (λ_ _=>rfl)) (aK aU (ao jX) aq (λ_ _=>rfl))) (aR _)) (ao jX) (ao dM)) Z (.inl Z))) (λ_=>rfl))
  (aD (iU (ZG hr.un1 (ao iJ) (ao dM)) Z)
  (aD (aX nT cM.nd (aP aY (ao nT) (aP cG (ao qt) (aK aU (ao dM) aq (λ_ _=>rfl)))) Z (.inl Z))
  (aL (aX qt cM.nd (aP lg (ao qt) (aK aU (ao dM) aq (λ_ _=>rfl))) Z (.inl Z))))))))
  (aL (aV (ao nT))))))),?_⟩
 have tsl:=ts.length;rw[AE] at tsl;refine aN λk hk=>?_;push_cast;refine⟨aM δ,λd hd=>?_⟩;have s1:=au (o:=AT []) hd;have e1:upd H d (AT []) d=GT (AT []):=aA;change k _ (upd H d (AT []));generalize upd H d (AT [])=H1 at s1 e1 |-;subst hk;refine aN λk hk=>?_;refine mX λR hR=>?_;have es1:=s1 _ _ es;have ew1:=s1 _ _ ew;push_cast[es1,ew1];obtain⟨Pv,hPv⟩:∃Pv:Nat->L2.St->Hp->Prop,Pv=λi σ H'=>∃(o5 o6 o7 o8:Option V)(ps:List ID),Same H H'/\PrL H' d ps (((Bi i).filter λk=>lbl ss k≠lab).map (prK ss ws zs))/\σ=[GT (.ref sa),GT (.ref wa),GT (.ref t),GT (.int lab),GT (.ref d),o5,o6,o7,o8,Is,Is,Is,Is]:=⟨_,rfl⟩;refine ael hR (xs:=xs) (ys:=ws.map As) (by rw[AE];omega) Pv (by rw[hPv];exact⟨_,_,_,_,[],s1,⟨e1,λ_ h=>(nomatch h),rfl⟩,rfl⟩) ?_ ?_ ?_
 ·intro i σ H2 pv;rw[hPv] at pv;obtain⟨_,_,_,_,_,s2,_⟩:=pv;exact⟨s2 _ _ es,s2 _ _ ew⟩
 ·intro i x y σ H2 p hx hy pv hp;rw[hPv] at pv;obtain⟨o5,o6,o7,o8,ps,s2,pr,rfl⟩:=pv;have s3:=au (o:=By [x,y]) hp;have e3:upd H2 p (By [x,y]) p=_:=aA;have pr3:=pr.same s3;generalize upd H2 p (By [x,y])=H3 at s3 e3 pr3 |-;obtain⟨d2,hd2,td2⟩:=(ts.same (s2.trans s3)).get hx;rw[AQ] at hd2;obtain⟨⟨lo,hi,b⟩,hs,rfl⟩:=BU.mp hd2;obtain⟨q2,vs,rfl,eq2,tvs⟩:=aH.dR td2;cases aG.ints (is:=[lo,hi,b]) tvs;have hil:i<ss.length:=(AM.mp hs).1;rw[AQ] at hy;obtain⟨wt,hwt,rfl⟩:=BU.mp hy;have hst:bJ ss i=(lo,hi,b):=by unfold bJ;rw[A4,hs];rfl
  have hwt2:ws.getD i 0=wt:=by rw[A4,hwt];rfl
  push_cast[e3,eq2];have hlb:lbl ss i=b:=by unfold lbl;rw[hst]
  have eP:(Bi (i+1)).filter (λk=>decide (lbl ss k≠lab))=(Bi i).filter (λk=>decide (lbl ss k≠lab))++(if b=lab then [] else [i]):=by
   rw[Sy,hlb];by_cases c:b=lab
   ·rw[if_pos c,if_neg (by simpa using c)]
   rw[if_neg c,if_pos (by simpa using c)]
  have fin:¬b=lab->∀(c:Int),c=dB ss zs i->∀(p:ID),H3 p=Is->apq (upd H3 p (By [As wt,.int c]) d) d (AS p) (upd H3 p (By [As wt,.int c])) λx H1=>
          Pv (i+1)
           [GT (AS sa),GT (AS wa),GT (AS t),GT (As lab),GT (AS d),
            GT (As lo),GT (As hi),GT (As b),GT (As wt),Is,Is,Is,Is]
           H1:=λcb c hc p5 hp5=>by
   have s4:=au (o:=By [As wt,.int c]) hp5;have e4:upd H3 p5 (By [As wt,.int c]) p5=_:=aA;have pr4:=pr3.same s4;generalize upd H3 p5 (By [As wt,.int c])=H4 at s4 e4 pr4 |-;have hpl:ps.length<=i:=by
    have:=congrArg List.length pr4.l;rw[AE,AE] at this;have h2:=EB (λk=>decide (lbl ss k≠lab)) (Bi i);rw[Fk] at h2;omega
   rw[pr4.e,vN];refine⟨by rw[AE];exact wW ω,?_⟩;rw[hPv];refine⟨_,_,_,_,ps++[p5],mC ((s2.trans s3).trans s4) hd,?_,rfl⟩;rw[eP,if_neg cb,A6];have:=pr4.push e4;rw[hc] at this;rw[show([i]:List Nat).map (prK ss ws zs)=[(wt,dB ss zs i)] by show [prK ss ws zs i]=_;unfold prK;rw[hwt2]];exact this
  by_cases c:b=lab
  ·rw[if_neg (by simpa using c),hPv];refine⟨_,_,_,_,ps,s2.trans s3,?_,rfl⟩;rw[eP,if_pos c,EK];exact pr3
  rw[if_pos (by simpa using c)];have et3:=(s2.trans s3) _ _ h5.1;have ed3:=pr3.e;have h5l:=h5.2.1;have z0:atI (zs.map As) 0=GT (.int (zs.getD 0 0)):=uy (i:=0) ω;have z1:atI (zs.map As) 1=GT (.int (zs.getD 1 0)):=uy (i:=1) ω;have hpr:dB ss zs i=if lo=hi then (if zs.getD 1 0<zs.getD 0 0 then zs.getD 1 0 else zs.getD 0 0) else zs.getD 1 0:=by
   unfold dB isT;rw[hst];by_cases c1:lo=hi
   ·by_cases c2:zs.getD 1 0<zs.getD 0 0
    ·simp only[c1,c2,if_pos,decide_true,GB,decide_eq_true_eq];rw[if_neg ω]
    simp only[c1,c2,if_pos,decide_true,GB,decide_eq_true_eq];rw[if_pos ω];rfl
   simp only[c1,decide_false,FA];rfl
  push_cast[et3,z0,z1,ed3];split
  ·rename_i c1;exact⟨aM δ,λp5 hp5=>fin c _ (by rw[hpr,if_pos c1]) p5 hp5⟩
  rename_i c1;exact⟨aM δ,λp5 hp5=>fin c _ (by rw[hpr,if_neg c1]) p5 hp5⟩
 intro σ H2 pv;rw[hPv] at pv;obtain⟨o5,o6,o7,o8,ps,s2,pr,rfl⟩:=pv;rw[AE,hwl] at pr;show k _ H2;clear hPv Pv hR;subst hk;refine aN λk hk=>?_;have ew2:=s2 _ _ ew;push_cast[ew2];refine⟨ws,rfl,?_⟩;subst hk;refine aN λk hk=>?_;obtain⟨Pw,hPw⟩:∃Pw:Nat->L2.St->Hp->Prop,Pw=λm σ H'=>∃(o5 o6 o7 o8 o11 o12:Option V)(ps:List ID)(L dn:List (Int×Int)) (tot left:Int),m=ps.length/\Same H H'/\PrL H' d ps L/\(dn++L).Perm (nu ss ws zs lab)/\Fall dn/\(∀x∈dn,∀y∈L,y.1*x.2<=x.1*y.2)/\(∀r,gC ws.sum (dn++r)=tot+gC left r)/\σ=[GT (.ref sa),GT (.ref wa),GT (.ref t),GT (.int lab),GT (.ref d),o5,o6,o7,o8,GT (.int left),GT (.int tot),o11,o12]:=⟨_,rfl⟩;refine Ft Pw ps.length (by rw[hPw];exact⟨_,_,_,_,_,_,ps,_,[],0,ws.sum,rfl,s2,pr,.refl _,.nil,λ_ h=>(nomatch h),λr=>(Int.zero_add _).symm,rfl⟩) ?_;intro m σ H3 pw;rw[hPw] at pw;obtain⟨o5,o6,o7,o8,o11,o12,ps,L,dn,tot,left,rfl,s3,pr3,pm,fl,hfl,htot,rfl⟩:=pw;have ed3:=pr3.e;push_cast[ed3];refine⟨aM δ,λe0 he0=>?_⟩;have s4:=au (o:=AT []) he0;have e4:upd H3 e0 (AT []) e0=_:=aA;have pr4:=pr3.same s4;generalize upd H3 e0 (AT [])=H4 at s4 e4 pr4 |-;refine⟨d,e0,ps.map AS,rfl,rfl,pr4.e,e4,_,rfl,?_⟩;rw[aaY];have hlen:=pr4.len;have hTl:(nu ss ws zs lab).length<=60:=by
  unfold nu;rw[AE];have h2:=EB (λk=>decide (lbl ss k≠lab)) (Bi ss.length);rw[Fk] at h2;omega
 have hLl:L.length<=60:=by
  have:=pm.length_eq;rw[AV] at this;omega
 cases ps with
 | nil=>
  have hL:L=[]:=by rw[<- pr4.l];rfl
  subst hL;rw[if_neg ζ];subst hk;push_cast;have h0:=htot [];rw[EK] at h0 pm;rw[show tot=gC ws.sum dn by rw[h0];show _=tot+0;omega];exact q dn _ (s3.trans s4) fl pm
 | cons p0 ps=>
  rw[if_pos ζ];have hLm:∀x∈L,x∈nu ss ws zs lab:=λx hx=>pm.mem_iff.mp (AN _ hx);have hps:∀p∈p0::ps,0<(gOf H4 p).2/\(gOf H4 p).2<=99:=λp hp=>QL h5.2.1 h5.2.2 _ (hLm _ (by rw[<- pr4.l];exact FE hp));obtain⟨QN,hQN⟩:∃QN:L2.St->Hp->Prop,QN=λσ' H'=>∃m',m'<(p0::ps).length/\Pw m' σ' H':=⟨_,rfl⟩;refine⟨QN,λσ' H' h=>by rw[hQN] at h;exact h,?_⟩;have ed4:=pr4.e;have at0:atI ((p0::ps).map AS) 0=GT (.ref p0):=cH (j:=0) rfl;push_cast[ed4,at0];refine mX λR hR=>?_;push_cast[ed4];obtain⟨Px,hPx⟩:∃Px:Nat->L2.St->Hp->Prop,Px=λi σ H'=>∃(o12:Option V)(qb:ID),H'=H4/\qb∈p0::ps/\(∀p∈(p0::ps).take i,(gOf H4 p).1*(gOf H4 qb).2<=(gOf H4 qb).1*(gOf H4 p).2)/\σ=[GT (.ref sa),GT (.ref wa),GT (.ref t),GT (.int lab),GT (.ref d),o5,o6,o7,o8,GT (.int left),GT (.int tot),GT (.ref qb),o12]:=⟨_,rfl⟩;refine Es hR (xs:=(p0::ps).map AS) Px (by rw[hPx];exact⟨_,p0,rfl,A7,λ_ h=>(nomatch h),rfl⟩) ?_ ?_ ?_
  ·intro i σ H' _ px;rw[hPx] at px;obtain⟨_,_,rfl,_⟩:=px;exact SqL.of ed4
  ·intro i x σ H' hx px;rw[hPx] at px;obtain⟨o12,qb,rfl,hqb,hle,rfl⟩:=px;rw[AQ] at hx;obtain⟨p,hp,rfl⟩:=BU.mp hx;have ep:=pr4.at' p (BB hp);have eb:=pr4.at' qb hqb;push_cast[ep,eb];have hp9:=hps p (BB hp);have hb9:=hps qb hqb;refine⟨.inr ⟨ω,ω⟩,.inr ⟨ω,ω⟩,?_⟩;have htk:=take_snoc hp;split
   ·rename_i c;rw[hPx];refine⟨_,p,rfl,BB hp,λp2 hp2=>?_,rfl⟩;rw[htk] at hp2;rcases Cf.mp hp2 with z|z
    ·have h2:=hps p2 (LZ z);exact Io (x:=gOf H' p2) (b:=gOf H' qb) (n:=gOf H' p) h2.1 hb9.1 hp9.1 (hle p2 z) (Int.le_of_lt c)
    rw[AL.mp z];exact Iq _
   rename_i c;rw[hPx];refine⟨_,qb,rfl,hqb,λp2 hp2=>?_,rfl⟩;rw[htk] at hp2;rcases Cf.mp hp2 with z|z
   ·exact hle p2 z
   rw[AL.mp z];exact not_lt.mp c
  intro σ H' px;rw[hPx] at px;obtain⟨o12,qb,rfl,hqb,hle,rfl⟩:=px;rw[AE,EI] at hle;have eb:=pr4.at' qb hqb;have hb9:=hps qb hqb;clear hPx Px hR;dsimp only;refine aN λk hk=>?_;push_cast[Uk,Rh,ed4];refine⟨d,qb,p0::ps,gOf H',rfl,rfl,ed4,hqb,pr4.at',ω,λj hj=>?_⟩;rw[pr4.l] at hj;have hbL:gOf H' qb∈L:=by rw[<- pr4.l];exact FE hqb
  have hjl:j<(p0::ps).length:=by rw[hlen,<- hj];exact IE hbL
  have pr5:=pr4.drop j hj;have sd:Same H (upd H' d (AT (((p0::ps).eraseIdx j).map AS))):=mC (s3.trans s4) hd;have eb5:upd H' d (AT (((p0::ps).eraseIdx j).map AS)) qb=GT (By [As (gOf H' qb).1,As (gOf H' qb).2]):=by rw[aJ (Pj eb ed4 (λz=>by cases z))];exact eb
  have hel:((p0::ps).eraseIdx j).length<(p0::ps).length:=by rw[Lm,if_pos hjl];exact Nat.sub_lt (Nat.succ_pos _) Nat.zero_lt_one
  have hle2:∀y∈L,y.1*(gOf H' qb).2<=(gOf H' qb).1*y.2:=λy hy=>by
   rw[<- pr4.l] at hy;obtain⟨p,hp,rfl⟩:=DD.mp hy;exact hle p hp
  have pmL:=List.perm_cons_erase hbL;generalize (p0::ps).eraseIdx j=qs at pr5 sd eb5 hel |-;generalize gOf H' qb=bq at hbL hb9 pr5 eb5 hle2 pmL |-;generalize upd H' d (AT (qs.map AS))=H5 at pr5 sd eb5 |-;subst hk;refine aN λk hk=>?_;push_cast[eb5];refine⟨.inr ⟨ω,ω⟩,?_⟩;subst hk;push_cast[eb5];rw[hQN];refine⟨qs.length,hel,?_⟩;rw[hPw];refine⟨_,_,_,_,_,_,qs,L.erase bq,dn++[bq],_,_,rfl,sd,pr5,?_,?_,?_,?_,rfl⟩
  ·rw[G0];exact(FB.append_left dn pmL.symm).trans pm
  ·exact LO.mpr ⟨fl,KF _ _,λx hx y hy=>by rw[AL.mp hy];exact hfl x hx _ hbL⟩
  ·intro x hx y hy;have hyL:=List.mem_of_mem_erase hy;rcases Cf.mp hx with z|z
   ·exact hfl x z y hyL
   rw[AL.mp z];exact hle2 y hyL
  intro r;rw[G0,htot];show tot+(left*bq.2+gC (left-bq.1) r)=_;omega
abbrev cZ:List Str:=["_law_stretches_here","_law_weights_here","_law_prices_here","_law_begin","_law_end","_law_some","_law_heavy","_law_span","_law_labels","_law_costs","_law_label"]
abbrev bK:Stmt:=top 38
theorem iC:aZ cZ q3_ (aj bK):=⟨rfl,rfl,rfl,ψ,rfl,ψ,ψ⟩
theorem Jj:NM_ cZ bK 0 "_law_stretches_here":=.of ψ
theorem xJ:NM_ cZ bK 1 "_law_weights_here":=.of ψ
theorem qm:NM_ cZ bK 2 "_law_prices_here":=.of ψ
theorem ql:NM_ cZ bK 3 "_law_begin":=.of ψ
theorem qj:NM_ cZ bK 4 "_law_end":=.of ψ
theorem jG:NM_ cZ bK 5 "_law_some":=.of ψ
theorem xH:NM_ cZ bK 6 "_law_heavy":=.of ψ
theorem xG:NM_ cZ bK 7 "_law_span":=.of ψ
theorem qi:NM_ cZ bK 8 "_law_labels":=.of ψ
theorem jF:NM_ cZ bK 9 "_law_costs":=.of ψ
theorem uP:NM_ cZ bK 10 "_law_label":=.of ψ
theorem ud:GI_ bK "_law_row_cost":=ψ
theorem sJ:GI_ bK "int":=ψ
theorem CP:GI_ bK "len":=ψ
theorem CN:GI_ bK "set":=ψ
theorem wD:GI_ bK "sorted":=ψ
theorem CK:GI_ bK "sum":=ψ
theorem Nr:Bn "_law_run_ways" := ⟨ψ,ψ⟩
theorem Le(hB:∀x:Str,x∈BLs->mg x=Is)(CZRowCost:Cal P w K mg base "_law_row_cost" 2 q5_ zb)(F:Fun K "_law_run_ways" "_law_run_ways" bK f fd):cQ P w K mg base CX0 4 f fd q3_ DK:=by
 refine F.okz iC λcdv A outer s H vs Q E hr h=>?_;obtain⟨sa,wa,t,a,b,xs,ok,ss,ws,zs,rfl,es,ts,h60,ew,hwl,h5,hab,hbn,q⟩:=h;refine⟨_,(aD (aX jG iC.nd (fY zB (ao Jj) (dZ (ao ql)) (dZ (ao qj))) Z (.inl Z))
  (aD (K3 (i:=6) (j:=7) Z iC.nd Z Z δ Z Z (ak (bW (jt Z) CK (hB "sum" tZ) L1 uo (ak (fY zB (ao xJ) (dZ (ao ql)) (dZ (ao qj))) aB Z) Z Z) (ak (aP aY (aP lg (aK aU (aK aU (ao jG) (wZ pJ aq) (λ_ _=>rfl)) aq (λ_ _=>rfl)) (aK aU (aK aU (ao jG) aq (λ_ _=>rfl)) aq (λ_ _=>rfl))) aq) aB Z) Z) (by rfl))
  (aD (aX qi iC.nd (O3 Z wD (hB "sorted" rC) CN (hB "set" WY) (ak (eE (NX:=cZ) (kX:=(aj bK).names) ["_law_low","_law_high","_law_label"] [Is,Is,Is] Z Z ⟨rfl,ψ,ψ,ψ,ψ⟩ Z (cj (ao jG)) (λ_ _ _ _ _=>(fj (n:=3) Z (aQ (bA 0 (show BN (["_law_low","_law_high","_law_label"]:List Str) from by decide +kernel) Z (C3 Z)) (aQ (bA 1 (show BN (["_law_low","_law_high","_law_label"]:List Str) from by decide +kernel) Z (C3 Z)) (aQ (bA 2 (show BN (["_law_low","_law_high","_law_label"]:List Str) from by decide +kernel) Z (C3 Z)) cR Z) Z) Z) Z Z)) (λ_ _ _ _ _=>fB) (λ_ _ _ _ _=>(bf 2))) aB Z)) Z (.inl Z))
  (aD (aX jF iC.nd (aP cG (cF (ak (aP cG (ao xH) (aK aU (ao qm) aq (λ_ _=>rfl))) aB Z)) (w6 oJ sJ (hB "int" Aj) boot_int BK (ak (fu zQ (ao xG) aq (aR _)) aB Z) Z Z)) Z (.inl Z))
  (aD (aX jF iC.nd (aP aY (ao jF) (aP cG (cF (ak (aP cG (ao xH) (aK aU (ao qm) aq (λ_ _=>rfl))) aB Z)) (w6 oJ sJ (hB "int" Aj) boot_int BK (ak (pY (fu zQ (ao xG) aq (aR _)) (pU (fu (bT hr.bD) (bW bM CP (hB "len" eV) B1 eY (ak (ao qi) aB Z) Z Z) aq (aR _)))) aB Z) Z Z))) Z (.inl Z))
  (aD (jm Cb Z (cj (ao qi)) (cV uP iC.nd (.inl Z))
  (aL (iU (nR (ao jF) (bw CZRowCost (hr.mono δ) ud Nu (ak (ao jG) (ak (fY zB (ao xJ) (dZ (ao ql)) (dZ (ao qj))) (ak (ao qm) (ak (ao uP) aB Z) Z) Z) Z) Z Z) Z Z Z Z Z) Z)) (λ_=>rfl))
  (aL (aV (ao jF))))))))),?_⟩
 have tsl:=ts.length;rw[AE] at tsl;obtain⟨ord,hord⟩:=acI (ss:=ss) (ws:=ws) (zs:=zs) (Ve a b) λk hk=>by have:=eG.mp hk;omega
 refine aN λk hk=>?_;push_cast[es];refine λra hra=>?_;rw[abB ω ω];subst hk;obtain⟨ys,hys⟩:∃ys,ys=(xs.drop a).take (b-a):=⟨_,rfl⟩;have tys:aG ok H ys ((sls ss a b).map stD):=by rw[hys,<- Ou];exact(ts.X7 a).Uh (b-a)
 have hsl:=qW (ss:=ss) (a:=a) hbn;have hyl:=tys.length;rw[AE,hsl] at hyl;rw[<- hys];have s1:=au (o:=AT ys) hra;have e1:upd H ra (AT ys) ra=_:=aA;generalize upd H ra (AT ys)=H1 at s1 e1 |-;refine aN λk hk=>?_;have ew1:=s1 _ _ ew;have et1:=s1 _ _ h5.1;have tys1:=tys.same s1;have h0:(sls ss a b)[0]?=GT (bJ (sls ss a b) 0):=yZ ω;have hL:(sls ss a b)[b-a-1]?=GT (bJ (sls ss a b) (b-a-1)):=yZ ω;obtain⟨p0,x0,y0⟩:=tys1.stN (k:=0) ω;obtain⟨pL,xL,yL⟩:=tys1.stN (k:=b-a-1) ω;replace x0:atI ys 0=GT (.ref p0):=x0;have xL1:atI ys (-1)=GT (.ref pL):=by
  rw[Yt ω,hyl];exact xL
 push_cast[e1,ew1,x0,y0,xL1,yL];refine λpw hpw=>⟨slc ws a b,G8 ws a b ω ω,?_⟩;rw[G8 ws a b ω ω];have s2:=au (o:=AT ((slc ws a b).map As)) hpw;have e2:=s2 _ _ e1;have y02:=s2 _ _ y0;have yL2:=s2 _ _ yL;generalize upd H1 pw (AT ((slc ws a b).map As))=H2 at s2 e2 y02 yL2 |-;push_cast[e2,x0,y02,xL1,yL2];rw[UL hab hbn];have hsum:(slc ws a b).sum=sumK ws (rng a b):=FP ω;rw[hsum];subst hk;refine aN λk hk=>?_;have tys2:=tys1.same s2;push_cast[tSS,e2];refine dX λR hR=>?_;push_cast[e2];obtain⟨Pc,hPc⟩:∃Pv:Nat->List V->L2.St->Hp->Prop,Pv=λ(i:Nat) acc τ H'=>∃(o0 o1 o2:Option V),H'=H2/\acc=(((sls ss a b).take i).map (·.2.2)).map As/\τ=[o0,o1,o2]:=⟨_,rfl⟩;refine jr hR (xs:=ys) (aM ω) Pc (by rw[hPc];exact⟨_,_,_,rfl,rfl,rfl⟩) ?_ ?_ ?_ ?_
 ·intro i acc τ H3 pc;rw[hPc] at pc;obtain⟨_,_,_,rfl,rfl,_⟩:=pc;rw[AE,AE];exact C9 _ _
 ·intro i acc τ H3 pc;rw[hPc] at pc;obtain⟨_,_,_,rfl,_⟩:=pc;exact SqL.of e2
 ·intro i y acc τ H3 hy pc;rw[hPc] at pc;obtain⟨o0,o1,o2,rfl,rfl,rfl⟩:=pc;obtain⟨d2,hd2,td2⟩:=tys2.get hy;rw[AQ] at hd2;obtain⟨⟨lo,hi,l⟩,hs,rfl⟩:=BU.mp hd2;obtain⟨q2,vs,rfl,eq2,tvs⟩:=aH.dR td2;cases aG.ints (is:=[lo,hi,l]) tvs;push_cast[eq2];rw[hPc];exact⟨_,_,_,rfl,by rw[take_snoc hs,A6,A6];rfl,rfl⟩
 intro acc τ H3 d2 pc hd2;rw[hPc] at pc;obtain⟨o0,o1,o2,rfl,rfl,rfl⟩:=pc;rw[show ys.length=(sls ss a b).length by omega,EI,Jw hbn];have s3:=au (o:=AT (((rng a b).map (lbl ss)).map As)) hd2;have e3:upd H3 d2 (AT (((rng a b).map (lbl ss)).map As)) d2=_:=aA;generalize upd H3 d2 (AT (((rng a b).map (lbl ss)).map As))=H4 at s3 e3 |-;refine⟨d2,rfl,(rng a b).map (lbl ss),SqL.of e3,by rw[AE,iT];omega,λp4 L hp4 perm hup=>?_⟩;have hdl:=SRT.yQ ((rng a b).map (lbl ss));rw[AE,iT] at hdl;have hpl:=perm.length_eq;have hLab:sY ss (rng a b) L:=⟨Al (hup ω) (perm.nodup_iff.mpr (SRT.wM _)),λl=>by
  rw[perm.mem_iff,SRT.Qk,DD]⟩
 have hLl:L.length<=60:=ω;have s5:=s3.trans (au (o:=AT (L.map As)) hp4);have e5:upd H4 p4 (AT (L.map As)) p4=GT (AT (L.map As)):=aA;generalize upd H4 p4 (AT (L.map As))=H5 at s5 e5 |-;subst hk;refine aN λk hk=>?_;have et5:=(s2.trans s5) _ _ et1;have h5l:=h5.2.1;have z4:atI (zs.map As) 4=GT (.int (zs.getD 4 0)):=uy (i:=4) ω;have z3:atI (zs.map As) 3=GT (.int (zs.getD 3 0)):=uy (i:=3) ω;push_cast[et5,z4];have h99:∀i,i<5->1<=zs.getD i 0/\zs.getD i 0<=99:=λi hi=>by
  rw[A4,AF ω];exact h5.2.2 _ (FG _)
 have h4:=h99 4 δ;have h3:=h99 3 δ;refine⟨.inr ⟨ω,ω⟩,aM δ,λp6 hp6=>?_⟩;rw[Vl];have s6:=s5.trans (au (o:=AT [As (sumK ws (rng a b)*zs.getD 4 0)]) hp6);have e56:=au (o:=AT [As (sumK ws (rng a b)*zs.getD 4 0)]) hp6 _ _ e5;generalize upd H5 p6 (AT [As (sumK ws (rng a b)*zs.getD 4 0)])=H6 at s6 e56 |-;obtain⟨o1,o2,o3⟩:=K9 (cU ss (rng a b)<=200);refine⟨o1,o2,o3,λp7 hp7=>?_⟩;have hC1:=Qa (cU ss (rng a b)<=200) (sumK ws (rng a b)*zs.getD 4 0);obtain⟨C1,eC1⟩:∃C1,C1=(if cU ss (rng a b)<=200 then [sumK ws (rng a b)*zs.getD 4 0] else []):=⟨_,rfl⟩;rw[<- eC1] at hC1 |-;have s7:=s6.trans (au (o:=AT (C1.map As)) hp7);have e57:=au (o:=AT (C1.map As)) hp7 _ _ e56;have e7:upd H6 p7 (AT (C1.map As)) p7=_:=aA;generalize upd H6 p7 (AT (C1.map As))=H7 at s7 e57 e7 |-;subst hk;refine aN λk hk=>?_;have et7:=(s2.trans s7) _ _ et1;push_cast[et7,z3,e57,e7];refine⟨.inr ⟨ω,ω⟩,aM δ,λp8 hp8=>?_⟩;have s8:=au (o:=AT [As (sumK ws (rng a b)*zs.getD 3 0)]) hp8;have e8:upd H7 p8 (AT [As (sumK ws (rng a b)*zs.getD 3 0)]) p8=GT (AT [As (sumK ws (rng a b)*zs.getD 3 0)]):=aA;have e58:=s8 _ _ e57;have e78:=s8 _ _ e7;generalize upd H7 p8 (AT [As (sumK ws (rng a b)*zs.getD 3 0)])=H8 at s8 e8 e58 e78 |-;obtain⟨C2,eC2⟩:∃C2,C2=(if cU ss (rng a b)<=64/\L.length=2 then [sumK ws (rng a b)*zs.getD 3 0] else []):=⟨_,rfl⟩;have hC2:=Qa (cU ss (rng a b)<=64/\L.length=2) (sumK ws (rng a b)*zs.getD 3 0);rw[<- eC2] at hC2;have fin:∀p9,H8 p9=Is->adq (upd H8 p9 (AT (C2.map As)) p7) (GT (AT (C2.map As))) (upd H8 p9 (AT (C2.map As))) λx H1=>
          k
           [GT (AS sa),GT (AS wa),GT (AS t),GT (As ↑a),GT (As ↑b),
            GT (AS ra),GT (As (sumK ws (rng a b))),GT (As (cU ss (rng a b))),
            GT (AS p4),GT x,Is]
           H1:=λp9 hp9=>by
  have s9:=au (o:=AT (C2.map As)) hp9;rw[s9 _ _ e78];have s29:=s7.trans (s8.trans s9);have e59:=s9 _ _ e58;rw[NT,AE,AE,<- A6];refine⟨aM ω,λd hd=>?_⟩;clear hPc Pc hR;have hdn:=(s1.trans (s2.trans s29)).none hd;have hd4:p4≠d:=aF e59 hd;have hra:ra≠d:=aF ((s2.trans s29) _ _ e1) hd;have sA:=s29.trans (au (o:=AT ((C1++C2).map As)) hd);have e5A:=au (o:=AT ((C1++C2).map As)) hd _ _ e59;have edA:upd (upd H8 p9 (AT (C2.map As))) d (AT ((C1++C2).map As)) d=_:=aA;generalize upd (upd H8 p9 (AT (C2.map As))) d (AT ((C1++C2).map As))=HA at sA e5A edA |-;have hdA:∀{x o},H x=GT o->x≠d:=λe=>aF e hdn;subst hk;refine aN λk hk=>?_;refine mX λR hR=>?_;push_cast[e5A];obtain⟨Pv,hPv⟩:∃Pv:Nat->L2.St->Hp->Prop,Pv=λi σ H'=>∃(o10:Option V),(∀x o,x≠d->HA x=GT o->H' x=GT o)/\H' d=GT (.lst ((C1++C2++(L.take i).map λlab=>jb ss ws zs (sumK ws (rng a b)) ord lab).map As))/\σ=[GT (.ref sa),GT (.ref wa),GT (.ref t),GT (.int (a:Int)),GT (.int (b:Int)),GT (.ref ra),GT (.int (sumK ws (rng a b))),GT (.int (cU ss (rng a b))),GT (.ref p4),GT (.ref d),o10]:=⟨_,rfl⟩;have s0A:Same H HA:=s1.trans (s2.trans sA);refine Es hR (xs:=L.map As) Pv (by rw[hPv];exact⟨_,λ_ _ _ e=>e,by rw[List.take_zero,map_nil,EK];exact edA,rfl⟩) ?_ ?_ ?_
  ·intro i σ H' _ pv;rw[hPv] at pv;obtain⟨_,s',_⟩:=pv;exact SqL.of (s' _ _ hd4 e5A)
  ·intro i y σ H' hy pv;rw[hPv] at pv;obtain⟨o10,s',ed',rfl⟩:=pv;have hil:=(AM.mp hy).1;rw[AE] at hil;rw[AQ] at hy;obtain⟨lab,hlab,rfl⟩:=BU.mp hy;have s0':∀{x:ID}{o:HO},H x=GT o->H' x=GT o:=λe=>s' _ _ (hdA e) (s0A _ _ e);have ew':=s0' ew;push_cast[ed',ew'];refine λpw hpw=>?_;rw[G8 ws a b ω ω];have s1':=au (o:=AT ((slc ws a b).map As)) hpw;have epw:upd H' pw (AT ((slc ws a b).map As)) pw=_:=aA;have era:=s1' _ _ (s' _ _ hra ((s2.trans sA) _ _ e1));have edd:=s1' _ _ ed';have tra:aG (λ_=>True) (upd H' pw (AT ((slc ws a b).map As))) ys ((sls ss a b).map stD):=tys.keep λx o _ e=>⟨trivial,s1' _ _ (s0' e)⟩;refine⟨ra,pw,t,ys,λ_=>True,sls ss a b,slc ws a b,zs,lab,rfl,era,tra,ω,epw,?_,⟨s1' _ _ (s0' h5.1),h5.2⟩,λl H2' s2' fl pl=>?_⟩
   ·rw[qW hbn];unfold slc;rw[FF,F1];omega
   rw[Vc h60 hbn hwl (h99 0 δ).1 (h99 1 δ).1 hord fl pl];show apq (H2' d) d _ H2' _;rw[s2' _ _ edd,vN];refine⟨?_,?_⟩
   ·rw[AE,AV,AV,AE];have:=C9 i L;exact wW ω
   rw[hPv];refine⟨_,λx o hx e=>by rw[aJ hx];exact s2' _ _ (s1' _ _ (s' _ _ hx e)),?_,rfl⟩;rw[aA,take_snoc hlab,A6 (f:=λlab=>jb ss ws zs (sumK ws (rng a b)) ord lab),<- G0,A6 (l₂:=List.map _ [lab])];rfl
  intro σ H' pv;rw[hPv] at pv;obtain⟨o10,s',ed',rfl⟩:=pv;rw[AE,EI] at ed';clear hPv Pv hR;show k _ H';subst hk;push_cast;have hcC:Bv ss ws zs a b ord L=C1++C2++L.map λlab=>jb ss ws zs (sumK ws (rng a b)) ord lab:=by rw[eC1,eC2];rfl
  rw[<- hcC] at ed';have hlc:(Bv ss ws zs a b ord L).length<=62:=by
   rw[hcC,AV,AV,AE];omega
  have hl1:=(hLab.2 (lbl ss a)).mpr ⟨a,eG.mpr ⟨AU _,hab⟩,rfl⟩;refine q d _ H' (λx o e=>s' _ _ (hdA e) (s0A _ _ e)) hdn ed' ω (λz=>?_) λc=>Mp hLab hord c;rw[hcC] at z;have:=(List.append_eq_nil_iff.mp z).2;rw[L9.mp this] at hl1;cases hl1
 split
 ·rename_i c1;push_cast[e58];have hz:(if ((L.map As).length:Int)=2 then 1 else 0:Int)=if L.length=2 then 1 else 0:=by
   rw[AE];by_cases c2:L.length=2
   ·rw[if_pos c2,if_pos ω]
   rw[if_neg c2,if_neg ω]
  rw[hz];have hC2':C2=if L.length=2 then [sumK ws (rng a b)*zs.getD 3 0] else []:=by
   rw[eC2];by_cases c2:L.length=2
   ·rw[if_pos c2,if_pos ⟨c1,c2⟩]
   rw[if_neg c2,if_neg λz=>c2 z.2]
  push_cast[e8];obtain⟨g1,g2,g3⟩:=K9 (L.length=2);refine⟨g1,g2,g3,λp9 hp9=>?_⟩;rw[Vl,<- hC2'];have:=fin p9 hp9;push_cast;exact this
 rename_i c1;have e0:C2=[]:=by rw[eC2,if_neg λz=>c1 z.1]
 refine⟨δ,δ,aM δ,λp9 hp9=>?_⟩;have:=fin p9 hp9;rw[e0] at this;exact this
abbrev dm:List Str:=["_law_stretches_here","_law_weights_here","_law_prices_here","_law_many","_law_best","_law_begin","_law_end","_law_some","_law_base"]
abbrev bL:Stmt:=top 40
theorem fO:aZ dm q1_ (aj bL):=⟨rfl,rfl,rfl,ψ,rfl,ψ,ψ⟩
theorem uY:NM_ dm bL 0 "_law_stretches_here":=.of ψ
theorem uX:NM_ dm bL 1 "_law_weights_here":=.of ψ
theorem uW:NM_ dm bL 2 "_law_prices_here":=.of ψ
theorem nY:NM_ dm bL 3 "_law_many":=.of ψ
theorem jZ:NM_ dm bL 4 "_law_best":=.of ψ
theorem dN:NM_ dm bL 5 "_law_begin":=.of ψ
theorem iV:NM_ dm bL 6 "_law_end":=.of ψ
theorem nW:NM_ dm bL 7 "_law_some":=.of ψ
theorem Gq:NM_ dm bL 8 "_law_base":=.of ψ
theorem rO:GI_ bL "_law_run_ways":=ψ
theorem Bb:GI_ bL "len":=ψ
theorem Ba:GI_ bL "min":=ψ
theorem jq:GI_ bL "range":=ψ
theorem Az:GI_ bL "sum":=ψ
theorem J8:Bn "_law_best_runs" := ⟨ψ,ψ⟩
theorem IW(hB:∀x:Str,x∈BLs->mg x=Is)(CZRunWays:Cal P w K mg base "_law_run_ways" 4 q3_ DK)(F:Fun K "_law_best_runs" "_law_best_runs" bL f fd):cQ P w K mg base CX0 6 f fd q1_ zj:=by
 refine F.okz fO λcdv A outer s H vs Q E hr h=>?_;obtain⟨sa,wa,t,xs,ok,ss,ws,zs,rfl,es,ts,h1,h60,ew,hwl,h5,q⟩:=h;refine⟨_,(aD (aX nY fO.nd (bW bM Bb (hB "len" eV) B1 eY (ak (ao uY) aB Z) Z Z) Z (.inl Z))
  (aD (aX jZ fO.nd K4 Z (.inl Z))
  (aD (jm Cb Z (Rn jq (hB "range" fH) (ak (aP lg (ao nY) aq) (ak (wZ pJ aq) (ak (wZ pJ aq) aB Z) Z) Z) Z Z) (cV dN fO.nd (.inl Z))
  (aD (VH hr.gG (ao jZ) (bF (ak (ao dN) (ak (aP aY (ao dN) aq) aB Z) Z)) aq Z)
  (aL (jm Cb Z (v8 jq (hB "range" fH) (ak (aP aY (ao dN) aq) (ak (aP aY (ao nY) aq) aB Z) Z) Z Z) (cV iV fO.nd (.inl Z))
  (aD (aX nW fO.nd (bw CZRunWays (hr.mono δ) rO Nr (ak (ao uY) (ak (ao uX) (ak (ao uW) (ak (ao dN) (ak (ao iV) aB Z) Z) Z) Z) Z) Z Z) Z (.inl Z))
  (aD (aX Gq fO.nd (aP cG (aK aU (ao uW) aq (λ_ _=>rfl)) (bW (jt Z) Az (hB "sum" tZ) L1 uo (ak (fY zB (ao uX) (dZ (ao dN)) (dZ (ao iV))) aB Z) Z Z)) Z (.inl Z))
  (aD (iU (Gi (ao nW) (eE (NX:=dm) (kX:=(aj bL).names) ["_law_k","_law_base","_law_best","_law_end","_law_begin"] [Is,GT 8,GT 4,GT 6,GT 5] Z Z ⟨rfl,ψ,ψ,ψ,ψ⟩ Z (v8 jq (hB "range" fH) (ak (aP aY (ao dN) aq) (ak (ao iV) aB Z) Z) Z Z) (λ_ _ _ _ _=>(bA 0 (show BN (["_law_k","_law_base","_law_best","_law_end","_law_begin"]:List Str) from by decide +kernel) Z (C3 Z))) (λ_ _ _ _ _=>fB) (λ_ _ _ _ _=>(aP aY (aP aY (bf 1) (pX hr.gG (bf 2) (bF (ak (bf 4) (ak (bf 0) aB Z) Z)) (λ_ _=>rfl))) (pX hr.gG (bf 2) (bF (ak (bf 0) (ak (bf 3) aB Z) Z)) (λ_ _=>rfl))))) Z Z Z Z Z) Z)
  (aL (VH hr.gG (ao jZ) (bF (ak (ao dN) (ak (ao iV) aB Z) Z)) (bW (Fb Z) Ba (hB "min" Ai) boot_min BJ (ak (ao nW) aB Z) Z Z) Z))))) (λ_=>rfl)))) (λ_=>rfl))
  (aL (aV (ao jZ)))))),?_⟩
 have tsl:=ts.length;rw[AE] at tsl;refine aN λk hk=>?_;push_cast[es];rw[tsl];subst hk;refine aN λk hk=>?_;push_cast;refine λbd hbd=>?_;subst hk;have s1:=au (o:=BY []) hbd;have e1:upd H bd (BY []) bd=GT (BY []):=aA;generalize upd H bd (BY [])=H1 at s1 e1 |-;refine aN λk hk=>?_;refine mX λR hR=>?_;push_cast[Xr];refine⟨⟨ω,ω,δ,δ⟩,?_⟩;rw[show((ss.length:Int)-1 - -1).toNat=ss.length by omega];have hno:∀{x:ID}{o:HO},H x=GT o->x≠bd:=λe=>aF e hbd;obtain⟨Pv,hPv⟩:∃Pv:Nat->L2.St->Hp->Prop,Pv=λi σ H'=>∃(o5 o6 o7 o8:Option V)(M:Nat->Nat->Int)(kvs:List (List Key×V)),Same H H'/\yI ss ws zs H' bd (61*i) (λp=>p.1<p.2/\p.2<=ss.length/\ss.length-i<=p.1) M kvs/\σ=[GT (.ref sa),GT (.ref wa),GT (.ref t),GT (.int (ss.length:Int)),GT (.ref bd),o5,o6,o7,o8]:=⟨_,rfl⟩;refine adh hR Pv (by rw[hPv];exact⟨_,_,_,_,λ_ _=>0,[],s1,⟨e1,AU _,λp h=>ω,λp h=>ω,λp h=>ω⟩,rfl⟩) ?_ ?_
 ·intro i σ H2 hi pv;rw[hPv] at pv;obtain⟨o5,o6,o7,o8,M,kvs,s2,bt,rfl⟩:=pv;obtain⟨a,ha⟩:∃a,a=ss.length-1-i:=⟨_,rfl⟩;rw[show(ss.length:Int)-1-(i:Int)=(a:Int) by omega];refine aN λk hk=>?_;push_cast[rdA];refine⟨aM δ,λp hp=>?_⟩;have s3:=au (o:=By [As (a:Int),As ((a:Int)+1)]) hp;have e3:upd H2 p (By [As (a:Int),As ((a:Int)+1)]) p=GT (By [As (a:Int),As ((a+1:Nat):Int)]):=aA;have bt3:=bt.same s3;generalize upd H2 p (By [As (a:Int),As ((a:Int)+1)])=H3 at s3 e3 bt3 |-;have hbl:=bt3.l;have hi60:61*i<=61*60:=Nat.mul_le_mul_left _ ω;refine⟨bd,_,rfl,rT.k2 bt3.e e3 (wW ω),?_⟩;obtain⟨M4,bt4⟩:=bt3.step (a:=a) (b:=a+1) (c:=0) (D':=λp=>p.1<p.2/\p.2<=ss.length/\(ss.length-i<=p.1\/(p.1=a/\p.2<a+2))) (λz=>by dsimp only at z;omega) (λp hp=>by
   obtain⟨g1,g2,g3|g3⟩:=hp
   ·exact .inl ⟨g1,g2,g3⟩
   ·exact .inr (Prod.ext g3.1 (show p.2=a+1 by omega))) (λp hp i2 j2 g1 g2 g3 g4=>by
   obtain⟨g5,g6,g7|g7⟩:=hp
   ·exact⟨g2,by show j2<=_;omega,by show _<=i2;omega⟩
   omega) (λ_=>rfl) (λz=>ω)
  have s4:=mC (o:=BY (putK kvs (key2 (a:Int) ((a+1:Nat):Int)) (As 0))) (s2.trans s3) hbd;generalize upd H3 bd (BY (putK kvs (key2 (a:Int) ((a+1:Nat):Int)) (As 0)))=H4 at s4 bt4 |-;generalize putK kvs (key2 (a:Int) ((a+1:Nat):Int)) (As 0)=kvs4 at bt4;subst hk;refine mX λR2 hR2=>?_;push_cast[Jz];refine⟨ω,?_⟩;rw[show((ss.length:Int)+1-((a:Int)+2)).toNat=ss.length-1-a by omega];obtain⟨Pw,hPw⟩:∃Pw:Nat->L2.St->Hp->Prop,Pw=λj σ H'=>∃(o6 o7 o8:Option V)(M:Nat->Nat->Int)(kvs:List (List Key×V)),Same H H'/\yI ss ws zs H' bd (61*i+1+j) (λp=>p.1<p.2/\p.2<=ss.length/\(ss.length-i<=p.1\/(p.1=a/\p.2<a+2+j))) M kvs/\σ=[GT (.ref sa),GT (.ref wa),GT (.ref t),GT (.int (ss.length:Int)),GT (.ref bd),GT (.int (a:Int)),o6,o7,o8]:=⟨_,rfl⟩;refine XC hR2 Pw (by rw[hPw];exact⟨_,_,_,M4,kvs4,s4,bt4,rfl⟩) ?_ ?_
  ·intro j σ H5 hj pw;rw[hPw] at pw;obtain⟨o6',o7',o8',M5,kvs5,s5,bt5,rfl⟩:=pw;obtain⟨b,hb⟩:∃b,b=a+2+j:=⟨_,rfl⟩;rw[show(a:Int)+2+(j:Int)=(b:Int) by omega];push_cast;refine⟨sa,wa,t,a,b,xs,ok,ss,ws,zs,rfl,s5 _ _ es,ts.same s5,h60,s5 _ _ ew,hwl,⟨s5 _ _ h5.1,h5.2⟩,ω,ω,λd C H6 s6 hd6 ed6 hCl hCn hC=>?_⟩;have s56:=s5.trans s6;have et6:=s56 _ _ h5.1;have ew6:=s56 _ _ ew;have h5l:=h5.2.1;have h99:∀i,i<5->1<=zs.getD i 0/\zs.getD i 0<=99:=λi hi=>by
    rw[A4,AF ω];exact h5.2.2 _ (FG _)
   have h2:=h99 2 δ;have z2:atI (zs.map As) 2=GT (.int (zs.getD 2 0)):=uy (i:=2) ω;push_cast[et6,ew6,z2];refine λpw hpw=>⟨slc ws a b,G8 ws a b ω ω,?_⟩;rw[FP ω];have s7:=au (o:=AT (jT (ws.map As) (GT (a:Int)) (GT (b:Int)))) hpw;have ed7:=s7 _ _ ed6;generalize upd H6 pw (AT (jT (ws.map As) (GT (a:Int)) (GT (b:Int))))=H7 at s7 ed7 |-;push_cast;refine⟨.inl ⟨ω,ω⟩,?_⟩;push_cast[yW,G6,ed7,yO];have bt7:=bt5.same (s6.trans s7);have s57:=s56.trans s7;refine dX λR3 hR3=>?_;push_cast[Jz];refine⟨ω,?_⟩;rw[show((b:Int)-((a:Int)+1)).toNat=b-(a+1) by omega];obtain⟨f,hf⟩:∃f:Nat->Int,f=λk=>zs.getD 2 0*sumK ws (rng a b)+M5 a k+M5 k b:=⟨_,rfl⟩;obtain⟨Pl,hPl⟩:∃Pv:Nat->List V->L2.St->Hp->Prop,Pv=λ(i:Nat) acc τ H'=>∃(o0:Option V),Same H7 H'/\acc=(((rng (a+1) b).take i).map f).map As/\τ=[o0,GT (.int (zs.getD 2 0*sumK ws (rng a b))),GT (.ref bd),GT (.int (b:Int)),GT (.int (a:Int))]:=⟨_,rfl⟩;refine G9 hR3 (aM ω) Pl (by rw[hPl];exact⟨_,Same.refl _,rfl,rfl⟩) ?_ ?_ ?_
   ·intro i2 acc τ H8 pl;rw[hPl] at pl;obtain⟨_,_,rfl,_⟩:=pl;rw[AE,AE];exact C9 _ _
   ·intro i2 acc τ H8 hi2 pl;rw[hPl] at pl;obtain⟨o0,s8,rfl,rfl⟩:=pl;obtain⟨k2,hk2⟩:∃k2,k2=a+1+i2:=⟨_,rfl⟩;rw[show(a:Int)+1+(i2:Int)=(k2:Int) by omega];have bt8:=bt7.same s8;push_cast[rdA];refine⟨aM δ,λp8 hp8=>?_⟩;have s9:=au (o:=By [As (a:Int),As (k2:Int)]) hp8;have e9:upd H8 p8 (By [As (a:Int),As (k2:Int)]) p8=_:=aA;have bt9:=bt8.same s9;generalize upd H8 p8 (By [As (a:Int),As (k2:Int)])=H9 at s9 e9 bt9 |-;refine⟨bd,_,rfl,lF.k2 bt9.e e9 (bt9.num (a,k2) (by dsimp only;omega)),?_⟩;push_cast[rdA];refine⟨aM δ,λp10 hp10=>?_⟩;have s10:=au (o:=By [As (k2:Int),As (b:Int)]) hp10;have e10:upd H9 p10 (By [As (k2:Int),As (b:Int)]) p10=_:=aA;have bt10:=bt9.same s10;generalize upd H9 p10 (By [As (k2:Int),As (b:Int)])=H10 at s10 e10 bt10 |-;refine⟨bd,_,rfl,lF.k2 bt10.e e10 (bt10.num (k2,b) (by dsimp only;omega)),?_⟩;push_cast[rdA];rw[hPl];refine⟨_,(s8.trans s9).trans s10,?_,rfl⟩;rw[take_snoc (Zg ω),A6,A6,<- hk2];show _=_++[As (f k2)];rw[hf]
   intro acc τ H8 d8 pl hd8;rw[hPl] at pl;obtain⟨o0,s8,rfl,rfl⟩:=pl;rw[show b-(a+1)=(rng (a+1) b).length from(iT _ _).symm,EI];have s9:=au (o:=AT (((rng (a+1) b).map f).map As)) hd8;have e9:upd H8 d8 (AT (((rng (a+1) b).map f).map As)) d8=_:=aA;have ed9:=(s8.trans s9) _ _ ed7;have s59:Same H5 (upd H8 d8 (AT (((rng (a+1) b).map f).map As))):=s6.trans (s7.trans (s8.trans s9));generalize upd H8 d8 (AT (((rng (a+1) b).map f).map As))=H9 at s9 e9 ed9 s59 |-;rw[Bs,ed9,e9,M9,<- A6];refine⟨aM (by rw[AE,AE,AE,iT];omega),?_⟩;have s5A:=mC (o:=AT ((C++(rng (a+1) b).map f).map As)) s59 hd6;have edA:upd H9 d (AT ((C++(rng (a+1) b).map f).map As)) d=_:=aA;generalize upd H9 d (AT ((C++(rng (a+1) b).map f).map As))=HA at s5A edA |-;have btA:=bt5.same s5A;clear hPl Pl hR3;push_cast[rdA];refine⟨C++(rng (a+1) b).map f,.inl edA,λz=>hCn (List.append_eq_nil_iff.mp z).1,λm hm hle=>?_⟩;refine⟨aM δ,λp hp=>?_⟩;have s6':=au (o:=By [As (a:Int),As (b:Int)]) hp;have e6':upd HA p (By [As (a:Int),As (b:Int)]) p=_:=aA;have btB:=btA.same s6';have s5B:=s5A.trans s6';generalize upd HA p (By [As (a:Int),As (b:Int)])=HB at s6' e6' btB s5B |-;have hbl:=btB.l;refine⟨bd,_,rfl,rT.k2 btB.e e6' (wW ω),?_⟩;rw[hf] at hm hle;obtain⟨M6,bt6⟩:=btB.step (a:=a) (b:=b) (c:=m) (D':=λp=>p.1<p.2/\p.2<=ss.length/\(ss.length-i<=p.1\/(p.1=a/\p.2<a+2+(j+1)))) (λz=>by dsimp only at z;omega) (λp hp=>by
    obtain⟨g1,g2,g3|g3⟩:=hp
    ·exact .inl ⟨g1,g2,.inl g3⟩
    ·by_cases c:p.2<a+2+j
     ·exact .inl ⟨g1,g2,.inr ⟨g3.1,c⟩⟩
     exact .inr (Prod.ext g3.1 (show p.2=b by omega))) (λp hp i2 j2 g1 g2 g3 g4=>by
    obtain⟨g5,g6,g7|g7⟩:=hp
    ·exact⟨g2,by show j2<=_;omega,.inl (by show _<=i2;omega)⟩
    refine⟨g2,by show j2<=_;omega,?_⟩;show ss.length-i<=i2\/(i2=a/\j2<a+2+j);omega) (λz=>ω) (λ_=>W8 ω hC hm hle)
   rw[hPw];exact⟨_,_,_,M6,_,mC (s5.trans s5B) hbd,bt6,rfl⟩
  intro σ H5 pw;rw[hPw] at pw;obtain⟨o6',o7',o8',M5,kvs5,s5,bt5,rfl⟩:=pw;show Pv (i+1) _ H5;rw[hPv];refine⟨_,_,_,_,M5,kvs5,s5,bt5.iff ω λp hp=>?_,rfl⟩;obtain⟨g1,g2,g3⟩:=hp;exact⟨g1,g2,ω⟩
 intro σ H2 pv;rw[hPv] at pv;obtain⟨o5,o6,o7,o8,M,kvs,s2,bt,rfl⟩:=pv;show k _ H2;subst hk;push_cast;exact q bd H2 _ M kvs s2 (bt.iff (AU _) λp hp=>⟨hp.1,hp.2,ω⟩)
abbrev fD:List Str:=["_law_stretches_here","_law_begin","_law_end","_law_plan","_law_word","_law_one","_law_labels"]
abbrev cN:Stmt:=top 41
theorem jC:aZ fD q2_ (aj cN):=⟨rfl,rfl,rfl,ψ,rfl,ψ,ψ⟩
theorem nU:NM_ fD cN 0 "_law_stretches_here":=.of ψ
theorem uU:NM_ fD cN 1 "_law_begin":=.of ψ
theorem uT:NM_ fD cN 2 "_law_end":=.of ψ
theorem cA:NM_ fD cN 3 "_law_plan":=.of ψ
theorem jY:NM_ fD cN 4 "_law_word":=.of ψ
theorem uR:NM_ fD cN 5 "_law_one":=.of ψ
theorem uQ:NM_ fD cN 6 "_law_labels":=.of ψ
theorem jJ:GI_ cN "_law_is_in_runs":=ψ
theorem qM:Bn "_law_is_in_runs" := ⟨ψ,ψ⟩
theorem Xk:cQ P w K mg base CX0 1 f fd q2_ (mz 0):=
 ⟨λvs H Q E h=>by obtain⟨_,a,b,_,_,_,_,_,_,_,_,_,_,_,_,h1,_,h2,_⟩:=h;omega,λA outer s H args us vs Q E _ _ _ _ h=>by obtain⟨_,a,b,_,_,_,_,_,_,_,_,_,_,_,_,h1,_,h2,_⟩:=h;omega⟩
theorem acS{n:Nat}(hB:∀x:Str,x∈BLs->mg x=Is)(CZIsInRuns:Cal P w K mg base "_law_is_in_runs" (n+1) q2_ (mz n))(F:Fun K "_law_is_in_runs" "_law_is_in_runs" cN f fd):cQ P w K mg base CX0 (n+2) f fd q2_ (mz (n+1)):=by
 refine F.okz jC λcdv A outer s H vs Q E hr h=>?_;obtain⟨sa,a,b,v,xs,ok,ok2,ss,pl,rfl,es,ts,h60,tv,hin,hab,hbn,hn,q⟩:=h;refine⟨_,(aD (aX jY jC.nd (aK aU (ao cA) aq (λ_ _=>rfl)) Z (.inl Z))
  (aD (dh (bh (bT hr.bD) (ao jY) bC (aR _)) (aD (aX uR jC.nd (bw CZIsInRuns (hr.mono ω) jJ qM (ak (ao nU) (ak (ao uU) (ak (aK aU (ao cA) aq (λ_ _=>rfl)) (ak (aK aU (ao cA) aq (λ_ _=>rfl)) aB Z) Z) Z) Z) Z Z) Z (.inl Z))
  (aL (aV (pY (ao uR) (pU (bw CZIsInRuns (hr.mono ω) jJ qM (ak (ao nU) (ak (aK aU (ao cA) aq (λ_ _=>rfl)) (ak (ao uT) (ak (aK aU (ao cA) aq (λ_ _=>rfl)) aB Z) Z) Z) Z) Z Z)))))) cu)
  (aD (dh (bh Gk (ao jY) (bF (ak bC (ak bC aB Z) Z)) (by with_unfolding_all rfl)) (aL (aV mH)) cu)
  (aD (dh (bh (bT hr.bD) (ao jY) bC (aR _)) (aL (aV (fu (bT hr.bD) (aK aU (aK aU (ao cA) aq (λ_ _=>rfl)) aq (λ_ _=>rfl)) bC (aR _)))) cu)
  (aD (uM Cb (bh Gk (aK aU (ao cA) aq (λ_ _=>rfl)) (bF (ak bC (ak bC aB Z) Z)) (by with_unfolding_all rfl)) (aL (aX cA jC.nd (aK aU (ao cA) aq (λ_ _=>rfl)) Z (.inl Z))))
  (aD (yJ (NX:=fD) (kX:=(aj cN).names) ["_law_low","_law_high","_law_label"] [Is,Is,Is] uQ jC.nd Z Z ⟨rfl,ψ,ψ,ψ,ψ⟩ Z (cj (fY zB (ao nU) (dZ (ao uU)) (dZ (ao uT)))) (λ_ _ _ _ _=>(fj (n:=3) Z (aQ (bA 0 (show BN (["_law_low","_law_high","_law_label"]:List Str) from by decide +kernel) Z (C3 Z)) (aQ (bA 1 (show BN (["_law_low","_law_high","_law_label"]:List Str) from by decide +kernel) Z (C3 Z)) (aQ (bA 2 (show BN (["_law_low","_law_high","_law_label"]:List Str) from by decide +kernel) Z (C3 Z)) cR Z) Z) Z) Z Z)) (λ_ _ _ _ _=>fB) (λ_ _ _ _ _=>(bf 2)))
  (aL (aV (pY (fu (bT hr.bD) (aK aU (ao cA) aq (λ_ _=>rfl)) bC (aR _)) (pU (fu Gk (aK aU (ao cA) aq (λ_ _=>rfl)) (ao uQ) (by with_unfolding_all rfl)))))))))))),?_⟩
 have tsl:=ts.length;rw[AE] at tsl;refine aN λk hk=>?_;obtain⟨p,rest,rfl,ep⟩:=yK tv;have e0:atI (At (bR pl)::rest) 0=GT (At (bR pl)):=at0;push_cast[ep,e0];subst hk;refine aN λk hk=>?_;refine jH λkt ke hkt hke=>?_;push_cast;by_cases cl:bR pl = "below"
 ·rw[if_pos cl];subst hkt;cases pl with
  | low k2 pa pb=>
   obtain⟨⟨g1,g2⟩,i1,i2⟩:=hin;obtain⟨p2,vs2,e2,ep2,tt⟩:=aH.dR tv;cases e2;rw[ep] at ep2;cases ep2;cases tt with
   | cons t1 tt=>
    cases tt with
    | cons t2 tt=>
     cases tt with
     | cons t3 tt=>
      cases tt with
      | cons t4 tt=>
       cases tt;cases t2;refine aN λk hk=>?_;push_cast[ep];refine⟨sa,a,k2,_,xs,ok,ok2,ss,pa,rfl,es,ts,h60,t3,i1,g1,ω,ω,λH1 s1=>?_⟩;subst hk;have ep1:=s1 _ _ ep;push_cast[ep1];refine⟨sa,k2,b,_,xs,ok,ok2,ss,pb,rfl,s1 _ _ es,ts.same s1,h60,t4.same s1,i2,g2,hbn,ω,λH2 s2=>?_⟩;push_cast;exact q _ (s1.trans s2)
  | _=>exact absurd cl (Hr _ λ_ _ _ z=>by cases z)
 rw[if_neg cl];subst hke;show k _ _;subst hk;refine aN λk hk=>?_;refine jH λkt ke hkt hke=>?_;push_cast;refine⟨aM δ,λp1 hp1=>⟨rfl,rfl,?_⟩⟩;rw[show inV (At (bR pl)) [At (A8 "pick"),At (A8 "table")]=endP pl from Xm pl];have s1:=au (o:=By [At (A8 "pick"),At (A8 "table")]) hp1;have ep1:=s1 _ _ ep;generalize upd H p1 (By [At (A8 "pick"),At (A8 "table")])=H1 at s1 ep1 |-;by_cases ce:endP pl=true
 ·rw[if_pos ce];subst hkt;push_cast;exact q _ s1
 rw[if_neg ce];subst hke;show k _ _;subst hk;refine aN λk hk=>?_;refine jH λkt ke hkt hke=>?_;push_cast;by_cases cm:bR pl = "mask"
 ·rw[if_pos cm];subst hkt;cases pl with
  | msk l r=>
   obtain⟨l2,rfl⟩:=hin;obtain⟨p2,vs2,e2,ep2,tt⟩:=aH.dR tv;cases e2;rw[ep] at ep2;cases ep2;cases tt with
   | cons t1 tt=>
    cases tt with
    | cons t2 tt=>
     cases tt with
     | cons t3 tt=>
      cases tt;cases t2;obtain⟨p3,vs3,rfl,ep3,tt3⟩:=aH.dR t3;cases tt3 with
      | cons t4 tt3=>
       cases t4;have ep31:=s1 _ _ ep3;push_cast[ep1,ep31];exact q _ s1
  | _=>exact absurd cm (Hq _ λ_ _ z=>by cases z)
 rw[if_neg cm];subst hke;show k _ _;subst hk;refine aN λk hk=>?_;have hp:isP pl=true:=by
  cases pl with
  | pick l=>exact absurd rfl ce
  | tab=>exact absurd rfl ce
  | low k p q=>exact absurd rfl cl
  | msk l r=>exact absurd rfl cm
  | _=>rfl
 obtain⟨l,hl,j0,hj0,hlj⟩:=row_end hin hp;obtain⟨Pw,hPw⟩:∃Pw:Nat->L2.St->Hp->Prop,Pw=λm σ H'=>∃(p':ID)(r:Pl),m=zO r/\Same H H'/\aH ok2 H' (.ref p') (plD r)/\lQ r=GT l/\σ=[GT (.ref sa),GT (.int (a:Int)),GT (.int (b:Int)),GT (.ref p'),GT (.str (bR pl)),Is,Is]:=⟨_,rfl⟩;refine Ft Pw (zO pl) (by rw[hPw];exact⟨p,pl,rfl,s1,tv.same s1,hl,rfl⟩) ?_;intro m σ H2 pw;rw[hPw] at pw;obtain⟨p',r,rfl,s2,tr,hr,rfl⟩:=pw;obtain⟨p'',rest2,e2,ep2⟩:=yK tr;cases e2;have e02:atI (At (bR r)::rest2) 0=GT (At (bR r)):=at0;push_cast[ep2,e02];refine⟨aM δ,λp3 hp3=>⟨rfl,rfl,?_⟩⟩;rw[show inV (At (bR r)) [At (A8 "is"),At (A8 "within")]=isP r from aej r];have s3:=au (o:=By [At (A8 "is"),At (A8 "within")]) hp3;have ep3:=s3 _ _ ep2;have tr3:=tr.same s3;have s23:=s2.trans s3;generalize upd H2 p3 (By [At (A8 "is"),At (A8 "within")])=H3 at s3 ep3 tr3 s23 |-;by_cases ci:isP r=true
 ·rw[if_pos ci];obtain⟨k5,r5,u5,e5,t5,h51,h52⟩:=Xj tr3 ci;obtain⟨p5,rest5,rfl,e55⟩:=yK t5;refine⟨λσ' H'=>∃m',m'<zO r/\Pw m' σ' H',λ_ _ h=>h,?_⟩;push_cast[e5];exact⟨zO r5,h52,by rw[hPw];exact⟨p5,r5,rfl,s23,t5,h51 ▸ hr,rfl⟩⟩
 rw[if_neg ci];have er:=Vb hr (Bool.eq_false_iff.mpr ci);subst er;clear hPw Pw;subst hk;obtain⟨p6,vs6,e6,ep6,tt⟩:=aH.dR tr3;cases e6;cases tt with
 | cons t1 tt=>
  cases tt with
  | cons t2 tt=>
   cases tt;cases t1;cases t2;refine aN λk hk=>?_;have es3:=s23 _ _ es;push_cast[es3];refine dX λR hR=>?_;push_cast[es3];refine λra hra=>?_;rw[abB ω ω];obtain⟨ys,hys⟩:∃ys,ys=(xs.drop a).take (b-a):=⟨_,rfl⟩;have tys:aG ok H ys ((sls ss a b).map stD):=by rw[hys,<- Ou];exact(ts.X7 a).Uh (b-a)
   have hsl:=qW (ss:=ss) (a:=a) hbn;have hyl:=tys.length;rw[AE,hsl] at hyl;rw[<- hys];have s4:=au (o:=AT ys) hra;have e4:upd H3 ra (AT ys) ra=_:=aA;have s24:=s23.trans s4;have ep64:=s4 _ _ ep6;generalize upd H3 ra (AT ys)=H4 at s4 e4 s24 ep64 |-;have tys4:=tys.same s24;obtain⟨Pc,hPc⟩:∃Pv:Nat->List V->L2.St->Hp->Prop,Pv=λ(i:Nat) acc τ H'=>∃(o0 o1 o2:Option V),H'=H4/\acc=(((sls ss a b).take i).map (·.2.2)).map As/\τ=[o0,o1,o2]:=⟨_,rfl⟩;refine jr hR (xs:=ys) (aM ω) Pc (by rw[hPc];exact⟨_,_,_,rfl,rfl,rfl⟩) ?_ ?_ ?_ ?_
   ·intro i acc τ H3 pc;rw[hPc] at pc;obtain⟨_,_,_,rfl,rfl,_⟩:=pc;rw[AE,AE];exact C9 _ _
   ·intro i acc τ H3 pc;rw[hPc] at pc;obtain⟨_,_,_,rfl,_⟩:=pc;exact SqL.of e4
   ·intro i y acc τ H3 hy pc;rw[hPc] at pc;obtain⟨o0,o1,o2,rfl,rfl,rfl⟩:=pc;obtain⟨d2,hd2,td2⟩:=tys4.get hy;rw[AQ] at hd2;obtain⟨⟨lo,hi,l⟩,hs,rfl⟩:=BU.mp hd2;obtain⟨q2,vs,rfl,eq2,tvs⟩:=aH.dR td2;cases aG.ints (is:=[lo,hi,l]) tvs;push_cast[eq2];rw[hPc];exact⟨_,_,_,rfl,by rw[take_snoc hs,A6,A6];rfl,rfl⟩
   intro acc τ H3 d2 pc hd2;rw[hPc] at pc;obtain⟨o0,o1,o2,rfl,rfl,rfl⟩:=pc;rw[show ys.length=(sls ss a b).length by omega,EI,Jw hbn];have s5:=au (o:=AT (((rng a b).map (lbl ss)).map As)) hd2;have e5:upd H3 d2 (AT (((rng a b).map (lbl ss)).map As)) d2=_:=aA;have ep65:=s5 _ _ ep64;generalize upd H3 d2 (AT (((rng a b).map (lbl ss)).map As))=H5 at s5 e5 ep65 |-;clear hPc Pc hR;subst hk;push_cast[ep65,e5];refine⟨rfl,Mw _,?_⟩;rw[P0 (DD.mpr ⟨j0,hj0,hlj⟩)];exact q _ (s24.trans s5)
abbrev gm:List Str:=["_law_stretches_here","_law_weights_here","_law_prices_here","_law_many","_law_stays","_law_found"]
abbrev bx:Stmt:=top 43
theorem nJ:aZ gm q1_ (aj bx):=⟨rfl,rfl,rfl,ψ,rfl,ψ,ψ⟩
theorem cW:NM_ gm bx 0 "_law_stretches_here":=.of ψ
theorem gP:NM_ gm bx 1 "_law_weights_here":=.of ψ
theorem lR:NM_ gm bx 2 "_law_prices_here":=.of ψ
theorem rY:NM_ gm bx 3 "_law_many":=.of ψ
theorem Cv:NM_ gm bx 4 "_law_stays":=.of ψ
theorem cI:NM_ gm bx 5 "_law_found":=.of ψ
theorem pA:GI_ bx "_law_best_runs":=ψ
theorem vz:GI_ bx "_law_cost":=ψ
theorem pq:GI_ bx "_law_is_in_runs":=ψ
theorem wC:GI_ bx "bool":=ψ
theorem uc:GI_ bx "is_plan":=ψ
theorem iZ:GI_ bx "isinstance":=ψ
theorem mU:GI_ bx "least_in_runs":=ψ
theorem oW:GI_ bx "len":=ψ
theorem mR:GI_ bx "list":=ψ
theorem vy:GI_ bx "tuple":=ψ
theorem Hg:Bn "_law_told_right" := ⟨ψ,ψ⟩
theorem aaC(hB:∀x:Str,x∈BLs->mg x=Is)(CLeastInRuns:Cal P w K mg base "least_in_runs" 8 q7_ zc)(CZBestRuns:Cal P w K mg base "_law_best_runs" 6 q1_ zj)(CIsPlan:Cal P w K mg base "is_plan" 4 q20_ DW)(CZIsInRuns:Cal P w K mg base "_law_is_in_runs" 61 q2_ (mz 60))(CZCost:Cal P w K mg base "_law_cost" 4 q6_ U3)(F:Fun K "_law_told_right" "_law_told_right" bx f fd):cQ P w K mg base CX0 63 f fd q1_ Hz:=by
 refine F.okz nJ λcdv A outer s H vs Q E hr h=>?_;obtain⟨sa,wa,z,sxs,ok,ss,ws,zs,rfl,es,tss,h0,h60,ew,hwl,h5,hnn,q⟩:=h;refine⟨_,(aD (K3 (i:=3) (j:=4) Z nJ.nd Z Z δ Z Z (ak (bW bM oW (hB "len" eV) B1 eY (ak (ao cW) aB Z) Z Z) (ak (bF (ak (w6 vK mR (hB "list" yN) boot_list Qt (ak (ao cW) aB Z) Z Z) (ak (w6 vK mR (hB "list" yN) boot_list Qt (ak (ao gP) aB Z) Z Z) aB Z) Z)) aB Z) Z) (by rfl))
  (aD (aX cI nJ.nd (bw CLeastInRuns (hr.mono δ) mU Dj (ak (ao cW) (ak (ao gP) (ak (ao lR) aB Z) Z) Z) Z Z) Z (.inl Z))
  (aD (dh (Gg (zM (tG (pR (bW mZ iZ (hB "isinstance" gZ) Iy g8 (ak (ao cI) (ak (Ir "tuple" vy (hB "tuple" vm) boot_tuple vL) aB Z) Z) Z Z) (λ_=>rfl))) (zM (bh (pZ hr.bD) (bW bM oW (hB "len" eV) B1 eY (ak (ao cI) aB Z) Z Z) aq (aR _)) (v7 (pR (bW mZ iZ (hB "isinstance" gZ) Iy g8 (ak (aK aU (ao cI) aq (λ_ _=>rfl)) (ak (Ir "bool" wC (hB "bool" Pq) boot_bool Qu) aB Z) Z) Z Z) (λ_=>rfl)))))) (aL (aV mH)) cu)
  (aD (dh (Gg (zM (bh (pZ hr.bD) (aK aU (ao cI) aq (λ_ _=>rfl)) (pX hr.gG (bw CZBestRuns (hr.mono δ) pA J8 (ak (ao cW) (ak (ao gP) (ak (ao lR) aB Z) Z) Z) Z Z) (bF (ak aq (ak (ao rY) aB Z) Z)) (λ_ _=>rfl)) (aR _)) (v7 (bh (aay hr.adC) (bF (ak (ao cW) (ak (ao gP) aB Z) Z)) (ao Cv) (aR _))))) (aL (aV mH)) cu)
  (aD (dh (Gg (zM (bh Wi (bw CIsPlan (hr.mono δ) uc Yq (ak (ao cW) (ak (aK aU (ao cI) aq (λ_ _=>rfl)) aB Z) Z) Z Z) mH (aR _)) (v7 (tG (pR (bw CZIsInRuns (hr.mono δ) pq qM (ak (ao cW) (ak aq (ak (ao rY) (ak (aK aU (ao cI) aq (λ_ _=>rfl)) aB Z) Z) Z) Z) Z Z) (λ_=>rfl)))))) (aL (aV mH)) cu)
  (aL (aV (fu (bT hr.bD) (bw CZCost (hr.mono δ) vz abm (ak (ao cW) (ak (ao gP) (ak (ao lR) (ak (aK aU (ao cI) aq (λ_ _=>rfl)) aB Z) Z) Z) Z) Z Z) (aK aU (ao cI) aq (λ_ _=>rfl)) (aR _))))))))),?_⟩
 have hsl:=tss.length;rw[AE] at hsl;have ts:∀{H':Hp},Same H H'->aH (λ_=>True) H' (.ref sa) (.list (ss.map stD)):=λs'=>.lst trivial (s' _ _ es) ω ((tss.same s').keep λa o _ e=>⟨trivial,e⟩);have few:Few zs:=λx hx=>by have:=h5.2.2 x hx;omega
 refine aN λk hk=>?_;push_cast[es,ew];refine⟨sxs,.inl (SqL.of es),λa1 ha1=>?_⟩;have s1:=au (o:=AT sxs) ha1;have e1:upd H a1 (AT sxs) a1=GT (AT sxs):=aA;generalize upd H a1 (AT sxs)=H1 at s1 e1 |-;refine⟨ws.map As,.inl (SqL.of (s1 _ _ ew)),λa2 ha2=>⟨aM δ,λa3 ha3=>?_⟩⟩;have s2:=au (o:=AT (ws.map As)) ha2;have e2:upd H1 a2 (AT (ws.map As)) a2=GT (AT (ws.map As)):=aA;have s3:=au (o:=By [AS a1,AS a2]) ha3;have e3:upd (upd H1 a2 (AT (ws.map As))) a3 (By [AS a1,AS a2]) a3=GT (By [AS a1,AS a2]):=aA;replace e2:=s3 _ _ e2;have sA:=s1.trans (s2.trans s3);replace e1:=(s2.trans s3) _ _ e1;generalize upd (upd H1 a2 (AT (ws.map As))) a3 (By [AS a1,AS a2])=HA at sA e1 e2 e3 |-;have tst:aH (λ_=>True) HA (.ref a3) (Fz ss ws):=.tup trivial e3 (show 2<=1000000 by decide) (.cons (.lst trivial e1 ω ((tss.same sA).keep λa o _ e=>⟨trivial,e⟩)) (.cons (.lst trivial e2 (by rw[AE];omega) (lZ ws)) .nil));subst hk;refine aN λk hk=>?_;push_cast;refine⟨sa,wa,z,sxs,ok,ss,ws,zs,rfl,sA _ _ es,tss.same sA,h0,h60,sA _ _ ew,hwl,⟨sA _ _ h5.1,h5.2⟩,λpt pv0 HB N pl sB ept tp gp hN=>?_⟩;subst hk;refine aN λk hk=>?_;push_cast[ept];rw[if_neg (show ¬(!decide (((2:Nat):Int)=2))=true by decide)];subst hk;have sAB:=sA.trans sB;refine aN λk hk=>?_;refine jH λkt ke hkt hke=>?_;push_cast[ept];push_cast[rdA];refine⟨sa,wa,z,sxs,ok,ss,ws,zs,rfl,sAB _ _ es,tss.same sAB,h0,h60,sAB _ _ ew,hwl,⟨sAB _ _ h5.1,h5.2⟩,λbd HC m M kvs sC bt=>?_⟩;push_cast[rdA];refine⟨aM δ,λp5 hp5=>?_⟩;rw[hsl];have s5:=au (o:=By [As 0,As (ss.length:Int)]) hp5;have e5:upd HC p5 (By [As 0,As (ss.length:Int)]) p5=GT (By [As ((0:Nat):Int),As (ss.length:Int)]):=aA;have bt5:=bt.same s5;have sBD:=sC.trans s5;generalize upd HC p5 (By [As 0,As (ss.length:Int)])=HD at s5 e5 bt5 sBD |-;refine⟨bd,_,rfl,lF.k2 bt5.e e5 (bt5.num (0,ss.length) ⟨by show 0<ss.length;omega,AU _⟩),?_⟩;have eNM:N 0 ss.length=M 0 ss.length:=QV (ss:=ss) (ws:=ws) (zs:=zs) (λk=>Qd hnn k) (λk _=>Qd (λx hx=>by have:=h5.2.2 x hx;omega) k) hN (λp h1 h2=>bt5.one p ⟨h1,h2⟩) (λp h1 h2=>bt5.lst p ⟨h1,h2⟩) _ 0 ss.length Z ω (AU _);have sAD:=sAB.trans sBD;push_cast;rw[<- eNM];rw[if_neg ζ];refine⟨aM δ,λa5 ha5=>?_⟩;have s6:=au (o:=By [AS sa,AS wa]) ha5;have e6:upd HD a5 (By [AS sa,AS wa]) a5=GT (By [AS sa,AS wa]):=aA;have sBE:=sBD.trans s6;have sAE:=sAB.trans sBE;generalize upd HD a5 (By [AS sa,AS wa])=HE at s6 e6 sBE sAE |-;refine⟨λ_=>True,λ_=>True,Fz ss ws,.tup trivial e6 (show 2<=1000000 by decide) (.cons (ts sAE) (.cons (.lst trivial (sAE _ _ ew) (by rw[AE];omega) (lZ ws)) .nil)),tst.same (sB.trans sBE),(Dy ss ws).1,(Dy ss ws).2,false,rfl,?_⟩;rw[if_neg δ];subst hke;show k _ _;subst hk;refine aN λk hk=>?_;refine jH λkt ke hkt hke=>?_;have eptE:=sBE _ _ ept;push_cast[eptE]
 have tpE:=tp.same sBE;have hps:=gp.z;refine⟨.ref sa,pv0,λ_=>True,ss,plG pl,rfl,Ww,ts sAE,by rw[Ei];exact tpE,wg pl,ω,ω,by rw[rz];omega,λHF sF=>?_⟩;have pv:=gp.v;rw[Ef] at pv;rw[wj,pv.okP];have eptF:=sF _ _ eptE;have sAF:=sAE.trans sF;push_cast[eptF];refine⟨sa,0,ss.length,pv0,sxs,ok,λ_=>True,ss,pl,rfl,sAF _ _ es,tss.same sAF,h60,tpE.same sF,gp.r,ω,AU _,ω,λHG sG=>?_⟩;have eptG:=sG _ _ eptF;have sAG:=sAF.trans sG;push_cast;subst hke;show k _ _;subst hk;push_cast[eptG];refine⟨.ref sa,pv0,wa,z,λ_=>True,ss,ws,zs,pl,rfl,Ww,ts sAG,(tpE.same sF).same sG,sAG _ _ ew,hwl,sAG _ _ h5.1,h5.2.1,few,ω,ω,pv.ok,λHH sH=>?_⟩;have eptH:=sH _ _ eptG;push_cast[eptH];have psum:=gp.s;rw[Ef] at psum;rw[psum,decide_eq_true rfl];exact q _ (sAG.trans sH)
abbrev Ca:List Str:=["_law_script","_law_k","_law_tape_here","_law_wide","_law_stretches_here","_law_many","_law_some","_law_weights_here","_law_prices_here"]
abbrev jW:Stmt:=top 44
theorem uI:aZ Ca ["_law_script"] (aj jW):=⟨rfl,rfl,rfl,ψ,rfl,ψ,ψ⟩
theorem WX:NM_ Ca jW 0 "_law_script":=.of ψ
theorem Mj:NM_ Ca jW 1 "_law_k":=.of ψ
theorem GD:NM_ Ca jW 2 "_law_tape_here":=.of ψ
theorem Mi:NM_ Ca jW 3 "_law_wide":=.of ψ
theorem Mh:NM_ Ca jW 4 "_law_stretches_here":=.of ψ
theorem WW:NM_ Ca jW 5 "_law_many":=.of ψ
theorem GC:NM_ Ca jW 6 "_law_some":=.of ψ
theorem WT:NM_ Ca jW 7 "_law_weights_here":=.of ψ
theorem WR:NM_ Ca jW 8 "_law_prices_here":=.of ψ
theorem CZ:GI_ jW "_law_run_many":=ψ
theorem CW:GI_ jW "_law_spanned":=ψ
theorem yF:GI_ jW "_law_stretches":=ψ
theorem M8:GI_ jW "_law_tape":=ψ
theorem yE:GI_ jW "_law_told_right":=ψ
theorem JH:GI_ jW "len":=ψ
theorem JG:GI_ jW "min":=ψ
theorem Bm:GI_ jW "range":=ψ
def Oq(K:AD):Sp:=λvs H Q _=>∃(a:ID)(ns:List Int),vs=[.ref a]/\SqL K H a (ns.map As)/\ns.length<=63/\∀H',Q (.bl true) H'
def prD(x:List Int×List Int):A0:=.tuple [.list (x.1.map A0.int),.tuple (x.2.map A0.int)]
theorem acR(hB:∀x:Str,x∈BLs->mg x=Is)(CZTape:Cal P w K mg base "_law_tape" 2 q10_ (UW K))(CZRunMany:Cal P w K mg base "_law_run_many" 3 ["_law_tape_here"] DN)(CZStretches:Cal P w K mg base "_law_stretches" 3 q0_ KD)(CZSpanned:Cal P w K mg base "_law_spanned" 3 q13_ vV)(CZWeights:Cal P w K mg base "_law_weights" 3 q0_ Dz)(CZPrices:Cal P w K mg base "_law_prices" 3 q0_ DQ)(CZToldRight:Cal P w K mg base "_law_told_right" 63 q1_ Hz)
  (F:Fun K "law" "law" jW f fd):cQ P w K mg base CX0 64 f fd ["_law_script"] (Oq K):=by
 refine F.okz uI λcdv A outer s H vs Q E hr h=>?_;obtain⟨a,ns,rfl,hS,h63,q⟩:=h;refine⟨_,(aD (jm Cb Z (mG Bm (hB "range" fH) (ak (aP aY aq (bW (wO Z) JG (hB "min" Ai) boot_min BJ (ak aq (ak (bW j6 JH (hB "len" eV) B1 eY (ak (ao WX) aB Z) Z Z) aB Z) Z) Z Z)) aB Z) Z) (cV Mj uI.nd (.inl Z))
  (aD (aX GD uI.nd (bw CZTape (hr.mono δ) M8 abl (ak (ao WX) (ak (ao Mj) aB Z) Z) Z Z) Z (.inl Z))
  (aD (aX Mi uI.nd (bw CZRunMany (hr.mono δ) CZ Nt (ak (ao GD) aB Z) Z Z) Z (.inl Z))
  (aD (aX Mh uI.nd (bw CZSpanned (hr.mono δ) CW Nq (ak (ao GD) (ak (bw CZStretches (hr.mono δ) yF Hh (ak (ao GD) (ak (pW (bh (bT hr.bD) (ao Mj) aq (aR _)) (ao Mi) (bW (wO Z) JG (hB "min" Ai) boot_min BJ (ak (ao Mi) (ak aq aB Z) Z) Z Z)) aB Z) Z) Z Z) aB Z) Z) Z Z) Z (.inl Z))
  (aD (aX WW uI.nd (bW bM JH (hB "len" eV) B1 eY (ak (ao Mh) aB Z) Z Z) Z (.inl Z))
  (aD (yJ (NX:=Ca) (kX:=(aj jW).names) ["_law_turn","_law_tape_here","_law_many"] [Is,GT 2,GT 5] GC uI.nd Z Z ⟨rfl,ψ,ψ,ψ,ψ⟩ Z (mG Bm (hB "range" fH) (ak aq aB Z) Z) (λ_ _ _ _ _=>(bA 0 (show BN (["_law_turn","_law_tape_here","_law_many"]:List Str) from by decide +kernel) Z (C3 Z))) (λ_ _ _ _ _=>fB) (λ_ _ _ _ _=>(bF (ak (bw CZWeights (hr.mono δ) Z Np (ak (bf 1) (ak (bf 2) aB Z) Z) Z Z) (ak (bw CZPrices (hr.mono δ) Z Tj (ak (bf 1) (ak aq aB Z) Z) Z Z) aB Z) Z))))
  (aL (jm Cb Z (cj (pW (bh xg (ao WW) aq (aR _)) (aP aY (ao GC) (fY zB (ao GC) qZ (dZ aq))) (fY zB (ao GC) qZ (dZ aq)))) (fj (n:=2) Z (aQ (cV WT uI.nd (.inl Z)) (aQ (cV WR uI.nd (.inl Z)) cR Z) Z) Z Z)
  (aL (dh (tG (pR (bw CZToldRight (hr.mono δ) yE Hg (ak (ao Mh) (ak (ao WT) (ak (ao WR) aB Z) Z) Z) Z Z) (λ_=>rfl))) (aL (aV mH)) cu)) (λ_=>rfl)))))))) (λ_=>rfl))
  (aL (aV mH))),?_⟩
 refine aN λk hk=>?_;refine mX λR hR=>?_;push_cast[Aq];refine⟨_,.inl hS,?_⟩;rw[AE];have m6:(0:Int)<=1+(if (ns.length:Int)<3 then (ns.length:Int) else 3)/\1+(if (ns.length:Int)<3 then (ns.length:Int) else 3)<=4:=by
  split <;> omega
 refine⟨ω,ω,?_⟩;obtain⟨Pv,hPv⟩:∃Pv:Nat->L2.St->Hp->Prop,Pv=λ(i:Nat) σ H'=>Same H H'/\∃o1 o2 o3 o4 o5 o6 o7 o8,σ=[GT (.ref a),o1,o2,o3,o4,o5,o6,o7,o8]:=⟨_,rfl⟩;refine XC hR Pv (by rw[hPv];exact⟨Same.refl _,_,_,_,_,_,_,_,_,rfl⟩) ?_ ?_
 ·intro i σ H1 hi pv;rw[hPv] at pv;obtain⟨s1,o1,o2,o3,o4,o5,o6,o7,o8,rfl⟩:=pv;refine aN λk2 hk2=>?_;push_cast;refine⟨a,ns,(0:Int)+(i:Int),rfl,s1.seq hS,ω,ω,λp H2 hp s2 tp2=>?_⟩;push_cast;have sx2:bY p H1 H2:=s2.x;subst hk2;refine aN λk2 hk2=>?_;push_cast;refine⟨p,0,rfl,tp2,δ,δ,λm H3 m1 m30 s3 tp3=>?_⟩;push_cast;subst hk2;refine aN λk2 hk2=>?_;have nxt:∀(m2:Nat),1<=m2->m2<=30->KD [AS p,As (m2:Int)] H3 (λx H1=>vV [AS p,x] H1 (λx H1=>k2 [GT (.ref a),GT (.int (0+(i:Int))),GT (.ref p),GT (.int (m:Int)),GT x,o5,o6,o7,o8] H1) E0) E0:=by
   intro m2 hm1 hm7;refine⟨p,(m2:Int),4,rfl,tp3,δ,δ,ω,ω,λl ss H6 s6 tp6 tr6 hsl hrow hfst=>?_⟩;have sx6:bY p H1 H6:=(sx2.trans s3).trans s6;refine⟨p,l,4+2000,ss,rfl,tp6,δ,δ,tr6,by intro z;subst z;simp at hsl;omega,hrow,hfst,λl' ss' H7 s7 tp7 tr7 hl7 hrow7=>?_⟩;have sx7:=sx6.trans s7;obtain⟨n,hn⟩:∃n,n=ss'.length:=⟨_,rfl⟩;have hn1:1<=n/\n<=30:=ω;clear tr6 hsl hrow hfst sx6 s6 tp6 hm1 hm7 hl7;have tr7':=tr7;cases tr7 with
   | lst ol el zl tsl=>
    rename_i xl;have hxl:=tsl.length;rw[AE,<- hn] at hxl;subst hk2;refine aN λk2 hk2=>?_;push_cast[el];subst hk2;refine aN λk2 hk2=>?_;refine dX λR2 hR2=>?_;push_cast[Aq];obtain⟨Pc,hPc⟩:∃Pv:Nat->List V->L2.St->Hp->Prop,Pv=λ(j:Nat) acc τ H'=>∃(pr:List (List Int×List Int)) (o0:Option V),bY p H7 H'/\bQ H' p (3000+200*j)/\pr.length=j/\aG (·≠p) H' acc (pr.map prD)/\(∀x∈pr,x.1.length=n/\x.2.length=5/\(∀z∈x.2,1<=z/\z<=99)/\∀w∈x.1,0<=w)/\τ=[o0,GT (.ref p),GT (.int (n:Int))]:=⟨_,rfl⟩;refine⟨δ,δ,?_⟩;refine G9 (n:=2) hR2 (aM δ) Pc (by rw[hPc,hxl];exact⟨[],_,bY.refl _ _,tp7.le δ,rfl,.nil,(λx h=>nomatch h),rfl⟩) ?_ ?_ ?_
    ·intro j acc τ H8 pc;rw[hPc] at pc;obtain⟨pr,_,_,_,hl,ht,_⟩:=pc;have:=ht.length;rw[AE] at this;omega
    ·intro j acc τ H8 hj pc;rw[hPc] at pc;obtain⟨pr,o0,s8,tp8,hl,ht,hp8,rfl⟩:=pc;push_cast;refine⟨p,n,3000+200*j,rfl,tp8,ω,ω,ω,λwa ws H9 s9 tp9 nwa hwa ewa hwl hwb=>?_⟩;push_cast;refine⟨p,3000+200*j+130,rfl,tp9,ω,ω,λza zs H10 s10 tp10 nza hza eza hzl hzb=>?_⟩;push_cast;refine⟨aM δ,λta hta=>?_⟩;have s11:=au (o:=By [AS wa,AS za]) hta;have e11:upd H10 ta (By [AS wa,AS za]) ta=GT (By [AS wa,AS za]):=aA;generalize upd H10 ta (By [AS wa,AS za])=H11 at s11 e11 |-;rw[hPc];have sx11:=s10.trans s11.x;refine⟨pr++[(ws,zs)],_,s8.trans (s9.trans sx11),(tp10.same s11).le ω,by rw[AV,hl];rfl,?_,?_,rfl⟩
     ·rw[A6];refine(ht.Ec (s9.trans sx11)).append (.cons (.tup (tp10.ne hta) e11 (show 2<=1000000 by decide) (.cons (.lst nwa (sx11 _ _ nwa ewa) (by rw[AE];omega) (lZ ws)) (.cons (.tup nza (s11 _ _ eza) (by rw[AE];omega) (lZ zs)) .nil))) .nil)
     intro x hx;rcases Cf.mp hx with hx|hx
     ·exact hp8 x hx
     rw[AL.mp hx];exact⟨hwl,hzl,hzb,λw hw=>(hwb w hw).1⟩
    intro acc τ H8 d pc hd;rw[hPc] at pc;obtain⟨pr,o0,s8,tp8,hl,ht,hp8,rfl⟩:=pc;have s9:=au (o:=AT acc) hd;have e9:upd H8 d (AT acc) d=GT (AT acc):=aA;have nd:=tp8.ne hd;generalize upd H8 d (AT acc)=H9 at s9 e9 |-;have sx9:=sx7.trans (s8.trans s9.x);have ht9:=ht.same s9;have tr9:=(tr7'.Ec s8).same s9;have nw9:gF (·≠p) H9:=(tp8.same s9).newOk;have hal:=ht.length;rw[AE,hl] at hal;clear s8 tp8 s9 tsl ht;subst hk2;push_cast;refine mX λR3 hR3=>?_;push_cast[e9];have body:∀(d3:ID)(H11:Hp)(ys:List V)(prs:List (List Int×List Int)),Same H9 H11->H11 d3=GT (AT ys)->aG (·≠p) H11 ys (prs.map prD)->(∀x∈prs,x.1.length=n/\x.2.length=5/\(∀z∈x.2,1<=z/\z<=99)/\∀w∈x.1,0<=w)->R3 (Itl K d3) H11:=by
     intro d3 H11 ys prs s11 e11 t11 hpr;obtain⟨Pi,hPi⟩:∃Pv:Nat->L2.St->Hp->Prop,Pv=λ(t:Nat) σ H'=>∃(o7 o8:Option V),Same H11 H'/\σ=[GT (.ref a),GT (.int (0+(i:Int))),GT (.ref p),GT (.int (m:Int)),GT (.ref l'),GT (.int (xl.length:Int)),GT (.ref d),o7,o8]:=⟨_,rfl⟩;refine Es (a:=d3) hR3 (xs:=ys) Pi (by rw[hPi];exact⟨_,_,Same.refl _,rfl⟩) ?_ ?_ ?_
     ·intro t σ H12 _ pi;rw[hPi] at pi;obtain⟨_,_,s12,_⟩:=pi;exact SqL.of (s12 _ _ e11)
     ·intro t y σ H12 hy pi;rw[hPi] at pi;obtain⟨o7,o8,s12,rfl⟩:=pi;obtain⟨dd,hdd,tdd⟩:=t11.get hy;rw[AQ] at hdd;obtain⟨x,hx,rfl⟩:=BU.mp hdd;obtain⟨x1,x2,x3,x4⟩:=hpr x (BB hx);obtain⟨py,vs,rfl,epy,tvs⟩:=aH.dR tdd;cases tvs with
      | cons tw tvs=>
       cases tvs with
       | cons tz tvs=>
        cases tvs;obtain⟨za,zv,rfl,eza,tza⟩:=aH.dR tz;cases aG.ints tza;cases tw with
        | lst ow ew zw tws=>
         cases aG.ints tws;rename_i wa;have epy12:=s12 _ _ epy;push_cast[epy12];have tr12:=(tr9.same s11).same s12;cases tr12 with
         | lst ol2 el2 zl2 tsl2=>
          refine⟨l',wa,za,_,(·≠p),ss',x.1,x.2,rfl,el2,tsl2,ω,ω,s12 _ _ ew,ω,⟨s12 _ _ eza,x2,x3⟩,x4,λH13 s13=>⟨true,rfl,?_⟩⟩;rw[if_neg δ,hPi];exact⟨_,_,s12.trans s13,rfl⟩
     intro σ H12 pi;rw[hPi] at pi;obtain⟨o7,o8,s12,rfl⟩:=pi;show Pv (i+1) _ _;rw[hPv];exact⟨s1.trans (Oz (sx9.trans (s11.trans s12).x) hp),_,_,_,_,_,_,_,_,rfl⟩
    have hcut:jT acc Is (GT 1)=acc.take 1:=adn acc 1 ω;rw[hcut];have ht1:aG (·≠p) H9 (acc.take 1) ((pr.take 1).map prD):=by rw[map_take];exact ht9.take 1
    have hp1:∀x∈pr.take 1,x.1.length=n/\x.2.length=5/\(∀z∈x.2,1<=z/\z<=99)/\∀w∈x.1,0<=w:=λx hx=>hp8 x (LZ hx);split
    ·intro d2 hd2;have s10:=au (o:=AT (acc.take 1)) hd2;have e10d:=s10 _ _ e9;generalize upd H9 d2 (AT (acc.take 1))=H10 at s10 e10d |-;push_cast[e10d];refine⟨aM (by rw[FF];omega),λd3 hd3=>?_⟩;have s11:=s10.trans (au (o:=AT (acc++acc.take 1)) hd3);refine body d3 _ _ (pr++pr.take 1) s11 aA ?_ λx hx=>(Cf.mp hx).elim (hp8 x) (hp1 x);rw[A6];exact(ht9.same s11).append (ht1.same s11)
    intro d2 hd2;have s10:=au (o:=AT (acc.take 1)) hd2;exact body d2 _ _ (pr.take 1) s10 aA (ht1.same s10) hp1
  push_cast;split
  ·exact nxt m m1 m30
  split
  ·exact nxt 9 δ δ
  exact nxt m m1 m30
 intro σ H1 pv;rw[hPv] at pv;obtain⟨s1,o1,o2,o3,o4,o5,o6,o7,o8,rfl⟩:=pv;show k _ _;subst hk;push_cast;exact q _
end
theorem all_mk{l:PySem.W.OpenLaw}{w:A9}{K:AD}{h:Heap}{mg:Str->Option Ap}{fa:ID}{ckMostInMask:Tok}{ckMostInTable:Tok}{aTests:ID}{nTests:Nat}{slTests:Array (Option Ap)}{kTests0 kTests1 kTests2 kTests3 kTests4:Tok}(X:K.In h)(G:h.Ns CD mg)(hfa:mg "law" = GT (.ref fa))
  (d1:DB K "is_number" jl)
  (d2:DB K "numbers_across" fX)
  (d3:DB K "labels_left" jE)
  (d4:DB K "parts_some" fW)
  (d5:DB K "is_step" dH)
  (d6:DB K "plans_in" fV)
  (d7:DB K "is_plan" gA)
  (d8:DB K "step_costs" cO)
  (d9:DB K "word_of_test" jD)
  (d10:DB K "tests_in_order" bG)
  (d11:DB K "row_by" lO)
  (d12:DB K "row_cost" dg)
  (d13:DB K "rows_for" eU)
  (d14:DB K "runs_of_row" iD)
  (d15:DB K "ways_of_run" aW)
  (d16:DB K "bounds_of" mF)
  (d17:DB K "least_by" dG)
  (d18:DB K "leasts_of_runs" bH)
  (d19:DB K "least_in_runs" cg)
  (d20:DB K "_law_cell_at" mD)
  (d21:DB K "_law_tape" nO)
  (d22:DB K "_law_take" nP)
  (d23:DB K "_law_stretches" bN)
  (d24:DB K "_law_weights" gw)
  (d25:DB K "_law_prices" gO)
  (d26:DB K "_law_way" wX)
  (d27:DB K "_law_cost" fU)
  (d28:DB K "_law_run_many" kh)
  (d29:DB K "_law_run_ways" bK)
  (d30:DB K "_law_row_cost" bO)
  (d31:DB K "_law_best_runs" bL)
  (d32:DB K "_law_is_in_runs" cN)
  (d33:DB K "_law_spanned" eO)
  (d34:DB K "_law_told_right" bx)
  (d35:DB K "law" jW)
  (z:NS K BLs)
  (w1:nsIn K CD "MOST_IN_MASK" = GT (GT (.int 64 ckMostInMask)))
  (w2:nsIn K CD "MOST_IN_TABLE" = GT (GT (.int 200 ckMostInTable)))
  (t1:nsIn K CD "TESTS" = GT (GT (.ref aTests)))(u1:K.lookup aTests=GT ⟨.type "tuple",Is,.seq #[.str "is" kTests0,.str "within" kTests1,.str "below" kTests2,.str "mask" kTests3,.str "table" kTests4] nTests,slTests⟩) :
  ∃fd:D6,(∀(s:AA)(v:Ap),BindsTo s fd ⟨[v],[]⟩ [("_law_script",v)])/\∀base:Heap,K.In base->base.Ns CD mg->cQ l.prog w K mg base CX0 64 fa fd ["_law_script"] (Oq K):=by
 obtain⟨fl,odl,anl,sll,ocl,kVl,dcl,pml,cdl,ctl,dl⟩:=d35;have e:=hfa.symm.trans (mg_of X G dl.a);cases e;obtain⟨_,_,DIsNumber⟩:=d1.d ["thing"] X G;obtain⟨_,_,DNumbersAcross⟩:=d2.d q8_ X G;obtain⟨_,_,DLabelsLeft⟩:=d3.d q8_ X G;obtain⟨_,_,DPartsSome⟩:=d4.d q15_ X G;obtain⟨_,_,DIsStep⟩:=d5.d q16_ X G;obtain⟨_,_,DPlansIn⟩:=d6.d q17_ X G;obtain⟨_,_,DIsPlan⟩:=d7.d q20_ X G;obtain⟨_,_,DStepCosts⟩:=d8.d q18_ X G;obtain⟨_,_,DWordOfTest⟩:=d9.d q21_ X G;obtain⟨_,_,DTestsInOrder⟩:=d10.d q4_ X G;obtain⟨_,_,DRowBy⟩:=d11.d q14_ X G;obtain⟨_,_,DRowCost⟩:=d12.d q9_ X G;obtain⟨_,_,DRowsFor⟩:=d13.d q4_ X G;obtain⟨_,_,DRunsOfRow⟩:=d14.d ["many"] X G;obtain⟨_,_,DWaysOfRun⟩:=d15.d q12_ X G;obtain⟨_,_,DBoundsOf⟩:=d16.d ["ways","numbers"] X G;obtain⟨_,_,DLeastBy⟩:=d17.d q19_ X G;obtain⟨_,_,DLeastsOfRuns⟩:=d18.d q7_ X G;obtain⟨_,_,DLeastInRuns⟩:=d19.d q7_ X G;obtain⟨_,_,DZCellAt⟩:=d20.d q10_ X G;obtain⟨_,_,DZTape⟩:=d21.d q10_ X G;obtain⟨_,_,DZTake⟩:=d22.d q0_ X G;obtain⟨_,_,DZStretches⟩:=d23.d q0_ X G;obtain⟨_,_,DZWeights⟩:=d24.d q0_ X G;obtain⟨_,_,DZPrices⟩:=d25.d q0_ X G;obtain⟨_,_,DZWay⟩:=d26.d q11_ X G;obtain⟨_,_,DZCost⟩:=d27.d q6_ X G;obtain⟨_,_,DZRunMany⟩:=d28.d ["_law_tape_here"] X G;obtain⟨_,_,DZRunWays⟩:=d29.d q3_ X G;obtain⟨_,_,DZRowCost⟩:=d30.d q5_ X G;obtain⟨_,_,DZBestRuns⟩:=d31.d q1_ X G;obtain⟨_,_,DZIsInRuns⟩:=d32.d q2_ X G;obtain⟨_,_,DZSpanned⟩:=d33.d q13_ X G;obtain⟨_,_,DZToldRight⟩:=d34.d q1_ X G;have DLaw:=dl.d ["_law_script"] X G λ_ _ _ _ _ _ us hl=>by obtain⟨z0,rfl⟩:=ln1 hl;rfl
 have cgMostInMask:mg "MOST_IN_MASK" = GT (.int 64 ckMostInMask):=mg_of X G w1;have cgMostInTable:mg "MOST_IN_TABLE" = GT (.int 200 ckMostInTable):=mg_of X G w2;have cgTests:mg "TESTS" = GT (.ref aTests):=mg_of X G t1;have ktTests:KTup K aTests ([("is" : Str),("within" : Str),("below" : Str),("mask" : Str),("table" : Str)].map At):=⟨_,_,_,u1,rfl,rfl,rfl,aM (show 5<=1000000 by decide),(.cons ⟨_,rfl⟩ (.cons ⟨_,rfl⟩ (.cons ⟨_,rfl⟩ (.cons ⟨_,rfl⟩ (.cons ⟨_,rfl⟩ .nil)))))⟩;have hB:∀x:Str,x∈BLs->mg x=Is:=λx hx=>PySem.W.mg_none_of X G (z.all x hx);refine⟨fnOf "law" "law" (iB jW) (fC jW) (aj jW) .none kVl dcl pml anl cdl ctl,λs v=>.of_eq rfl,λbase kb nb=>?_⟩;have CCell:=DZCellAt.cal (aaF (P:=l.prog) (w:=w) (base:=base) hB DZCellAt.fn);have CTape:=DZTape.cal (aaD hB CCell DZTape.fn);have CTake0:=DZTake.cal (QM (P:=l.prog) (w:=w) (mg:=mg) (base:=base));have CTake1:=DZTake.cal (Pb (n:=0) hB δ CTake0 DZTake.fn);have CTake2:=DZTake.cal (Pb (n:=1) hB δ CTake1 DZTake.fn);have CSts:=DZStretches.cal (acQ hB CTake2 DZStretches.fn);have CSpan:=DZSpanned.cal (Ld hB CTake2 DZSpanned.fn);have CWts:=DZWeights.cal (Lb hB CTake2 DZWeights.fn);have CPrs:=DZPrices.cal (RG hB CTake2 DZPrices.fn);have CWay:=DZWay.cal (acP (P:=l.prog) (w:=w) (base:=base) hB DZWay.fn);have CLCost:=DZCost.cal (Wl hB CWay DZCost.fn);have CIn:=DPlansIn.cal (Lj (P:=l.prog) (w:=w) (base:=base) hB DPlansIn.fn);have CAcross:=DNumbersAcross.cal (RM (P:=l.prog) (w:=w) (base:=base) hB DNumbersAcross.fn);have CLabs:=DLabelsLeft.cal (aaE (P:=l.prog) (w:=w) (base:=base) hB DLabelsLeft.fn);have CNum:=DIsNumber.cal (Ws (P:=l.prog) (w:=w) (base:=base) hB DIsNumber.fn);have CSome:=DPartsSome.cal (Wr hB CLabs DPartsSome.fn);have CStep:=DIsStep.cal (RJ hB cgMostInMask cgMostInTable CNum CAcross CLabs CSome DIsStep.fn);have CIsP:=DIsPlan.cal (RK hB CStep CIn DIsPlan.fn);have CWordT:=DWordOfTest.cal (Wm (P:=l.prog) (w:=w) (mg:=mg) (base:=base) DWordOfTest.fn);have CTestsO:=DTestsInOrder.cal (Rz hB CWordT DTestsInOrder.fn);have CRowBy:=DRowBy.cal (Wq (P:=l.prog) (w:=w) (base:=base) hB DRowBy.fn);have CRowCost:=DRowCost.cal (Li (P:=l.prog) (w:=w) (base:=base) hB cgTests ktTests DRowCost.fn);have CRows:=DRowsFor.cal (Lh hB CTestsO CRowCost CRowBy DRowsFor.fn);have CStepC:=DStepCosts.cal (Wo (P:=l.prog) (w:=w) (base:=base) hB cgTests ktTests DStepCosts.fn);have CRunsOf:=DRunsOfRow.cal (JQ λn=>RD (n:=n) (P:=l.prog) (w:=w) (base:=base) hB DRunsOfRow.fn);have CWaysR:=DWaysOfRun.cal (Wn hB cgMostInMask cgMostInTable CAcross CLabs CStepC CRows DWaysOfRun.fn);have CLeastBy:=DLeastBy.cal (JQ λn:(Nat->Nat->Int)×(Nat->Nat->A0)=>Lp (N:=n.1) (T:=n.2) hB (DBoundsOf.cal (RL (N:=n.1) (P:=l.prog) (w:=w) (base:=base) hB DBoundsOf.fn)) DLeastBy.fn);have CLeasts:=DLeastsOfRuns.cal (Lk hB CRunsOf CWaysR CLeastBy DLeastsOfRuns.fn);have CLeastIn:=DLeastInRuns.cal (Ln hB CLeasts DLeastInRuns.fn);have CRunMany:=DZRunMany.cal (Lg hB CTake2 DZRunMany.fn)
 have CZRowCost:=DZRowCost.cal (IV (P:=l.prog) (w:=w) (base:=base) hB DZRowCost.fn);have CZRunWays:=DZRunWays.cal (Le hB CZRowCost DZRunWays.fn);have CZBest:=DZBestRuns.cal (IW hB CZRunWays DZBestRuns.fn);have CZInR:∀n,Cal l.prog w K mg base "_law_is_in_runs" (n+1) q2_ (mz n):=by
  intro n
  induction n with
  | zero=>exact DZIsInRuns.cal (Xk (P:=l.prog) (w:=w) (mg:=mg) (base:=base))
  | succ n ih=>exact DZIsInRuns.cal (acS hB ih DZIsInRuns.fn)
 have CTold:=DZToldRight.cal (aaC hB CLeastIn CZBest CIsP (CZInR 60) CLCost DZToldRight.fn);exact acR hB CTape CRunMany CSts CSpan CWts CPrs CTold DLaw.fn
theorem walk{l:PySem.W.OpenLaw}{q:AR}{loose:List Str}{XP:(Str->Option Ap)->Heap->Prop}{YP:A9->Heap->Prop}{d:DefRec}{K:Params->AD}(hn:l.most=GT 63)(hdf:d.params.defaults=[])
  (hY:∀(w:A9)(h:Heap),YP w h->(K w.params).In h)
   (F:∀(w:A9)(mg:Str->Option Ap)(fa:ID)(h:Heap),(K w.params).In h->h.Ns CD mg->mg d.name=GT (.ref fa) ->
   ∃fd:D6,(∀(s:AA)(u:Ap),BindsTo s fd ⟨[u],[]⟩ [("_law_script",u)])/\∀base:Heap,(K w.params).In base->base.Ns CD mg->cQ l.prog w (K w.params) mg base CX0 64 fa fd ["_law_script"] (Oq (K w.params))) :
  PySem.W.WalkO q loose XP YP l.row.toRowW d [] (λf vs=>PySem.call f vs):=
 L2.YJ (n:=63) (k:=64) (x := "_law_script") (CX:=λ_=>CX0) (sp:=λw=>Oq (K w.params)) hn δ hdf ⟨rfl,δ,δ,rfl⟩ hY F (λ_ _ a ns hl _ hS=>⟨a,ns,rfl,hS,hl,λ_=>rfl⟩) λ_ _ _ _ _ z=>z
end K30
namespace PySem.W.Fast
theorem tw10280467091177016386:True:=⟨⟩
theorem tw10609044923857790212:True:=⟨⟩
theorem tw11374852817377513060:True:=⟨⟩
theorem tw11753479965773765209:True:=⟨⟩
theorem tw11778552318827153194:True:=⟨⟩
theorem tw1214186745900915115:True:=⟨⟩
theorem tw12503387359778956496:True:=⟨⟩
theorem tw12993109873443610869:True:=⟨⟩
theorem tw13938426936241782987:True:=⟨⟩
theorem tw13949132156449495417:True:=⟨⟩
theorem tw1466128161147519322:True:=⟨⟩
theorem tw15097587421196274038:True:=⟨⟩
theorem tw15204063935171717296:True:=⟨⟩
theorem tw15458297630796031813:True:=⟨⟩
theorem tw15594403980365824347:True:=⟨⟩
theorem tw15698208580084250070:True:=⟨⟩
theorem tw15701522851858751977:True:=⟨⟩
theorem tw15765564919240439521:True:=⟨⟩
theorem tw15831219271627086181:True:=⟨⟩
theorem tw16058266693542508381:True:=⟨⟩
theorem tw16236803565236624228:True:=⟨⟩
theorem tw16436631225672151545:True:=⟨⟩
theorem tw16627584214262302356:True:=⟨⟩
theorem tw17043975370307045139:True:=⟨⟩
theorem tw17051852768989963444:True:=⟨⟩
theorem tw17131982390796755642:True:=⟨⟩
theorem tw17414467267170752083:True:=⟨⟩
theorem tw17523622119579018696:True:=⟨⟩
theorem tw17659937797702502585:True:=⟨⟩
theorem tw18184171351705613108:True:=⟨⟩
theorem tw1897185009569294036:True:=⟨⟩
theorem tw223180250553990978:True:=⟨⟩
theorem tw2617711880076303262:True:=⟨⟩
theorem tw2777218523187250748:True:=⟨⟩
theorem tw398437325899273628:True:=⟨⟩
theorem tw4024930082148678682:True:=⟨⟩
theorem tw4133123398923942886:True:=⟨⟩
theorem tw4425159844315210948:True:=⟨⟩
theorem tw4565876459828306400:True:=⟨⟩
theorem tw4704178775386330843:True:=⟨⟩
theorem tw4798619429713666342:True:=⟨⟩
theorem tw6102633941097373116:True:=⟨⟩
theorem tw6669518969540674817:True:=⟨⟩
theorem tw7313329622275781292:True:=⟨⟩
theorem tw7502424187118346297:True:=⟨⟩
theorem tw8244275003704955423:True:=⟨⟩
theorem tw8690053964047822481:True:=⟨⟩
theorem tw9206606784425643945:True:=⟨⟩
theorem tw9411166395072311918:True:=⟨⟩
theorem tw9697244330413586672:True:=⟨⟩
end PySem.W.Fast
open PySem PySem.W PyProof.Rows
set_option maxRecDepth 100000 in
set_option maxHeartbeats 0 in
theorem PySem.Challenge.cw_caseways_k30_least_plans_in_runs_holds : PySem.Challenge.rw_caseways_k30_least_plans_in_runs.Holds := by
 w_on; o_law; k_head; (case hw=>w_witness2)
 k_fill
 refine K30.walk (l:=PySem.Challenge.rw_caseways_k30_least_plans_in_runs) rfl rfl (fun w h Y=>PySem.W.kIn_of Y) ?F
 case F=>
  intro w mg fa h KX G hmg
  refine' K30.all_mk KX G hmg ?d1 ?d2 ?d3 ?d4 ?d5 ?d6 ?d7 ?d8 ?d9 ?d10 ?d11 ?d12 ?d13 ?d14 ?d15 ?d16 ?d17 ?d18 ?d19 ?d20 ?d21 ?d22 ?d23 ?d24 ?d25 ?d26 ?d27 ?d28 ?d29 ?d30 ?d31 ?d32 ?d33 ?d34 ?d35 ?z ?w1 ?w2 ?t1 ?u1
  case d1|d2|d3|d4|d5|d6|d7|d8|d9|d10|d11|d12|d13|d14|d15|d16|d17|d18|d19|d20|d21|d22|d23|d24|d25|d26|d27|d28|d29|d30|d31|d32|d33|d34|d35=>(refine' ⟨_,_,_,_,_,_,_,_,_,_,?a,?l,?c,?k⟩; (case a=>k_is); (case l=>k_is); (case c=>k_is); (case k=>k_is))
  case z=>(refine' ⟨?_,?_,?_,?_,?_,?_,?_,?_,?_,?_,?_,?_,?_,?_,?_,?_,?_,trivial⟩ <;> k_is)
  case w1|w2|t1|u1=>k_is
#print axioms PySem.Challenge.cw_caseways_k30_least_plans_in_runs_holds
