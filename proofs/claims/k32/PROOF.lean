import PyProof.Rows.All
import Wide.All
import OpenK.AllK
import Wide.FinOn
import Lean
import PyProof.EqAt
import PyProof.EqKinds
import PyProof.TupleCall
import PyProof.NeData
import PySem.Challenge.RW_caseways_k32_papers_for_runs_spoilt
local macro_rules | `(tactic| omega) => `(tactic| first | with_reducible assumption | lia | omega +splitDisjunctions)
open Lean in
local macro_rules | `(command|def $d:declId $s:optDeclSig $v:declVal) => `(command|noncomputable def $d:declId $s:optDeclSig $v:declVal) | `(command|abbrev $d:declId $s:optDeclSig $v:declVal) => `(command|noncomputable abbrev $d:declId $s:optDeclSig $v:declVal)
set_option Elab.async false
set_option linter.all false
set_option maxRecDepth 100000
theorem Z{α:Sort u}{a:α}:a=a:=rfl
theorem ζ{p:Prop}(h:p:=by simp):p:=h
theorem ω{p : Prop}(h : p := by omega) : p := h
theorem δ{p : Prop}(h : p := by decide) : p := h
theorem ψ{p : Prop}(h : p := by decide +kernel) : p := h
open List (all_cons all_map any_cons any_map ext_getElem ext_getElem? filter_append flatten_cons forIn_nil getElem?_drop getElem?_take length_nil length_set map_drop map_nil map_take mem_filterMap nil_append nodup_nil of_mem_zip range'_succ range_succ sum_cons take_add_one take_zero)
open PySem.Heap (size_update)
open Option (getD_none isSome_some map_some)
open PySem.W (codeIn fnOf keepIn kitOne mg_of nsIn)
open Array (toList_map toList_push)
open Nat (add_comm le_of_eq le_succ log2_lt lt_trans mod_lt mul_le_mul one_mul pow_one pow_zero sub_self zero_add)
open Int (add_zero mul_nonneg neg_mul not_lt)
open Bool (eq_false_iff)
open PySem renaming wpAny_bind → An, Value → Ap, wpAny_pure → Au, Shared → AB, PyData → AF, starEach → AH, wpAny → AI, sizeLine → AJ, model → AN, Program → AO, Builtin → AW, SetTable → AZ, World → Bi, Around → Bz, mem_of_lookup → BC, wpAny_mono → BD, wpAny_newObj_type → BE, NameKind → BQ, wpAny_call_entry → B1, wpAny_callSpecial?_slot → B3, mainGlobals → B8, foldedSetIterable → Cb, wpAny_field → Ct, boot_len → CA, wpAny_holding → CB, wpAny_setField_rec → CF, rawInt → CI, backTo → CO, FuncData → CU, wpAny_standAt → C4, wpAny_of_eq → C5, Scope → C8, Spec → DF, sysModules → DH, wpAny_rule → DI, wpAny_seqItems → DL, letOwnedTupleGo → DM, wpAny_Call_Name_kw → DU, codeAny → D5, codeAny_builtin → D6, assignEach → D8, wpAny_askSetting → Ee, bootBuiltins → Ev, wpAny_truthy_bool → EE, binaryOp → EH, pyNext → EJ, notedBy → EK, IsPair → ES, builtinLookup_eq_fast → EU, compareOp → EV, codeAny_mono → EW, assign → E3, attributeBase → E5, wpAny_attempt → E6, Keyword → E8, cellsFrom → E9, compEnvC → Fa, isSubtype_type → Fh, wpAny_Call_method_late → Fs, wpAny_passesOwn → Fu, wpAny_ite_false → FB, scanBound → FF, intKind → FG, holding → FH, cLine → FI, wpAny_pyIter_list → FK, call_meets → FR, closureFor → FS, keywordEach → FX, codeAny_call_builtin → F0, tupleKind → F3, standAt → F4, wpAny_comprehension_free → GB, codeAny_of_tree → GH, typeLookup_type → GI, wpAny_pyIter_tuple → GN, Arguments → GO, sliceBounds → GS, wpAny_getItem_str_slice → GV, setField → G0, wpAny_pyIter_zip → HE, wpAny_isInstance → HG, swapsWithSole → HI, behindInMarks → HK, plainId_quiet → HM, again → HP, wpAny_newFunctionEnv → HR, theTreesLotGoes → HV, pickOrder → Iq, codeAmong → Ix, wpAny_call → IA, backToKw → IC, wpAny_newTuple → IG, wpAny_pyIter_enum → IR, pyIter → IY, wpAny_onRaise → Jn, wpAny_eqBool_int → JE, swapsWith → JI, bindArgs → JO, compTurn → JP, noteFrame → JU, ZipApart → JY, entryFor_of_tree → Kk, wpAny_pyIter_rangeiter → Kx, codeAny_loop → KB, wpAny_execs_nil → KM, wpAny_loadPart' → KS, post_val_or_str → KU, weight_type_call_type → K2, IsRangeIter → Lo, sizeLine_eq → Lu, cellOf → LA, wpAny_noted → LB, wpAny_updateSeq_pair → LH, isSubtype_stop → LI, wpAny_runValue → LM, entryFor → LN, argsOk → LO, firstArgMember → LP, wpAny_fieldsOf → LS, getItem → L4, swappedStores → Md
open PySem.W renaming Frag → AA, kla_obj → Dx, kia_one → DS, CodeHd → Fk, findIn → Iy, kitx_list → IM, kitx_dict → IP, tabObj → LX
open List renaming getElem?_eq_getElem → AC, length_map → AG, getElem?_eq_some_iff → AK, mem_singleton → AL, getElem?_map → AM, length_append → AQ, mem_append_right → AR, getD_eq_getElem?_getD → AV, mem_cons → AX, mem_of_getElem? → AY, size_toArray → A0, mem_cons_self → A5, mem_cons_of_mem → A9, map_append → Be, not_mem_nil → BB, range → BF, mem_append → BG, Nodup → BH, length_singleton → BS, length_cons → B0, getElem?_eq_none → B4, length_range → Cf, mem_map → Ch, replicate → Cs, take_length → CM, length_take_le → Db, map_cons → DE, getElem?_append_right → DJ, lookup_cons → DZ, pairwise_cons → D4, mem_range → D7, append_nil → D9, getElem_mem → EB, getElem?_range → EC, mem_append_left → EF, toArray → EM, length_take → EN, set_cons_zero → EO, mem_filter → ER, take_of_length_le → EZ, forIn_cons → E4, Perm → Ff, mem_map_of_mem → Fm, map_congr_left → Fn, mem_iff_getElem → FC, set_cons_succ → FE, getElem?_append_left → FM, length_drop → FO, all_eq_true → FU, append_assoc → F5, map_map → GL, nodup_cons → GM, filterMap_cons → GW, replicate_succ → GY, pairwise_lt_range → Hb, getElem?_toArray → HH, idxOf_lt_length_of_mem → Ic, map → IB, length_reverse → IE, getElem?_cons_zero → IH, drop_eq_getElem_cons → IJ, any_eq_true → IT, range_succ_eq_map → IU, filterMap_map → IZ, getElem?_cons_succ → Kb, length_eq_zero_iff → Kj, pairwise_singleton → Kt, reverse_cons → KA, find?_cons → KE, pairwise_map → KF, filter_eq_nil_iff → KL, length_eraseIdx → KP, getElem?_reverse → KW, take_append_drop → K0, length_filter_le → Ll, lookup_cons_self → Lm, mem_of_mem_take → LD, cons_append → LG, pairwise_append → LL, filter_cons → LY, map_eq_nil_iff → L3, getElem_of_mem → L8, length_pos_iff → L9, filter_eq_self → Mb
open And renaming intro → AD
open PySem.Heap renaming get?_push_of_some → AE, get?_push_size → AU, lt_size → A6, SameBut → Cc, size_push → CY, get?_update_other → C7, get?_update_self → Hn
open Nat renaming le_refl → A3, lt_of_lt_of_le → BA, ne_of_lt → BO, le_trans → BU, zero_le → DC, lt_succ_self → DD, lt_succ_of_lt → D3, lt_irrefl → ED, le_of_lt → Gc, lt_or_ge → Go, zero_lt_succ → G1, lt_of_le_of_lt → G2, lt_of_sub_pos → HL, ne_of_gt → JJ, max_eq_right → KI, not_lt_zero → LF, mul_le_mul_right → LZ
open PySem.Txt renaming slice → A4, slice_le → F8
open Option.some renaming inj → A7
open Bool renaming false_ne_true → A8, and_eq_true → CL, eq_iff_iff → FA, not_false → LJ, false_eq_true → Me, not_true → Mk
open PyProof.Rows renaming callWith_type1 → BI, boot_isinstance → B7, arrOf → B9, pendingOf → Cn, wpS_bind → CH, Keyed → CS, wpS_pure → D0, SortSt → D2, IntsAre → E7, firstMet → FD, pairsOf → FL, seqObj → F1, boot_tuple → F2, boot_list → F6, envOfC → F9, listItems_at → Hc, wpS_forRange → Hd, slot_tuple_getitem → He, callWith_builtin1 → Hm, AllBare → IL, boot_sorted → JA, failedOf → Kn, setPending → KG, wpS_mono → LU, boot_int → L0, boot_sum → L1
open Option renaming map_eq_some_iff → BM
open PySem.PassesOwn renaming never → BN
open Int renaming toNat → B5, emod_lt_of_pos → ET, emod_nonneg → FV, toNat_natCast → GA, le_refl → GU, mul_comm → II, mul_assoc → L6
open PySem.SeqAt renaming EqAt → B6
open Ne renaming symm → Co
open PySem.Obj renaming mapSeq → CC
open PySem.Calls renaming spliced_cons → C0, spliced_nil → C6, callWith_builtin → EL, evalArgs_plain → EX
open Or renaming inl → C3
open False renaming elim → C9
open PySem.Data renaming fields → Da, seq → HQ
open ForInStep renaming yield → De
open Array renaming getElem?_toList → DT, length_toList → Ex, toList_append → GG, mem_of_getElem? → Lc
open Classical renaming propDecidable → D1
open PySem.Str renaming ofString → EA, length_append → IX
open True renaming intro → EG
open Sum renaming inr → EI, inl → HZ
open PySem.F renaming plainAttrs_list → Fc, slot_tuple_iterator_next → FY, called_set → F7, slot_list_reversed → HU, slot_zip_next → KO, args_list_append_2 → Lv, entry_list_append → L7
open List.Pairwise renaming nil → IQ
open PyProof.Rows.F renaming plain_set_update_loop → Ki
open PySem.Manifest renaming find? → LV
open PySem.Paired renaming length → Mc
open PySem.Value renaming ref → EQ,int → GE,type → GT,bool → Is
open Option renaming some → ID
open Option renaming none → IF
open PySem renaming Addr → IN
namespace L2
open PySem PySem.Spec PyProof.Rows
abbrev Key:=Sum Int Str
def Ik:Key->Ap->Bool
 | .inl k,v=>Ap.isInt k v
 | .inr x,v=>Ap.isStrOf x v
def ahH(w:Bi):Key->Int
 | .inl k=>hashInt k
 | .inr x=>hashStr w x
theorem fD:∀{k:Key}{v:Ap},Ik k v=true->(∃i t,k=HZ i/\v=GE i t)\/(∃x t,k=EI x/\v=Ap.str x t)
 | .inl i,v,h=>by
  obtain⟨t,e⟩:=Ap.isInt_shape (k:=i) (v:=v) h;exact .inl ⟨i,t,rfl,e⟩
 | .inr x,v,h=>by
  obtain⟨t,e⟩:=Ap.isStrOf_shape (x:=x) (v:=v) h;exact .inr ⟨x,t,rfl,e⟩
def Wz(i:Int)(t:Tok):Ik (.inl i) (.int i t)=true:=by simp[Ik,Ap.isInt]
def Wx(x:Str)(t:Tok):Ik (.inr x) (.str x t)=true:=by simp[Ik,Ap.isStrOf]
def afV(a b:Int):decide ((HZ a:Key)=HZ b)=(a == b):=by
 by_cases e:a=b
 ·subst e;simp
 have h:¬(HZ a:Key)=HZ b:=λq=>e (HZ.inj q);rw[decide_eq_false h];exact(beq_eq_false_iff_ne.mpr e).symm
def afS(a b:Str):decide ((EI a:Key)=EI b)=decide (a=b):=by
 by_cases e:a=b
 ·subst e;simp
 have h:¬(EI a:Key)=EI b:=λq=>e (EI.inj q);rw[decide_eq_false h,decide_eq_false e]
def afU(a:Int)(b:Str):decide ((HZ a:Key)=EI b)=false:=decide_eq_false (λq=>nomatch q)
def afT(a:Str)(b:Int):decide ((EI a:Key)=HZ b)=false:=decide_eq_false (λq=>nomatch q)
def cT(prog:AO)(w:Bi):PySem.KeyKind prog w Key where
 is:=Ik
 hash:=ahH w
 inj:=λv a b ha hb=>by
  rcases fD ha with⟨i,t,rfl,rfl⟩|⟨x,t,rfl,rfl⟩
  ·rcases fD hb with⟨j,u,rfl,e⟩|⟨y,u,rfl,e⟩
   ·injection e with e1 _;rw[e1]
   exact nomatch e
  rcases fD hb with⟨j,u,rfl,e⟩|⟨y,u,rfl,e⟩
  ·exact nomatch e
  injection e with e1 _;rw[e1]
 byValue:=λk v h=>by
  rcases fD h with⟨i,t,rfl,rfl⟩|⟨x,t,rfl,rfl⟩ <;> rfl
 pyHash:=λhv h=>by
  rcases fD hv with⟨i,t,rfl,rfl⟩|⟨x,t,rfl,rfl⟩
  ·exact wpAny_pyHash_int h
  exact wpAny_pyHash_str h
 eqBool:=λhu hv h=>by
  rcases fD hu with⟨i,t,rfl,rfl⟩|⟨x,t,rfl,rfl⟩
  ·rcases fD hv with⟨j,u,rfl,rfl⟩|⟨y,u,rfl,rfl⟩
   ·rw[afV] at h;exact JE h
   rw[afU] at h;exact B6.int_str i t y u _ _ _ _ h
  rcases fD hv with⟨j,u,rfl,rfl⟩|⟨y,u,rfl,rfl⟩
  ·rw[afT] at h;exact B6.str_int x t j u _ _ _ _ h
  rw[afS] at h;exact wpAny_eqBool_str h
 «strs»:=λk x t v h=>by
  rcases fD h with⟨i,u,rfl,e⟩|⟨y,u,rfl,e⟩
  ·exact nomatch e
  injection e with e1 _;subst e1;cases v <;> rfl
def NQ(prog:AO)(w:Bi)(i:Int)(t:Tok):(cT prog w).is (.inl i) (.int i t)=true:=Wz i t
def NP(prog:AO)(w:Bi)(x:Str)(t:Tok):(cT prog w).is (.inr x) (.str x t)=true:=Wx x t
inductive V where
 | non|bl (b:Bool)|int (i:Int)|str (x:Str)|byt (b:Array UInt8)|flt (b:UInt64)|ref (a:IN)|ty (n:String)
 deriving DecidableEq
def RelV:V->Ap->Prop
 | .non,u=>u=Ap.none
 | .bl b,u=>u=Is b
 | .int i,u=>∃t,u=GE i t
 | .str x,u=>∃t,u=Ap.str x t
 | .byt b,u=>∃t,u=Ap.bytes b t
 | .flt b,u=>∃t,u=Ap.float b t
 | .ref a,u=>u=EQ a
 | .ty n,u=>u=GT n
abbrev Vals:List V->List Ap->Prop:=Paired RelV
def Vals.length{xs:List V}{us:List Ap}(r:Vals xs us):xs.length=us.length:=Mc r
theorem Vals.get:∀{xs:List V}{us:List Ap}{i:Nat}{x:V},Vals xs us->xs[i]?=ID x->∃u,us[i]?=ID u/\RelV x u
 | _,_,_,_,.nil,e=>by simp at e
 | _,_,0,_,.cons r _,e=>by simp at e;subst e;exact⟨_,rfl,r⟩
 | _,_,i+1,x,.cons _ t,e=>by
  obtain⟨u,h1,h2⟩:=Vals.get (i:=i) (x:=x) t (by simpa using e);exact⟨u,by simpa using h1,h2⟩
theorem Vals.set{x:V}{u:Ap}(r:RelV x u):∀{xs:List V}{us:List Ap}(i:Nat),Vals xs us->Vals (xs.set i x) (us.set i u)
 | _,_,_,.nil=>.nil
 | _,_,0,.cons _ t=>.cons r t
 | _,_,i+1,.cons q t=>.cons q (Vals.set r i t)
theorem Vals.append:∀{xs ys:List V}{us ws:List Ap},Vals xs us->Vals ys ws->Vals (xs++ys) (us++ws)
 | _,_,_,_,.nil,s=>s
 | _,_,_,_,.cons r t,s=>.cons r (Vals.append t s)
theorem Vals.take:∀{xs:List V}{us:List Ap}(n:Nat),Vals xs us->Vals (xs.take n) (us.take n)
 | _,_,0,_=>.nil
 | _,_,_+1,.nil=>.nil
 | _,_,n+1,.cons r t=>.cons r (Vals.take n t)
theorem Vals.drop:∀{xs:List V}{us:List Ap}(n:Nat),Vals xs us->Vals (xs.drop n) (us.drop n)
 | _,_,0,r=>r
 | _,_,_+1,.nil=>.nil
 | _,_,n+1,.cons _ t=>Vals.drop n t
def Vals.none_of:∀{xs:List V}{us:List Ap}{i:Nat},Vals xs us->xs[i]?=IF->us[i]?=IF:=λ{xs us i} r e=>by
 have h1:=r.length;have h2:xs.length<=i:=List.getElem?_eq_none_iff.mp e;exact List.getElem?_eq_none_iff.mpr ω
def Fp:Option V->Option Ap->Prop
 | some v,ID u=>RelV v u
 | none,IF=>True
 | _,_=>False
def KV{κ:Type}:List (κ×V)->List (κ×Ap)->Prop:=Paired λ(p:κ×V)(q:κ×Ap)=>p.1=q.1/\RelV p.2 q.2
def kV:Key->V
 | .inl i=>.int i
 | .inr x=>.str x
inductive HO where
 | lst (xs:List V)
 | tup (xs:List V)
 | dK (kvs:List (Key×V))|dT (kvs:List (List Key×V))
 | set (S:Int->Bool) (n:Nat)
 | ins (C dx:IN) (fs:List (Str×V))
 | own (x:IN)
 | xd (fs:List (Str×V))
 | met (f x:IN)
 | rng (lo hi:Int)
 | frz (o:Obj) (u:HO)
 | tbl (ps:Array Ap)
 | ext (φ:Heap->Prop)
abbrev Hp:=IN->Option HO
def upd(H:Hp)(a:IN)(o:HO):Hp:=λb=>if b=a then ID o else H b
def aB{H:Hp}{a:IN}{o:HO}:upd H a o a=ID o:=by unfold upd;rw[if_pos rfl]
def aO{H:Hp}{a b:IN}{o:HO}(h:b≠a):upd H a o b=H b:=by unfold upd;rw[if_neg h]
def abL{H:Hp}{a:IN}{o u:HO}:upd (upd H a o) a u=upd H a u:=by
 funext b;unfold upd;split <;> rfl
def Uv{H:Hp}{a b:IN}{o u:HO}(h:H a=ID o)(h':H b=ID u)(d:o≠u):a≠b:=by
 intro e;subst e;rw[h] at h';exact d (A7 h')
def aH{H:Hp}{a b:IN}{o:HO}(h:H a=ID o)(h':H b=IF):a≠b:=by
 intro e;subst e;rw[h] at h';cases h'
section
variable (P:AO)(w:Bi)
def bW(H:Hp)(h:Heap)(a:IN):HO->Prop
 | .lst xs=>xs.length<=AJ/\∃(af:List Ap)(n:Nat),Vals xs af/\h.get? a=ID { cls:=.type "list",data:=.seq af.toArray n }
 | .tup xs=>xs.length<=AJ/\∃af:List Ap,Vals xs af/\IsTup h a af.toArray
 | .dK kvs=>kvs.length<=AJ/\(a == DH)=false/\∃vs,KV kvs vs/\h.DictOf (cT P w) a vs
 | .dT kvs=>kvs.length<=AJ/\(a == DH)=false/\∃xs:List (List Key×IN×Ap),
   Paired (λ(p:List Key×V)(q:List Key×IN×Ap)=>p.1=q.1/\H q.2.1=ID (.tup (p.1.map kV))/\RelV p.2 q.2.2) kvs xs /\
   ∃o es ep,h.get? a=ID o/\o.ExactDict/\o.data=.dict es ep/\es.toList=xs.map (entryOfKey (F3 (cT P w)))/\(xs.map (·.1)).Nodup
 | .set S n=>h.SetOf (FG P w) a S n
 | .ins C dx fs=>H dx=ID (.own a)/\fs.length<=1000/\dx≠a/\h.get? a=ID (PySem.W.instObj C dx) /\
   ∃mA,h.Ns1 dx mA/\(∀f,Fp (fs.lookup f) (mA f))/\PySem.Within mA (fs.map (·.1))
 | .own _=>∃o,h.get? a=ID o
 | .xd fs=>∃mA,h.Ns1 a mA/\∀f,Fp (fs.lookup f) (mA f)
 | .rng lo hi=>∃t u v,h.get? a=ID { cls:=.type "range",data:=.fields #[.int lo t,.int hi u,.int 1 v] }
 | .frz o u=>h.get? a=ID o/\bW H h a u
 | .tbl ps=>h.get? a=ID { cls:=.none,data:=.fields ps }
 | .met f x=>h.get? a=ID (PySem.W.methodObj (.ref f) (.ref x))
 | .ext φ=>φ h/\(∃o,h.get? a=ID o)/\∀h1 h2:Heap,φ h1->(∀o,h1.get? a=ID o->h2.get? a=ID o)->φ h2
def HOk(H:Hp)(h:Heap):Prop:=∀a o,H a=ID o->bW P w H h a o
end
section
variable {P:AO}{w:Bi}{H H':Hp}{h h':Heap}{a:IN}{o:HO}
theorem bW.lt(x:bW P w H h a o):a<h.objs.size:=by
 cases o with
 | lst xs=>obtain⟨_,_,_,_,e⟩:=x;exact A6 e
 | tup xs=>obtain⟨_,_,_,p⟩:=x;exact p.lt
 | dK kvs=>obtain⟨_,_,_,_,o,_,_,e,_⟩:=x;exact A6 e
 | dT kvs=>obtain⟨_,_,_,_,o,_,_,e,_⟩:=x;exact A6 e
 | set S n=>obtain⟨o,_,_,_,e,_⟩:=x;exact A6 e
 | ins C dx fs=>obtain⟨_,_,_,e,_⟩:=x;exact A6 e
 | own y=>obtain⟨_,e⟩:=x;exact A6 e
 | xd fs=>obtain⟨_,⟨_,_,_,e,_⟩,_⟩:=x;exact A6 e
 | rng lo hi=>obtain⟨_,_,_,e⟩:=x;exact A6 e
 | frz ob u=>obtain⟨e,_⟩:=x;exact A6 e
 | tbl ps=>exact A6 (show h.get? a=ID _ from x)
 | met f y=>exact A6 (show h.get? a=ID _ from x)
 | ext φ=>obtain⟨_,⟨_,e⟩,_⟩:=x;exact A6 e
theorem Paired.afI{α β:Type}{F G:α->β->Prop}:∀{l₁:List α}{l₂:List β},Paired F l₁ l₂->(∀a b,F a b->G a b)->Paired G l₁ l₂
 | _,_,.nil,_=>.nil
 | _,_,.cons r t,f=>.cons (f _ _ r) (Paired.afI t f)
theorem bW.stay(x:bW P w H h a o)(k:∀b u,(b=a\/H b=ID (.own a))->h.get? b=ID u->h'.get? b=ID u)
  (ho:∀b,H b=ID (.own a)->H' b=ID (.own a))(ht:∀b xs,H b=ID (.tup xs)->H' b=ID (.tup xs)):bW P w H' h' a o:=by
 induction o with
 | lst xs=>obtain⟨z,af,n,r,e⟩:=x;exact⟨z,af,n,r,k _ _ (.inl rfl) e⟩
 | tup xs=>obtain⟨z,af,r,ob,e,c⟩:=x;exact⟨z,af,r,ob,k _ _ (.inl rfl) e,c⟩
 | dK kvs=>obtain⟨z,y,vs,r,ob,es,ep,e,c⟩:=x;exact⟨z,y,vs,r,ob,es,ep,k _ _ (.inl rfl) e,c⟩
 | dT kvs=>
  obtain⟨z,y,xs,r,ob,es,ep,e,c⟩:=x;exact⟨z,y,xs,Paired.afI r λp q z=>⟨z.1,ht _ _ z.2.1,z.2.2⟩,ob,es,ep,k _ _ (.inl Z) e,c⟩
 | set S n=>obtain⟨ob,es,ep,t,e,c⟩:=x;exact⟨ob,es,ep,t,k _ _ (.inl rfl) e,c⟩
 | ins C dx fs=>
  obtain⟨d,z,ne,e,mA,⟨od,es,ep,e2,c⟩,r⟩:=x;exact⟨ho _ d,z,ne,k _ _ (.inl Z) e,mA,⟨od,es,ep,k _ _ (.inr d) e2,c⟩,r⟩
 | own y=>obtain⟨ob,e⟩:=x;exact⟨ob,k _ _ (.inl rfl) e⟩
 | xd fs=>obtain⟨mA,⟨od,es,ep,e,c⟩,r⟩:=x;exact⟨mA,⟨od,es,ep,k _ _ (.inl rfl) e,c⟩,r⟩
 | rng lo hi=>obtain⟨t,u,v,e⟩:=x;exact⟨t,u,v,k _ _ (.inl rfl) e⟩
 | frz ob u ih=>obtain⟨e,q⟩:=x;exact⟨k _ _ (.inl rfl) e,ih q⟩
 | tbl ps=>
  have e:h.get? a=ID { cls:=.none,data:=.fields ps }:=x;show h'.get? a=ID { cls:=.none,data:=.fields ps };exact k a _ (.inl Z) e
 | met f y=>
  have e:h.get? a=ID (PySem.W.methodObj (.ref f) (.ref y)):=x;show h'.get? a=ID (PySem.W.methodObj (.ref f) (.ref y));exact k a _ (.inl Z) e
 | ext φ=>obtain⟨p,⟨o,e⟩,st⟩:=x;exact⟨st _ _ p λo q=>k _ _ (.inl rfl) q,⟨o,k _ _ (.inl rfl) e⟩,st⟩
def HOk.lt(x:HOk P w H h)(e:H a=ID o):a<h.objs.size:=(x a o e).lt
theorem HOk.fresh(x:HOk P w H h)(e:h.objs.size<=a):H a=IF:=by
 cases q:H a with
 | none=>rfl
 | some u=>exact absurd (BA (x.lt q) e) (ED _)
def HOk.kept(x:HOk P w H h)(k:∀b u,h.get? b=ID u->h'.get? b=ID u):HOk P w H h':=λa o e=>
 (x a o e).stay (λb u _ q=>k b u q) (λ_ q=>q) λ_ _ q=>q
def HOk.laid(x:HOk P w H h)(k:∀b u,h.get? b=ID u->h'.get? b=ID u)(hp:h.objs.size<=a)(new:bW P w (upd H a o) h' a o):HOk P w (upd H a o) h':=λb u e=>by
 have hn:=x.fresh hp;by_cases hb:b=a
 ·subst hb;rw[aB] at e;cases e;exact new
 rw[aO hb] at e;exact(x b u e).stay (λc v _ q=>k c v q) (λc q=>by rw[aO (aH q hn)];exact q) λc xs q=>by rw[aO (aH q hn)];exact q
end
def Rd(H:Hp)(a:IN)(u:HO):Prop:=H a=ID u\/∃o,H a=ID (.frz o u)
def Rd.ok{P:AO}{w:Bi}{H:Hp}{h:Heap}{a:IN}{u:HO}(r:Rd H a u)(x:HOk P w H h):bW P w H h a u:=by
 rcases r with r|⟨o,r⟩
 ·exact x a u r
 obtain⟨_,q⟩:=x a _ r;exact q
def Mut:Option HO->Prop
 | some (.lst _)=>True
 | some (.dK _)=>True
 | some (.dT _)=>True
 | some (.set _ _)=>True
 | some (.ins _ _ _)=>True
 | some (.ext _)=>True
 | _=>False
section
variable {P:AO}{w:Bi}{H:Hp}{h h':Heap}{x e:IN}{o':HO}
def HOk.write(ok:HOk P w H h)(mu:Mut (H x))(he:e=x\/H e=ID (.own x))(k:∀b u,b≠e->h.get? b=ID u->h'.get? b=ID u)(yA:∃u,h'.get? e=ID u)
  (new:bW P w (upd H x o') h' x o'):HOk P w (upd H x o') h':=λb u q=>by
 have Nd:∀c y,H c=ID (.own y)->c≠x:=λc y r z=>by subst z;rw[r] at mu;exact mu
 have Tu:∀c xs,H c=ID (.tup xs)->c≠x:=λc xs r z=>by subst z;rw[r] at mu;exact mu
 by_cases hb:b=x
 ·subst hb;rw[aB] at q;cases q;exact new
 rw[aO hb] at q;by_cases wy:b=e
 ·have q':H b=ID (.own x):=by
   rcases he with z|z
   ·exact absurd (wy.trans z) hb
   rw[wy];exact z
  rw[q] at q';cases q';obtain⟨v,hv⟩:=yA;exact⟨v,by rw[wy];exact hv⟩
 refine(ok b u q).stay (λc v hc r=>k c v ?_ r) (λc r=>by rw[aO (Nd c b r)];exact r) λc xs r=>by rw[aO (Tu c xs r)];exact r
 rcases hc with rfl|hc
 ·exact wy
 rintro rfl;rcases he with z|z
 ·exact Nd c b hc z
 rw[hc] at z;cases z;exact hb rfl
end
structure Un(fs ex:List IN)(H H':Hp)(h h':Heap):Prop where
 keep:∀b o,h.get? b=ID o->H b=IF->b∉fs->b∉ex->h'.get? b=ID o
 slot:∀b o,h.get? b=ID o->H b=IF->b∈fs->b∉ex->∃sl,h'.get? b=ID { o with slots:=sl }
 free:∀b o,h.get? b=ID o->H b=IF->b∉ex->H' b=IF
 there:∀b o,h.get? b=ID o->b∉ex->∃o',h'.get? b=ID o'
 tups:∀b xs,H b=ID (.tup xs)->H' b=ID (.tup xs)
 frzs:∀b o u,H b=ID (.frz o u)->H' b=ID (.frz o u)
 tbls:∀b ps,H b=ID (.tbl ps)->∃dS,H' b=ID (.tbl (ps++dS))
section
variable {fs fs' ex ex':List IN}{H H1 H2:Hp}{h h1 h2 h':Heap}{a x e:IN}{o:HO}
def Un.any(u:Un fs ex H H1 h h1){b:IN}{ob:Obj}(q:h.get? b=ID ob)(n:H b=IF)(hx:b∉ex):∃sl,h1.get? b=ID { ob with slots:=sl }:=by
 by_cases hb:b∈fs
 ·exact u.slot b ob q n hb hx
 exact⟨ob.slots,u.keep b ob q n hb hx⟩
def Un.kept(k:∀b u,h.get? b=ID u->h'.get? b=ID u):Un fs ex H H h h':=
 ⟨λb ob q _ _ _=>k b ob q,λb ob q _ _ _=>⟨ob.slots,k b ob q⟩,λ_ _ _ n _=>n,λb ob q _=>⟨ob,k b ob q⟩,λ_ _ q=>q,λ_ _ _ q=>q,λ_ ps q=>⟨#[],by rw[q];simp⟩⟩
def Un.refl:Un fs ex H H h h:=Un.kept λ_ _ q=>q
def Un.laid(k:∀b u,h.get? b=ID u->h'.get? b=ID u)(hp:h.objs.size<=a)(hn:H a=IF):Un fs ex H (upd H a o) h h' where
 keep:=λb u q _ _ _=>k b u q
 slot:=λb u q _ _ _=>⟨u.slots,k b u q⟩
 free:=λb u q n _=>by rw[aO (BO (BA (A6 q) hp))];exact n
 there:=λb u q _=>⟨u,k b u q⟩
 tups:=λb xs q=>by rw[aO (aH q hn)];exact q
 frzs:=λb u xs q=>by rw[aO (aH q hn)];exact q
 tbls:=λb ps q=>⟨#[],by rw[aO (aH q hn),q];simp⟩
def Un.write(mu:Mut (H x))(he:e=x\/H e=ID (.own x))(k:∀b u,b≠e->h.get? b=ID u->h'.get? b=ID u)(yA:∃u,h'.get? e=ID u):Un fs ex H (upd H x o) h h':=by
 have hx:∀b,H b=IF->b≠x:=λb n z=>by subst z;rw[n] at mu;exact mu
 have hb:∀b,H b=IF->b≠e:=λb n z=>by
  subst z;rcases he with r|r
  ·exact hx b n r
  rw[n] at r;cases r
 have hm:∀b u,H b=ID u->¬Mut (ID u)->b≠x:=λb u q nm z=>by subst z;rw[q] at mu;exact nm mu
 refine⟨λb u q n _ _=>k b u (hb b n) q,λb u q n _ _=>⟨u.slots,k b u (hb b n) q⟩,λb u q n _=>by rw[aO (hx b n)];exact n,λb u q _=>?_,
  λb xs q=>by rw[aO (hm b _ q λz=>z)];exact q,λb u xs q=>by rw[aO (hm b _ q λz=>z)];exact q,λb ps q=>⟨#[],by rw[aO (hm b _ q λz=>z),q];simp⟩⟩
 by_cases wy:b=e
 ·subst wy;exact yA
 exact⟨u,k b u wy q⟩
end
def trk(h:Heap)(H:Hp):List IN:=(BF h.objs.size).filter λa=>(H a).isSome
def Gm(h:Heap)(H:Hp):Heap:=PySem.W.hideAll h (trk h H)
def WQ(h:Heap)(H:Hp):(Gm h H).objs.size=h.objs.size:=PySem.W.hideAll_size _ _
def aaL{h:Heap}{H:Hp}{b:IN}{o:Obj}(e:h.get? b=ID o)(n:H b=IF):(Gm h H).get? b=ID o:=
 PySem.W.hideAll_get _ e λhm=>by
  have q:(H b).isSome=true:=(ER.mp hm).2;rw[n] at q;simp at q
theorem adg{h:Heap}{H:Hp}{b:IN}{o:Obj}(e:(Gm h H).get? b=ID o):h.get? b=ID o/\H b=IF:=by
 have e':h.get? b=ID o:=PySem.W.of_hideAll (trk h H) e;refine⟨e',?_⟩;cases q:H b with
 | none=>rfl
 | some x=>
  have hm:b∈trk h H:=ER.mpr ⟨D7.mpr (A6 e'),by simp[q]⟩;have z:(Gm h H).get? b=IF:=PySem.W.hideAll_none (trk h H) hm;rw[z] at e;cases e
structure Mod(K:AA)(mg:Str->Option Ap)(base:Heap):Prop where
 kin:K.In base
 glob:base.Ns B8 mg
 blt:∃mb,base.Ns builtinsNs mb/\∀x:Str,x ≠ "__name__" -> mb x=Ev x
 nolimit:base.NoLimit
structure Cx where
 prog:AO
 w:Bi
 K:AA
 mg:Str->Option Ap
 base:Heap
 A:Bz
 N:List Str
 s₀:AB
 H₀:Hp
 env:Env
 outer:List Env
 stack:List Env
 ex:List IN
 fn:Str->Bool
 calm:Bool
 pn:List (IN×Obj)
 xe:Ap->AB->Prop
def frs(l:List Env):List IN:=l.filterMap (·.frame)
abbrev Cx.fs(X:Cx):List IN:=frs X.outer
def Vis(sc:C8)(x:Str):Prop:=sc.names.lookup x=ID .local\/sc.names.lookup x=ID .cell\/sc.names.lookup x=ID .free
def Loc(sc:C8)(x:Str):Prop:=sc.names.lookup x=ID .local\/sc.names.lookup x=ID .cell
def Look(env:Env)(h:Heap)(m:Str->Option Ap)(x:Str)(u:Ap):Prop:=
 (env.kindOf x=ID .local/\m x=ID u)\/((env.kindOf x=ID .cell\/env.kindOf x=ID .free)/\∃c,env.cells.lookup x=ID c/\h.IsCell c (ID u))
structure Cx.Ok(X:Cx):Prop where
 mod:Mod X.K X.mg X.base
 kind:X.env.scope.kind=.function
 glob:X.env.globals=B8
 blt:X.env.builtins=builtinsNs
 above:X.s₀.heap.objs.size<=X.env.locals
 inj:∀x y c,X.env.cells.lookup x=ID c->X.env.cells.lookup y=ID c->x=y
 has:∀x,(X.env.kindOf x=ID .cell\/X.env.kindOf x=ID .free)->∃c,X.env.cells.lookup x=ID c
 cab:∀x c,X.fn x=true->X.env.cells.lookup x=ID c->X.s₀.heap.objs.size<=c
 hd:X.calm=true->X.A.handled=IF
 frames:X.A.frames=ID X.stack
 stk:X.stack=X.outer\/(X.stack=X.env::X.outer/\X.env.frame=ID X.env.locals)
 exf:∀b∈X.ex,b≠X.env.locals/\∀x c,X.env.cells.lookup x=ID c->c≠b
 bs:∀b o,X.base.get? b=ID o->X.s₀.heap.get? b=ID o/\X.H₀ b=IF
 bsz:X.base.objs.size<=X.s₀.heap.objs.size
 noex:∀b o,X.base.get? b=ID o->b∉X.ex
 exfs:∀b∈X.ex,b∉X.fs
 sY:X.s₀.heap.FunFrames X.base X.outer
 frf:∀b∈X.fs,X.H₀ b=IF
structure Inv(X:Cx)(ac:List (IN×Obj))(σ:List (Option V))(H:Hp)(s:AB):Prop where
 ok:X.Ok
 os:s.os=X.s₀.os
 bare:IL s.gens
 base:Un X.fs X.ex X.H₀ H X.s₀.heap s.heap
 loc:∃m,s.heap.Ns X.env.locals m/\∀(i:Nat)(x:Str)(v:V),X.N[i]?=ID x->σ[i]?=ID (ID v)->Vis X.env.scope x->∃u,RelV v u/\Look X.env s.heap m x u
 cell:∀x c,X.env.cells.lookup x=ID c->∃v,s.heap.IsCell c v
 free:H X.env.locals=IF
 freeC:∀x c,X.env.cells.lookup x=ID c->H c=IF
 pin:∀p∈X.pn++ac,s.heap.get? p.1=ID p.2/\H p.1=IF/\p.1≠X.env.locals/\p.1∉X.fs/\∀v,p.2.data≠.cell v
 hok:HOk X.prog X.w H s.heap
 len:σ.length=X.N.length
section
variable {X:Cx}{ac:List (IN×Obj)}{σ:List (Option V)}{H H':Hp}{s:AB}{h':Heap}
def Cx.Ok.ahE(ok:X.Ok){b:IN}{o:Obj}(e:X.base.get? b=ID o):b∉X.fs:=λhb=>by
 have:=(ok.sY.mem hb).1;rw[e] at this;cases this
def Inv.bs(I:Inv X ac σ H s):∀b o,X.base.get? b=ID o->s.heap.get? b=ID o/\H b=IF:=λb o e=>
 ⟨I.base.keep b o (I.ok.bs b o e).1 (I.ok.bs b o e).2 (I.ok.ahE e) (I.ok.noex b o e),I.base.free b o (I.ok.bs b o e).1 (I.ok.bs b o e).2 (I.ok.noex b o e)⟩
def Inv.bk(I:Inv X ac σ H s):∀b o,X.base.get? b=ID o->s.heap.get? b=ID o:=λb o e=>(I.bs b o e).1
def Inv.mod(I:Inv X ac σ H s):Mod X.K X.mg X.base:=I.ok.mod
def Inv.kIn(I:Inv X ac σ H s):X.K.In s.heap:=I.ok.mod.kin.keeps I.bk
def Inv.lt(I:Inv X ac σ H s):X.env.locals<s.heap.objs.size:=let ⟨_,hn,_⟩:=I.loc;hn.lt
def Inv.sz(I:Inv X ac σ H s):X.s₀.heap.objs.size<=s.heap.objs.size:=BU I.ok.above (Gc I.lt)
def Inv.Z7(I:Inv X ac σ H s){a:IN}(h:s.heap.objs.size<=a):a∉X.fs:=λhb=>by
 obtain⟨_,o,ho,_⟩:=I.ok.sY.mem hb;exact absurd (BA (A6 ho) (BU I.sz h)) (ED _)
def Inv.cne(I:Inv X ac σ H s):∀x c,X.env.cells.lookup x=ID c->c≠X.env.locals:=λx c e z=>by
 obtain⟨v,o,ho,hd⟩:=I.cell x c e;obtain⟨m,⟨o',es,ep,mw,gI,_⟩,_⟩:=I.loc;rw[z,mw] at ho;cases ho;rw[gI] at hd;cases hd
theorem Inv.sY(I:Inv X ac σ H s):s.heap.FunFrames X.base X.outer:=by
 have all:∀(l:List Env),(∀b∈frs l,b∈X.fs)->X.s₀.heap.FunFrames X.base l->s.heap.FunFrames X.base l:=by
  intro l
  induction l with
  | nil=>intro _ _;trivial
  | cons env r ih=>
   intro hs hl;obtain⟨hk,⟨L,o,hf,hn,ho,hd⟩,hr⟩:=hl;have hL:L∈X.fs:=hs L (by unfold frs;rw[GW,hf];exact A5);obtain⟨sl,e⟩:=I.base.slot L o ho (I.ok.frf L hL) hL λz=>I.ok.exfs L z hL;exact⟨hk,⟨L,_,hf,hn,e,hd⟩,ih (λb hb=>hs b (by unfold frs;rw[GW,hf];exact A9 _ hb)) hr⟩
 exact all X.outer (λ_ hb=>hb) I.ok.sY
def Inv.stack(I:Inv X ac σ H s):s.heap.FunFrames X.base X.stack:=by
 rcases I.ok.stk with e|⟨e,hf⟩
 ·rw[e];exact I.sY
 rw[e];obtain⟨m,hn,_⟩:=I.loc;refine .cons (by rw[I.ok.kind];decide) hf hn ?_ I.sY;exact Heap.get?_none_of_le (BU I.ok.bsz I.ok.above)
def Inv.oN(I:Inv X ac σ H s):∀b∈frs X.stack,b∈X.env.locals::X.fs:=λb hb=>by
 rcases I.ok.stk with e|⟨e,hf⟩
 ·rw[e] at hb;exact A9 _ hb
 rw[e] at hb;unfold frs at hb;rw[GW,hf] at hb;exact hb
def Inv.Jq(I:Inv X ac σ H s):∀b∈frs X.stack,H b=IF:=λb hb=>by
 rcases AX.mp (I.oN b hb) with e|hb
 ·rw[e];exact I.free
 obtain⟨_,o,ho,_⟩:=I.ok.sY.mem hb;exact I.base.free b o ho (I.ok.frf b hb) λz=>I.ok.exfs b z hb
def Inv.step{g':Array GenState}{t':Nat}{d':Drawn}{ch:List IN}(I:Inv X ac σ H s)
  (pe:∀b∈ch,(b∈X.ex\/X.s₀.heap.objs.size<=b)/\b≠X.env.locals/\(∀x c,X.env.cells.lookup x=ID c->c≠b)/\∀p∈X.pn++ac,p.1≠b)
  (keep:∀b o,b≠X.env.locals->b∉X.fs->b∉ch->s.heap.get? b=ID o->H b=IF->h'.get? b=ID o)
  (slot:∀b o,b≠X.env.locals->b∈X.fs->b∉ch->s.heap.get? b=ID o->H b=IF->∃sl,h'.get? b=ID { o with slots:=sl })(free:∀b o,b∉ch->s.heap.get? b=ID o->H b=IF->H' b=IF)
  (there:∀b o,b∉ch->s.heap.get? b=ID o->∃o',h'.get? b=ID o')
  (tups:∀b xs,H b=ID (.tup xs)->H' b=ID (.tup xs))(frzs:∀b o u,H b=ID (.frz o u)->H' b=ID (.frz o u))(tbls:∀b ps,H b=ID (.tbl ps)->∃dS,H' b=ID (.tbl (ps++dS)))
  (ns:∀m,s.heap.Ns X.env.locals m->h'.Ns X.env.locals m)(hok:HOk X.prog X.w H' h')(hg:IL g') :
  Inv X ac σ H' { s with heap:=h',gens:=g',drawn:=d',toks:=t' }:=by
 have neL:∀b o,X.s₀.heap.get? b=ID o->b≠X.env.locals:=λb o e=>BO (BA (A6 e) I.ok.above);have P3:∀b o,X.s₀.heap.get? b=ID o->b∉X.ex->b∉ch:=λb o e hx hb=>by
  rcases(pe b hb).1 with z|z
  ·exact hx z
  exact absurd (BA (A6 e) z) (ED _)
 have tT:∀x c,X.env.cells.lookup x=ID c->∀v,s.heap.IsCell c v->h'.IsCell c v:=λx c e v ⟨o,ho,hd⟩=>by
  have Nn:c∉ch:=λz=>(pe c z).2.2.1 x c e rfl;by_cases hc:c∈X.fs
  ·obtain⟨sl,q⟩:=slot c o (I.cne x c e) hc Nn ho (I.freeC x c e);exact⟨_,q,hd⟩
  exact⟨o,keep c o (I.cne x c e) hc Nn ho (I.freeC x c e),hd⟩
 refine⟨I.ok,I.os,hg,⟨λb o e n hb hx=>?_,λb o e n hb hx=>?_,λb o e n hx=>?_,λb o e hx=>?_,λb xs e=>tups b xs (I.base.tups b xs e),λb o xs e=>frzs b o xs (I.base.frzs b o xs e),λb ps e=>?_⟩,?_,λx c e=>?_,?_,λx c e=>?_,λp hp=>?_,hok,I.len⟩
 ·exact keep b o (neL b o e) hb (P3 b o e hx) (I.base.keep b o e n hb hx) (I.base.free b o e n hx)
 ·obtain⟨sl,e1⟩:=I.base.slot b o e n hb hx;obtain⟨sl',e2⟩:=slot b _ (neL b o e) hb (P3 b o e hx) e1 (I.base.free b o e n hx);exact⟨sl',e2⟩
 ·obtain⟨o',e1⟩:=I.base.there b o e hx;exact free b o' (P3 b o e hx) e1 (I.base.free b o e n hx)
 ·obtain⟨o',e1⟩:=I.base.there b o e hx;exact there b o' (P3 b o e hx) e1
 ·obtain⟨m1,e1⟩:=I.base.tbls b ps e;obtain⟨m2,e2⟩:=tbls b _ e1;exact⟨m1++m2,by rw[e2,Array.append_assoc]⟩
 ·obtain⟨m,hn,hl⟩:=I.loc;refine⟨m,ns m hn,λi x v e1 e2 e3=>?_⟩;obtain⟨u,r,l⟩:=hl i x v e1 e2 e3;refine⟨u,r,?_⟩;rcases l with l|⟨k,c,e,z⟩
  ·exact .inl l
  exact .inr ⟨k,c,e,tT x c e _ z⟩
 ·obtain⟨v,z⟩:=I.cell x c e;exact⟨v,tT x c e v z⟩
 ·obtain⟨m,⟨o,_,_,ho,_⟩,_⟩:=I.loc;exact free _ o (λz=>(pe _ z).2.1 Z) ho I.free
 ·obtain⟨v,o,ho,hd⟩:=I.cell x c e;exact free c o (λz=>(pe c z).2.2.1 x c e Z) ho (I.freeC x c e)
 obtain⟨e,n,ne,nf,d⟩:=I.pin p hp;have Nn:p.1∉ch:=λz=>(pe p.1 z).2.2.2 p hp rfl;exact⟨keep p.1 p.2 ne nf Nn e n,free p.1 p.2 Nn e n,ne,nf,d⟩
def Inv.un{t':Nat}(I:Inv X ac σ H s)(u:Un X.fs [] H H' s.heap h')(hok:HOk X.prog X.w H' h'):Inv X ac σ H' { s with heap:=h',toks:=t' }:=by
 obtain⟨m,⟨o,es,ep,ho,r⟩,_⟩:=id I.loc;obtain⟨sl,hL⟩:=u.any ho I.free ζ;exact I.step (g':=s.gens) (d':=s.drawn) (ch:=[]) (λ_ z=>nomatch z) (λb o _ hb _ e n=>u.keep b o e n hb ζ) (λb o _ hb _ e n=>u.slot b o e n hb ζ) (λb o _ e n=>u.free b o e n ζ) (λb o _ e=>u.there b o e ζ) u.tups u.frzs u.tbls (λm' hm=>by
  obtain⟨o',dt,pj,mw,r'⟩:=hm;rw[ho] at mw;cases mw;exact⟨_,dt,pj,hL,r'⟩) hok I.bare
def Inv.call{g':Array GenState}{t':Nat}{d':Drawn}{ch:List IN}(I:Inv X ac σ H s)(u:Un (frs X.stack) ch H H' s.heap h')(hok:HOk X.prog X.w H' h')(hg:IL g')
  (pe:∀b∈ch,(b∈X.ex\/X.s₀.heap.objs.size<=b)/\b≠X.env.locals/\(∀x c,X.env.cells.lookup x=ID c->c≠b)/\∀p∈X.pn++ac,p.1≠b) :
  Inv X ac σ H' { s with heap:=h',gens:=g',drawn:=d',toks:=t' }:=by
 obtain⟨m,⟨o,es,ep,ho,r⟩,_⟩:=id I.loc;obtain⟨sl,hL⟩:=u.any ho I.free λz=>(pe _ z).2.1 rfl;exact I.step (ch:=ch) pe (λb o hL hb hc e n=>u.keep b o e n (λz=>(AX.mp (I.oN b z)).elim hL hb) hc) (λb o _ _ hc e n=>u.any e n hc) (λb o hc e n=>u.free b o e n hc) (λb o hc e=>u.there b o e hc) u.tups u.frzs u.tbls (λm' hm=>by
  obtain⟨o',dt,pj,mw,r'⟩:=hm;rw[ho] at mw;cases mw;exact⟨_,dt,pj,hL,r'⟩) hok hg
def Inv.turned{t':Nat}{it:IN}(I:Inv X ac σ H s)(k:∀b o,b≠it->s.heap.get? b=ID o->h'.get? b=ID o)(hn:H it=IF)(hL:it≠X.env.locals)
  (h1:it∈X.ex\/X.s₀.heap.objs.size<=it)(h2:∀x c,X.env.cells.lookup x=ID c->c≠it)(h3:∀p∈X.pn++ac,p.1≠it):Inv X ac σ H { s with heap:=h',toks:=t' }:=by
 have so:∀b u,H b=ID u->b≠it:=λb u e z=>by rw[z,hn] at e;cases e
 refine I.step (g':=s.gens) (d':=s.drawn) (ch:=[it]) (λb hb=>?_) (λb o _ _ hc e _=>k b o (λz=>hc (by simp[z])) e) (λb o _ _ hc e _=>⟨o.slots,k b o (λz=>hc (by simp[z])) e⟩) (λ_ _ _ _ n=>n)
  (λb o hc e=>⟨o,k b o (λz=>hc (by simp[z])) e⟩) (λ_ _ e=>e) (λ_ _ _ e=>e) (λb ps e=>⟨#[],by rw[e];simp⟩) (λm hm=>?_) (λb u e=>?_) I.bare
 ·have e:b=it:=by simpa using hb
  subst e;exact⟨h1,hL,h2,h3⟩
 ·obtain⟨o,es,ep,ho,r⟩:=hm;exact⟨o,es,ep,k _ o (Co hL) ho,r⟩
 refine(I.hok b u e).stay (λc v hc q=>k c v ?_ q) (λ_ q=>q) λ_ _ q=>q;rcases hc with z|z
 ·rw[z];exact so b u e
 exact so c _ z
def Inv.tok(I:Inv X ac σ H s)(t:Nat):Inv X ac σ H { s with toks:=t }:=I.un (h':=s.heap) (t':=t) Un.refl I.hok
def Inv.kept{t':Nat}(I:Inv X ac σ H s)(k:∀b u,s.heap.get? b=ID u->h'.get? b=ID u):Inv X ac σ H { s with heap:=h',toks:=t' }:=I.un (Un.kept k) (I.hok.kept k)
def Inv.laid{a:IN}{o:HO}{t':Nat}(I:Inv X ac σ H s)(k:∀b u,s.heap.get? b=ID u->h'.get? b=ID u)(hp:s.heap.objs.size<=a)(new:bW X.prog X.w (upd H a o) h' a o) :
  Inv X ac σ (upd H a o) { s with heap:=h',toks:=t' }:=I.un (Un.laid k hp (I.hok.fresh hp)) (I.hok.laid k hp new)
def Inv.write{x e:IN}{o:HO}{t':Nat}(I:Inv X ac σ H s)(mu:Mut (H x))(he:e=x\/H e=ID (.own x))(k:∀b u,b≠e->s.heap.get? b=ID u->h'.get? b=ID u)(yA:∃u,h'.get? e=ID u)
  (new:bW X.prog X.w (upd H x o) h' x o):Inv X ac σ (upd H x o) { s with heap:=h',toks:=t' }:=I.un (Un.write mu he k yA) (I.hok.write mu he k yA new)
def Inv.kJ{si:List (IN×Obj)}(I:Inv X ac σ H s)(h:∀p∈si,s.heap.get? p.1=ID p.2/\H p.1=IF/\p.1≠X.env.locals/\p.1∉X.fs/\∀v,p.2.data≠.cell v):Inv X si σ H s:=
 ⟨I.ok,I.os,I.bare,I.base,I.loc,I.cell,I.free,I.freeC,λp hp=>(BG.mp hp).elim (λz=>I.pin p (EF _ z)) (h p),I.hok,I.len⟩
def Nb{N:List Str}(hN:N.Nodup){i j:Nat}{x:Str}(a:N[i]?=ID x)(b:N[j]?=ID x):i=j:=by
 obtain⟨h1,e1⟩:=AK.mp a;obtain⟨h2,e2⟩:=AK.mp b;exact(List.getElem_inj hN).mp (e1.trans e2.symm)
def G8{M:Model}{A:Bz}{E:Ap->AB->Prop}{i:Nat}{x:Str}{v:V}{u:Ap}{Q:Unit->AB->Prop}(I:Inv X ac σ H s)(hN:X.N.Nodup)(hi:X.N[i]?=ID x)(hx:Loc X.env.scope x)(r:RelV v u)
  (h:∀s',Inv X ac (σ.set i (ID v)) H s'->(∃a,Cc a s.heap s'.heap/\(a=X.env.locals\/X.env.cells.lookup x=ID a))->Q () s')(hf:X.fn x=true\/X.env.scope.names.lookup x=ID .local:=by first|exact .inl rfl|exact .inr rfl|assumption):AI M A (storeName X.env x u) Q E s:=by
 obtain⟨m,hn,hl⟩:=id I.loc;have We:(X.env.scope.kind == .class||(X.env.scope.kind == .module&&X.env.locals != X.env.globals))=false:=by rw[I.ok.kind];rfl
 have Os:i<σ.length:=by rw[I.len];exact(AK.mp hi).1
 have cne:=I.cne;have js:∀{a:IN}{h':Heap},(∃o,s.heap.get? a=ID o/\H a=IF)->Cc a s.heap h'->HOk X.prog X.w H h':=λ{a h'} ha hs b ob e=>by
  obtain⟨_,_,tq⟩:=ha;refine(I.hok b ob e).stay (λc w' hc q=>(hs.2 c ?_).trans q) (λ_ q=>q) λ_ _ q=>q;rintro rfl;rcases hc with rfl|hc
  ·rw[tq] at e;cases e
  rw[tq] at hc;cases hc
 rcases hx with hk|hk
 ·refine wpAny_storeName_local hk hn (λh' hn' hs=>?_) We;obtain⟨oL,_,_,UZ,_⟩:=id hn;refine h _ ⟨I.ok,I.os,I.bare,⟨λb o e n hb hx=>?_,λb o e n hb hx=>?_,I.base.free,λb o e hx=>?_,I.base.tups,I.base.frzs,I.base.tbls⟩,⟨_,hn',λj y v' e1 e2 e3=>?_⟩,λy c e=>?_,I.free,I.freeC,λp hp=>?_,js ⟨oL,UZ,I.free⟩ hs,by simpa using I.len⟩ ⟨_,hs,.inl rfl⟩
  ·exact(hs.2 b (BO (BA (A6 e) I.ok.above))).trans (I.base.keep b o e n hb hx)
  ·obtain⟨sl,e1⟩:=I.base.slot b o e n hb hx;exact⟨sl,(hs.2 b (BO (BA (A6 e) I.ok.above))).trans e1⟩
  ·obtain⟨o',e1⟩:=I.base.there b o e hx;exact⟨o',(hs.2 b (BO (BA (A6 e) I.ok.above))).trans e1⟩
  ·by_cases hj:j=i
   ·subst hj;rw[hi] at e1;cases e1;rw[List.getElem?_set_self Os] at e2;cases e2;exact⟨u,r,.inl ⟨hk,by simp⟩⟩
   rw[List.getElem?_set_ne (Co hj)] at e2;obtain⟨u',r',q⟩:=hl j y v' e1 e2 e3;refine⟨u',r',?_⟩;rcases q with⟨k,e⟩|⟨k,c,e,z⟩
   ·refine .inl ⟨k,?_⟩;have:y≠x:=λe=>hj (Nb hN e1 (e ▸ hi));simp[this,e]
   exact .inr ⟨k,c,e,z.sameBut hs (cne y c e)⟩
  ·obtain⟨w',z⟩:=I.cell y c e;exact⟨w',z.sameBut hs (cne y c e)⟩
  obtain⟨e,n,ne,nf,d⟩:=I.pin p hp;exact⟨(hs.2 p.1 ne).trans e,n,ne,nf,d⟩
 have yz:X.fn x=true:=by
  rcases hf with z|z
  ·exact z
  rw[z] at hk;cases hk
 obtain⟨c,hc⟩:=I.ok.has x (.inl hk);obtain⟨w',z⟩:=I.cell x c hc;refine wpAny_storeName_cell I.ok.kind hk hc z (λh' i7 hs=>?_);obtain⟨oc,ym,UY⟩:=id z;refine h { s with heap:=h' } ⟨I.ok,I.os,I.bare,⟨λb o e n hb hx=>?_,λb o e n hb hx=>?_,I.base.free,λb o e hx=>?_,I.base.tups,I.base.frzs,I.base.tbls⟩,⟨m,hn.sameBut hs (Co (cne x c hc)),λj y v' e1 e2 e3=>?_⟩,λy c' e=>?_,I.free,I.freeC,λp hp=>?_,js ⟨oc,ym,I.freeC x c hc⟩ hs,by simpa using I.len⟩ ⟨c,hs,.inr hc⟩
 ·exact(hs.2 b (BO (BA (A6 e) (I.ok.cab x c yz hc)))).trans (I.base.keep b o e n hb hx)
 ·obtain⟨sl,e1⟩:=I.base.slot b o e n hb hx;exact⟨sl,(hs.2 b (BO (BA (A6 e) (I.ok.cab x c yz hc)))).trans e1⟩
 ·obtain⟨o',e1⟩:=I.base.there b o e hx;exact⟨o',(hs.2 b (BO (BA (A6 e) (I.ok.cab x c yz hc)))).trans e1⟩
 ·by_cases hj:j=i
  ·subst hj;rw[hi] at e1;cases e1;rw[List.getElem?_set_self Os] at e2;cases e2;exact⟨u,r,.inr ⟨.inl hk,c,hc,i7⟩⟩
  rw[List.getElem?_set_ne (Co hj)] at e2;obtain⟨u',r',q⟩:=hl j y v' e1 e2 e3;refine⟨u',r',?_⟩;rcases q with q|⟨k,c',e,z'⟩
  ·exact .inl q
  refine .inr ⟨k,c',e,z'.sameBut hs ?_⟩;rintro rfl;exact hj (Nb hN e1 (I.ok.inj _ _ _ e hc ▸ hi))
 ·by_cases hcc:c'=c
  ·subst hcc;exact⟨_,i7⟩
  obtain⟨w2,z2⟩:=I.cell y c' e;exact⟨w2,z2.sameBut hs hcc⟩
 obtain⟨e,n,ne,nf,d⟩:=I.pin p hp;refine⟨(hs.2 p.1 ?_).trans e,n,ne,nf,d⟩;intro q;rw[q,ym] at e;have q':oc=p.2:=A7 e;exact d w' (by rw[<- q'];exact UY)
def qQ{M:Model}{A:Bz}{E:Ap->AB->Prop}{i:Nat}{x:Str}{v:V}{u:Ap}{Q:Unit->AB->Prop}(I:Inv X ac σ H s)(hN:X.N.Nodup)(hi:X.N[i]?=ID x)(hx:Loc X.env.scope x)(r:RelV v u)
  (h:∀s',Inv X ac (σ.set i (ID v)) H s'->Q () s')(hf:X.fn x=true\/X.env.scope.names.lookup x=ID .local:=by first|exact .inl rfl|exact .inr rfl|assumption):AI M A (storeName X.env x u) Q E s:=
 G8 I hN hi hx r (λs' I' _=>h s' I') hf
def Inv.call'{s':AB}{ch:List IN}(I:Inv X ac σ H s)(ho:s'.os=s.os)(u:Un (frs X.stack) ch H H' s.heap s'.heap)(hok:HOk X.prog X.w H' s'.heap)(hg:IL s'.gens)
  (pe:∀b∈ch,(b∈X.ex\/X.s₀.heap.objs.size<=b)/\b≠X.env.locals/\(∀x c,X.env.cells.lookup x=ID c->c≠b)/\∀p∈X.pn++ac,p.1≠b):Inv X ac σ H' s':=by
 obtain⟨h',g',d',t',o'⟩:=s';have e:o'=s.os:=ho;subst e;exact I.call (g':=g') (t':=t') (d':=d') u hok hg pe
end
abbrev XK:=Ap->Option IN->Hp->Prop
abbrev St:=List (Option V)
abbrev VK:=V->Hp->Prop
abbrev TE:=St->Hp->VK->Prop
abbrev TT:=St->Hp->(Bool->Hp->Prop)->Prop
abbrev TA:=St->Hp->(List V->Hp->Prop)->Prop
structure Ends where
 nx:St->Hp->Prop
 rt:VK
 bk:St->Hp->Prop:=λ_ _=>False
 ct:St->Hp->Prop:=λ_ _=>False
abbrev TS:=Ends->St->Hp->Prop
def EP(X:Cx)(ac:List (IN×Obj))(σ:St)(Q:VK)(u:Ap)(s':AB):Prop:=∃v H',Inv X ac σ H' s'/\RelV v u/\Q v H'
def TP(X:Cx)(ac:List (IN×Obj))(σ:St)(Q:Bool->Hp->Prop)(b:Bool)(s':AB):Prop:=∃H',Inv X ac σ H' s'/\Q b H'
def AP(X:Cx)(ac:List (IN×Obj))(σ:St)(Q:List V->Hp->Prop)(us:List Ap)(s':AB):Prop:=∃vs H',Inv X ac σ H' s'/\Vals vs us/\Q vs H'
def SP(X:Cx)(ac:List (IN×Obj))(D:Ends)(f:Flow)(s':AB):Prop:=
 match f with
 | .next=>∃σ' H',Inv X ac σ' H' s'/\D.nx σ' H'
 | .brk=>∃σ' H',Inv X ac σ' H' s'/\D.bk σ' H'
 | .cont=>∃σ' H',Inv X ac σ' H' s'/\D.ct σ' H'
 | .ret u=>∃v σ' H',Inv X ac σ' H' s'/\RelV v u/\D.rt v H'
def PE(X:Cx)(e:Expr)(t:TE):Prop:=
 ∀(ac:List (IN×Obj)) (s:AB) (σ:St) (H:Hp) (Q:VK),Inv X ac σ H s->t σ H Q->AI (AN X.prog X.w) X.A (eval e X.env) (EP X ac σ Q) X.xe s
def PT(X:Cx)(e:Expr)(t:TT):Prop:=
 ∀(ac:List (IN×Obj)) (s:AB) (σ:St) (H:Hp) (Q:Bool->Hp->Prop),Inv X ac σ H s->t σ H Q->AI (AN X.prog X.w) X.A (isTrue e X.env (eval e X.env)) (TP X ac σ Q) X.xe s
def PW(X:Cx)(e:Expr)(t:TT):Prop:=
 ∀(ff:Sem Ap)(ac:List (IN×Obj)) (s:AB) (σ:St) (H:Hp) (Q:Bool->Hp->Prop),Inv X ac σ H s->t σ H Q->AI (AN X.prog X.w) X.A (isTrue e X.env ff) (TP X ac σ Q) X.xe s
def PW.pt{X:Cx}{e:Expr}{t:TT}(h:PW X e t):PT X e t:=h _
def PA(X:Cx)(es:List Expr)(t:TA):Prop:=
 ∀(pos:Pos)(ac:List (IN×Obj)) (s:AB) (σ:St) (H:Hp) (Q:List V->Hp->Prop),Inv X ac σ H s->t σ H Q->AI (AN X.prog X.w) X.A (spliced (CO pos (AH es X.env))) (AP X ac σ Q) X.xe s
def PS(X:Cx)(st:Stmt)(t:TS):Prop:=
 ∀(ac:List (IN×Obj)) (s:AB) (σ:St) (H:Hp) (D:Ends),Inv X ac σ H s->t D σ H->AI (AN X.prog X.w) X.A (exec st X.env) (SP X ac D) X.xe s
def PSs(X:Cx)(st:List Stmt)(t:TS):Prop:=
 ∀(ac:List (IN×Obj)) (s:AB) (σ:St) (H:Hp) (D:Ends),Inv X ac σ H s->t D σ H->AI (AN X.prog X.w) X.A (execs st X.env) (SP X ac D) X.xe s
def thn{α:Type}{t:Sem α}{Q Q':α->AB->Prop}{M:Model}{A:Bz}{E:Ap->AB->Prop}{s:AB}(h:AI M A t Q E s)(hQ:∀a s,Q a s->Q' a s):AI M A t Q' E s:=BD h hQ λ_ _ x=>x
def thE{t:Sem Ap}{X:Cx}{ac:List (IN×Obj)}{σ:St}{Q:VK}{Q':Ap->AB->Prop}{M:Model}{A:Bz}{E:Ap->AB->Prop}{s:AB}(h:AI M A t (EP X ac σ Q) E s)(hQ:∀u s x H,Inv X ac σ H s->RelV x u->Q x H->Q' u s):AI M A t Q' E s:=thn h λu s z=>by
 obtain⟨x,H,I,r,q⟩:=z;exact hQ u s x H I r q
def thA{t:Sem (List Ap)}{X:Cx}{ac:List (IN×Obj)}{σ:St}{Q:List V->Hp->Prop}{Q':List Ap->AB->Prop}{M:Model}{A:Bz}{E:Ap->AB->Prop}{s:AB}(h:AI M A t (AP X ac σ Q) E s)(hQ:∀u s x H,Inv X ac σ H s->Vals x u->Q x H->Q' u s):AI M A t Q' E s:=thn h λu s z=>by
 obtain⟨x,H,I,r,q⟩:=z;exact hQ u s x H I r q
def thT{t:Sem Bool}{X:Cx}{ac:List (IN×Obj)}{σ:St}{Q:Bool->Hp->Prop}{Q':Bool->AB->Prop}{M:Model}{A:Bz}{E:Ap->AB->Prop}{s:AB}(h:AI M A t (TP X ac σ Q) E s)(hQ:∀u s H,Inv X ac σ H s->Q u H->Q' u s):AI M A t Q' E s:=thn h λu s z=>by
 obtain⟨H,I,q⟩:=z;exact hQ u s H I q
section
variable {X:Cx}
def Qd(i:Nat):TE:=λσ H Q=>∃v,σ[i]?=ID (ID v)/\Q v H
def tC(v:V):TE:=λ_ H Q=>Q v H
def ZC{i:Nat}{x:Str}{pos:Pos}(hN:X.N[i]?=ID x)(hv:Vis X.env.scope x)(hd:(x == ("__debug__" : Str))=false:=by decide)(hcd:(x == ("__classdict__" : Str))=false:=by decide):PE X (.Name x pos) (Qd i):=by
 intro ac s σ H Q I h;obtain⟨v,e,h⟩:=h;obtain⟨m,hn,hl⟩:=I.loc;obtain⟨u,r,l⟩:=hl i x v hN e hv;have fin:EP X ac σ Q u s:=⟨v,H,I,r,h⟩;rcases l with⟨hk,hm⟩|⟨hk,c,hc,fw⟩
 ·exact wpAny_Name (wpAny_loadName_local I.ok.kind hk hn hm fin) hd
 rcases hk with hk|hk
 ·exact wpAny_Name (wpAny_loadName_cell I.ok.kind hk hc fw fin) hd
 exact wpAny_Name (wpAny_loadName_free I.ok.kind hk hc fw fin hcd) hd
def ZF{i j pos}:PE X (.Constant (.int i) j pos) (tC (.int i)):=λ_ _ _ H _ I h=>wpAny_Constant_int ⟨.int i,H,I.tok _,⟨_,rfl⟩,h⟩
def Gl(X:Cx)(x:Str):Prop:=X.env.kindOf x=ID .globalImplicit
def Ke{E:Ap->AB->Prop}{ac:List (IN×Obj)}{s:AB}{σ:St}{H:Hp}{x:Str}{u:Ap}{pos:Pos}{Q:Ap->AB->Prop}(I:Inv X ac σ H s)(hg:Gl X x)(hm:X.mg x=ID u)(h:Q u s)
  (hd:(x == ("__debug__" : Str))=false:=by decide):AI (AN X.prog X.w) X.A (eval (.Name x pos) X.env) Q E s:=
 Calls.Name_function_global I.ok.kind hg (Calls.loadGlobal_global (by rw[I.ok.glob];exact I.mod.glob.keeps I.bk) hm h) hd
def iM{E:Ap->AB->Prop}{ac:List (IN×Obj)}{s:AB}{σ:St}{H:Hp}{x:Str}{u:Ap}{pos:Pos}{Q:Ap->AB->Prop}(I:Inv X ac σ H s)(hg:Gl X x)(hm:X.mg x=IF)(hv:Ev x=ID u)(h:Q u s)
  (hn:x ≠ "__name__" := by decide)(hd:(x == ("__debug__" : Str))=false:=by decide):AI (AN X.prog X.w) X.A (eval (.Name x pos) X.env) Q E s:=by
 obtain⟨mb,h1,h2⟩:=I.mod.blt;exact Calls.Name_function_global I.ok.kind hg (Calls.loadGlobal_builtin (by rw[I.ok.glob];exact I.mod.glob.keeps I.bk) hm (by rw[I.ok.blt];exact h1.keeps I.bk) ((h2 x hn).trans hv) h) hd
def ac1{x:Str}{v:V}{u:Ap}{pos:Pos}(hg:Gl X x)(hm:X.mg x=IF)(hv:Ev x=ID u)(r:RelV v u)(hn:x ≠ "__name__" := by decide)(hd:(x == ("__debug__" : Str))=false:=by decide):PE X (.Name x pos) (tC v):=
 λ_ _ _ H _ I h=>iM I hg hm hv ⟨v,H,I,r,h⟩ hn hd
variable {a b:Expr}{ta tb:TE}{pos:Pos}
def tB(t:TE):TT:=λσ H Q=>t σ H λx H1=>∃c,x=.bl c/\Q c H1
variable {tA tB':TT}{aE:List Expr}
def abQ(t u:TT):TT:=λσ H Q=>t σ H λc H1=>if c=true then u σ H1 Q else Q false H1
def tOr(t u:TT):TT:=λσ H Q=>t σ H λc H1=>if c=true then Q true H1 else u σ H1 Q
def X8(t:TT):TT:=λσ H Q=>t σ H λc H1=>Q (!c) H1
def Yk(ta tb:TE):TE:=λσ H Q=>ta σ H λx H1=>∃c,x=.bl c/\if c=true then tb σ H1 Q else Q (.bl false) H1
def aeE(ta tb:TE):TE:=λσ H Q=>ta σ H λx H1=>∃c,x=.bl c/\if c=true then Q (.bl true) H1 else tb σ H1 Q
def X7(ta:TE):TE:=λσ H Q=>ta σ H λx H1=>∃c,x=.bl c/\Q (.bl (!c)) H1
def tIf(t:TT)(ta tb:TE):TE:=λσ H Q=>t σ H λc H1=>if c=true then ta σ H1 Q else tb σ H1 Q
end
def SqL(K:AA)(H:Hp)(a:IN)(xs:List V):Prop:=
 Rd H a (.lst xs) \/
  ∃(o:Obj)(af:Array Ap)(n:Nat),K.lookup a=ID o/\o.cls=.type "list" /\ o.dict=IF/\o.data=.seq af n/\af.size<=AJ/\Vals xs af.toList
def SqT(K:AA)(H:Hp)(a:IN)(xs:List V):Prop:=
 Rd H a (.tup xs) \/
  ∃(o:Obj)(af:Array Ap)(n:Nat),K.lookup a=ID o/\o.cls=.type "tuple" /\ o.data=.seq af n/\af.size<=AJ/\Vals xs af.toList
def ahM:Ap->Option V
 | .none=>ID .non
 | .bool b=>ID (.bl b)
 | .int i _=>ID (.int i)
 | .str x _=>ID (.str x)
 | .bytes b _=>ID (.byt b)
 | .float b _=>ID (.flt b)
 | .ref a=>ID (.ref a)
 | .type n=>ID (.ty n)
 | _=>IF
theorem RelV.abs{x:V}{u:Ap}(r:RelV x u):ahM u=ID x:=by
 cases x with
 | non=>cases r;rfl
 | bl _=>cases r;rfl
 | int _=>obtain⟨t,rfl⟩:=r;rfl
 | str _=>obtain⟨t,rfl⟩:=r;rfl
 | byt _=>obtain⟨t,rfl⟩:=r;rfl
 | flt _=>obtain⟨t,rfl⟩:=r;rfl
 | ref _=>cases r;rfl
 | ty _=>cases r;rfl
def RelV.inj{x y:V}{u:Ap}(r:RelV x u)(q:RelV y u):x=y:=A7 (r.abs.symm.trans q.abs)
theorem Vals.inj:∀{xs ys:List V}{us:List Ap},Vals xs us->Vals ys us->xs=ys
 | _,_,_,.nil,.nil=>rfl
 | _,_,_,.cons r t,.cons r' t'=>by rw[r.inj r',Vals.inj t t']
section
variable {X:Cx}{ac:List (IN×Obj)}{σ:St}{H:Hp}{s:AB}{a:IN}{xs ys:List V}
def SqL.of{K:AA}(h:H a=ID (.lst xs)):SqL K H a xs:=.inl (.inl h)
def SqT.of{K:AA}(h:H a=ID (.tup xs)):SqT K H a xs:=.inl (.inl h)
def Inv.list(I:Inv X ac σ H s)(h:SqL X.K H a xs):∃af:List Ap,Vals xs af/\PlainL s.heap a af.toArray/\xs.length<=AJ:=by
 rcases h with h|⟨o,af,n,hk,hc,hd,hs,hz,r⟩
 ·obtain⟨z,af,n,r,e⟩:=h.ok I.hok;exact⟨af,r,⟨_,n,e,rfl,rfl,rfl⟩,z⟩
 refine⟨af.toList,r,⟨o,n,I.kIn a o hk,hc,hd,by simpa using hs⟩,?_⟩;have e:=r.length;simp only[Ex] at e;omega
def Inv.tuple(I:Inv X ac σ H s)(h:SqT X.K H a xs):∃af:List Ap,Vals xs af/\IsTup s.heap a af.toArray/\xs.length<=AJ:=by
 rcases h with h|⟨o,af,n,hk,hc,hs,hz,r⟩
 ·obtain⟨z,af,r,p⟩:=h.ok I.hok;exact⟨af,r,p,z⟩
 refine⟨af.toList,r,⟨o,I.kIn a o hk,hc,n,by simpa using hs⟩,?_⟩;have e:=r.length;simp only[Ex] at e;omega
def Inv.rZ(I:Inv X ac σ H s)(h:SqL X.K H a xs)(h':SqL X.K H a ys):xs=ys:=by
 obtain⟨af,r,⟨o,n,e,_,_,d⟩,_⟩:=I.list h;obtain⟨its',r',⟨o',n',e',_,_,d'⟩,_⟩:=I.list h';rw[e] at e';cases e';rw[d] at d';injection d' with d1 _;have:af=its':=by simpa using congrArg Array.toList d1
 subst this;exact r.inj r'
def Inv.tX(I:Inv X ac σ H s)(h:SqT X.K H a xs)(h':SqT X.K H a ys):xs=ys:=by
 obtain⟨af,r,⟨o,e,_,n,d⟩,_⟩:=I.tuple h;obtain⟨its',r',⟨o',e',_,n',d'⟩,_⟩:=I.tuple h';rw[e] at e';cases e';rw[d] at d';injection d' with d1 _;have:af=its':=by simpa using congrArg Array.toList d1
 subst this;exact r.inj r'
end
abbrev Cx.wish(X:Cx)(E:Ap->AB->Prop):Cx:={ X with xe:=E }
abbrev Cx.nox(X:Cx):Cx:=X.wish λ_ _=>False
def Cx.Ok.wish{X:Cx}(ok:X.Ok)(E:Ap->AB->Prop):(X.wish E).Ok:=
 ⟨ok.mod,ok.kind,ok.glob,ok.blt,ok.above,ok.inj,ok.has,ok.cab,ok.hd,ok.frames,ok.stk,ok.exf,ok.bs,ok.bsz,ok.noex,ok.exfs,ok.sY,ok.frf⟩
def Cx.Ok.qP{X:Cx}{E:Ap->AB->Prop}(ok:(X.wish E).Ok):X.Ok:=
 ⟨ok.mod,ok.kind,ok.glob,ok.blt,ok.above,ok.inj,ok.has,ok.cab,ok.hd,ok.frames,ok.stk,ok.exf,ok.bs,ok.bsz,ok.noex,ok.exfs,ok.sY,ok.frf⟩
section
variable {X:Cx}{ac:List (IN×Obj)}{σ:St}{H:Hp}{s:AB}{E:Ap->AB->Prop}
def Inv.wish(I:Inv X ac σ H s)(E:Ap->AB->Prop):Inv (X.wish E) ac σ H s:=⟨I.ok.wish E,I.os,I.bare,I.base,I.loc,I.cell,I.free,I.freeC,I.pin,I.hok,I.len⟩
def Inv.qP(I:Inv (X.wish E) ac σ H s):Inv X ac σ H s:=⟨I.ok.qP,I.os,I.bare,I.base,I.loc,I.cell,I.free,I.freeC,I.pin,I.hok,I.len⟩
theorem SP.qP{D:Ends}{f:Flow}{s':AB}(h:SP (X.wish E) ac D f s'):SP X ac D f s':=by
 cases f with
 | next=>obtain⟨σ',H',I,q⟩:=h;exact⟨σ',H',I.qP,q⟩
 | brk=>obtain⟨σ',H',I,q⟩:=h;exact⟨σ',H',I.qP,q⟩
 | cont=>obtain⟨σ',H',I,q⟩:=h;exact⟨σ',H',I.qP,q⟩
 | ret u=>obtain⟨v,σ',H',I,r,q⟩:=h;exact⟨v,σ',H',I.qP,r,q⟩
def PSs.nox{st:List Stmt}{t:TS}(h:PSs X.nox st t):PSs X st t:=λac s σ H D I hw=>
 BD (h ac s σ H D (I.wish _) hw) (λ_ _ q=>q.qP) λ_ _ z=>C9 z
end
section
variable {X:Cx}{st:Stmt}{aE:List Stmt}{t u:TS}{e:Expr}{te:TE}{pos:Pos}
def Lr:TS:=λD σ H=>D.nx σ H
def Vz(t u:TS):TS:=λD σ H=>t { D with nx:=u D } σ H
theorem Zt(h1:PS X st t)(h2:PSs X aE u):PSs X (st::aE) (Vz t u):=by
 intro ac s σ H D I h;refine wpAny_execs_cons (thn (h1 ac s σ H { D with nx:=u D } I h) λf s1 q=>?_);cases f with
 | next=>
  obtain⟨σ',H',I',q⟩:=q;exact h2 ac s1 σ' H' D I' q
 | ret v=>exact q
 | brk=>exact q
 | cont=>exact q
theorem acF(h1:PS X st t):PSs X [st] t:=by
 intro ac s σ H D I h;refine wpAny_execs_cons (thn (h1 ac s σ H D I h) λf s1 q=>?_);cases f with
 | next=>exact KM q
 | ret v=>exact q
 | brk=>exact q
 | cont=>exact q
def Inv.quiet{ac:List (IN×Obj)}{σ:St}{H:Hp}{s:AB}(I:Inv X ac σ H s):interactive X.env=false:=by simp[interactive,I.ok.kind]
def Lw(te:TE):TS:=λD σ H=>te σ H λ_ H1=>D.nx σ H1
def Qf(te:TE):TS:=λD σ H=>te σ H D.rt
def VB(c:TT)(t u:TS):TS:=λD σ H=>c σ H λb H1=>if b=true then t D σ H1 else u D σ H1
end
abbrev TG:=V->St->Hp->(St->Hp->Prop)->Prop
abbrev TGs:=List V->St->Hp->(St->Hp->Prop)->Prop
def PG(X:Cx)(target:Expr)(t:TG):Prop:=
 ∀(ac:List (IN×Obj)) (s:AB) (σ:St) (H:Hp) (v:V) (u:Ap) (Q:St->Hp->Prop),Inv X ac σ H s->RelV v u->t v σ H Q ->
  AI (AN X.prog X.w) X.A (E3 target X.env u) (λ_ s'=>∃σ' H',Inv X ac σ' H' s'/\Q σ' H') X.xe s
def PGs(X:Cx)(ts:List Expr)(t:TGs):Prop:=
 ∀(ac:List (IN×Obj)) (s:AB) (σ:St) (H:Hp) (vs:List V) (us:List Ap) (Q:St->Hp->Prop),Inv X ac σ H s->Vals vs us->t vs σ H Q ->
  AI (AN X.prog X.w) X.A (assignInOrder ((D8 ts X.env).map (·.2)) us) (λ_ s'=>∃σ' H',Inv X ac σ' H' s'/\Q σ' H') X.xe s
abbrev SQ:=V->V->V->Hp->(Hp->Prop)->Prop
def S5(X:Cx)(t:SQ):Prop:=
 ∀(ac:List (IN×Obj)) (s:AB) (σ:St) (H:Hp) (o i v:V) (ov iv u:Ap) (Q:Hp->Prop),Inv X ac σ H s->RelV o ov->RelV i iv->RelV v u->t o i v H Q ->
  AI (AN X.prog X.w) X.A (setItem ov iv u) (λ_ s'=>∃H',Inv X ac σ H' s'/\Q H') X.xe s
abbrev TIp:=V->V->Hp->VK->Prop
def PIp(X:Cx)(op:Operator)(t:TIp):Prop:=
 ∀(ac:List (IN×Obj)) (s:AB) (σ:St) (H:Hp) (x y:V) (v u:Ap) (Q:VK),Inv X ac σ H s->RelV x v->RelV y u->t x y H Q ->
  AI (AN X.prog X.w) X.A (inplaceOp op v u) (EP X ac σ Q) X.xe s
section
variable {X:Cx}{pos:Pos}
def lF(i:Nat):TG:=λv σ H Q=>Q (σ.set i (ID v)) H
def Uj{i:Nat}{x:Str}(hN:X.N.Nodup)(hi:X.N[i]?=ID x)(hx:Loc X.env.scope x)(hf:X.fn x=true\/X.env.scope.names.lookup x=ID .local:=by first|exact .inl rfl|exact .inr rfl|assumption):PG X (.Name x pos) (lF i):=by
 intro ac s σ H v u Q I r h;exact wpAny_assign_Name (qQ I hN hi hx r (λs' I'=>⟨_,H,I',h⟩) hf)
def agd:TGs:=λvs σ H Q=>vs=[]/\Q σ H
def aaR(t:TG)(u:TGs):TGs:=λvs σ H Q=>∃v r,vs=v::r/\t v σ H λσ' H'=>u r σ' H' Q
def ahK(K:AA)(n:Nat)(t:TGs):TG:=λv σ H Q=>∃a xs,v=.ref a/\SqT K H a xs/\xs.length=n/\t xs σ H Q
def afj{es:List Expr}{k:Nat}{t:TGs}{n:Nat}(hc:X.calm=true)(h:PGs X es t)
  (hn:(D8 es X.env).length=n:=by rfl)(gz:(D8 es X.env).findIdx? (·.1)=IF:=by rfl):PG X (.Tuple es k pos) (ahK X.K n t):=by
 intro ac s σ H v u Q I r hw;obtain⟨a,xs,e1,hq,hl,hw⟩:=hw;subst e1;cases r;obtain⟨af,rv,ht,hz⟩:=I.tuple hq;refine assign_Tuple_tuple (I.ok.hd hc) ht (by simp[hn,<- hl,rv.length]) gz λh' hx=>?_;have I1:Inv X ac σ H { s with heap:=h' }:=I.kept (t':=s.toks) λb o e=>hx b o (BO (A6 e)) e;exact h ac _ σ H xs _ Q I1 (by simpa using rv) hw
def aaP(to ti:TE)(t:SQ):TG:=λv σ H Q=>to σ H λo H1=>ti σ H1 λi H2=>t o i v H2 λH3=>Q σ H3
def QD{o i:Expr}{to ti:TE}{t:SQ}(ho:PE X o to)(hi:PE X i ti)(hs:S5 X t)
   (ha:∀v,E3 (.Subscript o i pos) X.env v=(do
   let ov <- FH [v] (eval o X.env)
   let iv <- FH [v,ov] (eval i X.env)
   F4 pos
   FH [v,ov,iv] (setItem ov iv v)
   release [v,ov,iv] []):=by intro _;rfl):PG X (.Subscript o i pos) (aaP to ti t):=by
 intro ac s σ H v u Q I r h;rw[ha];refine An (CB (thE (ho ac s σ H _ I h) λov s1 x H1 I1 r1 q1=>?_));refine An (CB (thE (hi ac s1 σ H1 _ I1 q1) λiv s2 y H2 I2 r2 q2=>?_));refine An (C4 (An (CB (thn (hs ac s2 σ H2 x y v ov iv u _ I2 r1 r2 r q2) λ_ s3 ⟨H3,I3,q3⟩=>?_))));exact wpAny_release ⟨σ,H3,I3,q3⟩
def z8(te:TE)(g:TG):TS:=λD σ H=>te σ H λx H1=>g x σ H1 D.nx
def ae9{i:Nat}{x:Str}{e:Expr}{te:TE}{ba:Pos}(hN:X.N.Nodup)(hi:X.N[i]?=ID x)(hx:Loc X.env.scope x)(he:PE X e te)(hs:JI e (ID (.Name x ba)) pos.line X.env=pure false:=by rfl)(hf:X.fn x=true\/X.env.scope.names.lookup x=ID .local:=by first|exact .inl rfl|exact .inr rfl|assumption) :
  PS X (.Assign [.Name x ba] e pos) (z8 te (lF i)):=by
 intro ac s σ H D I h;refine wpAny_Assign_Name (thE (he ac s σ H _ I h) λv s1 y H1 I1 r1 q1=>?_) hs;exact qQ I1 hN hi hx r1 (λs2 I2=>⟨_,H1,I2,q1⟩) hf
def aeD(i j:Nat)(ta:TA):TS:=λD σ H=>ta σ H λvs H1=>∃v w,vs=[v,w]/\D.nx ((σ.set i (ID v)).set j (ID w)) H1
def aeH(i:Nat)(te:TE)(ti:TIp):TS:=λD σ H=>∃x,σ[i]?=ID (ID x)/\te σ H λy H1=>ti x y H1 λz H2=>D.nx (σ.set i (ID z)) H2
def afd{i:Nat}{x:Str}{e:Expr}{te:TE}{op:Operator}{ti:TIp}{ba:Pos}(hN:X.N.Nodup)(hi:X.N[i]?=ID x)(hx:Loc X.env.scope x)(he:PE X e te)(ho:PIp X op ti)(hf:X.fn x=true\/X.env.scope.names.lookup x=ID .local:=by first|exact .inl rfl|exact .inr rfl|assumption) :
  PS X (.AugAssign (.Name x ba) op e pos) (aeH i te ti):=by
 intro ac s σ H D I h;obtain⟨v,e1,h⟩:=h;obtain⟨m,hn,hl⟩:=I.loc;have zS:Vis X.env.scope x:=by rcases hx with k|k;exact .inl k;exact .inr (.inl k)
 obtain⟨u,r,l⟩:=hl i x v hi e1 zS;refine wpAny_AugAssign_Name ?_;have go:AI (AN X.prog X.w) X.A (eval e X.env) (λw s₂=>AI (AN X.prog X.w) X.A (inplaceOp op u w) (λr s₃=>AI (AN X.prog X.w) X.A (storeName X.env x r) (λ_=>SP X ac D .next) X.xe s₃) X.xe s₂) X.xe s:=by
  refine thE (he ac s σ H _ I h) λw s1 y H1 I1 r1 q1=>?_;refine thE (ho ac s1 σ H1 v y u w _ I1 r r1 q1) λz s2 zv H2 I2 r2 q2=>?_;exact qQ I2 hN hi hx r2 (λs3 I3=>⟨_,H2,I3,q2⟩) hf
 rcases l with⟨hk,hm⟩|⟨hk,c,hc,fw⟩
 ·exact wpAny_loadName_local I.ok.kind hk hn hm go
 rcases hk with hk|hk
 ·exact wpAny_loadName_cell I.ok.kind hk hc fw go
 rcases hx with k|k
 ·have:X.env.scope.names.lookup x=ID .free:=hk;rw[k] at this;cases this
 have:X.env.scope.names.lookup x=ID .free:=hk;rw[k] at this;cases this
def ipI(f:Int->Int->Int):TIp:=λx y H Q=>∃i j,x=.int i/\y=.int j/\Q (.int (f i j)) H
def af5:PIp X .Add (ipI λi j=>i+j):=by
 intro ac s σ H x y v u Q I r1 r2 h;obtain⟨i,j,e1,e2,q⟩:=h;subst e1;subst e2;obtain⟨t,rfl⟩:=r1;obtain⟨t',rfl⟩:=r2;exact iadd_int ⟨.int _,H,I.tok _,⟨_,rfl⟩,q⟩
def af4:PIp X .Sub (ipI λi j=>i-j):=by
 intro ac s σ H x y v u Q I r1 r2 h;obtain⟨i,j,e1,e2,q⟩:=h;subst e1;subst e2;obtain⟨t,rfl⟩:=r1;obtain⟨t',rfl⟩:=r2;exact isub_int ⟨.int _,H,I.tok _,⟨_,rfl⟩,q⟩
def Qc(c:TT)(tb:TS):TS:=λD σ H=>∃W:Nat->St->Hp->Prop,(∃m,W m σ H)/\∀m σ H,W m σ H ->
 c σ H λb H1=>if b=true then ∃N:St->Hp->Prop,(∀σ' H',N σ' H'->∃m',m'<m/\W m' σ' H')/\tb { D with nx:=N,ct:=N,bk:=D.nx } σ H1 else D.nx σ H1
end
structure It where
 go:Nat->Hp->Prop
 yld:Nat->Hp->V->Hp->Prop
 stop:Nat->Hp->Prop
def mY(X:Cx)(ac:List (IN×Obj))(H:Hp)(b:IN):Prop:=
 H b=IF/\b≠X.env.locals/\b∉X.fs/\(b∈X.ex\/X.s₀.heap.objs.size<=b)/\(∀x c,X.env.cells.lookup x=ID c->c≠b)/\∀p∈X.pn++ac,p.1≠b
def Inv.GP{X:Cx}{ac:List (IN×Obj)}{σ:St}{H H':Hp}{s:AB}{b:IN}(I:Inv X ac σ H s)(hb:s.heap.objs.size<=b)(hn:H' b=IF):mY X ac H' b:=by
 refine⟨hn,JJ (BA I.lt hb),I.Z7 hb,.inr (BU I.sz hb),λx c e z=>?_,λp hp z=>?_⟩
 ·obtain⟨v,q⟩:=I.cell x c e;exact absurd (BA q.lt (by rw[z];exact hb)) (ED _)
 exact absurd (BA (A6 (I.pin p hp).1) (by rw[z];exact hb)) (ED _)
structure Turn(P:AO)(w:Bi)(K:AA)(tg:Expr)(J:It)(fp:List IN)(it:IN)(tn:Nat->Heap->Prop):Prop where
 mem:it∈fp
 obj:∀i h,tn i h->∀b∈fp,∃o,h.get? b=ID o/\∀v,o.data≠.cell v
 keep:∀i h h',tn i h->(∀b∈fp,∀o,h.get? b=ID o->h'.get? b=ID o)->tn i h'
 item:∀(X:Cx),X.prog=P->X.w=w->X.K=K->X.calm=true->∀(i:Nat)(ac:List (IN×Obj)) (s:AB) (σ:St) (H:Hp) (E:Ap->AB->Prop),Inv X ac σ H s->(∀b∈fp,mY X ac H b)->tn i s.heap->J.go i H ->
  AI (AN P w) X.A (EJ (.ref it)) (λr s1=>∃u,r=ID u /\
   AI (AN P w) X.A (DM tg (.ref it) u) (λ_ s2=>∃x H',Inv X ac σ H' s2/\RelV x u/\J.yld i H x H'/\tn (i+1) s2.heap/\∀b∈fp,H' b=IF) E s1) E s
 done:∀(X:Cx),X.prog=P->X.w=w->X.K=K->X.calm=true->∀(i:Nat)(ac:List (IN×Obj)) (s:AB) (σ:St) (H:Hp) (E:Ap->AB->Prop),Inv X ac σ H s->(∀b∈fp,mY X ac H b)->tn i s.heap->J.stop i H ->
  AI (AN P w) X.A (EJ (.ref it)) (λr s1=>r=IF/\Inv X ac σ H s1) E s
 self:∀(A:Bz)(i:Nat)(s:AB)(Q:Ap->AB->Prop)(E:Ap->AB->Prop),tn i s.heap->Q (.ref it) s->AI (AN P w) A (IY (.ref it)) Q E s
abbrev TI:=St->Hp->(It->Hp->Prop)->Prop
def PIE(X:Cx)(ac:List (IN×Obj))(σ:St)(tg:Expr)(R:It->Hp->Prop)(yb:Ap)(s2:AB):Prop:=
 ∃(it:IN)(fp:List IN)(tn:Nat->Heap->Prop)(J:It)(H':Hp),yb=.ref it/\Inv X ac σ H' s2/\Turn X.prog X.w X.K tg J fp it tn/\tn 0 s2.heap/\(∀b∈fp,mY X ac H' b)/\R J H'
def PI(X:Cx)(tg iter:Expr)(wi:TI):Prop:=
 ∀(ac:List (IN×Obj)) (s:AB) (σ:St) (H:Hp) (R:It->Hp->Prop),Inv X ac σ H s->wi σ H R ->
  AI (AN X.prog X.w) X.A (eval iter X.env) (λv s1=>AI (AN X.prog X.w) X.A (IY v) (PIE X ac σ tg R) X.xe s1) X.xe s
theorem N6{M:Model}{A:Bz}{E:Ap->AB->Prop}{s:AB}{tg:Expr}{it:IN}{u:Ap}{o:Obj}{n:String}{vs:Array Ap}{Q:Unit->AB->Prop}(ho:s.heap.get? it=ID o)(hc:o.cls=.type n)(hd:o.data=.fields vs)
  (hn:["enumerate","zip","dict_itemiterator","dict_reverseitemiterator","odict_iterator","itertools.zip_longest","itertools.pairwise"].contains n=false)(hQ:Q () s):AI M A (DM tg (.ref it) u) Q E s:=by
 unfold DM;cases tg <;> first
  | exact Au hQ
  | (cases u <;> first
    | exact Au hQ
    | (refine An (wpAny_load ho ?_)
       rw[hc,hd];show AI M A (if (["enumerate","zip","dict_itemiterator","dict_reverseitemiterator","odict_iterator","itertools.zip_longest","itertools.pairwise"].contains n&&vs[0]? == ID (CI _))=true then _ else _) Q E s;rw[if_neg (by intro h;rw[hn,Bool.false_and] at h;cases h)];exact Au hQ))
def Itl(K:AA)(a:IN):It:=
 ⟨λi H=>∃xs x,SqL K H a xs/\xs[i]?=ID x,λi H x H'=>H'=H/\∀xs,SqL K H a xs->xs[i]?=ID x,λi H=>∃xs,SqL K H a xs/\xs.length<=i⟩
def Itt(K:AA)(a:IN):It:=
 ⟨λi H=>∃xs x,SqT K H a xs/\xs[i]?=ID x,λi H x H'=>H'=H/\∀xs,SqT K H a xs->xs[i]?=ID x,λi H=>∃xs,SqT K H a xs/\xs.length<=i⟩
def Itr(lo:Int)(n:Nat):It:=⟨λi _=>i<n,λi H x H'=>H'=H/\x=.int (lo+i),λi _=>n<=i⟩
def Vr{P:AO}{w:Bi}{K:AA}{tg:Expr}(a it:IN):Turn P w K tg (Itl K a) [it] it (λi h=>h.IsListIter it a i) where
 mem:=by simp
 obj:=λi h st b hb=>by
  have e:b=it:=by simpa using hb
  subst e;obtain⟨o,e,c,d⟩:=st;exact⟨o,e,λv z=>by rw[d] at z;cases z⟩
 keep:=λi h h' st k=>st.at λo e=>k it ζ o e
 item:=by
  intro X hP hw hK hc i ac s σ H E I hf st hg;subst hP hw hK;obtain⟨xs,x,hq,hx⟩:=hg;obtain⟨af,rv,p,hz⟩:=I.list hq;obtain⟨u,hu,ru⟩:=rv.get hx;obtain⟨f0,f1,f2,f3,f4,f5⟩:=hf it ζ;refine wpAny_pyNext_list_item st p.isList (x:=u) (by simpa using hu) λh' dy sb=>?_;have I1:Inv X ac σ H { s with heap:=h' }:=I.turned (t':=s.toks) (λb o hb e=>(sb.2 b hb).trans e) f0 f1 f3 f4 f5;obtain⟨o,e,c,d⟩:=id dy;exact⟨u,rfl,N6 (s:={ s with heap:=h' }) e c d δ ⟨x,H,I1,ru,⟨rfl,λys hy=>by rw[I.rZ hy hq];exact hx⟩,dy,λb hb=>(hf b hb).1⟩⟩
 done:=by
  intro X hP hw hK hc i ac s σ H E I hf st hg;subst hP hw hK;obtain⟨xs,hq,hx⟩:=hg;obtain⟨af,rv,p,hz⟩:=I.list hq;obtain⟨f0,f1,f2,f3,f4,f5⟩:=hf it ζ;have hl:=rv.length;exact wpAny_pyNext_list_end (I.ok.hd hc) st p.isList (by simp;omega) λh' eb=>⟨rfl,I.turned (t':=s.toks) (λb o hb e=>eb b o hb e) f0 f1 f3 f4 f5⟩
 self:=λ_ _ _ _ _ st h=>wpAny_pyIter_listiter st h
def PL{P:AO}{w:Bi}{K:AA}{tg:Expr}(a it:IN):Turn P w K tg (Itt K a) [it] it (λi h=>h.IsTupleIter it a i) where
 mem:=by simp
 obj:=λi h st b hb=>by
  have e:b=it:=by simpa using hb
  subst e;obtain⟨o,e,c,d⟩:=st;exact⟨o,e,λv z=>by rw[d] at z;cases z⟩
 keep:=λi h h' st k=>st.at λo e=>k it ζ o e
 item:=by
  intro X hP hw hK hc i ac s σ H E I hf st hg;subst hP hw hK;obtain⟨xs,x,hq,hx⟩:=hg;obtain⟨af,rv,p,hz⟩:=I.tuple hq;obtain⟨u,hu,ru⟩:=rv.get hx;obtain⟨f0,f1,f2,f3,f4,f5⟩:=hf it ζ;refine wpAny_pyNext_tuple_item st (show s.heap.IsTuple a af.toArray from p) (x:=u) (by simpa using hu) λh' dy sb=>?_;have I1:Inv X ac σ H { s with heap:=h' }:=I.turned (t':=s.toks) (λb o hb e=>(sb.2 b hb).trans e) f0 f1 f3 f4 f5;obtain⟨o,e,c,d⟩:=id dy;exact⟨u,rfl,N6 (s:={ s with heap:=h' }) e c d δ ⟨x,H,I1,ru,⟨rfl,λys hy=>by rw[I.tX hy hq];exact hx⟩,dy,λb hb=>(hf b hb).1⟩⟩
 done:=by
  intro X hP hw hK hc i ac s σ H E I hf st hg;subst hP hw hK;obtain⟨xs,hq,hx⟩:=hg;obtain⟨af,rv,p,hz⟩:=I.tuple hq;obtain⟨f0,f1,f2,f3,f4,f5⟩:=hf it ζ;have hl:=rv.length;exact wpAny_pyNext_tuple_end (I.ok.hd hc) st (show s.heap.IsTuple a af.toArray from p) (by simp;omega) λh' eb=>⟨rfl,I.turned (t':=s.toks) (λb o hb e=>eb b o hb e) f0 f1 f3 f4 f5⟩
 self:=λ_ _ _ _ _ st h=>wpAny_pyIter_tupleiter st h
def PN{P:AO}{w:Bi}{K:AA}{tg:Expr}(it:IN)(lo:Int)(n:Nat):Turn P w K tg (Itr lo n) [it] it (λi h=>Lo h it (lo+(i:Nat)*1) ((n:Int)-(i:Nat)) 1) where
 mem:=by simp
 obj:=λi h st b hb=>by
  have e:b=it:=by simpa using hb
  subst e;exact⟨_,st,λv z=>by
   have z':Da _=Data.cell v:=z;cases z'⟩
 keep:=λi h h' st k=>k it ζ _ st
 item:=by
  intro X hP hw hK hc i ac s σ H E I hf st hg;subst hP hw hK;obtain⟨f0,f1,f2,f3,f4,f5⟩:=hf it ζ;have W:=Walks.range (prog:=X.prog) (w:=X.w) (I.ok.hd hc) it lo 1 n;refine W.item i s _ _ hg st λv h' tk hv dy kk=>?_;obtain⟨t,rfl⟩:=hv;have I1:Inv X ac σ H { s with heap:=h',toks:=tk }:=I.turned (λb o hb e=>kk b o (by simpa using hb) e) f0 f1 f3 f4 f5;refine⟨_,rfl,N6 (s:={ s with heap:=h',toks:=tk }) (n := "range_iterator") dy Z Z δ ⟨.int (lo+i),H,I1,⟨t,?_⟩,⟨rfl,rfl⟩,dy,λb hb=>(hf b hb).1⟩⟩;rw[Int.mul_one]
 done:=by
  intro X hP hw hK hc i ac s σ H E I hf st hg;subst hP hw hK;obtain⟨f0,f1,f2,f3,f4,f5⟩:=hf it ζ;exact wpAny_pyNext_range_end (I.ok.hd hc) st (by have:n<=i:=hg;omega) λh' eb=>⟨rfl,I.turned (t':=s.toks) (λb o hb e=>eb b o hb e) f0 f1 f3 f4 f5⟩
 self:=λ_ _ _ _ _ st h=>Kx st h
section
variable {X:Cx}{tg:Expr}
def Mx{ac:List (IN×Obj)}{σ:St}{H:Hp}{s:AB}{R:It->Hp->Prop}{E:Ap->AB->Prop}{lo hi:Int}{t u v:Tok}{tk:Nat}(I:Inv X ac σ H s)(h1:-(2^62)<=lo)(h2:lo<2^62)(h3:-(2^62)<=hi)(h4:hi<2^62)
  (q:R (Itr lo (hi-lo).toNat) H):AI (AN X.prog X.w) X.A (IY (.ref s.heap.objs.size)) (PIE X ac σ tg R) E { s with heap:=s.heap.push { cls:=.type "range",data:=.fields #[.int lo t,.int hi u,.int 1 v] },toks:=tk }:=by
 refine wpAny_pyIter_range (IsRange.new ..) (small_one h1 h2 h3 h4) ?_;have I1:Inv X ac σ H { s with heap:=s.heap.push { cls:=.type "range",data:=.fields #[.int lo t,.int hi u,.int 1 v] },toks:=tk }:=I.kept λb o e=>AE _ e;refine⟨(s.heap.push { cls:=.type "range",data:=.fields #[.int lo t,.int hi u,.int 1 v] }).objs.size,[(s.heap.push { cls:=.type "range",data:=.fields #[.int lo t,.int hi u,.int 1 v] }).objs.size],_,_,H,rfl,
  I1.kept (t':=tk) λb o e=>AE _ e,PN _ lo (hi-lo).toNat,?_,λb hb=>?_,q⟩
 ·have e1:lo+((0:Nat):Int)*1=lo:=by simp
  have e2:(((hi-lo).toNat:Nat):Int)-((0:Nat):Int)=AW.Range.rangeSize lo hi 1:=by rw[rangeSize_one];split <;> omega
  show Lo _ _ (lo+((0:Nat):Int)*1) ((((hi-lo).toNat:Nat):Int)-((0:Nat):Int)) 1;rw[e1,e2];exact AU _ rfl
 have e:b=(s.heap.push { cls:=.type "range",data:=.fields #[.int lo t,.int hi u,.int 1 v] }).objs.size:=by simpa using hb
 subst e;exact I1.GP (A3 _) (I1.hok.fresh (A3 _))
def sy(ta:TA):TI:=λσ H R=>ta σ H λvs H1=>∃j:Int,vs=[.int j]/\-(2^62)<=j/\j<2^62/\R (Itr 0 j.toNat) H1
def Io(ta:TA):TI:=λσ H R=>ta σ H λvs H1=>∃i j:Int,vs=[.int i,.int j]/\(-(2^62)<=i/\i<2^62/\-(2^62)<=j/\j<2^62)/\R (Itr i (j-i).toNat) H1
def aeF(wi:TI)(g:TG)(tb:TS):TS:=λD σ H=>wi σ H λJ H1=>∃W:Nat->Nat->St->Hp->Prop,(∃m,W 0 m σ H1)/\∀i m σ H,W i m σ H ->
 (J.stop i H/\D.nx σ H)\/(J.go i H/\∃N:St->Hp->Prop,(∀σ' H',N σ' H'->∃m',m'<m/\W (i+1) m' σ' H')/\∀x H',J.yld i H x H'->g x σ H' λσ2 H2=>tb { D with nx:=N,ct:=N,bk:=D.nx } σ2 H2)
def gO(fp:List IN)(h:Heap):List (IN×Obj):=fp.filterMap λb=>(h.get? b).map λo=>(b,o)
def ju{fp:List IN}{h:Heap}{b:IN}{o:Obj}(hb:b∈fp)(e:h.get? b=ID o):(b,o)∈gO fp h:=mem_filterMap.mpr ⟨b,hb,by rw[e];rfl⟩
theorem nT{fp:List IN}{h:Heap}{p:IN×Obj}(hp:p∈gO fp h):p.1∈fp/\h.get? p.1=ID p.2:=by
 obtain⟨b,hb,e⟩:=mem_filterMap.mp hp;cases q:h.get? b with
 | none=>rw[q] at e;cases e
 | some o=>
  rw[q] at e;have e':(b,o)=p:=A7 e;subst e';exact⟨hb,q⟩
def Inv.pinned{ac:List (IN×Obj)}{σ:St}{H:Hp}{s:AB}{fp:List IN}(I:Inv X ac σ H s)(hf:∀b∈fp,mY X ac H b)(ho:∀b∈fp,∃o,s.heap.get? b=ID o/\∀v,o.data≠.cell v):Inv X (ac++gO fp s.heap) σ H s:=
 I.kJ λp hp=>(BG.mp hp).elim (λz=>I.pin p (AR _ z)) λz=>by
  obtain⟨hb,e⟩:=nT z;obtain⟨f0,f1,f2,_⟩:=hf p.1 hb;obtain⟨o,e',d⟩:=ho p.1 hb;rw[e] at e';cases e';exact⟨e,f0,f1,f2,d⟩
def Inv.lq{ac pl:List (IN×Obj)}{σ:St}{H:Hp}{s:AB}(I:Inv X (ac++pl) σ H s):Inv X ac σ H s:=I.kJ λp hp=>I.pin p (AR _ (EF _ hp))
theorem afc{iter:Expr}{body:List Stmt}{wi:TI}{g:TG}{tb:TS}{pos:Pos}(hp:PassesOwn (AN X.prog X.w) X.A X.env X.xe)(hc:X.calm=true)(hi:PI X tg iter wi)(hg:PG X tg g)(hb:PSs X body tb)
  (hs:∀x,Cb iter X.env x=pure x:=by intro _;rfl):PS X (.For tg iter body [] pos) (aeF wi g tb):=by
 intro ac s σ H D I h;refine wpAny_For (thn (hi ac s σ H _ I h) λv s1 h1=>thn h1 λyb s2 h2=>?_) hs;obtain⟨it,fp,tn,J,H2,e,I2,T,eS,f2,W,⟨m0,w0⟩,bE⟩:=h2;subst e
 -- what stays true of the iterator's objects through the loop
 have cm:∀{H':Hp},(∀b∈fp,H' b=IF)->∀b∈fp,mY X ac H' b:=λhn b hb=>⟨hn b hb,(f2 b hb).2⟩;refine codeAny_forLoop_any (λn s'=>∃i σ' H',Inv X ac σ' H' s'/\tn i s'.heap/\(∀b∈fp,H' b=IF)/\W i n σ' H') ?_ m0 ⟨0,σ,H2,I2,eS,λb hb=>(f2 b hb).1,w0⟩;rintro n s3 ⟨i,σ3,H3,I3,ZU,fr3,w3⟩;rcases bE i n σ3 H3 w3 with⟨stop,qn⟩|⟨go,N,hN,step⟩
 ·refine Fu hp (thn (T.done X Z Z Z hc i ac s3 σ3 H3 X.xe I3 (cm fr3) ZU stop) λr s4 ⟨hr,I4⟩=>?_);subst hr;exact KM ⟨σ3,H3,I4,qn⟩
 refine Fu hp (thn (T.item X Z Z Z hc i ac s3 σ3 H3 X.xe I3 (cm fr3) ZU go) λr s4 ⟨u,hr,h4⟩=>?_);subst hr;refine Fu hp (thn h4 λ_ s5 ⟨x,H5,I5,r5,y5,st5,kA⟩=>?_);have I5':=I5.pinned (cm kA) (T.obj _ _ st5);refine Fu hp (thn (hg _ s5 σ3 H5 x u _ I5' r5 (step x H5 y5)) λ_ s6 ⟨σ6,H6,I6,q6⟩=>?_);refine Fu hp (thn (hb _ s6 σ6 H6 _ I6 q6) λf s7 q7=>?_);have HP:∀{σ7:St}{H7:Hp},Inv X (ac++gO fp s5.heap) σ7 H7 s7->N σ7 H7->∃m,m<n/\∃i σ' H',Inv X ac σ' H' s7/\tn i s7.heap/\(∀b∈fp,H' b=IF)/\W i m σ' H':=λ{σ7 H7} I7 n7=>by
  obtain⟨m',hm,w7⟩:=hN σ7 H7 n7;refine⟨m',hm,i+1,σ7,H7,I7.lq,T.keep _ _ _ st5 λb hb o e=>(I7.pin (b,o) (AR _ (AR _ (ju hb e)))).1,λb hb=>?_,w7⟩;obtain⟨o,e,d⟩:=T.obj _ _ st5 b hb;exact(I7.pin (b,o) (AR _ (AR _ (ju hb e)))).2.1
 cases f with
 | next=>obtain⟨σ7,H7,I7,n7⟩:=q7;exact HP I7 n7
 | cont=>obtain⟨σ7,H7,I7,n7⟩:=q7;exact HP I7 n7
 | brk=>obtain⟨σ7,H7,I7,q7⟩:=q7;exact⟨σ7,H7,I7.lq,q7⟩
 | ret v=>obtain⟨x7,σ7,H7,I7,r7,q7⟩:=q7;exact⟨x7,σ7,H7,I7.lq,r7,q7⟩
end
def aaU{K:AA}{a:IN}{xs:List V}{g:TG}{tb:TS}{D:Ends}{σ:St}{H:Hp}(Pv:Nat->St->Hp->Prop)(h0:Pv 0 σ H)(hl:∀i σ H,i<=xs.length->Pv i σ H->SqL K H a xs)
  (hs:∀i x σ H,xs[i]?=ID x->Pv i σ H->g x σ H λσ2 H2=>tb { D with nx:=Pv (i+1),ct:=Pv (i+1),bk:=D.nx } σ2 H2)(hd:∀σ H,Pv xs.length σ H->D.nx σ H) :
  ∃W:Nat->Nat->St->Hp->Prop,(∃m,W 0 m σ H)/\∀i m σ H,W i m σ H ->
   ((Itl K a).stop i H/\D.nx σ H)\/((Itl K a).go i H/\∃N:St->Hp->Prop,(∀σ' H',N σ' H'->∃m',m'<m/\W (i+1) m' σ' H')/\∀x H',(Itl K a).yld i H x H'->g x σ H' λσ2 H2=>tb { D with nx:=N,ct:=N,bk:=D.nx } σ2 H2):=by
 refine⟨λi m σ H=>m=xs.length-i/\i<=xs.length/\Pv i σ H,⟨xs.length,by simp,DC _,h0⟩,?_⟩;rintro i m σ H ⟨rfl,hi,p⟩;have q:=hl i σ H hi p;by_cases aI:i<xs.length
 ·refine .inr ⟨⟨xs,xs[i],q,by simp[aI]⟩,Pv (i+1),λσ' H' p'=>⟨xs.length-(i+1),ω,rfl,aI,p'⟩,λx H' y=>?_⟩;obtain⟨e,y⟩:=y;subst e;exact hs i x σ _ (y xs q) p
 have e:i=xs.length:=ω;subst e;exact .inl ⟨⟨xs,q,A3 _⟩,hd σ H p⟩
def WY{lo:Int}{n:Nat}{g:TG}{tb:TS}{D:Ends}{σ:St}{H:Hp}(Pv:Nat->St->Hp->Prop)(h0:Pv 0 σ H)
  (hs:∀i σ H,i<n->Pv i σ H->g (.int (lo+i)) σ H λσ2 H2=>tb { D with nx:=Pv (i+1),ct:=Pv (i+1),bk:=D.nx } σ2 H2)(hd:∀σ H,Pv n σ H->D.nx σ H) :
  ∃W:Nat->Nat->St->Hp->Prop,(∃m,W 0 m σ H)/\∀i m σ H,W i m σ H ->
   ((Itr lo n).stop i H/\D.nx σ H)\/((Itr lo n).go i H/\∃N:St->Hp->Prop,(∀σ' H',N σ' H'->∃m',m'<m/\W (i+1) m' σ' H')/\∀x H',(Itr lo n).yld i H x H'->g x σ H' λσ2 H2=>tb { D with nx:=N,ct:=N,bk:=D.nx } σ2 H2):=by
 refine⟨λi m σ H=>m=n-i/\i<=n/\Pv i σ H,⟨n,by simp,DC _,h0⟩,?_⟩;rintro i m σ H ⟨rfl,hi,p⟩;by_cases aI:i<n
 ·refine .inr ⟨aI,Pv (i+1),λσ' H' p'=>⟨n-(i+1),ω,rfl,aI,p'⟩,λx H' y=>?_⟩;obtain⟨e,y⟩:=y;subst e y;exact hs i σ _ aI p
 have e:i=n:=ω;subst e;exact .inl ⟨A3 _,hd σ H p⟩
abbrev R2:=V->V->Hp->VK->Prop
def OpR(X:Cx)(f:Ap->Ap->Sem Ap)(r:R2):Prop:=
 ∀(ac:List (IN×Obj)) (s:AB) (σ:St) (H:Hp) (x y:V) (v u:Ap) (Q:VK),Inv X ac σ H s->RelV x v->RelV y u->r x y H Q ->
  AI (AN X.prog X.w) X.A (f v u) (EP X ac σ Q) X.xe s
def UnR(X:Cx)(f:Ap->Sem Ap)(r:V->Hp->VK->Prop):Prop:=
 ∀(ac:List (IN×Obj)) (s:AB) (σ:St) (H:Hp) (x:V) (v:Ap) (Q:VK),Inv X ac σ H s->RelV x v->r x H Q ->
  AI (AN X.prog X.w) X.A (f v) (EP X ac σ Q) X.xe s
def dm(X:Cx)(f:Ap)(r:List V->Hp->VK->Prop):Prop:=
 ∀(ac:List (IN×Obj)) (s:AB) (σ:St) (H:Hp) (xs:List V) (us:List Ap) (Q:VK),Inv X ac σ H s->Vals xs us->r xs H Q ->
  AI (AN X.prog X.w) X.A (call f us) (EP X ac σ Q) X.xe s
def tOp(r:R2)(ta tb:TE):TE:=λσ H Q=>ta σ H λx H1=>tb σ H1 λy H2=>r x y H2 Q
def tUn(r:V->Hp->VK->Prop)(ta:TE):TE:=λσ H Q=>ta σ H λx H1=>r x H1 Q
def rI(C:Int->Int->Prop)(g:Int->Int->V):R2:=λx y H Q=>∃i j,x=.int i/\y=.int j/\C i j/\Q (g i j) H
def rI0(g:Int->Int->V):R2:=λx y H Q=>∃i j,x=.int i/\y=.int j/\Q (g i j) H
def rU(g:Int->V):V->Hp->VK->Prop:=λx H Q=>∃i,x=.int i/\Q (g i) H
section
variable {X:Cx}{a b c:Expr}{ta tb tc:TE}{pos:Pos}
def ago(ha:PE X a ta)(hb:PE X b tb){ac:List (IN×Obj)}{s:AB}{σ:St}{H:Hp}{R:V->V->Hp->Prop}(I:Inv X ac σ H s)
  (h:ta σ H λx H1=>tb σ H1 λy H2=>R x y H2){Q:Ap->AB->Prop}{f:Ap->Ap->Sem Ap}
  (hf:∀v u s2 x y H2,Inv X ac σ H2 s2->RelV x v->RelV y u->R x y H2->AI (AN X.prog X.w) X.A (f v u) Q X.xe s2) :
  AI (AN X.prog X.w) X.A (eval a X.env) (λv s₁=>AI (AN X.prog X.w) X.A (eval b X.env) (λu s₂=>AI (AN X.prog X.w) X.A (f v u) Q X.xe s₂) X.xe s₁) X.xe s:=by
 refine thE (ha ac s σ H _ I h) λv s1 x H1 I1 r1 q1=>?_;refine thE (hb ac s1 σ H1 _ I1 q1) λu s2 y H2 I2 r2 q2=>?_;exact hf v u s2 x y H2 I2 r1 r2 q2
def aen{op:UnaryOp}{r:V->Hp->VK->Prop}(ho:UnR X (unaryOp op) r)(ha:PE X a ta):PE X (.UnaryOp op a pos) (tUn r ta):=by
 intro ac s σ H Q I h;exact UnaryOp_ (thE (ha ac s σ H _ I h) λv s1 x H1 I1 r1 q1=>ho ac s1 σ H1 x v Q I1 r1 q1)
def opI{f:Ap->Ap->Sem Ap}{C:Int->Int->Prop}{g:Int->Int->Int}
  (rule:∀(i j:Int)(t u:Tok)(s:AB)(Q:Ap->AB->Prop)(E:Ap->AB->Prop),C i j->Q (.int (g i j) s.toks) { s with toks:=s.toks+1 }->AI (AN X.prog X.w) X.A (f (.int i t) (.int j u)) Q E s) :
  OpR X f (rI C λi j=>.int (g i j)):=by
 intro ac s σ H x y v u Q I rx ry h;obtain⟨i,j,rfl,rfl,hc,q⟩:=h;obtain⟨t,rfl⟩:=rx;obtain⟨t',rfl⟩:=ry;exact rule i j t t' s _ _ hc ⟨.int (g i j),H,I.tok _,⟨_,rfl⟩,q⟩
def ag5{f:Ap->Ap->Sem Ap}{g:Int->Int->Int}
  (rule:∀(i j:Int)(t u:Tok)(s:AB)(Q:Ap->AB->Prop)(E:Ap->AB->Prop),Q (.int (g i j) s.toks) { s with toks:=s.toks+1 }->AI (AN X.prog X.w) X.A (f (.int i t) (.int j u)) Q E s) :
  OpR X f (rI0 λi j=>.int (g i j)):=by
 intro ac s σ H x y v u Q I rx ry h;obtain⟨i,j,rfl,rfl,q⟩:=h;obtain⟨t,rfl⟩:=rx;obtain⟨t',rfl⟩:=ry;exact rule i j t t' s _ _ ⟨.int (g i j),H,I.tok _,⟨_,rfl⟩,q⟩
def ac7{f:Ap->Ap->Sem Ap}{g:Int->Int->Bool}
  (rule:∀(i j:Int)(t u:Tok)(s:AB)(Q:Ap->AB->Prop)(E:Ap->AB->Prop),Q (.bool (g i j)) s->AI (AN X.prog X.w) X.A (f (.int i t) (.int j u)) Q E s) :
  OpR X f (rI0 λi j=>.bl (g i j)):=by
 intro ac s σ H x y v u Q I rx ry h;obtain⟨i,j,rfl,rfl,q⟩:=h;obtain⟨t,rfl⟩:=rx;obtain⟨t',rfl⟩:=ry;exact rule i j t t' s _ _ ⟨.bl (g i j),H,I,rfl,q⟩
def agv(i j:Int):Prop:=0<=j/\j<=1000000/\i.natAbs<2^64
def Xz(i j:Int):Prop:=(-(2^64)<i/\i<2^64)\/(-(2^64)<j/\j<2^64)
def Xz.ok{i j:Int}(h:Xz i j):IntMulOk i j:=by
 rcases h with⟨h1,h2⟩|⟨h1,h2⟩
 ·exact .of_left (intBits_le_64 h1 h2)
 exact .of_right (intBits_le_64 h1 h2)
def afD:OpR X (EH .Add) (rI0 λi j=>.int (i+j)):=ag5 λ_ _ _ _ _ _ _ q=>add_int q
def eX:OpR X (EH .Sub) (rI0 λi j=>.int (i-j)):=ag5 λ_ _ _ _ _ _ _ q=>sub_int q
def afA:OpR X (EH .Mult) (rI Xz λi j=>.int (i*j)):=opI λ_ _ _ _ _ _ _ hc q=>mul_int q hc.ok
def lM:OpR X (EH .Mod) (rI (λ_ j=>0<j) λi j=>.int (i%j)):=opI λi j _ _ _ _ _ hc q=>by
 have h1:(0:Int)<j:=hc;exact mod_int' ω (by rw[Int.fmod_eq_emod_of_nonneg i ω];exact q)
def vB:OpR X (EH .Pow) (rI agv λi j=>.int (i^j.toNat)):=opI λ_ _ _ _ _ _ _ hc q=>pow_int_small hc.1 hc.2.1 hc.2.2 q
def afy:OpR X (EH .LShift) (rI agv λi j=>.int (i*2^j.toNat)):=opI λ_ _ _ _ _ _ _ hc q=>lshift_int_small hc.1 hc.2.1 hc.2.2 q
def unI{f:Ap->Sem Ap}{g:Int->Int}
  (rule:∀(i:Int)(t:Tok)(s:AB)(Q:Ap->AB->Prop)(E:Ap->AB->Prop),Q (.int (g i) s.toks) { s with toks:=s.toks+1 }->AI (AN X.prog X.w) X.A (f (.int i t)) Q E s) :
  UnR X f (rU λi=>.int (g i)):=by
 intro ac s σ H x v Q I rx h;obtain⟨i,rfl,q⟩:=h;obtain⟨t,rfl⟩:=rx;exact rule i t s _ _ ⟨.int (g i),H,I.tok _,⟨_,rfl⟩,q⟩
def vh:UnR X (unaryOp .USub) (rU λi=>.int (-i)):=unI λ_ _ _ _ _ q=>neg_int q
end
def Yz:V->V->Bool
 | .non,.non=>true | .non,.int _=>true | .int _,.non=>true | .non,.bl _=>true | .bl _,.non=>true | .non,.str _=>true | .str _,.non=>true
 | .int _,.int _=>true | .bl _,.bl _=>true | .str _,.str _=>true | .byt _,.byt _=>true
 | .int _,.str _=>true | .str _,.int _=>true | .bl _,.str _=>true | .str _,.bl _=>true
 | _,_=>false
def rEq:R2:=λx y H Q=>Yz x y=true/\Q (.bl (decide (x=y))) H
def rNe:R2:=λx y H Q=>Yz x y=true/\Q (.bl (!decide (x=y))) H
def Ve{i j:Int}:decide (V.int i=V.int j)=(i == j):=by
 rw[FA];simp
def aa4{i j:Bool}:decide (V.bl i=V.bl j)=(i == j):=by
 rw[FA];simp
def Vd{i j:Str}:decide (V.str i=V.str j)=(i == j):=by
 rw[FA];simp
def Vf{i j:Array UInt8}:decide (V.byt i=V.byt j)=(i.toList == j.toList):=by
 rw[FA];cases i;cases j;simp
section
variable {X:Cx}{a b c:Expr}{ta tb tc:TE}{pos:Pos}
def cL{ac:List (IN×Obj)}{σ:St}{H:Hp}{s:AB}{Q:VK}{k k':Bool}(I:Inv X ac σ H s)(q:Q (.bl k) H)(e:k=k'):EP X ac σ Q (.bool k') s:=by
 subst e;exact⟨.bl k,H,I,rfl,q⟩
theorem ag4:OpR X (EV .Eq) rEq:=by
 intro ac s σ H x y v u Q I rx ry h;obtain⟨hs,q⟩:=h;cases x with
 | non=>
  cases rx;cases y with
  | non=>cases ry;exact PySem.EqNone.eq_none_none (cL I q ζ)
  | bl j=>cases ry;exact PySem.EqNone.eq_none_bool (cL I q ζ)
  | int j=>obtain⟨t',rfl⟩:=ry;exact PySem.EqNone.eq_none_int (cL I q ζ)
  | str j=>obtain⟨t',rfl⟩:=ry;exact PySem.EqNone.eq_none_str (cL I q ζ)
  | _=>exact absurd (show false=true from hs) A8
 | bl i=>
  cases rx;cases y with
  | non=>cases ry;exact PySem.EqNone.eq_bool_none (cL I q ζ)
  | bl j=>cases ry;exact eq_bool (cL I q aa4)
  | str j=>obtain⟨t',rfl⟩:=ry;exact PySem.EqMixed.eq_bool_str (cL I q ζ)
  | _=>exact absurd (show false=true from hs) A8
 | int i=>
  obtain⟨t,rfl⟩:=rx;cases y with
  | non=>cases ry;exact PySem.EqNone.eq_int_none (cL I q ζ)
  | int j=>obtain⟨t',rfl⟩:=ry;exact eq_int (cL I q Ve)
  | str j=>obtain⟨t',rfl⟩:=ry;exact PySem.EqMixed.eq_int_str (cL I q ζ)
  | _=>exact absurd (show false=true from hs) A8
 | str i=>
  obtain⟨t,rfl⟩:=rx;cases y with
  | non=>cases ry;exact PySem.EqNone.eq_str_none (cL I q ζ)
  | bl j=>cases ry;exact PySem.EqMixed.eq_str_bool (cL I q ζ)
  | int j=>obtain⟨t',rfl⟩:=ry;exact PySem.EqMixed.eq_str_int (cL I q ζ)
  | str j=>obtain⟨t',rfl⟩:=ry;exact eq_str (cL I q Vd)
  | _=>exact absurd (show false=true from hs) A8
 | byt i=>
  obtain⟨t,rfl⟩:=rx;cases y with
  | byt j=>obtain⟨t',rfl⟩:=ry;exact PySem.W.eq_bytes (cL I q Vf)
  | _=>exact absurd (show false=true from hs) A8
 | _=>cases y <;> exact absurd (show false=true from hs) A8
theorem ag2:OpR X (EV .NotEq) rNe:=by
 intro ac s σ H x y v u Q I rx ry h;obtain⟨hs,q⟩:=h;cases x with
 | non=>
  cases rx;cases y with
  | non=>cases ry;exact PySem.EqNone.ne_none_none (cL I q ζ)
  | bl j=>cases ry;exact PySem.EqNone.ne_none_bool (cL I q ζ)
  | int j=>obtain⟨t',rfl⟩:=ry;exact PySem.EqNone.ne_none_int (cL I q ζ)
  | str j=>obtain⟨t',rfl⟩:=ry;exact PySem.EqNone.ne_none_str (cL I q ζ)
  | _=>exact absurd (show false=true from hs) A8
 | bl i=>
  cases rx;cases y with
  | non=>cases ry;exact PySem.EqNone.ne_bool_none (cL I q ζ)
  | bl j=>cases ry;exact ne_bool (cL I q (congrArg not aa4))
  | str j=>obtain⟨t',rfl⟩:=ry;exact PySem.EqMixed.ne_bool_str (cL I q ζ)
  | _=>exact absurd (show false=true from hs) A8
 | int i=>
  obtain⟨t,rfl⟩:=rx;cases y with
  | non=>cases ry;exact PySem.EqNone.ne_int_none (cL I q ζ)
  | int j=>obtain⟨t',rfl⟩:=ry;exact ne_int (cL I q (congrArg not Ve))
  | str j=>obtain⟨t',rfl⟩:=ry;exact PySem.EqMixed.ne_int_str (cL I q ζ)
  | _=>exact absurd (show false=true from hs) A8
 | str i=>
  obtain⟨t,rfl⟩:=rx;cases y with
  | non=>cases ry;exact PySem.EqNone.ne_str_none (cL I q ζ)
  | bl j=>cases ry;exact PySem.EqMixed.ne_str_bool (cL I q ζ)
  | int j=>obtain⟨t',rfl⟩:=ry;exact PySem.EqMixed.ne_str_int (cL I q ζ)
  | str j=>obtain⟨t',rfl⟩:=ry;exact ne_str (cL I q (congrArg not Vd))
  | _=>exact absurd (show false=true from hs) A8
 | byt i=>
  obtain⟨t,rfl⟩:=rx;cases y with
  | byt j=>obtain⟨t',rfl⟩:=ry;exact PySem.W.ne_bytes (cL I q (congrArg not Vf))
  | _=>exact absurd (show false=true from hs) A8
 | _=>cases y <;> exact absurd (show false=true from hs) A8
def Uq:OpR X (EV .Lt) (rI0 λi j=>.bl (decide (i<j))):=ac7 λ_ _ _ _ _ _ _ q=>lt_int q
def MT:OpR X (EV .LtE) (rI0 λi j=>.bl (decide (i<=j))):=ac7 λ_ _ _ _ _ _ _ q=>le_int q
def M4:OpR X (EV .Gt) (rI0 λi j=>.bl (decide (j<i))):=ac7 λ_ _ _ _ _ _ _ q=>gt_int q
def ag3:OpR X (EV .GtE) (rI0 λi j=>.bl (decide (j<=i))):=ac7 λ_ _ _ _ _ _ _ q=>ge_int q
def bJ(b:Expr){op:CmpOp}(h:op≠.In:=by decide)(h2:op≠.NotIn:=by decide):HK op b=false:=by
 have e1:(op == CmpOp.In)=false:=by cases op <;> first|rfl|exact absurd Z h
 have e2:(op == CmpOp.NotIn)=false:=by cases op <;> first|rfl|exact absurd Z h2
 cases b <;> simp[HK,e1,e2]
def zy(t:TE):TT:=λσ H Q=>t σ H λx H'=>∃k,x=.bl k/\Q k H'
def yN:(AJ:Nat)<2^63:=by rw[Lu];decide
def QJ:OpR X (EH .Add) (λx y H Q=>∃i j,x=.str i/\y=.str j/\i.length+j.length<=AJ/\Q (.str (i++j)) H):=by
 intro ac s σ H x y v u Q I rx ry h;obtain⟨i,j,rfl,rfl,hz,q⟩:=h;obtain⟨t,rfl⟩:=rx;obtain⟨t',rfl⟩:=ry;exact add_str (λt' tk=>⟨.str (i++j),H,I.tok _,⟨_,rfl⟩,q⟩) hz
theorem vals1{x:V}{us:List Ap}(r:Vals [x] us):∃u,us=[u]/\RelV x u:=by
 cases r with
 | cons r1 r2=>cases r2;exact⟨_,rfl,r1⟩
theorem vals2{x y:V}{us:List Ap}(r:Vals [x,y] us):∃u w',us=[u,w']/\RelV x u/\RelV y w':=by
 cases r with
 | cons r1 r2=>
  cases r2 with
  | cons r3 r4=>cases r4;exact⟨_,_,rfl,r1,r3⟩
def O3:dm X (.builtin "abs") (λxs H Q=>∃i,xs=[.int i]/\Q (.int (if i<0 then -i else i)) H):=by
 intro ac s σ H xs us Q I r h;obtain⟨i,rfl,q⟩:=h;obtain⟨u,rfl,t,rfl⟩:=vals1 r;exact call_abs_int λu tk=>⟨.int (if i<0 then -i else i),H,I.tok _,⟨_,rfl⟩,q⟩
def Xf(hc:X.calm=true):dm X (.builtin "max") (λxs H Q=>∃i j,xs=[.int i,.int j]/\Q (.int (if j>i then j else i)) H):=by
 intro ac s σ H xs us Q I r h;obtain⟨i,j,rfl,q⟩:=h;obtain⟨u,w',rfl,⟨t,rfl⟩,⟨t',rfl⟩⟩:=vals2 r;refine max_two_ints (I.ok.hd hc) λh' tk k=>⟨_,H,I.kept k,?_,q⟩;by_cases hj:j>i
 ·rw[if_pos hj,if_pos hj];exact⟨_,rfl⟩
 rw[if_neg hj,if_neg hj];exact⟨_,rfl⟩
def Xd(hc:X.calm=true):dm X (.builtin "min") (λxs H Q=>∃i j,xs=[.int i,.int j]/\Q (.int (if j<i then j else i)) H):=by
 intro ac s σ H xs us Q I r h;obtain⟨i,j,rfl,q⟩:=h;obtain⟨u,w',rfl,⟨t,rfl⟩,⟨t',rfl⟩⟩:=vals2 r;refine min_two_ints (I.ok.hd hc) λh' tk k=>⟨_,H,I.kept k,?_,q⟩;by_cases hj:j<i
 ·rw[if_pos hj,if_pos hj];exact⟨_,rfl⟩
 rw[if_neg hj,if_neg hj];exact⟨_,rfl⟩
def Jc:dm X (.type "int") (λxs H Q=>(∃i,xs=[.int i]/\Q (.int i) H)\/∃k,xs=[.bl k]/\Q (.int (if k then 1 else 0)) H):=by
 intro ac s σ H xs us Q I r h;rcases h with⟨i,rfl,q⟩|⟨k,rfl,q⟩
 ·obtain⟨u,rfl,t,rfl⟩:=vals1 r;exact call_int_int ⟨.int i,H,I,⟨_,rfl⟩,q⟩
 obtain⟨u,rfl,r1⟩:=vals1 r;cases r1;exact call_int_bool ⟨.int (if k then 1 else 0),H,I.tok _,⟨_,rfl⟩,q⟩
def K5:dm X (.type "str") (λxs H Q=>∃i,xs=[.int i]/\i.natAbs.log2<1920/\Q (.str (toString i)) H):=by
 intro ac s σ H xs us Q I r h;obtain⟨i,rfl,hz,q⟩:=h;obtain⟨u,rfl,t,rfl⟩:=vals1 r;exact PySem.P.str_of_int hz ⟨.str _,H,I.tok _,⟨_,rfl⟩,q⟩
end
structure agq(h:Heap)(x dx C:IN)(mA:Str->Option Ap):Prop where
 obj:h.get? x=ID (PySem.W.instObj C dx)
 ns:h.Ns1 dx mA
 ne:dx≠x
def Wt{h:Heap}{dx:IN}{mA:Str->Option Ap}(n:h.Ns1 dx mA):∃od,h.get? dx=ID od/\∀name,PySem.W.lookIn name od=ID (mA name):=by
 obtain⟨o,es,ep,ho,hd,hk,_,hm⟩:=n;refine⟨o,ho,λname=>?_⟩;have e:=hm name;unfold nsFind findBy at e;rw[<- Array.find?_toList] at e;unfold PySem.W.lookIn;rw[hd];dsimp only;split
 ·rename_i y q;rw[q] at e;exact congrArg ID e
 rename_i q;rw[q] at e;have a:es.toList.any (·.refKey)=false:=by
  rw[List.any_eq_false];intro y hy;obtain⟨z,t,f6⟩:=hk y (Array.mem_toList_iff.mp hy);simp[DictEntry.refKey,f6]
 have a':¬es.toList.any (·.refKey)=true:=by rw[a];exact A8
 rw[if_neg a'];exact congrArg ID e
def agq.look{h:Heap}{x dx C:IN}{mA:Str->Option Ap}(I:agq h x dx C mA):∃od,PySem.W.InstAt h x (PySem.W.instObj C dx) C (ID od)/\∀name,PySem.W.lookIn name od=ID (mA name):=
 let ⟨od,ho,hl⟩:=Wt I.ns
 ⟨od,⟨I.obj,rfl,rfl,ho⟩,hl⟩
theorem Fp.some_of{v:V}{o:Option Ap}(r:Fp (ID v) o):∃u,o=ID u/\RelV v u:=by
 cases o with
 | none=>exact(show False from r).elim
 | some u=>exact⟨u,rfl,r⟩
section
variable {P:AO}{w:Bi}{H H':Hp}{h h':Heap}{a C dx:IN}{fs fs':List (Str×V)}
def adI(hok:HOk P w H h)(e:H a=ID (.ins C dx fs)):∃mA,agq h a dx C mA/\(∀f,Fp (fs.lookup f) (mA f))/\PySem.Within mA (fs.map (·.1))/\fs.length<=1000/\H dx=ID (.own a):=by
 obtain⟨d,z,ne,ob,mA,n,r,q⟩:=(show bW P w H h a (.ins C dx fs) from hok a _ e);exact⟨mA,⟨ob,n,ne⟩,r,q,z,d⟩
end
structure Cls(K:AA)(C:IN):Prop where
 pg:PySem.W.plainGet K C Str.empty=true
 hd:PySem.W.hasDictIn K C=true
 po:PySem.W.plainOver K C=true
 sa:Iy K (.ref C) "__setattr__" = ID (ID (.builtin "object.__setattr__"))
def Cls.get{K:AA}{C:IN}(c:Cls K C)(f:Str):PySem.W.plainGet K C f=true:=c.pg
section
variable {X:Cx}{ac:List (IN×Obj)}{σ:St}{H:Hp}{s:AB}{A:Bz}{E:Ap->AB->Prop}{Q:Ap->AB->Prop}{c:Ap}{b:Bool}
inductive uH (K:AA)(H:Hp):V->Ap->Prop where
 | non:uH K H .non (.type "NoneType")
 | bl (x:Bool):uH K H (.bl x) (.type "bool")
 | int (i:Int):uH K H (.int i) (.type "int")
 | str (x:Str):uH K H (.str x) (.type "str")
 | flt (x:UInt64):uH K H (.flt x) (.type "float")
 | lst {a:IN} {xs:List V} (e:H a=ID (.lst xs)):uH K H (.ref a) (.type "list")
 | frz {a:IN} {o:Obj} {xs:List V} (e:H a=ID (.frz o (.lst xs))):uH K H (.ref a) (.type "list")
 | tup {a:IN} {xs:List V} (e:H a=ID (.tup xs)):uH K H (.ref a) (.type "tuple")
 | dK {a:IN} {kvs:List (Key×V)} (e:H a=ID (.dK kvs)):uH K H (.ref a) (.type "dict")
 | dT {a:IN} {kvs:List (List Key×V)} (e:H a=ID (.dT kvs)):uH K H (.ref a) (.type "dict")
 | ins {a C dx:IN} {fs:List (Str×V)} (e:H a=ID (.ins C dx fs)) (cl:Cls K C) (ha:Iy K (.ref C) "__class__" = ID (ID (.builtin "object.__class__")))
   (hn:PySem.W.specialIn K (.builtin "object.__class__") "__get__" = ID (ID (.builtin "getset_descriptor.__get__"))) (sK:PySem.W.takesIn K (.builtin "object.__class__")=ID true)
   (hm:PySem.W.mroIn K C (.type "object")=ID true):uH K H (.ref a) (.ref C)
theorem WK{x:V}{u t:Ap}(I:Inv X ac σ H s)(rx:RelV x u)(ty:uH X.K H x t)(e:kitOne X.K t c=ID b)(h:∀tk,Q (.bool b) { s with toks:=tk }) :
  AI (AN X.prog X.w) A (call (.builtin "isinstance") [u,c]) Q E s:=by
 cases ty with
 | non=>cases (show u=Ap.none from rx);exact DS PySem.W.kitx_none I.kIn EG e (λz=>nomatch z) h
 | bl y=>cases (show u=Is y from rx);exact DS PySem.W.kitx_bool I.kIn EG e (λz=>nomatch z) h
 | int i=>obtain⟨t,q⟩:=(show ∃t,u=GE i t from rx);cases q;exact DS PySem.W.kitx_int I.kIn EG e (λz=>nomatch z) h
 | str y=>obtain⟨t,q⟩:=(show ∃t,u=Ap.str y t from rx);cases q;exact DS PySem.W.kitx_str I.kIn EG e (λz=>nomatch z) h
 | flt y=>obtain⟨t,q⟩:=(show ∃t,u=Ap.float y t from rx);cases q;exact DS PySem.W.kitx_float I.kIn EG e (λz=>nomatch z) h
 | @lst a xs ea=>
  cases (show u=EQ a from rx);obtain⟨_,_,n,_,h1⟩:=(show bW X.prog X.w H s.heap a (.lst xs) from I.hok a _ ea);exact DS IM I.kIn ⟨_,h1,rfl⟩ e (λz=>nomatch z) h
 | @frz a ob xs ea=>
  cases (show u=EQ a from rx);obtain⟨_,_,_,n,_,h1⟩:=(show bW X.prog X.w H s.heap a (.frz ob (.lst xs)) from I.hok a _ ea);exact DS IM I.kIn ⟨_,h1,rfl⟩ e (λz=>nomatch z) h
 | @tup a xs ea=>
  cases (show u=EQ a from rx);obtain⟨_,_,_,p⟩:=(show bW X.prog X.w H s.heap a (.tup xs) from I.hok a _ ea);obtain⟨o,h1,h2,_⟩:=p;exact DS PySem.W.kitx_tuple I.kIn ⟨o,h1,h2⟩ e (λz=>nomatch z) h
 | @dK a kvs ea=>
  cases (show u=EQ a from rx);obtain⟨_,_,vs,_,p⟩:=(show bW X.prog X.w H s.heap a (.dK kvs) from I.hok a _ ea);obtain⟨o,es,ep,h1,h2,_⟩:=p;exact DS IP I.kIn ⟨o,h1,h2.1⟩ e (λz=>nomatch z) h
 | @dT a kvs ea=>
  cases (show u=EQ a from rx);obtain⟨_,_,xs,_,o,es,ep,h1,h2,_⟩:=(show bW X.prog X.w H s.heap a (.dT kvs) from I.hok a _ ea);exact DS IP I.kIn ⟨o,h1,h2.1⟩ e (λz=>nomatch z) h
 | @ins a C dx fs ea cl ha hn sK hm=>
  cases (show u=EQ a from rx);obtain⟨mA,O,_⟩:=adI I.hok ea;obtain⟨od,J,_⟩:=O.look;exact DS (PySem.W.kitx_own (cl.get _) cl.hd ha hn sK hm) I.kIn J e (λz=>nomatch z) h
end
structure gw(k:Nat)(A:Bz):Prop where
 hd:A.handled=IF
 dp:A.depth+3*k+5<recursionLimit
 un:A.units+16*k+200<FI
 gd:A.guards=ID []
def gw.mono{j k:Nat}{A:Bz}(r:gw k A)(h:j<=k):gw j A:=⟨r.hd,by have:=r.dp;omega,by have:=r.un;omega,r.gd⟩
def gw.deeper{k:Nat}{A:Bz}(r:gw (k+1) A)(env:Env):gw k (A.deeper env):=
 ⟨r.hd,by have:=r.dp;show A.depth+1+3*k+5<_;omega,by have:=r.un;show A.units+3+16*k+200<_;omega,r.gd⟩
def gw.depth{k:Nat}{A:Bz}(r:gw k A):A.depth<recursionLimit:=by have:=r.dp;omega
def gw.cY{k:Nat}{A:Bz}(r:gw k A):A.units<FI:=by have:=r.un;omega
def wD:TA:=λ_ H Q=>Q [] H
def jX(ta:TE)(tr:TA):TA:=λσ H Q=>ta σ H λx H1=>tr σ H1 λxs H2=>Q (x::xs) H2
section
variable {X:Cx}{e:Expr}{es:List Expr}{te:TE}{t:TA}{pos:Pos}
def Qe(t:TA):TE:=λσ H Q=>t σ H λxs H1=>xs.length<=AJ/\∀p,H1 p=IF->Q (.ref p) (upd H1 p (.tup xs))
def Ls(t:TA):TE:=λσ H Q=>t σ H λxs H1=>xs.length<=AJ/\∀p,H1 p=IF->Q (.ref p) (upd H1 p (.lst xs))
end
abbrev Sp:=List V->Hp->VK->XK->Prop
abbrev CXT:=List Env->Hp->AB->XK->Ap->AB->Prop
structure Lp(P:AO)(w:Bi)(K:AA)(mg:Str->Option Ap)(base:Heap)(A:Bz)(outer:List Env)(s:AB)(H:Hp):Prop where
 frames:A.frames=ID outer
 mod:Mod K mg base
 bs:∀b o,base.get? b=ID o->s.heap.get? b=ID o/\H b=IF
 bsz:base.objs.size<=s.heap.objs.size
 sY:s.heap.FunFrames base outer
 frf:∀b∈frs outer,H b=IF
 hok:HOk P w H s.heap
 bare:IL s.gens
def CE(outer:List Env)(P:AO)(w:Bi)(H:Hp)(s:AB)(Q:VK)(u:Ap)(s':AB):Prop:=
 ∃v H',s'.os=s.os/\IL s'.gens/\Un (frs outer) [] H H' s.heap s'.heap/\HOk P w H' s'.heap/\RelV v u/\Q v H'
def CR(CX:CXT)(outer:List Env)(P:AO)(w:Bi)(H:Hp)(s:AB)(Q:VK)(E:XK)(r:Result)(s':AB):Prop:=
 match r with
 | .ok (.ret u)=>CE outer P w H s Q u s'
 | .ok _=>False
 | .error e=>CX outer H s E e s'
structure c7(P:AO)(w:Bi)(K:AA)(mg:Str->Option Ap)(base:Heap)(CX:CXT)(k:Nat)(f:IN)(fd:CU)(ps:List Str)(sp:Sp):Prop where
 len:∀vs H Q E,sp vs H Q E->vs.length=ps.length
 run:∀(A:Bz)(outer:List Env)(s:AB)(H:Hp)(args:Args)(us:List Ap)(vs:List V)(Q:VK)(E:XK),gw k A->Lp P w K mg base A outer s H->BindsTo s fd args (ps.zip us)->Vals vs us->sp vs H Q E ->
  D5 (AN P w) A (.call (.ref f) args) (CR CX outer P w H s Q E) s
def c7.mono{P:AO}{w:Bi}{K:AA}{mg:Str->Option Ap}{base:Heap}{CX:CXT}{j k:Nat}{f:IN}{fd:CU}{ps:List Str}{sp:Sp}(F:c7 P w K mg base CX j f fd ps sp)(h:j<=k) :
  c7 P w K mg base CX k f fd ps sp:=⟨F.len,λA outer s H args us vs Q E hr=>F.run A outer s H args us vs Q E (hr.mono h)⟩
section
variable {X:Cx}{ac:List (IN×Obj)}{σ:St}{H:Hp}{s s':AB}
def Inv.env0(I:Inv X ac σ H s):Lp X.prog X.w X.K X.mg X.base X.A X.stack s H:=
 ⟨I.ok.frames,I.ok.mod,I.bs,BU I.ok.bsz I.sz,I.stack,I.Jq,I.hok,I.bare⟩
def Inv.after{Q:VK}{u:Ap}(I:Inv X ac σ H s)(h:CE X.stack X.prog X.w H s Q u s'):EP X ac σ Q u s':=by
 obtain⟨v,H',os,bare,un,hok,r,q⟩:=h;obtain⟨hh,g,d,t,S2⟩:=s';obtain rfl:S2=s.os:=os;exact⟨v,H',I.call (h':=hh) (g':=g) (d':=d) (t':=t) (ch:=[]) un hok bare (λb z=>absurd z ζ),r,q⟩
end
def uJ(sp:Sp)(tS:List V)(E:XK)(t:TA):TE:=λσ H Q=>t σ H λvs H1=>sp (vs++tS) H1 Q E
def Binds(K:AA)(fd:CU)(ps:List Str)(ds:List Ap):Prop:=
 ∀(s:AB)(us:List Ap),K.In s.heap->(us++ds).length=ps.length->BindsTo s fd ⟨us,[]⟩ (ps.zip (us++ds))
def Binds.all{K:AA}{fd:CU}{ps:List Str}(h:∀us:List Ap,us.length=ps.length->JO fd ⟨us,[]⟩=pure (ps.zip us)):Binds K fd ps []:=λs us _ hl=>by
 rw[D9] at hl |-;exact .of_eq (h us hl)
def Ft(CX:CXT)(X:Cx)(E:XK):Prop:=∀(ac:List (IN×Obj)) (σ:St) (H:Hp) (s:AB) (e:Ap) (s':AB),Inv X ac σ H s->CX X.stack H s E e s'->X.xe e s'
section
variable {X:Cx}{CX:CXT}{k:Nat}{f C:IN}{fd:CU}{ps:List Str}{sp:Sp}{tS:List V}{ds:List Ap}{E:XK}{x m:Str}{p pos bp:Pos}{e o:Expr}{es:List Expr}{ta:TE}{t:TA}
theorem aeQ{ac:List (IN×Obj)}{σ:St}{H:Hp}{s:AB}{Q:VK}{us:List Ap}{vs:List V}(F:c7 X.prog X.w X.K X.mg X.base CX k f fd ps sp)(hr:gw k X.A)(hb:Binds X.K fd ps ds)(hd:Vals tS ds)(hx:Ft CX X E)
  (I:Inv X ac σ H s)(r:Vals vs us)(h:sp (vs++tS) H Q E):AI (AN X.prog X.w) X.A (call (.ref f) us) (EP X ac σ Q) X.xe s:=by
 have r2:Vals (vs++tS) (us++ds):=r.append hd;have hl:(us++ds).length=ps.length:=by rw[<- r2.length];exact F.len _ _ _ _ h
 refine IA (EW (F.run X.A X.stack s H ⟨us,[]⟩ (us++ds) (vs++tS) Q E hr I.env0 (hb s us I.kIn hl) r2 h) λr s' hq=>?_);cases r with
 | error e=>exact hx ac σ H s e s' I hq
 | ok fl=>
  cases fl with
  | ret u=>exact I.after hq
  | next=>exact C9 hq
  | brk=>exact C9 hq
  | cont=>exact C9 hq
def ac0(F:c7 X.prog X.w X.K X.mg X.base CX k f fd ps sp)(hr:gw k X.A)(hg:Gl X x)(hm:X.mg x=ID (.ref f))(hk:keepIn X.K (.ref f)=true)(hb:Binds X.K fd ps ds)(hd:Vals tS ds)(hx:Ft CX X E)
  (ha:PA X (e::es) t)(i6:(x == ("__debug__" : Str))=false:=by decide)(he:AH (e::es) X.env=(false,eval e X.env)::AH es X.env:=by rfl)(bz:(CO pos (AH es X.env)).any (·.1)=false:=by rfl) :
  PE X (.Call (.Name x p) (e::es) [] pos) (uJ sp tS E t):=by
 intro ac s σ H Q I h;refine DU (Ke I hg hm ?_ i6);refine PySem.W.callWith_K (h₀:=X.base) I.ok.mod.kin hk (thA (ha pos ac s σ H _ I h) λus s1 vs H1 I1 r q=>⟨I1.kIn,?_⟩) he bz;exact aeQ F hr hb hd hx I1 r q
end
structure bw(N P:List Str)(sc:C8):Prop where
 kind:sc.kind=.function
 co:sc.isCoroutine=false
 gen:sc.isGenerator=false
 nd:N.Nodup
 pre:N.take P.length=P
 par:∀x∈P,sc.names.lookup x=ID .local\/sc.names.lookup x=ID .cell
 nofree:∀y∈sc.names,y.2≠.free
theorem Jf{kindOf:Str->Option BQ}{x:Str}:∀{binds:List (Str×Ap)}{m:Str->Option Ap},(∀v,(x,v)∉binds)->bindL kindOf binds m x=m x
 | [],_,_=>rfl
 | (n,v)::r,m,h=>by
  unfold bindL;rw[Jf λw hw=>h w (A9 _ hw)];split
  ·have:x≠n:=by rintro rfl;exact h v A5
   simp[this]
  rfl
theorem Jh{kindOf:Str->Option BQ}{x:Str}:∀{binds:List (Str×Ap)}{m:Str->Option Ap},(∀v,(x,v)∉binds)->bindC kindOf binds m x=m x
 | [],_,_=>rfl
 | (n,v)::r,m,h=>by
  unfold bindC;rw[Jh λw hw=>h w (A9 _ hw)];split
  ·rfl
  have:x≠n:=by rintro rfl;exact h v A5
  simp[this]
theorem Jg{kindOf:Str->Option BQ}{x:Str}{v:Ap}:∀{P:List Str}{vs:List Ap}{i:Nat}{m:Str->Option Ap},P.Nodup->P[i]?=ID x->vs[i]?=ID v->kindOf x=ID .local ->
  bindL kindOf (P.zip vs) m x=ID v
 | [],_,_,_,_,h,_,_=>by simp at h
 | _::_,[],_,_,_,_,h,_=>by simp at h
 | p::P,w::vs,0,m,nd,h1,h2,hk=>by
  simp at h1 h2;subst h1;subst h2;show bindL kindOf ((p,w)::P.zip vs) m p=_;unfold bindL;rw[Jf λv hv=>(GM.mp nd).1 (of_mem_zip hv).1,if_pos hk];simp
 | p::P,w::vs,i+1,m,nd,h1,h2,hk=>by
  show bindL kindOf ((p,w)::P.zip vs) m x=_;unfold bindL;exact Jg (i:=i) (GM.mp nd).2 (by simpa using h1) (by simpa using h2) hk
theorem Ji{kindOf:Str->Option BQ}{x:Str}{v:Ap}:∀{P:List Str}{vs:List Ap}{i:Nat}{m:Str->Option Ap},P.Nodup->P[i]?=ID x->vs[i]?=ID v->kindOf x≠ID .local ->
  bindC kindOf (P.zip vs) m x=ID v
 | [],_,_,_,_,h,_,_=>by simp at h
 | _::_,[],_,_,_,_,h,_=>by simp at h
 | p::P,w::vs,0,m,nd,h1,h2,hk=>by
  simp at h1 h2;subst h1;subst h2;show bindC kindOf ((p,w)::P.zip vs) m p=_;unfold bindC;rw[Jh λv hv=>(GM.mp nd).1 (of_mem_zip hv).1,if_neg hk];simp
 | p::P,w::vs,i+1,m,nd,h1,h2,hk=>by
  show bindC kindOf ((p,w)::P.zip vs) m x=_;unfold bindC;exact Ji (i:=i) (GM.mp nd).2 (by simpa using h1) (by simpa using h2) hk
def start(N:List Str)(vs:List V):St:=vs.map ID++Cs (N.length-vs.length) IF
def KN(CX:CXT)(P:AO)(w:Bi)(K:AA)(mg:Str->Option Ap)(base:Heap)(N:List Str)(qual:Str)(scope:C8)(f:IN)(cd:Ap)(A:Bz)(outer:List Env)(s:AB)(H:Hp)(E:XK):Cx where
 prog:=P
 w:=w
 K:=K
 mg:=mg
 base:=base
 A:=A.deeper (F9 qual scope s.heap.objs.size f cd)
 N:=N
 s₀:=s
 H₀:=H
 env:=F9 qual scope s.heap.objs.size f cd
 outer:=outer
 stack:=F9 qual scope s.heap.objs.size f cd::outer
 ex:=[]
 calm:=true
 fn:=λ_=>true
 pn:=[]
 xe:=λe s'=>AI (AN P w) (A.deeper (F9 qual scope s.heap.objs.size f cd)) (leaving (F9 qual scope s.heap.objs.size f cd) e) (λ_ lL=>CX outer H s E e lL) (λe' lL=>CX outer H s E e' lL) s'
def O2{sc:C8}{n:Nat}{x:Str}(h:sc.names.lookup x=ID .cell):∃c,(E9 n sc.names []).lookup x=ID c:=by
 have q:=PySem.W.cellsFrom_some sc.names n [] (.inl h);exact Option.isSome_iff_exists.mp q
theorem WM{CX:CXT}{P:AO}{w:Bi}{K:AA}{mg:Str->Option Ap}{base:Heap}{N ps:List Str}{qual:Str}{scope:C8}{f:IN}{cd:Ap}{A:Bz}{outer:List Env}{s s1:AB}{H:Hp}{E:XK}{us:List Ap}{vs:List V}
  (S:bw N ps scope)(hd:A.handled=IF)(e0:Lp P w K mg base A outer s H)(hl:vs.length=ps.length)(r:Vals vs us)
  (x:InCallC s s.heap.objs.size (bindL (F9 qual scope s.heap.objs.size f cd).kindOf (ps.zip us) λ_=>IF) (E9 (s.heap.objs.size+1) scope.names []) (bindC (F9 qual scope s.heap.objs.size f cd).kindOf (ps.zip us) λ_=>IF) s1) :
  Inv (KN CX P w K mg base N qual scope f cd A outer s H E) [] (start N vs) H s1:=by
 have bz:ps.length<=N.length:=by have:=congrArg List.length S.pre;rw[EN] at this;omega
 obtain⟨h1,tk,rfl,hk⟩:=x.done;have oD:∀b:IN,b∉(KN CX P w K mg base N qual scope f cd A outer s H E).ex:=λb z=>absurd (show b∈([]:List IN) from z) ζ;refine⟨⟨e0.mod,S.kind,rfl,rfl,A3 _,λy z c h1 h2=>?_,λy hy=>?_,λy c _ h=>?_,λ_=>hd,Bz.frames_deeper e0.frames,.inr ⟨rfl,rfl⟩,λb z=>absurd z (oD b),e0.bs,e0.bsz,λb _ _=>oD b,λb z=>absurd z (oD b),e0.sY,e0.frf⟩,
  rfl,e0.bare,Un.kept hk,⟨_,x.toInCall.ns,λi y v h1 h2 h3=>?_⟩,λy c h=>⟨_,x.cell y c h⟩,e0.hok.fresh (A3 _),λy c h=>?_,λp hp=>absurd (show p∈([]:List (IN×Obj)) from hp) ζ,e0.hok.kept hk,?_⟩
 ·exact name_of_addr x.apart (BC h1) (BC h2)
 ·have hy:scope.names.lookup y=ID .cell\/scope.names.lookup y=ID .free:=hy;rcases hy with hy|hy
  ·exact O2 hy
  exact absurd Z (S.nofree _ (BC hy))
 ·exact Gc (x.above y c (BC h))
 ·have hi:i<vs.length:=by
   unfold start at h2;by_cases hi:i<vs.length
   ·exact hi
   rw[DJ (by simpa using hi)] at h2;rw[List.getElem?_replicate] at h2;split at h2 <;> cases h2
  have ha:vs[i]?=ID v:=by
   unfold start at h2;rw[FM (by simpa using hi),AM] at h2;cases e:vs[i]? with
   | none=>rw[e] at h2;cases h2
   | some a=>rw[e] at h2;cases h2;rfl
  obtain⟨u,hu,rv⟩:=r.get ha;have hp:ps[i]?=ID y:=by
   rw[<- S.pre,List.getElem?_take_of_lt ω];exact h1
  have ndP:ps.Nodup:=by rw[<- S.pre];exact S.nd.sublist (List.take_sublist _ _)
  refine⟨u,rv,?_⟩;rcases S.par y (AY hp) with k|k
  ·exact .inl ⟨k,Jg ndP hp hu k⟩
  obtain⟨c,e⟩:=O2 (n:=s.heap.objs.size+1) k;refine .inr ⟨.inl k,c,e,?_⟩;have q:=x.cell y c e;rw[Ji ndP hp hu (by show scope.names.lookup y≠_;rw[k];decide)] at q;exact q
 ·exact e0.hok.fresh (Gc (x.above y c (BC h)))
 unfold start;show _=N.length;rw[AQ,AG,List.length_replicate];omega
theorem aep{CX:CXT}{P:AO}{w:Bi}{K:AA}{mg:Str->Option Ap}{base:Heap}{k:Nat}{f:IN}{name qual:Str}{params:GO}{body:List Stmt}{scope:C8}{dV kV di pm aw ct oc:Ap}{an od:Option IN}
  {kH:Array (Option Ap)}{N ps:List Str}{sp:Sp}(lk:K.lookup f=ID ⟨oc,od,.func (fnOf name qual params body scope dV kV di pm an aw ct),kH⟩)(hcd:codeIn K aw qual=true)(S:bw N ps scope)
  (len:∀vs H Q E,sp vs H Q E->vs.length=ps.length)
   (dE:∀(A:Bz)(outer:List Env)(s:AB)(H:Hp)(vs:List V)(Q:VK)(E:XK),gw k (A.deeper (F9 qual scope s.heap.objs.size f aw))->sp vs H Q E ->
   ∃t,PSs (KN CX P w K mg base N qual scope f aw A outer s H E) body t/\t { nx:=λ_ H'=>Q .non H',rt:=Q } (start N vs) H) :
  c7 P w K mg base CX (k+1) f (fnOf name qual params body scope dV kV di pm an aw ct) ps sp:=by
 refine⟨len,λA outer s H args us vs Q E hr e0 hb r kL=>?_⟩;have hl:=len _ _ _ _ kL;have KX:K.In s.heap:=e0.mod.kin.keeps λb o e=>(e0.bs b o e).1;have TN:s.heap.NoLimit:=e0.mod.nolimit.keeps λb o e=>(e0.bs b o e).1;have Of:∀y∈ps.zip us,scope.names.lookup y.1=ID .local\/(scope.names.lookup y.1=ID .cell/\((E9 (s.heap.objs.size+1) scope.names []).lookup y.1).isSome=true):=λ⟨n,v⟩ hy=>by
  rcases S.par n (of_mem_zip hy).1 with q|q
  ·exact .inl q
  exact .inr ⟨q,PySem.W.cellsFrom_some _ _ _ (.inl q)⟩
 refine codeAny_call_function hr.depth (KX _ _ lk) Z S.co S.gen Z (PySem.W.codeRec_of KX hcd) (hb _ _ _ _ ?_);refine wpAny_newFunctionEnv_cells S.kind Of λenv he s1 x=>?_;subst he;refine⟨TN.keeps x.toInCall.keep,codeAny_func ?_⟩;obtain⟨t,ht,hq⟩:=dE A outer s H vs Q E (hr.deeper _) kL;have I:Inv (KN CX P w K mg base N qual scope f aw A outer s H E) [] (start N vs) H s1:=WM S hr.hd e0 hl r x;refine BD (ht [] s1 (start N vs) H _ I hq) (λfl s' hs=>?_) λe s' hs=>hs;have fin:∀{σ':St}{H':Hp}{v:V}{u:Ap},Inv (KN CX P w K mg base N qual scope f aw A outer s H E) [] σ' H' s'->RelV v u->Q v H'->CE outer P w H s Q u s':=
  λ{σ' H' v u} J rv q=>⟨v,H',J.os,J.bare,J.base,J.hok,rv,q⟩
 cases fl with
 | ret u=>
  obtain⟨v,σ',H',J,rv,q⟩:=hs;exact fin J rv q
 | next=>
  obtain⟨σ',H',J,q⟩:=hs;exact fin (v:=V.non) (u:=Ap.none) J Z q
 | brk=>
  obtain⟨_,_,_,q⟩:=hs;exact C9 q
 | cont=>
  obtain⟨_,_,_,q⟩:=hs;exact C9 q
section
variable {X:Cx}{x:Str}{p pos:Pos}{e:Expr}{es:List Expr}{t:TA}{id T:String}{r:List V->Hp->VK->Prop}
def tCB(r:List V->Hp->VK->Prop)(t:TA):TE:=λσ H Q=>t σ H λvs H1=>r vs H1 Q
def ZM(hc:dm X (.builtin id) r)(hg:Gl X x)(hm:X.mg x=IF)(hv:Ev x=ID (.builtin id))(ha:PA X (e::es) t)(hn:x ≠ "__name__" := by decide)(i6:(x == ("__debug__" : Str))=false:=by decide)
  (he:AH (e::es) X.env=(false,eval e X.env)::AH es X.env:=by rfl) (bz:(CO pos (AH es X.env)).any (·.1)=false:=by rfl):PE X (.Call (.Name x p) (e::es) [] pos) (tCB r t):=by
 intro ac s σ H Q I h;refine DU (iM I hg hm hv ?_ hn i6);exact Hm (thA (ha pos ac s σ H _ I h) λus s1 vs H1 I1 r1 q1=>hc ac s1 σ H1 vs us Q I1 r1 q1) he bz
def Wa(hc:dm X (.type T) r)(hg:Gl X x)(hm:X.mg x=IF)(hv:Ev x=ID (.type T))(ha:PA X (e::es) t)(hn:x ≠ "__name__" := by decide)(i6:(x == ("__debug__" : Str))=false:=by decide)
  (he:AH (e::es) X.env=(false,eval e X.env)::AH es X.env:=by rfl) (bz:(CO pos (AH es X.env)).any (·.1)=false:=by rfl):PE X (.Call (.Name x p) (e::es) [] pos) (tCB r t):=by
 intro ac s σ H Q I h;refine DU (iM I hg hm hv ?_ hn i6);exact BI (thA (ha pos ac s σ H _ I h) λus s1 vs H1 I1 r1 q1=>hc ac s1 σ H1 vs us Q I1 r1 q1) he bz
end
end L2
variable {prog P:AO}{w:Bi}{A:Bz}{E Q E':Ap->AB->Prop}{s s':AB}{b n i j t' kk k1 ep m:Nat}{vs af:List Ap}{ws zs is ns ae:List Int}{lo hi:Option Int}{X:L2.Cx}{e tg iter body aS am:Expr}{te to tl tv:L2.TE}{pos p2 bp cpos dQ ba ag:Pos}{r:L2.V->Option Int->Option Int->L2.Hp->L2.VK->Prop}{α:Type}{xs:List L2.V}{v y:L2.V}{a p f T l C i1 i2 l1 l2 c I nd:IN}{ta tr:L2.TA}{tb:L2.TS}{ac:List (IN×Obj)}{σ:L2.St}{H H1 H2 H' H0:L2.Hp}{ys items:Array Ap}{o:L2.HO}{es br:List Expr}{q qual:Str}{h8 ps NX:List Str}{XP:(Str->Option Ap)->Heap->Prop}{YP:Bi->Heap->Prop}{K:AA}{mg:Str->Option Ap}{base h' h:Heap}{fd:CU}{N M:Nat->Nat->Int}{sp:L2.Sp}{oc pm ct u first:Ap}{od an:Option IN}{kH:Array (Option Ap)}{R:L2.It->L2.Hp->Prop}{D:L2.Ends}{kX:List (Str×BQ)}{mp:List (Option Nat)}{scope:C8}{fp ch cs:List IN}{cl:List (Str×IN)}{wi kF:L2.TI}{g g2:L2.TG}{tc:L2.TT}{op:Operator}{B lab:Int}{ds:List AF}{kvs kn kp:List (List L2.Key×L2.V)}{a₀:Array CS}{pd:Array (Nat×Nat×Nat)}{env:Env}{L:List (Int×Int)}{ord:List Nat}{params:GO}
open L2.HO renaming lst → BY,tup → Do,dT → DO
open L2.V renaming bl → As,int → At,str → AS,ref → AT,ty → By
namespace HT
open PySem PyProof.Rows
def ad4{t b:IN}{ws:List Ap}(ht:IsTup s.heap t vs.toArray)(hb:IsTup s.heap b ws.toArray)(hv:vs≠[])
  (h1:ws=[]->Q (.ref t) s)(h2:ws≠[]->Q (.ref s.heap.objs.size) { s with heap:=s.heap.push { cls:=.type "tuple",data:=.seq (vs++ws).toArray } })
  (hsz:vs.length+ws.length<=AJ):AI (AN prog w) A (EH .Add (.ref t) (.ref b)) Q E s:=by
 obtain⟨⟨cls,dd,data,sl⟩,ho,hc,n,hd⟩:=id ht;obtain⟨⟨cls2,dd2,data2,ZY⟩,yn,nB,n2,dL⟩:=id hb;simp only at hc hd nB dL;subst hc hd nB dL;have e:vs.toArray++ws.toArray=(vs++ws).toArray:=by simp
 by_cases hw:ws=[]
 ·exact concat_meets ⟨_,ho,rfl⟩ ⟨_,yn,rfl⟩ noFill_tuple_add seq_tuple_add PySem.F.slot_tuple_add PySem.F.entry_tuple_add (PySem.F.args_tuple_add_2 _ _)
   (tuple_addW1 t b vs.toArray ws.toArray n n2 dd dd2 sl ZY (by simpa using hv) (by simp[hw])) ⟨ho,yn,h1 hw⟩
 refine concat_meets ⟨_,ho,rfl⟩ ⟨_,yn,rfl⟩ noFill_tuple_add seq_tuple_add PySem.F.slot_tuple_add PySem.F.entry_tuple_add (PySem.F.args_tuple_add_2 _ _)
  (tuple_addW2 t b vs.toArray ws.toArray n n2 dd dd2 sl ZY (by simpa using hv) (by simpa using hw) (by rw[A0,A0];exact hsz)) ⟨ho,yn,?_⟩
 rw[e];exact h2 hw
def sIx(n d:Nat):Option Int->Nat
 | none=>d
 | some v=>if v<0 then (v+(n:Int)).toNat else min v.toNat n
theorem aeO(n d:Nat)(hd:d<=n)(o:Option Int):sIx n d o<=n:=by
 cases o with
 | none=>exact hd
 | some v=>
  show(if v<0 then (v+(n:Int)).toNat else min v.toNat n)<=n;by_cases hv:v<0
  ·rw[if_pos hv];omega
  rw[if_neg hv];exact Nat.min_le_right _ _
def Vi(v:Int)(n d:Nat):(if v<0 then max (v+(n:Int)) 0 else min v (n:Int))=((sIx n d (ID v):Nat):Int):=by
 show(if v<0 then max (v+(n:Int)) 0 else min v (n:Int))=(((if v<0 then (v+(n:Int)).toNat else min v.toNat n):Nat):Int);by_cases hv:v<0
 ·simp only[if_pos hv];omega
 simp only[if_neg hv];omega
theorem SM(lo hi:Option Int)(n:Nat):AW.Slice.sliceAdjust lo hi 1 (n:Int)=(((sIx n 0 lo:Nat):Int),((sIx n n hi:Nat):Int)):=by
 have h1:¬((1:Int)<0):=ω;unfold AW.Slice.sliceAdjust;simp only[h1,if_false];refine Prod.ext ?_ ?_
 ·cases lo with
  | none=>rfl
  | some v=>exact Vi v n 0
 cases hi with
 | none=>rfl
 | some v=>exact Vi v n n
def Qz(i j:Nat):AW.Slice.slicePlaces (i:Int) (j:Int) 1=j-i:=by
 unfold AW.Slice.slicePlaces;have h1:(1:Int)>0:=ω;simp only[h1,if_true,Int.ediv_one];split <;> omega
theorem Cm{v:Ap}{o:Option Int}{Q:Option Int->AB->Prop}(p:IsPart v o)(h:Q o s):AI (AN prog w) A (AW.Slice.slicePartIndex v) Q E s:=by
 cases p with
 | none=>exact slicePart_none h
 | int i t=>exact slicePart_int h
def yD{sl:IN}{vl vu:Ap}{Q:Int×Int×Nat->AB->Prop}(hs:s.heap.IsSliceOf sl vl vu .none)(pl:IsPart vl lo)(pu:IsPart vu hi)
  (h:Q (((sIx n 0 lo:Nat):Int),1,sIx n n hi-sIx n 0 lo) s):AI (AN prog w) A (AW.Slice.sliceApplied (.ref sl) (pure (n:Int))) Q E s:=by
 obtain⟨os,NL,gN,yB⟩:=id hs;unfold AW.Slice.sliceApplied AW.Slice.sliceFields;refine An (An (Ct NL yB (x:=vl) Z (An (Ct NL yB (x:=vu) Z (An (Ct NL yB (x:=.none) Z (Au ?_)))))));refine An (slicePart_none ?_);show AI _ _ (if ((1:Int) == 0)=true then _ else _) _ _ s;rw[if_neg δ];refine An (Cm pl (An (Cm pu (An (Au ?_)))));show AI _ _ (match AW.Slice.sliceAdjust lo hi 1 (n:Int) with|(lo,hi)=>pure (lo,(1:Int),AW.Slice.slicePlaces lo hi 1)) _ _ s
 rw[SM lo hi n];show AI _ _ (pure (((sIx n 0 lo:Nat):Int),(1:Int),AW.Slice.slicePlaces ((sIx n 0 lo:Nat):Int) ((sIx n n hi:Nat):Int) 1)) _ _ s;rw[Qz];exact Au h
def Zw(xs:Array Ap)(i k:Nat):((BF k).filterMap λ(m:Nat)=>xs[((i:Int)+(m:Int)*1).toNat]?).toArray=((xs.toList.drop i).take k).toArray:=by
 have e:(λ(m:Nat)=>xs[((i:Int)+(m:Int)*1).toNat]?)=λm=>xs[i+m]?:=by
  funext m;have:((i:Int)+(m:Int)*1).toNat=i+m:=by omega
  rw[this]
 rw[e];have:=pick_run xs i k;rw[IZ] at this;have e2:((λx=>xs[x]?)∘λx=>i+x)=λm=>xs[i+m]?:=rfl;rw[e2] at this;rw[this]
theorem xR{t sl:IN}{items:Array Ap}{vl vu:Ap}{lo hi:Option Int}{Q:Ap->AB->Prop}(ht:IsTup s.heap t items)(hs:s.heap.IsSliceOf sl vl vu .none)(pl:IsPart vl lo)(pu:IsPart vu hi)
  (hw:¬(sIx items.size 0 lo=0/\sIx items.size items.size hi=items.size))
  (h:Q (.ref s.heap.objs.size) { s with heap:=s.heap.push { cls:=.type "tuple",data:=.seq ((items.toList.drop (sIx items.size 0 lo)).take (sIx items.size items.size hi-sIx items.size 0 lo)).toArray } })
  (hsz:items.size<=AJ):AI (AN prog w) A (L4 (.ref t) (.ref sl)) Q E s:=by
 have jS:sizeOk (.seq ((items.toList.drop (sIx items.size 0 lo)).take (sIx items.size items.size hi-sIx items.size 0 lo)).toArray):=by
  show((items.toList.drop (sIx items.size 0 lo)).take (sIx items.size items.size hi-sIx items.size 0 lo)).toArray.size<=AJ;rw[A0,EN,FO,Ex];omega
 have hj:sIx items.size items.size hi<=items.size:=aeO _ _ (A3 _) hi;obtain⟨os,NL,gN,yB⟩:=id hs;have hTs:s.TypeIs (.ref sl) "slice" := ⟨os,NL,gN⟩;unfold L4
 try with_reducible refine CB ?_
 first|refine An (Au ?_)|skip
 refine An (wpAny_sequenceKey ht.typeIs δ ?_);refine An (B3 (name:=EA "__getitem__") ht.typeIs He
  (B1 He ht.typeIs entry_tuple_getitem ?_ (args_tuple_getitem _ _)))
 show AI _ _ (AW.Tuple.tupleItemsOf (.ref t) >>= _) _ _ s;refine An (tupleItemsOf_ ht ?_);refine An (wpAny_typeOf hTs ?_);rw[if_pos δ];refine An (yD hs pl pu ?_);have oQ:¬((((sIx items.size 0 lo:Nat):Int) == 0&&(1:Int) == 1&&(sIx items.size items.size hi-sIx items.size 0 lo) == items.size)=true):=by
  intro q;rw[CL,CL] at q;have q1:((sIx items.size 0 lo:Nat):Int)=0:=eq_of_beq q.1.1;have q2:sIx items.size items.size hi-sIx items.size 0 lo=items.size:=eq_of_beq q.2;exact hw ⟨ω,ω⟩
 show AI _ _ (if (((sIx items.size 0 lo:Nat):Int) == 0&&(1:Int) == 1&&(sIx items.size items.size hi-sIx items.size 0 lo) == items.size)=true then _ else _) _ _ s;rw[if_neg oQ,Zw]
 first
  | exact An (m:=AW.Tuple.tupleExact _) (BE (Au ⟨_,rfl,Au h⟩) jS)
  | exact An (m:=AW.Tuple.tupleExact _) (BE (An (Au (Au ⟨_,rfl,Au h⟩))) jS)
  | exact An (An (m:=AW.Tuple.tupleExact _) (BE (Au (Au ⟨_,rfl,Au h⟩)) jS))
  | exact An (An (m:=AW.Tuple.tupleExact _) (BE (Au ⟨_,rfl,Au h⟩) jS))
end HT
namespace L2
open PySem PySem.Spec PyProof.Rows
abbrev TO:=St->Hp->(Option Int->Hp->Prop)->Prop
def PO(X:Cx)(e:Option Expr)(t:TO):Prop:=
 ∀(ac:List (IN×Obj)) (s:AB) (σ:St) (H:Hp) (Q:Option Int->Hp->Prop),Inv X ac σ H s->t σ H Q ->
  AI (AN X.prog X.w) X.A (evalPart e X.env) (λu s'=>∃o H',Inv X ac σ H' s'/\IsPart u o/\Q o H') X.xe s
def tY:TO:=λ_ H Q=>Q IF H
def BX(t:TE):TO:=λσ H Q=>t σ H λx H1=>∃i,x=.int i/\Q (ID i) H1
section
variable{lo hi:Option Expr}{tl th:TO}
def Ug(h:PE X e te):PO X (ID e) (BX te):=by
 intro ac s σ H Q I hw;rw[evalPart_some];refine thE (h ac s σ H _ I hw) λu s1 x H1 I1 r1 q1=>?_;obtain⟨i,rfl,q⟩:=q1;obtain⟨t,rfl⟩:=r1;exact⟨ID i,H1,I1,.int i t,q⟩
def SlR(X:Cx)(r:V->Option Int->Option Int->Hp->VK->Prop):Prop:=
 ∀(ac:List (IN×Obj)) (s:AB) (σ:St) (H:Hp) (x:V) (v vl vu:Ap) (lo hi:Option Int) (sl:IN) (Q:VK),Inv X ac σ H s->RelV x v->s.heap.IsSliceOf sl vl vu .none->IsPart vl lo->IsPart vu hi->r x lo hi H Q ->
  ∃T id,typeLookup (.type T) "__getitem__" = pure (ID (.builtin id))/\s.TypeIs v T/\AI (AN X.prog X.w) X.A (L4 v (.ref sl)) (EP X ac σ Q) X.xe s
def tSl(r:V->Option Int->Option Int->Hp->VK->Prop)(te:TE)(tl th:TO):TE:=λσ H Q=>te σ H λx H1=>tl σ H1 λl H2=>th σ H2 λu H3=>r x l u H3 Q
def mX(xs:List V)(lo hi:Option Int):List V:=(xs.drop (HT.sIx xs.length 0 lo)).take (HT.sIx xs.length xs.length hi-HT.sIx xs.length 0 lo)
def tD(xs:List V)(lo hi:Option Int):(mX xs lo hi).length<=xs.length:=by
 unfold mX;rw[EN,FO];omega
def ahs(K:AA):V->Option Int->Option Int->Hp->VK->Prop:=λx lo hi H Q=>∃a xs,x=.ref a/\SqT K H a xs /\
 ¬(HT.sIx xs.length 0 lo=0/\HT.sIx xs.length xs.length hi=xs.length)/\∀p,H p=IF->Q (.ref p) (upd H p (.tup (mX xs lo hi)))
def aeL:SlR X (ahs X.K):=by
 intro ac s σ H x v vl vu lo hi sl Q I rx hs pl pu h;obtain⟨a,xs,rfl,hx,hw,q⟩:=h;cases rx;obtain⟨af,r,ht,hz⟩:=I.tuple hx;have ar:af.toArray.size=xs.length:=by rw[A0];exact r.length.symm
 refine⟨"tuple",_,He.lookup,ht.typeIs,?_⟩;refine HT.xR ht hs pl pu (by rw[ar];exact hw) ?_ (by rw[ar];exact hz);rw[ar];refine⟨.ref s.heap.objs.size,_,I.laid (t':=s.toks) (o:=.tup (mX xs lo hi)) (λb ob q=>AE _ q) (A3 _) ?_,rfl,q _ (I.hok.fresh (A3 _))⟩;exact⟨BU (tD xs lo hi) hz,_,(r.drop (HT.sIx xs.length 0 lo)).take (HT.sIx xs.length xs.length hi-HT.sIx xs.length 0 lo),IsTup.new _ _⟩
def agN(K:AA):R2:=λx y H Q=>∃a b xs ys,x=.ref a/\y=.ref b/\SqT K H a xs/\SqT K H b ys/\xs≠[]/\xs.length+ys.length<=AJ /\
 (ys=[]->Q (.ref a) H)/\(ys≠[]->∀p,H p=IF->Q (.ref p) (upd H p (.tup (xs++ys))))
theorem Vals.J0{xs:List V}{us:List Ap}(r:Vals xs us):us=[]↔xs=[]:=by
 cases r with
 | nil=>simp
 | cons _ _=>simp
def ac6:OpR X (EH .Add) (agN X.K):=by
 intro ac s σ H x y v u Q I rx ry h;obtain⟨a,b,xs,ys,rfl,rfl,ha,hb,hx,hz,q1,q2⟩:=h;cases rx;cases ry;obtain⟨af,r1,p1,_⟩:=I.tuple ha;obtain⟨a9,r2,p2,_⟩:=I.tuple hb;refine HT.ad4 p1 p2 (λz=>hx (r1.J0.mp z)) (λz=>⟨.ref a,H,I,rfl,q1 (r2.J0.mp z)⟩) (λz=>?_) (by rw[<- r1.length,<- r2.length];exact hz);refine⟨.ref s.heap.objs.size,_,I.laid (t':=s.toks) (o:=.tup (xs++ys)) (λb ob q=>AE _ q) (A3 _) ?_,rfl,q2 (λw=>z (r2.J0.mpr w)) _ (I.hok.fresh (A3 _))⟩;exact⟨by rw[AQ];exact hz,_,r1.append r2,IsTup.new _ _⟩
end
def ixN(n:Nat)(i:Int):Option Nat:=if 0<=i then (if i<n then ID i.toNat else IF) else if -(n:Int)<=i then ID (i+n).toNat else IF
def atI{α:Type}(xs:List α)(i:Int):Option α:=(ixN xs.length i).bind λj=>xs[j]?
def U4{i:Int}(h:ixN n i=ID j):seqIndex? i n=ID j/\j<n/\-(n:Int)<=i/\i<n:=by
 unfold ixN at h;by_cases h0:0<=i
 ·rw[if_pos h0] at h;by_cases h1:i<n
  ·rw[if_pos h1] at h;have e:i.toNat=j:=A7 h;exact⟨by rw[seqIndex_of h0 h1,e],ω,ω,h1⟩
  rw[if_neg h1] at h;cases h
 rw[if_neg h0] at h;by_cases h1:-(n:Int)<=i
 ·rw[if_pos h1] at h;have e:(i+n).toNat=j:=A7 h;exact⟨by rw[seqIndex_neg ω h1,e],ω,h1,ω⟩
 rw[if_neg h1] at h;cases h
theorem Li{α:Type}{xs:List α}{i:Int}{v:α}(h:atI xs i=ID v):∃j,seqIndex? i xs.length=ID j/\xs[j]?=ID v/\j<xs.length/\-(xs.length:Int)<=i/\i<xs.length:=by
 unfold atI at h;cases e:ixN xs.length i with
 | none=>rw[e] at h;cases h
 | some j=>
  rw[e] at h;obtain⟨h1,h2,h3,h4⟩:=U4 e;exact⟨j,h1,h,h2,h3,h4⟩
def cG{xs:List α}{v:α}(h:xs[j]?=ID v):atI xs (j:Int)=ID v:=by
 have hj:j<xs.length:=(AK.mp h).1;have e:ixN xs.length (j:Int)=ID j:=by
  unfold ixN;rw[if_pos ω,if_pos ω];simp
 unfold atI;rw[e];exact h
def Vn(b:Expr):Prop:=∀o i,subscripted b false o i=operate [o,i] (L4 o i)
def IxR(X:Cx)(r:R2):Prop:=
 ∀(value slice:Expr)(ac:List (IN×Obj)) (s:AB) (σ:St) (H:Hp) (x y:V) (v u:Ap) (Q:VK),Inv X ac σ H s->RelV x v->RelV y u->r x y H Q ->
  subscripted slice false v u=operate [v,u] (L4 v u)->AI (AN X.prog X.w) X.A (subscriptTail value slice v u) (EP X ac σ Q) X.xe s
section
variable{a b:Expr}{ta tb:TE}
def agL(K:AA):R2:=λx y H Q=>∃p xs i v,x=.ref p/\y=.int i/\SqL K H p xs/\atI xs i=ID v/\Q v H
def ahv(K:AA):R2:=λx y H Q=>∃p xs i v,x=.ref p/\y=.int i/\SqT K H p xs/\atI xs i=ID v/\Q v H
def ahw:R2:=λx y H Q=>∃z i c,x=.str z/\y=.int i/\z.length<=AJ/\atI z.cps.toList i=ID c/\Q (.str ⟨#[c]⟩) H
def U0:IxR X (agL X.K):=by
 intro value slice ac s σ H x y v u Q I rx ry h hs;obtain⟨p,xs,i,z,rfl,rfl,hq,he,q⟩:=h;cases rx;obtain⟨t,rfl⟩:=ry;obtain⟨af,r,pl,hz⟩:=I.list hq;obtain⟨j,h1,h2,h3,h4,h5⟩:=Li he;obtain⟨w,ew,lS⟩:=r.get h2;have hl:=r.length;have hn:=yN;have fin:EP X ac σ Q w s:=⟨z,H,I,lS,q⟩;by_cases h0:0<=i
 ·have hj:i.toNat=j:=by
   rw[seqIndex_of h0 h5] at h1;exact A7 h1
  exact item_listR pl.isList h0 ω (by rw[hj];simpa using ew) fin hs
 have hj:(i+(af.toArray.size:Int)).toNat=j:=by
  rw[seqIndex_neg ω h4] at h1;rw[A0,<- hl];exact A7 h1
 exact subscriptTail_builtinR (x:=w) pl.isList.typeIs slot_list_getitem.lookup
  (wpAny_getItem_list_neg (Q:=λr s'=>r=w/\EP X ac σ Q r s') pl.isList ω (by rw[A0] <;> omega) ω (by rw[hj];simpa using ew) ⟨rfl,fin⟩) hs
def afY:IxR X (ahv X.K):=by
 intro value slice ac s σ H x y v u Q I rx ry h hs;obtain⟨p,xs,i,z,rfl,rfl,hq,he,q⟩:=h;cases rx;obtain⟨t,rfl⟩:=ry;obtain⟨af,r,pl,hz⟩:=I.tuple hq;obtain⟨j,h1,h2,h3,h4,h5⟩:=Li he;obtain⟨w,ew,lS⟩:=r.get h2;have hl:=r.length;have hn:=yN;have fin:EP X ac σ Q w s:=⟨z,H,I,lS,q⟩;exact subscriptTail_builtinR (x:=w) pl.typeIs slot_tuple_getitem.lookup
  (getItem_tuple (j:=j) (Q:=λr s'=>r=w/\EP X ac σ Q r s') pl ω ω (by rw[A0,<- hl];exact h1) (by simpa using ew) ⟨rfl,fin⟩) hs
def afZ:IxR X ahw:=by
 intro value slice ac s σ H x y v u Q I rx ry h hs;obtain⟨z,i,c,rfl,rfl,hz,he,q⟩:=h;obtain⟨t,rfl⟩:=rx;obtain⟨t',rfl⟩:=ry;obtain⟨j,h1,h2,h3,h4,h5⟩:=Li he;have hl:z.cps.toList.length=z.length:=by simp[Str.length]
 rw[hl] at h1 h4 h5;have hn:=yN;exact tail_any (typeIs_str s z t) slot_str_getitem.lookup (getItem_str (c:=c) (by
  have e1:decide (i < -(2^63:Int))=false:=decide_eq_false ω;have e2:decide (i≥2^63)=false:=decide_eq_false ω;rw[e1,e2,Bool.or_false]) (by rw[h1];simpa using h2) ⟨.str ⟨#[c]⟩,H,I.tok _,⟨_,rfl⟩,q⟩) hs
def Ru(af:List Ap)(n j:Nat)(u:Ap):CC (·.setIfInBounds j u) { cls:=.type "list",data:=.seq af.toArray n }={ cls:=.type "list",data:=.seq (af.set j u).toArray n }:=by
 simp[CC]
def Inv.lst{ac:List (IN×Obj)}{σ:St}{H:Hp}{s:AB}{p:IN}{xs:List V}(I:Inv X ac σ H s)(h:H p=ID (.lst xs)) :
  ∃(af:List Ap)(n:Nat),Vals xs af/\s.heap.get? p=ID { cls:=.type "list",data:=.seq af.toArray n }/\xs.length<=AJ:=by
 obtain⟨z,af,n,r,e⟩:=I.hok p _ h;exact⟨af,n,r,e,z⟩
def Inv.afL{ys:List V}{its':List Ap}{n':Nat}{f:Obj->Obj}(I:Inv X ac σ H s)(h:H p=ID (.lst xs))
  (ho:s.heap.get? p=ID { cls:=.type "list",data:=.seq af.toArray n })(hf:f { cls:=.type "list",data:=.seq af.toArray n }={ cls:=.type "list",data:=.seq its'.toArray n' })(r:Vals ys its')(hz:ys.length<=AJ)(t:Nat) :
  Inv X ac σ (upd H p (.lst ys)) { s with heap:=s.heap.update p f,toks:=t }:=by
 have e:(s.heap.update p f).get? p=ID { cls:=.type "list",data:=.seq its'.toArray n' }:=by
  rw[Hn f ho (by rw[hf] <;> rfl),hf]
 refine I.write (x:=p) (e:=p) (by rw[h];trivial) (.inl Z) (λb u hb q=>(C7 _ _ (Co hb)).trans q) ⟨_,e⟩ ?_;exact⟨hz,its',n',r,e⟩
def agJ:V->V->V->Hp->(Hp->Prop)->Prop:=λo i v H Q=>∃p xs k j,o=.ref p/\i=.int k/\H p=ID (.lst xs)/\ixN xs.length k=ID j/\Q (upd H p (.lst (xs.set j v)))
def set_list:S5 X agJ:=by
 intro ac s σ H o i v ov iv u Q I ro ri rv h;obtain⟨p,xs,k,j,rfl,rfl,hp,hj,q⟩:=h;cases ro;obtain⟨t,rfl⟩:=ri;obtain⟨af,n,r,ho,hz⟩:=I.lst hp;obtain⟨h1,h2,h3,h4⟩:=U4 hj;have hl:=r.length;have hn:=yN;have I':Inv X ac σ (upd H p (.lst (xs.set j v))) { s with heap:=s.heap.update p (CC (·.setIfInBounds j u)) }:=
  I.afL hp ho (Ru af n j u) (r.set rv j) (by rw[length_set];exact hz) s.toks
 by_cases h0:0<=k
 ·have hk:k.toNat=j:=by
   rw[seqIndex_of h0 h4] at h1;exact A7 h1
  exact PySem.W.ki_setAt ho h0 ω (by rw[A0,<- hl];exact h4) (by rw[hk];exact⟨_,I',q⟩)
 have hk:(k+(af.toArray.size:Int)).toNat=j:=by
  rw[seqIndex_neg ω h3] at h1;rw[A0,<- hl];exact A7 h1
 exact PySem.W.ki_setBack ho ω (by rw[A0,<- hl];exact h3) ω (by rw[hk];exact⟨_,I',q⟩)
theorem Ju(lo hi:Option Int)(n:Nat):(GS lo hi IF n).1=((HT.sIx n 0 lo:Nat):Int)/\(GS lo hi IF n).2.1=((HT.sIx n n hi:Nat):Int)/\(GS lo hi IF n).2.2=1:=by
 refine⟨?_,?_,rfl⟩
 ·cases lo with
  | none=>simp[GS,HT.sIx]
  | some i=>
   simp only[GS,HT.sIx,getD_none,show(1:Int)>0 by decide,if_true];by_cases h:i<0
   ·simp only[h,if_true] <;> omega
   simp only[h,if_false] <;> omega
 cases hi with
 | none=>simp[GS,HT.sIx]
 | some i=>
  simp only[GS,HT.sIx,getD_none,show(1:Int)>0 by decide,if_true];by_cases h:i<0
  ·simp only[h,if_true] <;> omega
  simp only[h,if_false] <;> omega
def FT(af:List Ap)(lo hi:Option Int):slicePick af.toArray lo hi IF=((af.drop (HT.sIx af.length 0 lo)).take (HT.sIx af.length af.length hi-HT.sIx af.length 0 lo)).toArray:=by
 obtain⟨h1,h2,h3⟩:=Ju lo hi af.toArray.size;unfold slicePick;rw[h1,h2,h3];simp only[sliceRange_one,pick_run,A0] <;> rfl
def aht(K:AA):V->Option Int->Option Int->Hp->VK->Prop:=λx lo hi H Q=>∃a xs,x=.ref a/\SqL K H a xs/\∀p,H p=IF->Q (.ref p) (upd H p (.lst (mX xs lo hi)))
def ab0:SlR X (aht X.K):=by
 intro ac s σ H x v vl vu lo hi sl Q I rx hs pl pu h;obtain⟨a,xs,rfl,hx,q⟩:=h;cases rx;obtain⟨af,r,ht,hz⟩:=I.list hx;have ar:=r.length;refine⟨"list",_,slot_list_getitem.lookup,ht.isList.typeIs,?_⟩;refine wpAny_getItem_list_slice ht.isList hs pl pu .none ζ ?_ (by rw[A0] <;> omega)
 rw[FT,<- ar];refine⟨.ref s.heap.objs.size,_,I.laid (t':=s.toks) (o:=.lst (mX xs lo hi)) (λb ob q=>AE _ q) (A3 _) ?_,rfl,q _ (I.hok.fresh (A3 _))⟩;exact⟨BU (tD xs lo hi) hz,_,0,(r.drop (HT.sIx xs.length 0 lo)).take (HT.sIx xs.length xs.length hi-HT.sIx xs.length 0 lo),AU _ rfl⟩
def Ir:V->Bool
 | .non=>true
 | .bl _=>true
 | .int _=>true
 | .str _=>true
 | _=>false
def eqV:V->V->Bool
 | .non,.non=>true
 | .bl a,.bl b=>a == b
 | .bl a,.int b=>(if a then 1 else 0) == b
 | .int a,.bl b=>a == (if b then 1 else 0)
 | .int a,.int b=>a == b
 | .str a,.str b=>a == b
 | _,_=>false
theorem agi{A:Bz}{s:AB}{y x:V}{u v:Ap}(ry:RelV y u)(rx:RelV x v)(fy:Ir y=true)(fx:Ir x=true):B6 A s u v (eqV y x):=by
 cases y with
 | non=>
  cases ry;cases x with
  | non=>cases rx;exact B6.same _
  | bl b=>cases rx;exact B6.none_bool b
  | int b=>obtain⟨t,rfl⟩:=rx;exact B6.none_int b t
  | str b=>obtain⟨t,rfl⟩:=rx;exact B6.none_str b t
  | _=>exact absurd (show false=true from fx) A8
 | bl a=>
  cases ry;cases x with
  | non=>cases rx;exact B6.bool_none a
  | bl b=>cases rx;exact B6.bool_bool a b
  | int b=>obtain⟨t,rfl⟩:=rx;exact B6.bool_int a b t
  | str b=>obtain⟨t,rfl⟩:=rx;exact B6.bool_str a b t
  | _=>exact absurd (show false=true from fx) A8
 | int a=>
  obtain⟨t',rfl⟩:=ry;cases x with
  | non=>cases rx;exact B6.int_none a t'
  | bl b=>cases rx;exact B6.int_bool a t' b
  | int b=>obtain⟨t,rfl⟩:=rx;exact B6.int_int a t' b t
  | str b=>obtain⟨t,rfl⟩:=rx;exact B6.int_str a t' b t
  | _=>exact absurd (show false=true from fx) A8
 | str a=>
  obtain⟨t',rfl⟩:=ry;cases x with
  | non=>cases rx;exact B6.str_none a t'
  | bl b=>cases rx;exact B6.str_bool a t' b
  | int b=>obtain⟨t,rfl⟩:=rx;exact B6.str_int a t' b t
  | str b=>obtain⟨t,rfl⟩:=rx;exact B6.str_str a t' b t
  | _=>exact absurd (show false=true from fx) A8
 | _=>exact absurd (show false=true from fy) A8
def lZ:dm X (.builtin "len") (λxs H Q=>∃p ys,xs=[.ref p]/\(SqL X.K H p ys\/SqT X.K H p ys)/\Q (.int ys.length) H):=by
 intro ac s σ H xs us Q I r h;obtain⟨p,ys,rfl,hq,q⟩:=h;obtain⟨u,rfl,rx⟩:=vals1 r;cases rx;have hn:=yN;rcases hq with hq|hq
 ·obtain⟨af,r',pl,hz⟩:=I.list hq;have ar:=r'.length;exact Calls.call_len_list pl.isList (by simp only[A0] <;> omega) ⟨.int ys.length,H,I.tok _,⟨s.toks+1,by rw[A0,ar]⟩,q⟩
 obtain⟨af,r',pl,hz⟩:=I.tuple hq;have ar:=r'.length;exact len_tuple pl (by simp only[A0] <;> omega) ⟨.int ys.length,H,I.tok _,⟨s.toks+1,by rw[A0,ar]⟩,q⟩
def K6:dm X (.builtin "len") (λxs H Q=>∃z,xs=[.str z]/\z.length<=AJ/\Q (.int z.length) H):=by
 intro ac s σ H xs us Q I r h;obtain⟨z,rfl,hz,q⟩:=h;obtain⟨u,rfl,t,rfl⟩:=vals1 r;have hn:=yN;exact len_str ω ⟨.int z.length,H,I.tok _,⟨_,rfl⟩,q⟩
def lY:dm X (.type "list") (λxs H Q=>∃p ys,xs=[.ref p]/\(SqL X.K H p ys\/SqT X.K H p ys)/\∀l,H l=IF->Q (.ref l) (upd H l (.lst ys))):=by
 intro ac s σ H xs us Q I r h;obtain⟨p,ys,rfl,hq,q⟩:=h;obtain⟨u,rfl,rx⟩:=vals1 r;cases rx;have fin:∀(af:List Ap),Vals ys af->ys.length<=AJ->∀(h':Heap)(c':Nat),(∀b o',s.heap.get? b=ID o'->h'.get? b=ID o') ->
   h'.get? s.heap.objs.size=ID { cls:=.type "list",dict:=IF,data:=.seq af.toArray c',slots:=#[] }->EP X ac σ Q (.ref s.heap.objs.size) { s with heap:=h' }:=λaf r' hz h' c' kp e=>
  ⟨.ref s.heap.objs.size,_,I.laid (t':=s.toks) kp (A3 _) (show bW X.prog X.w _ h' _ (.lst ys) from⟨hz,af,c',r',e⟩),rfl,q _ (I.hok.fresh (A3 _))⟩
 rcases hq with hq|hq
 ·obtain⟨af,r',pl,hz⟩:=I.list hq;have ar:=r'.length;obtain⟨o,ho,hc,n,hd⟩:=pl.isList;exact call_list_seq p (.inl Z) ho hc hd (λh' c' kp e=>fin af r' hz h' c' kp e) (by simp only[A0] <;> omega)
 obtain⟨af,r',pl,hz⟩:=I.tuple hq;have ar:=r'.length;obtain⟨o,ho,hc,n,hd⟩:=pl;exact call_list_seq p (.inr Z) ho hc hd (λh' c' kp e=>fin af r' hz h' c' kp e) (by simp only[A0] <;> omega)
def gM:dm X (.type "tuple") (λxs H Q=>∃p ys,xs=[.ref p]/\((SqL X.K H p ys/\∀l,H l=IF->Q (.ref l) (upd H l (.tup ys)))\/(SqT X.K H p ys/\Q (.ref p) H))):=by
 intro ac s σ H xs us Q I r h;obtain⟨p,ys,rfl,h⟩:=h;obtain⟨u,rfl,rx⟩:=vals1 r;cases rx;rcases h with⟨hq,q⟩|⟨hq,q⟩
 ·obtain⟨af,r',pl,hz⟩:=I.list hq;have ar:=r'.length;refine call_tuple_list pl.isList (λh' kp=>?_) (by simp only[A0] <;> omega)
  have I1:Inv X ac σ H { s with heap:=h' }:=I.kept (t':=s.toks) kp;have I2:Inv X ac σ (upd H h'.objs.size (.tup ys)) { s with heap:=h'.push { cls:=.type "tuple",data:=.seq af.toArray } }:=
   I1.laid (t':=s.toks) (λb o e=>AE _ e) (A3 _) (show bW X.prog X.w _ _ _ (.tup ys) from⟨hz,af,r',IsTup.new _ _⟩)
  exact⟨.ref h'.objs.size,_,I2,rfl,q _ (I1.hok.fresh (A3 _))⟩
 obtain⟨af,r',pl,hz⟩:=I.tuple hq;exact call_tuple_same pl ⟨.ref p,H,I,rfl,q⟩
def tyV(K:AA)(T:String)(x:V)(H:Hp):Prop:=match x with
 | .str _=>T = "str"
 | .int _=>T = "int"
 | .ref p=>(T = "list" /\ ∃xs,SqL K H p xs)\/(T = "tuple" /\ ∃o,K.lookup p=ID o/\o.cls=.type "tuple" /\ o.dict=IF) \/
   (T = "dict" /\ ((∃kvs,H p=ID (.dK kvs))\/∃kvs,H p=ID (.dT kvs)))\/(T = "set" /\ ∃S n,H p=ID (.set S n))
 | _=>False
theorem yt{ac:List (IN×Obj)}{σ:St}{H:Hp}{s:AB}{T:String}{x:V}{v:Ap}(I:Inv X ac σ H s)(r:RelV x v)(ty:tyV X.K T x H) :
  s.TypeIs v T/\∀a,v=.ref a->∃ob,s.heap.get? a=ID ob/\ob.dict=IF:=by
 cases x with
 | str z=>
  obtain⟨t,rfl⟩:=r;cases (show T = "str" from ty);exact⟨typeIs_str s z t,λ_ e=>nomatch e⟩
 | int i=>
  obtain⟨t,rfl⟩:=r;cases (show T = "int" from ty);exact⟨typeIs_int s i t,λ_ e=>nomatch e⟩
 | ref p=>
  cases r;rcases ty with⟨rfl,xs,hq⟩|⟨rfl,o,hk,hc,hd⟩|⟨rfl,hk⟩|⟨rfl,S,n,hk⟩
  ·obtain⟨af,_,pl,_⟩:=I.list hq;refine⟨pl.isList.typeIs,λa e=>?_⟩;cases e;obtain⟨o,n,e,c,hd,_⟩:=pl;exact⟨o,e,hd⟩
  ·refine⟨⟨o,I.kIn p o hk,hc⟩,λa e=>?_⟩;cases e;exact⟨o,I.kIn _ o hk,hd⟩
  ·have z:∃o,s.heap.get? p=ID o/\o.ExactDict:=by
    rcases hk with⟨kvs,hk⟩|⟨kvs,hk⟩
    ·obtain⟨_,_,_,_,o,_,_,e,ex,_⟩:=I.hok p _ hk;exact⟨o,e,ex⟩
    obtain⟨_,_,_,_,o,_,_,e,ex,_⟩:=I.hok p _ hk;exact⟨o,e,ex⟩
   obtain⟨o,e,ex⟩:=z;refine⟨⟨o,e,ex.1⟩,λa e2=>?_⟩;cases e2;exact⟨o,e,ex.2.1⟩
  obtain⟨o,_,_,_,e,ex,_⟩:=I.hok p _ hk;refine⟨⟨o,e,ex.1⟩,λa e2=>?_⟩;cases e2;exact⟨o,e,ex.2.1⟩
 | _=>exact C9 ty
variable {o:Expr}{t:TA}{name:Str}{T id:String}{r:V->List V->Hp->VK->Prop}
end
def MtM(X:Cx)(id:String)(r:V->List V->Hp->VK->Prop):Prop:=
 ∀(ac:List (IN×Obj)) (s:AB) (σ:St) (H:Hp) (x:V) (xs:List V) (v:Ap) (us:List Ap) (Q:VK),Inv X ac σ H s->RelV x v->Vals xs us->r x xs H Q ->
  AI (AN X.prog X.w) X.A (call (.builtin id) (v::us)) (EP X ac σ Q) X.xe s
theorem Vals.one:∀{x:V}{us:List Ap},Vals [x] us->∃u,us=[u]/\RelV x u:=λh=>by
 cases h with
 | cons r h=>
  cases h;exact⟨_,rfl,r⟩
theorem Vals.eraseIdx:∀{xs:List V}{us:List Ap}(i:Nat),Vals xs us->Vals (xs.eraseIdx i) (us.eraseIdx i)
 | _,_,_,.nil=>.nil
 | _,_,0,.cons _ t=>t
 | _,_,i+1,.cons r t=>.cons r (Vals.eraseIdx i t)
theorem Vals.reverse{xs:List V}{us:List Ap}(h:Vals xs us):Vals xs.reverse us.reverse:=by
 induction h with
 | nil=>exact .nil
 | cons r t ih=>rw[KA,KA];exact Vals.append ih (.cons r .nil)
theorem Vals.rep{xs:List V}{us:List Ap}(h:Vals xs us):∀k:Nat,Vals (Cs k xs).flatten (Cs k us).flatten
 | 0=>.nil
 | k+1=>by
  rw[GY,GY,flatten_cons,flatten_cons];exact Vals.append h (Vals.rep h k)
theorem foldl_rep(af:List Ap):∀(k:Nat)(ae:List Ap),
  List.foldl (λx1 x2=>x1++x2) ae.toArray (Cs k af.toArray)=(ae++(Cs k af).flatten).toArray
 | 0,ae=>by simp
 | k+1,ae=>by
  have e:ae.toArray++af.toArray=(ae++af).toArray:=by simp
  have e2:(ae++af)++(Cs k af).flatten=ae++(Cs (k+1) af).flatten:=by
   rw[GY,flatten_cons,F5]
  rw[<- e2,<- foldl_rep af k (ae++af),<- e,GY,List.foldl_cons]
section
variable{b:IN}{ys zs:List V}
def Inv.afN{its':List Ap}{f:Array Ap->Array Ap}(I:Inv X ac σ H s)(hH:H l=ID (.lst xs))
  (e:s.heap.get? l=ID { cls:=.type "list",data:=.seq af.toArray n })(hf:f af.toArray=its'.toArray)(hv:Vals ys its')(hz:ys.length<=AJ) :
  Inv X ac σ (upd H l (.lst ys)) { s with heap:=s.heap.update l (CC f),toks:=t' }:=by
 have q:=PySem.IsL.update e f;rw[hf] at q;refine I.write (x:=l) (e:=l) (by rw[hH];exact trivial) (.inl Z) (λb' u hb hu=>(C7 s.heap (CC f) (Co hb)).trans hu) ⟨_,q⟩ ?_;exact⟨hz,its',_,hv,q⟩
def Inv.ahb(I:Inv X ac σ H s)(hv:Vals ys af)(hz:ys.length<=AJ) :
  Inv X ac σ (upd H s.heap.objs.size (.lst ys)) { s with heap:=s.heap.push { cls:=.type "list",data:=.seq af.toArray },toks:=t' }:=
 I.laid (λ_ _ q=>AE _ q) (A3 _) ⟨hz,af,0,hv,AU _ rfl⟩
def Inv.fresh(I:Inv X ac σ H s):H s.heap.objs.size=IF:=I.hok.fresh (A3 _)
def Inv.Rv(I:Inv X ac σ H s)(hH:H l=ID (.lst xs)):xs.length<=AJ/\∃(af:List Ap)(n:Nat),Vals xs af/\xs.length=af.length/\s.heap.get? l=ID { cls:=.type "list",data:=.seq af.toArray n }:=by
 obtain⟨z,af,n,r,e⟩:=I.hok l _ hH;exact⟨z,af,n,r,r.length,e⟩
def M9(h:n<=AJ):AW.List.listTooLong n=false:=by
 unfold AW.List.listTooLong;exact decide_eq_false ω
end
def acj:V->List V->Hp->VK->Prop:=λx vs H Q=>∃l xs y,x=.ref l/\vs=[y]/\H l=ID (.lst xs)/\xs.length<AJ/\Q .non (upd H l (.lst (xs++[y])))
def Ws:MtM X "list.append" acj:=by
 intro ac s σ H x vs v us Q I rx rv h;obtain⟨l,xs,y,rfl,rfl,hH,hz,q⟩:=h;cases rx;obtain⟨u,rfl,ru⟩:=rv.one;obtain⟨z,af,n,r,hl,e⟩:=I.Rv hH;refine FR F.slot_list_append ⟨_,e,rfl⟩ L7 (Lv _ _) (PySem.list_append l af.toArray n u (by rw[A0];omega)) ⟨e,?_⟩;refine⟨.non,_,I.afN (its':=af++[u]) hH e ζ (r.append (.cons ru .nil)) ?_,rfl,q⟩;rw[AQ,BS];omega
def acf:V->List V->Hp->VK->Prop:=λx vs H Q=>∃l b xs zs,x=.ref l/\vs=[.ref b]/\H l=ID (.lst xs)/\H b=ID (.lst zs)/\xs.length+zs.length<=AJ/\Q .non (upd H l (.lst (xs++zs)))
def Wr:MtM X "list.extend" acf:=by
 intro ac s σ H x vs v us Q I rx rv h;obtain⟨l,b,xs,zs,rfl,rfl,hH,hB,hz,q⟩:=h;cases rx;obtain⟨u,rfl,ru⟩:=rv.one;cases ru;obtain⟨z,af,n,r,hl,e⟩:=I.Rv hH;obtain⟨z2,a9,n2,r2,g9,e2⟩:=I.Rv hB;have hsz:af.toArray.size+a9.toArray.size<=AJ:=by rw[A0,A0];omega
 have mI:¬(!af.toArray.isEmpty&&AW.List.listTooLong (af.toArray.size+a9.toArray.size))=true:=by
  rw[M9 hsz,Bool.and_false];exact A8
 refine FR F.slot_list_extend ⟨_,e,rfl⟩ F.entry_list_extend (F.args_list_extend_2 _ _)
  (AutoSeq1.list_extend_list_list_0 l af.toArray n b a9.toArray n2 mI (by rw[A0];omega) ω) ⟨e,e2,?_⟩
 refine⟨.non,_,I.afN (its':=af++a9) hH e ζ (r.append r2) ?_,rfl,q⟩;rw[AQ];omega
def ahz:R2:=λx y H Q=>∃l b xs zs,x=.ref l/\y=.ref b/\H l=ID (.lst xs)/\H b=ID (.lst zs)/\xs.length+zs.length<=AJ/\∀p,H p=IF->Q (.ref p) (upd H p (.lst (xs++zs)))
def afC:OpR X (EH .Add) ahz:=by
 intro ac s σ H x y v u Q I rx ry h;obtain⟨l,b,xs,zs,rfl,rfl,hH,hB,hz,q⟩:=h;cases rx;cases ry;obtain⟨z,af,n,r,hl,e⟩:=I.Rv hH;obtain⟨z2,a9,n2,r2,g9,e2⟩:=I.Rv hB;refine PySem.P.add_list e e2 ?_ (by rw[A0,A0];omega);have ea:af.toArray++a9.toArray=(af++a9).toArray:=by simp
 rw[ea];exact⟨.ref _,_,I.ahb (t':=s.toks) (r.append r2) (by rw[AQ];omega),rfl,q _ I.fresh⟩
def ahu:R2:=λx y H Q=>∃l k xs,x=.ref l/\y=.int k/\H l=ID (.lst xs)/\-(2^63)<=k/\k<2^63/\xs.length*k.toNat<=AJ /\
 ∀p,H p=IF->Q (.ref p) (upd H p (.lst (Cs k.toNat xs).flatten))
theorem len_rep{α:Type}(xs:List α)(k:Nat):(Cs k xs).flatten.length=k*xs.length:=by
 induction k with
 | zero=>simp
 | succ k ih=>rw[GY,flatten_cons,AQ,ih,Nat.succ_mul,add_comm]
theorem afz:OpR X (EH .Mult) ahu:=by
 intro ac s σ H x y v u Q I rx ry h;obtain⟨l,k,xs,rfl,rfl,hH,h1,h2,hz,q⟩:=h;cases rx;obtain⟨t,rfl⟩:=ry;obtain⟨z,af,n,r,hl,e⟩:=I.Rv hH;have ar:af.toArray.size*k.toNat<=AJ:=by rw[A0,<- hl];exact hz
 have wx:¬af.toArray.size*k.toNat>(2^63-1)/8:=by
  have:(AJ:Nat)<=(2^63-1)/8:=by decide
  omega
 have VY:¬(!Builtin.List.listFitsIndex k)=true:=by
  rw[fitsIndex_both h1 h2];exact A8
 have mI:¬AW.List.listTooLong (af.toArray.size*k.toNat)=true:=by
  rw[M9 ar];exact A8
 have VA:List.foldl (λx1 x2=>x1++x2) #[] (Cs (if af.toArray.isEmpty=true then 0 else k.toNat) af.toArray)=(Cs k.toNat af).flatten.toArray:=by
  have f0:∀m:Nat,List.foldl (λx1 x2=>x1++x2) #[] (Cs m af.toArray)=(Cs m af).flatten.toArray:=λm=>by
   have:=foldl_rep af m [];rw[nil_append] at this;exact this
  rw[f0];cases af with
  | nil=>simp
  | cons a r'=>rw[if_neg ζ]
 refine wpAny_binaryOp_repeat_ref (T := "list") (U := "int") δ ⟨_,e,rfl⟩ (λs'=>typeIs_int s' k t) noFill_list_mul F.fills_int_mul F.slot_int_rmul repeat_list F.slot_int_index.lookup
  (FR F.slot_int_rmul (typeIs_int s k t) F.entry_int_rmul (F.args_int_rmul_2 _ _) (int___rmul___int_list k t l af.toArray n)
   ⟨e,rfl,⟨_,e,rfl⟩,FR F.slot_list_mul ⟨_,e,rfl⟩ F.entry_list_mul (F.args_list_mul_2 _ _) (AutoListH.list___mul___list_int_3 l af.toArray n k t VY wx mI) ⟨e,?_⟩⟩)
 rw[VA];exact⟨.ref _,_,I.ahb (t':=s.toks) (r.rep k.toNat) (by rw[len_rep,Nat.mul_comm];exact hz),rfl,q _ I.fresh⟩
end L2
namespace Att
open PySem PySem.W PySem.Calls PyProof.Rows
theorem Am{P:Params}{h:Heap}:∀(ns:List Int)(vs:List Ap),WellAll P h vs (ns.map WData.int)->E7 vs ns:=by
 intro ns
 induction ns with
 | nil=>
  intro vs w;rw[map_nil] at w;cases w;exact .nil
 | cons n ns ih=>
  intro vs w;rw[DE] at w;cases w with
  | cons a b=>
   cases a;exact .cons _ _ (ih _ b)
theorem VG{l:OpenLaw}{n:Nat}(hn:l.most=ID n){P:Params}{h:Heap}{args:List WData}{ub:List Ap}
  (rc:l.row.toRowW.claim.pre args=true)(ee:WellAll P h ub args) :
  ∃a vs ns,ub=[EQ a]/\args=[WData.list (ns.map WData.int)]/\h.get? a=ID { cls:=.type "list",data:=.seq vs.toArray }/\E7 vs ns/\ns.length<=n:=by
 have hsh:WShape.hasAll [] args [.list .int]=true:=(pre_splitW rc).1;have hc:l.pre.holds [] { args:=args }=true:=(pre_splitW rc).2;obtain⟨d,r,rfl,h1,h2⟩:=hasAllW_cons hsh;obtain rfl:=hasAllW_nil h2;obtain⟨xs,rfl,h3⟩:=hasW_list h1;obtain⟨ns,rfl⟩:=items_int h3;have ar:ns.length<=n:=by
  unfold OpenLaw.pre at hc;have h4:(WTm.not (.lt (.lit (.int (n:Int))) (.len (.arg 0)))).holds [] { args:=[.list (ns.map .int)] }=true:=by
   have h4:=(holds_andW hc).1;rw[hn] at h4;exact h4
  have h5:=condW_of h4 (w_not (w_lt w_lit (w_len_list (w_arg Z))));rw[AG] at h5;refine Nat.le_of_not_lt λq=>?_;have q':(n:Int)<((ns.length:Nat):Int):=ω
  first
   | (rw[decide_eq_true q'] at h5;exact absurd h5 δ)
   | (simp at h5;omega)
 cases ee with
 | cons w1 w2=>
  cases w2;cases w1 with
  | list ho bP=>exact⟨_,_,ns,rfl,rfl,ho,Am ns _ bP,ar⟩
def V4(l:OpenLaw)(args:List WData):l.row.toRowW.claim.post args (.bool true) args=true:=
 postW_of (r:=l.row.toRowW) (X:=(true == true))
  (show WShape.has [] (.bool true) .bool=true by first|rfl|decide|simp[WShape.has,WShape.arms,WShape.armsAll])
  (show(WTm.eq .res (.lit (.bool true))).value [] { args:=args,res:=ID (.bool true),after:=args }=ID (.bool (true == true)) from w_eq_bool (w_res Z) w_lit) rfl
def Pk{l:OpenLaw}{q:AO}{d:DefRec}
  (hn:l.most=ID n)(OE:d.params.defaults=[])
   (call:∀(w:Bi)(s₀ s₁:AB)(mg mb:Str->Option Ap)(fa:IN)(o:Obj)(pm cd di:Ap)(a:IN)(vs:List Ap)(ns:List Int),
   Ground q h8 [] XP w s₀ mg mb s₁.heap->YP w s₁.heap ->
   s₁.heap.get? fa=ID o->o.data=.func (docDef d.name d.params d.body d.scope pm cd di)->s₁.heap.CodeRec cd d.name->mg d.name=ID (.ref fa) ->
   s₁.heap.get? a=ID { cls:=.type "list",data:=.seq vs.toArray }->E7 vs ns->ns.length<=n->s₁.gens=#[] ->
   D5 (AN l.prog w) callerA (.call (.ref fa) ⟨[.ref a],[]⟩) (λr s'=>r=.ok (.ret (.bool true))/\OldK s₁.heap s'.heap/\s'.os=s₁.os/\IL s'.gens) s₁) :
  WalkO q h8 XP YP l.row.toRowW d [] (λf vs=>PySem.call f vs):=by
 intro w s₀ s₁ mg mb G Y fa o pm cd di dV kV ho hd hcd hD hmg hg args ub as rc hlay hrd ee VO;obtain rfl:dV=.none:=Dflts.none hD OE;obtain rfl:kV=.none:=Dflts.noKw hD;obtain⟨a,vs,ns,rfl,rfl,wf,mP,ar⟩:=VG hn rc ee;refine enter_call (EW (call w s₀ s₁ mg mb fa o pm cd di a vs ns G Y ho (fd_plain hd) hcd hmg wf mP ar hg) λr s' hq=>?_);obtain⟨rfl,h2,h3,h4⟩:=hq;exact⟨.inl ⟨.bool true,.bool true,[],rfl,λ_=>rfl,.bool true,V4 l _,λ_=>⟨IQ,λ_ hm=>(nomatch hm)⟩⟩,h2,h3,h4⟩
end Att
namespace L2
open PySem PySem.Spec PyProof.Rows
theorem G3:∀{vs:List Ap}{ns:List Int},E7 vs ns->Vals (ns.map At) vs
 | _,_,.nil=>.nil
 | _,_,.cons n t h=>.cons ⟨t,rfl⟩ (G3 h)
def fJ(s:Stmt):GO:=match s with
 | .FunctionDef _ a _ _ _ _ _ _ _ _=>a
 | _=>{ posonlyargs:=[],args:=[],vararg:=IF,kwonlyargs:=[],kw_defaults:=[],kwarg:=IF,defaults:=[] }
def cZ(s:Stmt):List Stmt:=match s with
 | .FunctionDef _ _ b _ _ _ _ _ _ _=>b
 | _=>[]
def aj(s:Stmt):C8:=match s with
 | .FunctionDef _ _ _ _ _ _ sc _ _ _=>sc
 | _=>{ kind:=.function,names:=[],isGenerator:=false,isCoroutine:=false }
abbrev CX0:CXT:=λ_ _ _ _ _ _=>False
abbrev E0:XK:=λ_ _ _=>False
def Uk:Ft CX0 X E0:=λ_ _ _ _ _ _ _ h=>h.elim
structure Fun(K:AA)(x qual:Str)(st:Stmt)(f:IN)(fd:CU):Prop where
 ex:∃(oc:Ap)(od:Option IN)(kV di pm:Ap)(an:Option IN)(aw ct:Ap)(kH:Array (Option Ap)),
  fd=fnOf x qual (fJ st) (cZ st) (aj st) .none kV di pm an aw ct/\K.lookup f=ID ⟨oc,od,.func fd,kH⟩/\codeIn K aw qual=true
 kp:keepIn K (.ref f)=true
def Fun.ok{x:Str}{st:Stmt}{N:List Str}{k:Nat}(F:Fun K x qual st f fd)(S:bw N ps (aj st))(len:∀vs H Q E,sp vs H Q E->vs.length=ps.length)
   (dE:∀(aw:Ap)(A:Bz)(outer:List Env)(s:AB)(H:Hp)(vs:List V)(Q:VK)(E:XK),gw k (A.deeper (F9 qual (aj st) s.heap.objs.size f aw))->sp vs H Q E ->
   ∃t,PSs (KN CX0 P w K mg base N qual (aj st) f aw A outer s H E).nox (cZ st) t/\t { nx:=λ_ H'=>Q .non H',rt:=Q } (start N vs) H):c7 P w K mg base CX0 (k+1) f fd ps sp:=by
 obtain⟨oc,od,kV,di,pm,an,aw,ct,kH,rfl,lk,hcd⟩:=F.ex;refine aep lk hcd S len λA outer s H vs Q E hr kL=>?_;obtain⟨t,h,q⟩:=dE aw A outer s H vs Q E hr kL;exact⟨t,h.nox,q⟩
def Fun.binds{x:Str}{st:Stmt}(F:Fun K x qual st f fd)
  (h:∀(kV di pm:Ap)(an:Option IN)(aw ct:Ap)(us:List Ap),us.length=ps.length->JO (fnOf x qual (fJ st) (cZ st) (aj st) .none kV di pm an aw ct) ⟨us,[]⟩=pure (ps.zip us)):Binds K fd ps []:=by
 obtain⟨oc,od,kV,di,pm,an,aw,ct,kH,rfl,lk,hcd⟩:=F.ex;exact .all (h kV di pm an aw ct)
def aaS{x:Str}{st:Stmt}{kV di aw:Ap}(l:K.lookup f=ID ⟨oc,od,.func (fnOf x qual (fJ st) (cZ st) (aj st) .none kV di pm an aw ct),kH⟩)
  (c:codeIn K aw qual=true)(k:keepIn K (.ref f)=true):Fun K x qual st f (fnOf x qual (fJ st) (cZ st) (aj st) .none kV di pm an aw ct):=⟨⟨oc,od,kV,di,pm,an,aw,ct,kH,rfl,l,c⟩,k⟩
def Same(H H':Hp):Prop:=∀b o,H b=ID o->H' b=ID o
def Same.refl(H:Hp):Same H H:=λ_ _ h=>h
def Same.trans(a:Same H H1)(b:Same H1 H2):Same H H2:=λc o h=>b c o (a c o h)
end L2
set_option maxHeartbeats 4000000
namespace L2
open PySem PySem.Spec PyProof.Rows
theorem EY{env:Env}:∀(names:List (Str×BQ)) (ae:List (Str×IN)),
  (∀y∈names,y.2=.free->∃c,env.cells.lookup y.1=ID c)->(∀x c,ae.lookup x=ID c->env.cells.lookup x=ID c) ->
  ∃cl,(forIn names ae λ(y:Str×BQ)(r:List (Str×IN))=>(match y with
   | (name,kind)=>if (kind == .free)=true then (do let a <- LA env name;pure (De ((name,a)::r))) else pure (De r):Sem (ForInStep (List (Str×IN)))))=pure cl /\
   (∀x c,cl.lookup x=ID c->env.cells.lookup x=ID c)/\(∀y∈names,y.2=.free->∃c,cl.lookup y.1=ID c)/\(∀x c,ae.lookup x=ID c->∃c',cl.lookup x=ID c')
 | [],ae,_,ha=>⟨ae,rfl,ha,λ_ h=>(nomatch h),λx c h=>⟨c,h⟩⟩
 | (n,k)::r,ae,hf,ha=>by
  have hf':∀y∈r,y.2=.free->∃c,env.cells.lookup y.1=ID c:=λy hy=>hf y (A9 _ hy);by_cases hk:k=.free
  ·subst hk;obtain⟨c0,e0⟩:=hf (n,.free) A5 rfl;have OH:LA env n=pure c0:=by unfold LA;rw[e0]
   have QY:∀x c,((n,c0)::ae).lookup x=ID c->env.cells.lookup x=ID c:=λx c h=>by
    rw[DZ] at h;cases hx:x == n with
    | true=>
     rw[hx] at h;have e1:x=n:=by simpa using hx
     rw[e1,e0];exact h
    | false=>
     rw[hx] at h;exact ha x c h
   obtain⟨cl,e,h1,h2,h3⟩:=EY r ((n,c0)::ae) hf' QY;refine⟨cl,?_,h1,λy hy hz=>?_,λx c h=>?_⟩
   ·rw[E4];simp only[beq_self_eq_true,if_true,OH];exact e
   ·rcases AX.mp hy with q|q
    ·subst q;exact h3 n c0 ζ
    exact h2 y q hz
   cases hx:x == n with
   | true=>exact h3 x c0 (by rw[DZ,hx])
   | false=>exact h3 x c (by rw[DZ,hx];exact h)
  have hb:(k == BQ.free)=false:=by simpa using hk
  obtain⟨cl,e,h1,h2,h3⟩:=EY r ae hf' ha;refine⟨cl,?_,h1,λy hy hz=>?_,h3⟩
  ·rw[E4];simp only[hb,Me,if_false];exact e
  rcases AX.mp hy with q|q
  ·subst q;exact absurd hz hk
  exact h2 y q hz
theorem ad3{env:Env}{scope:C8}(hf:∀y∈scope.names,y.2=.free->∃c,env.cells.lookup y.1=ID c) :
  ∃cl,FS scope env=pure cl/\(∀x c,cl.lookup x=ID c->env.cells.lookup x=ID c)/\(∀y∈scope.names,y.2=.free->∃c,cl.lookup y.1=ID c):=by
 obtain⟨cl,e,h1,h2,_⟩:=EY (env:=env) scope.names [] hf (λx c h=>by simp at h);refine⟨cl,?_,h1,h2⟩;unfold FS;show(forIn scope.names [] _ >>= λr=>pure r)=_;rw[show(forIn scope.names ([]:List (Str×IN)) λ(y:Str×BQ)(r:List (Str×IN))=>(match y with
   | (name,kind)=>if (kind == .free)=true then (do let a <- LA env name;pure (De ((name,a)::r))) else pure (De r):Sem (ForInStep (List (Str×IN)))))=pure cl from e]
 rfl
section
variable{R:Result->AB->Prop}
theorem W9{aS tg iter:Expr}{br:List Expr}{scope:C8}{pos:Pos}{it ae:Ap}{env:Env}(J:Nat->AB->Prop)
   (bE:∀n s,J n s->AI (AN prog w) A (EJ it) (λr s1=>match r with
   | none=>R (.ok .next) s1
   | some v=>AI (AN prog w) A (DM tg it v) (λ_ gc=>AI (AN prog w) A (E3 tg env v) (λ_ s2=>
     AI (AN prog w) A (forIn br true λc r=>if r=true then do let ok <- isTrue c env (eval c env);pure (De ok) else pure (De r)) (λok s3=>
      if ok=true then AI (AN prog w) A (eval aS env) (λx s4=>
       AI (AN prog w) A (call (.builtin "list.append") [ae,x]) (λ_ s5=>∃m,m<n/\J m s5) (EK (AN prog w) A env λe z=>R (.error e) z) s4) (EK (AN prog w) A env λe z=>R (.error e) z) s3
      else ∃m,m<n/\J m s3) (EK (AN prog w) A env λe z=>R (.error e) z) s2) (EK (AN prog w) A env λe z=>R (.error e) z) gc) (EK (AN prog w) A env λe z=>R (.error e) z) s1) (EK (AN prog w) A env λe z=>R (.error e) z) s)
  (n:Nat) (h:J n s):D5 (AN prog w) A (.compLoop (.ListComp aS [⟨tg,iter,br,0⟩] scope pos) 0 it ae env) R s:=by
 refine KB Z J (λn z hJ=>?_) n h;show AI _ A ((JP (.ListComp aS [⟨tg,iter,br,0⟩] scope pos) 0 it ae env).onRaise (λy=>do JU y env;HV y)) _ _ z;refine LB ?_;rw[compTurn_list];refine An (C4 (An (BD (bE n z hJ) (λr s1 h1=>?_) λ_ _ q=>q)));cases r with
 | none=>exact Au h1
 | some v=>
  refine An (BD h1 (λ_ gc jp=>?_) λ_ _ q=>q);refine An (BD jp (λ_ s2 h2=>An (BD h2 (λok s3 h3=>?_) λ_ _ q=>q)) λ_ _ q=>q);cases ok with
  | false=>exact Au ⟨rfl,h3⟩
  | true=>
   exact An (An (BD h3 (λx s4 h4=>An (BD h4 (λ_ s5 h5=>Au (Au ⟨rfl,h5⟩)) λ_ _ q=>q)) λ_ _ q=>q))
end
def fO(mp:List (Option Nat))(σ:St):St:=mp.map λo=>match o with
 | some j=>(σ[j]?).join
 | none=>IF
def bH(X:Cx)(N:List Str)(scope:C8)(cl:List (Str×IN))(C:IN)(s:AB)(H:Hp)(fp:List IN):Cx:=
 { X with N:=N,s₀:=s,H₀:=H,env:=Fa scope cl C X.env,outer:=X.stack,stack:=X.stack,ex:=fp,fn:=λ_=>false,pn:=[],xe:=λ_ _=>False }
def uV(NX:List Str)(names:List (Str×BQ)):List Str->List (Option Nat)->Bool
 | [],[]=>true
 | x::r,o::q=>(match o with
   | none=>names.lookup x == ID .local
   | some j=>NX[j]? == ID x&&names.lookup x == ID .free)&&uV NX names r q
 | _,_=>false
theorem Ih{NX:List Str}{names:List (Str×BQ)}:∀{N:List Str}{mp:List (Option Nat)}{i j:Nat}{x:Str},uV NX names N mp=true->N[i]?=ID x->mp[i]?=ID (ID j)->NX[j]?=ID x/\names.lookup x=ID .free
 | [],_,i,_,_,_,h,_=>by simp at h
 | _::_,[],_,_,_,h,_,_=>by simp[uV] at h
 | y::r,o::q,0,j,x,h,h1,h2=>by
  simp at h1 h2;subst h1 h2;unfold uV at h;simp only[CL,beq_iff_eq] at h;exact h.1
 | y::r,o::q,i+1,j,x,h,h1,h2=>by
  unfold uV at h;rw[CL] at h;exact Ih (i:=i) h.2 (by simpa using h1) (by simpa using h2)
theorem Ig{NX:List Str}{names:List (Str×BQ)}:∀{N:List Str}{mp:List (Option Nat)},uV NX names N mp=true->mp.length=N.length
 | [],[],_=>rfl
 | [],_::_,h=>by simp[uV] at h
 | _::_,[],h=>by simp[uV] at h
 | _::r,_::q,h=>by
  unfold uV at h;rw[CL] at h;simp[Ig h.2]
structure Fy(NX:List Str)(kX:List (Str×BQ))(N:List Str)(mp:List (Option Nat))(scope:C8):Prop where
 kind:scope.kind=.function
 nocell:∀y∈scope.names,y.2≠.cell
 locs:∀y∈scope.names,y.2=.local->scope.names.lookup y.1=ID .local
 fre:∀y∈scope.names,y.2=.free->kX.lookup y.1=ID .cell\/kX.lookup y.1=ID .free
 map:uV NX scope.names N mp=true
def PTs(X:Cx)(cs:List Expr)(t:TT):Prop:=
 ∀(ac:List (IN×Obj)) (s:AB) (σ:St) (H:Hp) (Q:Bool->Hp->Prop),Inv X ac σ H s->t σ H Q ->
  AI (AN X.prog X.w) X.A (forIn cs true λc r=>if r=true then do let ok <- isTrue c X.env (eval c X.env);pure (De ok) else pure (De r)) (TP X ac σ Q) X.xe s
def Vy:TT:=λ_ H Q=>Q true H
def Lx(mp:List (Option Nat))(wi:TI)(g:TG)(tc:TT)(te:TE):TE:=λσ H Q=>wi σ H λJ H1=>
 ∃W:Nat->Nat->List V->St->Hp->Prop,(∃m,W 0 m [] (fO mp σ) H1)/\∀i m ae τ H2,W i m ae τ H2 ->
  (J.stop i H2/\∀d,H2 d=IF->Q (.ref d) (upd H2 d (.lst ae))) \/
  (J.go i H2/\ae.length<AJ/\∃N:List V->St->Hp->Prop,(∀ah τ' H',N ah τ' H'->∃m',m'<m/\W (i+1) m' ah τ' H')/\∀x H3,J.yld i H2 x H3->g x τ H3 λτ1 H4=>tc τ1 H4 λb H5=>
   if b=true then te τ1 H5 λv H6=>N (ae++[v]) τ1 H6 else N ae τ1 H5)
theorem eU{env:Env}:∀{names:List (Str×BQ)}{x:Str}{k:BQ},(names.map λ(n,k)=>if (k == BQ.free&&env.scope.kind == .function&&env.kindOf n == ID .cell) then (n,BQ.cell) else (n,k)).lookup x=ID k ->
  names.lookup x=ID k\/(k=.cell/\names.lookup x=ID .free)
 | [],_,_,h=>by simp at h
 | (n,k0)::r,x,k,h=>by
  have ih:=@eU env r x k;rw[DE] at h;by_cases hc:(k0 == BQ.free&&env.scope.kind == .function&&env.kindOf n == ID .cell)=true
  ·simp only[hc,if_true] at h;cases hx:x == n with
   | true=>
    rw[DZ,hx] at h;have hk:k0=.free:=by
     rw[CL,CL] at hc;simpa using hc.1.1
    right;refine⟨(A7 h).symm,?_⟩;rw[DZ,hx,hk]
   | false=>
    rw[DZ,hx] at h;rw[DZ,hx];exact ih h
  simp only[hc,if_false] at h;cases hx:x == n with
  | true=>
   rw[if_neg ζ,DZ,hx] at h;rw[DZ,hx];exact .inl h
  | false=>
   rw[if_neg ζ,DZ,hx] at h;rw[DZ,hx];exact ih h
def na0{D E:Nat}(h:b<E)(hD:E=D):b≠D:=by omega
def na1{D E C:Nat}(h:b<E)(hD:E=D)(hC:C=D+1):b≠C:=by omega
def na2{C D:Nat}(hC:C=D+1):D≠C:=by omega
def na3{C D E:Nat}(hD:E=D)(hC:C=D+1):E<=C:=by omega
def na4{D E:Nat}(hD:E=D):E<=D:=by omega
section
variable{N:List Str}
def K3(cn:X.env.scope.names=kX)(S:Fy NX kX N mp scope)(I:Inv X ac σ H s)(kq:∀b∈fp,mY X ac H b)(a8:∀b∈fp,b<s.heap.objs.size)(hC:s.heap.objs.size<=C)
  (aT:∀x c,cl.lookup x=ID c->X.env.cells.lookup x=ID c)(dv:∀y∈scope.names,y.2=.free->∃c,cl.lookup y.1=ID c):(bH X N scope cl C s H fp).Ok where
 mod:=I.ok.mod
 kind:=S.kind
 glob:=I.ok.glob
 blt:=I.ok.blt
 above:=hC
 inj:=λx y c h1 h2=>I.ok.inj x y c (aT x c h1) (aT y c h2)
 has:=λx h=>by
  have key:scope.names.lookup x=ID .free:=by
   rcases h with h|h
   ·rcases eU (env:=X.env) (names:=scope.names) h with q|⟨_,q⟩
    ·exact absurd Z (S.nocell _ (BC q))
    exact q
   rcases eU (env:=X.env) (names:=scope.names) h with q|⟨q,_⟩
   ·exact q
   cases q
  exact dv _ (BC key) rfl
 cab:=λx c h=>by cases h
 hd:=I.ok.hd
 frames:=I.ok.frames
 stk:=.inl rfl
 exf:=λb hb=>⟨BO (BA (a8 b hb) hC),λx c e=>(kq b hb).2.2.2.2.1 x c (aT x c e)⟩
 bs:=I.bs
 bsz:=BU I.ok.bsz I.sz
 noex:=λb o e hb=>by
  rcases(kq b hb).2.2.2.1 with q|q
  ·exact I.ok.noex b o e q
  exact absurd (BA (BA (A6 e) I.ok.bsz) q) (ED _)
 exfs:=λb hb hz=>by
  obtain⟨_,h1,h2,_⟩:=kq b hb;rcases AX.mp (I.oN b hz) with q|q
  ·exact h1 q
  exact h2 q
 sY:=I.stack
 frf:=I.Jq
theorem K4(gT:X.N=NX)(cn:X.env.scope.names=kX)(S:Fy NX kX N mp scope)(I:Inv X ac σ H s)(kq:∀b∈fp,mY X ac H b)(a8:∀b∈fp,b<s.heap.objs.size)(hC:s.heap.objs.size<=C)
  (aT:∀x c,cl.lookup x=ID c->X.env.cells.lookup x=ID c)(dv:∀y∈scope.names,y.2=.free->∃c,cl.lookup y.1=ID c)
  (ho:s'.os=s.os)(hg:s'.gens=s.gens)(hn:∃m,s'.heap.Ns C m)(hk:∀b o,s.heap.get? b=ID o->s'.heap.get? b=ID o){pl:List (IN×Obj)}
  (hp:∀p∈pl,s'.heap.get? p.1=ID p.2/\H p.1=IF/\p.1≠C/\p.1∉frs X.stack/\∀v,p.2.data≠.cell v) :
  Inv (bH X N scope cl C s H fp) pl (fO mp σ) H s' where
 ok:=K3 cn S I kq a8 hC aT dv
 os:=ho
 bare:=by rw[hg];exact I.bare
 base:=Un.kept hk
 loc:=by
  obtain⟨m,hm⟩:=hn;refine⟨m,hm,λi x v h1 h2 h3=>?_⟩;have il:(mp.map λo=>match o with|some j=>(σ[j]?).join|none=>IF)[i]?=ID (ID v):=h2
  rw[AM] at il;cases e:mp[i]? with
  | none=>rw[e] at il;cases il
  | some o=>
   rw[e] at il;cases o with
   | none=>cases il
   | some j=>
    have h4:(σ[j]?).join=ID v:=by simpa using il
    have h5:σ[j]?=ID (ID v):=by
     cases q:σ[j]? with
     | none=>rw[q] at h4;cases h4
     | some z=>rw[q] at h4;rw[show z=ID v from h4]
    obtain⟨g1,g2⟩:=Ih S.map h1 e;have fk:=S.fre _ (BC g2) rfl;obtain⟨m0,_,hl⟩:=I.loc;have zS:Vis X.env.scope x:=by
     rcases fk with q|q
     ·exact .inr (.inl (by rw[cn];exact q))
     exact .inr (.inr (by rw[cn];exact q))
    obtain⟨u,r,l⟩:=hl j x v (by rw[gT];exact g1) h5 zS;refine⟨u,r,.inr ?_⟩;have l':∃c,X.env.cells.lookup x=ID c/\s.heap.IsCell c (ID u):=by
     rcases l with⟨q,_⟩|⟨_,q⟩
     ·have q':X.env.scope.names.lookup x=ID .local:=q;rw[cn] at q';rcases fk with z|z
      ·rw[q'] at z;cases z
      rw[q'] at z;cases z
     exact q
    obtain⟨c,hc,oc,ym,hd⟩:=l';obtain⟨c',i7⟩:=dv _ (BC g2) rfl;have ec:c'=c:=by
     have:=aT x c' i7;rw[hc] at this;exact(A7 this).symm
    subst ec;refine⟨?_,c',i7,oc,hk _ _ ym,hd⟩;rcases h3 with q|q|q
    ·rcases eU (env:=X.env) (names:=scope.names) q with z|⟨z,_⟩
     ·rw[g2] at z;cases z
     cases z
    ·exact .inl q
    exact .inr q
 cell:=λx c e=>by
  obtain⟨v,o,h1,h2⟩:=I.cell x c (aT x c e);exact⟨v,o,hk _ _ h1,h2⟩
 free:=I.hok.fresh hC
 freeC:=λx c e=>I.freeC x c (aT x c e)
 pin:=λp hpp=>hp p (by simpa [bH] using hpp)
 hok:=I.hok.kept hk
 len:=by
  show(mp.map _).length=N.length;rw[AG];exact Ig S.map
end
def Inv.S9(I:Inv X ac σ H s)(hf:∀b∈ch,mY X ac H b)(k:∀b o,b∉ch->s.heap.get? b=ID o->h'.get? b=ID o):Inv X ac σ H { s with heap:=h',toks:=t' }:=by
 have so:∀b u,H b=ID u->b∉ch:=λb u e z=>by rw[(hf b z).1] at e;cases e
 refine I.step (g':=s.gens) (d':=s.drawn) (ch:=ch) (λb hb=>?_) (λb o _ _ hc e _=>k b o hc e) (λb o _ _ hc e _=>⟨o.slots,k b o hc e⟩) (λ_ _ _ _ n=>n)
  (λb o hc e=>⟨o,k b o hc e⟩) (λ_ _ e=>e) (λ_ _ _ e=>e) (λb ps e=>⟨#[],by rw[e];simp⟩) (λm hm=>?_) (λb u e=>?_) I.bare
 ·obtain⟨_,a2,_,a4,a5,a6⟩:=hf b hb;exact⟨a4,a2,a5,a6⟩
 ·obtain⟨o,es,ep,ho,r⟩:=hm;exact⟨o,es,ep,k _ o (λz=>(hf _ z).2.1 Z) ho,r⟩
 refine(I.hok b u e).stay (λc v hc q=>k c v ?_ q) (λ_ q=>q) λ_ _ q=>q;rcases hc with z|z
 ·rw[z];exact so b u e
 exact so c _ z
def Inv.S8(I:Inv X ac σ H s)(hf:∀b∈ch,mY X ac H b)(k:∀b o,b∉ch->s.heap.get? b=ID o->h'.get? b=ID o)(hp:s.heap.objs.size<=p)
  (new:bW X.prog X.w (upd H p o) h' p o):Inv X ac σ (upd H p o) { s with heap:=h',toks:=t' }:=by
 have hn:H p=IF:=I.hok.fresh hp;have so:∀b u,H b=ID u->b∉ch:=λb u e z=>by rw[(hf b z).1] at e;cases e
 have lt:∀b u,s.heap.get? b=ID u->b≠p:=λb u e=>BO (BA (A6 e) hp);refine I.step (g':=s.gens) (d':=s.drawn) (ch:=ch) (λb hb=>?_) (λb o _ _ hc e _=>k b o hc e) (λb o _ _ hc e _=>⟨o.slots,k b o hc e⟩) (λb o _ e n=>by rw[aO (lt b o e)];exact n)
  (λb o hc e=>⟨o,k b o hc e⟩) (λb xs e=>by rw[aO (aH e hn)];exact e) (λb u xs e=>by rw[aO (aH e hn)];exact e) (λb ps e=>⟨#[],by rw[aO (aH e hn),e];simp⟩) (λm hm=>?_) (λb u e=>?_) I.bare
 ·obtain⟨_,a2,_,a4,a5,a6⟩:=hf b hb;exact⟨a4,a2,a5,a6⟩
 ·obtain⟨o,es,ep,ho,r⟩:=hm;exact⟨o,es,ep,k _ o (λz=>(hf _ z).2.1 Z) ho,r⟩
 by_cases hb:b=p
 ·subst hb;rw[aB] at e;cases e;exact new
 rw[aO hb] at e;refine(I.hok b u e).stay (λc v hc q=>k c v ?_ q) (λc q=>by rw[aO (aH q hn)];exact q) λc xs q=>by rw[aO (aH q hn)];exact q
 rcases hc with z|z
 ·rw[z];exact so b u e
 exact so c _ z
def Itz(K:AA)(a b:IN):It:=
 ⟨λi H=>∃xs ys x y,SqL K H a xs/\SqL K H b ys/\xs[i]?=ID x/\ys[i]?=ID y,
  λi H v H'=>∃p x y,v=.ref p/\H p=IF/\H'=upd H p (.tup [x,y])/\(∀xs,SqL K H a xs->xs[i]?=ID x)/\∀ys,SqL K H b ys->ys[i]?=ID y,
  λi H=>∃xs ys,SqL K H a xs/\SqL K H b ys/\(xs[i]?=IF\/ys[i]?=IF)⟩
def XS{z TI TO:IN}(D:JY z TI TO i1 i2 l1 l2) :
  Turn P w K (.Tuple es kk dQ) (Itz K l1 l2) [z,TI,TO,i1,i2] z (λi h=>IsZip h z TI TO .none/\ES h TI (.ref i1) (.ref i2)/\(∃a b,ES h TO a b)/\h.IsListIter i1 l1 i/\h.IsListIter i2 l2 i) where
 mem:=by simp
 obj:=λi h st b hb=>by
  obtain⟨hz,eu,⟨a,b',eR⟩,⟨o1,e1,c1,d1⟩,⟨o2,e2,c2,d2⟩⟩:=st;simp only[AX,BB,or_false] at hb;rcases hb with rfl|rfl|rfl|rfl|rfl
  ·exact⟨_,hz,λv q=>by cases q⟩
  ·exact⟨_,eu,λv q=>by cases q⟩
  ·exact⟨_,eR,λv q=>by cases q⟩
  ·exact⟨o1,e1,λv q=>by rw[d1] at q;cases q⟩
  exact⟨o2,e2,λv q=>by rw[d2] at q;cases q⟩
 keep:=λi h h' st k=>by
  obtain⟨hz,eu,⟨a,b',eR⟩,h1,h2⟩:=st;exact⟨k z ζ _ hz,k TI ζ _ eu,⟨a,b',k TO ζ _ eR⟩,h1.at λo e=>k i1 ζ o e,h2.at λo e=>k i2 ζ o e⟩
 item:=by
  intro X hP hw hK hc i ac s σ H E I hf st hg;subst hP hw hK;obtain⟨xs,ys,x,y,q1,q2,hx,hy⟩:=hg;obtain⟨bg,ge,p1,eW⟩:=I.list q1;obtain⟨a9,oy,p2,dC⟩:=I.list q2;obtain⟨u1,oI,pV⟩:=ge.get hx;obtain⟨u2,NB,M2⟩:=oy.get hy;obtain⟨hz,eu,⟨a,b',eR⟩,h1,h2⟩:=st;refine wpAny_pyNext_zip_item D hz eu eR h1 h2 p1.isList p2.isList (x:=u1) (y:=u2) (by simpa using oI) (by simpa using NB) λh' a1 a2 a3 a4 a5 a6 hk=>?_;have new:bW X.prog X.w (upd H s.heap.objs.size (.tup [x,y])) h' s.heap.objs.size (.tup [x,y]):=⟨by show 2<=AJ;decide,[u1,u2],.cons pV (.cons M2 .nil),_,a5,rfl,_,rfl⟩;have I1:Inv X ac σ (upd H s.heap.objs.size (.tup [x,y])) { s with heap:=h' }:=I.S8 (t':=s.toks) (ch:=[z,TO,i1,i2]) (λb hb=>hf b (by
   simp only[AX,BB,or_false] at hb |-;rcases hb with r|r|r|r <;> simp[r]))
   (λb o hb e=>hk b o (λq=>hb (by simp[q])) (λq=>hb (by simp[q])) (λq=>hb (by simp[q])) (λq=>hb (by simp[q])) e) (A3 _) new
  have w4:ES h' TI (.ref i1) (.ref i2):=hk _ _ D.TIz D.TITO D.TIi1 D.TIi2 eu;have hsz:∀b,b∈[z,TI,TO,i1,i2]->b≠s.heap.objs.size:=λb hb=>by
   obtain⟨_,_,aI,_⟩:=hf b hb;have lt:∃o,s.heap.get? b=ID o:=by
    simp only[AX,BB,or_false] at hb;rcases hb with rfl|rfl|rfl|rfl|rfl
    ·exact⟨_,hz⟩
    ·exact⟨_,eu⟩
    ·exact⟨_,eR⟩
    ·obtain⟨o,e,_⟩:=h1;exact⟨o,e⟩
    obtain⟨o,e,_⟩:=h2;exact⟨o,e⟩
   obtain⟨o,e⟩:=lt;exact BO (A6 e)
  refine⟨_,rfl,wpAny_letOwnedTupleGo_zip (s:={ s with heap:=h' }) a1 λph z2 sb=>?_⟩;have fz:=hf z ζ;have I2:Inv X ac σ (upd H s.heap.objs.size (.tup [x,y])) { s with heap:=ph }:=Inv.turned (s:={ s with heap:=h' }) (it:=z) (t':=s.toks) I1 (λb o hb e=>(sb.2 b hb).trans e) (by rw[aO (hsz z ζ)];exact fz.1) fz.2.1 fz.2.2.2.1 fz.2.2.2.2.1 fz.2.2.2.2.2;refine⟨.ref s.heap.objs.size,_,I2,rfl,⟨_,x,y,rfl,I.fresh,rfl,λSb q=>by rw[I.rZ q q1];exact hx,λys' q=>by rw[I.rZ q q2];exact hy⟩,
   ⟨z2,(sb.2 _ D.TIz).trans w4,⟨_,_,(sb.2 _ D.TOz).trans a2⟩,a3.extBut sb.extBut D.i1z,a4.extBut sb.extBut D.i2z⟩,λb hb=>by rw[aO (hsz b hb)];exact(hf b hb).1⟩
 done:=by
  intro X hP hw hK hc i ac s σ H E I hf st hg;subst hP hw hK;obtain⟨xs,ys,q1,q2,hx⟩:=hg;obtain⟨bg,ge,p1,eW⟩:=I.list q1;obtain⟨a9,oy,p2,dC⟩:=I.list q2;obtain⟨hz,eu,⟨a,b',eR⟩,h1,h2⟩:=st;have f8:bg.toArray[i]?=IF\/a9.toArray[i]?=IF:=by
   rcases hx with r|r
   ·exact .inl (by simpa using ge.none_of r)
   exact .inr (by simpa using oy.none_of r)
  refine wpAny_pyNext_zip_end (I.ok.hd hc) D hz eu eR h1 h2 p1.isList p2.isList f8 λh' hk=>⟨rfl,?_⟩;exact I.S9 (t':=s.toks) (ch:=[z,TO,i1,i2]) (λb hb=>hf b (by
   simp only[AX,BB,or_false] at hb |-;rcases hb with r|r|r|r <;> simp[r]))
   (λb o hb e=>hk b o (λq=>hb (by simp[q])) (λq=>hb (by simp[q])) (λq=>hb (by simp[q])) (λq=>hb (by simp[q])) e)
 self:=λ_ _ _ _ _ st h=>HE st.1 h
def Ite(K:AA)(a:IN):It:=
 ⟨λi H=>∃xs x,SqL K H a xs/\xs[i]?=ID x,
  λi H v H'=>∃p x,v=.ref p/\H p=IF/\H'=upd H p (.tup [.int (i:Nat),x])/\∀xs,SqL K H a xs->xs[i]?=ID x,
  λi H=>∃xs,SqL K H a xs/\xs[i]?=IF⟩
def Vs{e it:IN}(ck:e≠it) :
  Turn P w K (.Tuple es kk dQ) (Ite K l) [e,it] e (λi h=>(∃dq,IsEnum h e it ((i:Nat):Int) dq)/\h.IsListIter it l i) where
 mem:=by simp
 obj:=λi h st b hb=>by
  obtain⟨⟨dq,he⟩,⟨o1,e1,c1,d1⟩⟩:=st;simp only[AX,BB,or_false] at hb;rcases hb with rfl|rfl
  ·exact⟨_,he,λv q=>by cases q⟩
  exact⟨o1,e1,λv q=>by rw[d1] at q;cases q⟩
 keep:=λi h h' st k=>by
  obtain⟨⟨dq,he⟩,h1⟩:=st;exact⟨⟨dq,k e ζ _ he⟩,h1.at λo q=>k it ζ o q⟩
 item:=by
  intro X hP hw hK hc i ac s σ H E I hf st hg;subst hP hw hK;obtain⟨xs,x,q1,hx⟩:=hg;obtain⟨bg,ge,p1,eW⟩:=I.list q1;obtain⟨u1,oI,pV⟩:=ge.get hx;obtain⟨⟨dq,he⟩,h1⟩:=st;refine wpAny_pyNext_enum_item he h1 p1.isList (x:=u1) (by simpa using oI) ck λh' a1 a2 a3 a4 hk=>?_;have new:bW X.prog X.w (upd H s.heap.objs.size (.tup [.int (i:Nat),x])) h' s.heap.objs.size (.tup [.int (i:Nat),x]):=⟨by show 2<=AJ;decide,[.int (i:Nat) s.toks,u1],.cons ⟨_,rfl⟩ (.cons pV .nil),_,a3,rfl,_,rfl⟩;have I1:Inv X ac σ (upd H s.heap.objs.size (.tup [.int (i:Nat),x])) { s with heap:=h',toks:=s.toks+1 }:=I.S8 (ch:=[e,it]) hf
   (λb o hb q=>hk b o (λz=>hb (by simp[z])) (λz=>hb (by simp[z])) q) (A3 _) new
  have hsz:∀b,b∈[e,it]->b≠s.heap.objs.size:=λb hb=>by
   have lt:∃o,s.heap.get? b=ID o:=by
    simp only[AX,BB,or_false] at hb;rcases hb with rfl|rfl
    ·exact⟨_,he⟩
    obtain⟨o,q,_⟩:=h1;exact⟨o,q⟩
   obtain⟨o,q⟩:=lt;exact BO (A6 q)
  refine⟨_,rfl,wpAny_letOwnedTupleGo_enum (s:={ s with heap:=h',toks:=s.toks+1 }) a1 λph z2 sb=>?_⟩;have fz:=hf e ζ;have I2:Inv X ac σ (upd H s.heap.objs.size (.tup [.int (i:Nat),x])) { s with heap:=ph,toks:=s.toks+1 }:=Inv.turned (s:={ s with heap:=h',toks:=s.toks+1 }) (it:=e) I1 (λb o hb q=>(sb.2 b hb).trans q) (by rw[aO (hsz e ζ)];exact fz.1) fz.2.1 fz.2.2.2.1 fz.2.2.2.2.1 fz.2.2.2.2.2;refine⟨.ref s.heap.objs.size,_,I2,rfl,⟨_,x,rfl,I.fresh,rfl,λSb q=>by rw[I.rZ q q1];exact hx⟩,
   ⟨⟨_,by simpa using z2⟩,a2.extBut sb.extBut ck.symm⟩,λb hb=>by rw[aO (hsz b hb)];exact(hf b hb).1⟩
 done:=by
  intro X hP hw hK hc i ac s σ H E I hf st hg;subst hP hw hK;obtain⟨xs,q1,hx⟩:=hg;obtain⟨bg,ge,p1,eW⟩:=I.list q1;obtain⟨⟨dq,he⟩,h1⟩:=st;refine wpAny_pyNext_enum_end (I.ok.hd hc) he h1 p1.isList (by simpa using ge.none_of hx) λh' hk=>⟨rfl,?_⟩;exact I.S9 (t':=s.toks) (ch:=[e,it]) hf (λb o hb q=>hk b o (λz=>hb (by simp[z])) q)
 self:=λ_ _ _ _ _ st h=>by
  obtain⟨⟨dq,he⟩,_⟩:=st;exact IR he h
theorem Vals.bools:∀{bs:List Bool}{us:List Ap},Vals (bs.map As) us->us=bs.map Is
 | [],_,.nil=>rfl
 | _::_,_,.cons r t=>by rw[Vals.bools t,(show _=Is _ from r)];rfl
def Xo(bs:List Bool):((BF bs.length).all λi=>(bs[i]?).getD true)=bs.all id:=by
 rw[FA,FU,FU];constructor
 ·intro h b hb;obtain⟨i,hi,rfl⟩:=L8 hb;have:=h i (D7.mpr hi);rw[AC hi] at this;exact this
 intro h i hi;have oT:=D7.mp hi;rw[AC oT];exact h _ (EB oT)
def Xn(bs:List Bool):((BF bs.length).any λi=>(bs[i]?).getD false)=bs.any id:=by
 rw[FA,IT,IT];constructor
 ·intro⟨i,hi,h⟩;have oT:=D7.mp hi;rw[AC oT] at h;exact⟨_,EB oT,h⟩
 intro⟨b,hb,h⟩;obtain⟨i,hi,rfl⟩:=L8 hb;exact⟨i,D7.mpr hi,by rw[AC hi];exact h⟩
def Y5(K:AA)(f:List Bool->Bool):List V->Hp->VK->Prop:=λxs H Q=>∃p bs,xs=[.ref p]/\SqL K H p (IB As bs)/\Q (.bl (f bs)) H
theorem abm(hc:X.calm=true):dm X (.builtin "all") (Y5 X.K λbs=>bs.all id):=by
 intro ac s σ H xs us Q I r h;obtain⟨p,bs,rfl,hq,q⟩:=h;cases r with
 | cons r rr=>
  cases rr;cases r;obtain⟨af,rv,pl,hz⟩:=I.list hq;have e:=rv.bools;subst e;have lt:p<s.heap.objs.size:=by obtain⟨_,e,_⟩:=pl.isList;exact A6 e
  refine call_all_walk (FK pl.isList ?_);refine⟨s.heap.objs.size,[s.heap.objs.size,p],[s.heap.objs.size],(bs.map Is).toArray.size,_,_,λi=>(bs[i]?).getD true,rfl,Walks.list (A:=X.A.in1) (I.ok.hd hc) _ p (BO lt) _,
   ⟨⟨_,AU _ rfl,rfl,rfl⟩,pl.isList.push _⟩,λi v s' Q' E' hP hQ=>?_,λh' tk hk=>?_⟩
  ·have e:(bs.map Is)[i]?=ID v:=by simpa using hP
   rw[AM] at e;cases z:bs[i]? with
   | none=>rw[z] at e;cases e
   | some b=>
    rw[z] at e;have e':Is b=v:=A7 e;subst e';dsimp only at hQ;rw[z] at hQ;exact EE hQ
  rw[A0,AG,Xo];refine⟨.bl _,H,I.kept λb o e=>hk b o (λhm=>?_) (AE _ e),rfl,q⟩;rw[AL.mp hm] at e;exact ED _ (A6 e)
theorem abl(hc:X.calm=true):dm X (.builtin "any") (Y5 X.K λbs=>bs.any id):=by
 intro ac s σ H xs us Q I r h;obtain⟨p,bs,rfl,hq,q⟩:=h;cases r with
 | cons r rr=>
  cases rr;cases r;obtain⟨af,rv,pl,hz⟩:=I.list hq;have e:=rv.bools;subst e;have lt:p<s.heap.objs.size:=by obtain⟨_,e,_⟩:=pl.isList;exact A6 e
  refine call_any_walk (FK pl.isList ?_);refine⟨s.heap.objs.size,[s.heap.objs.size,p],[s.heap.objs.size],(bs.map Is).toArray.size,_,_,λi=>(bs[i]?).getD false,rfl,Walks.list (A:=X.A.in1) (I.ok.hd hc) _ p (BO lt) _,
   ⟨⟨_,AU _ rfl,rfl,rfl⟩,pl.isList.push _⟩,λi v s' Q' E' hP hQ=>?_,λh' tk hk=>?_⟩
  ·have e:(bs.map Is)[i]?=ID v:=by simpa using hP
   rw[AM] at e;cases z:bs[i]? with
   | none=>rw[z] at e;cases e
   | some b=>
    rw[z] at e;have e':Is b=v:=A7 e;subst e';dsimp only at hQ;rw[z] at hQ;exact EE hQ
  rw[A0,AG,Xn];refine⟨.bl _,H,I.kept λb o e=>hk b o (λhm=>?_) (AE _ e),rfl,q⟩;rw[AL.mp hm] at e;exact ED _ (A6 e)
def ahx(K:AA):List V->Hp->VK->Prop:=λxs H Q=>∃x T t b,xs=[x,.ty T]/\uH K H x t/\kitOne K t (.type T)=ID b/\Q (.bl b) H
theorem abk:dm X (.builtin "isinstance") (ahx X.K):=by
 intro ac s σ H xs us Q I r h;obtain⟨x,T,t,b,rfl,ty,e,q⟩:=h;cases r with
 | cons r rr=>
  cases rr with
  | cons r' rr=>
   cases rr;cases (show _=GT T from r');exact WK I r ty e λtk=>⟨.bl b,H,I.tok tk,rfl,q⟩
def agM(K:AA):List V->Hp->VK->Prop:=λxs H Q=>∃x p Ts t b,xs=[x,.ref p]/\SqT K H p (IB By Ts)/\uH K H x t/\PySem.W.kitAny K t (Ts.map GT)=ID b/\Q (.bl b) H
theorem Vals.types:∀{bs:List String}{us:List Ap},Vals (bs.map By) us->us=bs.map GT
 | [],_,.nil=>rfl
 | _::_,_,.cons r t=>by rw[Vals.types t,(show _=GT _ from r)];rfl
theorem ahG{x:V}{u t:Ap}{ac:List (IN×Obj)}{σ:St}{H:Hp}{s:AB}(I:Inv X ac σ H s)(rx:RelV x u)(ty:uH X.K H x t)(hl:∀a C dx fs,H a=ID (.ins C dx fs)->x≠.ref a) :
  ∃Hh:Heap->Prop,PySem.W.KitX X.K u t Hh/\Hh s.heap/\u≠.builtin "__main__.__loader__#opaque" := by
 cases ty with
 | non=>cases (show u=Ap.none from rx);exact⟨_,PySem.W.kitx_none,EG,λz=>nomatch z⟩
 | bl y=>cases (show u=Is y from rx);exact⟨_,PySem.W.kitx_bool,EG,λz=>nomatch z⟩
 | int i=>obtain⟨t,q⟩:=(show ∃t,u=GE i t from rx);cases q;exact⟨_,PySem.W.kitx_int,EG,λz=>nomatch z⟩
 | str y=>obtain⟨t,q⟩:=(show ∃t,u=Ap.str y t from rx);cases q;exact⟨_,PySem.W.kitx_str,EG,λz=>nomatch z⟩
 | flt y=>obtain⟨t,q⟩:=(show ∃t,u=Ap.float y t from rx);cases q;exact⟨_,PySem.W.kitx_float,EG,λz=>nomatch z⟩
 | @lst a xs ea=>
  cases (show u=EQ a from rx);obtain⟨_,_,n,_,h1⟩:=(show bW X.prog X.w H s.heap a (.lst xs) from I.hok a _ ea);exact⟨_,IM,⟨_,h1,rfl⟩,λz=>nomatch z⟩
 | @frz a ob xs ea=>
  cases (show u=EQ a from rx);obtain⟨_,_,_,n,_,h1⟩:=(show bW X.prog X.w H s.heap a (.frz ob (.lst xs)) from I.hok a _ ea);exact⟨_,IM,⟨_,h1,rfl⟩,λz=>nomatch z⟩
 | @tup a xs ea=>
  cases (show u=EQ a from rx);obtain⟨_,_,_,p⟩:=(show bW X.prog X.w H s.heap a (.tup xs) from I.hok a _ ea);obtain⟨o,h1,h2,_⟩:=p;exact⟨_,PySem.W.kitx_tuple,⟨o,h1,h2⟩,λz=>nomatch z⟩
 | @dK a kvs ea=>
  cases (show u=EQ a from rx);obtain⟨_,_,vs,_,p⟩:=(show bW X.prog X.w H s.heap a (.dK kvs) from I.hok a _ ea);obtain⟨o,es,ep,h1,h2,_⟩:=p;exact⟨_,IP,⟨o,h1,h2.1⟩,λz=>nomatch z⟩
 | @dT a kvs ea=>
  cases (show u=EQ a from rx);obtain⟨_,_,xs,_,o,es,ep,h1,h2,_⟩:=(show bW X.prog X.w H s.heap a (.dT kvs) from I.hok a _ ea);exact⟨_,IP,⟨o,h1,h2.1⟩,λz=>nomatch z⟩
 | @ins a C dx fs ea cl ha hn sK hm=>exact absurd rfl (hl a C dx fs ea)
theorem Xi:dm X (.builtin "isinstance") (λxs H Q=>agM X.K xs H Q/\∀a C dx fs,H a=ID (.ins C dx fs)->xs.head?≠ID (.ref a)):=by
 intro ac s σ H xs us Q I r h;obtain⟨⟨x,p,Ts,t,b,rfl,hq,ty,e,q⟩,hl⟩:=h;cases r with
 | cons r rr=>
  cases rr with
  | cons r' rr=>
   cases rr;cases r';obtain⟨Hh,Z,hh,ne⟩:=ahG I r ty λa C dx fs z w'=>hl a C dx fs z (by rw[w'];rfl);obtain⟨af,rv,⟨o,ho,ft,n,hd⟩,hz⟩:=I.tuple hq;have ei:=rv.types;subst ei;obtain⟨c0,d0,dt0,ZZ⟩:=o;cases (show c0=GT "tuple" from ft);cases (show dt0=HQ (IB GT Ts).toArray n from hd);exact PySem.W.kia_tup Z I.kIn hh ho e ne λtk=>⟨.bl b,H,I.tok tk,rfl,q⟩
inductive Tn (H:Hp):V->String->Prop where
 | non:Tn H .non "NoneType"
 | bl (b:Bool):Tn H (.bl b) "bool"
 | int (i:Int):Tn H (.int i) "int"
 | str (x:Str):Tn H (.str x) "str"
 | lst {a:IN} {xs:List V} (e:H a=ID (.lst xs)):Tn H (.ref a) "list"
 | tup {a:IN} {xs:List V} (e:H a=ID (.tup xs)):Tn H (.ref a) "tuple"
theorem Tn.ty{K:AA}{H:Hp}{x:V}{t:String}(h:Tn H x t):uH K H x (.type t):=by
 cases h with
 | non=>exact .non
 | bl b=>exact .bl b
 | int i=>exact .int i
 | str x=>exact .str x
 | lst e=>exact .lst e
 | tup e=>exact .tup e
def fY(t T:String):Bool:=t == T||(t == "bool" && T == "int")
def gq:List String:=["NoneType","bool","int","str","list","tuple"]
def UJ(K:AA):∀t∈gq,∀T∈gq,kitOne K (.type t) (.type T)=ID (fY t T):=by
 intro t ht T hT;simp only[gq,AX,BB,or_false] at ht hT;rcases ht with rfl|rfl|rfl|rfl|rfl|rfl <;> rcases hT with rfl|rfl|rfl|rfl|rfl|rfl <;> first|rfl|kernel_rfl
def Tn.known{x:V}{t:String}(h:Tn H x t):t∈gq:=by cases h <;> decide
def Xk:dm X (.builtin "isinstance") (λxs H Q=>∃x T t,xs=[x,.ty T]/\Tn H x t/\T∈gq/\Q (.bl (fY t T)) H):=by
 intro ac s σ H xs us Q I r h;obtain⟨x,T,t,rfl,ty,hT,q⟩:=h;exact abk ac s σ H _ us Q I r ⟨x,T,_,_,rfl,ty.ty,UJ X.K t ty.known T hT,q⟩
theorem UL(K:AA){t:String}(ht:t∈gq):∀Ts:List String,(∀T∈Ts,T∈gq)->PySem.W.kitAny K (.type t) (Ts.map GT)=ID (Ts.any λT=>fY t T)
 | [],_=>rfl
 | T::r,h=>by
  have e:=UJ K t ht T (h T A5);have ih:=UL K ht r λT' h'=>h T' (A9 _ h');show(match kitOne K (.type t) (.type T) with|some true=>ID true|some false=>PySem.W.kitAny K (.type t) (r.map GT)|none=>IF)=_
  rw[e,any_cons];cases fY t T with
  | true=>rfl
  | false=>exact ih
theorem Xj:dm X (.builtin "isinstance") (λxs H Q=>∃x p Ts t,xs=[x,.ref p]/\H p=ID (.tup (IB By Ts))/\Tn H x t/\(∀T∈Ts,T∈gq)/\Q (.bl (Ts.any λT=>fY t T)) H):=by
 intro ac s σ H xs us Q I r h;obtain⟨x,p,Ts,t,rfl,hp,ty,hT,q⟩:=h;refine Xi ac s σ H _ us Q I r ⟨⟨x,p,Ts,_,_,rfl,SqT.of hp,ty.ty,UL X.K ty.known Ts hT,q⟩,λa C dx fs e z=>?_⟩;have z':x=.ref a:=by simpa using z
 subst z';cases ty with
 | lst e'=>rw[e] at e';cases e'
 | tup e'=>rw[e] at e';cases e'
def aev(i j:Int):Prop:=0<j/\j<2^70
def M5:OpR X (EH .FloorDiv) (rI aev λi j=>.int (i/j)):=opI λi j _ _ _ _ _ hc q=>by
 have h1:(0:Int)<j:=hc.1;have h2:j<2^70:=hc.2;refine floordiv_int ω (by rw[Int.fdiv_eq_ediv_of_nonneg i ω];exact q) (.inl (PyProof.noPylong_of_log2 ?_));have h3:j.natAbs≠0:=ω;have h4:j.natAbs.log2<70:=(log2_lt h3).mpr ω;omega
def aR(p:IN)(H H':Hp):Prop:=∀b o,b≠p->H b=ID o->H' b=ID o
def aR.refl(p:IN)(H:Hp):aR p H H:=λ_ _ _ h=>h
def aR.trans(a:aR p H H1)(b:aR p H1 H2):aR p H H2:=λc o n h=>b c o n (a c o n h)
def aR.upd:aR p H (upd H p o):=λb u n h=>by rw[aO n];exact h
def Same.x(h:Same H H'):aR p H H':=λb o _ q=>h b o q
def au(h:H p=IF):Same H (upd H p o):=λb u q=>by rw[aO (aH q h)];exact q
def aR.seq(e:aR p H H')(n:a≠p)(h:SqL K H a xs):SqL K H' a xs:=by
 rcases h with(h|⟨o,h⟩)|h
 ·exact .inl (.inl (e _ _ n h))
 ·exact .inl (.inr ⟨o,e _ _ n h⟩)
 exact .inr h
structure Cal(P:AO)(w:Bi)(K:AA)(mg:Str->Option Ap)(base:Heap)(x:Str)(k:Nat)(ps:List Str)(sp:Sp):Prop where
 ex:∃(f:IN)(fd:CU),c7 P w K mg base CX0 k f fd ps sp/\Binds K fd ps []/\keepIn K (.ref f)=true/\mg x=ID (.ref f)
section
variable{k:Nat}{x:Str}{p:Pos}{t:TA}
def aft(C:Cal X.prog X.w X.K X.mg X.base x k ps sp)(hr:gw k X.A)(hg:Gl X x)(ha:PA X (e::es) t)(i6:(x == ("__debug__" : Str))=false:=by decide)
  (he:AH (e::es) X.env=(false,eval e X.env)::AH es X.env:=by rfl) (bz:(CO pos (AH es X.env)).any (·.1)=false:=by rfl):PE X (.Call (.Name x p) (e::es) [] pos) (uJ sp [] E0 t):=by
 obtain⟨f,fd,F,b,kp,hm⟩:=C.ex;exact ac0 F hr hg hm kp b .nil Uk ha i6 he bz
end
structure abH(K:AA)(mg:Str->Option Ap)(x:Str)(st:Stmt)(ps:List Str)(f:IN)(fd:CU):Prop where
 fn:Fun K x x st f fd
 bd:Binds K fd ps []
 nm:mg x=ID (.ref f)
def abH.cal{x:Str}{st:Stmt}{k:Nat}(D:abH K mg x st ps f fd)(F:c7 P w K mg base CX0 k f fd ps sp):Cal P w K mg base x k ps sp:=
 ⟨f,fd,F,D.bd,D.fn.kp,D.nm⟩
def Yy(i j:Int):Yz (.int i) (.int j)=true:=rfl
def ab1(i j:Bool):Yz (.bl i) (.bl j)=true:=rfl
def Yx(i j:Str):Yz (.str i) (.str j)=true:=rfl
def aho{α:Type}(a:α)(r:List α):atI (a::r) 0=ID a:=cG (j:=0) rfl
def ahn{α:Type}(a b:α)(r:List α):atI (a::b::r) 1=ID b:=cG (j:=1) rfl
def ahm{α:Type}(a b c:α)(r:List α):atI (a::b::c::r) 2=ID c:=cG (j:=2) rfl
def aaD:ixN 3 0=ID 0/\ixN 3 1=ID 1/\ixN 3 2=ID 2:=⟨δ,δ,δ⟩
def aQ(h:n<=1000000):n<=AJ:=BU h δ
def ixq(o:Option HO)(i:Int)(H:Hp)(Q:VK):Prop:=match o with
 | some (.lst xs)=>∃v,atI xs i=ID v/\Q v H
 | some (.tup xs)=>∃v,atI xs i=ID v/\Q v H
 | _=>False
def stq(o:Option HO)(p:IN)(k:Int)(v:V)(H:Hp)(Q:Hp->Prop):Prop:=match o with
 | some (.lst xs)=>∃j,ixN xs.length k=ID j/\Q (upd H p (.lst (xs.set j v)))
 | _=>False
def lnq(o:Option HO)(H:Hp)(Q:VK):Prop:=match o with
 | some (.lst ys)=>Q (.int ys.length) H
 | some (.tup ys)=>Q (.int ys.length) H
 | _=>False
def uy:R2:=λx y H Q=>match x,y with
 | .ref p,.int i=>ixq (H p) i H Q
 | _,_=>False
def Y0:V->V->V->Hp->(Hp->Prop)->Prop:=λo i v H Q=>match o,i with
 | .ref p,.int k=>stq (H p) p k v H Q
 | _,_=>False
def T8:List V->Hp->VK->Prop:=λxs H Q=>match xs with
 | [.ref p]=>lnq (H p) H Q
 | _=>False
def qY(p:IN)(i:Int)(H:Hp)(Q:VK):uy (.ref p) (.int i) H Q=ixq (H p) i H Q:=rfl
def V2(p:IN)(k:Int)(v:V)(H:Hp)(Q:Hp->Prop):Y0 (.ref p) (.int k) v H Q=stq (H p) p k v H Q:=rfl
def V3(p:IN)(H:Hp)(Q:VK):T8 [.ref p] H Q=lnq (H p) H Q:=rfl
def Bt(xs:List V)(i:Int)(H:Hp)(Q:VK):ixq (ID (.lst xs)) i H Q=∃v,atI xs i=ID v/\Q v H:=rfl
def abS(xs:List V)(p:IN)(k:Int)(v:V)(H:Hp)(Q:Hp->Prop):stq (ID (.lst xs)) p k v H Q=∃j,ixN xs.length k=ID j/\Q (upd H p (.lst (xs.set j v))):=rfl
def adz(xs:List V)(H:Hp)(Q:VK):lnq (ID (.lst xs)) H Q=Q (.int xs.length) H:=rfl
def ady(xs:List V)(H:Hp)(Q:VK):lnq (ID (.tup xs)) H Q=Q (.int xs.length) H:=rfl
def bK:IxR X uy:=by
 intro value slice ac s σ H x y v u Q I rx ry h hs;unfold uy at h;split at h
 ·rename_i p i;unfold ixq at h;split at h
  ·rename_i xs e;obtain⟨z,hz,q⟩:=h;exact U0 value slice ac s σ H _ _ v u Q I rx ry ⟨p,xs,i,z,rfl,rfl,SqL.of e,hz,q⟩ hs
  ·rename_i xs e;obtain⟨z,hz,q⟩:=h;exact afY value slice ac s σ H _ _ v u Q I rx ry ⟨p,xs,i,z,rfl,rfl,SqT.of e,hz,q⟩ hs
  exact h.elim
 exact h.elim
def TY:S5 X Y0:=by
 intro ac s σ H o i v ov iv u Q I ro ri rv h;unfold Y0 at h;split at h
 ·rename_i p k;unfold stq at h;split at h
  ·rename_i xs e;obtain⟨j,hj,q⟩:=h;exact set_list ac s σ H _ _ v ov iv u Q I ro ri rv ⟨p,xs,k,j,rfl,rfl,e,hj,q⟩
  exact h.elim
 exact h.elim
def cU:dm X (.builtin "len") T8:=by
 intro ac s σ H xs us Q I r h;unfold T8 at h;split at h
 ·rename_i p;unfold lnq at h;split at h
  ·rename_i ys e;exact lZ ac s σ H _ us Q I r ⟨p,ys,rfl,.inl (SqL.of e),h⟩
  ·rename_i ys e;exact lZ ac s σ H _ us Q I r ⟨p,ys,rfl,.inr (SqT.of e),h⟩
  exact h.elim
 exact h.elim
def Zh:List V->Hp->VK->Prop:=λxs H Q=>match xs with
 | [.int i]=>Q (.int i) H
 | [.bl k]=>Q (.int (if k then 1 else 0)) H
 | _=>False
def ace(k:Bool)(H:Hp)(Q:VK):Zh [.bl k] H Q=Q (.int (if k then 1 else 0)) H:=rfl
def qj:dm X (.type "int") Zh:=by
 intro ac s σ H xs us Q I r h;unfold Zh at h;split at h
 ·exact Jc ac s σ H _ us Q I r (.inl ⟨_,rfl,h⟩)
 ·exact Jc ac s σ H _ us Q I r (.inr ⟨_,rfl,h⟩)
 exact h.elim
def aM{t u:TS}(h:∀k,k=u D->t { D with nx:=k } σ H):Vz t u D σ H:=h _ rfl
def jE(h:∀R:It->Hp->Prop,R=(λJ H1=>∃W:Nat->Nat->St->Hp->Prop,(∃m,W 0 m σ H1)/\∀i m σ H,W i m σ H ->
  (J.stop i H/\D.nx σ H)\/(J.go i H/\∃N:St->Hp->Prop,(∀σ' H',N σ' H'->∃m',m'<m/\W (i+1) m' σ' H')/\∀x H',J.yld i H x H'->g x σ H' λσ2 H2=>tb { D with nx:=N,ct:=N,bk:=D.nx } σ2 H2))->wi σ H R):aeF wi g tb D σ H:=h _ rfl
def zT{lo:Int}(hR:R=(λJ H1=>∃W:Nat->Nat->St->Hp->Prop,(∃m,W 0 m σ H1)/\∀i m σ H,W i m σ H ->
  (J.stop i H/\D.nx σ H)\/(J.go i H/\∃N:St->Hp->Prop,(∀σ' H',N σ' H'->∃m',m'<m/\W (i+1) m' σ' H')/\∀x H',J.yld i H x H'->g x σ H' λσ2 H2=>tb { D with nx:=N,ct:=N,bk:=D.nx } σ2 H2)))
  (Pv:Nat->St->Hp->Prop)(h0:Pv 0 σ H)(hs:∀i σ H,i<n->Pv i σ H->g (.int (lo+i)) σ H λσ2 H2=>tb { D with nx:=Pv (i+1),ct:=Pv (i+1),bk:=D.nx } σ2 H2)(hd:∀σ H,Pv n σ H->D.nx σ H):R (Itr lo n) H:=by
 subst hR;exact WY Pv h0 hs hd
def Ip(hR:R=(λJ H1=>∃W:Nat->Nat->St->Hp->Prop,(∃m,W 0 m σ H1)/\∀i m σ H,W i m σ H ->
  (J.stop i H/\D.nx σ H)\/(J.go i H/\∃N:St->Hp->Prop,(∀σ' H',N σ' H'->∃m',m'<m/\W (i+1) m' σ' H')/\∀x H',J.yld i H x H'->g x σ H' λσ2 H2=>tb { D with nx:=N,ct:=N,bk:=D.nx } σ2 H2)))
  (Pv:Nat->St->Hp->Prop)(h0:Pv 0 σ H)(hl:∀i σ H,i<=xs.length->Pv i σ H->SqL K H a xs)(hs:∀i x σ H,xs[i]?=ID x->Pv i σ H->g x σ H λσ2 H2=>tb { D with nx:=Pv (i+1),ct:=Pv (i+1),bk:=D.nx } σ2 H2)(hd:∀σ H,Pv xs.length σ H->D.nx σ H):R (Itl K a) H:=by
 subst hR;exact aaU Pv h0 hl hs hd
def Xy(mp:List (Option Nat))(g:TG)(tc:TT)(te:TE)(σ:St)(Q:VK)(J:It)(H1:Hp):Prop:=∃W:Nat->Nat->List V->St->Hp->Prop,(∃m,W 0 m [] (fO mp σ) H1)/\∀i m ae τ H2,W i m ae τ H2 ->
  (J.stop i H2/\∀d,H2 d=IF->Q (.ref d) (upd H2 d (.lst ae))) \/
  (J.go i H2/\ae.length<AJ/\∃N:List V->St->Hp->Prop,(∀ah τ' H',N ah τ' H'->∃m',m'<m/\W (i+1) m' ah τ' H')/\∀x H3,J.yld i H2 x H3->g x τ H3 λτ1 H4=>tc τ1 H4 λb H5=>
   if b=true then te τ1 H5 λv H6=>N (ae++[v]) τ1 H6 else N ae τ1 H5)
def fL{Q:VK}(h:∀R:It->Hp->Prop,R=Xy mp g tc te σ Q->wi σ H R):Lx mp wi g tc te σ H Q:=h _ rfl
def KY{J:It}{Q:VK}(hR:R=Xy mp g tc te σ Q)(n:Nat)(hz:n<=AJ)(Pv:Nat->List V->St->Hp->Prop)(h0:Pv 0 [] (fO mp σ) H)
  (hl:∀i ae τ H,Pv i ae τ H->ae.length<=i)(VW:∀i ae τ H,i<n->Pv i ae τ H->J.go i H)(gz:∀ae τ H,Pv n ae τ H->J.stop n H)
  (hs:∀i ae τ H x H3,i<n->Pv i ae τ H->J.yld i H x H3->g x τ H3 λτ1 H4=>tc τ1 H4 λb H5=>if b=true then te τ1 H5 λv H6=>Pv (i+1) (ae++[v]) τ1 H6 else Pv (i+1) ae τ1 H5)
  (hd:∀ae τ H d,Pv n ae τ H->H d=IF->Q (.ref d) (upd H d (.lst ae))):R J H:=by
 subst hR;refine⟨λi m ae τ H2=>m=n-i/\i<=n/\Pv i ae τ H2,⟨_,rfl,DC _,h0⟩,?_⟩;rintro i m ae τ H2 ⟨rfl,hi,p⟩;have q3:=hl i ae τ H2 p;by_cases aI:i<n
 ·exact .inr ⟨VW i ae τ H2 aI p,ω,Pv (i+1),λah τ' H' q=>⟨_,ω,rfl,aI,q⟩,λx H3 y=>hs i ae τ H2 x H3 aI p y⟩
 have e:i=n:=ω;subst e;exact .inl ⟨gz ae τ H2 p,λd gI=>hd ae τ H2 d p gI⟩
structure Nm(N:List Str)(sc:C8)(i:Nat)(x:Str):Prop where
 hN:N[i]?=ID x
 hv:Loc sc x
 hd:(x == ("__debug__" : Str))=false
 hcd:(x == ("__classdict__" : Str))=false
def ag9(N:List Str)(sc:C8)(i:Nat)(x:Str):Bool:=decide (N[i]?=ID x)&&(decide (sc.names.lookup x=ID .local)||decide (sc.names.lookup x=ID .cell)) && !(x == ("__debug__" : Str)) && !(x == ("__classdict__" : Str))
def Nm.of{N:List Str}{sc:C8}{x:Str}(h:ag9 N sc i x=true):Nm N sc i x:=by
 unfold ag9 at h;rw[CL,CL,CL,Bool.or_eq_true] at h;obtain⟨⟨⟨h1,h2⟩,h3⟩,h4⟩:=h;exact⟨of_decide_eq_true h1,h2.elim (λz=>.inl (of_decide_eq_true z)) (λz=>.inr (of_decide_eq_true z)),by simpa using h3,by simpa using h4⟩
structure Bn(x:Str):Prop where
 hn:x ≠ "__name__"
 hd:(x == ("__debug__" : Str))=false
section
variable{x:Str}{p:Pos}{t:TA}{k:Nat}{id T:String}{r:List V->Hp->VK->Prop}
def pn(n:Nm X.N X.env.scope i x):PE X (.Name x pos) (Qd i):=ZC n.hN (n.hv.elim .inl λz=>.inr (.inl z)) n.hd n.hcd
end
def iQ:Bn "len" := ⟨ψ,ψ⟩
def abp:Bn "abs" := ⟨ψ,ψ⟩
def Fd:Bn "min" := ⟨ψ,ψ⟩
def agm:Bn "max" := ⟨ψ,ψ⟩
def abo:Bn "all" := ⟨ψ,ψ⟩
def agn:Bn "any" := ⟨ψ,ψ⟩
def bB:Bn "isinstance" := ⟨ψ,ψ⟩
def v7:Bn "int" := ⟨ψ,ψ⟩
def vZ:Bn "sum" := ⟨ψ,ψ⟩
def kZ:Bn "list" := ⟨ψ,ψ⟩
def jj:Bn "tuple" := ⟨ψ,ψ⟩
def abn:Bn "str" := ⟨ψ,ψ⟩
def yh:Bn "bool" := ⟨ψ,ψ⟩
def Xp:Bn "sorted" := ⟨ψ,ψ⟩
def Vk:Bn "repr" := ⟨ψ,ψ⟩
def tyO:Option HO->Option String
 | some (.lst _)=>ID "list"
 | some (.tup _)=>ID "tuple"
 | _=>IF
def tyN(x:V)(H:Hp):Option String:=match x with
 | .non=>ID "NoneType"
 | .bl _=>ID "bool"
 | .int _=>ID "int"
 | .str _=>ID "str"
 | .ref a=>tyO (H a)
 | _=>IF
theorem Tn.of{x:V}{H:Hp}{t:String}(h:tyN x H=ID t):Tn H x t:=by
 cases x with
 | non=>cases h;exact .non
 | bl b=>cases h;exact .bl b
 | int i=>cases h;exact .int i
 | str s=>cases h;exact .str s
 | ref a=>
  have h':tyO (H a)=ID t:=h;cases e:H a with
  | none=>rw[e] at h';cases h'
  | some o=>
   rw[e] at h';cases o with
   | lst xs=>cases h';exact .lst e
   | tup xs=>cases h';exact .tup e
   | _=>cases h'
 | _=>cases h
def Zg:List V->Hp->VK->Prop:=λxs H Q=>match xs with
 | [x,.ty T]=>∃t,tyN x H=ID t/\gq.contains T=true/\Q (.bl (fY t T)) H
 | _=>False
def i2q(o:Option HO)(x:V)(H:Hp)(Q:VK):Prop:=match o with
 | some (.tup [.ty T,.ty U])=>∃t,tyN x H=ID t/\gq.contains T=true/\gq.contains U=true/\Q (.bl (fY t T||fY t U)) H
 | _=>False
def Ze:List V->Hp->VK->Prop:=λxs H Q=>match xs with
 | [x,.ref p]=>i2q (H p) x H Q
 | _=>False
def dj:dm X (.builtin "isinstance") Zg:=by
 intro ac s σ H xs us Q I r h;unfold Zg at h;split at h
 ·obtain⟨t,e,k,q⟩:=h;exact Xk ac s σ H _ us Q I r ⟨_,_,t,rfl,Tn.of e,by simpa using k,q⟩
 exact h.elim
def Jb:dm X (.builtin "isinstance") Ze:=by
 intro ac s σ H xs us Q I r h;unfold Ze at h;split at h
 ·rename_i x p;unfold i2q at h;split at h
  ·rename_i T U e;obtain⟨t,e1,k1,k2,q⟩:=h;refine Xj ac s σ H _ us Q I r ⟨x,p,[T,U],t,rfl,e,Tn.of e1,λz hz=>?_,by simpa using q⟩;rcases AX.mp hz with rfl|hz
   ·simpa using k1
   obtain rfl:=AL.mp hz;simpa using k2
  exact h.elim
 exact h.elim
def Zf(x:V)(T:String)(H:Hp)(Q:VK):Zg [x,.ty T] H Q=∃t,tyN x H=ID t/\gq.contains T=true/\Q (.bl (fY t T)) H:=rfl
def Zd(x:V)(p:IN)(H:Hp)(Q:VK):Ze [x,.ref p] H Q=i2q (H p) x H Q:=rfl
def af7(x:V)(T U:String)(H:Hp)(Q:VK):i2q (ID (.tup [.ty T,.ty U])) x H Q=∃t,tyN x H=ID t/\gq.contains T=true/\gq.contains U=true/\Q (.bl (fY t T||fY t U)) H:=rfl
def adD:gq.contains "list" = true:=by decide
def aaA:gq.contains "tuple" = true:=by decide
def afX:gq.contains "int" = true:=by decide
def afW:gq.contains "str" = true:=by decide
def kc_bool:gq.contains "bool" = true:=by decide
def ty_int(i:Int)(H:Hp):tyN (.int i) H=ID "int" := rfl
def agx(i:Bool)(H:Hp):tyN (.bl i) H=ID "bool" := rfl
def ty_str(i:Str)(H:Hp):tyN (.str i) H=ID "str" := rfl
def aeA(H:Hp):tyN .non H=ID "NoneType" := rfl
def aez(p:IN)(H:Hp):tyN (.ref p) H=tyO (H p):=rfl
def abN(xs:List V):tyO (ID (.lst xs))=ID "list" := rfl
def abM(xs:List V):tyO (ID (.tup xs))=ID "tuple" := rfl
def yG:fY "NoneType" "bool" = false:=by decide
def Af:fY "NoneType" "int" = false:=by decide
def Ae:fY "NoneType" "str" = false:=by decide
def yF:fY "NoneType" "list" = false:=by decide
def wQ:fY "NoneType" "tuple" = false:=by decide
def JM:fY "bool" "bool" = true:=by decide
def Ml:fY "bool" "int" = true:=by decide
def Mj:fY "bool" "str" = false:=by decide
def JL:fY "bool" "list" = false:=by decide
def Gd:fY "bool" "tuple" = false:=by decide
def Mi:fY "int" "bool" = false:=by decide
def Qq:fY "int" "int" = true:=by decide
def Qp:fY "int" "str" = false:=by decide
def Mh:fY "int" "list" = false:=by decide
def JK:fY "int" "tuple" = false:=by decide
def Mf:fY "str" "bool" = false:=by decide
def Qo:fY "str" "int" = false:=by decide
def Qn:fY "str" "str" = true:=by decide
def Ma:fY "str" "list" = false:=by decide
def JF:fY "str" "tuple" = false:=by decide
def JH:fY "list" "bool" = false:=by decide
def Mg:fY "list" "int" = false:=by decide
def JG:fY "list" "list" = true:=by decide
def Gb:fY "list" "tuple" = false:=by decide
def Ga:fY "tuple" "bool" = false:=by decide
def JD:fY "tuple" "int" = false:=by decide
def FZ:fY "tuple" "list" = false:=by decide
def Cr:fY "tuple" "tuple" = true:=by decide
def gtq(o:Option HO)(n:Nat)(t:TGs)(σ:St)(H:Hp)(Q:St->Hp->Prop):Prop:=match o with
 | some (.tup xs)=>xs.length=n/\t xs σ H Q
 | _=>False
def U6(n:Nat)(t:TGs):TG:=λv σ H Q=>match v with
 | .ref a=>gtq (H a) n t σ H Q
 | _=>False
def WW(n:Nat)(t:TGs)(a:IN)(σ:St)(H:Hp)(Q:St->Hp->Prop):U6 n t (.ref a) σ H Q=gtq (H a) n t σ H Q:=rfl
def adO(xs:List V)(n:Nat)(t:TGs)(σ:St)(H:Hp)(Q:St->Hp->Prop):gtq (ID (.tup xs)) n t σ H Q=(xs.length=n/\t xs σ H Q):=rfl
def qtq(o:Option HO)(f:List Bool->Bool)(H:Hp)(Q:VK):Prop:=match o with
 | some (.lst xs)=>∃bs,xs=IB As bs/\Q (.bl (f bs)) H
 | _=>False
def wR(f:List Bool->Bool):List V->Hp->VK->Prop:=λxs H Q=>match xs with
 | [.ref p]=>qtq (H p) f H Q
 | _=>False
def MF(f:List Bool->Bool)(p:IN)(H:Hp)(Q:VK):wR f [.ref p] H Q=qtq (H p) f H Q:=rfl
def acp(f:List Bool->Bool)(xs:List V)(H:Hp)(Q:VK):qtq (ID (.lst xs)) f H Q=∃bs,xs=IB As bs/\Q (.bl (f bs)) H:=rfl
section
variable{k:Nat}{t:TGs}
def Jd(hc:X.calm=true):dm X (.builtin "all") (wR λbs=>bs.all id):=by
 intro ac s σ H xs us Q I r h;unfold wR at h;split at h
 ·rename_i p;unfold qtq at h;split at h
  ·rename_i ys e;obtain⟨bs,rfl,q⟩:=h;exact abm hc ac s σ H _ us Q I r ⟨p,bs,rfl,SqL.of e,q⟩
  exact h.elim
 exact h.elim
def Xl(hc:X.calm=true):dm X (.builtin "any") (wR λbs=>bs.any id):=by
 intro ac s σ H xs us Q I r h;unfold wR at h;split at h
 ·rename_i p;unfold qtq at h;split at h
  ·rename_i ys e;obtain⟨bs,rfl,q⟩:=h;exact abl hc ac s σ H _ us Q I r ⟨p,bs,rfl,SqL.of e,q⟩
  exact h.elim
 exact h.elim
end
def Y8:List V->Hp->VK->Prop:=λxs H Q=>match xs with
 | [.int i,.int j]=>Q (.int (if j<i then j else i)) H
 | _=>False
def Za:List V->Hp->VK->Prop:=λxs H Q=>match xs with
 | [.int i,.int j]=>Q (.int (if j>i then j else i)) H
 | _=>False
def Y7(i j:Int)(H:Hp)(Q:VK):Y8 [.int i,.int j] H Q=Q (.int (if j<i then j else i)) H:=rfl
def Y9(i j:Int)(H:Hp)(Q:VK):Za [.int i,.int j] H Q=Q (.int (if j>i then j else i)) H:=rfl
def Ja(hc:X.calm=true):dm X (.builtin "min") Y8:=by
 intro ac s σ H xs us Q I r h;unfold Y8 at h;split at h
 ·exact Xd hc ac s σ H _ us Q I r ⟨_,_,rfl,h⟩
 exact h.elim
def Xe(hc:X.calm=true):dm X (.builtin "max") Za:=by
 intro ac s σ H xs us Q I r h;unfold Za at h;split at h
 ·exact Xf hc ac s σ H _ us Q I r ⟨_,_,rfl,h⟩
 exact h.elim
structure QE(X:Cx)(e:Expr)(t:TE):Prop where
 h:PE X e t
structure QT(X:Cx)(e:Expr)(t:TT):Prop where
 h:PT X e t
structure QW(X:Cx)(e:Expr)(t:TT):Prop where
 h:PW X e t
structure QA(X:Cx)(es:List Expr)(t:TA):Prop where
 h:PA X es t
structure QS(X:Cx)(st:Stmt)(t:TS):Prop where
 h:PS X st t
structure QB(X:Cx)(st:List Stmt)(t:TS):Prop where
 h:PSs X st t
structure QG(X:Cx)(e:Expr)(t:TG):Prop where
 h:PG X e t
structure QGs(X:Cx)(es:List Expr)(t:TGs):Prop where
 h:PGs X es t
structure QI(X:Cx)(tg e:Expr)(t:TI):Prop where
 h:PI X tg e t
structure QC(X:Cx)(cs:List Expr)(t:TT):Prop where
 h:PTs X cs t
section
variable{x:Str}{p:Pos}{a b c o:Expr}{aE:List Expr}{ta tb tc ti:TE}{tA tB':TT}{t:TA}{k:Nat}{id T:String}{r:List V->Hp->VK->Prop}{st:Stmt}{ZT:List Stmt}{ts us:TS}{gs:TGs}
def ahB(h:Nm X.N X.env.scope i x):QE X (.Name x pos) (Qd i):=⟨pn h⟩
def ahA(i:Nat){x:Str}(hN:X.N[i]?=ID x:=by rfl)(hv:Vis X.env.scope x:=by first|exact C3 rfl|exact Or.inr (C3 Z)|exact Or.inr (Or.inr Z))(hd:(x == ("__debug__" : Str))=false:=by decide)
  (hcd:(x == ("__classdict__" : Str))=false:=by decide):QE X (.Name x pos) (Qd i):=⟨ZC hN hv hd hcd⟩
def aA{i j pos}:QE X (.Constant (.int i) j pos) (tC (.int i)):=⟨ZF⟩
def jB{b j pos}:QE X (.Constant (.bool b) j pos) (tC (.bl b)):=⟨λ_ _ _ H _ I h=>Constant_bool ⟨.bl b,H,I,rfl,h⟩⟩
def yJ{j pos}:QE X (.Constant .none j pos) (tC .non):=⟨λ_ _ _ H _ I h=>Constant_none ⟨.non,H,I,rfl,h⟩⟩
def gm{x j pos}:QE X (.Constant (.str x) j pos) (tC (.str x)):=⟨λ_ _ _ H _ I h=>Calls.Constant_str ⟨.str x,H,I.tok _,⟨_,rfl⟩,h⟩⟩
def aL{r:R2}(ho:OpR X (EH op) r)(ha:QE X a ta)(hb:QE X b tb):QE X (.BinOp a op b pos) (tOp r ta tb):=⟨by
 intro ac s σ H Q I h;exact wpAny_BinOp (ago ha.h hb.h I h λv u s2 x y H2 I2 rx ry q=>ho ac s2 σ H2 x y v u Q I2 rx ry q)⟩
def HD{op:UnaryOp}{r:V->Hp->VK->Prop}(ho:UnR X (unaryOp op) r)(ha:QE X a ta):QE X (.UnaryOp op a pos) (tUn r ta):=⟨aen ho ha.h⟩
def Zo(ha:QE X a ta):QE X (.UnaryOp .Not a pos) (X7 ta):=⟨by
 intro ac s σ H Q I h;refine UnaryOp_ (thE (ha.h ac s σ H _ I h) λv s1 x H1 I1 r1 q1=>?_);obtain⟨c,rfl,q1⟩:=q1;cases r1;exact not_of (EE ⟨.bl (!c),H1,I1,rfl,q1⟩)⟩
def rz{op:CmpOp}{r:R2}(ho:OpR X (EV op) r)(ha:QE X a ta)(hb:QE X b tb)(hm:HK op b=false):QE X (.Compare a [op] [b] pos) (tOp r ta tb):=⟨by
 intro ac s σ H Q I h;exact wpAny_Compare1 (ago ha.h hb.h I h λv u s2 x y H2 I2 rx ry q=>ho ac s2 σ H2 x y v u Q I2 rx ry q) hm⟩
def cB{op:CmpOp}{r:R2}(ho:OpR X (EV op) r)(ha:QE X a ta)(hb:QE X b tb)(hm:HK op b=false):QT X (.Compare a [op] [b] pos) (zy (tOp r ta tb)):=⟨by
 intro ac s σ H Q I h;refine wpAny_isTrue_Compare1 (thE (ha.h ac s σ H _ I h) λv s1 x H1 I1 r1 q1=>thE (hb.h ac s1 σ H1 _ I1 q1) λu s2 y H2 I2 r2 q2=>
  thn (ho ac s2 σ H2 x y v u _ I2 r1 r2 q2) λc s3 ⟨z,H3,I3,r3,k,e,q3⟩=>?_) hm
 subst e;cases r3;exact EE ⟨H3,I3,q3⟩⟩
def CJ{op}(h:QE X a ta):QE X (.BoolOp op [a] pos) ta:=⟨λac s σ H Q I hw=>BoolOp_one (h.h ac s σ H Q I hw)⟩
def CN(ha:QE X a ta)(hb:QE X (.BoolOp .And (b::aE) pos) tb):QE X (.BoolOp .And (a::b::aE) pos) (Yk ta tb):=⟨by
 intro ac s σ H Q I h;refine BoolOp_and (thE (ha.h ac s σ H _ I h) λv s1 x H1 I1 r1 q1=>?_);obtain⟨c,rfl,q1⟩:=q1;cases r1;refine EE ?_;cases c with
 | true=>exact hb.h ac s1 σ H1 Q I1 q1
 | false=>exact⟨.bl false,H1,I1,rfl,q1⟩⟩
def agP(ha:QE X a ta)(hb:QE X (.BoolOp .Or (b::aE) pos) tb):QE X (.BoolOp .Or (a::b::aE) pos) (aeE ta tb):=⟨by
 intro ac s σ H Q I h;refine BoolOp_or (thE (ha.h ac s σ H _ I h) λv s1 x H1 I1 r1 q1=>?_);obtain⟨c,rfl,q1⟩:=q1;cases r1;refine EE ?_;cases c with
 | false=>exact hb.h ac s1 σ H1 Q I1 q1
 | true=>exact⟨.bl true,H1,I1,rfl,q1⟩⟩
def uK(hc:QT X c tA)(ha:QE X a ta)(hb:QE X b tb):QE X (.IfExp c a b pos) (tIf tA ta tb):=⟨by
 intro ac s σ H Q I h;refine wpAny_IfExp (thT (hc.h ac s σ H _ I h) λd s1 H1 I1 q1=>?_);cases d with
 | true=>exact ha.h ac s1 σ H1 Q I1 q1
 | false=>exact hb.h ac s1 σ H1 Q I1 q1⟩
def aU{r:R2}(hr:IxR X r)(ha:QE X a ta)(hb:QE X b tb)(hs:Vn b):QE X (.Subscript a b pos) (tOp r ta tb):=⟨by
 intro ac s σ H Q I h;exact Subscript_ (ago ha.h hb.h I h λv u s2 x y H2 I2 rx ry q=>hr a b ac s2 σ H2 x y v u Q I2 rx ry q (hs _ _))⟩
def bI(h:QA X es t):QE X (.List es pos) (Ls t):=⟨by
 intro ac s σ H Q I hq;refine wpAny_List_spliced (thn (h.h pos ac s σ H _ I hq) λus s1 ⟨xs,H1,I1,r,z,q⟩=>⟨by rw[<- r.length];exact z,?_⟩);have hf:H1 s1.heap.objs.size=IF:=I1.hok.fresh (A3 _);refine⟨.ref s1.heap.objs.size,upd H1 s1.heap.objs.size (.lst xs),I1.laid (t':=s1.toks) (λb u e=>AE _ e) (A3 _) ?_,rfl,q _ hf⟩;exact⟨z,us,0,r,AU _ rfl⟩⟩
def cD{x1}(h:QA X es t):QE X (.Tuple es x1 pos) (Qe t):=⟨by
 intro ac s σ H Q I hq;refine wpAny_Tuple_spliced (thn (h.h pos ac s σ H _ I hq) λus s1 ⟨xs,H1,I1,r,z,q⟩=>⟨by rw[<- r.length];exact z,?_⟩);have hf:H1 s1.heap.objs.size=IF:=I1.hok.fresh (A3 _);refine⟨.ref s1.heap.objs.size,upd H1 s1.heap.objs.size (.tup xs),I1.laid (t':=s1.toks) (λb u e=>AE _ e) (A3 _) ?_,rfl,q _ hf⟩;exact⟨z,us,r,⟨_,AU _ rfl,rfl,_,rfl⟩⟩⟩
def aq:QA X [] wD:=⟨λ_ _ _ _ H Q I h=>C6 ⟨[],H,I,.nil,h⟩⟩
def ak(ha:QE X e te)(hr:QA X es t)(hs:AH (e::es) X.env=(false,eval e X.env)::AH es X.env:=by rfl):QA X (e::es) (jX te t):=⟨by
 intro pos ac s σ H Q I h;rw[hs];show AI _ _ (spliced ((false,eval e X.env)::CO pos (AH es X.env))) _ _ s;refine C0 (thE (ha.h ac s σ H _ I h) λu s1 x H1 I1 r1 q1=>?_);exact thA (hr.h pos ac s1 σ H1 _ I1 q1) λus s2 xs H2 I2 r2 q2=>⟨x::xs,H2,I2,.cons r1 r2,q2⟩⟩
def bx(C:Cal X.prog X.w X.K X.mg X.base x k ps sp)(hr:gw k X.A)(hg:Gl X x)(i6:Bn x)(ha:QA X (e::es) t)
  (he:AH (e::es) X.env=(false,eval e X.env)::AH es X.env:=by rfl)(bz:(CO pos (AH es X.env)).any (·.1)=false:=by rfl):QE X (.Call (.Name x p) (e::es) [] pos) (uJ sp [] E0 t):=⟨ aft C hr hg ha.h i6.hd he bz⟩
def bO(hc:dm X (.builtin id) r)(hg:Gl X x)(hm:X.mg x=IF)(hv:Ev x=ID (.builtin id))(b:Bn x)(ha:QA X (e::es) t)
  (he:AH (e::es) X.env=(false,eval e X.env)::AH es X.env:=by rfl)(bz:(CO pos (AH es X.env)).any (·.1)=false:=by rfl):QE X (.Call (.Name x p) (e::es) [] pos) (tCB r t):=⟨ZM hc hg hm hv ha.h b.hn b.hd he bz⟩
def mL(hc:dm X (.type T) r)(hg:Gl X x)(hm:X.mg x=IF)(hv:Ev x=ID (.type T))(b:Bn x)(ha:QA X (e::es) t)
  (he:AH (e::es) X.env=(false,eval e X.env)::AH es X.env:=by rfl)(bz:(CO pos (AH es X.env)).any (·.1)=false:=by rfl):QE X (.Call (.Name x p) (e::es) [] pos) (tCB r t):=⟨Wa hc hg hm hv ha.h b.hn b.hd he bz⟩
def jK(n:String)(hg:Gl X x)(hm:X.mg x=IF)(hv:Ev x=ID (.type n))(b:Bn x):QE X (.Name x pos) (tC (.ty n)):=⟨ac1 hg hm hv Z b.hn b.hd⟩
def rm(ha:QT X a tA):QT X (.UnaryOp .Not a pos) (X8 tA):=⟨by
 intro ac s σ H Q I h;exact isTrue_not (ha.h ac s σ H (λc H1=>Q (!c) H1) I h)⟩
def iH(h:QE X e te)(he:∀ff,isTrue e X.env ff=(do let v <- ff;F4 e.pos;FH [v] (truthy v)):=by intro _;rfl):QT X e (tB te):=⟨by
 intro ac s σ H Q I hw;refine isTrue_plain (thE (h.h ac s σ H _ I hw) λv s1 x H1 I1 r1 q1=>?_) (he _);obtain⟨d,rfl,q⟩:=q1;cases r1;exact EE ⟨H1,I1,q⟩⟩
def Bp(ha:QT X a tA):QW X (.BoolOp .And [a] pos) tA:=⟨by
 intro wh ac s σ H Q I h;refine isTrue_and (thn (ha.h ac s σ H Q I h) λc s1 e=>?_);cases c with
 | true=>exact isTrue_and_nil e
 | false=>exact e⟩
def Cz(ha:QT X a tA):QW X (.BoolOp .Or [a] pos) tA:=⟨by
 intro wh ac s σ H Q I h;refine isTrue_or (thn (ha.h ac s σ H Q I h) λc s1 e=>?_);cases c with
 | false=>exact isTrue_or_nil e
 | true=>exact e⟩
def JR(ha:QT X a tA)(hb:QW X (.BoolOp .And (b::aE) pos) tB'):QW X (.BoolOp .And (a::b::aE) pos) (abQ tA tB'):=⟨by
 intro wh ac s σ H Q I h;refine isTrue_and (thT (ha.h ac s σ H _ I h) λc s1 H1 I1 q1=>?_);cases c with
 | true=>exact hb.h wh ac s1 σ H1 Q I1 q1
 | false=>exact⟨H1,I1,q1⟩⟩
def Hz(ha:QT X a tA)(hb:QW X (.BoolOp .Or (b::aE) pos) tB'):QW X (.BoolOp .Or (a::b::aE) pos) (tOr tA tB'):=⟨by
 intro wh ac s σ H Q I h;refine isTrue_or (thT (ha.h ac s σ H _ I h) λc s1 H1 I1 q1=>?_);cases c with
 | true=>exact⟨H1,I1,q1⟩
 | false=>exact hb.h wh ac s1 σ H1 Q I1 q1⟩
def JS(h:QW X e tA):QT X e tA:=⟨h.h.pt⟩
def cQ:QB X [] Lr:=⟨λ_ _ σ H _ I h=>KM ⟨σ,H,I,h⟩⟩
def aN(h:QS X st ts):QB X [st] ts:=⟨acF h.h⟩
def aD(h:QS X st ts)(h2:QB X ZT us):QB X (st::ZT) (Vz ts us):=⟨Zt h.h h2.h⟩
def aZ(he:QE X e te):QS X (.Return (ID e) pos) (Qf te):=⟨by
 intro ac s σ H D I h;exact wpAny_Return_some (thE (he.h ac s σ H _ I h) λv s1 x H1 I1 r1 q1=>⟨x,σ,H1,I1,r1,q1⟩)⟩
def fu{c:Expr}{a b:List Stmt}{tc:TT}(hc:QT X c tc)(ha:QB X a ts)(hb:QB X b us):QS X (.If c a b pos) (VB tc ts us):=⟨by
 intro ac s σ H D I h;refine wpAny_If (thT (hc.h ac s σ H _ I h) λd s1 H1 I1 q1=>?_);cases d with
 | true=>exact ha.h ac s1 σ H1 D I1 q1
 | false=>exact hb.h ac s1 σ H1 D I1 q1⟩
def jJ(he:QE X e te)(hs:JI e IF pos.line X.env=pure false:=by rfl):QS X (.Expr e pos) (Lw te):=⟨by
 intro ac s σ H D I h;exact wpAny_Expr_any (thE (he.h ac s σ H _ I h) λv s1 x H1 I1 r1 q1=>⟨σ,H1,I1,q1⟩) I.quiet hs⟩
def aY(h:Nm X.N X.env.scope i x)(hN:X.N.Nodup)(he:QE X e te)(hs:JI e (ID (.Name x ba)) pos.line X.env=pure false:=by rfl)(hf:X.fn x=true\/X.env.scope.names.lookup x=ID .local:=by exact .inl Z) :
  QS X (.Assign [.Name x ba] e pos) (z8 te (lF i)):=⟨ae9 hN h.hN h.hv he.h hs hf⟩
def oZ(he:QE X e te)(hg:QG X tg g)(hs:HI [tg] e pos.line X.env=pure false:=by rfl)(hw:Md [tg] e X.env=pure IF:=by rfl)
  (h1:(D8 [tg] X.env).map (·.2)=[E3 tg X.env]:=by rfl):QS X (.Assign [tg] e pos) (z8 te g):=⟨by
 intro ac s σ H D I h;refine wpAny_Assign_stores (thE (he.h ac s σ H _ I h) λv s1 x H1 I1 r1 q1=>?_) hs hw;rw[h1];exact thn (hg.h ac s1 σ H1 x v _ I1 r1 q1) λ_ s2 q=>q⟩
def Qw{x y:Str}{a b:Expr}{ta:TA}{px py pt:Pos}{kt k2 pt2}(hc:X.calm=true)(hN:X.N.Nodup)(hi:X.N[i]?=ID x)(hj:X.N[j]?=ID y)(gg:i≠j)
  (hx:X.env.scope.names.lookup x=ID .local)(hy:X.env.scope.names.lookup y=ID .local)(ha:QA X [a,b] ta)
  (hw:Md [.Tuple [.Name x px,.Name y py] kt pt] (.Tuple [a,b] k2 pt2) X.env=pure (ID [x,y]))
  (hs:HI [.Tuple [.Name x px,.Name y py] kt pt] (.Tuple [a,b] k2 pt2) pos.line X.env=pure false:=by rfl) :
  QS X (.Assign [.Tuple [.Name x px,.Name y py] kt pt] (.Tuple [a,b] k2 pt2) pos) (aeD i j ta):=⟨by
 intro ac s σ H D I h;rw[exec_Assign_arm];refine An (C4 ?_);rw[hs];refine An (Au ?_);rw[if_neg δ];refine An (Tuple_ (thA (ha.h _ ac s σ H _ I h) λus s1 vs H1 I1 r1 q1=>?_));obtain⟨v,w,e1,q1⟩:=q1;subst e1;obtain⟨u1,u2,rfl,rv,lS⟩:∃u1 u2,us=[u1,u2]/\RelV v u1/\RelV w u2:=by
  cases r1 with
  | cons p q=>
   cases q with
   | cons p' q'=>
    cases q';exact⟨_,_,rfl,p,p'⟩
 refine BE ?_ (by show 2<=AJ;decide);have I2:Inv X ac σ H1 { s1 with heap:=s1.heap.push { cls:=.type "tuple",data:=.seq [u1,u2].toArray } }:=I1.kept (t':=s1.toks) λb o e=>AE _ e;rw[hw];refine An (Au ?_);show AI (AN X.prog X.w) X.A (do rule "assign.swapped-stores";let items <- unpackItems (.ref s1.heap.objs.size) 2 IF;assignInOrder [λv=>bindName X.env y v,λv=>bindName X.env x v] items.reverse;pure Flow.next) _ _ _;refine An (DI (An (unpackItems_tuple (items:=#[u1,u2]) (I.ok.hd hc) (IsTup.new s1.heap _) λh' UC=>?_)));have I3:=I2.kept (h':=h') (t':=s1.toks) λb o e=>UC b o (BO (A6 e)) e;show AI _ _ (assignInOrder [λv=>bindName X.env y v,λv=>bindName X.env x v] [u2,u1] >>= λ_=>pure Flow.next) _ _ _;refine An (assignInOrder_cons (wpAny_bindName (qQ I3 hN hj (.inl hy) lS (λs2 I4=>?_) (.inr hy))));refine assignInOrder_cons (wpAny_bindName (qQ I4 hN hi (.inl hx) rv (λs3 I5=>assignInOrder_nil (Au ?_)) (.inr hx)));rw[List.set_comm _ _ (Co gg)] at I5;exact⟨_,H1,I5,q1⟩⟩
def Zj{c:Expr}{body:List Stmt}{tc:TT}(hp:PassesOwn (AN X.prog X.w) X.A X.env X.xe)(hc:QT X c tc)(hb:QB X body ts):QS X (.While c body [] pos) (Qc tc ts):=⟨by
 intro ac s σ H D I h;obtain⟨W,⟨m0,w0⟩,bE⟩:=h;refine wpAny_While (codeAny_whileLoop (λn s'=>∃σ' H',Inv X ac σ' H' s'/\W n σ' H') ?_ m0 ⟨σ,H,I,w0⟩);rintro n s1 ⟨σ1,H1,I1,w1⟩;refine Fu hp (thT (hc.h ac s1 σ1 H1 _ I1 (bE n σ1 H1 w1)) λb s2 H2 I2 q2=>?_);cases b with
 | true=>
  obtain⟨N,hN,q2⟩:=q2;rw[if_pos rfl];refine Fu hp (thn (hb.h ac s2 σ1 H2 _ I2 q2) λf s3 q3=>?_);cases f with
  | next=>
   obtain⟨σ3,H3,I3,n3⟩:=q3;obtain⟨m',hm,w3⟩:=hN σ3 H3 n3;exact⟨m',hm,σ3,H3,I3,w3⟩
  | cont=>
   obtain⟨σ3,H3,I3,n3⟩:=q3;obtain⟨m',hm,w3⟩:=hN σ3 H3 n3;exact⟨m',hm,σ3,H3,I3,w3⟩
  | brk=>exact q3
  | ret v=>exact q3
 | false=>
  rw[if_neg A8];exact KM ⟨σ1,H2,I2,q2⟩⟩
def gh{body:List Stmt}(hp:PassesOwn (AN X.prog X.w) X.A X.env X.xe)(hc:X.calm=true)(hi:QI X tg iter wi)(hg:QG X tg g)(hb:QB X body ts)
  (hs:∀x,Cb iter X.env x=pure x:=by intro _;rfl):QS X (.For tg iter body [] pos) (aeF wi g ts):=⟨afc hp hc hi.h hg.h hb.h hs⟩
def dF(h:Nm X.N X.env.scope i x)(hN:X.N.Nodup)(hf:X.fn x=true\/X.env.scope.names.lookup x=ID .local:=by exact .inl Z):QG X (.Name x pos) (lF i):=⟨Uj hN h.hN h.hv hf⟩
def bD(i:Nat)(hN:X.N.Nodup)(hi:X.N[i]?=ID x)(hx:Loc X.env.scope x)(hf:X.fn x=true\/X.env.scope.names.lookup x=ID .local:=by first|exact .inl rfl|exact .inr Z):QG X (.Name x pos) (lF i):=⟨Uj hN hi hx hf⟩
def dM:QGs X [] agd:=⟨by
 intro ac s σ H vs us Q I r h;obtain⟨e,h⟩:=h;subst e;cases r;exact assignInOrder_nil ⟨σ,H,I,h⟩⟩
def aV(h1:QG X e g)(h2:QGs X es gs)(hs:(D8 (e::es) X.env).map (·.2)=E3 e X.env::(D8 es X.env).map (·.2):=by rfl):QGs X (e::es) (aaR g gs):=⟨by
 intro ac s σ H vs us Q I r h;obtain⟨v,vr,e1,h⟩:=h;subst e1;cases r with
 | cons r rr=>
  rw[hs];refine assignInOrder_cons (thn (h1.h ac s σ H _ _ _ I r h) λ_ s1 ⟨σ1,H1,I1,q1⟩=>?_);exact h2.h ac s1 σ1 H1 _ _ Q I1 rr q1⟩
def gj(hc:X.calm=true)(h:QGs X es gs)(hn:(D8 es X.env).length=n:=by rfl)(gz:(D8 es X.env).findIdx? (·.1)=IF:=by rfl):QG X (.Tuple es k pos) (U6 n gs):=⟨by
 intro ac s σ H v u Q I r hw;unfold U6 at hw;split at hw
 ·rename_i a;unfold gtq at hw;split at hw
  ·rename_i xs e;exact afj hc h.h hn gz ac s σ H _ u Q I r ⟨a,xs,rfl,SqT.of e,hw.1,hw.2⟩
  exact hw.elim
 exact hw.elim⟩
def aby(o:Expr)(c j)(p pos:Pos)(env:Env)(v:Ap):E3 (.Subscript o (.Constant c j p) pos) env v=(do
   let ov <- FH [v] (eval o env)
   let iv <- FH [v,ov] (eval (.Constant c j p) env)
   F4 pos
   FH [v,ov,iv] (setItem ov iv v)
   release [v,ov,iv] []):=rfl
def abx(o:Expr)(y)(p pos:Pos)(env:Env)(v:Ap):E3 (.Subscript o (.Name y p) pos) env v=(do
   let ov <- FH [v] (eval o env)
   let iv <- FH [v,ov] (eval (.Name y p) env)
   F4 pos
   FH [v,ov,iv] (setItem ov iv v)
   release [v,ov,iv] []):=rfl
def JT{c j}{t:SQ}(ho:QE X o to)(hi:QE X (.Constant c j p) ti)(hs:S5 X t):QG X (.Subscript o (.Constant c j p) pos) (aaP to ti t):=⟨QD ho.h hi.h hs (λv=>aby o c j p pos X.env v)⟩
def Ub{y}{t:SQ}(ho:QE X o to)(hi:QE X (.Name y p) ti)(hs:S5 X t):QG X (.Subscript o (.Name y p) pos) (aaP to ti t):=⟨QD ho.h hi.h hs (λv=>abx o y p pos X.env v)⟩
def iB(hg:Gl X "range")(hm:X.mg "range" = IF)(ha:QA X [a] t)(hs:AH [a] X.env=[(false,eval a X.env)]:=by rfl):QI X tg (.Call (.Name "range" p) [a] [] pos) (sy t):=⟨by
 intro ac s σ H R I h;refine Call_ (iM I hg hm boot_range (BI (thA (ha.h pos ac s σ H _ I h) λus s1 vs H1 I1 r1 q1=>?_) hs Z));obtain⟨j,e,q1,q2,q⟩:=q1;subst e;cases r1 with
 | cons r rr=>
  cases rr;obtain⟨t,rfl⟩:=r;exact call_range_1 (Mx I1 ω ω q1 q2 (by simpa using q))⟩
def tZ(hg:Gl X "range")(hm:X.mg "range" = IF)(ha:QA X [a,b] t)(hs:AH [a,b] X.env=[(false,eval a X.env),(false,eval b X.env)]:=by rfl)(eK:AH [b] X.env=[(false,eval b X.env)]:=by rfl):QI X tg (.Call (.Name "range" p) [a,b] [] pos) (Io t):=⟨by
 intro ac s σ H R I h;refine Call_ (iM I hg hm boot_range (BI (thA (ha.h pos ac s σ H _ I h) λus s1 vs H1 I1 r1 q1=>?_) (by rw[hs,eK]) (by rw[eK];rfl)));obtain⟨i,j,e,⟨q1,q2,q3,q4⟩,q⟩:=q1;subst e;cases r1 with
 | cons r rr=>
  cases rr with
  | cons r' rr=>
   cases rr;obtain⟨t,rfl⟩:=r;obtain⟨t',rfl⟩:=r';exact call_range_2 (Mx I1 q1 q2 q3 q4 q)⟩
def eE:QC X [] Vy:=⟨λ_ _ _ H _ I h=>wpAny_tests_nil ⟨H,I,h⟩⟩
end
def Fun.okq{x:Str}{st:Stmt}{N:List Str}{k:Nat}(F:Fun K x qual st f fd)(S:bw N ps (aj st))(len:∀vs H Q E,sp vs H Q E->vs.length=ps.length)
   (dE:∀(aw:Ap)(A:Bz)(outer:List Env)(s:AB)(H:Hp)(vs:List V)(Q:VK)(E:XK),gw k (A.deeper (F9 qual (aj st) s.heap.objs.size f aw))->sp vs H Q E ->
   ∃t,QB (KN CX0 P w K mg base N qual (aj st) f aw A outer s H E).nox (cZ st) t/\t { nx:=λ_ H'=>Q .non H',rt:=Q } (L2.start N vs) H):c7 P w K mg base CX0 (k+1) f fd ps sp:=
 F.ok S len λaw A outer s H vs Q E hr kL=>by
  obtain⟨t,h,q⟩:=dE aw A outer s H vs Q E hr kL;exact⟨t,h.h,q⟩
theorem Qy:∀(ns:List Int),preSum (λi=>(ns[i]?).getD 0) ns.length=ns.sum:=by
 have key:∀(f:Nat->Int)(n:Nat),preSum f (n+1)=preSum f n+f n:=λf n=>rfl;have key2:∀(n:Nat)(f g:Nat->Int),(∀i,i<n->f i=g i)->preSum f n=preSum g n:=by
  intro n
  induction n with
  | zero=>intros;rfl
  | succ n ih=>intro f g h;rw[key,key,ih f g λi hi=>h i (D3 hi),h n (DD n)]
 have TW:∀(n:Nat)(f:Nat->Int),preSum f (n+1)=f 0+preSum (λi=>f (i+1)) n:=by
  intro n
  induction n with
  | zero=>intro f;show(0:Int)+f 0=f 0+0;omega
  | succ n ih=>intro f;rw[key,ih,key];omega
 intro ns
 induction ns with
 | nil=>rfl
 | cons a r ih=>
  rw[B0,TW,sum_cons,<- ih];rfl
def smq(o:Option HO)(H:Hp)(Q:VK):Prop:=match o with
 | some (.lst xs)=>∃ns:List Int,xs=ns.map At/\Q (.int ns.sum) H
 | _=>False
def YW:List V->Hp->VK->Prop:=λxs H Q=>match xs with
 | [.ref p]=>smq (H p) H Q
 | _=>False
def V1(p:IN)(H:Hp)(Q:VK):YW [.ref p] H Q=smq (H p) H Q:=rfl
def abW(xs:List V)(H:Hp)(Q:VK):smq (ID (.lst xs)) H Q=∃ns:List Int,xs=ns.map At/\Q (.int ns.sum) H:=rfl
theorem kh(hc:X.calm=true):dm X (.builtin "sum") YW:=by
 intro ac s σ H xs us Q I r h;unfold YW at h;split at h
 ·rename_i p;unfold smq at h;split at h
  ·rename_i ys e;obtain⟨ns,rfl,q⟩:=h;cases r with
   | cons r rr=>
    cases rr;cases r;obtain⟨af,rv,pl,hz⟩:=I.list (SqL.of e);have hl:=rv.length;have lt:p<s.heap.objs.size:=by obtain⟨_,e,_⟩:=pl.isList;exact A6 e
    refine call_sum_walkG (FK pl.isList ?_);refine⟨s.heap.objs.size,[s.heap.objs.size,p],[s.heap.objs.size],af.toArray.size,_,_,λi=>(ns[i]?).getD 0,rfl,Walks.list (A:=X.A.in1) (I.ok.hd hc) _ p (BO lt) _,
     ⟨⟨_,AU _ rfl,rfl,rfl⟩,pl.isList.push _⟩,?_,λi v hP=>?_,λh' tk t' hk=>?_⟩
    ·intro b hb;rw[CY];simp only[AX,BB,or_false] at hb;rcases hb with rfl|rfl
     ·exact DD _
     exact D3 lt
    ·have e1:af[i]?=ID v:=by simpa using hP
     have hi:i<af.length:=by
      rcases Go i af.length with z|z
      ·exact z
      rw[B4 z] at e1;cases e1
     have wp:i<ns.length:=by rw[<- hl,AG] at hi;exact hi
     obtain⟨u,hu,ru⟩:=rv.get (i:=i) (x:=.int ns[i]) (by rw[AM,AC wp];rfl);rw[e1] at hu;cases hu;obtain⟨t,rfl⟩:=ru;exact⟨t,by show _=GE ((ns[i]?).getD 0) t;rw[AC wp];rfl⟩
    have e2:af.toArray.size=ns.length:=by rw[A0,<- hl,AG]
    rw[e2,Qy];refine⟨.int _,H,I.kept λb o e=>hk b o (λhm=>?_) (AE _ e),⟨t',rfl⟩,q⟩;rw[AL.mp hm] at e;exact ED _ (A6 e)
  exact h.elim
 exact h.elim
def Qu(i:Int)(n:Nat):List V:=(BF n).map λk=>At (i+(k:Nat))
def Yc(ta:TA):TE:=λσ H Q=>ta σ H λvs H1=>∃i j:Int,vs=[.int i,.int j]/\(-(2^62)<=i/\i<2^62/\-(2^62)<=j/\j<2^62)/\(j-i).toNat<=AJ/\∀p,H1 p=IF->Q (.ref p) (upd H1 p (.lst (Qu i (j-i).toNat)))
theorem S7:∀{xs:List V}{us:List Ap},xs.length=us.length->(∀(i:Nat) x u,xs[i]?=ID x->us[i]?=ID u->RelV x u)->Vals xs us
 | [],[],_,_=>.nil
 | [],_::_,h,_=>by cases h
 | _::_,[],h,_=>by cases h
 | x::xs,u::us,h,f=>.cons (f 0 x u rfl rfl) (S7 (by simpa using h) λi y v h1 h2=>f (i+1) y v h1 h2)
def afO:AJ<=2^24:=by decide
def acz{a b:Expr}{p:Pos}(hc:X.calm=true)(mS:Gl X "list")(mB:X.mg "list" = IF)(hg:Gl X "range")(hm:X.mg "range" = IF)(ha:QA X [a,b] ta)
  (hs:AH [a,b] X.env=[(false,eval a X.env),(false,eval b X.env)]:=by rfl)(eK:AH [b] X.env=[(false,eval b X.env)]:=by rfl)
  (he:AH [.Call (.Name "range" p2) [a,b] [] ag] X.env=[(false,eval (.Call (.Name "range" p2) [a,b] [] ag) X.env)]:=by rfl) :
  QE X (.Call (.Name "list" p) [.Call (.Name "range" p2) [a,b] [] ag] [] pos) (Yc ta):=⟨by
 intro ac s σ H Q I h;refine DU (iM I mS mB F6 ?_ δ δ);refine BI ?_ he rfl;rw[he];show AI _ _ (spliced ((false,eval (.Call (.Name "range" p2) [a,b] [] ag) X.env)::[])) _ _ s;refine C0 ?_;refine Call_ (iM I hg hm boot_range (BI (thA (ha.h ag ac s σ H _ I h) λus s1 vs H1 I1 r1 q1=>?_) (by rw[hs,eK]) (by rw[eK];rfl)));obtain⟨i,j,e,⟨q1,q2,q3,q4⟩,hz,q⟩:=q1;subst e;cases r1 with
 | cons r rr=>
  cases rr with
  | cons r' rr=>
   cases rr;obtain⟨t,rfl⟩:=r;obtain⟨t',rfl⟩:=r';refine call_range_2 (C6 ?_);refine call_list_range (n:=(j-i).toNat) (I1.ok.hd hc) (IsRange.new ..) (small_one q1 q2 q3 q4) (by rw[rangeSize_one];split <;> omega) (BU hz afO) λh' tk ah c' kp e it=>?_
   have I2:Inv X ac σ H1 { s1 with heap:=s1.heap.push { cls:=.type "range",data:=.fields #[.int i t,.int j t',.int 1 s1.toks] },toks:=s1.toks+1 }:=I1.kept λb o e=>AE _ e;have hf:H1 (s1.heap.push { cls:=.type "range",data:=.fields #[.int i t,.int j t',.int 1 s1.toks] }).objs.size=IF:=I2.hok.fresh (A3 _);refine⟨.ref _,_,I2.laid (t':=tk) kp (A3 _) (show bW X.prog X.w _ h' _ (.lst (Qu i (j-i).toNat)) from⟨?_,ah.toList,c',?_,by simpa using e⟩),rfl,q _ hf⟩
   ·simpa [Qu] using hz
   obtain⟨it1,sr⟩:=it;refine S7 (by simp[Qu,it1]) λk x u h1 h2=>?_;have il:ah[k]?=ID u:=by simpa using h2
   obtain⟨t9,rfl⟩:=sr k u il;unfold Qu at h1;rw[AM] at h1;have hk:k<(j-i).toNat:=by
    rcases Go k (j-i).toNat with z|z
    ·exact z
    rw[B4 (by simpa using z)] at h1;cases h1
   rw[EC hk] at h1;cases h1;exact⟨t9,by rw[Int.mul_one]⟩⟩
def adq(a b:Option HO)(H:Hp)(Q:VK):Prop:=match a,b with
 | some (.lst xs),ID (.lst zs)=>xs.length+zs.length<=AJ/\∀p,H p=IF->Q (.ref p) (upd H p (.lst (xs++zs)))
 | _,_=>False
def Cy:R2:=λx y H Q=>match x,y with
 | .int i,.int j=>Q (.int (i+j)) H
 | .ref p,.ref q=>adq (H p) (H q) H Q
 | _,_=>False
def aco(i j:Int)(H:Hp)(Q:VK):Cy (.int i) (.int j) H Q=Q (.int (i+j)) H:=rfl
def T9(p q:IN)(H:Hp)(Q:VK):Cy (.ref p) (.ref q) H Q=adq (H p) (H q) H Q:=rfl
def SJ(xs zs:List V)(H:Hp)(Q:VK):adq (ID (.lst xs)) (ID (.lst zs)) H Q=(xs.length+zs.length<=AJ/\∀p,H p=IF->Q (.ref p) (upd H p (.lst (xs++zs)))):=rfl
def aW:OpR X (EH .Add) Cy:=by
 intro ac s σ H x y v u Q I rx ry h;unfold Cy at h;split at h
 ·exact afD ac s σ H _ _ v u Q I rx ry ⟨_,_,rfl,rfl,h⟩
 ·rename_i p q;unfold adq at h;split at h
  ·rename_i xs zs e1 e2;exact afC ac s σ H _ _ v u Q I rx ry ⟨p,q,xs,zs,rfl,rfl,e1,e2,h.1,h.2⟩
  exact h.elim
 exact h.elim
def eqL:List V->List V->Bool
 | [],[]=>true
 | x::xs,y::ys=>eqV x y&&eqL xs ys
 | _,_=>false
def aha(a b:Option HO)(H:Hp)(Q:VK):Prop:=match a,b with
 | some (.lst xs),ID (.lst zs)=>xs.all Ir=true/\zs.all Ir=true/\Q (.bl (!eqL xs zs)) H
 | _,_=>False
def Y6:R2:=λx y H Q=>match x,y with
 | .ref p,.ref q=>aha (H p) (H q) H Q
 | x,y=>rNe x y H Q
def aeY(i j:Int)(H:Hp)(Q:VK):Y6 (.int i) (.int j) H Q=rNe (.int i) (.int j) H Q:=rfl
def aeZ(i j:Bool)(H:Hp)(Q:VK):Y6 (.bl i) (.bl j) H Q=rNe (.bl i) (.bl j) H Q:=rfl
def aeX(i j:Str)(H:Hp)(Q:VK):Y6 (.str i) (.str j) H Q=rNe (.str i) (.str j) H Q:=rfl
theorem U9:∀(xs zs:List V),xs.length=zs.length->((BF xs.length).all λj=>match xs[j]?,zs[j]? with|some a,ID b=>eqV a b|_,_=>true)=eqL xs zs
 | [],[],_=>rfl
 | [],_::_,h=>by cases h
 | _::_,[],h=>by cases h
 | x::xs,z::zs,h=>by
  have ih:=U9 xs zs (by simpa using h);rw[B0,IU,all_cons,all_map];show(eqV x z&&_)=(eqV x z&&eqL xs zs);rw[<- ih];rfl
theorem U8:∀(xs zs:List V),xs.length≠zs.length->eqL xs zs=false
 | [],[],h=>absurd rfl h
 | [],_::_,_=>rfl
 | _::_,[],_=>rfl
 | x::xs,z::zs,h=>by
  show(eqV x z&&eqL xs zs)=false;rw[U8 xs zs (by simpa using h),Bool.and_false]
def pA(hu:X.A.units<FI):OpR X (EV .NotEq) Y6:=by
 intro ac s σ H x y v u Q I rx ry h;unfold Y6 at h;split at h
 ·rename_i p q;unfold aha at h;split at h
  ·rename_i xs zs e1 e2;obtain⟨f1,f2,q⟩:=h;cases rx;cases ry;obtain⟨bg,r1,qf,eW⟩:=I.list (SqL.of e1);obtain⟨a9,r2,qc,dC⟩:=I.list (SqL.of e2);have l1:=r1.length;have l2:=r2.length;by_cases hl:xs.length=zs.length
   ·refine SeqAt.RcNeAt.lists (e:=λj=>match xs[j]?,zs[j]? with|some a,ID b=>eqV a b|_,_=>true) qf.isList qc.isList (by simp only[A0];omega) hu (λj h1 h2=>?_) X.prog X.w X.xe (EP X ac σ Q) ?_
    ·have j1:j<xs.length:=by simp only[A0] at h1;omega
     have j2:j<zs.length:=ω;have g1:xs[j]?=ID xs[j]:=AC j1;have g2:zs[j]?=ID zs[j]:=AC j2;obtain⟨u1,oI,pV⟩:=r1.get g1;obtain⟨u2,NB,M2⟩:=r2.get g2;have k1:bg.toArray[j]=u1:=by
      have:=AK.mp oI;obtain⟨_,z⟩:=this;simpa using z
     have k2:a9.toArray[j]=u2:=by
      have:=AK.mp NB;obtain⟨_,z⟩:=this;simpa using z
     rw[k1,k2,g1,g2];exact agi pV M2 (FU.mp f1 _ (EB j1)) (FU.mp f2 _ (EB j2))
    rw[show bg.toArray.size=xs.length by simp only[A0];omega,U9 xs zs hl];exact⟨.bl _,H,I,rfl,q⟩
   rw[U8 xs zs hl] at q;refine SeqAt.RcNeAt.lists_lengths qf.isList qc.isList (by simp only[A0,bne_iff_ne,ne_eq];omega) hu X.prog X.w X.xe (EP X ac σ Q) ⟨.bl _,H,I,rfl,q⟩
  exact h.elim
 exact ag2 ac s σ H _ _ v u Q I rx ry h
structure aP(H:Hp)(p:IN)(B:Int):Prop where
 ex:∃a b c:Int,H p=ID (.lst [.int a,.int b,.int c])/\0<=a/\0<=b/\b<2147483629/\0<=c/\c<=B
def aP.same(h:aP H p B)(s:Same H H'):aP H' p B:=by
 obtain⟨a,b,c,e,r⟩:=h;exact⟨a,b,c,s _ _ e,r⟩
def aP.le{B':Int}(h:aP H p B)(l:B<=B'):aP H p B':=by
 obtain⟨a,b,c,e,r1,r2,r3,r4,r5⟩:=h;exact⟨a,b,c,e,r1,r2,r3,r4,ω⟩
def aP.ne{q:IN}(h:aP H p B)(n:H q=IF):q≠p:=by
 obtain⟨a,b,c,e,_⟩:=h;exact(aH e n).symm
def aP.net{q:IN}(h:aP H p B)(n:H q=ID (.tup xs)):q≠p:=by
 obtain⟨a,b,c,e,_⟩:=h;intro z;rw[z,e] at n;cases n
def Ys(K:AA):Sp:=λvs H Q _=>∃(a:IN)(ns:List Int)(k:Int),vs=[.ref a,.int k]/\SqL K H a (ns.map At)/\0<=k/\∀v:Int,Q (.int v) H
def Yo(K:AA):Sp:=λvs H Q _=>∃(a:IN)(ns:List Int)(k:Int),vs=[.ref a,.int k]/\SqL K H a (ns.map At)/\0<=k/\k<=100/\∀p H',H p=IF->Same H H'->aP H' p 0->Q (.ref p) H'
def mH(n:Nat):Sp:=λvs H Q _=>∃(p:IN)(m B:Int),vs=[.ref p,.int m]/\aP H p B/\B+(n:Int)<=1000100/\0<m/\m<2^70/\1<=n/\(1000000<=m->2<=n) /\
 ∀r H',0<=r->r<m->aR p H H'->aP H' p (B+n)->Q (.int r) H'
def afg(c:Int):∃v:Int,atI [At 2147483587,At 2147483579,At 2147483563,At 2147483549,At 2147483543,At 2147483497,At 2147483489] (c%7)=ID (.int v)/\0<v:=by
 have h1:0<=c%7:=FV _ δ;have h2:c%7<7:=ET _ δ;generalize c%7=d at h1 h2;have h3:d=0\/d=1\/d=2\/d=3\/d=4\/d=5\/d=6:=ω;rcases h3 with rfl|rfl|rfl|rfl|rfl|rfl|rfl
 ·exact⟨_,cG (j:=0) rfl,δ⟩
 ·exact⟨_,cG (j:=1) rfl,δ⟩
 ·exact⟨_,cG (j:=2) rfl,δ⟩
 ·exact⟨_,cG (j:=3) rfl,δ⟩
 ·exact⟨_,cG (j:=4) rfl,δ⟩
 ·exact⟨_,cG (j:=5) rfl,δ⟩
 exact⟨_,cG (j:=6) rfl,δ⟩
def wl(w s:Int):Int:=0-2^(w-1).toNat*s
inductive It1 where
 | one (a:Int)
 | rng (a b:Int)
 | bits (m v:Nat)
def itV:It1->List V
 | .one a=>[.str "is",.int a]
 | .rng a b=>[.str "from",.int a,.int b]
 | .bits m v=>[.str "bits",.int m,.int v]
structure ItemAt(H:Hp)(t:IN)(it:It1):Prop where
 h:H t=ID (.tup (itV it))
section
variable{Q:VK}
def KR{lo:Int}(hR:R=Xy mp g tc te σ Q)(hz:n<=AJ)(Pv:Nat->List V->St->Hp->Prop)(h0:Pv 0 [] (fO mp σ) H)(hl:∀i ae τ H,Pv i ae τ H->ae.length<=i)
  (hs:∀i ae τ H,i<n->Pv i ae τ H->g (.int (lo+i)) τ H λτ1 H4=>tc τ1 H4 λb H5=>if b=true then te τ1 H5 λv H6=>Pv (i+1) (ae++[v]) τ1 H6 else Pv (i+1) ae τ1 H5)
  (hd:∀ae τ H d,Pv n ae τ H->H d=IF->Q (.ref d) (upd H d (.lst ae))):R (Itr lo n) H:=by
 refine KY hR n hz Pv h0 hl (λi ae τ H hi _=>hi) (λae τ H _=>A3 n) (λi ae τ H x H3 hi p y=>?_) hd;obtain⟨rfl,rfl⟩:=y;exact hs i ae τ _ hi p
def jz(hR:R=Xy mp g tc te σ Q)(hz:xs.length<=AJ)(Pv:Nat->List V->St->Hp->Prop)(h0:Pv 0 [] (fO mp σ) H)(hl:∀i ae τ H,Pv i ae τ H->ae.length<=i)
  (hq:∀i ae τ H,Pv i ae τ H->SqL K H a xs)
  (hs:∀i x ae τ H,xs[i]?=ID x->Pv i ae τ H->g x τ H λτ1 H4=>tc τ1 H4 λb H5=>if b=true then te τ1 H5 λv H6=>Pv (i+1) (ae++[v]) τ1 H6 else Pv (i+1) ae τ1 H5)
  (hd:∀ae τ H d,Pv xs.length ae τ H->H d=IF->Q (.ref d) (upd H d (.lst ae))):R (Itl K a) H:=by
 refine KY hR xs.length hz Pv h0 hl (λi ae τ H hi p=>⟨xs,xs[i],hq i ae τ H p,AC hi⟩) (λae τ H p=>⟨xs,hq _ ae τ H p,A3 _⟩) (λi ae τ H x H3 hi p y=>?_) hd;obtain⟨rfl,hx⟩:=y;exact hs i x ae τ _ (hx xs (hq i ae τ _ p)) p
def agl(hR:R=Xy mp g tc te σ Q)(hz:xs.length<=AJ)(Pv:Nat->List V->St->Hp->Prop)(h0:Pv 0 [] (fO mp σ) H)(hl:∀i ae τ H,Pv i ae τ H->ae.length<=i)
  (hq:∀i ae τ H,Pv i ae τ H->SqL K H a xs)
  (hs:∀(i:Nat) x ae τ H p,xs[i]?=ID x->Pv i ae τ H->H p=IF->g (.ref p) τ (upd H p (.tup [.int (i:Nat),x])) λτ1 H4=>tc τ1 H4 λb H5=>if b=true then te τ1 H5 λv H6=>Pv (i+1) (ae++[v]) τ1 H6 else Pv (i+1) ae τ1 H5)
  (hd:∀ae τ H d,Pv xs.length ae τ H->H d=IF->Q (.ref d) (upd H d (.lst ae))):R (Ite K a) H:=by
 refine KY hR xs.length hz Pv h0 hl (λi ae τ H hi p=>⟨xs,xs[i],hq i ae τ H p,AC hi⟩) (λae τ H p=>⟨xs,hq _ ae τ H p,B4 (A3 _)⟩) (λi ae τ H x H3 hi p y=>?_) hd;obtain⟨q,x1,rfl,oP,rfl,hx⟩:=y;exact hs i x1 ae τ _ q (hx xs (hq i ae τ _ p)) p oP
end
def nW(l:List Nat):List V:=l.map λk=>At (k:Nat)
def Nf(l:List Nat):(nW l).length=l.length:=by simp[nW]
def Wm(l:List Nat):(nW l).all Ir=true:=by
 rw[FU];intro x hx;obtain⟨k,_,rfl⟩:=Ch.mp hx;rfl
def adR(g:TG)(gs:TGs)(x:V)(xs:List V)(σ:St)(H:Hp)(Q:St->Hp->Prop):aaR g gs (x::xs) σ H Q=g x σ H λσ1 H1=>gs xs σ1 H1 Q:=
 propext ⟨λ⟨_,_,e,h⟩=>by cases e;exact h,λh=>⟨x,xs,rfl,h⟩⟩
def agc(σ:St)(H:Hp)(Q:St->Hp->Prop):agd [] σ H Q=Q σ H:=propext ⟨λh=>h.2,λh=>⟨rfl,h⟩⟩
def aaX{a b:Int}{P:Int->Int->Prop}:(∃v w,(a=v/\b=w)/\P v w)=P a b:=propext ⟨λ⟨_,_,⟨h1,h2⟩,h⟩=>h1 ▸ h2 ▸ h,λh=>⟨a,b,⟨rfl,rfl⟩,h⟩⟩
def jY{ts us:TS}(h:∀kt ke,kt=ts D->ke=us D->tc σ H λb H1=>if b=true then kt σ H1 else ke σ H1):VB tc ts us D σ H:=h _ _ Z rfl
def T5(h:aR p H H')(e:H p=IF):Same H H':=λb o hb=>h b o (aH hb e) hb
section
variable{o:Expr}
def apq(ob:Option HO)(l:IN)(y:V)(H:Hp)(Q:VK):Prop:=match ob with
 | some (.lst xs)=>xs.length<AJ/\Q .non (upd H l (.lst (xs++[y])))
 | _=>False
def isq(ob:Option HO):Prop:=match ob with
 | some (.lst _)=>True
 | _=>False
def Bw(xs:List V):isq (ID (.lst xs))=True:=rfl
def yo(xs:List V)(l:IN)(y:V)(H:Hp)(Q:VK):apq (ID (.lst xs)) l y H Q=(xs.length<AJ/\Q .non (upd H l (.lst (xs++[y])))):=rfl
def aec(x:V)(te:TE)(σ:St)(H1:Hp)(Q:VK):Prop:=match x with
 | .ref l=>isq (H1 l)/\te σ H1 λy H2=>apq (H2 l) l y H2 Q
 | _=>False
def Ly(to te:TE):TE:=λσ H Q=>to σ H λx H1=>aec x te σ H1 Q
def Yj(to te:TE)(σ:St)(H:Hp)(Q:VK):Ly to te σ H Q=to σ H λx H1=>aec x te σ H1 Q:=rfl
def Pr(l:IN)(te:TE)(σ:St)(H1:Hp)(Q:VK):aec (.ref l) te σ H1 Q=(isq (H1 l)/\te σ H1 λy H2=>apq (H2 l) l y H2 Q):=rfl
def m5(ho:QE X o to)(he:QE X e te)
  (bj:E5 o "append" X.env (eval o X.env)=eval o X.env:=by rfl)
   (cE:((CO cpos (AH [e] X.env)).all (λx=>!x.1)&&(IC cpos (FX [] X.env)).all (λx=>x.1.isSome)
   && decide ([e].length+([]:List E8).length+(if ([]:List E8).isEmpty then 0 else 1)<30))=true:=by rfl)
  (bi:(bp.endLine == cpos.line)=true:=by rfl) (hs:AH [e] X.env=(false,eval e X.env)::AH [] X.env:=by rfl) (az:(CO cpos (AH [] X.env)).any (·.1)=false:=by rfl) :
  QE X (.Call (.Attribute o "append" bp) [e] [] cpos) (Ly to te):=⟨by
 intro ac s σ H Q I h;refine Fs bj cE bi Z (thE (ho.h ac s σ H _ I h) λv s1 x H1 I1 r1 q=>?_);cases x with
 | ref l=>
  obtain⟨q1,q2⟩:=q;cases el:H1 l with
  | none=>rw[el] at q1;exact q1.elim
  | some ob=>
   cases ob with
   | lst xs=>
    obtain⟨h1,h2⟩:=yt (T := "list") I1 r1 (.inl ⟨rfl,xs,SqL.of el⟩);refine⟨"list","list.append",Fc,PySem.F.slot_list_append,PySem.F.type_list_append,h1,h2,?_⟩;rw[hs];refine EL (by show(false||(CO cpos (AH [] X.env)).any (·.1))=false;rw[az] <;> rfl) (EX ?_)
    refine C0 (thE (he.h ac s1 σ H1 _ I1 q2) λu s2 y H2 I2 r2 q3=>C6 ?_);replace q3:apq (H2 l) l y H2 Q:=q3;cases gt:H2 l with
    | none=>rw[gt] at q3;exact q3.elim
    | some ob2=>
     cases ob2 with
     | lst ys=>
      rw[gt] at q3;exact Ws ac s2 σ H2 (.ref l) [y] v [u] Q I2 r1 (.cons r2 .nil) ⟨l,ys,y,rfl,rfl,gt,q3.1,q3.2⟩
     | _=>rw[gt] at q3;exact q3.elim
   | _=>rw[el] at q1;exact q1.elim
 | _=>exact q.elim⟩
def slq(ob:Option HO)(lo hi:Option Int)(H:Hp)(Q:VK):Prop:=match ob with
 | some (.lst xs)=>∀p,H p=IF->Q (.ref p) (upd H p (.lst (mX xs lo hi)))
 | some (.tup xs)=>¬(HT.sIx xs.length 0 lo=0/\HT.sIx xs.length xs.length hi=xs.length)/\∀p,H p=IF->Q (.ref p) (upd H p (.tup (mX xs lo hi)))
 | _=>False
def YZ:V->Option Int->Option Int->Hp->VK->Prop:=λx lo hi H Q=>match x with
 | .ref p=>slq (H p) lo hi H Q
 | _=>False
def Mz(p:IN)(lo hi:Option Int)(H:Hp)(Q:VK):YZ (.ref p) lo hi H Q=slq (H p) lo hi H Q:=rfl
def TV(xs:List V)(lo hi:Option Int)(H:Hp)(Q:VK):slq (ID (.lst xs)) lo hi H Q=∀p,H p=IF->Q (.ref p) (upd H p (.lst (mX xs lo hi))):=rfl
def abZ(xs:List V)(lo hi:Option Int)(H:Hp)(Q:VK):slq (ID (.tup xs)) lo hi H Q=(¬(HT.sIx xs.length 0 lo=0/\HT.sIx xs.length xs.length hi=xs.length)/\∀p,H p=IF->Q (.ref p) (upd H p (.tup (mX xs lo hi)))):=rfl
def qU:SlR X YZ:=by
 intro ac s σ H x v vl vu lo hi sl Q I rx hs pl pu h;unfold YZ at h;split at h
 ·rename_i p;unfold slq at h;split at h
  ·rename_i xs e;exact ab0 ac s σ H _ v vl vu lo hi sl Q I rx hs pl pu ⟨p,xs,rfl,SqL.of e,h⟩
  ·rename_i xs e;exact aeL ac s σ H _ v vl vu lo hi sl Q I rx hs pl pu ⟨p,xs,rfl,SqT.of e,h.1,h.2⟩
  exact h.elim
 exact h.elim
structure QO(X:Cx)(e:Option Expr)(t:TO):Prop where
 h:PO X e t
def dw:QO X IF tY:=⟨by
 intro ac s σ H Q I h;rw[evalPart_none];exact Au ⟨IF,H,I,.none,h⟩⟩
def bT(h:QE X e te):QO X (ID e) (BX te):=⟨Ug h.h⟩
def bQ{lo hi:Option Expr}{tl th:TO}(hr:SlR X r)(he:QE X e te)(hl:QO X lo tl)(hu:QO X hi th):QE X (.Subscript e (.Slice lo hi IF p2) pos) (tSl r te tl th):=⟨by
 intro ac s σ H Q I h;refine Subscript_ (thE (he.h ac s σ H _ I h) λv s1 x H1 I1 r1 q1=>?_);refine wpAny_Slice (thn (hl.h ac s1 σ H1 _ I1 q1) λvl s2 ⟨l,H2,I2,pl,q2⟩=>thn (hu.h ac s2 σ H2 _ I2 q2) λvu s3 ⟨u,H3,I3,pu,q3⟩=>?_);rw[evalPart_none];refine Au ?_;have I4:Inv X ac σ H3 { s3 with heap:=s3.heap.push { cls:=.type "slice",data:=.fields #[vl,vu,.none] } }:=I3.kept (t':=s3.toks) λb ob q=>AE _ q;obtain⟨T,id,hT,ht,hg⟩:=hr ac { s3 with heap:=s3.heap.push { cls:=.type "slice",data:=.fields #[vl,vu,.none] } } σ H3 x v vl vu l u s3.heap.objs.size Q I4 r1 (Heap.IsSliceOf.new ..) pl pu q3;show AI (AN X.prog X.w) X.A (subscriptTail e (.Slice lo hi IF p2) v (.ref s3.heap.objs.size)) (EP X ac σ Q) X.xe { s3 with heap:=s3.heap.push { cls:=.type "slice",data:=.fields #[vl,vu,.none] } };exact tail_any (ops:=[.ref s3.heap.objs.size,v]) ht hT hg (by with_unfolding_all rfl)⟩
def rpq(ob:Option HO)(k:Int)(H:Hp)(Q:VK):Prop:=match ob with
 | some (.lst xs)=>-(2^63)<=k/\k<2^63/\xs.length*k.toNat<=AJ/\∀p,H p=IF->Q (.ref p) (upd H p (.lst (Cs k.toNat xs).flatten))
 | _=>False
def T7:R2:=λx y H Q=>match x,y with
 | .ref p,.int k=>rpq (H p) k H Q
 | x,y=>rI Xz (λi j=>.int (i*j)) x y H Q
def ab8(p:IN)(k:Int)(H:Hp)(Q:VK):T7 (.ref p) (.int k) H Q=rpq (H p) k H Q:=rfl
def ab9(i j:Int)(H:Hp)(Q:VK):T7 (.int i) (.int j) H Q=rI Xz (λi j=>.int (i*j)) (.int i) (.int j) H Q:=rfl
def ab4(xs:List V)(k:Int)(H:Hp)(Q:VK):rpq (ID (.lst xs)) k H Q=(-(2^63)<=k/\k<2^63/\xs.length*k.toNat<=AJ/\∀p,H p=IF->Q (.ref p) (upd H p (.lst (Cs k.toNat xs).flatten))):=rfl
def dz:OpR X (EH .Mult) T7:=by
 intro ac s σ H x y v u Q I rx ry h;unfold T7 at h;split at h
 ·rename_i p k;unfold rpq at h;split at h
  ·rename_i xs e;exact afz ac s σ H _ _ v u Q I rx ry ⟨p,k,xs,rfl,rfl,e,h.1,h.2.1,h.2.2.1,h.2.2.2⟩
  exact h.elim
 exact afA ac s σ H _ _ v u Q I rx ry h
def eqo(ob:Option HO)(H:Hp)(Q:VK):Prop:=match ob with
 | some (.lst _)=>Q (.bl false) H
 | some (.tup _)=>Q (.bl false) H
 | _=>False
def aci:R2:=λx y H Q=>match x,y with
 | .ref p,.str _=>eqo (H p) H Q
 | x,y=>rEq x y H Q
def ach(i j:Int)(H:Hp)(Q:VK):aci (.int i) (.int j) H Q=rEq (.int i) (.int j) H Q:=rfl
def acg(i j:Str)(H:Hp)(Q:VK):aci (.str i) (.str j) H Q=rEq (.str i) (.str j) H Q:=rfl
def jL(hu:X.A.units<FI):OpR X (EV .Eq) aci:=by
 intro ac s σ H x y v u Q I rx ry h;unfold aci at h;split at h
 ·rename_i p z;cases rx;obtain⟨t,rfl⟩:=ry;unfold eqo at h;split at h
  ·rename_i xs e;obtain⟨af,r,pl,hz⟩:=I.list (SqL.of e);exact SeqAt.RcAt.list_str z t pl.isList hu X.prog X.w X.xe (EP X ac σ Q) ⟨.bl false,H,I,rfl,h⟩
  ·rename_i xs e;obtain⟨af,r,pl,hz⟩:=I.tuple (SqT.of e);exact SeqAt.RcAt.tuple_str z t pl hu X.prog X.w X.xe (EP X ac σ Q) ⟨.bl false,H,I,rfl,h⟩
  exact h.elim
 exact ag4 ac s σ H _ _ v u Q I rx ry h
def Bq{x:Str}(hg:Gl X x)(hm:X.mg x=ID u)(r:RelV v u)(b:Bn x):QE X (.Name x pos) (tC v):=⟨ λ_ _ _ H _ I h=>Ke I hg hm ⟨v,H,I,r,h⟩ b.hd⟩
end
mutual
inductive aJ (ok:IN->Prop)(H:Hp):V->AF->Prop
 | non:aJ ok H .non .none
 | bl (b:Bool):aJ ok H (.bl b) (.bool b)
 | int (i:Int):aJ ok H (.int i) (.int i)
 | str (x:Str):aJ ok H (.str x) (.str x)
 | lst {p:IN} {xs:List V} {ds:List AF}:ok p->H p=ID (.lst xs)->xs.length<=1000000->aF ok H xs ds->aJ ok H (.ref p) (.list ds)
 | tup {p:IN} {xs:List V} {ds:List AF}:ok p->H p=ID (.tup xs)->xs.length<=1000000->aF ok H xs ds->aJ ok H (.ref p) (.tuple ds)
inductive aF (ok:IN->Prop)(H:Hp):List V->List AF->Prop
 | nil:aF ok H [] []
 | cons {x:V} {d:AF} {xs:List V} {ds:List AF}:aJ ok H x d->aF ok H xs ds->aF ok H (x::xs) (d::ds)
end
mutual
theorem aJ.keep{ok ok':IN->Prop}{H H':Hp}(k:∀a o,ok a->H a=ID o->ok' a/\H' a=ID o):∀{v:V}{d:AF},aJ ok H v d->aJ ok' H' v d
 | _,_,.non=>.non
 | _,_,.bl b=>.bl b
 | _,_,.int i=>.int i
 | _,_,.str x=>.str x
 | _,_,.lst o e z t=>.lst (k _ _ o e).1 (k _ _ o e).2 z (aF.keep k t)
 | _,_,.tup o e z t=>.tup (k _ _ o e).1 (k _ _ o e).2 z (aF.keep k t)
theorem aF.keep{ok ok':IN->Prop}{H H':Hp}(k:∀a o,ok a->H a=ID o->ok' a/\H' a=ID o):∀{vs:List V}{ds:List AF},aF ok H vs ds->aF ok' H' vs ds
 | _,_,.nil=>.nil
 | _,_,.cons t r=>.cons (aJ.keep k t) (aF.keep k r)
end
def aJ.same{ok:IN->Prop}{d:AF}(t:aJ ok H v d)(s:Same H H'):aJ ok H' v d:=t.keep λa o h e=>⟨h,s a o e⟩
def aF.same{ok:IN->Prop}{v:List V}{d:List AF}(t:aF ok H v d)(s:Same H H'):aF ok H' v d:=t.keep λa o h e=>⟨h,s a o e⟩
def aJ.gY{d:AF}(t:aJ (·≠p) H v d)(s:aR p H H'):aJ (·≠p) H' v d:=t.keep λa o h e=>⟨h,s a o h e⟩
theorem aF.length{ok:IN->Prop}{H:Hp}:∀{vs:List V}{ds:List AF},aF ok H vs ds->vs.length=ds.length
 | _,_,.nil=>rfl
 | _,_,.cons _ r=>by rw[B0,B0,r.length]
theorem aF.append{ok:IN->Prop}{H:Hp}:∀{vs ws:List V}{ds es:List AF},aF ok H vs ds->aF ok H ws es->aF ok H (vs++ws) (ds++es)
 | _,_,_,_,.nil,t=>t
 | _,_,_,_,.cons h r,t=>.cons h (r.append t)
theorem aF.get{ok:IN->Prop}{H:Hp}:∀{vs:List V}{ds:List AF}{i:Nat}{v:V},aF ok H vs ds->vs[i]?=ID v->∃d,ds[i]?=ID d/\aJ ok H v d
 | _,_,0,_,.cons h _,e=>by cases e;exact⟨_,rfl,h⟩
 | _,_,i+1,_,.cons _ r,e=>aF.get r (i:=i) e
theorem aF.take{ok:IN->Prop}{H:Hp}:∀{vs:List V}{ds:List AF}(n:Nat),aF ok H vs ds->aF ok H (vs.take n) (ds.take n)
 | _,_,0,_=>.nil
 | _,_,_+1,.nil=>.nil
 | _,_,n+1,.cons h r=>.cons h (r.take n)
theorem aF.drop{ok:IN->Prop}{H:Hp}:∀{vs:List V}{ds:List AF}(n:Nat),aF ok H vs ds->aF ok H (vs.drop n) (ds.drop n)
 | _,_,0,h=>h
 | _,_,_+1,.nil=>.nil
 | _,_,n+1,.cons _ r=>r.drop n
def aF.cut{ok:IN->Prop}{vs:List V}(t:aF ok H vs ds)(lo hi:Option Int):aF ok H (mX vs lo hi) ((ds.drop (HT.sIx ds.length 0 lo)).take (HT.sIx ds.length ds.length hi-HT.sIx ds.length 0 lo)):=by
 unfold mX;rw[t.length];exact(t.drop _).take _
section
variable{ok:IN->Prop}
mutual
theorem aJ.reads(I:Inv X ac σ H s):∀{v:V}{d:AF}{u:Ap},aJ ok H v d->RelV v u->∃as,Reads s.heap u d as
 | _,_,_,.non,r=>by cases r;exact⟨_,.none⟩
 | _,_,_,.bl b,r=>by cases r;exact⟨_,.bool b⟩
 | _,_,_,.int i,r=>by obtain⟨t,rfl⟩:=r;exact⟨_,.int i t⟩
 | _,_,_,.str x,r=>by obtain⟨t,rfl⟩:=r;exact⟨_,.str x t⟩
 | _,_,_,.lst o e z t,r=>by
  cases r;obtain⟨af,rv,pl,hz⟩:=I.list (SqL.of e);obtain⟨ob,h1,h2,n,h3⟩:=pl.isList;obtain⟨as,h4⟩:=aF.reads I t rv;exact⟨_,.list h1 h2 h3 (by simpa using h4)⟩
 | _,_,_,.tup o e z t,r=>by
  cases r;obtain⟨af,rv,pl,hz⟩:=I.tuple (SqT.of e);obtain⟨ob,h1,h2,n,h3⟩:=pl;obtain⟨as,h4⟩:=aF.reads I t rv;exact⟨_,.tuple h1 h2 h3 (by simpa using h4)⟩
theorem aF.reads(I:Inv X ac σ H s):∀{vs:List V}{ds:List AF}{us:List Ap},aF ok H vs ds->Vals vs us->∃as,ReadsAll s.heap us ds as
 | _,_,_,.nil,r=>by cases r;exact⟨_,.nil⟩
 | _,_,_,.cons h t,r=>by
  cases r with
  | cons r1 r2=>
   obtain⟨as,h1⟩:=aJ.reads I h r1;obtain⟨bs,h2⟩:=aF.reads I t r2;exact⟨_,.cons h1 h2⟩
end
end
mutual
def nodes:AF->Nat
 | .list ds=>1+aK ds
 | .tuple ds=>1+aK ds
 | _=>1
def aK:List AF->Nat
 | []=>0
 | d::ds=>nodes d+aK ds
end
mutual
def smD:AF->Bool
 | .none=>true
 | .bool _=>true
 | .int i=>decide (i.natAbs<2^50\/i.natAbs=10^20\/i.natAbs<2^55)
 | .str x=>decide ((reprText x).length<=50)
 | .list ds=>Yt ds
 | .tuple ds=>Yt ds
 | .dict _=>false
def Yt:List AF->Bool
 | []=>true
 | d::ds=>smD d&&Yt ds
end
def adH{i:Int}(h:i.natAbs<2^70):(EA (toString i)).length<=71:=by
 rw[PySem.ofString_length];have:=int_text_length_le10 (a:=i) (k:=30) δ ω;omega
structure Tell(d:AF):Prop where
 sm:smD d=true
 nd:nodes d<=200000
 dp:d.depth<=100
section
variable{l:Expr}
def itq(K:AA)(ob:Option HO)(a:IN)(H:Hp)(R:It->Hp->Prop):Prop:=match ob with
 | some (.lst _)=>R (Itl K a) H
 | some (.tup _)=>R (Itt K a) H
 | _=>False
def itK(K:AA)(x:V)(H:Hp)(R:It->Hp->Prop):Prop:=match x with
 | .ref a=>itq K (H a) a H R
 | _=>False
def Im(K:AA)(tl:TE):TI:=λσ H R=>tl σ H λx H1=>itK K x H1 R
def NZ(K:AA)(tl:TE)(σ:St)(H:Hp)(R:It->Hp->Prop):Im K tl σ H R=tl σ H λx H1=>itK K x H1 R:=rfl
def Bv(K:AA)(a:IN)(H:Hp)(R:It->Hp->Prop):itK K (.ref a) H R=itq K (H a) a H R:=rfl
def Kl(K:AA)(xs:List V)(a:IN)(H:Hp)(R:It->Hp->Prop):itq K (ID (.lst xs)) a H R=R (Itl K a) H:=rfl
def adF(K:AA)(xs:List V)(a:IN)(H:Hp)(R:It->Hp->Prop):itq K (ID (.tup xs)) a H R=R (Itt K a) H:=rfl
def cJ(hl:QE X l tl):QI X tg l (Im X.K tl):=⟨by
 intro ac s σ H R I h;refine thn (hl.h ac s σ H _ I h) λv s1 ⟨x,H1,I1,r1,q1⟩=>?_;cases x with
 | ref a=>
  replace q1:itq X.K (H1 a) a H1 R:=q1;cases r1;unfold itq at q1;split at q1
  ·rename_i xs e;obtain⟨af,rv,p,hz⟩:=I1.list (SqL.of e);refine FK p.isList ?_;refine⟨s1.heap.objs.size,[s1.heap.objs.size],_,_,H1,rfl,I1.kept (t':=s1.toks) λb o e=>AE _ e,Vr a _,⟨_,AU _ rfl,rfl,rfl⟩,λb hb=>?_,q1⟩;have e:b=s1.heap.objs.size:=by simpa using hb
   subst e;exact I1.GP (A3 _) (I1.hok.fresh (A3 _))
  ·rename_i xs e;obtain⟨af,rv,p,hz⟩:=I1.tuple (SqT.of e);refine GN (show s1.heap.IsTuple a af.toArray from p) ?_;refine⟨s1.heap.objs.size,[s1.heap.objs.size],_,_,H1,rfl,I1.kept (t':=s1.toks) λb o e=>AE _ e,PL a _,⟨_,AU _ rfl,rfl,rfl⟩,λb hb=>?_,q1⟩;have e:b=s1.heap.objs.size:=by simpa using hb
   subst e;exact I1.GP (A3 _) (I1.hok.fresh (A3 _))
  exact q1.elim
 | _=>exact q1.elim⟩
end
def Gv(ok:IN->Prop)(t:TE)(σ:St)(H0:Hp)(d:AF):Prop:=∀H,Same H0 H->∀Q:VK,(∀v H',Same H H'->aJ ok H' v d->Q v H')->t σ H Q
def GvA(ok:IN->Prop)(t:TA)(σ:St)(H0:Hp)(ds:List AF):Prop:=∀H,Same H0 H->∀Q:List V->Hp->Prop,(∀vs H',Same H H'->aF ok H' vs ds->Q vs H')->t σ H Q
def dJ(ok:IN->Prop)(H0:Hp):Prop:=∀H p,Same H0 H->H p=IF->ok p
def Z9(h:H0 p=ID o):dJ (·≠p) H0:=λH q s hq=>(aH (s _ _ h) hq).symm
def dJ.same{ok:IN->Prop}(n:dJ ok H0)(s:Same H0 H1):dJ ok H1:=λH p s2 h=>n H p (s.trans s2) h
section
variable {ok:IN->Prop}{ta tb:TE}{d e:AF}{es:List AF}
def vQ:Gv ok (tC .non) σ H0 .none:=λH _ Q q=>q _ _ (Same.refl _) .non
def zR{b:Bool}:Gv ok (tC (.bl b)) σ H0 (.bool b):=λH _ Q q=>q _ _ (Same.refl _) (.bl b)
def jx{i:Int}:Gv ok (tC (.int i)) σ H0 (.int i):=λH _ Q q=>q _ _ (Same.refl _) (.int i)
def pX{x:Str}:Gv ok (tC (.str x)) σ H0 (.str x):=λH _ Q q=>q _ _ (Same.refl _) (.str x)
def bC:GvA ok wD σ H0 []:=λH _ Q q=>q _ _ (Same.refl _) .nil
def aG(h:Gv ok ta σ H0 d)(h2:GvA ok tr σ H0 ds):GvA ok (jX ta tr) σ H0 (d::ds):=λH s Q q=>
 h H s _ λv H1 s1 t1=>h2 H1 (s.trans s1) _ λvs H2 s2 t2=>q _ _ (s1.trans s2) (.cons (t1.same s2) t2)
def jw(n:dJ ok H0)(h:GvA ok tr σ H0 ds)(hl:ds.length<=1000000):Gv ok (Qe tr) σ H0 (.tuple ds):=λH s Q q=>
 h H s _ λvs H1 s1 t1=>⟨aQ (by rw[t1.length];exact hl),λp hp=>q _ _ (s1.trans (au hp)) (.tup (n H1 p (s.trans s1) hp) aB (by rw[t1.length];exact hl) (t1.same (au hp)))⟩
def eY(n:dJ ok H0)(h:GvA ok tr σ H0 ds)(hl:ds.length<=1000000):Gv ok (Ls tr) σ H0 (.list ds):=λH s Q q=>
 h H s _ λvs H1 s1 t1=>⟨aQ (by rw[t1.length];exact hl),λp hp=>q _ _ (s1.trans (au hp)) (.lst (n H1 p (s.trans s1) hp) aB (by rw[t1.length];exact hl) (t1.same (au hp)))⟩
def Ko{r:R2}{i j k:Int}(h:Gv ok ta σ H0 (.int i))(h2:Gv ok tb σ H0 (.int j))(hr:∀H Q,Q (.int k) H->r (.int i) (.int j) H Q):Gv ok (tOp r ta tb) σ H0 (.int k):=λH s Q q=>
 h H s _ λv H1 s1 t1=>by
  cases t1;exact h2 H1 (s.trans s1) _ λw H2 s2 t2=>by
   cases t2;exact hr _ _ (q _ _ (s1.trans s2) (.int k))
theorem sE(n:dJ ok H0)(h:Gv ok ta σ H0 (.list ds))(h2:Gv ok tb σ H0 (.list es))(hl:ds.length+es.length<=1000000):Gv ok (tOp Cy ta tb) σ H0 (.list (ds++es)):=λH s Q q=>
 h H s _ λv H1 s1 t1=>by
  cases t1 with
  | lst o1 e1 z1 t1=>
   refine h2 H1 (s.trans s1) _ λw H2 s2 t2=>?_;cases t2 with
   | lst o2 e2 z2 t2=>
    have l1:=t1.length;have l2:=t2.length;show Cy _ _ _ _;rw[T9,s2 _ _ e1,e2,SJ];refine⟨aQ ω,λp hp=>q _ _ ((s1.trans s2).trans (au hp)) (.lst (n H2 p ((s.trans s1).trans s2) hp) aB (by rw[AQ];omega) (((t1.same s2).append t2).same (au hp)))⟩
end
def fX:AF->Bool
 | .int _=>true
 | _=>false
def inB(w s a:Int):Bool:=decide (wl w s<=a)&&decide (a<wl w s+2^w.toNat)
def Yp:Sp:=λvs H Q _=>∃v ok d,vs=[v]/\aJ ok H v d/\Q (.bl (fX d)) H
section
variable{Q:VK}{ok:IN->Prop}
def take_snoc{l:List α}{x:α}(h:l[i]?=ID x):l.take (i+1)=l.take i++[x]:=by
 rw[take_add_one,h];rfl
end
def inD(w s:Int):AF->Bool
 | .int a=>inB w s a
 | _=>false
theorem Eo{p c:IN}{H Hk:Hp}{B:Int}(s:aR p H Hk)(t:aP Hk p B)(h:Hk c=IF):c≠p/\H c=IF:=by
 have n:=t.ne h;refine⟨n,?_⟩;cases e:H c with
 | none=>rfl
 | some o=>rw[s _ _ n e] at h;cases h
def yH(s:aR p H H')(h:H c=IF):aR p H (upd H' c o):=λb u n e=>by
 rw[aO (aH e h)];exact s b u n e
def aP.upd(t:aP H p B)(n:c≠p):aP (upd H c o) p B:=by
 obtain⟨a,b,c',e,r⟩:=t;exact⟨a,b,c',by rw[aO (Co n)];exact e,r⟩
section
variable {ok:IN->Prop}{ta tb:TE}{d e:AF}{es:List AF}
def cutD(ds:List AF)(lo hi:Option Int):List AF:=(ds.drop (HT.sIx ds.length 0 lo)).take (HT.sIx ds.length ds.length hi-HT.sIx ds.length 0 lo)
def Ew{x:AF}(h:x∈cutD ds lo hi):x∈ds:=List.mem_of_mem_drop (LD h)
def tE(ds:List AF)(lo hi:Option Int):(cutD ds lo hi).length<=ds.length:=by
 unfold cutD;rw[EN,FO];omega
theorem ji{tl th:TO}{lo hi:Option Int}(n:dJ ok H0)(h:Gv ok te σ H0 (.list ds))(hl:∀(H:Hp)(Q:Option Int->Hp->Prop),Q lo H->tl σ H Q)(hh:∀(H:Hp)(Q:Option Int->Hp->Prop),Q hi H->th σ H Q):Gv ok (tSl YZ te tl th) σ H0 (.list (cutD ds lo hi)):=λH s Q q=>
 h H s _ λv H1 s1 t1=>by
  cases t1 with
  | lst o1 e1 z1 t1=>
   refine hl H1 _ (hh H1 _ ?_);rw[Mz,e1,TV];intro p hp;refine q _ _ (s1.trans (au hp)) (.lst (n H1 p (s.trans s1) hp) aB (BU (tD _ _ _) z1) ?_);exact(t1.cut lo hi).same (au hp)
def abz(h:Gv ok te σ H d)(q:∀v H',Same H H'->aJ ok H' v d->D.nx (σ.set i (ID v)) H'):z8 te (lF i) D σ H:=h H (Same.refl _) _ λv H' s t=>q v H' s t
end
structure Bd(n k:Nat)(d:AF):Prop where
 sm:smD d=true
 nd:nodes d<=n
 dp:d.depth<=k
def gw.aef{k:Nat}(r:gw k A):A.units+200<FI:=by have:=r.un;omega
theorem aF.set{ok:IN->Prop}{H:Hp}{x:V}{d:AF}(t:aJ ok H x d):∀{xs:List V}{ds:List AF}(j:Nat),aF ok H xs ds->aF ok H (xs.set j x) (ds.set j d)
 | _,_,_,.nil=>.nil
 | _,_,0,.cons _ r=>.cons t r
 | _,_,j+1,.cons h r=>.cons h (aF.set t j r)
def aF.last{ok:IN->Prop}{d:AF}(t:aF ok H xs (ds++[d])):∃x,atI xs (-1)=ID x/\aJ ok H x d:=by
 have hl:=t.length;rw[AQ,BS] at hl;have h1:ds.length<xs.length:=ω;obtain⟨e,he,te⟩:=t.get (i:=ds.length) (v:=xs[ds.length]) (AC h1);rw[DJ (A3 _),sub_self] at he;cases he;refine⟨_,?_,te⟩;unfold atI ixN;rw[if_neg δ,if_pos ω];show xs[_]?=_;rw[show(-1+(xs.length:Int)).toNat=ds.length by omega];exact AC h1
theorem adM{ok:IN->Prop}{σ:St}{H0:Hp}{te:TE}{ds:List AF}{d:AF}(h:Gv ok te σ H0 (.list (ds++[d]))):Gv ok (tOp uy te (tUn (rU λi=>At (-i)) (tC (At 1)))) σ H0 d:=λH s Q q=>
 h H s _ λv H1 s1 t1=>by
  cases t1 with
  | lst o1 e1 z1 t1=>
   obtain⟨x,hx,tx⟩:=t1.last;refine⟨1,rfl,?_⟩;show uy _ _ _ _;rw[qY,e1,Bt];exact⟨x,hx,q _ _ s1 tx⟩
theorem Ii{α:Type}(l:List α)(h:0<l.length):∃a b,l=a++[b]:=by
 induction l with
 | nil=>cases h
 | cons x r ih=>
  cases r with
  | nil=>exact⟨[],x,rfl⟩
  | cons y r=>
   obtain⟨a,b,e⟩:=ih ζ;exact⟨x::a,b,by rw[e];rfl⟩
def Bu{i:Int}(h0:0<=i)(h:i<n):ixN n i=ID i.toNat:=by
 unfold ixN;rw[if_pos h0,if_pos h]
def aP.newOk(t:aP H p B):dJ (·≠p) H:=by
 obtain⟨a,b,c,e,_⟩:=t;exact Z9 e
def W3(t:IN)(items:Array Ap):Meets (AW.«enumerate.__new__» { pos:=[GT "enumerate",EQ t] }) λ_ R s=>
  s.heap.IsTuple t items/\R (.ok (.ret (.ref (s.heap.objs.size+1)))) { s with heap:=(s.heap.push { cls:=.type "tuple_iterator",data:=.fields #[.ref t,.int 0 0] }).push { cls:=.type "enumerate",data:=.fields #[.none,.bool false,.ref s.heap.objs.size,CI 0,.none,.none] } }:=by
 refine Meets.of_wp λprog w A R s h=>?_;obtain⟨ht,hR⟩:=h;unfold AW.«enumerate.__new__» AW.SmallTypes.newClass;refine An (An (Au (FB Z (An (C5 sub_enumerate (FB Z (Au (wpAny_ite_true Z (An ?_)))))))));unfold AW.SmallTypes.calledThroughType;refine An (wpAny_stack_any λst=>Au ?_);have fin:AI (AN prog w) A.in1 (do
   let it <- IY (EQ t)
   let r <- AW.SmallTypes.newRecord (GT "enumerate") (AW.SmallTypes.ownedTupleFields++[it,CI 0,Ap.none,Ap.none])
   ret r) (λfin s'=>∃v,fin=Fin.done (Flow.ret v)/\R (Except.ok (Flow.ret v)) s') (λe s'=>R (Except.error e) s') s:=by
  refine An (GN ht ?_);show AI _ _ (newObj (.type "enumerate") (.fields #[.none,.bool false,.ref s.heap.objs.size,CI 0,.none,.none]) >>= λr=>ret r) _ _ _;refine An (BE ?_);refine Au ⟨_,rfl,?_⟩;have e:(s.heap.push { cls:=GT "tuple_iterator",data:=Da #[EQ t,GE 0 0] }).objs.size=s.heap.objs.size+1:=CY ..;rw[e];exact hR
 dsimp only;split
 ·split
  ·exact An (Au fin)
  exact An (Au fin)
 split
 ·exact An (Au fin)
 exact An (Au fin)
theorem gQ{prog:AO}{w:Bi}{A:Bz}{E:Ap->AB->Prop}{s:AB}{it t:IN}{i:Nat}{items:Array Ap}{x:Ap}{Q:Ap->AB->Prop}(mN:s.heap.IsTupleIter it t i)(ht:s.heap.IsTuple t items)(hx:items[i]?=ID x)
  (hQ:∀h',h'.IsTupleIter it t (i+1)->Cc it s.heap h'->Q x { s with heap:=h' }):AI (AN prog w) A (AW.SmallTypes.nextOf (EQ it)) Q E s:=by
 obtain⟨o,ho,hc,hd⟩:=id mN;obtain⟨ol,we,ft,nl,i5⟩:=ht;unfold AW.SmallTypes.nextOf;refine An (B3 mN.typeIs FY (B1 FY mN.typeIs F.entry_tuple_iterator_next ?_ (F.args_tuple_iterator_next_1 _)));refine An (Au (An (Ct ho hd (i:=0) Z ?_)));refine FB Z (An (Ct ho hd (i:=1) Z ?_));refine An (DL we i5 ?_);show AI _ _ (match items[(i:Int).toNat]? with
  | some x=>(do G0 (.ref it) 1 (CI ((i:Int)+1));ret x)
  | none=>_) _ _ _
 rw[GA,hx];refine An (wpAny_setField ho hd (DD 1) (Au ⟨x,rfl,Au (hQ _ ?_ ?_)⟩))
 ·refine⟨_,Hn _ ho (Obj.isFreed_of_fields (Obj.data_mapFields hd _)),(Obj.cls_mapFields o _).trans hc,?_⟩;rw[Obj.data_mapFields hd];rfl
 exact Cc.update s.heap it _
theorem j8{prog:AO}{w:Bi}{A:Bz}{E:Ap->AB->Prop}{s:AB}{it t:IN}{i:Nat}{items:Array Ap}{Q:Ap->AB->Prop}(hh:A.handled=IF)(mN:s.heap.IsTupleIter it t i)(ht:s.heap.IsTuple t items)(hx:items[i]?=IF)
  (hE:∀h' e,Heap.ExtBut it s.heap h'->(∃o,h'.get? e=ID o/\o.cls=GT "StopIteration")->E (.ref e) { s with heap:=h' }):AI (AN prog w) A (AW.SmallTypes.nextOf (EQ it)) Q E s:=by
 obtain⟨o,ho,hc,hd⟩:=id mN;obtain⟨ol,we,ft,nl,i5⟩:=ht;unfold AW.SmallTypes.nextOf;refine An (B3 mN.typeIs FY (B1 FY mN.typeIs F.entry_tuple_iterator_next ?_ (F.args_tuple_iterator_next_1 _)));refine An (Au (An (Ct ho hd (i:=0) Z ?_)));refine FB Z (An (Ct ho hd (i:=1) Z ?_));refine An (DL we i5 ?_);show AI _ _ (match items[(i:Int).toNat]? with
  | some x=>_
  | none=>(do rule (toString "tuple_iterator.__next__" ++ toString ".end");G0 (.ref it) 0 .none;AW.SmallTypes.stopIteration)) _ _ _
 rw[GA,hx];refine An (DI (An (wpAny_setField ho hd (G1 1) ?_)));unfold AW.SmallTypes.stopIteration newExc;refine An (An (BE ?_));refine An (C5 (a:=.none) Z ?_);refine BE ?_;refine wpAny_raiseNew_none hh (hE _ _ ?_ ?_)
 ·exact λb ob hb e=>AE _ (AE _ ((C7 _ _ (Co hb)).trans e))
 exact⟨_,AU _ rfl,rfl⟩
def zV(hh:A.handled=IF)(it t:IN)(ck:t≠it)(items:Array Ap):Draws prog w A it [it,t] items.size (λi v=>items[i]?=ID v) λi h=>h.IsTupleIter it t i/\h.IsTuple t items where
 live:=λ_ _ st=>by
  obtain⟨⟨o,ho,_⟩,_⟩:=st;exact⟨o,ho⟩
 frame:=λ_ _ _ st hk=>by
  obtain⟨h1,⟨o,e,r⟩⟩:=st;exact⟨h1.at λo e=>hk it ζ o e,o,hk t ζ o e,r⟩
 item:=λi s Q E hi st hQ=>by
  have e:items[i]?=ID items[i]:=by simp[hi]
  refine gQ st.1 st.2 e λh' h1 sb=>hQ _ _ s.toks e ⟨h1,?_⟩ sb;obtain⟨o,g,r⟩:=st.2;exact⟨o,(sb.2 t ck).trans g,r⟩
 done:=λs Q E st hE=>j8 hh st.1 st.2 ζ hE
def Iet(K:AA)(a:IN):It:=
 ⟨λi H=>∃xs x,SqT K H a xs/\xs[i]?=ID x,
  λi H v H'=>∃p x,v=.ref p/\H p=IF/\H'=upd H p (.tup [.int (i:Nat),x])/\∀xs,SqT K H a xs->xs[i]?=ID x,
  λi H=>∃xs,SqT K H a xs/\xs.length=i⟩
def PX{e it:IN}(ck:e≠it) :
  Turn P w K (.Tuple es kk dQ) (Iet K l) [e,it] e (λi h=>(∃dq,IsEnum h e it ((i:Nat):Int) dq)/\h.IsTupleIter it l i) where
 mem:=by simp
 obj:=λi h st b hb=>by
  obtain⟨⟨dq,he⟩,⟨o1,e1,c1,d1⟩⟩:=st;simp only[AX,BB,or_false] at hb;rcases hb with rfl|rfl
  ·exact⟨_,he,λv q=>by cases q⟩
  exact⟨o1,e1,λv q=>by rw[d1] at q;cases q⟩
 keep:=λi h h' st k=>by
  obtain⟨⟨dq,he⟩,h1⟩:=st;exact⟨⟨dq,k e ζ _ he⟩,h1.at λo q=>k it ζ o q⟩
 item:=by
  intro X hP hw hK hc i ac s σ H E I hf st hg;subst hP hw hK;obtain⟨xs,x,q1,hx⟩:=hg;obtain⟨bg,ge,p1,eW⟩:=I.tuple q1;obtain⟨u1,oI,pV⟩:=ge.get hx;obtain⟨⟨dq,he⟩,h1⟩:=st;have eQ:e≠l:=λz=>by
   obtain⟨ol,g1,g2,_⟩:=p1;rw[<- z,he] at g1;cases g1;injection g2 with g2;exact absurd g2 δ
  have oS:l≠it:=λz=>by
   obtain⟨ol,g1,g2,_⟩:=p1;obtain⟨oi,g3,g4,_⟩:=h1;rw[z,g3] at g1;cases g1;rw[g4] at g2;injection g2 with g2;exact absurd g2 δ
  have qV:i<bg.toArray.size:=by
   obtain⟨z,_⟩:=AK.mp oI;simpa using z
  refine wpAny_pyNext_enum_itemD (zV (A:=X.A.in1) (I.ok.hd hc) it l oS bg.toArray) he ⟨h1,p1⟩ qV ck (by simp[ck,eQ]) λx1 h' tk hP a1 a2 a3 a4 hk=>?_;have ex:x1=u1:=by
   have hP':bg[i]?=ID x1:=by simpa using hP
   rw[oI] at hP';exact(A7 hP').symm
  subst ex;obtain⟨a2,_⟩:=a2;have new:bW X.prog X.w (upd H s.heap.objs.size (.tup [.int (i:Nat),x])) h' s.heap.objs.size (.tup [.int (i:Nat),x]):=⟨by show 2<=AJ;decide,[.int (i:Nat) tk,x1],.cons ⟨_,rfl⟩ (.cons pV .nil),_,a3,rfl,_,rfl⟩;have I1:Inv X ac σ (upd H s.heap.objs.size (.tup [.int (i:Nat),x])) { s with heap:=h',toks:=tk+1 }:=I.S8 (ch:=[e,it]) hf
   (λb o hb q=>hk b o (λz=>hb (by simp[z])) (λz=>hb (by simp[z])) q) (A3 _) new
  have hsz:∀b,b∈[e,it]->b≠s.heap.objs.size:=λb hb=>by
   have lt:∃o,s.heap.get? b=ID o:=by
    simp only[AX,BB,or_false] at hb;rcases hb with rfl|rfl
    ·exact⟨_,he⟩
    obtain⟨o,q,_⟩:=h1;exact⟨o,q⟩
   obtain⟨o,q⟩:=lt;exact BO (A6 q)
  refine⟨_,rfl,wpAny_letOwnedTupleGo_enum (s:={ s with heap:=h',toks:=tk+1 }) a1 λph z2 sb=>?_⟩;have fz:=hf e ζ;have I2:Inv X ac σ (upd H s.heap.objs.size (.tup [.int (i:Nat),x])) { s with heap:=ph,toks:=tk+1 }:=Inv.turned (s:={ s with heap:=h',toks:=tk+1 }) (it:=e) I1 (λb o hb q=>(sb.2 b hb).trans q) (by rw[aO (hsz e ζ)];exact fz.1) fz.2.1 fz.2.2.2.1 fz.2.2.2.2.1 fz.2.2.2.2.2;refine⟨.ref s.heap.objs.size,_,I2,rfl,⟨_,x,rfl,I.fresh,rfl,λSb q=>by rw[I.tX q q1];exact hx⟩,
   ⟨⟨_,by simpa using z2⟩,a2.extBut sb.extBut ck.symm⟩,λb hb=>by rw[aO (hsz b hb)];exact(hf b hb).1⟩
 done:=by
  intro X hP hw hK hc i ac s σ H E I hf st hg;subst hP hw hK;obtain⟨xs,q1,hx⟩:=hg;obtain⟨bg,ge,p1,eW⟩:=I.tuple q1;obtain⟨⟨dq,he⟩,h1⟩:=st;have oS:l≠it:=λz=>by
   obtain⟨ol,g1,g2,_⟩:=p1;obtain⟨oi,g3,g4,_⟩:=h1;rw[z,g3] at g1;cases g1;rw[g4] at g2;injection g2 with g2;exact absurd g2 δ
  have eM:=ge.length;have hsi:bg.toArray.size=i:=by rw[A0];omega
  refine wpAny_pyNext_enum_endD (zV (A:=X.A.in1) (I.ok.hd hc) it l oS bg.toArray) he (by rw[hsi];exact⟨h1,p1⟩) λh' hk=>⟨rfl,?_⟩;exact I.S9 (t':=s.toks) (ch:=[e,it]) hf (λb o hb q=>hk b o (λz=>hb (by simp[z])) q)
 self:=λ_ _ _ _ _ st h=>by
  obtain⟨⟨dq,he⟩,_⟩:=st;exact IR he h
def ieq(K:AA)(ob:Option HO)(a:IN)(H:Hp)(R:It->Hp->Prop):Prop:=match ob with
 | some (.lst _)=>R (Ite K a) H
 | some (.tup _)=>R (Iet K a) H
 | _=>False
def ieK(K:AA)(vs:List V)(H:Hp)(R:It->Hp->Prop):Prop:=match vs with
 | [.ref a]=>ieq K (H a) a H R
 | _=>False
def Rz(K:AA)(ta:TA):TI:=λσ H R=>ta σ H λvs H1=>ieK K vs H1 R
def um(K:AA)(ta:TA)(σ:St)(H:Hp)(R:It->Hp->Prop):Rz K ta σ H R=ta σ H λvs H1=>ieK K vs H1 R:=rfl
def Bx(K:AA)(a:IN)(H:Hp)(R:It->Hp->Prop):ieK K [.ref a] H R=ieq K (H a) a H R:=rfl
def Km(K:AA)(xs:List V)(a:IN)(H:Hp)(R:It->Hp->Prop):ieq K (ID (.lst xs)) a H R=R (Ite K a) H:=rfl
def adJ(K:AA)(xs:List V)(a:IN)(H:Hp)(R:It->Hp->Prop):ieq K (ID (.tup xs)) a H R=R (Iet K a) H:=rfl
def CG{a:Expr}{p:Pos}(hg:Gl X "enumerate")(hm:X.mg "enumerate" = IF)(ha:QA X [a] ta)(hs:AH [a] X.env=[(false,eval a X.env)]:=by rfl) :
  QI X (.Tuple es kk dQ) (.Call (.Name "enumerate" p) [a] [] pos) (Rz X.K ta):=⟨by
 intro ac s σ H R I h;refine Call_ (iM I hg hm PyProof.Rows.Boot.«enumerate» (BI (thA (ha.h pos ac s σ H _ I h) λus s1 vs H1 I1 r1 q1=>?_) hs Z));replace q1:ieK X.K vs H1 R:=q1;unfold ieK at q1;split at q1
 ·rename_i l1;cases r1 with
  | cons r rr=>
   cases rr;cases r;unfold ieq at q1;split at q1
   ·rename_i xs e;obtain⟨bg,ge,p1,eW⟩:=I1.list (SqL.of e);refine call_enumerate_list p1.isList λh' b1 b2 b3 hk=>?_;refine IR (s:={ s1 with heap:=h' }) b1 ?_;have I2:Inv X ac σ H1 { s1 with heap:=h' }:=I1.kept (t':=s1.toks) hk;refine⟨_,_,_,_,H1,rfl,I2,Vs (JJ (DD _)),⟨⟨_,b1⟩,b2⟩,λb hb=>?_,q1⟩;have cf:s1.heap.objs.size<=b:=by
     simp only[AX,BB,or_false] at hb;rcases hb with rfl|rfl <;> simp
    exact I1.GP cf (I1.hok.fresh cf)
   ·rename_i xs e;obtain⟨bg,ge,p1,eW⟩:=I1.tuple (SqT.of e);refine callType_new F.called_enumerate δ (F.typeCall_enumerate_1 _) (F.newCall_enumerate_1 _) (λobj=>F.args_object_init_2 obj _) F.entry_enumerate_new (W3 l1 bg.toArray) ⟨p1,?_⟩;have hz:(s1.heap.push { cls:=GT "tuple_iterator",data:=Da #[EQ l1,GE 0 0] }).objs.size=s1.heap.objs.size+1:=CY ..;have b1:((s1.heap.push { cls:=GT "tuple_iterator",data:=Da #[EQ l1,GE 0 0] }).push { cls:=GT "enumerate",data:=Da #[Ap.none,Is false,EQ s1.heap.objs.size,CI 0,Ap.none,Ap.none] }).get? (s1.heap.objs.size+1)=ID { cls:=GT "enumerate",data:=Da #[Ap.none,Is false,EQ s1.heap.objs.size,CI 0,Ap.none,Ap.none] }:=by
     rw[<- hz];exact AU _ rfl
    have b2:((s1.heap.push { cls:=GT "tuple_iterator",data:=Da #[EQ l1,GE 0 0] }).push { cls:=GT "enumerate",data:=Da #[Ap.none,Is false,EQ s1.heap.objs.size,CI 0,Ap.none,Ap.none] }).IsTupleIter s1.heap.objs.size l1 0:=
     ⟨_,AE _ (AU _ Z),rfl,rfl⟩
    have hk:∀b o,s1.heap.get? b=ID o->((s1.heap.push { cls:=GT "tuple_iterator",data:=Da #[EQ l1,GE 0 0] }).push { cls:=GT "enumerate",data:=Da #[Ap.none,Is false,EQ s1.heap.objs.size,CI 0,Ap.none,Ap.none] }).get? b=ID o:=λb o z=>AE _ (AE _ z);refine⟨⟨_,b1,rfl⟩,?_⟩;generalize (s1.heap.push { cls:=GT "tuple_iterator",data:=Da #[EQ l1,GE 0 0] }).push { cls:=GT "enumerate",data:=Da #[Ap.none,Is false,EQ s1.heap.objs.size,CI 0,Ap.none,Ap.none] }=h' at b1 b2 hk;refine IR (s:={ s1 with heap:=h' }) b1 ?_;have I2:Inv X ac σ H1 { s1 with heap:=h' }:=I1.kept (t':=s1.toks) hk;refine⟨_,_,_,_,H1,rfl,I2,PX (JJ (DD _)),⟨⟨_,b1⟩,b2⟩,λb hb=>?_,q1⟩;have cf:s1.heap.objs.size<=b:=by
     simp only[AX,BB,or_false] at hb;rcases hb with rfl|rfl <;> simp
    exact I1.GP cf (I1.hok.fresh cf)
   exact q1.elim
 exact q1.elim⟩
def Ep{J:It}(hR:R=(λJ H1=>∃W:Nat->Nat->St->Hp->Prop,(∃m,W 0 m σ H1)/\∀i m σ H,W i m σ H ->
  (J.stop i H/\D.nx σ H)\/(J.go i H/\∃N:St->Hp->Prop,(∀σ' H',N σ' H'->∃m',m'<m/\W (i+1) m' σ' H')/\∀x H',J.yld i H x H'->g x σ H' λσ2 H2=>tb { D with nx:=N,ct:=N,bk:=D.nx } σ2 H2)))
  (n:Nat)(Pv:Nat->St->Hp->Prop)(h0:Pv 0 σ H)(VW:∀i σ H,i<n->Pv i σ H->J.go i H)(gz:∀σ H,Pv n σ H->J.stop n H)
  (hs:∀i σ H x H3,i<n->Pv i σ H->J.yld i H x H3->g x σ H3 λσ2 H2=>tb { D with nx:=Pv (i+1),ct:=Pv (i+1),bk:=D.nx } σ2 H2)(hd:∀σ H,Pv n σ H->D.nx σ H):R J H:=by
 subst hR;refine⟨λi m σ H2=>m=n-i/\i<=n/\Pv i σ H2,⟨_,rfl,DC _,h0⟩,?_⟩;rintro i m σ H2 ⟨rfl,hi,p⟩;by_cases aI:i<n
 ·exact .inr ⟨VW i σ H2 aI p,Pv (i+1),λσ' H' q=>⟨_,ω,rfl,aI,q⟩,λx H3 y=>hs i σ H2 x H3 aI p y⟩
 have e:i=n:=ω;subst e;exact .inl ⟨gz σ H2 p,hd σ H2 p⟩
section
variable{o:Expr}
def exq(ob oc:Option HO)(l:IN)(H:Hp)(Q:VK):Prop:=match ob,oc with
 | some (.lst xs),ID (.lst zs)=>xs.length+zs.length<=AJ/\Q .non (upd H l (.lst (xs++zs)))
 | _,_=>False
def aaY(l:IN)(y:V)(H:Hp)(Q:VK):Prop:=match y with
 | .ref b=>exq (H l) (H b) l H Q
 | _=>False
def exK(x:V)(te:TE)(σ:St)(H1:Hp)(Q:VK):Prop:=match x with
 | .ref l=>isq (H1 l)/\te σ H1 λy H2=>aaY l y H2 Q
 | _=>False
def Yg(to te:TE):TE:=λσ H Q=>to σ H λx H1=>exK x te σ H1 Q
def BZ(to te:TE)(σ:St)(H:Hp)(Q:VK):Yg to te σ H Q=to σ H λx H1=>exK x te σ H1 Q:=rfl
def KJ(l:IN)(te:TE)(σ:St)(H1:Hp)(Q:VK):exK (.ref l) te σ H1 Q=(isq (H1 l)/\te σ H1 λy H2=>aaY l y H2 Q):=rfl
def Es(l b:IN)(H:Hp)(Q:VK):aaY l (.ref b) H Q=exq (H l) (H b) l H Q:=rfl
def RT(xs zs:List V)(l:IN)(H:Hp)(Q:VK):exq (ID (.lst xs)) (ID (.lst zs)) l H Q=(xs.length+zs.length<=AJ/\Q .non (upd H l (.lst (xs++zs)))):=rfl
def Ue(ho:QE X o to)(he:QE X e te)
  (bj:E5 o "extend" X.env (eval o X.env)=eval o X.env:=by rfl)
   (cE:((CO cpos (AH [e] X.env)).all (λx=>!x.1)&&(IC cpos (FX [] X.env)).all (λx=>x.1.isSome)
   && decide ([e].length+([]:List E8).length+(if ([]:List E8).isEmpty then 0 else 1)<30))=true:=by rfl)
  (bi:(bp.endLine == cpos.line)=true:=by rfl) (hs:AH [e] X.env=(false,eval e X.env)::AH [] X.env:=by rfl) (az:(CO cpos (AH [] X.env)).any (·.1)=false:=by rfl) :
  QE X (.Call (.Attribute o "extend" bp) [e] [] cpos) (Yg to te):=⟨by
 intro ac s σ H Q I h;refine Fs bj cE bi Z (thE (ho.h ac s σ H _ I h) λv s1 x H1 I1 r1 q=>?_);cases x with
 | ref l=>
  obtain⟨q1,q2⟩:=q;cases el:H1 l with
  | none=>rw[el] at q1;exact q1.elim
  | some ob=>
   cases ob with
   | lst xs=>
    obtain⟨h1,h2⟩:=yt (T := "list") I1 r1 (.inl ⟨rfl,xs,SqL.of el⟩);refine⟨"list","list.extend",Fc,PySem.F.slot_list_extend,PySem.F.type_list_extend,h1,h2,?_⟩;rw[hs];refine EL (by show(false||(CO cpos (AH [] X.env)).any (·.1))=false;rw[az] <;> rfl) (EX ?_)
    refine C0 (thE (he.h ac s1 σ H1 _ I1 q2) λu s2 y H2 I2 r2 q3=>C6 ?_);replace q3:aaY l y H2 Q:=q3;unfold aaY at q3;split at q3
    ·rename_i b;unfold exq at q3;split at q3
     ·rename_i ys zs e1 e2;exact Wr ac s2 σ H2 (.ref l) [.ref b] v [u] Q I2 r1 (.cons r2 .nil) ⟨l,b,ys,zs,rfl,rfl,e1,e2,q3.1,q3.2⟩
     exact q3.elim
    exact q3.elim
   | _=>rw[el] at q1;exact q1.elim
 | _=>exact q.elim⟩
theorem MN:∀(l:List Ap),(BF l.length).filterMap (λk=>l[k]?)=l
 | []=>rfl
 | x::l=>by
  rw[B0,IU,GW];show x::((BF l.length).map Nat.succ).filterMap _=_;rw[IZ];congr 1;exact MN l
theorem Oh{α β:Type}{f g:α->Option β}:∀{l:List α},(∀x∈l,f x=g x)->l.filterMap f=l.filterMap g
 | [],_=>rfl
 | x::l,h=>by
  rw[GW,GW,h x A5,Oh λy hy=>h y (A9 _ hy)]
def FQ(af:List Ap):slicePick af.toArray IF IF (ID (-1))=af.reverse.toArray:=by
 unfold slicePick GS sliceRange;simp only[Option.getD_some,A0,show ¬((-1:Int)>0) by decide,if_false];congr 1;have key:(if ((af.length:Int)-1) > -1 then ((af.length:Int)-1 - -1 - -1-1)/(- -1) else 0).toNat=af.length:=by
  rw[show(- -1:Int)=1 from rfl,Int.ediv_one];split <;> omega
 rw[key,IZ];rw[<- MN af.reverse,IE];refine Oh λk hk=>?_;have rq:=D7.mp hk;show af.toArray[((af.length:Int)-1 + -1*(k:Int)).toNat]?=af.reverse[k]?;rw[KW rq,show((af.length:Int)-1 + -1*(k:Int)).toNat=af.length-1-k by omega];simp
def rvq(ob:Option HO)(H:Hp)(Q:VK):Prop:=match ob with
 | some (.lst xs)=>∀p,H p=IF->Q (.ref p) (upd H p (.lst xs.reverse))
 | _=>False
def rvK(x:V)(H:Hp)(Q:VK):Prop:=match x with
 | .ref p=>rvq (H p) H Q
 | _=>False
def aeC(te:TE):TE:=λσ H Q=>te σ H λx H1=>rvK x H1 Q
def ab3(p:IN)(H:Hp)(Q:VK):rvK (.ref p) H Q=rvq (H p) H Q:=rfl
def ab2(xs:List V)(H:Hp)(Q:VK):rvq (ID (.lst xs)) H Q=∀p,H p=IF->Q (.ref p) (upd H p (.lst xs.reverse)):=rfl
def ae3{p3 p4:Pos}{j}(he:QE X e te)(aI:∀o r,letTemporaryGo e o r=pure ():=by intro _ _;rfl):QE X (.Subscript e (.Slice IF IF (ID (.UnaryOp .USub (.Constant (.int 1) j p3) p4)) p2) pos) (aeC te):=⟨by
 intro ac s σ H Q I h;refine wpAny_Subscript_Slice_step (T := "list") slot_list_getitem.lookup (thE (he.h ac s σ H _ I h) λv s1 x H1 I1 r1 q1=>?_) aI;replace q1:rvK x H1 Q:=q1;unfold rvK at q1;split at q1
 ·rename_i p;unfold rvq at q1;split at q1
  ·rename_i xs e1;cases r1;refine wpAny_Slice ?_;rw[evalPart_none];refine Au ?_;refine Au ?_;refine thn (Ug (aen vh ZF) ac s1 σ H1 (λo H'=>o=ID (-1)/\H'=H1) I1 ⟨_,rfl,_,rfl,rfl,rfl⟩) λvs s3 ⟨o3,H3,I3,pu,e3,e4⟩=>?_;subst e3;subst e4;have I4:Inv X ac σ H3 { s3 with heap:=s3.heap.push { cls:=.type "slice",data:=.fields #[.none,.none,vs] } }:=I3.kept (t':=s3.toks) λb ob q=>AE _ q;obtain⟨af,r,ht,hz⟩:=I4.list (SqL.of e1);have ar:=r.length;refine⟨ht.isList.typeIs,?_⟩;refine wpAny_getItem_list_slice ht.isList (Heap.IsSliceOf.new ..) .none .none pu δ ?_ (by rw[A0] <;> omega)
   rw[FQ];refine⟨.ref _,_,I4.laid (t':=s3.toks) (o:=.lst xs.reverse) (λb ob q=>AE _ q) (A3 _) ?_,rfl,q1 _ (I4.hok.fresh (A3 _))⟩;exact⟨by rw[IE];exact hz,_,0,r.reverse,AU _ rfl⟩
  exact q1.elim
 exact q1.elim⟩
def ahy:R2:=λx y H Q=>∃p q xs ys,x=.ref p/\y=.ref q/\H p=ID (.tup xs)/\H q=ID (.tup ys)/\xs.all Ir=true/\ys=[]/\Q (.bl xs.isEmpty) H
theorem afB(hu:X.A.units<FI):OpR X (EV .Eq) ahy:=by
 intro ac s σ H x y v u Q I rx ry h;obtain⟨p,q,xs,ys,rfl,rfl,e1,e2,f1,rfl,qq⟩:=h;cases rx;cases ry;obtain⟨bg,r1,qf,eW⟩:=I.tuple (SqT.of e1);obtain⟨a9,r2,qc,dC⟩:=I.tuple (SqT.of e2);cases r2;refine SeqAt.RcAt.tuples (e:=λ_=>true) qf qc hu (λj h1 h2=>absurd h2 (LF _)) X.prog X.w X.xe (EP X ac σ Q) ?_;have hl:=r1.length;refine⟨.bl xs.isEmpty,H,I,?_,qq⟩;show Is _=Is _;congr 1;rw[A0,A0];cases xs with
 | nil=>
  cases r1;rfl
 | cons a b=>
  cases r1;rfl
def abw(o a b:Expr)(p pos:Pos)(env:Env)(v:Ap):E3 (.Subscript o (.Subscript a b p) pos) env v=(do
   let ov <- FH [v] (eval o env)
   let iv <- FH [v,ov] (eval (.Subscript a b p) env)
   F4 pos
   FH [v,ov,iv] (setItem ov iv v)
   release [v,ov,iv] []):=rfl
def acw{a b:Expr}{ti:TE}{p:Pos}{t:SQ}(ho:QE X o to)(hi:QE X (.Subscript a b p) ti)(hs:S5 X t):QG X (.Subscript o (.Subscript a b p) pos) (aaP to ti t):=⟨QD ho.h hi.h hs (λv=>abw o a b p pos X.env v)⟩
end
mutual
def szD(a:Nat):AF->Prop
 | .none=>True
 | .bool _=>True
 | .int i=>i.natAbs<=10^20*2^a
 | .str x=>x.length<=30+a/\∀c∈x.cps.toList,c<16^8
 | .list ds=>ds.length<=210*5^a/\qu a ds
 | .tuple ds=>ds.length<=210*5^a/\qu a ds
 | .dict _=>False
def qu(a:Nat):List AF->Prop
 | []=>True
 | d::ds=>szD a d/\qu a ds
end
theorem gJ{a:Nat}:∀{ds:List AF},qu a ds ↔ ∀d∈ds,szD a d
 | []=>⟨λ_ d h=>(nomatch h),λ_=>trivial⟩
 | x::ds=>by
  show szD a x/\qu a ds↔_;rw[gJ (ds:=ds)];constructor
  ·intro⟨h1,h2⟩ d hd;rcases AX.mp hd with rfl|z
   ·exact h1
   exact h2 d z
  intro h;exact⟨h x A5,λd hd=>h d (A9 _ hd)⟩
def JV(a:Nat):210*5^a<=210*5^(a+1):=by rw[Nat.pow_succ];omega
mutual
theorem vo{a:Nat}:∀{d:AF},szD a d->szD (a+1) d
 | .none,_=>trivial
 | .bool _,_=>trivial
 | .int i,h=>by
  have h':i.natAbs<=10^20*2^a:=h;show i.natAbs<=10^20*2^(a+1);rw[Nat.pow_succ];omega
 | .str x,h=>⟨by have:=h.1;omega,h.2⟩
 | .list ds,h=>⟨BU h.1 (JV a),Ca h.2⟩
 | .tuple ds,h=>⟨BU h.1 (JV a),Ca h.2⟩
 | .dict _,h=>h.elim
theorem Ca{a:Nat}:∀{ds:List AF},qu a ds->qu (a+1) ds
 | [],_=>trivial
 | d::ds,h=>⟨vo h.1,Ca h.2⟩
end
mutual
theorem Cp:∀(d:AF),szD 2 d->d.shown.length+2<=400*nodes d
 | .none,_=>by decide
 | .bool b,_=>by cases b <;> decide
 | .int i,h=>by
  have h':i.natAbs<=10^20*2^2:=h;have:=adH (i:=i) ω;show(EA (toString i)).length+2<=400*1;omega
 | .str x,h=>by
  have h1:=StrLaws.reprText_len x h.2;have h2:=h.1;show(reprText x).length+2<=400*1;omega
 | .list ds,h=>by
  have h1:=ni ds h.2;have h2:=listText_len_le (AF.shownAll ds);rw[AF.shown.eq_5,nodes];omega
 | .tuple ds,h=>by
  have h1:=ni ds h.2;have h2:=tupleText_len_le (AF.shownAll ds);rw[AF.shown.eq_6,nodes];omega
 | .dict kvs,h=>h.elim
theorem ni:∀(ds:List AF),qu 2 ds->((AF.shownAll ds).map λx=>x.length).sum+2*(AF.shownAll ds).length<=400*aK ds
 | [],_=>by simp[AF.shownAll,aK]
 | d::ds,h=>by
  have h1:=Cp d h.1;have h2:=ni ds h.2;rw[AF.shownAll.eq_2,aK,DE,sum_cons,B0];omega
end
mutual
theorem Tg:∀(d:AF),szD 2 d->d.showable=true/\d.hasDict=false
 | .none,_=>⟨rfl,rfl⟩
 | .bool b,_=>⟨rfl,rfl⟩
 | .int i,h=>by
  refine⟨?_,rfl⟩;have h':i.natAbs<=10^20*2^2:=h;show decide (i.natAbs.log2<1920)=true;refine decide_eq_true ?_;by_cases z:i.natAbs=0
  ·rw[z];decide
  have:=(log2_lt (k:=70) z).mpr ω;omega
 | .str x,_=>⟨rfl,rfl⟩
 | .list ds,h=>by
  obtain⟨h1,h2⟩:=vm ds h.2;exact⟨h1,h2⟩
 | .tuple ds,h=>by
  obtain⟨h1,h2⟩:=vm ds h.2;exact⟨h1,h2⟩
 | .dict kvs,h=>h.elim
theorem vm:∀(ds:List AF),qu 2 ds->AF.showableAll ds=true/\AF.hasDictAll ds=false
 | [],_=>⟨rfl,rfl⟩
 | d::ds,h=>by
  obtain⟨h1,h2⟩:=Tg d h.1;obtain⟨h3,h4⟩:=vm ds h.2;refine⟨?_,?_⟩
  ·rw[AF.showableAll.eq_2,h1,h3];rfl
  rw[AF.hasDictAll.eq_2,h2,h4];rfl
end
structure Shw(d:AF):Prop where
 sh:d.showable=true
 nd:d.hasDict=false
 dp:d.depth<=100
 ln:d.shown.length<=AJ
def aeN{d:AF}(h:szD 2 d)(hn:nodes d<=40000)(hd:d.depth<=100):Shw d:=by
 obtain⟨h1,h2⟩:=Tg d h;have h3:=Cp d h;have h4:16000000<=AJ:=by decide
 exact⟨h1,h2,hd,ω⟩
def aeV:List V->Hp->VK->Prop:=λxs H Q=>∃v ok d,xs=[v]/\aJ ok H v d/\Shw d/\Q (.str d.shown) H
theorem Fb{X:Cx}(hg:X.A.guards=ID [])(hu:X.A.units+200<FI):dm X (.builtin "repr") aeV:=by
 intro ac s σ H xs us Q I r h;obtain⟨v,ok,d,rfl,t,⟨sh,hd,yT,hl⟩,q⟩:=h;obtain⟨u,rfl,rv⟩:=vals1 r;have l8:∀as:List IN,d.hasDict=true->¬DH∈as:=λas z=>by rw[hd] at z;cases z
 cases t with
 | non=>cases rv;exact P.repr_of_none ⟨.str _,H,I.tok _,⟨_,rfl⟩,q⟩
 | bl b=>cases rv;exact P.repr_of_bool ⟨.str _,H,I.tok _,⟨_,rfl⟩,q⟩
 | int i=>
  obtain⟨t,rfl⟩:=rv;exact P.repr_of_int (of_decide_eq_true sh) ⟨.str _,H,I.tok _,⟨_,rfl⟩,q⟩
 | str x=>
  obtain⟨t,rfl⟩:=rv;exact P.repr_of_str ⟨.str _,H,I.tok _,⟨_,rfl⟩,q⟩ hl
 | lst o e z t=>
  obtain⟨as,rd⟩:=aJ.reads I (aJ.lst o e z t) rv;cases rv;exact repr_of_reads' rd sh (l8 as) hg ω (λ_ _ z=>z) (λh' u tk k=>⟨.str _,H,I.kept k,⟨_,rfl⟩,q⟩) hl
 | tup o e z t=>
  obtain⟨as,rd⟩:=aJ.reads I (aJ.tup o e z t) rv;cases rv;exact repr_of_reads' rd sh (l8 as) hg ω (λ_ _ z=>z) (λh' u tk k=>⟨.str _,H,I.kept k,⟨_,rfl⟩,q⟩) hl
def okS(a:Nat)(x:Str):Prop:=x.length<=30+a/\∀c∈x.cps.toList,c<16^8
def vC(s:String)(a:Nat)(h:s.length<=30+a):okS a (EA s):=by
 refine⟨by rw[PySem.ofString_length];exact h,?_⟩;rw[PySem.Str.ofString_eq_toList];intro c hc;obtain⟨ch,_,rfl⟩:=Ch.mp (by simpa using hc);have:=ch.valid;have h2:ch.toNat<1114112:=by
  rcases ch.valid with z|⟨_,z⟩
  ·have:ch.val.toNat<55296:=z;show ch.val.toNat<_;omega
  exact z
 omega
def valid:AF->List Nat->Prop
 | _,[]=>True
 | .list ds,i::r=>∃d,ds[i]?=ID d/\valid d r
 | .tuple ds,i::r=>∃d,ds[i]?=ID d/\valid d r
 | _,_::_=>False
structure zu(a:Nat)(d d':AF):Prop where
 sz:szD (a+1) d'
 nd:nodes d'<=4*nodes d+20
 dp:d'.depth<=d.depth+2
def Wl(d:AF):1<=nodes d:=by cases d <;> simp[nodes]
theorem cg:∀(a b:List AF),aK (a++b)=aK a+aK b
 | [],b=>by simp[aK]
 | x::a,b=>by rw[LG,aK,aK,cg a b];omega
theorem jM{x:AF}:∀{ds:List AF},x∈ds->nodes x<=aK ds
 | y::ds,h=>by
  rw[aK];rcases AX.mp h with rfl|z
  ·omega
  have:=jM z;omega
def iZ(n:Nat):∀(ds:List AF),aK (ds.take n)<=aK ds:=by
 intro ds;have h:ds=ds.take n++ds.drop n:=(K0 n ds).symm;have:=cg (ds.take n) (ds.drop n);rw[<- h] at this;omega
def Gf(n:Nat):∀(ds:List AF),aK (ds.drop n)<=aK ds:=by
 intro ds;have h:ds=ds.take n++ds.drop n:=(K0 n ds).symm;have:=cg (ds.take n) (ds.drop n);rw[<- h] at this;omega
def lU(ds:List AF)(lo hi:Option Int):aK (cutD ds lo hi)<=aK ds:=BU (iZ _ _) (Gf _ _)
theorem nU:∀(ds:List AF),aK ds.reverse=aK ds
 | []=>rfl
 | x::ds=>by rw[KA,cg,nU ds,aK,aK,aK];omega
theorem dN{x:AF}:∀{ds:List AF},x∈ds->x.depth<=AF.depthAll ds
 | y::ds,h=>by
  rw[AF.depthAll.eq_2];rcases AX.mp h with rfl|z
  ·omega
  have:=dN z;omega
theorem lJ{k:Nat}:∀{ds:List AF},(∀d∈ds,d.depth<=k)->AF.depthAll ds<=k
 | [],_=>DC _
 | x::ds,h=>by
  rw[AF.depthAll.eq_2];have h1:=h x A5;have h2:=lJ λd hd=>h d (A9 _ hd);omega
theorem JZ{ds:List AF}{i:Nat}{d d':AF}(h:ds[i]?=ID d):aK (ds.set i d')+nodes d=aK ds+nodes d':=by
 induction ds generalizing i with
 | nil=>cases h
 | cons x ds ih=>
  cases i with
  | zero=>cases h;rw[EO,aK,aK];omega
  | succ i=>rw[FE,aK,aK];have:=ih (i:=i) h;omega
theorem aF.reverse{ok:IN->Prop}{H:Hp}:∀{vs:List V}{ds:List AF},aF ok H vs ds->aF ok H vs.reverse ds.reverse
 | _,_,.nil=>.nil
 | _,_,.cons h r=>by
  rw[KA,KA];exact r.reverse.append (.cons h .nil)
def ctq(a b:Option HO)(pa:IN)(H:Hp)(Q:VK):Prop:=match a,b with
 | some (.tup xs),ID (.tup ys)=>xs≠[]/\xs.length+ys.length<=AJ/\(ys=[]->Q (.ref pa) H)/\(ys≠[]->∀p,H p=IF->Q (.ref p) (upd H p (.tup (xs++ys))))
 | _,_=>False
def Zi:R2:=λx y H Q=>match x,y with
 | .ref p,.ref q=>ctq (H p) (H q) p H Q
 | _,_=>False
def JQ(p q:IN)(H:Hp)(Q:VK):Zi (.ref p) (.ref q) H Q=ctq (H p) (H q) p H Q:=rfl
def RX(xs ys:List V)(pa:IN)(H:Hp)(Q:VK):ctq (ID (.tup xs)) (ID (.tup ys)) pa H Q=(xs≠[]/\xs.length+ys.length<=AJ/\(ys=[]->Q (.ref pa) H)/\(ys≠[]->∀p,H p=IF->Q (.ref p) (upd H p (.tup (xs++ys))))):=rfl
def Ur:OpR X (EH .Add) Zi:=by
 intro ac s σ H x y v u Q I rx ry h;unfold Zi at h;split at h
 ·rename_i p q;unfold ctq at h;split at h
  ·rename_i xs ys e1 e2;exact ac6 ac s σ H _ _ v u Q I rx ry ⟨p,q,xs,ys,rfl,rfl,SqT.of e1,SqT.of e2,h.1,h.2.1,h.2.2.1,h.2.2.2⟩
  exact h.elim
 exact h.elim
inductive bL (H:Hp):List V->List (List Nat)->Prop
 | nil:bL H [] []
 | cons {t:IN} {p:List Nat} {vs:List V} {ps:List (List Nat)}:H t=ID (.tup (nW p))->bL H vs ps->bL H (.ref t::vs) (p::ps)
theorem bL.keep{H H':Hp}(k:∀a xs,H a=ID (.tup xs)->H' a=ID (.tup xs)):∀{vs:List V}{ps:List (List Nat)},bL H vs ps->bL H' vs ps
 | _,_,.nil=>.nil
 | _,_,.cons h r=>.cons (k _ _ h) (r.keep k)
def bL.same{vs:List V}{ps:List (List Nat)}(h:bL H vs ps)(s:Same H H'):bL H' vs ps:=h.keep λa xs e=>s _ _ e
def bL.Vq{vs:List V}{ps:List (List Nat)}{ys:List V}(h:bL H vs ps)(e:H l=ID (.lst xs)):bL (upd H l (.lst ys)) vs ps:=h.keep λa zs z=>by
 rw[aO (λw=>by rw[w,e] at z;cases z)];exact z
theorem bL.append{H:Hp}:∀{vs ws:List V}{ps qs:List (List Nat)},bL H vs ps->bL H ws qs->bL H (vs++ws) (ps++qs)
 | _,_,_,_,.nil,t=>t
 | _,_,_,_,.cons h r,t=>.cons h (r.append t)
theorem bL.length{H:Hp}:∀{vs:List V}{ps:List (List Nat)},bL H vs ps->vs.length=ps.length
 | _,_,.nil=>rfl
 | _,_,.cons _ r=>by rw[B0,B0,r.length]
theorem bL.get{H:Hp}:∀{vs:List V}{ps:List (List Nat)}{i:Nat}{v:V},bL H vs ps->vs[i]?=ID v->∃t p,v=.ref t/\ps[i]?=ID p/\H t=ID (.tup (nW p))
 | _,_,0,_,.cons h _,e=>by cases e;exact⟨_,_,rfl,rfl,h⟩
 | _,_,i+1,_,.cons _ r,e=>bL.get r (i:=i) e
def Jx(h:n<=100000):n<=AJ:=BU h δ
def gn{d:AF}(h:ds[i]?=ID d):aK (ds.take (i+1))=aK (ds.take i)+nodes d:=by
 rw[take_snoc h,cg,aK,aK];omega
def tU{d:AF}{p:List Nat}(h:ds[i]?=ID d)(v:valid d p):valid (.list ds) (i::p)/\valid (.tuple ds) (i::p):=⟨⟨d,h,v⟩,⟨d,h,v⟩⟩
def j6(s:Same H H')(h:H l=IF):Same H (upd H' l o):=λb u e=>by
 rw[aO (aH e h)];exact s b u e
theorem nM:∀(p:List Nat)(d:AF),valid d p->p.length<=d.depth
 | [],d,_=>DC _
 | i::r,.list ds,h=>by
  obtain⟨d,h1,h2⟩:=h;have:=nM r d h2;have:=dN (AY h1);rw[AF.depth.eq_1,B0];omega
 | i::r,.tuple ds,h=>by
  obtain⟨d,h1,h2⟩:=h;have:=nM r d h2;have:=dN (AY h1);rw[AF.depth.eq_2,B0];omega
 | _::_,.none,h=>h.elim
 | _::_,.bool _,h=>h.elim
 | _::_,.int _,h=>h.elim
 | _::_,.str _,h=>h.elim
 | _::_,.dict _,h=>h.elim
theorem U3{ok:IN->Prop}{te tb:TE}{σ:St}{H:Hp}{Q:VK}{ds:List AF}(d:AF)(he:d=.list ds)(h:Gv ok te σ H d)(q:∀p xs H',Same H H'->H' p=ID (.lst xs)->ok p->aF ok H' xs ds->tb σ H' λy H2=>uy (.ref p) y H2 Q):tOp uy te tb σ H Q:=by
 subst he;refine h H (Same.refl _) _ λv H' s t=>?_;cases t with
 | lst o e z ts=>exact q _ _ _ s e o ts
def aF.at{ok:IN->Prop}(t:aF ok H xs ds){i:Int}(h0:0<=i)(h:i<ds.length):∃x d,atI xs i=ID x/\d∈ds/\aJ ok H x d:=by
 have hl:=t.length;have h1:i.toNat<xs.length:=ω;obtain⟨d,hd,td⟩:=t.get (AC h1);refine⟨_,d,?_,AY hd,td⟩;unfold atI;rw[Bu h0 ω];exact AC h1
structure Bm(d:AF):Prop where
 sz:szD 0 d
 nd:nodes d<=4
 dp:d.depth<=1
theorem Jp{a:Nat}{d:AF}(h:szD 0 d):szD a d:=by
 induction a with
 | zero=>exact h
 | succ a ih=>exact vo ih
def wV:Bm .none:=⟨trivial,δ,δ⟩
def CV{b:Bool}:Bm (.bool b):=⟨trivial,by show 1<=4;decide,by show 0<=1;decide⟩
def pB{i:Int}(h:i.natAbs<=10^20):Bm (.int i):=⟨by show i.natAbs<=10^20*2^0;omega,by show 1<=4;decide,by show 0<=1;decide⟩
def Ut(s:String)(h:s.length<=30):Bm (.str (EA s)):=⟨vC s 0 h,by show 1<=4;decide,by show 0<=1;decide⟩
def Bs:Bm (.list [])/\Bm (.tuple []):=⟨⟨⟨δ,trivial⟩,δ,δ⟩,⟨⟨δ,trivial⟩,δ,δ⟩⟩
def Bm.Lh{a:Nat}{d d':AF}(h:Bm d'):zu a d d':=⟨Jp h.sz,by have:=h.nd;omega,by have:=h.dp;omega⟩
def ad9{a:Nat}{d:AF}{cy:List AF}(rh:nodes d=1+aK ds)(ny:d.depth=AF.depthAll ds+1)(hs:∀x∈cy,szD (a+1) x)(hl:cy.length<=210*5^(a+1))(hn:aK cy<=4*aK ds+10)(hd:∀x∈cy,x.depth<=AF.depthAll ds+2) :
  zu a d (.list cy)/\zu a d (.tuple cy):=by
 have h1:=lJ hd;refine⟨⟨⟨hl,gJ.mpr hs⟩,?_,?_⟩,⟨⟨hl,gJ.mpr hs⟩,?_,?_⟩⟩
 ·show 1+aK cy<=_;omega
 ·rw[AF.depth.eq_1];omega
 ·show 1+aK cy<=_;omega
 rw[AF.depth.eq_2];omega
def af2:AF->Bool
 | .list _=>true
 | .tuple _=>true
 | _=>false
theorem dJ.gY{ok:IN->Prop}{p:IN}{H H1:Hp}{B:Int}(n:dJ ok H)(s:aR p H H1)(t:aP H1 p B):dJ ok H1:=λH' q s' hq=>by
 refine n H q (Same.refl _) ?_;cases e:H q with
 | none=>rfl
 | some o=>
  have qp:q≠p:=(t.same s').ne hq;rw[s' _ _ (s q o qp e)] at hq;cases hq
def aJ.nj{ok:IN->Prop}{d:AF}(t:aJ ok H v d)(hk:∀a,ok a->a≠p)(s:aR p H H'):aJ ok H' v d:=t.keep λa o h e=>⟨h,s a o (hk a h) e⟩
def aF.nj{ok:IN->Prop}{v:List V}{d:List AF}(t:aF ok H v d)(hk:∀a,ok a->a≠p)(s:aR p H H'):aF ok H' v d:=t.keep λa o h e=>⟨h,s a o (hk a h) e⟩
def dJ.new{ok:IN->Prop}(n:dJ ok H){q:IN}(h:H q=IF):ok q:=n H q (Same.refl _) h
def wF(sq:Bool):Sp:=λvs H Q _=>∃(p:IN)(B:Int)(v:V)(d:AF)(a:Nat)(ok:IN->Prop),vs=[.ref p,v]/\aP H p B/\0<=B/\B<=900000/\dJ ok H/\(∀a,ok a->a≠p)/\aJ ok H v d/\szD a d/\a<=1/\(sq=true->af2 d=true) /\
 ∀v' d' H',aR p H H'->aP H' p (B+10)->aJ ok H' v' d'->zu a d d'->Q v' H'
def Zv{a:Nat}(h:a<=1):210*5^a<=1050/\4*(210*5^a)+1<=210*5^(a+1)/\210<=210*5^a:=by
 have:a=0\/a=1:=by omega
 rcases this with rfl|rfl <;> decide
structure Sm3(a:Nat)(d:AF):Prop where
 sz:szD (a+1) d
 nd:nodes d<=20
 dp:d.depth<=2
def Sm3.Lh{a:Nat}{d d':AF}(h:Sm3 a d'):zu a d d':=⟨h.sz,by have:=h.nd;omega,by have:=h.dp;omega⟩
def Bm.sm3{a:Nat}{d:AF}(h:Bm d):Sm3 a d:=⟨Jp h.sz,by have:=h.nd;omega,by have:=h.dp;omega⟩
def Qt{a:Nat}:∀d∈([]:List AF),Sm3 a d:=λd h=>(nomatch h)
def cA{a:Nat}{x:AF}{xs:List AF}(h:Sm3 a x)(h2:∀d∈xs,Sm3 a d):∀d∈x::xs,Sm3 a d:=λd hd=>by
 rcases AX.mp hd with rfl|z
 ·exact h
 exact h2 d z
def Jt{a:Nat}{i:Int}(h:i.natAbs<=10^20*2^(a+1)):Sm3 a (.int i):=⟨h,by show 1<=20;decide,by show 0<=2;decide⟩
def yC{a:Nat}{x:Str}(h:okS (a+1) x):Sm3 a (.str x):=⟨h,by show 1<=20;decide,by show 0<=2;decide⟩
def abX{a:Nat}{i:Int}(h:i.natAbs<=10^20*2^(a+1)):Sm3 a (.list [.int i])/\Sm3 a (.tuple [.int i]):=by
 have p:1<=210*5^(a+1):=by have:=Nat.pow_pos (n:=a+1) (show 0<5 by decide);omega
 exact⟨⟨⟨p,h,trivial⟩,by show 2<=20;decide,by show max 0 0+1<=2;decide⟩,⟨⟨p,h,trivial⟩,by show 2<=20;decide,by show max 0 0+1<=2;decide⟩⟩
def afh{a:Nat}(h:a<=1):10^20*2^a<=2*10^20/\2*(10^20*2^a)=10^20*2^(a+1)/\10^20<=10^20*2^a:=by
 have:a=0\/a=1:=by omega
 rcases this with rfl|rfl <;> decide
def abr{a:Nat}{d:AF}{cy:List AF}(rh:nodes d=1+aK ds)(ny:d.depth=AF.depthAll ds+1)(hs:∀x∈cy,szD (a+1) x)(hl:cy.length<=210*5^(a+1))(hn:aK cy<=4*aK ds+23)(hd:∀x∈cy,x.depth<=AF.depthAll ds+2) :
  zu a d (.list cy)/\zu a d (.tuple cy):=by
 have h1:=lJ hd;refine⟨⟨⟨hl,gJ.mpr hs⟩,?_,?_⟩,⟨⟨hl,gJ.mpr hs⟩,?_,?_⟩⟩
 ·show 1+aK cy<=_;omega
 ·rw[AF.depth.eq_1];omega
 ·show 1+aK cy<=_;omega
 rw[AF.depth.eq_2];omega
def Pa{a:Nat}{d:AF}{c c':AF}(rh:nodes d=1+aK ds)(ny:d.depth=AF.depthAll ds+1)(hl:ds.length<=210*5^a)(hs:∀x∈ds,szD a x)(hc:ds[i]?=ID c)(b:zu a c c') :
  zu a d (.list (ds.set i c'))/\zu a d (.tuple (ds.set i c')):=by
 have hm:=AY hc;have h1:=JZ (d':=c') hc;have h2:=jM hm;have h3:=b.nd;refine abr rh ny (λx hx=>?_) (by rw[length_set];exact BU hl (JV a)) ω (λx hx=>?_)
 ·rcases List.mem_or_eq_of_mem_set hx with z|rfl
  ·exact vo (hs x z)
  exact b.sz
 rcases List.mem_or_eq_of_mem_set hx with z|rfl
 ·have:=dN z;omega
 have:=b.dp;have:=dN hm;omega
def Oz(x:V)(xs:List V):mX (x::xs) (ID 1) IF=xs:=by
 unfold mX;have e1:HT.sIx (x::xs).length 0 (ID 1)=1:=by
  rw[B0];simp[HT.sIx]
 have e2:HT.sIx (x::xs).length (x::xs).length IF=(x::xs).length:=by simp[HT.sIx]
 rw[e1,e2];simp
def aa9(x:V)(xs:List V):¬(HT.sIx (x::xs).length 0 (ID 1)=0/\HT.sIx (x::xs).length (x::xs).length IF=(x::xs).length):=by
 have e1:HT.sIx (x::xs).length 0 (ID 1)=1:=by
  rw[B0];simp[HT.sIx]
 rw[e1];exact λh=>absurd h.1 δ
def bL.abP{vs:List V}{ps:List (List Nat)}(h:bL H vs ps)(t:aP H p B)(s:aR p H H'):bL H' vs ps:=h.keep λa xs e=>s _ _ (t.net e) e
def bL.nt{vs:List V}{ps:List (List Nat)}(h:bL H vs ps)(t:aP H p B)(e:H l=ID (.lst vs))(n:1<=ps.length):l≠p:=λz=>by
 obtain⟨a,b,c,e2,_⟩:=t;rw[z,e2] at e;cases e;cases h
def adA(xs:List α)(h:1<=xs.length):∃(i:Nat)(x:α),xs[i]?=ID x/\atI xs (-1)=ID x:=by
 have h1:xs.length-1<xs.length:=ω;refine⟨xs.length-1,xs[xs.length-1],AC h1,?_⟩;unfold atI ixN;rw[if_neg δ,if_pos ω];show xs[_]?=_;rw[show(-1+(xs.length:Int)).toNat=xs.length-1 by omega];exact AC h1
section
variable{a:Expr}{ta:TE}
def aeW:R2:=λx y H Q=>∃p q xs,x=.ref p/\y=.ref q/\H p=ID (.lst xs)/\H q=ID (.lst [])/\Q (.bl (!xs.isEmpty)) H
theorem QF(hu:X.A.units<FI):OpR X (EV .NotEq) aeW:=by
 intro ac s σ H x y v u Q I rx ry h;obtain⟨p,q,xs,rfl,rfl,e1,e2,qq⟩:=h;cases rx;cases ry;obtain⟨bg,r1,qf,eW⟩:=I.list (SqL.of e1);obtain⟨a9,r2,qc,dC⟩:=I.list (SqL.of e2);cases r2;cases xs with
 | nil=>
  cases r1;exact SeqAt.RcNeAt.lists (e:=λ_=>true) qf.isList qc.isList Z hu (λj h1 h2=>absurd h2 (LF _)) X.prog X.w X.xe (EP X ac σ Q) ⟨.bl false,H,I,rfl,qq⟩
 | cons a b=>
  cases r1;exact SeqAt.RcNeAt.lists_lengths qf.isList qc.isList ζ hu X.prog X.w X.xe (EP X ac σ Q) ⟨.bl true,H,I,rfl,qq⟩
end
def ahd{b:IN}{ys:List V}(hR:R=(λJ H1=>∃W:Nat->Nat->St->Hp->Prop,(∃m,W 0 m σ H1)/\∀i m σ H,W i m σ H ->
  (J.stop i H/\D.nx σ H)\/(J.go i H/\∃N:St->Hp->Prop,(∀σ' H',N σ' H'->∃m',m'<m/\W (i+1) m' σ' H')/\∀x H',J.yld i H x H'->g x σ H' λσ2 H2=>tb { D with nx:=N,ct:=N,bk:=D.nx } σ2 H2)))
  (hyx:ys.length<=xs.length)(Pv:Nat->St->Hp->Prop)(h0:Pv 0 σ H)(hl:∀i σ H,Pv i σ H->H a=ID (.lst xs)/\H b=ID (.lst ys))
  (hs:∀i x y σ H p,xs[i]?=ID x->ys[i]?=ID y->Pv i σ H->H p=IF->g (.ref p) σ (upd H p (.tup [x,y])) λσ2 H2=>tb { D with nx:=Pv (i+1),ct:=Pv (i+1),bk:=D.nx } σ2 H2)(hd:∀σ H,Pv ys.length σ H->D.nx σ H):R (Itz K a b) H:=by
 refine Ep hR ys.length Pv h0 (λi σ H hi p=>?_) (λσ H p=>?_) (λi σ H x H3 hi p y=>?_) hd
 ·obtain⟨e1,e2⟩:=hl i σ H p;exact⟨xs,ys,_,_,SqL.of e1,SqL.of e2,AC ω,AC hi⟩
 ·obtain⟨e1,e2⟩:=hl _ σ H p;exact⟨xs,ys,SqL.of e1,SqL.of e2,.inr (B4 (A3 _))⟩
 obtain⟨e1,e2⟩:=hl i σ H p;obtain⟨q,x1,y1,rfl,hq,rfl,hx,hy⟩:=y;exact hs i x1 y1 σ H q (hx _ (SqL.of e1)) (hy _ (SqL.of e2)) p hq
def stD(s:Int×Int×Int):AF:=.tuple [.int s.1,.int s.2.1,.int s.2.2]
theorem aJ.st{ok:IN->Prop}{H:Hp}{x:V}{s:Int×Int×Int}(t:aJ ok H x (stD s)):∃a,x=.ref a/\ok a/\H a=ID (.tup [.int s.1,.int s.2.1,.int s.2.2]):=by
 cases t with
 | tup o e z ts=>
  rename_i p xs;refine⟨p,rfl,o,?_⟩;cases ts with
  | cons t1 ts=>
   cases t1;cases ts with
   | cons t2 ts=>
    cases t2;cases ts with
    | cons t3 ts=>
     cases t3;cases ts;exact e
theorem aF.st{ok:IN->Prop}{H:Hp}{xs:List V}{ss:List (Int×Int×Int)}{i:Nat}{x:V}(t:aF ok H xs (ss.map stD))(h:xs[i]?=ID x):∃a s,x=.ref a/\ok a/\ss[i]?=ID s/\H a=ID (.tup [.int s.1,.int s.2.1,.int s.2.2]):=by
 obtain⟨d,hd,td⟩:=t.get h;rw[AM] at hd;cases hs:ss[i]? with
 | none=>rw[hs] at hd;cases hd
 | some s=>
  rw[hs] at hd;cases hd;obtain⟨a,h1,h2,h3⟩:=td.st;exact⟨a,s,h1,h2,rfl,h3⟩
def rB{r:Int}(h0:0<=r)(h:r<is.length):∃i,i∈is/\atI (is.map At) r=ID (.int i):=by
 have h1:r.toNat<is.length:=ω;refine⟨is[r.toNat],EB h1,?_⟩;unfold atI;rw[Bu h0 (by rw[AG];omega)];show(is.map At)[r.toNat]?=_;rw[AM,AC h1];rfl
structure Py(ss:List (Int×Int×Int)):Prop where
 lh:∀(i:Nat) s,ss[i]?=ID s->s.1<=s.2.1/\0<=s.2.2/\s.2.2<=9
 nx:∀(i:Nat) s t,ss[i]?=ID s->ss[i+1]?=ID t->t.1=s.2.1+1
 bd:∀(i:Nat) s,ss[i]?=ID s->-(10^12)<=s.1/\s.2.1<=10^9+(10^12+10)*(i+1)
def Py.nil:Py []:=⟨λi s h=>(by cases h),λi s t h=>(by cases h),λi s h=>(by cases h)⟩
theorem Py.snoc{ss:List (Int×Int×Int)}(h:Py ss){lo hi b:Int}(h1:lo<=hi)(h2:0<=b/\b<=9)(h3:-(10^12)<=lo/\hi<=10^9+(10^12+10)*(ss.length+1))(h4:∀s,ss[ss.length-1]?=ID s->lo=s.2.1+1):Py (ss++[(lo,hi,b)]):=by
 have get:∀(i:Nat) s,(ss++[(lo,hi,b)])[i]?=ID s->(i<ss.length/\ss[i]?=ID s)\/(i=ss.length/\s=(lo,hi,b)):=λi s e=>by
  rcases Go i ss.length with z|z
  ·rw[FM z] at e;exact .inl ⟨z,e⟩
  rw[DJ z] at e;cases hk:i-ss.length with
  | zero=>rw[hk] at e;cases e;exact .inr ⟨ω,rfl⟩
  | succ k=>rw[hk] at e;cases e
 refine⟨λi s e=>?_,λi s t e1 e2=>?_,λi s e=>?_⟩
 ·rcases get i s e with⟨z,e⟩|⟨z,rfl⟩
  ·exact h.lh i s e
  exact⟨h1,h2.1,h2.2⟩
 ·rcases get i s e1 with⟨z,e1⟩|⟨z,rfl⟩
  ·rcases get (i+1) t e2 with⟨z2,e2⟩|⟨z2,rfl⟩
   ·exact h.nx i s t e1 e2
   exact h4 s (by rw[show ss.length-1=i by omega];exact e1)
  rcases get (i+1) t e2 with⟨z2,e2⟩|⟨z2,rfl⟩ <;> omega
 rcases get i s e with⟨z,e⟩|⟨z,rfl⟩
 ·exact h.bd i s e
 rw[z];exact h3
section
variable {κ:Type}[DecidableEq κ]
def iT(kvs:List (κ×V))(k:κ):Option V:=(kvs.find? λkv=>decide (kv.1=k)).map (·.2)
def putK(kvs:List (κ×V))(k:κ)(v:V):List (κ×V):=
 if (kvs.any λkv=>decide (kv.1=k))=true then kvs.map (λkv=>if kv.1=k then (kv.1,v) else kv) else kvs++[(k,v)]
def XH{k:κ}:iT ([]:List (κ×V)) k=IF:=rfl
def gD{p:κ×V}{r:List (κ×V)}{k:κ}(e:p.1=k):iT (p::r) k=ID p.2:=by simp[iT,KE,e]
def gF{p:κ×V}{r:List (κ×V)}{k:κ}(e:¬p.1=k):iT (p::r) k=iT r k:=by simp[iT,KE,e]
theorem wB(k:κ):∀kvs:List (κ×V),(kvs.any λkv=>decide (kv.1=k))=(iT kvs k).isSome
 | []=>rfl
 | p::r=>by
  rw[any_cons];by_cases e:p.1=k
  ·simp only[gD e,decide_eq_true e,Bool.true_or,isSome_some]
  rw[gF e,decide_eq_false e,Bool.false_or];exact wB k r
theorem Lq(k j:κ)(y:V):∀kvs:List (κ×V),iT (kvs.map λkv=>if kv.1=k then (kv.1,y) else kv) j=(iT kvs j).map λx=>if j=k then y else x
 | []=>rfl
 | p::r=>by
  have ih:=Lq k j y r;rw[DE];by_cases h:p.1=k
  ·rw[if_pos h];by_cases e:p.1=j
   ·rw[gD (p:=(p.1,y)) e,gD e,map_some,if_pos (e.symm.trans h)]
   rw[gF (p:=(p.1,y)) e,gF e,ih]
  rw[if_neg h];by_cases e:p.1=j
  ·rw[gD (p:=p) e,gD e,map_some,if_neg (λz=>h (e.trans z))]
  rw[gF (p:=p) e,gF e,ih]
theorem G4(k j:κ)(y:V):∀kvs:List (κ×V),iT kvs k=IF->iT (kvs++[(k,y)]) j=if j=k then ID y else iT kvs j
 | [],_=>by
  by_cases e:k=j
  ·rw[if_pos e.symm];exact gD (p:=(k,y)) e
  rw[if_neg (λz=>e z.symm)];exact gF (p:=(k,y)) e
 | p::r,hn=>by
  rw[LG];have hk:¬p.1=k:=λz=>by rw[gD z] at hn;cases hn
  rw[gF hk] at hn;have ih:=G4 k j y r hn;by_cases e:p.1=j
  ·rw[gD e,gD e,if_neg (λz=>hk (e.trans z))]
  rw[gF e,gF e,ih]
theorem qO(kvs:List (κ×V))(k j:κ)(y:V):iT (putK kvs k y) j=if j=k then ID y else iT kvs j:=by
 unfold putK;by_cases a:(kvs.any λkv=>decide (kv.1=k))=true
 ·rw[if_pos a,Lq];rw[wB] at a;by_cases e:j=k
  ·obtain⟨x,hx⟩:=Option.isSome_iff_exists.mp a;rw[if_pos e,e,hx,map_some,if_pos rfl]
  rw[if_neg e];cases iT kvs j with
  | none=>rfl
  | some x=>rw[map_some,if_neg e]
 rw[if_neg a];refine G4 k j y kvs ?_;rw[wB] at a;cases q:iT kvs k with
 | none=>rfl
 | some x=>rw[q] at a;exact(a rfl).elim
def jD(kvs:List (κ×V))(k:κ)(v:V):(putK kvs k v).length<=kvs.length+1:=by
 unfold putK;split
 ·rw[AG];omega
 rw[AQ,B0,length_nil];omega
theorem Fp.WL{o:Option V}{u:Option Ap}(r:Fp o u):o.isSome=u.isSome:=by
 cases o with
 | none=>cases u with
  | none=>rfl
  | some _=>exact(show False from r).elim
 | some _=>cases u with
  | none=>exact(show False from r).elim
  | some _=>rfl
theorem KV.val{kvs:List (κ×V)}{vs:List (κ×Ap)}(r:KV kvs vs)(k:κ):Fp (iT kvs k) (valueAt vs k):=by
 unfold KV at r
 induction r with
 | nil=>exact EG
 | @cons p q ps qs h t ih=>
  obtain⟨h1,h2⟩:=h;by_cases e:p.1=k
  ·have e':q.1=k:=h1.symm.trans e;have b:valueAt (q::qs) k=ID q.2:=by simp[valueAt,KE,e']
   rw[gD e,b];exact h2
  have e':¬q.1=k:=λz=>e (h1.trans z);have b:valueAt (q::qs) k=valueAt qs k:=by simp[valueAt,KE,e']
  rw[gF e,b];exact ih
theorem KV.any{kvs:List (κ×V)}{vs:List (κ×Ap)}(r:KV kvs vs)(k:κ):(kvs.any λkv=>decide (kv.1=k))=vs.any λkv=>decide (kv.1=k):=by
 unfold KV at r
 induction r with
 | nil=>rfl
 | cons h t ih=>rw[any_cons,any_cons,ih,h.1]
theorem KV.repl{kvs:List (κ×V)}{vs:List (κ×Ap)}(r:KV kvs vs)(k:κ){y:V}{u:Ap}(ry:RelV y u) :
  KV (kvs.map λkv=>if kv.1=k then (kv.1,y) else kv) (vs.map λkv=>if kv.1=k then (kv.1,u) else kv):=by
 unfold KV at r |-
 induction r with
 | nil=>exact .nil
 | @cons p q ps qs h t ih=>
  rw[DE,DE];refine .cons ?_ ih;obtain⟨h1,h2⟩:=h;by_cases e:p.1=k
  ·rw[if_pos e,if_pos (h1.symm.trans e)];exact⟨h1,ry⟩
  rw[if_neg e,if_neg (λz=>e (h1.trans z))];exact⟨h1,h2⟩
def KV.put{kvs:List (κ×V)}{vs:List (κ×Ap)}(r:KV kvs vs)(k:κ)(ry:RelV y u):KV (putK kvs k y) (stored vs k u):=by
 unfold putK stored;rw[r.any k];by_cases e:(vs.any λkv=>decide (kv.1=k))=true
 ·rw[if_pos e,if_pos e];exact r.repl k ry
 rw[if_neg e,if_neg e];exact Paired.snoc r ⟨rfl,ry⟩
def KV.length{kvs:List (κ×V)}{vs:List (κ×Ap)}(r:KV kvs vs):kvs.length=vs.length:=Mc r
end
theorem UW{P:AO}{w:Bi}{k:Key}{u:Ap}(r:RelV (kV k) u):(cT P w).is k u=true:=by
 cases k with
 | inl i=>obtain⟨t,e⟩:=(show ∃t,u=GE i t from r);subst e;exact NQ P w i t
 | inr x=>obtain⟨t,e⟩:=(show ∃t,u=Ap.str x t from r);subst e;exact NP P w x t
theorem Il{P:AO}{w:Bi}:∀{ks:List Key}{us:List Ap},Vals (ks.map kV) us->ItemsAre (cT P w) ks us
 | [],_,r=>by rw[map_nil] at r;cases r;exact .nil
 | k::ks,_,r=>by
  rw[DE] at r;cases r with
  | cons h t=>exact .cons (UW h) (Il t)
abbrev KT(H:Hp):List (List Key×V)->List (List Key×IN×Ap)->Prop:=Paired λp q=>p.1=q.1/\H q.2.1=ID (.tup (p.1.map kV))/\RelV p.2 q.2.2
theorem KT.val{H:Hp}{kvs:List (List Key×V)}{xs:List (List Key×IN×Ap)}(r:KT H kvs xs)(k:List Key):Fp (iT kvs k) ((atKey xs k).map (·.2)):=by
 induction r with
 | nil=>exact EG
 | @cons p q ps qs h t ih=>
  obtain⟨h1,_,h2⟩:=h;by_cases e:p.1=k
  ·have e':q.1=k:=h1.symm.trans e;have b:atKey (q::qs) k=ID q.2:=by simp[atKey,KE,e']
   rw[gD e,b];exact h2
  have e':¬q.1=k:=λz=>e (h1.trans z);have b:atKey (q::qs) k=atKey qs k:=by simp[atKey,KE,e']
  rw[gF e,b];exact ih
theorem KT.repl{H:Hp}{kvs:List (List Key×V)}{xs:List (List Key×IN×Ap)}(r:KT H kvs xs)(k:List Key){y:V}{u:Ap}(ry:RelV y u) :
  KT H (kvs.map λkv=>if kv.1=k then (kv.1,y) else kv) (xs.map (putAt k u)):=by
 induction r with
 | nil=>exact .nil
 | @cons p q ps qs h t ih=>
  rw[DE,DE];refine .cons ?_ ih;obtain⟨h1,h2,h3⟩:=h;unfold putAt;by_cases e:p.1=k
  ·rw[if_pos e,if_pos (h1.symm.trans e)];exact⟨h1,h2,ry⟩
  rw[if_neg e,if_neg (λz=>e (h1.trans z))];exact⟨h1,h2,h3⟩
def KT.put{xs:List (List Key×IN×Ap)}(r:KT H kvs xs)(k:List Key){b:IN}(hb:H b=ID (.tup (k.map kV)))(ry:RelV y u) :
  KT H (putK kvs k y) (storedH xs k b u):=by
 have e:(kvs.any λkv=>decide (kv.1=k))=(atKey xs k).isSome:=by
  rw[wB,(r.val k).WL,Option.isSome_map]
 unfold putK storedH;rw[e];by_cases q:(atKey xs k).isSome=true
 ·rw[if_pos q,if_pos q];exact r.repl k ry
 rw[if_neg q,if_neg q];exact Paired.snoc r ⟨rfl,hb,ry⟩
def KT.keeps{xs:List (List Key×IN×Ap)}(r:KT H kvs xs)(ht:∀b ys,H b=ID (.tup ys)->H' b=ID (.tup ys)):KT H' kvs xs:=
 Paired.afI r λ_ _ z=>⟨z.1,ht _ _ z.2.1,z.2.2⟩
def aej{u:HO}(ok:HOk P w H h)(e:Rd H a u):bW P w H h a u:=e.ok ok
def aa1{kvs:List (Key×V)}(ok:HOk P w H h)(e:Rd H a (.dK kvs)):kvs.length<=AJ/\(a == DH)=false/\∃vs,KV kvs vs/\h.DictOf (cT P w) a vs:=
 show bW P w H h a (.dK kvs) from aej ok e
def ahk{kvs:List (Key×V)}(ok:HOk P w H h)(e:H a=ID (.dK kvs)):kvs.length<=AJ/\(a == DH)=false/\∃vs,KV kvs vs/\h.DictOf (cT P w) a vs:=aa1 ok (.inl e)
def Dz{ks:List Key}(ok:HOk P w H h)(e:H a=ID (.tup (ks.map kV))):(F3 (cT P w)).is h ks a:=by
 obtain⟨_,af,r,o,h1,h2,n,h3⟩:=(show bW P w H h a (.tup (ks.map kV)) from ok a _ e);exact⟨o,af.toArray,n,h1,h2,h3,by simpa using Il r⟩
theorem aaZ{kvs:List (List Key×V)}(ok:HOk P w H h)(e:Rd H a (.dT kvs)):kvs.length<=AJ/\(a == DH)=false /\
  ∃xs,KT H kvs xs/\h.DictOfH (F3 (cT P w)) a xs:=by
 obtain⟨z,y,xs,r,o,es,ep,h1,h2,h3,h4,h5⟩:=(show bW P w H h a (.dT kvs) from aej ok e);refine⟨z,y,xs,r,o,es,ep,h1,h2,h3,h4,λx hx=>?_,h5⟩;have all:∀{l:List (List Key×V)}{m:List (List Key×IN×Ap)},KT H l m->∀x∈m,(F3 (cT P w)).is h x.1 x.2.1:=by
  intro l m q
  induction q with
  | nil=>intro x hx;exact nomatch hx
  | @cons p q ps qs hq t ih=>
   intro x hx;rcases AX.mp hx with e|hx
   ·subst e;exact Dz ok (by rw[<- hq.1];exact hq.2.1)
   exact ih x hx
 exact all r x hx
def ahj(ok:HOk P w H h)(e:H a=ID (.dT kvs)):kvs.length<=AJ/\(a == DH)=false /\
  ∃xs,KT H kvs xs/\h.DictOfH (F3 (cT P w)) a xs:=aaZ ok (.inl e)
def qt(H:Hp)(a:IN)(y:V)(r:Option V):Prop:=
 (∃kvs k,Rd H a (.dK kvs)/\y=kV k/\r=iT kvs k)\/∃kvs k b,Rd H a (.dT kvs)/\y=.ref b/\H b=ID (.tup (k.map kV))/\r=iT kvs k
def yp(H:Hp)(a:IN)(y v:V)(H':Hp):Prop:=
 (∃kvs k,H a=ID (.dK kvs)/\y=kV k/\kvs.length<AJ/\H'=upd H a (.dK (putK kvs k v))) \/
 ∃kvs k b,H a=ID (.dT kvs)/\y=.ref b/\H b=ID (.tup (k.map kV))/\kvs.length<AJ/\H'=upd H a (.dT (putK kvs k v))
def qt.k{kvs:List (Key×V)}{k:Key}(e:H a=ID (.dK kvs)):qt H a (kV k) (iT kvs k):=.inl ⟨kvs,k,.inl e,rfl,rfl⟩
def qt.t{b:IN}{k:List Key}(e:H a=ID (.dT kvs))(eb:H b=ID (.tup (k.map kV))):qt H a (.ref b) (iT kvs k):=.inr ⟨kvs,k,b,.inl e,rfl,eb,rfl⟩
def yp.k{kvs:List (Key×V)}{k:Key}(e:H a=ID (.dK kvs))(hl:kvs.length<AJ):yp H a (kV k) v (upd H a (.dK (putK kvs k v))):=.inl ⟨kvs,k,e,rfl,hl,rfl⟩
def yp.t{b:IN}{k:List Key}(e:H a=ID (.dT kvs))(eb:H b=ID (.tup (k.map kV)))(hl:kvs.length<AJ) :
  yp H a (.ref b) v (upd H a (.dT (putK kvs k v))):=.inr ⟨kvs,k,b,e,rfl,eb,hl,rfl⟩
section
variable{r:Ap}{o:Option V}
def Inv.big(I:Inv X ac σ H s):DH<s.heap.objs.size:=by
 have h:B8<s.heap.objs.size:=(I.mod.glob.keeps I.bk).lt;exact lt_trans δ h
def W7(hu:A.units+1<FI)(I:Inv X ac σ H s)(g:qt H a y (ID v))(ry:RelV y u)(h:∀w' s',Inv X ac σ H s'->RelV v w'->Q w' s') :
  AI (AN X.prog X.w) A (L4 (.ref a) u) Q E s:=by
 rcases g with⟨kvs,k,e,ey,l⟩|⟨kvs,k,b,e,ey,eb,l⟩
 ·subst ey;obtain⟨z,hd,vs,rel,dd⟩:=aa1 I.hok e;obtain⟨w',hw,lS⟩:=Fp.some_of (v:=v) (o:=valueAt vs k) (by rw[l];exact rel.val k);exact wpAny_getItem_of (UW ry) dd.mapOf hw (h w' _ (I.tok _) lS)
 subst ey;cases (show u=EQ b from ry);obtain⟨z,hd,xs,rel,dd⟩:=aaZ I.hok e;obtain⟨w',hw,lS⟩:=Fp.some_of (v:=v) (o:=(atKey xs k).map (·.2)) (by rw[l];exact rel.val k);obtain⟨p,hp,fb⟩:=BM.mp hw;refine wpAny_getItem_heap (tupleKind_room_in1 hu) (Dz I.hok eb) dd hp ?_;rw[fb];exact h w' _ (I.tok _) lS
def Vg{ob:HO}(I:Inv X ac σ H s)(mu:Mut (H a))(hs:Cc a s.heap h')(he:∃q,h'.get? a=ID q)(new:bW X.prog X.w (upd H a ob) h' a ob) :
  Inv X ac σ (upd H a ob) { s with heap:=h',toks:=t' }:=
 I.write (x:=a) (e:=a) mu (.inl Z) (λb q hb z=>(hs.2 b hb).trans z) he new
def aa2{kvs:List (Key×V)}{vs:List (Key×Ap)}(z:kvs.length<=AJ)(hd:(a == DH)=false)(rel:KV kvs vs)(dd:h'.DictOf (cT P w) a vs) :
  bW P w H' h' a (.dK kvs):=⟨z,hd,vs,rel,dd⟩
def IV{Q:Unit->AB->Prop}(hu:A.units+1<FI)(I:Inv X ac σ H s)(g:yp H a y v H')(ry:RelV y u)(rv:RelV v r)(h:∀s',Inv X ac σ H' s'->Q () s') :
  AI (AN X.prog X.w) A (setItem (.ref a) u r) Q E s:=by
 rcases g with⟨kvs,k,e,ey,l,eH⟩|⟨kvs,k,b,e,ey,eb,l,eH⟩
 ·subst ey eH;obtain⟨z,hd,vs,rel,dd⟩:=ahk I.hok e;have hz:vs.length<=AJ:=by rw[<- rel.length];exact z
  have hl:(putK kvs k v).length<=AJ:=by have:=jD kvs k v;omega
  refine wpAny_setItem_pairs (hsz:=hz) (UW ry) dd λh' dd' hs=>h _ ?_;have he:∃q,h'.get? a=ID q:=let ⟨q,_,_,hq,_⟩:=dd';⟨q,hq⟩;exact Vg I (by rw[e];exact EG) hs he (aa2 hl hd (rel.put k rv) dd')
 subst ey eH;cases (show u=EQ b from ry);obtain⟨z,hd,xs,rel,dd⟩:=ahj I.hok e;have hz:xs.length<=AJ:=by rw[<- Mc rel];exact z
 have hl:(putK kvs k v).length<=AJ:=by have:=jD kvs k v;omega
 refine wpAny_setItem_heap (hsz:=hz) (tupleKind_room_in1 hu) (Dz I.hok eb) dd λh' dd' hs=>h _ ?_;obtain⟨q,es,ep,hq,h2,h3,h4,_,h5⟩:=dd';refine Vg I (by rw[e];exact EG) hs ⟨q,hq⟩ ⟨hl,hd,_,(rel.put k eb rv).keeps λc ys ec=>?_,q,es,ep,hq,h2,h3,h4,h5⟩;rw[aO (Uv ec e (λz=>nomatch z))];exact ec
end
def agr(i:Expr):Prop:=∀ov iv,subscripted i false ov iv=operate [ov,iv] (L4 ov iv)
theorem abR{prog:AO}{w:Bi}{A:Bz}{E:Ap->AB->Prop}{s:AB}{env:Env}{value slice:Expr}{pos:Pos}{T id:String}{Q:Ap->AB->Prop}
  (hl:typeLookup (.type T) "__getitem__" = pure (ID (.builtin id)))(hs:agr slice)
  (h:AI (AN prog w) A (eval value env) (λo s₁=>AI (AN prog w) A (eval slice env) (λi s₂=>s₂.TypeIs o T/\AI (AN prog w) A (L4 o i) Q E s₂) E s₁) E s) :
  AI (AN prog w) A (eval (.Subscript value slice pos) env) Q E s:=by
 refine Subscript_ (BD h (λo s₁ h₁=>BD h₁ (λi s₂ h₂=>?_) λ_ _ x=>x) λ_ _ x=>x);obtain⟨hT,h₂⟩:=h₂;unfold subscriptTail;refine An ?_;rw[getitemInPython_of_ne hT.not_modules];refine An (wpAny_specialOf hT hl ?_);have fin:AI (AN prog w) A (subscripted slice false o i) (λr s₃=>AI (AN prog w) A (letTemporaryGo value o r >>= λ_=>pure r) Q E s₃) E s₂:=by
  rw[hs o i];exact wpAny_operating (BD h₂ (λr s₃ h₃=>An (wpAny_letTemporaryGo (Au h₃))) λ_ _ x=>x)
 first
  | exact Au (An fin)
  | exact An (Au (An fin))
  | exact An fin
def Ow{o:Option V}(I:Inv X ac σ H s)(g:qt H a y o):s.TypeIs (.ref a) "dict" := by
 rcases g with⟨kvs,k,e,_,_⟩|⟨kvs,k,b,e,_,_,_⟩
 ·obtain⟨_,_,vs,_,dd⟩:=aa1 I.hok e;exact dd.typeIs
 obtain⟨_,_,xs,_,dd⟩:=aaZ I.hok e;exact dd.typeIs
def agz(td ty:TE):TE:=λσ H Q=>td σ H λx H1=>ty σ H1 λy H2=>∃a v,x=.ref a/\qt H2 a y (ID v)/\Q v H2
def agE(td ty tv:TE):TS:=λD σ H=>tv σ H λv H1=>td σ H1 λx H2=>ty σ H2 λy H3=>∃a H4,x=.ref a/\yp H3 a y v H4/\D.nx σ H4
section
variable{o i value:Expr}{td ty:TE}
end
def aa3(h:Heap)(hb:DH<h.objs.size):bW P w H (h.push { cls:=.type "dict",data:=.dict #[] }) h.objs.size (.dK []):=
 ⟨DC _,beq_eq_false_iff_ne.mpr (Co (BO hb)),[],.nil,Heap.DictOf.new h⟩
def Ot(h:Heap)(hb:DH<h.objs.size):bW P w H (h.push { cls:=.type "dict",data:=.dict #[] }) h.objs.size (.dT []):=
 ⟨DC _,beq_eq_false_iff_ne.mpr (Co (BO hb)),[],.nil,_,#[],0,AU _ rfl,⟨rfl,rfl,rfl⟩,rfl,rfl,nodup_nil⟩
def Yh:TE:=λ_ H Q=>∀p,H p=IF->Q (.ref p) (upd H p (.dT []))
def iJ(kvs dS:List (Key×V)):List (Key×V):=dS.foldl (λae kv=>putK ae kv.1 kv.2) kvs
theorem nG:∀(dS kvs:List (Key×V)),(iJ kvs dS).length<=kvs.length+dS.length
 | [],kvs=>by show kvs.length<=kvs.length+0;omega
 | p::r,kvs=>by
  have h1:=nG r (putK kvs p.1 p.2);have h2:=jD kvs p.1 p.2;show(iJ (putK kvs p.1 p.2) r).length<=_;rw[B0];omega
def gw.m9{k:Nat}(r:gw k A):A.units+1<FI:=by have:=r.un;omega
def gw.un1{k:Nat}(r:gw k A):A.in1.units<FI:=by
 have:=r.un;show A.units+1<FI;omega
theorem aF.ints{ok:IN->Prop}{H:Hp}:∀{xs:List V}{is:List Int},aF ok H xs (is.map AF.int)->xs=is.map At
 | _,[],.nil=>rfl
 | _,i::is,.cons h r=>by
  cases h;rw[r.ints];rfl
def ahg(hR:R=(λJ H1=>∃W:Nat->Nat->St->Hp->Prop,(∃m,W 0 m σ H1)/\∀i m σ H,W i m σ H ->
  (J.stop i H/\D.nx σ H)\/(J.go i H/\∃N:St->Hp->Prop,(∀σ' H',N σ' H'->∃m',m'<m/\W (i+1) m' σ' H')/\∀x H',J.yld i H x H'->g x σ H' λσ2 H2=>tb { D with nx:=N,ct:=N,bk:=D.nx } σ2 H2)))
  (Pv:Nat->St->Hp->Prop)(h0:Pv 0 σ H)(hl:∀i σ H,Pv i σ H->H a=ID (.lst xs))
  (hs:∀(i:Nat) x σ H p,xs[i]?=ID x->Pv i σ H->H p=IF->g (.ref p) σ (upd H p (.tup [.int (i:Nat),x])) λσ2 H2=>tb { D with nx:=Pv (i+1),ct:=Pv (i+1),bk:=D.nx } σ2 H2)(hd:∀σ H,Pv xs.length σ H->D.nx σ H):R (Ite K a) H:=by
 refine Ep hR xs.length Pv h0 (λi σ H hi p=>?_) (λσ H p=>?_) (λi σ H x H3 hi p y=>?_) hd
 ·exact⟨xs,_,SqL.of (hl i σ H p),AC hi⟩
 ·exact⟨xs,SqL.of (hl _ σ H p),B4 (A3 _)⟩
 obtain⟨q,x1,rfl,hq,rfl,hx⟩:=y;exact hs i x1 σ H q (hx _ (SqL.of (hl i σ H p))) p hq
theorem Same.none{H H':Hp}(s:Same H H'){p:IN}(h:H' p=IF):H p=IF:=by
 cases e:H p with
 | none=>rfl
 | some o=>rw[s _ _ e] at h;cases h
mutual
def szB:AF->Bool
 | .none=>true
 | .bool _=>true
 | .int i=>decide (i.natAbs<=10^20)
 | .str x=>decide (x.length<=30)&&x.cps.toList.all λc=>decide (c<16^8)
 | .list ds=>decide (ds.length<=210)&&aeI ds
 | .tuple ds=>decide (ds.length<=210)&&aeI ds
 | .dict _=>false
def aeI:List AF->Bool
 | []=>true
 | d::ds=>szB d&&aeI ds
end
def ahf(hR:R=(λJ H1=>∃W:Nat->Nat->St->Hp->Prop,(∃m,W 0 m σ H1)/\∀i m σ H,W i m σ H ->
  (J.stop i H/\D.nx σ H)\/(J.go i H/\∃N:St->Hp->Prop,(∀σ' H',N σ' H'->∃m',m'<m/\W (i+1) m' σ' H')/\∀x H',J.yld i H x H'->g x σ H' λσ2 H2=>tb { D with nx:=N,ct:=N,bk:=D.nx } σ2 H2)))
  (Pv:Nat->St->Hp->Prop)(h0:Pv 0 σ H)(hl:∀i σ H,Pv i σ H->H a=ID (.tup xs))
  (hs:∀i x σ H,xs[i]?=ID x->Pv i σ H->g x σ H λσ2 H2=>tb { D with nx:=Pv (i+1),ct:=Pv (i+1),bk:=D.nx } σ2 H2)(hd:∀σ H,Pv xs.length σ H->D.nx σ H):R (Itt K a) H:=by
 refine Ep hR xs.length Pv h0 (λi σ H hi p=>?_) (λσ H p=>?_) (λi σ H x H3 hi p y=>?_) hd
 ·exact⟨xs,_,SqT.of (hl i σ H p),AC hi⟩
 ·exact⟨xs,SqT.of (hl _ σ H p),A3 _⟩
 obtain⟨rfl,hx⟩:=y;exact hs i x σ _ (hx _ (SqT.of (hl i σ _ p))) p
def BP{z TI TO:IN}{k2:Nat}{xs:Array Ap}{x y a b:Ap}(D:JY z TI TO i1 i2 l1 l2)(hz:IsZip s.heap z TI TO Ap.none)(eu:ES s.heap TI (EQ i1) (EQ i2))(eR:ES s.heap TO a b)
  (h1:s.heap.IsTupleIter i1 l1 k1)(h2:s.heap.IsTupleIter i2 l2 k2)(eM:s.heap.IsTuple l1 xs)(g9:s.heap.IsTuple l2 ys)(hx:xs[k1]?=ID x)(hy:ys[k2]?=ID y)
  (hQ:∀h':Heap,IsZip h' z TI TO (CI s.heap.objs.size)->ES h' TO x y->h'.IsTupleIter i1 l1 (k1+1)->h'.IsTupleIter i2 l2 (k2+1)->ES h' s.heap.objs.size x y->h'.objs.size=s.heap.objs.size+1->(∀c o,c≠z->c≠TO->c≠i1->c≠i2->s.heap.get? c=ID o->h'.get? c=ID o)->Q (EQ s.heap.objs.size) { s with heap:=h' }) :
  AI (AN prog w) A (AW.«zip.__next__» { pos:=[EQ z] }) (λfin s'=>∃v,fin=Fin.done (Flow.ret v)/\Q v s') E s:=by
 show AI _ _ (field (EQ z) 2 >>= _) _ _ _;refine An (Ct hz Z Z ?_);show AI _ _ (field (EQ z) 3 >>= _) _ _ _;refine An (Ct hz Z Z ?_);refine An (DL eu Z ?_);show AI _ _ (AW.SmallTypes.ownedTupleIsFree (EQ z) >>= _) _ _ _;refine An ?_;show AI _ _ (field (EQ z) 0 >>= _) _ _ _;refine An (Ct hz Z Z (Au ?_));show AI _ _ (rule _ >>= _) _ _ _;refine An (DI (An (Ct hz Z Z ?_)));show AI _ _ (G0 (EQ z) 0 Ap.ellipsis >>= _) _ _ _;refine An (CF hz (HL (G1 4)) λh₁ hz₁ j0=>?_);have fT:∀c o,c≠z->s.heap.get? c=ID o->h₁.get? c=ID o:=λc o hc e=>(j0.2 c hc).trans e;have RO:h₁.IsTupleIter i1 l1 k1:=h1.at λo e=>fT i1 o D.i1z e;have h2a:h₁.IsTupleIter i2 l2 k2:=h2.at λo e=>fT i2 o D.i2z e;have tup:∀{h:Heap}{l:IN}{vs:Array Ap},s.heap.IsTuple l vs->(∀o,s.heap.get? l=ID o->h.get? l=ID o)->h.IsTuple l vs:=λ⟨o,e,r⟩ k=>⟨o,k o e,r⟩;refine An ?_;show AI _ _ (forIn [(EQ i1,0),(EQ i2,1)] (IF,()) _) _ _ _;rw[E4];refine An ?_;show AI _ _ ((Sem.onRaise (AW.SmallTypes.nextOf (EQ i1) >>= λv=>pure (ID v)) (λ_=>G0 (EQ z) 0 Ap.none)) >>= _) _ _ _;refine An (Jn (An (gQ (s:={ s with heap:=h₁ }) RO (tup eM λo e=>fT l1 o D.l1z e) hx λh₂ h1b f'=>Au ?_)));have l5:∀c o,c≠z->c≠i1->s.heap.get? c=ID o->h₂.get? c=ID o:=λc o hc kr e=>(f'.2 c kr).trans (fT c o hc e);have nS:ES h₂ TO a b:=l5 TO _ D.TOz D.TOi1 eR;show AI _ _ (seqItems? (EQ TO) >>= _) _ _ _;refine An (DL (s:={ s with heap:=h₂ }) nS Z ?_);show AI _ _ (updateSeq TO _ >>= _) _ _ _;refine An (LH (s:={ s with heap:=h₂ }) nS λh₃ g₃ fh=>?_);refine An (wpAny_letGo (Au ?_));show AI _ _ (forIn [(EQ i2,1)] (IF,()) _) _ _ _;rw[E4];refine An ?_;have iS:∀c o,c≠z->c≠i1->c≠TO->s.heap.get? c=ID o->h₃.get? c=ID o:=λc o hc kr nB e=>(fh.2 c nB).trans (l5 c o hc kr e);have WZ:h₃.IsTupleIter i2 l2 k2:=h2.at λo e=>iS i2 o D.i2z (Co D.i12) (Co D.TOi2) e;have OS:ES h₃ TO x b:=g₃;show AI _ _ ((Sem.onRaise (AW.SmallTypes.nextOf (EQ i2) >>= λv=>pure (ID v)) (λ_=>G0 (EQ z) 0 Ap.none)) >>= _) _ _ _;refine An (Jn (An (gQ (s:={ s with heap:=h₃ }) WZ (tup g9 λo e=>iS l2 o D.l2z D.l2i1 D.l2TO e) hy λh₄ h2d hX=>Au ?_)));have ON:ES h₄ TO x b:=(hX.2 TO D.TOi2).trans OS;show AI _ _ (seqItems? (EQ TO) >>= _) _ _ _;refine An (DL (s:={ s with heap:=h₄ }) ON Z ?_);show AI _ _ (updateSeq TO _ >>= _) _ _ _
 refine An (LH (s:={ s with heap:=h₄ }) ON λh₅ g₅ hV=>?_);refine An (wpAny_letGo (Au ?_));have tF:ES h₅ TO x y:=g₅;show AI _ _ (forIn [] (IF,()) _) _ _ _;rw[forIn_nil];refine Au ?_;show AI _ _ (seqItems? (EQ TO) >>= _) _ _ _;refine An (DL (s:={ s with heap:=h₅ }) tF Z ?_);show AI _ _ (newTuple [x,y] >>= _) _ _ _;refine An (IG ?_ (by show 2<=AJ;decide));have sz:h₅.objs.size=s.heap.objs.size:=by
  rw[hV.1,hX.1,fh.1,f'.1,j0.1]
 have z5:h₅.get? z=_:=(hV.2 z (Co D.TOz)).trans ((hX.2 z (Co D.i2z)).trans ((fh.2 z (Co D.TOz)).trans ((f'.2 z (Co D.i1z)).trans hz₁)));have z6:(h₅.push { cls:=GT "tuple",data:=HQ #[x,y] }).get? z=_:=AE _ z5;refine An ?_;show AI _ _ (G0 (EQ z) 0 (CI h₅.objs.size) >>= λ_=>G0 (EQ z) 1 (Is false)) _ _ _;refine An (CF (s:={ s with heap:=h₅.push { cls:=GT "tuple",data:=HQ #[x,y] } }) z6 (HL (G1 4)) λh₇ hz₇ mi=>?_);refine CF (s:={ s with heap:=h₇ }) hz₇ (HL (G1 3)) λh₈ hz₈ mh=>?_;have nzs:s.heap.objs.size≠z:=λq=>by
  have:=A6 hz;rw[<- q] at this;exact ED _ this
 have S3:∀c o,h₅.get? c=ID o->(h₅.push { cls:=GT "tuple",data:=HQ #[x,y] }).get? c=ID o:=λc o e=>AE _ e;have qk:∀c o,c≠z->h₅.get? c=ID o->h₈.get? c=ID o:=λc o hc e=>(mh.2 c hc).trans ((mi.2 c hc).trans (S3 c o e));have TH:h₈.get? s.heap.objs.size=ID { cls:=GT "tuple",data:=HQ #[x,y] }:=by
  refine(mh.2 _ nzs).trans ((mi.2 _ nzs).trans ?_);show(h₅.push { cls:=GT "tuple",data:=HQ #[x,y] }).get? s.heap.objs.size=_;rw[<- sz];exact AU _ rfl
 refine Au ⟨_,rfl,?_⟩;rw[show(({ s with heap:=h₅ }:AB).heap.objs.size)=s.heap.objs.size from sz];refine hQ h₈ ?_ ?_ ?_ ?_ TH ?_ ?_
 ·rw[sz] at hz₈;exact hz₈
 ·exact qk TO _ D.TOz tF
 ·refine h1b.at λo e=>qk i1 o D.i1z ?_;exact(hV.2 i1 (Co D.TOi1)).trans ((hX.2 i1 D.i12).trans ((fh.2 i1 (Co D.TOi1)).trans e))
 ·refine h2d.at λo e=>qk i2 o D.i2z ?_;exact(hV.2 i2 (Co D.TOi2)).trans e
 ·rw[mh.1,mi.1];show(h₅.push { cls:=GT "tuple",data:=HQ #[x,y] }).objs.size=_;rw[CY,sz]
 intro c o kr nB hc3 hc4 e;exact qk c o kr ((hV.2 c nB).trans ((hX.2 c hc4).trans (iS c o kr hc3 nB e)))
def oJ{z TI TO:IN}{k2:Nat}{xs:Array Ap}{x y a b:Ap}{Q:Option Ap->AB->Prop}(D:JY z TI TO i1 i2 l1 l2)(hz:IsZip s.heap z TI TO Ap.none)(eu:ES s.heap TI (EQ i1) (EQ i2))(eR:ES s.heap TO a b)
  (h1:s.heap.IsTupleIter i1 l1 k1)(h2:s.heap.IsTupleIter i2 l2 k2)(eM:s.heap.IsTuple l1 xs)(g9:s.heap.IsTuple l2 ys)(hx:xs[k1]?=ID x)(hy:ys[k2]?=ID y)
  (hQ:∀h':Heap,IsZip h' z TI TO (CI s.heap.objs.size)->ES h' TO x y->h'.IsTupleIter i1 l1 (k1+1)->h'.IsTupleIter i2 l2 (k2+1)->ES h' s.heap.objs.size x y->h'.objs.size=s.heap.objs.size+1->(∀c o,c≠z->c≠TO->c≠i1->c≠i2->s.heap.get? c=ID o->h'.get? c=ID o)->Q (ID (EQ s.heap.objs.size)) { s with heap:=h' }) :
  AI (AN prog w) A (EJ (EQ z)) Q E s:=by
 have hT:∃o,s.heap.get? z=ID o/\o.cls=GT "zip" := ⟨_,hz,rfl⟩;exact An (E6 (B3 hT KO (B1 KO hT F.entry_zip_next
  (BP D hz eu eR h1 h2 eM g9 hx hy λh' a1 a2 a3 a4 a5 a6 a7=>Au (hQ h' a1 a2 a3 a4 a5 a6 a7)) (F.args_zip_next_1 (EQ z)))))
theorem FN{prog:AO}{w:Bi}{A:Bz}{E:Ap->AB->Prop}{s:AB}{z TI TO i1 i2 l1 l2:IN}{k1 k2:Nat}{xs ys:Array Ap}{a b:Ap}{Q:PySem.Fin->AB->Prop}(hh:A.handled=IF)(D:JY z TI TO i1 i2 l1 l2)(hz:IsZip s.heap z TI TO Ap.none)(eu:ES s.heap TI (EQ i1) (EQ i2))(eR:ES s.heap TO a b)
  (h1:s.heap.IsTupleIter i1 l1 k1)(h2:s.heap.IsTupleIter i2 l2 k2)(eM:s.heap.IsTuple l1 xs)(g9:s.heap.IsTuple l2 ys)(f8:xs[k1]?=IF\/ys[k2]?=IF)
  (hE:∀(h':Heap)(e:IN),(∀c o,c≠z->c≠TO->c≠i1->c≠i2->s.heap.get? c=ID o->h'.get? c=ID o)->(∃o,h'.get? e=ID o/\o.cls=GT "StopIteration")->E (EQ e) { s with heap:=h' }) :
  AI (AN prog w) A (AW.«zip.__next__» { pos:=[EQ z] }) Q E s:=by
 show AI _ _ (field (EQ z) 2 >>= _) _ _ _;refine An (Ct hz Z Z ?_);show AI _ _ (field (EQ z) 3 >>= _) _ _ _;refine An (Ct hz Z Z ?_);refine An (DL eu Z ?_);show AI _ _ (AW.SmallTypes.ownedTupleIsFree (EQ z) >>= _) _ _ _;refine An ?_;show AI _ _ (field (EQ z) 0 >>= _) _ _ _;refine An (Ct hz Z Z (Au ?_));show AI _ _ (rule _ >>= _) _ _ _;refine An (DI (An (Ct hz Z Z ?_)));show AI _ _ (G0 (EQ z) 0 Ap.ellipsis >>= _) _ _ _;refine An (CF hz (HL (G1 4)) λh₁ hz₁ j0=>?_);have fT:∀c o,c≠z->s.heap.get? c=ID o->h₁.get? c=ID o:=λc o hc e=>(j0.2 c hc).trans e;have RO:h₁.IsTupleIter i1 l1 k1:=h1.at λo e=>fT i1 o D.i1z e;have tup:∀{h:Heap}{l:IN}{vs:Array Ap},s.heap.IsTuple l vs->(∀o,s.heap.get? l=ID o->h.get? l=ID o)->h.IsTuple l vs:=λ⟨o,e,r⟩ k=>⟨o,k o e,r⟩;have out:∀{h:Heap}{e:IN}{vs:Array Ap},h.get? z=ID { cls:=GT "zip",data:=Da vs }->0<vs.size->(∀c o,c≠z->c≠TO->c≠i1->c≠i2->s.heap.get? c=ID o->h.get? c=ID o)->(∃o,h.get? e=ID o/\o.cls=GT "StopIteration") ->
   AI (AN prog w) A (G0 (EQ z) 0 Ap.none) (λ_ lL=>E (EQ e) lL) E { s with heap:=h }:=λ{h e vs} ez hv hk he=>by
  refine CF (s:={ s with heap:=h }) ez hv λh' _ hs=>hE h' e (λc o c1 c2 c3 c4 g=>(hs.2 c c1).trans (hk c o c1 c2 c3 c4 g)) ?_;obtain⟨o,ho,hc⟩:=he;refine⟨o,(hs.2 e λq=>?_).trans ho,hc⟩;rw[q,ez] at ho;cases ho;injection hc with hc;exact absurd hc δ
 refine An ?_;show AI _ _ (forIn [(EQ i1,0),(EQ i2,1)] (IF,()) _) _ _ _;rw[E4];refine An ?_;show AI _ _ ((Sem.onRaise (AW.SmallTypes.nextOf (EQ i1) >>= λv=>pure (ID v)) (λ_=>G0 (EQ z) 0 Ap.none)) >>= _) _ _ _;cases hx:xs[k1]? with
 | none=>
  refine An (Jn (An (j8 (s:={ s with heap:=h₁ }) hh RO (tup eM λo e=>fT l1 o D.l1z e) hx λh₂ e ext he=>?_)));exact out (h:=h₂) (ext z _ (Co D.i1z) hz₁) (HL (G1 4)) (λc o c1 c2 c3 c4 g=>ext c o c3 (fT c o c1 g)) he
 | some x=>
  have hy:ys[k2]?=IF:=by
   rcases f8 with q|q
   ·rw[hx] at q;cases q
   exact q
  refine An (Jn (An (gQ (s:={ s with heap:=h₁ }) RO (tup eM λo e=>fT l1 o D.l1z e) hx λh₂ h1b f'=>Au ?_)));have l5:∀c o,c≠z->c≠i1->s.heap.get? c=ID o->h₂.get? c=ID o:=λc o hc kr e=>(f'.2 c kr).trans (fT c o hc e);have nS:ES h₂ TO a b:=l5 TO _ D.TOz D.TOi1 eR;show AI _ _ (seqItems? (EQ TO) >>= _) _ _ _;refine An (DL (s:={ s with heap:=h₂ }) nS Z ?_);show AI _ _ (updateSeq TO _ >>= _) _ _ _;refine An (LH (s:={ s with heap:=h₂ }) nS λh₃ g₃ fh=>?_);refine An (wpAny_letGo (Au ?_));show AI _ _ (forIn [(EQ i2,1)] (IF,()) _) _ _ _;rw[E4];refine An ?_;have iS:∀c o,c≠z->c≠i1->c≠TO->s.heap.get? c=ID o->h₃.get? c=ID o:=λc o hc kr nB e=>(fh.2 c nB).trans (l5 c o hc kr e);have WZ:h₃.IsTupleIter i2 l2 k2:=h2.at λo e=>iS i2 o D.i2z (Co D.i12) (Co D.TOi2) e;have z3:h₃.get? z=_:=(fh.2 z (Co D.TOz)).trans ((f'.2 z (Co D.i1z)).trans hz₁);show AI _ _ ((Sem.onRaise (AW.SmallTypes.nextOf (EQ i2) >>= λv=>pure (ID v)) (λ_=>G0 (EQ z) 0 Ap.none)) >>= _) _ _ _;refine An (Jn (An (j8 (s:={ s with heap:=h₃ }) hh WZ (tup g9 λo e=>iS l2 o D.l2z D.l2i1 D.l2TO e) hy λh₄ e ext he=>?_)));exact out (h:=h₄) (ext z _ (Co D.i2z) z3) (HL (G1 4)) (λc o c1 c2 c3 c4 g=>ext c o c4 (iS c o c1 c3 c2 g)) he
def qF{z TI TO:IN}{k2:Nat}{xs:Array Ap}{a b:Ap}{Q:Option Ap->AB->Prop}(hh:A.handled=IF)(D:JY z TI TO i1 i2 l1 l2)(hz:IsZip s.heap z TI TO Ap.none)(eu:ES s.heap TI (EQ i1) (EQ i2))(eR:ES s.heap TO a b)
  (h1:s.heap.IsTupleIter i1 l1 k1)(h2:s.heap.IsTupleIter i2 l2 k2)(eM:s.heap.IsTuple l1 xs)(g9:s.heap.IsTuple l2 ys)(f8:xs[k1]?=IF\/ys[k2]?=IF)
  (hQ:∀h':Heap,(∀c o,c≠z->c≠TO->c≠i1->c≠i2->s.heap.get? c=ID o->h'.get? c=ID o)->Q IF { s with heap:=h' }):AI (AN prog w) A (EJ (EQ z)) Q E s:=by
 have hT:∃o,s.heap.get? z=ID o/\o.cls=GT "zip" := ⟨_,hz,rfl⟩;exact An (E6 (B3 hT KO (B1 KO hT F.entry_zip_next
  (FN hh D hz eu eR h1 h2 eM g9 f8 λh' e hk he=>by
   obtain⟨o,ho,hc⟩:=he;exact An (HG ⟨o,ho,hc⟩ LI (Au (hQ h' hk)))) (F.args_zip_next_1 (EQ z)))))
def tz1(h:Heap)(l1:IN):Heap:=h.push { cls:=GT "tuple_iterator",data:=Da #[EQ l1,GE 0 0] }
def tz2(h:Heap)(l1 l2:IN):Heap:=(tz1 h l1).push { cls:=GT "tuple_iterator",data:=Da #[EQ l2,GE 0 0] }
def tz3(h:Heap)(l1 l2:IN):Heap:=(tz2 h l1 l2).push { cls:=GT "tuple",data:=HQ #[EQ h.objs.size,EQ (tz1 h l1).objs.size] }
def tz4(h:Heap)(l1 l2:IN):Heap:=(tz3 h l1 l2).push { cls:=GT "tuple",data:=HQ #[Ap.none,Ap.none] }
def tz5(h:Heap)(l1 l2:IN):Heap:=(tz4 h l1 l2).push { cls:=GT "zip",data:=Da #[Ap.none,Is false,Is false,EQ (tz2 h l1 l2).objs.size,EQ (tz3 h l1 l2).objs.size] }
def XC(l1 l2:IN)(xs ys:Array Ap):Meets (AW.«zip.__new__» { pos:=[GT "zip",EQ l1,EQ l2] }) λ_ R s=>
  s.heap.IsTuple l1 xs/\s.heap.IsTuple l2 ys/\R (.ok (.ret (.ref (tz4 s.heap l1 l2).objs.size))) { s with heap:=tz5 s.heap l1 l2 }:=by
 refine Meets.of_wp λprog w A R s h=>?_;obtain⟨ht1,cr,hR⟩:=h;unfold AW.«zip.__new__» AW.SmallTypes.newClass;refine An (An (Au (FB Z (An (C5 sub_zip (FB Z (Au ?_)))))));show AI _ _ (AW.SmallTypes.iterAll [EQ l1,EQ l2] >>= _) _ _ _;refine An ?_;unfold AW.SmallTypes.iterAll;refine An ?_;rw[E4];refine An (An (CB (GN ht1 (Au ?_))));show AI _ _ (forIn [EQ l2] #[EQ s.heap.objs.size] _) _ _ _;rw[E4];have UH:(tz1 s.heap l1).IsTuple l2 ys:=by
  obtain⟨o,e,r⟩:=cr;exact⟨o,AE _ e,r⟩
 refine An (An (CB (GN (s:={ s with heap:=tz1 s.heap l1 }) UH (Au ?_))));show AI _ _ (forIn [] #[EQ s.heap.objs.size,EQ (tz1 s.heap l1).objs.size] _) _ _ _;rw[forIn_nil];refine Au (Au ?_);show AI _ _ (newTuple [EQ s.heap.objs.size,EQ (tz1 s.heap l1).objs.size] >>= _) _ _ { s with heap:=tz2 s.heap l1 l2 };refine An (IG ?_ (by show 2<=AJ;decide));show AI _ _ (newTuple [Ap.none,Ap.none] >>= _) _ _ { s with heap:=tz3 s.heap l1 l2 };refine An (IG ?_ (by show 2<=AJ;decide));show AI _ _ (newObj (.type "zip") (.fields #[.none,.bool false,.bool false,.ref (tz2 s.heap l1 l2).objs.size,.ref (tz3 s.heap l1 l2).objs.size]) >>= λr=>ret r) _ _ { s with heap:=tz4 s.heap l1 l2 };refine An (BE ?_);exact Au ⟨_,rfl,hR⟩
def zW{xs:Array Ap}(eM:s.heap.IsTuple l1 xs)(g9:s.heap.IsTuple l2 ys)
   (h:∀h':Heap,IsZip h' (s.heap.objs.size+4) (s.heap.objs.size+2) (s.heap.objs.size+3) Ap.none->ES h' (s.heap.objs.size+2) (EQ s.heap.objs.size) (EQ (s.heap.objs.size+1))->ES h' (s.heap.objs.size+3) Ap.none Ap.none->h'.IsTupleIter s.heap.objs.size l1 0->h'.IsTupleIter (s.heap.objs.size+1) l2 0 ->
   h'.objs.size=s.heap.objs.size+5->(∀c o,s.heap.get? c=ID o->h'.get? c=ID o)->Q (EQ (s.heap.objs.size+4)) { s with heap:=h' }):AI (AN prog w) A (call (GT "zip") [EQ l1,EQ l2]) Q E s:=by
 refine callType_new F.called_zip δ (F.typeCall_zip_2 _ _) (F.newCall_zip_2 _ _) (λobj=>F.args_object_init_3 obj _ _) F.entry_zip_new (XC l1 l2 xs ys) ⟨eM,g9,?_⟩;have z1:(tz1 s.heap l1).objs.size=s.heap.objs.size+1:=CY ..;have z2:(tz2 s.heap l1 l2).objs.size=s.heap.objs.size+2:=(CY ..).trans (by rw[z1]);have z3:(tz3 s.heap l1 l2).objs.size=s.heap.objs.size+3:=(CY ..).trans (by rw[z2]);have z4:(tz4 s.heap l1 l2).objs.size=s.heap.objs.size+4:=(CY ..).trans (by rw[z3]);have z5:(tz5 s.heap l1 l2).objs.size=s.heap.objs.size+5:=(CY ..).trans (by rw[z4]);have g5:(tz5 s.heap l1 l2).get? (tz4 s.heap l1 l2).objs.size=_:=AU _ rfl;have g4:(tz5 s.heap l1 l2).get? (tz3 s.heap l1 l2).objs.size=_:=AE _ (AU _ Z);have g3:(tz5 s.heap l1 l2).get? (tz2 s.heap l1 l2).objs.size=_:=AE _ (AE _ (AU _ Z));have g2:(tz5 s.heap l1 l2).get? (tz1 s.heap l1).objs.size=_:=AE _ (AE _ (AE _ (AU _ Z)));have g1:(tz5 s.heap l1 l2).get? s.heap.objs.size=_:=AE _ (AE _ (AE _ (AE _ (AU _ Z))));have hk:∀c o,s.heap.get? c=ID o->(tz5 s.heap l1 l2).get? c=ID o:=λc o e=>AE _ (AE _ (AE _ (AE _ (AE _ e))));rw[z4,z2,z3] at g5;rw[z3] at g4;rw[z2,z1] at g3;rw[z1] at g2;rw[z4];generalize tz5 s.heap l1 l2=h' at z5 g5 g4 g3 g2 g1 hk;exact⟨⟨_,g5,rfl⟩,h h' g5 g3 g4 ⟨_,g1,rfl,rfl⟩ ⟨_,g2,rfl,rfl⟩ z5 hk⟩
def Itu(K:AA)(a b:IN):It:=
 ⟨λi H=>∃xs ys x y,SqT K H a xs/\SqT K H b ys/\xs[i]?=ID x/\ys[i]?=ID y,
  λi H v H'=>∃p x y,v=.ref p/\H p=IF/\H'=upd H p (.tup [x,y])/\(∀xs,SqT K H a xs->xs[i]?=ID x)/\∀ys,SqT K H b ys->ys[i]?=ID y,
  λi H=>∃xs ys,SqT K H a xs/\SqT K H b ys/\(xs[i]?=IF\/ys[i]?=IF)⟩
def G5{z TI TO:IN}(D:JY z TI TO i1 i2 l1 l2) :
  Turn P w K (.Tuple es kk dQ) (Itu K l1 l2) [z,TI,TO,i1,i2] z (λi h=>IsZip h z TI TO .none/\ES h TI (.ref i1) (.ref i2)/\(∃a b,ES h TO a b)/\h.IsTupleIter i1 l1 i/\h.IsTupleIter i2 l2 i) where
 mem:=by simp
 obj:=λi h st b hb=>by
  obtain⟨hz,eu,⟨a,b',eR⟩,⟨o1,e1,c1,d1⟩,⟨o2,e2,c2,d2⟩⟩:=st;simp only[AX,BB,or_false] at hb;rcases hb with rfl|rfl|rfl|rfl|rfl
  ·exact⟨_,hz,λv q=>by cases q⟩
  ·exact⟨_,eu,λv q=>by cases q⟩
  ·exact⟨_,eR,λv q=>by cases q⟩
  ·exact⟨o1,e1,λv q=>by rw[d1] at q;cases q⟩
  exact⟨o2,e2,λv q=>by rw[d2] at q;cases q⟩
 keep:=λi h h' st k=>by
  obtain⟨hz,eu,⟨a,b',eR⟩,h1,h2⟩:=st;exact⟨k z ζ _ hz,k TI ζ _ eu,⟨a,b',k TO ζ _ eR⟩,h1.at λo e=>k i1 ζ o e,h2.at λo e=>k i2 ζ o e⟩
 item:=by
  intro X hP hw hK hc i ac s σ H E I hf st hg;subst hP hw hK;obtain⟨xs,ys,x,y,q1,q2,hx,hy⟩:=hg;obtain⟨bg,ge,p1,eW⟩:=I.tuple q1;obtain⟨a9,oy,p2,dC⟩:=I.tuple q2;obtain⟨u1,oI,pV⟩:=ge.get hx;obtain⟨u2,NB,M2⟩:=oy.get hy;obtain⟨hz,eu,⟨a,b',eR⟩,h1,h2⟩:=st;refine oJ D hz eu eR h1 h2 p1 p2 (x:=u1) (y:=u2) (by simpa using oI) (by simpa using NB) λh' a1 a2 a3 a4 a5 a6 hk=>?_;have new:bW X.prog X.w (upd H s.heap.objs.size (.tup [x,y])) h' s.heap.objs.size (.tup [x,y]):=⟨by show 2<=AJ;decide,[u1,u2],.cons pV (.cons M2 .nil),_,a5,rfl,_,rfl⟩;have I1:Inv X ac σ (upd H s.heap.objs.size (.tup [x,y])) { s with heap:=h' }:=I.S8 (t':=s.toks) (ch:=[z,TO,i1,i2]) (λb hb=>hf b (by
   simp only[AX,BB,or_false] at hb |-;rcases hb with r|r|r|r <;> simp[r]))
   (λb o hb e=>hk b o (λq=>hb (by simp[q])) (λq=>hb (by simp[q])) (λq=>hb (by simp[q])) (λq=>hb (by simp[q])) e) (A3 _) new
  have w4:ES h' TI (.ref i1) (.ref i2):=hk _ _ D.TIz D.TITO D.TIi1 D.TIi2 eu;have hsz:∀b,b∈[z,TI,TO,i1,i2]->b≠s.heap.objs.size:=λb hb=>by
   obtain⟨_,_,aI,_⟩:=hf b hb;have lt:∃o,s.heap.get? b=ID o:=by
    simp only[AX,BB,or_false] at hb;rcases hb with rfl|rfl|rfl|rfl|rfl
    ·exact⟨_,hz⟩
    ·exact⟨_,eu⟩
    ·exact⟨_,eR⟩
    ·obtain⟨o,e,_⟩:=h1;exact⟨o,e⟩
    obtain⟨o,e,_⟩:=h2;exact⟨o,e⟩
   obtain⟨o,e⟩:=lt;exact BO (A6 e)
  refine⟨_,rfl,wpAny_letOwnedTupleGo_zip (s:={ s with heap:=h' }) a1 λph z2 sb=>?_⟩;have fz:=hf z ζ;have I2:Inv X ac σ (upd H s.heap.objs.size (.tup [x,y])) { s with heap:=ph }:=Inv.turned (s:={ s with heap:=h' }) (it:=z) (t':=s.toks) I1 (λb o hb e=>(sb.2 b hb).trans e) (by rw[aO (hsz z ζ)];exact fz.1) fz.2.1 fz.2.2.2.1 fz.2.2.2.2.1 fz.2.2.2.2.2;refine⟨.ref s.heap.objs.size,_,I2,rfl,⟨_,x,y,rfl,I.fresh,rfl,λSb q=>by rw[I.tX q q1];exact hx,λys' q=>by rw[I.tX q q2];exact hy⟩,
   ⟨z2,(sb.2 _ D.TIz).trans w4,⟨_,_,(sb.2 _ D.TOz).trans a2⟩,a3.extBut sb.extBut D.i1z,a4.extBut sb.extBut D.i2z⟩,λb hb=>by rw[aO (hsz b hb)];exact(hf b hb).1⟩
 done:=by
  intro X hP hw hK hc i ac s σ H E I hf st hg;subst hP hw hK;obtain⟨xs,ys,q1,q2,hx⟩:=hg;obtain⟨bg,ge,p1,eW⟩:=I.tuple q1;obtain⟨a9,oy,p2,dC⟩:=I.tuple q2;obtain⟨hz,eu,⟨a,b',eR⟩,h1,h2⟩:=st;have f8:bg.toArray[i]?=IF\/a9.toArray[i]?=IF:=by
   rcases hx with r|r
   ·exact .inl (by simpa using ge.none_of r)
   exact .inr (by simpa using oy.none_of r)
  refine qF (I.ok.hd hc) D hz eu eR h1 h2 p1 p2 f8 λh' hk=>⟨rfl,?_⟩;exact I.S9 (t':=s.toks) (ch:=[z,TO,i1,i2]) (λb hb=>hf b (by
   simp only[AX,BB,or_false] at hb |-;rcases hb with r|r|r|r <;> simp[r]))
   (λb o hb e=>hk b o (λq=>hb (by simp[q])) (λq=>hb (by simp[q])) (λq=>hb (by simp[q])) (λq=>hb (by simp[q])) e)
 self:=λ_ _ _ _ _ st h=>HE st.1 h
def zpq(K:AA)(o1 o2:Option HO)(a b:IN)(H:Hp)(R:It->Hp->Prop):Prop:=match o1,o2 with
 | some (.lst _),ID (.lst _)=>R (Itz K a b) H
 | some (.tup _),ID (.tup _)=>R (Itu K a b) H
 | _,_=>False
def zpK(K:AA)(vs:List V)(H:Hp)(R:It->Hp->Prop):Prop:=match vs with
 | [.ref a,.ref b]=>zpq K (H a) (H b) a b H R
 | _=>False
def aaJ(K:AA)(ta:TA):TI:=λσ H R=>ta σ H λvs H1=>zpK K vs H1 R
def aaI(K:AA)(ta:TA)(σ:St)(H:Hp)(R:It->Hp->Prop):aaJ K ta σ H R=ta σ H λvs H1=>zpK K vs H1 R:=rfl
def aex(K:AA)(a b:IN)(H:Hp)(R:It->Hp->Prop):zpK K [.ref a,.ref b] H R=zpq K (H a) (H b) a b H R:=rfl
def aew(K:AA)(xs ys:List V)(a b:IN)(H:Hp)(R:It->Hp->Prop):zpq K (ID (.lst xs)) (ID (.lst ys)) a b H R=R (Itz K a b) H:=rfl
def acs{a b:Expr}{t:TA}{p:Pos}(hg:Gl X "zip")(hm:X.mg "zip" = IF)(ha:QA X [a,b] t)(hs:AH [a,b] X.env=[(false,eval a X.env),(false,eval b X.env)]:=by rfl)(eK:AH [b] X.env=[(false,eval b X.env)]:=by rfl):QI X (.Tuple es kk dQ) (.Call (.Name "zip" p) [a,b] [] pos) (aaJ X.K t):=⟨by
 intro ac s σ H R I h;refine Call_ (iM I hg hm boot_zip (BI (thA (ha.h pos ac s σ H _ I h) λus s1 vs H1 I1 r1 q1=>?_) (by rw[hs,eK]) (by rw[eK];rfl)));replace q1:zpK X.K vs H1 R:=q1;unfold zpK at q1;split at q1
 ·rename_i l1 l2;unfold zpq at q1;cases r1 with
  | cons r rr=>
   cases rr with
   | cons r' rr=>
    cases rr;cases r;cases r';have apart:l1<s1.heap.objs.size->l2<s1.heap.objs.size->JY (s1.heap.objs.size+4) (s1.heap.objs.size+2) (s1.heap.objs.size+3) s1.heap.objs.size (s1.heap.objs.size+1) l1 l2:=by
     generalize s1.heap.objs.size=n;intro qD qB;have TM:@LT.lt Nat _ l1 n:=qD;have TL:@LT.lt Nat _ l2 n:=qB;constructor <;> (intro(z:@Eq Nat _ _);omega)
    have fp:∀b∈[s1.heap.objs.size+4,s1.heap.objs.size+2,s1.heap.objs.size+3,s1.heap.objs.size,s1.heap.objs.size+1],mY X ac H1 b:=λb hb=>by
     have cf:s1.heap.objs.size<=b:=by
      simp only[AX,BB,or_false] at hb;rcases hb with rfl|rfl|rfl|rfl|rfl <;> simp
     exact I1.GP cf (I1.hok.fresh cf)
    split at q1
    ·rename_i xs ys e1 e2;obtain⟨bg,ge,p1,eW⟩:=I1.list (SqL.of e1);obtain⟨a9,oy,p2,dC⟩:=I1.list (SqL.of e2);have qD:l1<s1.heap.objs.size:=by obtain⟨_,e,_⟩:=p1.isList;exact A6 e
     have qB:l2<s1.heap.objs.size:=by obtain⟨_,e,_⟩:=p2.isList;exact A6 e
     refine call_zip_2 p1.isList p2.isList λh' b1 b2 b3 b4 b5 b6 hk=>?_;refine HE (s:={ s1 with heap:=h' }) b1 ?_;exact⟨_,_,_,_,H1,rfl,I1.kept (t':=s1.toks) hk,XS (apart qD qB),⟨b1,b2,⟨_,_,b3⟩,b4,b5⟩,fp,q1⟩
    ·rename_i xs ys e1 e2;obtain⟨bg,ge,p1,eW⟩:=I1.tuple (SqT.of e1);obtain⟨a9,oy,p2,dC⟩:=I1.tuple (SqT.of e2);have qD:l1<s1.heap.objs.size:=by obtain⟨_,e,_⟩:=p1;exact A6 e
     have qB:l2<s1.heap.objs.size:=by obtain⟨_,e,_⟩:=p2;exact A6 e
     refine zW p1 p2 λh' b1 b2 b3 b4 b5 b6 hk=>?_;refine HE (s:={ s1 with heap:=h' }) b1 ?_;exact⟨_,_,_,_,H1,rfl,I1.kept (t':=s1.toks) hk,G5 (apart qD qB),⟨b1,b2,⟨_,_,b3⟩,b4,b5⟩,fp,q1⟩
    exact q1.elim
 exact q1.elim⟩
inductive RowC where
 | one (n t:Int)
 | rng (a b t:Int)
 | low (n t:Int)
 | msk (lo wd bits t:Int)
 | tab (lo:Int) (gs:List Int)
 | pik (l:Int)
def scV:AF->Option V
 | .int i=>ID (.int i)
 | .str z=>ID (.str z)
 | _=>IF
theorem aJ.sc{ok:IN->Prop}{H:Hp}{x v:V}{d:AF}(t:aJ ok H x d)(h:scV d=ID v):x=v:=by
 cases t with
 | int i=>exact A7 h
 | str z=>exact A7 h
 | _=>cases h
theorem aF.sc{ok:IN->Prop}{H:Hp}:∀{xs vs:List V}{ds:List AF},aF ok H xs ds->ds.map scV=vs.map ID->xs=vs
 | _,[],_,.nil,_=>rfl
 | _,v::vs,_,.nil,h=>by cases h
 | _,[],_,.cons _ _,h=>by cases h
 | _,v::vs,_,.cons t ts,h=>by
  rw[DE,DE] at h;injection h with h1 h2;rw[t.sc h1,ts.sc h2]
def Wv(pre:List Int)(j:Int):atI ((pre++[j]).map At) (-1)=ID (At j):=by
 unfold atI ixN;rw[if_neg δ,if_pos (by rw[AG,AQ,BS];omega)];show((pre++[j]).map At)[_]?=_;rw[show(-1+(((pre++[j]).map At).length:Int)).toNat=pre.length by rw[AG,AQ,BS];omega,AM,DJ (A3 _),sub_self];rfl
section
variable{o:Expr}
def Zn{x:Str}{ti:TIp}(h:Nm X.N X.env.scope i x)(hN:X.N.Nodup)(he:QE X e te)(ho:PIp X op ti)(hf:X.fn x=true\/X.env.scope.names.lookup x=ID .local:=by exact .inl Z) :
  QS X (.AugAssign (.Name x ba) op e pos) (aeH i te ti):=⟨afd hN h.hN h.hv he.h ho hf⟩
def ints1(H:Hp)(p:IN)(is:List Int):Prop:=H p=ID (.lst (is.map At))\/H p=ID (.tup (is.map At))
def oK(r:Vals (is.map At) af)(i:Nat)(v:Ap)(h:af.toArray[i]?=ID v):∃t,v=GE (is.getD i 0) t:=by
 have hl:=r.length;rw[AG] at hl;have hi:i<af.length:=by
  rcases Go i af.length with z|z
  ·exact z
  rw[HH,B4 z] at h;cases h
 have hx:(is.map At)[i]?=ID (At (is.getD i 0)):=by
  rw[AM,AC ω,AV,AC ω];rfl
 obtain⟨u,hu,ru⟩:=r.get hx;rw[HH,hu] at h;cases h;exact ru
def zb(hc:X.calm=true):dm X (.builtin "min") (λxs H Q=>∃p is,xs=[.ref p]/\ints1 H p is/\is≠[]/\∀M,M∈is->(∀a∈is,M<=a)->Q (.int M) H):=by
 intro ac s σ H xs us Q I r h;obtain⟨p,is,rfl,hp,ck,q⟩:=h;obtain⟨u,rfl,rv⟩:=vals1 r;cases rv;have vT:0<is.length:=L9.mpr ck;have fin:∀{af:List Ap}(lT:Vals (is.map At) af) (v:Ap) (h':Heap) (tk:Nat),af.toArray[argBest (λi j=>decide (is.getD i 0<is.getD j 0)) (af.toArray.size-1)]?=ID v->Inv X ac σ H { s with heap:=h',toks:=tk }->EP X ac σ Q v { s with heap:=h',toks:=tk }:=λ{af} lT v h' tk hv I3=>by
  have hl:=lT.length;rw[AG] at hl;obtain⟨t,rfl⟩:=oK lT _ v hv;have hb:=argBest_lt (λi=>is.getD i 0) (af.toArray.size-1);rw[A0] at hb |-;refine⟨.int _,H,I3,⟨_,rfl⟩,q _ ?_ ?_⟩
  ·rw[AV,AC ω];exact EB _
  intro a ha;obtain⟨j,hj,e⟩:=FC.mp ha;have:=hb.2 j ω;rw[show is.getD j 0=a by rw[AV,AC hj];exact e] at this;exact this
 have kept:∀{ob:Obj}{h':Heap}{tk:Nat},(∀(b:IN)(o:Obj),¬b∈[s.heap.objs.size]->(s.heap.push ob).get? b=ID o->h'.get? b=ID o)->Inv X ac σ H { s with heap:=h',toks:=tk }:=λ{ob h' tk} hk=>
  I.kept (t':=tk) λb o e=>hk b o (λz=>BO (A6 e) (AL.mp z)) (AE _ e)
 rcases hp with hp|hp
 ·obtain⟨af,lT,pl,hz⟩:=I.list (SqL.of hp);have hl:=lT.length;rw[AG] at hl;have oB:s.heap.IsList p af.toArray:=pl.isList;have aI:p<s.heap.objs.size:=by obtain⟨_,e,_⟩:=oB;exact A6 e
  refine call_min_walk (FK oB ?_);refine⟨s.heap.objs.size,_,_,_,_,_,_,rfl,Walks.list (A:=X.A.in1) (I.ok.hd hc) s.heap.objs.size p (BO aI) af.toArray,?_,λb hb=>?_,?_,CmpOf.ints_lt (λi=>is.getD i 0) λi v hv=>oK lT i v hv,λv h' tk hv hk=>fin lT v h' tk hv (kept hk)⟩
  ·obtain⟨ob,e,r⟩:=oB;exact⟨⟨_,AU _ rfl,rfl,rfl⟩,ob,AE _ e,r⟩
  ·rw[CY];simp only[AX,BB,or_false] at hb;rcases hb with rfl|rfl
   ·exact DD _
   exact D3 aI
  rw[A0];omega
 obtain⟨af,lT,pl,hz⟩:=I.tuple (SqT.of hp);have hl:=lT.length;rw[AG] at hl;have oB:s.heap.IsTuple p af.toArray:=pl;have aI:p<s.heap.objs.size:=by obtain⟨_,e,_⟩:=oB;exact A6 e
 refine call_min_walk (GN oB ?_);refine⟨s.heap.objs.size,_,_,_,_,_,_,rfl,Walks.tuple (A:=X.A.in1) (I.ok.hd hc) s.heap.objs.size p (BO aI) af.toArray,?_,λb hb=>?_,?_,CmpOf.ints_lt (λi=>is.getD i 0) λi v hv=>oK lT i v hv,λv h' tk hv hk=>fin lT v h' tk hv (kept hk)⟩
 ·obtain⟨ob,e,r⟩:=oB;exact⟨⟨_,AU _ rfl,rfl,rfl⟩,ob,AE _ e,r⟩
 ·rw[CY];simp only[AX,BB,or_false] at hb;rcases hb with rfl|rfl
  ·exact DD _
  exact D3 aI
 rw[A0];omega
def U7(ws:List Str)(w:Str)(j:Nat):Prop:=ws[j]?=ID w/\∀m,m<j->ws[m]?≠ID w
end
def Jl(l:IN)(items:Array Ap)(x:Ap)(e:Ap->Bool)(j:Nat)(hj:j<items.size)(h1:e items[j]=true)(h2:∀m (hm:m<items.size),m<j->e items[m]=false) :
  Meets (AW.«tuple.index» { pos:=[EQ l,x] }) λA R s=>s.heap.IsTuple l items/\(∀y,y∈items->B6 A.in1 s y x (e y))/\R (.ok (.ret (.int j s.toks))) { s with toks:=s.toks+1 }:=by
 refine Meets.of_wp λprog w A R s h=>?_;obtain⟨⟨o,ho,hc,n,hd⟩,heq,hR⟩:=h;unfold AW.«tuple.index» selfAndSome;refine An (An (C5 (a:=()) Z ?_));refine An (C5 (a:=()) Z (Au ?_));unfold AW.Tuple.tupleItemsOf;refine An (An (DL ho hd (Au ?_)));refine An (Au ?_);refine An (Au ?_);refine An ?_;rw[Std.Legacy.Range.forIn_eq_forIn_range'];have hsz:[:min items.size items.size].size=items.size:=by simp[Std.Legacy.Range.size]
 rw[hsz];refine wpAny_forIn_list _ (λaE b s'=>b=(IF,())/\s'=s/\∃i,aE=List.range' i (items.size-i)/\i<=j) _ ?_ ?_ _ _ ⟨rfl,rfl,0,rfl,DC _⟩
 ·rintro i aE b s' ⟨rfl,rfl,i0,ib,gg⟩;obtain⟨k,hk⟩:∃k,items.size-i0=k+1:=⟨items.size-i0-1,ω⟩;rw[hk,range'_succ] at ib;cases ib;have hi:i<items.size:=ω;have he:items[i]?=ID items[i]:=Array.getElem?_eq_getElem hi;simp only[he];refine An (heq _ (Array.getElem_mem hi) _ _ _ _ ?_);by_cases Op:i=j
  ·subst Op;rw[h1,if_pos rfl];refine An ?_;unfold retInt;refine An (wpAny_mkInt ?_);exact Au (Au (Au ⟨_,rfl,hR⟩))
  rw[h2 i hi ω,if_neg δ];exact Au ⟨rfl,rfl,i+1,by rw[show items.size-(i+1)=k by omega],ω⟩
 rintro b s' ⟨rfl,rfl,i,ib,gg⟩;obtain⟨k,hk⟩:∃k,items.size-i=k+1:=⟨items.size-i-1,ω⟩;rw[hk,range'_succ] at ib;cases ib
section
variable{o:Expr}
def KTup(K:AA)(p:IN)(xs:List V):Prop:=∃(o:Obj)(af:Array Ap)(n:Nat),K.lookup p=ID o/\o.cls=.type "tuple" /\ o.dict=IF/\o.data=.seq af n/\af.size<=AJ/\Vals xs af.toList
def KTup.sq(h:KTup K p xs):SqT K H p xs:=by
 obtain⟨o,af,n,h1,h2,_,h3,h4,h5⟩:=h;exact .inr ⟨o,af,n,h1,h2,h3,h4,h5⟩
def SqB(b:Bool)(K:AA)(H:Hp)(p:IN)(xs:List V):Prop:=match b with
 | true=>SqL K H p xs
 | false=>KTup K p xs
def Ye(K:AA)(to te:TE):TE:=λσ H Q=>to σ H λx H1=>∃(p:IN)(ws:List Str)(b:Bool),x=.ref p/\SqB b K H1 p (ws.map AS)/\te σ H1 λy H2=>∃w j,y=.str w/\SqB b K H2 p (ws.map AS)/\U7 ws w j/\Q (.int (j:Nat)) H2
def vf{ws:List Str}(r:Vals (ws.map AS) af){v:Ap}(h:af[i]?=ID v):∃w t,ws[i]?=ID w/\v=Ap.str w t:=by
 have hl:=r.length;rw[AG] at hl;have hi:=(AK.mp h).1;have hx:(ws.map AS)[i]?=ID (AS ws[i]):=by rw[AM,AC ω];rfl
 obtain⟨u,hu,ru⟩:=r.get hx;rw[hu] at h;cases h;obtain⟨t,rfl⟩:=ru;exact⟨ws[i],t,AC ω,rfl⟩
def acB(hu:X.A.in1.units<FI)(ho:QE X o to)(he:QE X e te)
  (bj:E5 o "index" X.env (eval o X.env)=eval o X.env:=by rfl)
   (cE:((CO cpos (AH [e] X.env)).all (λx=>!x.1)&&(IC cpos (FX [] X.env)).all (λx=>x.1.isSome)
   && decide ([e].length+([]:List E8).length+(if ([]:List E8).isEmpty then 0 else 1)<30))=true:=by rfl)
  (bi:(bp.endLine == cpos.line)=true:=by rfl) (hs:AH [e] X.env=(false,eval e X.env)::AH [] X.env:=by rfl) (az:(CO cpos (AH [] X.env)).any (·.1)=false:=by rfl) :
  QE X (.Call (.Attribute o "index" bp) [e] [] cpos) (Ye X.K to te):=⟨by
 intro ac s σ H Q I h;refine Fs bj cE bi Z (thE (ho.h ac s σ H _ I h) λv s1 x H1 I1 r1 q=>?_);obtain⟨p,ws,b,rfl,hq,q⟩:=q;have key:∀{af:List Ap}{w:Str}{j:Nat}{u:Ap}{s2:AB},Vals (ws.map AS) af->U7 ws w j->RelV (.str w) u->∃(g:Ap->Bool)(hj:j<af.toArray.size),g af.toArray[j]=true/\(∀m (hm:m<af.toArray.size),m<j->g af.toArray[m]=false)/\∀y,y∈af.toArray->B6 X.A.in1 s2 y u (g y):=λ{af w j u s2} rv hf ru=>by
  obtain⟨t,rfl⟩:=ru;have hl:=rv.length;rw[AG] at hl;have hj:j<af.length:=by have:=(AK.mp hf.1).1;omega
  refine⟨λy=>match y with | .str z _=>z == w|_=>false,by simpa using hj,?_,λm hm hmj=>?_,λy hy=>?_⟩
  ·obtain⟨w',t',h1,h2⟩:=vf rv (AC hj);rw[hf.1] at h1;cases h1;have:af.toArray[j]=Ap.str w t':=by simpa using h2
   rw[this];simp
  ·have sT:m<af.length:=by simpa using hm
   obtain⟨w',t',h1,h2⟩:=vf rv (AC sT);have:af.toArray[m]=Ap.str w' t':=by simpa using h2
   rw[this];have ck:w'≠w:=λz=>hf.2 m hmj (by rw[h1,z]);simpa using ck
  have Up:y∈af:=by simpa using hy
  obtain⟨m,hm,em⟩:=FC.mp Up;obtain⟨w',t',h1,h2⟩:=vf rv (AC hm);rw[em] at h2;rw[h2];exact B6.str_str w' t' w t
 cases b with
 | true=>
  obtain⟨h1,h2⟩:=yt (T := "list") I1 r1 (.inl ⟨rfl,_,hq⟩);refine⟨"list","list.index",Fc,PySem.F.slot_list_index,PySem.F.type_list_index,h1,h2,?_⟩;rw[hs];refine EL (by show(false||(CO cpos (AH [] X.env)).any (·.1))=false;rw[az] <;> rfl) (EX ?_)
  refine C0 (thn (he.h ac s1 σ H1 _ I1 q) λu s2 ⟨y,H2,I2,r2,w,j,ey,NI,hf,q3⟩=>C6 ?_);subst ey;cases r1;obtain⟨af,rv,pl,hz⟩:=I2.list NI;obtain⟨g,hj,g1,g2,g3⟩:=key (s2:=s2) rv hf r2;obtain⟨ob,n,eo,ec,ed,es⟩:=pl;cases ob with
  | mk cls dict data slots=>
   cases ec;cases es;have Op:((j:Nat):Int)<2^63-1:=by
    rw[A0] at hj;have hl:=rv.length;have:=Lu;omega
   refine FR F.slot_list_index ⟨_,eo,rfl⟩ F.entry_list_index (F.args_list_index_2 _ _) (SeqAt.list_indexAt p af.toArray n _ _ u g j hj Op g1 g2) ⟨eo,g3,?_⟩;exact⟨.int (j:Nat),H2,I2.tok _,⟨_,rfl⟩,q3⟩
 | false=>
  obtain⟨h1,h2⟩:=yt (T := "tuple") I1 r1 (.inr (.inl ⟨rfl,by obtain⟨o,_,_,k1,k2,k3,_⟩:=hq;exact⟨o,k1,k2,k3⟩⟩));refine⟨"tuple","tuple.index",PySem.F.plainAttrs_tuple,PySem.F.slot_tuple_index,PySem.F.type_tuple_index,h1,h2,?_⟩;rw[hs];refine EL (by show(false||(CO cpos (AH [] X.env)).any (·.1))=false;rw[az] <;> rfl) (EX ?_)
  refine C0 (thn (he.h ac s1 σ H1 _ I1 q) λu s2 ⟨y,H2,I2,r2,w,j,ey,NI,hf,q3⟩=>C6 ?_);subst ey;cases r1;obtain⟨af,rv,pl,hz⟩:=I2.tuple (KTup.sq NI);obtain⟨g,hj,g1,g2,g3⟩:=key (s2:=s2) rv hf r2;have oB:s2.heap.IsTuple p af.toArray:=pl;obtain⟨ob,eo,ec,n,ed⟩:=id oB;refine FR F.slot_tuple_index ⟨_,eo,ec⟩ F.entry_tuple_index (F.args_tuple_index_2 _ _) (Jl p af.toArray u g j hj g1 g2) ⟨oB,g3,?_⟩;exact⟨.int (j:Nat),H2,I2.tok _,⟨_,rfl⟩,q3⟩⟩
end
inductive Pl where
 | pick (l:Int)
 | one (k:Nat) (r:Pl)
 | wit (k:Nat) (r:Pl)
 | low (k:Nat) (a b:Pl)
 | msk (l:Int) (r:Pl)
 | tab
def plD:Pl->AF
 | .pick l=>.tuple [.str "pick",.int l]
 | .one k r=>.tuple [.str "is",.int (k:Int),plD r]
 | .wit k r=>.tuple [.str "within",.int (k:Int),plD r]
 | .low k a b=>.tuple [.str "below",.int (k:Int),plD a,plD b]
 | .msk l r=>.tuple [.str "mask",.int l,plD r]
 | .tab=>.tuple [.str "table"]
def uD:Pl->Nat
 | .pick _=>1
 | .one _ r=>uD r+1
 | .wit _ r=>uD r+1
 | .low _ a b=>uD a+uD b+1
 | .msk _ r=>uD r+1
 | .tab=>1
abbrev Sts:=List (Int×Int×Int)
def fZ(ss:Sts)(k:Nat):Int×Int×Int:=ss.getD k (0,0,0)
structure Lf(ss:Sts)(left:List Nat):Prop where
 ne:left≠[]
 lt:∀k∈left,k<ss.length
 up:left.Pairwise (· < ·)
def Ab(ss:Sts)(f:List Nat->Pl->Int):Pl->List Nat->Int
 | .pick l,left=>f left (.pick l)
 | .tab,left=>f left .tab
 | .one k r,left=>f left (.one k r)+Ab ss f r (left.filter (·≠k))
 | .wit k r,left=>f left (.wit k r)+Ab ss f r (left.filter (·≠k))
 | .low k a b,left=>f left (.low k a b)+Ab ss f a (left.filter (· < k))+Ab ss f b (left.filter (k<=·))
 | .msk l r,left=>f left (.msk l r)+Ab ss f r (left.filter λk=>(fZ ss k).2.2≠l)
def Ij(left:List Nat):AF:=.list (left.map λ(k:Nat)=>.int (k:Int))
def gG(ss:Sts)(left:List Nat):Int:=(fZ ss (left.getLast?.getD 0)).2.1-(fZ ss (left.head?.getD 0)).1+1
def LC:Sp:=λvs H Q _=>∃(s l:V)(ok:IN->Prop)(ss:Sts)(left:List Nat),vs=[s,l]/\aJ ok H s (.list (ss.map stD))/\aJ ok H l (Ij left)/\Lf ss left/\Q (.int (gG ss left)) H
theorem adt{ok:IN->Prop}{H:Hp}(left:List Nat):aF ok H (left.map λ(k:Nat)=>At (k:Int)) (left.map λ(k:Nat)=>AF.int (k:Int)):=by
 induction left with
 | nil=>exact .nil
 | cons a l ih=>exact .cons (.int _) ih
theorem aF.nats{ok:IN->Prop}{H:Hp}:∀{xs:List V}{left:List Nat},aF ok H xs (left.map λ(k:Nat)=>AF.int (k:Int))->xs=left.map λ(k:Nat)=>At (k:Int)
 | _,[],.nil=>rfl
 | _,a::l,.cons h r=>by
  cases h;rw[r.nats];rfl
theorem aJ.left{ok:IN->Prop}{H:Hp}{x:V}{left:List Nat}(t:aJ ok H x (Ij left)):∃a,x=.ref a/\ok a/\H a=ID (.lst (left.map λ(k:Nat)=>At (k:Int)))/\left.length<=1000000:=by
 cases t with
 | lst o e z ts=>
  rw[ts.nats] at e z;rw[AG] at z;exact⟨_,rfl,o,e,z⟩
def Jr{ss:Sts}{k:Nat}(h:k<ss.length):ss[k]?=ID (fZ ss k):=by
 unfold fZ;rw[AV,AC h];rfl
def aF.stN{ok:IN->Prop}{ss:Sts}(t:aF ok H xs (ss.map stD)){k:Nat}(h:k<ss.length):∃a,atI xs (k:Int)=ID (.ref a)/\H a=ID (.tup [.int (fZ ss k).1,.int (fZ ss k).2.1,.int (fZ ss k).2.2]):=by
 have hl:=t.length;rw[AG] at hl;have hx:xs[k]?=ID xs[k]:=AC ω;obtain⟨a,s,h1,_,h2,h3⟩:=t.st hx;rw[Jr h] at h2;cases h2;refine⟨a,?_,h3⟩;rw[<- h1];exact cG hx
def nv(left:List Nat):List V:=left.map λ(k:Nat)=>At (k:Int)
def rD(left:List Nat):(nv left).length=left.length:=by unfold nv;rw[AG]
theorem JW{left:List Nat}{i:Nat}{x:V}(h:(nv left)[i]?=ID x):∃k,left[i]?=ID k/\x=.int (k:Int):=by
 unfold nv at h;rw[AM] at h;cases e:left[i]? with
 | none=>rw[e] at h;cases h
 | some k=>rw[e] at h;cases h;exact⟨k,rfl,rfl⟩
def adh{left:List Nat}(h:left≠[]):∃k,left.getLast?=ID k/\k∈left/\atI (nv left) (-1)=ID (.int (k:Int)):=by
 obtain⟨a,b,rfl⟩:=Ii left (L9.mpr h);refine⟨b,by simp,by simp,?_⟩;have:=Wv (a.map λ(k:Nat)=>(k:Int)) (b:Int);unfold nv;rw[show((a++[b]).map λ(k:Nat)=>At (k:Int))=((a.map λ(k:Nat)=>(k:Int))++[(b:Int)]).map At by simp];exact this
theorem adi{left:List Nat}(h:left≠[]):∃k,left.head?=ID k/\k∈left/\atI (nv left) 0=ID (.int (k:Int)):=by
 cases left with
 | nil=>exact absurd rfl h
 | cons a l=>exact⟨a,rfl,A5,cG (j:=0) (show(nv (a::l))[0]?=_ from rfl)⟩
def Rx{ok:IN->Prop}{left:List Nat}(h:ok a)(e:H a=ID (.lst (nv left)))(hl:left.length<=1000000):aJ ok H (.ref a) (Ij left):=.lst h e (by rw[rD];exact hl) (adt left)
def BV:Pl->Str
 | .pick _ => "pick"
 | .one _ _ => "is"
 | .wit _ _ => "within"
 | .low _ _ _ => "below"
 | .msk _ _ => "mask"
 | .tab => "table"
def ahJ:Pl->Nat
 | .pick _=>0
 | .one _ _=>0
 | .wit _ _=>1
 | .low _ _ _=>2
 | .msk _ _=>3
 | .tab=>4
def Vw:List Str:=["is","within","below","mask","table"]
def wz(h:i<zs.length):atI (zs.map At) (i:Int)=ID (.int (zs.getD i 0)):=by
 refine cG ?_;rw[AM,AC h,AV,AC h];rfl
def IW{Q:VK}{left:List Nat}(fI:Nat->Int)(kK:St->Prop)(hR:R=Xy mp g tc te σ Q)(e:H a=ID (.lst (nv left)))(hz:left.length<=1000000)(h0:kK (fO mp σ))
  (hs:∀(i k:Nat) τ (ae:List V) (Pn:List V->St->Hp->Prop),left[i]?=ID k->kK τ->(∀τ1,kK τ1->Pn (ae++[At (fI k)]) τ1 H)->g (.int (k:Int)) τ H λτ1 H4=>tc τ1 H4 λb H5=>if b=true then te τ1 H5 λv H6=>Pn (ae++[v]) τ1 H6 else Pn ae τ1 H5)
  (hd:∀d,H d=IF->Q (.ref d) (upd H d (.lst ((left.map fI).map At)))):R (Itl K a) H:=by
 refine jz hR (xs:=nv left) (aQ (by rw[rD];exact hz)) (λi ae τ H'=>H'=H/\ae=((left.take i).map fI).map At/\kK τ) ⟨rfl,rfl,h0⟩ ?_ ?_ ?_ ?_
 ·rintro i ae τ H' ⟨_,rfl,_⟩;rw[AG,AG];exact Db _ _
 ·rintro i ae τ H' ⟨rfl,_,_⟩;exact SqL.of e
 ·rintro i x ae τ H' hx ⟨rfl,rfl,ht⟩;obtain⟨k,hk,rfl⟩:=JW hx;refine hs i k τ _ (λae τ H1=>H1=H'/\ae=((left.take (i+1)).map fI).map At/\kK τ) hk ht (λτ1 h1=>⟨rfl,?_,h1⟩);rw[take_snoc hk,Be,Be];rfl
 rintro ae τ H' d ⟨rfl,rfl,_⟩ tw;rw[EZ (by rw[rD];exact A3 _)];exact hd d tw
def acu(K:AA){l:Expr}(hl:QE X l tl)(hK:X.K=K:=by rfl):QI X tg l (Im K tl):=by
 subst hK;exact cJ hl
def sumK(ws:List Int)(left:List Nat):Int:=(left.map λk=>ws.getD k 0).sum
def mO(ws zs:List Int)(left:List Nat):Pl->Int
 | .pick _=>0
 | p=>zs.getD (ahJ p) 0*sumK ws left
def Few(zs:List Int):Prop:=∀z∈zs,-(2^40)<z/\z<2^40
def Ho:Sp:=λvs H Q _=>∃(p:IN)(B:Int),vs=[.ref p,.int 5]/\aP H p B/\0<=B/\B<=900000 /\
 ∀(t:IN)(zs:List Int) H',aR p H H'->aP H' p (B+20)->t≠p->H t=IF->H' t=ID (.tup (zs.map At))->zs.length=5->(∀z∈zs,1<=z/\z<=99)->Q (.ref t) H'
def G9:Sp:=λvs H Q _=>∃(p:IN)(m:Nat)(B:Int),vs=[.ref p,.int (m:Int)]/\aP H p B/\0<=B/\B<=900000/\m<=60 /\
 ∀(l:IN)(ws:List Int) H',aR p H H'->aP H' p (B+130)->l≠p->H l=IF->H' l=ID (.lst (ws.map At))->ws.length=m->(∀z∈ws,0<=z/\z<=1000000)->Q (.ref l) H'
def lbl(ss:Sts)(k:Nat):Int:=(fZ ss k).2.2
def yw(ss:Sts):Pl->List Nat->List (List Nat×Pl)
 | .pick l,left=>[(left,.pick l)]
 | .tab,left=>[(left,.tab)]
 | .one k r,left=>(left,.one k r)::yw ss r (left.filter (·≠k))
 | .wit k r,left=>(left,.wit k r)::yw ss r (left.filter (·≠k))
 | .low k a b,left=>(left,.low k a b)::(yw ss b (left.filter (k<=·))++yw ss a (left.filter (· < k)))
 | .msk l r,left=>(left,.msk l r)::yw ss r (left.filter λk=>(fZ ss k).2.2≠l)
def VL(ss:Sts)(left:List Nat):Pl->Prop
 | .pick l=>∀k∈left,lbl ss k=l
 | .tab=>gG ss left<=200
 | .one k _=>k∈left/\(fZ ss k).1=(fZ ss k).2.1
 | .wit k _=>k∈left
 | .low k _ _=>k∈left
 | .msk l _=>gG ss left<=64/\∃k∈left,lbl ss k=l
def PlV(ss:Sts):Pl->List Nat->Prop
 | .pick l,left=>Lf ss left/\VL ss left (.pick l)
 | .tab,left=>Lf ss left/\VL ss left .tab
 | .one k r,left=>(Lf ss left/\VL ss left (.one k r))/\PlV ss r (left.filter (·≠k))
 | .wit k r,left=>(Lf ss left/\VL ss left (.wit k r))/\PlV ss r (left.filter (·≠k))
 | .low k a b,left=>(Lf ss left/\VL ss left (.low k a b))/\PlV ss a (left.filter (· < k))/\PlV ss b (left.filter (k<=·))
 | .msk l r,left=>(Lf ss left/\VL ss left (.msk l r))/\PlV ss r (left.filter λk=>(fZ ss k).2.2≠l)
def ur:Pl->Nat->List (Nat×Nat)
 | .pick _,_=>[]
 | .tab,_=>[]
 | .one _ r,p=>ur r (p+1)
 | .wit _ r,p=>ur r (p+1)
 | .msk _ r,p=>ur r (p+1)
 | .low _ a b,p=>ur b (p+1)++(p,p+1+uD b)::ur a (p+1+uD b)
def agf:List Pl->List Nat->Nat->List (Nat×Nat)
 | [],_,_=>[]
 | c::aE,T,p=>ur c p++(match T with | []=>[]|t::T'=>match aE with | []=>[]|_::_=>(t,p+uD c)::agf aE T' (p+uD c))
def dgQ(x y:V)(H:Hp)(Q:VK):Prop:=∃a v,x=.ref a/\qt H a y (ID v)/\Q v H
def tDG(td ty:TE):TE:=λσ H Q=>td σ H λx H1=>ty σ H1 λy H2=>dgQ x y H2 Q
def aeG(td ty:TE)(σ:St)(H:Hp)(Q:VK):tDG td ty σ H Q=td σ H λx H1=>ty σ H1 λy H2=>dgQ x y H2 Q:=rfl
def dpQ(x y v:V)(H:Hp)(R:Hp->Prop):Prop:=∃a H4,x=.ref a/\yp H a y v H4/\R H4
def sDP(td ty tv:TE):TS:=λD σ H=>tv σ H λv H1=>td σ H1 λx H2=>ty σ H2 λy H3=>dpQ x y v H3 λH4=>D.nx σ H4
def aeP(td ty tv:TE)(D:Ends)(σ:St)(H:Hp):sDP td ty tv D σ H=tv σ H λv H1=>td σ H1 λx H2=>ty σ H2 λy H3=>dpQ x y v H3 λH4=>D.nx σ H4:=rfl
section
variable{o i value:Expr}{td ty:TE}
def CK(hu:X.A.units+1<FI)(ho:QE X o td)(hi:QE X i ty)(hs:agr i):QE X (.Subscript o i pos) (tDG td ty):=⟨by
 intro ac s σ H Q I h;refine abR PySem.F.slot_dict_getitem.lookup hs (thE (ho.h ac s σ H _ I h) λu s1 x H1 I1 rx q1=>thn (hi.h ac s1 σ H1 _ I1 q1) λiv s2 ⟨y,H2,I2,ry,a,v,ex,g,q2⟩=>?_);subst ex;obtain rfl:u=EQ a:=rx;exact⟨Ow I2 g,W7 hu I2 g ry λw' s3 I3 lS=>⟨v,H2,I3,lS,q2⟩⟩⟩
def agO(hu:X.A.units+1<FI)(ho:QE X o td)(hi:QE X i ty)(hv:QE X value tv)(hs:JI value (ID (.Subscript o i ba)) pos.line X.env=pure false) :
  QS X (.Assign [.Subscript o i ba] value pos) (sDP td ty tv):=⟨by
 intro ac s σ H D I h;refine wpAny_Assign_Subscript (thE (hv.h ac s σ H _ I h) λr s1 v H1 I1 rv q1=>thE (ho.h ac s1 σ H1 _ I1 q1) λu s2 x H2 I2 rx q2=>thn (hi.h ac s2 σ H2 _ I2 q2) λiv s3 ⟨y,H3,I3,ry,a,H4,ex,g,q3⟩=>?_) hs;subst ex;obtain rfl:u=EQ a:=rx;exact IV hu I3 g ry rv λs4 I4=>⟨σ,H4,I4,q3⟩⟩
end
def rdA:=AD @aeG @aeP
def qg(zs:List Int):List (Key×V):=[(EI "is",At (zs.getD 0 0)),(EI "within",At (zs.getD 1 0)),(EI "below",At (zs.getD 2 0)),(EI "mask",At (zs.getD 3 0)),(EI "table",At (zs.getD 4 0))]
def aaV(zs:List Int):(qg zs).length=5:=rfl
def adT(zs:List Int):(iJ [] (qg zs)).length<AJ:=by
 have:=nG (qg zs) [];rw[aaV,length_nil] at this;exact G2 this δ
def kne{a b:Str}(h:a≠b):¬(EI a:Key)=EI b:=λe=>h (EI.inj e)
def noE{M:Model}{t:Sem α}{Q1 Q2:α->AB->Prop}{z:AB}(q:AI M A t Q1 (λ_ _=>False) z)(f:∀a z,Q1 a z->Q2 a z):AI M A t Q2 E z:=BD q f λ_ _ z=>z.elim
def Vh(I:Inv X ac σ H s)(cn:X.env.scope.names=kX)(fre:∀y∈scope.names,y.2=.free->kX.lookup y.1=ID .cell\/kX.lookup y.1=ID .free) :
  ∃cl,FS scope X.env=pure cl/\(∀x c,cl.lookup x=ID c->X.env.cells.lookup x=ID c)/\(∀y∈scope.names,y.2=.free->∃c,cl.lookup y.1=ID c):=
 ad3 λy hy hf=>I.ok.has y.1 (by
  rcases fre y hy hf with q|q
  ·exact .inl (show X.env.scope.names.lookup y.1=_ by rw[cn];exact q)
  exact .inr (show X.env.scope.names.lookup y.1=_ by rw[cn];exact q))
def R4{H5:Hp}{s2 s6:AB}{D:IN}{ho:HO}(I2:Inv X ac σ H2 s2)(f2:∀b∈fp,mY X ac H2 b)(hD:s2.heap.objs.size=D)(hC:C=D+1)(os:s6.os=s2.os)(U:Un (frs X.stack) fp H2 H5 s2.heap s6.heap)(hk:HOk X.prog X.w H5 s6.heap)(bare:IL s6.gens)(nD:H5 D=IF)(nC:H5 C=IF)
  (sb:Cc C s6.heap h')(ob:bW X.prog X.w (upd H5 D ho) h' D ho):Inv X ac σ (upd H5 D ho) { s6 with heap:=h' }:=by
 have ne:∀b o,s2.heap.get? b=ID o->b≠C/\b≠D:=λb o q=>⟨na1 (A6 q) hD hC,na0 (A6 q) hD⟩;have dr:∀b o,b≠C->s6.heap.get? b=ID o->h'.get? b=ID o:=λb o hb q=>(sb.2 b hb).trans q;have U':Un (frs X.stack) fp H2 (upd H5 D ho) s2.heap h':=by
  refine⟨λb o q n1 hb hx=>dr b o (ne b o q).1 (U.keep b o q n1 hb hx),λb o q n1 hb hx=>?_,λb o q n1 hx=>?_,λb o q hx=>?_,λb xs q=>?_,λb o xs q=>?_,λb ps q=>?_⟩
  ·obtain⟨sl,z⟩:=U.slot b o q n1 hb hx;exact⟨sl,dr b _ (ne b o q).1 z⟩
  ·rw[aO (ne b o q).2];exact U.free b o q n1 hx
  ·obtain⟨o',z⟩:=U.there b o q hx;exact⟨o',dr b _ (ne b o q).1 z⟩
  ·have z:=U.tups b xs q;rw[aO (aH z nD)];exact z
  ·have z:=U.frzs b o xs q;rw[aO (aH z nD)];exact z
  obtain⟨dS,z⟩:=U.tbls b ps q;exact⟨dS,by rw[aO (aH z nD)];exact z⟩
 have hok:HOk X.prog X.w (upd H5 D ho) h':=λb u q=>by
  by_cases hb:b=D
  ·subst hb;rw[aB] at q;cases q;exact ob
  rw[aO hb] at q;refine(hk b u q).stay (λc v hcc z=>dr c v ?_ z) (λc z=>by rw[aO (aH z nD)];exact z) λc xs z=>by rw[aO (aH z nD)];exact z
  rcases hcc with z1|z1
  ·subst z1;exact aH q nC
  exact aH z1 nC
 exact I2.call' (s':={ s6 with heap:=h' }) (ch:=fp) os U' hok bare λb hb=>by
  obtain⟨_,a2,_,a4,a5,a6⟩:=f2 b hb;exact⟨a4,a2,a5,a6⟩
def zq(X:Cx)(ac:List (IN×Obj))(σ:St)(Q:VK)(use:Option (Ap->Sem Unit))(QQ:Ap->AB->Prop):Prop:=
 ∀(D C:IN)(s6:AB)(m6:Str->Option Ap)(H6:Hp),s6.heap.Ns C m6->(∀h',Cc C s6.heap h'->Inv X ac σ H6 { s6 with heap:=h' })->X.env.locals≠C->(∀y c,X.env.cells.lookup y=ID c->c≠C)->H6 C=IF->X.s₀.heap.objs.size<=C->(∀p∈X.pn++ac,p.1≠C)->Q (.ref D) H6->compPost (AN X.prog X.w) X.A X.xe use QQ (.ref D) C (.ok .next) s6
def zq.val{ac σ Q}:zq X ac σ Q IF (EP X ac σ Q):=λD _ _ m6 _ hn key _ _ _ _ _ q=>⟨m6,hn,λh' sb=>⟨.ref D,_,key h' sb,rfl,q⟩⟩
def zq.set{ac σ i}{x:Str}{nx:St->Hp->Prop}(hn:Nm X.N X.env.scope i x)(OP:X.N.Nodup)(hf:X.fn x=true\/X.env.scope.names.lookup x=ID .local):zq X ac σ (λv H1=>nx (σ.set i (ID v)) H1) (ID λv=>assignAll v [E3 (.Name x ba) X.env]) (λ_ s'=>∃τ H',Inv X ac τ H' s'/\nx τ H'):=λD C s6 m6 H6 rg key lC cC nC sC pC q9=>by
 show AI _ _ (E3 (.Name x ba) X.env (.ref D)) _ _ s6;refine wpAny_assign_Name (G8 (v:=.ref D) (key s6.heap (Cc.refl _ _)) OP hn.hN hn.hv Z (λs7 I8 ⟨a,sa,ha⟩=>?_) hf);have aC:a≠C:=by
  rcases ha with rfl|ha
  ·exact lC
  exact cC _ _ ha
 obtain⟨o6,es6,ep6,g1,g2,g3,g4⟩:=rg;exact⟨m6,⟨o6,es6,ep6,(sa.2 C (Co aC)).trans g1,g2,g3,g4⟩,λh' sb=>⟨_,_,I8.turned (it:=C) (t':=s7.toks) (λb o hb q=>(sb.2 b hb).trans q) nC (Co lC) (.inr sC) cC pC,q9⟩⟩
def aee(P:AO)(w:Bi)(o:Obj)(vs:List (Key×Ap)):Prop:=∃es ep,o.ExactDict/\o.data=Data.dict es ep/\PySem.KeysOf (cT P w) es/\Pairs (cT P w) es.toList vs/\(IB (λx=>x.fst) vs).Nodup
def aee.at{o:Obj}{vs:List (Key×Ap)}(d:aee P w o vs)(e:h.get? a=ID o):h.DictOf (cT P w) a vs:=by
 obtain⟨es,ep,r⟩:=d;exact⟨o,es,ep,e,r⟩
def aa0(hb:DH<h.objs.size):aee P w { cls:=.type "dict",data:=.dict #[] } []:=by
 obtain⟨_,_,vs,kv,o,es,ep,e,r⟩:=aa3 (P:=P) (w:=w) (H:=λ_=>IF) h hb;cases kv;have e2:(h.push { cls:=.type "dict",data:=.dict #[] }).get? h.objs.size=ID { cls:=.type "dict",data:=.dict #[] }:=AU _ rfl;rw[e2] at e;cases e;exact⟨es,ep,r⟩
section
variable{R:Result->AB->Prop}
theorem R0{kx vx tg iter:Expr}{br:List Expr}{scope:C8}{pos:Pos}{it:Ap}{D:IN}{env:Env}(J:Nat->AB->Prop)
   (bE:∀n s,J n s->AI (AN prog w) A (EJ it) (λr s1=>match r with
   | none=>R (.ok .next) s1
   | some v=>AI (AN prog w) A (DM tg it v) (λ_ gc=>AI (AN prog w) A (E3 tg env v) (λ_ s2=>
     AI (AN prog w) A (forIn br true λc r=>if r=true then do let ok <- isTrue c env (eval c env);pure (De ok) else pure (De r)) (λok s3=>
      if ok=true then AI (AN prog w) A (eval kx env) (λx s4=>AI (AN prog w) A (eval vx env) (λy s4'=>
       AI (AN prog w) A (dictSet D x y) (λ_ s5=>∃m,m<n/\J m s5) (EK (AN prog w) A env λe z=>R (.error e) z) s4') (EK (AN prog w) A env λe z=>R (.error e) z) s4) (EK (AN prog w) A env λe z=>R (.error e) z) s3
      else ∃m,m<n/\J m s3) (EK (AN prog w) A env λe z=>R (.error e) z) s2) (EK (AN prog w) A env λe z=>R (.error e) z) gc) (EK (AN prog w) A env λe z=>R (.error e) z) s1) (EK (AN prog w) A env λe z=>R (.error e) z) s)
  (n:Nat) (h:J n s):D5 (AN prog w) A (.compLoop (.DictComp kx vx [⟨tg,iter,br,0⟩] scope pos) 0 it (.ref D) env) R s:=by
 refine KB Z J (λn z hJ=>?_) n h;show AI _ A ((JP (.DictComp kx vx [⟨tg,iter,br,0⟩] scope pos) 0 it (.ref D) env).onRaise (λy=>do JU y env;HV y)) _ _ z;refine LB ?_;rw[compTurn_dict];refine An (C4 (An (BD (bE n z hJ) (λr s1 h1=>?_) λ_ _ q=>q)));cases r with
 | none=>exact Au h1
 | some v=>
  refine An (BD h1 (λ_ gc jp=>?_) λ_ _ q=>q);refine An (BD jp (λ_ s2 h2=>An (BD h2 (λok s3 h3=>?_) λ_ _ q=>q)) λ_ _ q=>q);cases ok with
  | false=>exact Au ⟨rfl,h3⟩
  | true=>
   exact An (An (BD h3 (λx s4 h4=>An (CB (BD h4 (λy s4' h4'=>An (C4 (CB (BD h4' (λ_ s5 h5=>Au ⟨rfl,h5⟩) λ_ _ q=>q)))) λ_ _ q=>q))) λ_ _ q=>q))
end
def kvQ(kx:V)(R:Key->Prop):Prop:=∃k,kx=kV k/\R k
def Yi(mp:List (Option Nat))(wi:TI)(g:TG)(tc:TT)(tk tv:TE):TE:=λσ H Q=>wi σ H λJ H1=>
 ∃W:Nat->Nat->List (Key×V)->St->Hp->Prop,(∃m,W 0 m [] (fO mp σ) H1)/\∀i m ae τ H2,W i m ae τ H2 ->
  (J.stop i H2/\∀d,H2 d=IF->Q (.ref d) (upd H2 d (.dK ae))) \/
  (J.go i H2/\ae.length<AJ/\∃N:List (Key×V)->St->Hp->Prop,(∀ah τ' H',N ah τ' H'->∃m',m'<m/\W (i+1) m' ah τ' H')/\∀x H3,J.yld i H2 x H3->g x τ H3 λτ1 H4=>tc τ1 H4 λb H5=>
   if b=true then tk τ1 H5 λkv H6=>tv τ1 H6 λv H7=>kvQ kv λk=>N (putK ae k v) τ1 H7 else N ae τ1 H5)
structure DKd(X:Cx)(α:Type) where
 e0:α
 len:α->Nat
 ho:α->HO
 K:α->Hp->Prop->Prop
 S:α->Hp->V->V->(α->Prop)->Prop
 DV:α->Obj->Prop
 nil:∀h:Heap,DH<h.objs.size->DV e0 { cls:=.type "dict",data:=.dict #[] }
 z:len e0=0
 out:∀{c H p},K c H p->p
 new:∀{c o H h D p},len c<=AJ->(D == DH)=false->DV c o->K c H p->H D=IF->h.get? D=ID o->bW X.prog X.w (upd H D (ho c)) h D (ho c)
 put:∀{c o H s D kv v uk u N Q E},DV c o->len c<AJ->S c H kv v N->RelV kv uk->RelV v u->HOk X.prog X.w H s.heap->s.heap.get? D=ID o ->
  (∀c' o' h' n,N c'->Cc D s.heap h'->h'.get? D=ID o'->DV c' o'->len c'<=len c+1->(∀v,o'.data≠.cell v)->Q () { s with heap:=h',toks:=s.toks+n })->AI (AN X.prog X.w) X.A (dictSet D uk u) Q E s
def agy{X:Cx}{α:Type}(K:DKd X α)(mp:List (Option Nat))(wi:TI)(g:TG)(tc:TT)(tk tv:TE):TE:=λσ H Q=>wi σ H λJ H1=>
 ∃W:Nat->Nat->α->St->Hp->Prop,(∃m,W 0 m K.e0 (fO mp σ) H1)/\∀i m ae τ H2,W i m ae τ H2->K.K ae H2 (
  (J.stop i H2/\∀d,H2 d=IF->Q (.ref d) (upd H2 d (K.ho ae))) \/
  (J.go i H2/\K.len ae<AJ/\∃N:α->St->Hp->Prop,(∀ah τ' H',N ah τ' H'->∃m',m'<m/\W (i+1) m' ah τ' H')/\∀x H3,J.yld i H2 x H3->g x τ H3 λτ1 H4=>tc τ1 H4 λb H5=>
   if b=true then tk τ1 H5 λkv H6=>tv τ1 H6 λv H7=>K.S ae H7 kv v λc=>N c τ1 H7 else N ae τ1 H5))
section
variable{N:List Str}
set_option maxHeartbeats 8000000 in
theorem Ua{α:Type}(K:DKd X α)(F:List (Option Nat)->TI->TG->TT->TE->TE->TE)(hF:F=agy K){tg iter kx vx:Expr}{br:List Expr}{pos ba ag:Pos}{wi:TI}{g:TG}{tc:TT}{tk tv:TE}{i:Nat}{x:Str}(N:List Str)(mp:List (Option Nat))(hn:Nm X.N X.env.scope i x)(OP:X.N.Nodup)(gT:X.N=NX)(cn:X.env.scope.names=kX)(S:Fy NX kX N mp scope)(hc:X.calm=true)
  (hi:QI X tg iter wi)(hg:∀cl C s H fp,QG (bH X N scope cl C s H fp) tg g)(ht:∀cl C s H fp,QC (bH X N scope cl C s H fp) br tc)(hek:∀cl C s H fp,QE (bH X N scope cl C s H fp) kx tk)(hev:∀cl C s H fp,QE (bH X N scope cl C s H fp) vx tv)
  (hf:X.fn x=true\/X.env.scope.names.lookup x=ID .local:=by exact .inl Z)
  (UK:HI [.Name x ba] (.DictComp kx vx [⟨tg,iter,br,0⟩] scope pos) ag.line X.env=pure true:=by rfl)
  (h1:(D8 [.Name x ba] X.env).map (·.2)=[E3 (.Name x ba) X.env]:=by rfl)
  (hs:∀x,Cb iter X.env x=pure x:=by intro _;rfl):QS X (.Assign [.Name x ba] (.DictComp kx vx [⟨tg,iter,br,0⟩] scope pos) ag) (z8 (F mp wi g tc tk tv) (lF i)):=by
 subst hF;refine⟨λac s σ H Dn I h=>?_⟩;rw[exec_Assign_arm];refine An (C4 ?_);rw[UK];refine An (Au ?_);rw[if_pos rfl,h1];replace h:agy K mp wi g tc tk tv σ H (λv H1=>Dn.nx (σ.set i (ID v)) H1):=h;obtain⟨cl,ft,aT,dv⟩:=Vh I cn S.fre;generalize hQ:(λ(v:V)(H1:Hp)=>Dn.nx (σ.set i (ID v)) H1)=Q at h
 let QQ:Ap->AB->Prop:=λ_ s'=>∃τ H',Inv X ac τ H' s'/\Dn.nx τ H'
 refine An (An (thn (Q:=QQ) (GB (e:=.DictComp kx vx [⟨tg,iter,br,0⟩] scope pos) (use:=ID λv=>assignAll v [E3 (.Name x ba) X.env]) Z hs ft S.kind S.locs ?_) λ_ s' ⟨τ,H',I',q'⟩=>Au (Au ⟨τ,H',I',q'⟩)));refine thn (hi.h ac s σ H _ I h) λv s1 h1=>thn h1 λyb s2 h2=>?_;obtain⟨it,fp,tn,J,H2,e,I2,T,eS,f2,W,⟨m0,w0⟩,bE⟩:=h2;subst e;refine BE (HR S.nocell (by intro y hy;simp at hy) (λh3 ef du=>?_) S.kind);dsimp only at ef du |-;have a8:∀b∈fp,b<s2.heap.objs.size:=λb hb=>by
  obtain⟨o,q,_⟩:=T.obj _ _ eS b hb;exact A6 q
 generalize hD:s2.heap.objs.size=D at ef du;generalize i9:s2.heap.push { cls:=.type "dict",dict:=IF,data:=.dict #[] }=P2 at ef du |-;have hC:P2.objs.size=D+1:=by rw[<- i9,CY,hD]
 generalize y8:P2.objs.size=C at ef du |-;rw[y8] at hC;have dq:∀b o,s2.heap.get? b=ID o->h3.get? b=ID o:=λb o q=>by
  have hb:=A6 q;exact du.extBut b o (na1 hb hD hC) (AE _ (i9 ▸ AE _ q))
 have g0:h3.get? D=ID { cls:=.type "dict",data:=.dict #[] }:=
  du.extBut _ _ (na2 hC) (AE _ (by rw[<- i9,<- hD];exact AU _ Z))
 have ie:D∉frs X.stack:=λz=>by
  rcases AX.mp (I2.oN D z) with q|q
  ·exact na0 I2.lt hD q.symm
  exact I2.Z7 (na4 hD) q
 have I0:Inv (bH X N scope cl C s2 H2 fp) [(D,{ cls:=.type "dict",data:=.dict #[] })] (fO mp σ) H2 { s2 with heap:=h3,toks:=s2.toks+([]:List (Str×Ap)).length }:=
  K4 (s':={ s2 with heap:=h3,toks:=s2.toks+([]:List (Str×Ap)).length }) gT cn S I2 f2 a8 (na3 hD hC) aT dv Z Z ⟨_,ef⟩ dq λp hp=>by
   have ep:=AL.mp hp;subst ep;exact⟨g0,I2.hok.fresh (na4 hD),na2 hC,ie,λv z=>by cases z⟩
 have UI:(D == DH)=false:=by
  have t1:@LT.lt Nat _ DH s2.heap.objs.size:=I2.big;have t2:@Eq Nat s2.heap.objs.size D:=hD;exact beq_false_of_ne (by intro(z:@Eq Nat _ _);omega)
 have T0:tn 0 h3:=T.keep _ _ _ eS λb _ o q=>dq b o q;have fo:∀z:AB,z={ s2 with heap:=h3,toks:=s2.toks+([]:List (Str×Ap)).length } ->
   D5 (AN X.prog X.w) X.A (.compLoop (.DictComp kx vx [⟨tg,iter,br,0⟩] scope pos) 0 (.ref it) (.ref D) (Fa scope cl C X.env))
    (compPost (AN X.prog X.w) X.A X.xe (ID λv=>assignAll v [E3 (.Name x ba) X.env]) QQ (.ref D) C) z:=by
  rintro z rfl;have cm:∀{H':Hp}{pl:List (IN×Obj)},(∀b∈fp,H' b=IF)->(∀p∈pl,p.1=D)->∀b∈fp,mY (bH X N scope cl C s2 H2 fp) pl H' b:=λhn hp b hb=>by
   have nE:=a8 b hb;refine⟨hn b hb,na1 nE hD hC,(K3 cn S I2 f2 a8 (na3 hD hC) aT dv).exfs b hb,.inl hb,λx c q=>(f2 b hb).2.2.2.2.1 x c (aT x c q),λp hpp=>?_⟩;have wb:=hp p (by simpa [bH] using hpp);rw[wb];exact(na0 nE hD).symm
  refine R0 (env:=Fa scope cl C X.env) (λn z=>∃i ae τ H' o,Inv (bH X N scope cl C s2 H2 fp) [(D,o)] τ H' z/\K.DV ae o/\tn i z.heap/\(∀b∈fp,H' b=IF)/\K.len ae<=AJ/\W i n ae τ H')
   ?_ m0 ⟨0,K.e0,_,H2,_,I0,K.nil _ I2.big,T0,λb hb=>(f2 b hb).1,K.z ▸ DC _,w0⟩
  rintro n s5 ⟨i,ae,τ,H5,ob,I5,xF,st5,kA,hz,w5⟩;have t5:=bE i n ae τ H5 w5;rcases K.out t5 with⟨stop,qn⟩|⟨go,dC,N9,pf,step⟩
  ·refine thn (T.done (bH X N scope cl C s2 H2 fp) Z Z Z hc i _ s5 τ H5 _ I5 (cm kA ζ) st5 stop) λr s6 ⟨hr,I6⟩=>?_;subst hr;obtain⟨m6,rg,_⟩:=I6.loc;obtain⟨dD,nD,_,_,_⟩:=I6.pin (D,_) (AR _ (AL.mpr Z));have nC:H5 C=IF:=I6.free;refine zq.set (nx:=Dn.nx) hn OP hf D C s6 m6 (upd H5 D (K.ho ae)) rg (λh' sb=>R4 I2 f2 hD hC I6.os I6.base I6.hok I6.bare nD nC sb (K.new hz UI xF t5 nD ((sb.2 D (na2 hC)).trans dD))) (na1 I2.lt hD hC) (λy c z=>?_) (by rw[aO (Co (na2 hC))];exact nC) (BU I2.sz (na3 hD hC)) (λp hp=>na1 (A6 (I2.pin p hp).1) hD hC) (by have q9:=qn D nD;rw[<- hQ] at q9;exact q9);obtain⟨_,o,h1,_⟩:=I2.cell y c z;exact na1 (A6 h1) hD hC
  refine thn (T.item (bH X N scope cl C s2 H2 fp) Z Z Z hc i _ s5 τ H5 _ I5 (cm kA ζ) st5 go) λr s6 ⟨u,hr,h6⟩=>?_;subst hr;refine thn h6 λ_ s7 ⟨x,H7,I7,r7,y7,iN,xb⟩=>?_;have I7':=I7.pinned (cm xb ζ) (T.obj _ _ iN);refine noE ((hg cl C s2 H2 fp).h _ s7 τ H7 x u _ I7' r7 (step x H7 y7)) λ_ s8 ⟨τ1,H8,I8,q8⟩=>?_;refine noE ((ht cl C s2 H2 fp).h _ s8 τ1 H8 _ I8 q8) λok s9 ⟨H9,I9,q9⟩=>?_;have HP:∀{H':Hp}{z:AB}{o':Obj},Inv (bH X N scope cl C s2 H2 fp) ([(D,o')]++gO fp s7.heap) τ1 H' z ->
    tn (i+1) z.heap/\(∀b∈fp,H' b=IF)/\Inv (bH X N scope cl C s2 H2 fp) [(D,o')] τ1 H' z:=λ{H' z o'} Iz=>by
   have get:∀b∈fp,∀o,s7.heap.get? b=ID o->z.heap.get? b=ID o/\H' b=IF:=λb hb o q=>by
    obtain⟨a1,a2,_⟩:=Iz.pin (b,o) (AR _ (AR _ (ju hb q)));exact⟨a1,a2⟩
   refine⟨T.keep _ _ _ iN λb hb o q=>(get b hb o q).1,λb hb=>?_,Iz.lq⟩;obtain⟨o,q,_⟩:=T.obj _ _ iN b hb;exact(get b hb o q).2
  cases ok with
  | false=>
   rw[if_neg A8] at q9 |-;obtain⟨m',hm,w9⟩:=pf _ _ _ q9;obtain⟨a1,a2,a3⟩:=HP I9;exact⟨m',hm,i+1,ae,τ1,H9,ob,a3,xF,a1,a2,hz,w9⟩
  | true=>
   rw[if_pos rfl] at q9 |-;refine noE ((hek cl C s2 H2 fp).h _ s9 τ1 H9 _ I9 q9) λuk dA ⟨xk,H10,I10,rk,Na⟩=>?_;refine noE ((hev cl C s2 H2 fp).h _ dA τ1 H10 _ I10 Na) λy eD ⟨v,H11,I11,rv,q11⟩=>?_;obtain⟨a1,a2,a3⟩:=HP I11;obtain⟨dD,nD,_,_,_⟩:=a3.pin (D,_) (AR _ (AL.mpr Z));refine K.put xF dC q11 rk rv I11.hok dD λc' o' h' n zD sb g1 g2 gl g3=>?_;obtain⟨m',hm,zD⟩:=pf _ _ _ zD;have a4:Inv (bH X N scope cl C s2 H2 fp) (gO fp s7.heap) τ1 H11 eD:=I11.kJ λp hp=>I11.pin p (AR _ (AR _ hp));have a5:Inv (bH X N scope cl C s2 H2 fp) (gO fp s7.heap) τ1 H11 { eD with heap:=h',toks:=eD.toks+n }:=
    a4.turned (it:=D) (λb o hb z=>(sb.2 b hb).trans z) nD (na2 hC) (.inr (na4 hD))
     (λx c z=>by
      obtain⟨_,o,h1,_⟩:=I2.cell x c (aT x c z);exact na0 (A6 h1) hD) λp hp=>by
      have hb:=(nT (by simpa [bH] using hp)).1;exact na0 (a8 _ hb) hD
   have b1:tn (i+1) h':=T.keep _ _ _ a1 λb hb o z=>(sb.2 b (na0 (a8 b hb) hD)).trans z;refine⟨m',hm,i+1,c',τ1,H11,o',a5.kJ λp hp=>?_,g2,b1,a2,ω,zD⟩;have ep:=AL.mp hp;subst ep;exact⟨g1,nD,na2 hC,ie,g3⟩
 have e1:{ newEnv scope C X.env.globals cl X.env.qual IF .none (ID X.env) X.env.builtins with scope:=relabel scope X.env }=Fa scope cl C X.env:=rfl;exact codeAny_compStart_dict (fo _ Z) (T.self _ 0 _ _ _ T0 (fo _ Z))
def kD(X:Cx):DKd X (List (Key×V)) where
 e0:=[]
 len:=List.length
 ho:=.dK
 K _ _ p:=p
 S ae _ kv v N:=kvQ kv λk=>N (putK ae k v)
 DV ae o:=∃vs,aee X.prog X.w o vs/\KV ae vs
 nil _ h:=⟨[],aa0 h,.nil⟩
 z:=rfl
 out h:=h
 new:=λhz hs ⟨_,d,va⟩ _ _ e=>aa2 hz hs va (d.at e)
 put:=by
  rintro c o H s D kv v uk u N Q E ⟨vs,d,va⟩ hz ⟨k,ek,n⟩ rk rv-e h;subst ek;refine wpAny_dictSet_pairs (knd:=cT X.prog X.w) (UW rk) (d.at e) (λh' dd sb=>?_) (by rw[<- va.length];omega);obtain⟨o',dt,pj,g1,g2⟩:=dd;have:=jD c k v;exact h _ o' h' 1 n sb g1 ⟨_,⟨dt,pj,g2⟩,va.put k rv⟩ ω λv z=>by rw[g2.2.1] at z;cases z
def acq:=@Ua X NX kX scope _ (kD X) Yi rfl
end
def zsQ(K:AA)(vs:List V)(H:Hp)(R:It->Hp->Prop):Prop:=∃a b xs ys,vs=[.ref a,.ref b]/\SqT K H a xs/\SqT K H b ys/\R (Itu K a b) H
def aaH(K:AA)(ta:TA):TI:=λσ H R=>ta σ H λvs H1=>zsQ K vs H1 R
def aaG(K:AA)(ta:TA)(σ:St)(H:Hp)(R:It->Hp->Prop):aaH K ta σ H R=ta σ H λvs H1=>zsQ K vs H1 R:=rfl
def acr{a b:Expr}{t:TA}{p:Pos}(hg:Gl X "zip")(hm:X.mg "zip" = IF)(ha:QA X [a,b] t)(hs:AH [a,b] X.env=[(false,eval a X.env),(false,eval b X.env)]:=by rfl)(eK:AH [b] X.env=[(false,eval b X.env)]:=by rfl):QI X (.Tuple es kk dQ) (.Call (.Name "zip" p) [a,b] [] pos) (aaH X.K t):=⟨by
 intro ac s σ H R I h;refine Call_ (iM I hg hm boot_zip (BI (thA (ha.h pos ac s σ H _ I h) λus s1 vs H1 I1 r1 q1=>?_) (by rw[hs,eK]) (by rw[eK];rfl)));obtain⟨l1,l2,xs,ys,rfl,e1,e2,q⟩:=q1;cases r1 with
 | cons r rr=>
  cases rr with
  | cons r' rr=>
   cases rr;cases r;cases r';have apart:l1<s1.heap.objs.size->l2<s1.heap.objs.size->JY (s1.heap.objs.size+4) (s1.heap.objs.size+2) (s1.heap.objs.size+3) s1.heap.objs.size (s1.heap.objs.size+1) l1 l2:=by
    generalize s1.heap.objs.size=n;intro qD qB;have TM:@LT.lt Nat _ l1 n:=qD;have TL:@LT.lt Nat _ l2 n:=qB;constructor <;> (intro(z:@Eq Nat _ _);omega)
   have fp:∀b∈[s1.heap.objs.size+4,s1.heap.objs.size+2,s1.heap.objs.size+3,s1.heap.objs.size,s1.heap.objs.size+1],mY X ac H1 b:=λb hb=>by
    have cf:s1.heap.objs.size<=b:=by
     simp only[AX,BB,or_false] at hb;rcases hb with rfl|rfl|rfl|rfl|rfl <;> simp
    exact I1.GP cf (I1.hok.fresh cf)
   obtain⟨bg,ge,p1,eW⟩:=I1.tuple e1;obtain⟨a9,oy,p2,dC⟩:=I1.tuple e2;have qD:l1<s1.heap.objs.size:=by obtain⟨_,e,_⟩:=p1;exact A6 e
   have qB:l2<s1.heap.objs.size:=by obtain⟨_,e,_⟩:=p2;exact A6 e
   refine zW p1 p2 λh' b1 b2 b3 b4 b5 b6 hk=>?_;refine HE (s:={ s1 with heap:=h' }) b1 ?_;exact⟨_,_,_,_,H1,rfl,I1.kept (t':=s1.toks) hk,G5 (apart qD qB),⟨b1,b2,⟨_,_,b3⟩,b4,b5⟩,fp,q⟩⟩
def SqT.same(h:SqT K H a xs)(s:Same H H'):SqT K H' a xs:=by
 rcases h with h|h
 ·rcases h with h|⟨o,h⟩
  ·exact .inl (.inl (s _ _ h))
  exact .inl (.inr ⟨o,s _ _ h⟩)
 exact .inr h
def aes(mp:List (Option Nat))(g:TG)(tc:TT)(tk tv:TE)(σ:St)(Q:VK)(J:It)(H1:Hp):Prop:=
 ∃W:Nat->Nat->List (Key×V)->St->Hp->Prop,(∃m,W 0 m [] (fO mp σ) H1)/\∀i m ae τ H2,W i m ae τ H2 ->
  (J.stop i H2/\∀d,H2 d=IF->Q (.ref d) (upd H2 d (.dK ae))) \/
  (J.go i H2/\ae.length<AJ/\∃N:List (Key×V)->St->Hp->Prop,(∀ah τ' H',N ah τ' H'->∃m',m'<m/\W (i+1) m' ah τ' H')/\∀x H3,J.yld i H2 x H3->g x τ H3 λτ1 H4=>tc τ1 H4 λb H5=>
   if b=true then tk τ1 H5 λkv H6=>tv τ1 H6 λv H7=>kvQ kv λk=>N (putK ae k v) τ1 H7 else N ae τ1 H5)
def ad0{tk:TE}{Q:VK}(h:∀R:It->Hp->Prop,R=aes mp g tc tk tv σ Q->wi σ H R):Yi mp wi g tc tk tv σ H Q:=h _ rfl
def Rr(kvs:List (Key×V))(kv:Key×V):iJ [] (kvs++[kv])=putK (iJ [] kvs) kv.1 kv.2:=by
 unfold iJ;rw[List.foldl_append];rfl
theorem adZ{K:AA}{mp:List (Option Nat)}{g:TG}{tc:TT}{tk tv:TE}{σ:St}{H:Hp}{Q:VK}{R:It->Hp->Prop}{a b:IN}{ys:List V}{kvs:List (Key×V)}(kK:St->Prop)(hR:R=aes mp g tc tk tv σ Q)(ea:SqT K H a (kvs.map λkv=>kV kv.1))(eb:SqT K H b ys)(hl:kvs.length<=ys.length)(hz:kvs.length<=15)(h0:kK (fO mp σ))
   (hs:∀(i:Nat) kv y τ H' p (Nx:List (Key×V)->St->Hp->Prop),kvs[i]?=ID kv->ys[i]?=ID y->Same H H'->kK τ->H' p=IF->(∀τ1 H1,Same H H1->kK τ1->Nx (putK (iJ [] (kvs.take i)) kv.1 kv.2) τ1 H1) ->
   g (.ref p) τ (upd H' p (.tup [kV kv.1,y])) λτ1 H4=>tc τ1 H4 λbb H5=>if bb=true then tk τ1 H5 λkx H6=>tv τ1 H6 λv H7=>kvQ kx λk=>Nx (putK (iJ [] (kvs.take i)) k v) τ1 H7 else Nx (iJ [] (kvs.take i)) τ1 H5)
  (hd:∀d H',Same H H'->H' d=IF->Q (.ref d) (upd H' d (.dK (iJ [] kvs)))):R (Itu K a b) H:=by
 rw[hR];refine⟨λi m ae τ H'=>m+i=kvs.length/\Same H H'/\kK τ/\ae=iJ [] (kvs.take i),⟨kvs.length,ω,Same.refl _,h0,rfl⟩,?_⟩;rintro i m ae τ H2 ⟨hm,s2,ot,rfl⟩;cases m with
 | zero=>
  refine .inl ⟨⟨_,ys,ea.same s2,eb.same s2,.inl (B4 (by rw[AG];omega))⟩,λd gI=>?_⟩;rw[EZ ω];exact hd d H2 s2 gI
 | succ m=>
  have hi:i<kvs.length:=ω;have hy:i<ys.length:=ω;have hk:kvs[i]?=ID kvs[i]:=AC hi;have hx:(kvs.map λkv=>kV kv.1)[i]?=ID (kV kvs[i].1):=by rw[AM,hk];rfl
  refine .inr ⟨⟨_,ys,_,_,ea.same s2,eb.same s2,hx,AC hy⟩,?_,λah τ' H'=>ah=iJ [] (kvs.take (i+1))/\Same H H'/\kK τ',λah τ' H' ⟨e,s',o'⟩=>⟨m,ω,ω,s',o',e⟩,?_⟩
  ·have:=nG (kvs.take i) [];rw[length_nil] at this;have h2:(kvs.take i).length<=15:=by rw[EN];omega
   exact G2 (by omega:_<=15) δ
  rintro x H3 ⟨p,x1,y1,rfl,hp,rfl,g1,g2⟩;have e1:=g1 _ (ea.same s2);rw[hx] at e1;cases e1;have e2:=g2 _ (eb.same s2);refine hs i kvs[i] y1 τ H2 p (λah τ' H'=>ah=iJ [] (kvs.take (i+1))/\Same H H'/\kK τ') hk e2 s2 ot hp λτ1 H1 s1 o1=>⟨?_,s1,o1⟩;rw[take_add_one,hk];exact(Rr _ _).symm
def Ez(zs:List Int)(t:Int):List (Key×V):=putK (iJ [] (qg (zs.map (· * t)))) (EI "pick") (At 0)
theorem adU{zs:List Int}{i:Nat}{kv:Key×V}(h:(qg zs)[i]?=ID kv):kv.2=At (zs.getD i 0):=by
 match i,h with
 | 0,h=>cases h;rfl
 | 1,h=>cases h;rfl
 | 2,h=>cases h;rfl
 | 3,h=>cases h;rfl
 | 4,h=>cases h;rfl
 | n+5,h=>simp[qg] at h
theorem N7(zs:List Int)(t:Int)(i:Nat):(zs.map (· * t)).getD i 0=zs.getD i 0*t:=by
 rw[AV,AV,AM];cases zs[i]? with
 | none=>simp
 | some z=>rfl
def Tt:Sp:=λvs H Q _=>∃(l:V)(wa z:IN)(ok:IN->Prop)(ws zs:List Int)(left:List Nat),vs=[.ref wa,.ref z,l]/\aJ ok H l (Ij left)/\(∀k∈left,k<ws.length)/\H wa=ID (.lst (ws.map At))/\H z=ID (.tup (zs.map At))/\zs.length=5/\Few zs /\
 ∀p H',Same H H'->H' p=ID (.dK (Ez zs (sumK ws left)))->Q (.ref p) H'
theorem abd(ws zs:List Int)(left:List Nat)(p:Pl):iT (Ez zs (sumK ws left)) (EI (BV p))=ID (At (mO ws zs left p)):=by
 unfold Ez iJ qg;simp only[List.foldl_cons,List.foldl_nil,qO,XH,N7];cases p with
 | pick l=>
  rw[show BV (.pick l)=("pick" : Str) from rfl];rw[if_pos rfl];rfl
 | one k r=>
  rw[show BV (.one k r)=("is" : Str) from rfl];rw[if_neg (kne (a := "is") (b := "pick") ψ),if_neg (kne (a := "is") (b := "table") ψ),if_neg (kne (a := "is") (b := "mask") ψ),if_neg (kne (a := "is") (b := "below") ψ),if_neg (kne (a := "is") (b := "within") ψ),if_pos rfl];rfl
 | wit k r=>
  rw[show BV (.wit k r)=("within" : Str) from rfl];rw[if_neg (kne (a := "within") (b := "pick") ψ),if_neg (kne (a := "within") (b := "table") ψ),if_neg (kne (a := "within") (b := "mask") ψ),if_neg (kne (a := "within") (b := "below") ψ),if_pos rfl];rfl
 | low k a b=>
  rw[show BV (.low k a b)=("below" : Str) from rfl];rw[if_neg (kne (a := "below") (b := "pick") ψ),if_neg (kne (a := "below") (b := "table") ψ),if_neg (kne (a := "below") (b := "mask") ψ),if_pos rfl];rfl
 | msk l r=>
  rw[show BV (.msk l r)=("mask" : Str) from rfl];rw[if_neg (kne (a := "mask") (b := "pick") ψ),if_neg (kne (a := "mask") (b := "table") ψ),if_pos rfl];rfl
 | tab=>
  rw[show BV .tab=("table" : Str) from rfl];rw[if_neg (kne (a := "table") (b := "pick") ψ),if_pos rfl];rfl
def pk(c:Int×Int):List Int:=[c.1,c.2]
def slc(ws:List Int)(i j:Nat):List Int:=(ws.drop i).take (j-i)
inductive Tr:List Int->Int->Prop
 | leaf (w:Int):Tr [w] 0
 | node {a b:List Int} {x y:Int}:Tr a x->Tr b y->Tr (a++b) ((a++b).sum+(x+y))
inductive PTr (ss:Sts)(ws:List Int):Nat->Nat->Pl->Int->Prop
 | leaf {i:Nat}:i<ss.length->PTr ss ws i (i+1) (.pick (fZ ss i).2.2) 0
 | node {i k j:Nat} {a b:Pl} {x y:Int}:i<k->k<j->PTr ss ws i k a x->PTr ss ws k j b y->PTr ss ws i j (.low k a b) ((slc ws i j).sum+(x+y))
def KQ(ws:List Int)(i j:Nat)(h1:i<=j)(h2:j<=ws.length):mX (ws.map At) (ID (i:Int)) (ID (j:Int))=(slc ws i j).map At:=by
 unfold mX slc;have e1:HT.sIx (ws.map At).length 0 (ID (i:Int))=i:=by
  rw[AG];simp only[HT.sIx];split <;> omega
 have e2:HT.sIx (ws.map At).length (ws.map At).length (ID (j:Int))=j:=by
  rw[AG];simp only[HT.sIx];split <;> omega
 rw[e1,e2,map_take,map_drop]
def Zq:QE X (.Dict [] [] pos) Yh:=⟨λac s σ H Q I h=>
 wpAny_Dict_empty ⟨.ref s.heap.objs.size,_,I.laid (a:=s.heap.objs.size) (o:=.dT []) (t':=s.toks) (λ_ _ q=>AE _ q) (A3 _) (Ot s.heap I.big),rfl,h _ (I.hok.fresh (A3 _))⟩⟩
def key2(a b:Int):List Key:=[HZ a,HZ b]
def aaz{a b c d:Int}(h:key2 a b=key2 c d):a=c/\b=d:=by
 unfold key2 at h;simp only[List.cons.injEq,HZ.injEq,and_true] at h;exact h
def qt.k2{t:IN}{x y:Int}(e:H a=ID (.dT kvs))(eb:H t=ID (.tup [At x,At y]))(hv:iT kvs (key2 x y)=ID v):qt H a (.ref t) (ID v):=by
 have:=qt.t (k:=key2 x y) e eb;rwa [hv] at this
def yp.k2{t:IN}{x y:Int}(e:H a=ID (.dT kvs))(eb:H t=ID (.tup [At x,At y]))(hl:kvs.length<AJ):yp H a (.ref t) v (upd H a (.dT (putK kvs (key2 x y) v))):=yp.t (k:=key2 x y) e eb hl
def wH(h:n<=1000000):n<AJ:=G2 h δ
def Mq{H3:Hp}{bd:IN}(s:Same H H3)(hb:H bd=IF):Same H (upd H3 bd o):=λb u e=>by
 rw[aO (aH e hb)];exact s b u e
open PySem.W (Frag clsIn findIn takerIn InstAt looks_clsIn looks_findIn looks_takesIn Looks check_slot looks_mroIn mroIn set_plain osa_eq)
open Builtin Builtin.ObjectAttr
def vbm:List Ap:=[.type "ValueError",.type "Exception",.type "BaseException",.type "object"]
open PySem.W (Frag clsIn findIn takerIn InstAt looks_clsIn looks_findIn looks_takesIn Looks check_slot looks_mroIn mroIn handedIn handedOut_of)
structure XCls(K:AA)(C D N fI:IN):Prop where
 obj:∃nm q bs sn sub ab col dd k0 k1 k2 k3 k5,K.lookup C=ID (excClassObj nm q C N bs (.ref D::vbm) true sn sub ab col dd k0 k1 k2 k3 k5 "ValueError.__new__")
 tail:PySem.W.tailIn K vbm (.ref D::vbm)=true
 nsok:PySem.W.nsOkIn K N=true
 init:nsIn K N "__init__" = ID (ID (.ref fI))
 set:Iy K (.ref C) "__setattr__" = ID (ID (.builtin "object.__setattr__"))
 ga:Iy K (.ref C) "__getattribute__" = ID (ID (.builtin "BaseException.__getattribute__"))
 gk:Iy K (.ref C) "__getattr__" = ID IF
open PySem.W (Frag clsIn findIn takerIn InstAt looks_clsIn looks_findIn looks_takesIn looks_specialIn specialIn takesIn Looks check_slot looks_mroIn mroIn handedIn handedOut_of class_get KitX)
open Builtin
mutual
def noL:AF->Bool
 | .list _=>false
 | .tuple ds=>ag7 ds
 | _=>true
def ag7:List AF->Bool
 | []=>true
 | d::ds=>noL d&&ag7 ds
end
theorem yu{ok:IN->Prop}{H:Hp}:∀gs:List Int,aF ok H (gs.map At) (gs.map AF.int)
 | []=>.nil
 | g::gs=>.cons (.int g) (yu gs)
def af3:Pl->Bool
 | .pick _=>true
 | .tab=>true
 | _=>false
def ahi(ss:Sts)(C:List (List Nat×Pl)):List (List Nat×Pl):=(C.map λx=>yw ss x.2 x.1).flatten
def aav(S:List (List Nat×Pl)):Nat->Bool
 | 0=>false
 | i+1=>match S[i]? with
  | some x=>af3 x.2
  | none=>false
structure AhSt(ss:Sts)(S:List (List Nat×Pl))(lb:List (Nat×Nat))(i:Nat)(C:List (List Nat×Pl))(T:List Nat)(done:List (Nat×Nat)):Prop where
 fl:S.drop i=ahi ss C
 no:aav S i=false->T.length+1=C.length/\lb=done++agf (C.map (·.2)) T i
 yes:aav S i=true->T.length=C.length/\((C=[]/\lb=done)\/∃t T',T=t::T'/\lb=done++(t,i)::agf (C.map (·.2)) T' i)
theorem aJ.P0{ok:IN->Prop}{H:Hp}{x:V}{ds:List AF}(t:aJ ok H x (.tuple ds)):∃p xs,x=.ref p/\H p=ID (.tup xs)/\aF ok H xs ds:=by
 cases t with
 | tup o e z ts=>exact⟨_,_,rfl,e,ts⟩
def Yq:Sp:=λvs H Q _=>∃(s l:V)(ok:IN->Prop)(ss:Sts)(left:List Nat),vs=[s,l]/\aJ ok H s (.list (ss.map stD))/\aJ ok H l (Ij left)/\Lf ss left /\
 ∀(a:IN),H a=IF->Q (.ref a) (upd H a (.lst ((left.map (lbl ss)).map At)))
def Qj:Sp:=λvs H Q _=>∃(p:IN)(m B:Int),vs=[.ref p,.int m]/\aP H p B/\0<=B/\B<=900000/\1<=m/\m<=60 /\
 ∀(l:IN)(ss:Sts) H',aR p H H'->aP H' p (B+2000)->aJ (·≠p) H' (.ref l) (.list (ss.map stD))->(ss.length:Int)=m->Py ss->(∀s,ss[0]?=ID s->s.1<=10^9)->Q (.ref l) H'
def qt.k'{kvs:List (Key×V)}{k:Key}(e:H a=ID (.dK kvs))(hv:iT kvs k=ID v):qt H a (kV k) (ID v):=by
 rw[<- hv];exact qt.k e
theorem ln1{α:Type}{us:List α}(h:us.length=1):∃a,us=[a]:=by
 cases us with
 | nil=>cases h
 | cons a r=>
  cases r with
  | nil=>exact⟨a,rfl⟩
  | cons b r=>cases h
theorem ln2{α:Type}{us:List α}(h:us.length=2):∃a0 a1,us=[a0,a1]:=by
 cases us with
 | nil=>cases h
 | cons a0 r=>
  obtain⟨a1,rfl⟩:=ln1 (Nat.succ.inj h);exact⟨a0,a1,rfl⟩
theorem ln3{α:Type}{us:List α}(h:us.length=3):∃a0 a1 a2,us=[a0,a1,a2]:=by
 cases us with
 | nil=>cases h
 | cons a0 r=>
  obtain⟨a1,a2,rfl⟩:=ln2 (Nat.succ.inj h);exact⟨a0,a1,a2,rfl⟩
theorem ln4{α:Type}{us:List α}(h:us.length=4):∃a0 a1 a2 a3,us=[a0,a1,a2,a3]:=by
 cases us with
 | nil=>cases h
 | cons a0 r=>
  obtain⟨a1,a2,a3,rfl⟩:=ln3 (Nat.succ.inj h);exact⟨a0,a1,a2,a3,rfl⟩
theorem ln5{α:Type}{us:List α}(h:us.length=5):∃a0 a1 a2 a3 a4,us=[a0,a1,a2,a3,a4]:=by
 cases us with
 | nil=>cases h
 | cons a0 r=>
  obtain⟨a1,a2,a3,a4,rfl⟩:=ln4 (Nat.succ.inj h);exact⟨a0,a1,a2,a3,a4,rfl⟩
def tV(i:Nat):TE:=λσ H Q=>match σ[i]? with
 | some (ID x)=>Q x H
 | _=>False
def aeh{Q:VK}(h:tV i σ H Q):Qd i σ H Q:=by
 unfold tV at h;split at h
 ·rename_i x e;exact⟨x,e,h⟩
 exact h.elim
section
variable{x:Str}
def ao(h:Nm X.N X.env.scope i x):QE X (.Name x pos) (tV i):=⟨λac s σ H Q I q=>(ahB h).h ac s σ H Q I (aeh q)⟩
def bh(i:Nat){x:Str}(hN:X.N[i]?=ID x:=by rfl)(hv:Vis X.env.scope x:=by first|exact C3 rfl|exact Or.inr (C3 Z)|exact Or.inr (Or.inr Z))(hd:(x == ("__debug__" : Str))=false:=by decide)
  (hcd:(x == ("__classdict__" : Str))=false:=by decide):QE X (.Name x pos) (tV i):=⟨λac s σ H Q I q=>(ahA i hN hv hd hcd).h ac s σ H Q I (aeh q)⟩
end
def atq(o:Option V)(H:Hp)(Q:VK):Prop:=∃v,o=ID v/\Q v H
def abu(v:V)(H:Hp)(Q:VK):atq (ID v) H Q=Q v H:=propext ⟨λ⟨_,e,h⟩=>by cases e;exact h,λh=>⟨v,rfl,h⟩⟩
def aaC(xs:List V)(i:Int)(H:Hp)(Q:VK):ixq (ID (.lst xs)) i H Q=atq (atI xs i) H Q:=rfl
def aaB(xs:List V)(i:Int)(H:Hp)(Q:VK):ixq (ID (.tup xs)) i H Q=atq (atI xs i) H Q:=rfl
def agh{b:Bool}{P:Bool->Prop}:(∃k,As b=As k/\P k)=P b:=propext ⟨λ⟨_,e,h⟩=>by cases e;exact h,λh=>⟨b,rfl,h⟩⟩
def adX{a:Int}{P:Int->Prop}:(∃k,At a=At k/\P k)=P a:=propext ⟨λ⟨_,e,h⟩=>by cases e;exact h,λh=>⟨a,rfl,h⟩⟩
def adW{a b:Int}{P:Int->Int->Prop}:(∃i j,At a=At i/\At b=At j/\P i j)=P a b:=propext ⟨λ⟨_,_,e,f,h⟩=>by cases e;cases f;exact h,λh=>⟨a,b,rfl,rfl,h⟩⟩
def adV{a b:V}{P:V->V->Prop}:(∃i j,[a,b]=[i,j]/\P i j)=P a b:=propext ⟨λ⟨_,_,e,h⟩=>by cases e;exact h,λh=>⟨a,b,rfl,h⟩⟩
def ry0:=AD @Vz.eq_1 (AD @VB.eq_1 (AD @zy.eq_1 (AD @tOp.eq_1 (AD @rI.eq_1 (AD @rI0.eq_1 (AD @rU.eq_1 (AD @tUn.eq_1 (AD @tC.eq_1 (AD @Qf.eq_1 (AD @Lr.eq_1 (AD @uJ.eq_1 (AD @jX.eq_1 (AD @wD.eq_1 (AD @tCB.eq_1 (AD @tIf.eq_1 (AD @X8.eq_1 (AD @tB.eq_1 (AD @tOr.eq_1 (AD @Yk.eq_1 (AD @aeE.eq_1 (AD @X7.eq_1 (AD @Ls.eq_1 (AD @Qe.eq_1 (AD @z8.eq_1 (AD @lF.eq_1 (AD @aaP.eq_1 (AD @WW (AD @adO (AD @MF (AD @Y7 (AD @Y9 (AD @acp (AD @Vy.eq_1 (AD @adR @agc))))))))))))))))))))))))))))))))))
def ry1:=AD @qY (AD @V2 (AD @V3 (AD @ace (AD @aaC (AD @aaB (AD @abS (AD @adz (AD @ady (AD aaD.1 (AD aaD.2.1 (AD aaD.2.2 (AD @aho (AD @ahn (AD @ahm (AD @aB (AD @Zf (AD @Zd (AD @af7 (AD @adD (AD @aaA (AD @afX (AD @afW (AD @kc_bool (AD @ty_int (AD @agx (AD @ty_str (AD @aeA (AD @aez (AD @abN (AD @abM (AD @yG (AD @Af (AD @Ae (AD @yF (AD @wQ (AD @JM (AD @Ml @Mj)))))))))))))))))))))))))))))))))))))
def ry2:=AD @JL (AD @Gd (AD @Mi (AD @Qq (AD @Qp (AD @Mh (AD @JK (AD @Mf (AD @Qo (AD @Qn (AD @Ma (AD @JF (AD @JH (AD @Mg (AD @JG (AD @Gb (AD @Ga (AD @JD (AD @FZ (AD @Cr (AD @Bool.or_false (AD @Bool.or_self (AD @Bool.or_true (AD @Mk (AD @LJ (AD @Me (AD @decide_true (AD @Lw.eq_1 (AD @rEq.eq_1 (AD @rNe.eq_1 @aco)))))))))))))))))))))))))))))
def ry3:=AD @T9 (AD @aeY (AD @aeZ (AD @aeX (AD @V1 (AD @abW (AD @Yc.eq_1 (AD @aeD.eq_1 (AD @Yy (AD @ab1 (AD @Yx (AD @Xz.eq_1 (AD @agv.eq_1 (AD @aev.eq_1 (AD @L2.start.eq_1 (AD @DE.{0,0} (AD @map_nil.{0,0} (AD @B0.{0} (AD @length_nil.{0} (AD @LG.{0} (AD @nil_append.{0} (AD @GY.{0} (AD @List.replicate_zero.{0} (AD @D9.{0} (AD @IH.{0} @Kb.{0}))))))))))))))))))))))))
def ry4:=AD @EO.{0} (AD @FE.{0} (AD @sub_self (AD @Option.some.injEq.{0} (AD @exists_eq_left'.{1} (AD @aaX (AD @V.int.injEq (AD @V.str.injEq (AD @V.bl.injEq (AD @V.ref.injEq (AD @List.cons.injEq.{0} (AD @and_true (AD @true_and (AD @exists_and_left.{1} (AD @decide_eq_true_eq (AD @Yj (AD @Pr (AD @Bw (AD @yo (AD @Mz (AD @TV (AD @abZ (AD @tSl.eq_1 (AD @tY.eq_1 (AD @BX.eq_1 @ab8))))))))))))))))))))))))
def ry5:=AD @ab9 (AD @ab4 (AD @ach (AD @acg (AD @NZ (AD @Bv (AD @Kl (AD @aaI (AD @aex (AD @aew (AD @aeH.eq_1 @ipI.eq_1))))))))))
def ry6:=AD @abu (AD @agh (AD @adX (AD @adW @adV)))
def rdy:=AD ry0 (AD ry1 (AD ry2 (AD ry3 (AD ry4 (AD ry5 (AD ry6 @tV.eq_1))))))
def agj{x:Str}{st:Stmt}{kV di aw:Ap}(X:K.In h)(G:h.Ns B8 mg)(a:nsIn K B8 x=ID (ID (.ref f)))
  (l:K.lookup f=ID ⟨oc,od,.func (fnOf x x (fJ st) (cZ st) (aj st) .none kV di pm an aw ct),kH⟩)(c:codeIn K aw x=true)(k:keepIn K (.ref f)=true)
  (hb:∀(kV di pm:Ap)(an:Option IN)(aw ct:Ap)(us:List Ap),us.length=ps.length->JO (fnOf x x (fJ st) (cZ st) (aj st) .none kV di pm an aw ct) ⟨us,[]⟩=pure (ps.zip us)):abH K mg x st ps f (fnOf x x (fJ st) (cZ st) (aj st) .none kV di pm an aw ct):=
 ⟨aaS (st:=st) l c k,(aaS (st:=st) l c k).binds hb,mg_of X G a⟩
end L2
variable {ss:L2.Sts}
set_option maxHeartbeats 4100000
namespace SRT
open PySem PyProof.Rows
def Ris(xs:Array Nat):Prop:=xs.toList.Pairwise (· < ·)
def Ris.lt{xs:Array Nat}(h:Ris xs){i k x y:Nat}(hx:xs[i]?=ID x)(hy:xs[k]?=ID y)(hik:i<k):x<y:=by
 rw[<- DT] at hx hy;obtain⟨h1,rfl⟩:=AK.mp hx;obtain⟨h2,rfl⟩:=AK.mp hy;exact List.pairwise_iff_getElem.mp h i k h1 h2 hik
theorem adP{xs:Array Nat}(hr:Ris xs)(j:Nat):∀bS lo hi,hi-lo<=bS->lo<=hi->hi<=xs.size->(∀i x,xs[i]?=ID x->i<lo->x<j)->(∀i x,xs[i]?=ID x->hi<=i->j<=x) ->
  (∀i x,xs[i]?=ID x->(i<AZ.below.go xs j bS lo hi↔x<j))/\AZ.below.go xs j bS lo hi<=xs.size:=by
 intro bS
 induction bS with
 | zero=>
  intro lo hi h1 h2 h3 h4 h5;have e:hi=lo:=ω;subst e;refine⟨λi x hx=>⟨λhl=>h4 i x hx hl,λhl=>?_⟩,h3⟩;show i<hi;refine Nat.lt_of_not_le λcf=>?_;have:=h5 i x hx cf;omega
 | succ bS ih=>
  intro lo hi h1 h2 h3 h4 h5;show(∀i x,xs[i]?=ID x->(i<(if lo<hi then if xs.getD ((lo+hi)/2) j<j then AZ.below.go xs j bS ((lo+hi)/2+1) hi else AZ.below.go xs j bS lo ((lo+hi)/2) else lo)↔x<j))/\(if lo<hi then if xs.getD ((lo+hi)/2) j<j then AZ.below.go xs j bS ((lo+hi)/2+1) hi else AZ.below.go xs j bS lo ((lo+hi)/2) else lo)<=xs.size;by_cases hl:lo<hi
  ·rw[if_pos hl];have hm:(lo+hi)/2<xs.size:=ω;have hg:xs[(lo+hi)/2]?=ID xs[(lo+hi)/2]:=by simp[hm]
   have hd:xs.getD ((lo+hi)/2) j=xs[(lo+hi)/2]:=by simp[Array.getD,hm]
   rw[hd];by_cases hc:xs[(lo+hi)/2]<j
   ·rw[if_pos hc];refine ih _ _ ω ω h3 (λi x hx oT=>?_) h5;by_cases e:i=(lo+hi)/2
    ·subst e;rw[hg] at hx;cases hx;exact hc
    exact lt_trans (hr.lt hx hg ω) hc
   rw[if_neg hc];refine ih _ _ ω ω ω h4 (λi x hx oT=>?_);by_cases e:i=(lo+hi)/2
   ·subst e;rw[hg] at hx;cases hx;omega
   have:=hr.lt hg hx ω;omega
  rw[if_neg hl];have e:hi=lo:=ω;subst e;refine⟨λi x hx=>⟨λhl=>h4 i x hx hl,λhl=>?_⟩,h3⟩;refine Nat.lt_of_not_le λcf=>?_;have:=h5 i x hx cf;omega
def v8{xs:Array Nat}(hr:Ris xs)(j:Nat):(∀i x,xs[i]?=ID x->(i<AZ.below xs j↔x<j))/\AZ.below xs j<=xs.size:=by
 unfold AZ.below;refine adP hr j _ _ _ ω ω (A3 _) (λ_ _ _ h=>absurd h ω) λi x hx hi=>?_;have:=(Array.getElem?_eq_some_iff.mp hx).1;omega
def Pb{xs:Array Nat}(hr:Ris xs)(hn:xs[AZ.below xs j]?≠ID j):∀x∈xs.toList,x≠j:=by
 intro x hx e;subst e;obtain⟨i,hi,e⟩:=FC.mp hx;have hg:xs[i]?=ID x:=by rw[<- DT,AC hi,e]
 have hs:=v8 hr x;have h1:=(hs.1 i x hg);have h2:AZ.below xs x<=i:=by
  refine Nat.le_of_not_lt λh=>?_;exact ED _ (h1.mp h)
 rcases Go (AZ.below xs x) i with h|h
 ·have oT:i<xs.size:=by simpa using hi
  have hb:AZ.below xs x<xs.size:=ω;have tm:xs[AZ.below xs x]?=ID xs[AZ.below xs x]:=by simp[hb]
  have l1:=hr.lt tm hg h;have:=(hs.1 _ _ tm).mpr l1;omega
 have e:AZ.below xs x=i:=ω;rw[e] at hn;exact hn hg
def Gk(xs:Array α)(p:Nat)(x:α):(AZ.insertAt xs p x).toList=xs.toList.take p++x::xs.toList.drop p:=by
 unfold AZ.insertAt;simp[Array.toList_extract,List.extract,EZ]
def Qv{xs:Array Nat}(hr:Ris xs)(hn:xs[AZ.below xs j]?≠ID j):Ris (AZ.insertAt xs (AZ.below xs j) j):=by
 have hs:=v8 hr j;have ck:=Pb hr hn;show(AZ.insertAt xs (AZ.below xs j) j).toList.Pairwise (· < ·);rw[Gk];have hx:xs.toList.Pairwise (· < ·):=hr;rw[LL,D4];refine⟨hx.sublist (List.take_sublist _ _),⟨λy hy=>?_,hx.sublist (List.drop_sublist _ _)⟩,λa ha b hb=>?_⟩
 ·obtain⟨i,hi,e⟩:=FC.mp hy;rw[List.getElem_drop] at e;have hl:AZ.below xs j+i<xs.toList.length:=by rw[FO] at hi;omega
  have hg:xs[AZ.below xs j+i]?=ID y:=by rw[<- DT,AC hl,e]
  have h1:=hs.1 _ _ hg;have h2:=ck y (List.mem_of_mem_drop hy);have:¬(y<j):=λh=>by have:=h1.mpr h;omega
  omega
 have l1:a<j:=by
  obtain⟨i,hi,e⟩:=FC.mp ha;rw[List.getElem_take] at e;have hl:i<AZ.below xs j/\i<xs.toList.length:=by rw[EN] at hi;omega
  have hg:xs[i]?=ID a:=by rw[<- DT,AC hl.2,e]
  exact(hs.1 _ _ hg).mp hl.1
 rcases AX.mp hb with rfl|hb
 ·exact l1
 obtain⟨i,hi,e⟩:=FC.mp hb;rw[List.getElem_drop] at e;have hl:AZ.below xs j+i<xs.toList.length:=by rw[FO] at hi;omega
 have hg:xs[AZ.below xs j+i]?=ID b:=by rw[<- DT,AC hl,e]
 have h1:=hs.1 _ _ hg;have:¬(b<j):=λh=>by have:=h1.mpr h;omega
 omega
def TOk(b:Bool)(t:AZ):Prop:=Ris t.place/\t.dummies=#[]/\t.led=b
def Vu{b:Bool}{t:AZ}(h:TOk b t)(p:Bool):TOk b { t with plain:=p }:=h
def VN(n:Nat):Ris (Array.range n):=by
 show(Array.range n).toList.Pairwise (· < ·);rw[Array.toList_range];exact Hb
def mZ{b:Bool}{t:AZ}(h:TOk b t)(n:Nat):TOk b (t.standIn n):=⟨VN n,rfl,h.2.2⟩
def FP{b:Bool}{t:AZ}(h:TOk b t)(n:Nat):TOk b (t.orStandIn n):=by
 unfold AZ.orStandIn;split
 ·exact h
 exact mZ h n
def G6(f m:Nat)(b:Bool):TOk b (AZ.fresh f m b):=⟨IQ,rfl,rfl⟩
theorem Qx{t:AZ}(hd:t.dummies=#[]){f:Nat->Int}{h:Int}(hf:∀i,(f i == h)=false):∀(bS:Nat)(p:AZ.Probe),p.dummy=IF ->
  ∀m,AZ.probe.go t f h bS p=ID m->∃j,m=.empty j IF/\t.place[AZ.below t.place j]?≠ID j:=by
 intro bS
 induction bS with
 | zero=>intro p _ m e;exact absurd e (by simp[AZ.probe.go])
 | succ bS ih=>
  intro p hp m e;unfold AZ.probe.go at e;have i3:∀j,AZ.has t.dummies j=false:=λj=>by rw[hd];simp[AZ.has]
  have WC:∀q:AZ.Probe,q.dummy=IF->(t.advance q).dummy=IF:=λq hq=>by
   unfold AZ.advance;split
   ·exact hq
   exact hq
  split at e
  ·rename_i hs;cases e;refine⟨p.j,by rw[hp],λhc=>?_⟩;unfold AZ.slot at hs;simp[hc] at hs
  ·rename_i hs;unfold AZ.slot at hs;dsimp only at hs;split at hs
   ·cases hs
   rw[i3] at hs;simp at hs
  rw[hf,if_neg ζ] at e;exact ih _ (WC _ hp) m e
def Og{t:AZ}(hd:t.dummies=#[]){h:Int}{b:Bool}(e:t.freeSlot h=ID (j,b)):t.place[AZ.below t.place j]?≠ID j:=by
 unfold AZ.freeSlot AZ.probe at e;split at e
 ·rename_i j' d hp;obtain⟨j2,e2,hn⟩:=Qx hd (f:=λ_=>h+1) (h:=h) (λi=>by simp;omega) _ _ Z _ hp;cases e2;simp at e;rw[<- e.1];exact hn
 cases e
def Ry{b:Bool}{t:AZ}(ht:TOk b t)(es:Array (Int×Ap))(h:Int)(x:Ap):TOk b (layNew t es h x).2.1:=by
 unfold layNew;split
 ·rename_i slot wd hs;have hn:=Og ht.2.1 hs;refine FP ?_ _;unfold AZ.put;refine⟨Qv ht.1 hn,?_,ht.2.2⟩;show(if AZ.has t.dummies slot=true then AZ.eraseAt t.dummies (AZ.below t.dummies slot) else t.dummies)=#[];rw[ht.2.1];rfl
 exact mZ ht _
theorem JN{b:Bool}{t:AZ}(ht:TOk b t)(es:Array (Int×Ap))(n:Nat):TOk b (relayAll t es n).2.1:=by
 unfold relayAll;split
 ·rename_i t' order hr;dsimp only;split
  ·unfold AZ.relaid AZ.laid at hr;cases ho:AZ.layClean (AZ.sizeAbove n-1) (es.map (·.1)) with
   | none=>rw[ho] at hr;cases hr
   | some owner=>
    rw[ho] at hr;simp only[Option.bind_eq_bind,Option.bind_some,Option.pure_def,Option.some.injEq,Prod.mk.injEq] at hr;obtain⟨rfl,-⟩:=hr;refine⟨?_,rfl,ht.2.2⟩;show(IB _ _).toArray.toList.Pairwise (· < ·);rw[List.toList_toArray,KF,List.pairwise_filterMap];refine Hb.imp λ{a c} hac p hp q hq=>?_;simp only[BM] at hp hq;obtain⟨_,_,rfl⟩:=hp;obtain⟨_,_,rfl⟩:=hq;exact hac
  exact mZ ht _
 exact mZ ht _
section
variable{K:Type}[DecidableEq K]
def SetT(knd:KeyKind prog w K)(b:Bool)(h:Heap)(a:IN)(S:K->Bool)(n:Nat):Prop:=
 ∃o es ep t,h.get? a=ID o/\o.ExactSet/\o.data=.set es ep t/\(ElemsOf knd es.toList/\(∀k,S k=true ↔ ∃e∈es.toList,knd.is k e.2=true)/\es.size<FF)/\t.fits es.size=true/\es.size=n/\TOk b t
variable {knd:KeyKind prog w K}{b:Bool}
def SetT.get{S:K->Bool}(hS:SetT knd b h a S n)(hk:∀o,h.get? a=ID o->h'.get? a=ID o):SetT knd b h' a S n:=
 let ⟨o,es,ep,t,ho,r⟩:=hS;⟨o,es,ep,t,hk o ho,r⟩
def SetT.congr{S S':K->Bool}{n':Nat}(hS:SetT knd b h a S n)(e:∀k,S k=S' k)(en:n=n'):SetT knd b h a S' n':=by
 have:S=S':=funext e;subst this;subst en;exact hS
def Hr{o:Obj}{es:Array (Int×Ap)}{t:AZ}(ho:h.get? a=ID o)(hex:o.ExactSet)(hd:o.data=.set es ep t)
  {dt:Array (Int×Ap)}{t':AZ}{S':K->Bool}(eQ:ElemsOf knd dt.toList/\(∀k,S' k=true ↔ ∃e∈dt.toList,knd.is k e.2=true)/\dt.size<FF)(hf:t'.fits dt.size=true)(ht:TOk b t') :
  (h.update a (Obj.putSet dt t')).get? a=ID { o with data:=.set dt (ep+1) t' }/\SetT knd b (h.update a (Obj.putSet dt t')) a S' dt.size:=by
 have hg:(h.update a (Obj.putSet dt t')).get? a=ID { o with data:=.set dt (ep+1) t' }:=by
  have q:=Hn (Obj.putSet dt t') ho (by rw[putSet_of dt t' hd];rfl);rw[putSet_of dt t' hd] at q;exact q
 exact⟨hg,_,dt,ep+1,t',hg,hex,rfl,eQ,hf,rfl,ht⟩
def Pu{g:Bool->Sem Unit}(hg:∀(c:Bool)(s₁:AB)(Q':Unit->AB->Prop),Q' () s₁->AI (AN prog w) A (g c) Q' E s₁){o:Obj}{es:Array (Int×Ap)}{t:AZ}(ho:s.heap.get? a=ID o)(hex:o.ExactSet)(hd:o.data=.set es ep t)
  {c6:Array (Int×Ap)}{t2:AZ}{S':K->Bool}(eQ:ElemsOf knd c6.toList/\(∀k,S' k=true ↔ ∃e∈c6.toList,knd.is k e.2=true)/\c6.size<FF)
  (hf:t2.fits c6.size=true)(ht:TOk b t2){wd:Bool}{R:Option Bool->AB->Prop}
  (h:∀h',Cc a s.heap h'->SetT knd b h' a S' c6.size->R (ID true) { s with heap:=h' }) :
  AI (AN prog w) A (storeSet a c6 t2 >>= λ_=>if (!wd&&t2.tooFull)=true then (g (relayAll t2 c6 (AZ.grown c6.size)).2.2 >>= λ_=>storeSet a (relayAll t2 c6 (AZ.grown c6.size)).1 (relayAll t2 c6 (AZ.grown c6.size)).2.1 >>= λ_=>pure (ID true)) else pure (ID true)) R E s:=by
 refine An (wpAny_storeSet_of ho hd ?_ (fits_of_scanBound eQ.2.2));obtain⟨QH,tz⟩:=Hr (knd:=knd) ho hex hd eQ hf ht;have NF:=Cc.update s.heap a (Obj.putSet c6 t2);by_cases hc:(!wd&&t2.tooFull)=true
 ·rw[if_pos hc];have hp:=relayAll_perm t2 c6 (AZ.grown c6.size);have ie:=relayAll_fits t2 c6 (AZ.grown c6.size);have UF:=JN ht c6 (AZ.grown c6.size);generalize relayAll t2 c6 (AZ.grown c6.size)=Rl at hp ie UF |-;obtain⟨tI,t3,gv⟩:=Rl;dsimp only at hp ie UF |-;have hsz:tI.size=c6.size:=by rw[<- Ex,hp.length_eq,Ex]
  have OB:ElemsOf knd tI.toList/\(∀k,S' k=true ↔ ∃e∈tI.toList,knd.is k e.2=true)/\tI.size<FF:=
   ⟨eQ.1.perm hp,λk=>(eQ.2.1 k).trans ⟨λ⟨e,he,q⟩=>⟨e,hp.mem_iff.mpr he,q⟩,λ⟨e,he,q⟩=>⟨e,hp.mem_iff.mp he,q⟩⟩,by rw[hsz];exact eQ.2.2⟩
  refine An (hg _ _ _ (An (wpAny_storeSet_of QH Z ?_ (fits_of_scanBound OB.2.2))));obtain⟨_,Q3⟩:=Hr (knd:=knd) QH hex Z OB ie UF;rw[hsz] at Q3;exact Au (h _ (NF.trans (Cc.update _ a _)) Q3)
 rw[if_neg hc];exact Au (h _ NF tz)
theorem LQ{a:IN}{S:K->Bool}{n:Nat}{k:K}{x:Ap}{Q:Bool->AB->Prop}(f6:knd.is k x=true)(NE:x.scannable=true)(hS:SetT knd b s.heap a S n)(ml:n+1<FF)
  (h:∀h',Cc a s.heap h'->SetT knd b h' a (λk'=>S k'||decide (k'=k)) (if S k then n else n+1)->Q (!S k) { s with heap:=h' }) :
  AI (AN prog w) A (setAddHashed a x (knd.hash k)) Q E s:=by
 obtain⟨o,es,ep,t,ho,hex,hd,eQ,hf,hn,ht⟩:=hS;unfold setAddHashed setAddHashedIn;refine CB (An (wpAny_setState_of ho hd hf ?_));dsimp only;rw[byScan_of NE eQ.2.2 eQ.1,if_pos rfl];unfold setAddByScan;refine An (An (DI (An (wpAny_setScan_of f6 ho hd hf eQ.1 ?_))));cases hr:List.findIdx? (λe=>knd.is k e.2) es.toList with
 | some j=>
  dsimp only;obtain⟨hj,hpj,_⟩:=List.findIdx?_eq_some_iff_getElem.mp hr;have OO:S k=true:=(eQ.2.1 k).mpr ⟨es.toList[j],EB hj,hpj⟩;refine Au (Au ?_);have q:=h s.heap (Cc.refl a s.heap) ⟨o,es,ep,t,ho,hex,hd,⟨eQ.1,λk'=>by
   rw[Bool.or_eq_true,decide_eq_true_eq,<- eQ.2.1 k'];exact⟨λhk=>hk.elim id (λe=>e ▸ OO),.inl⟩,eQ.2.2⟩,hf,by rw[OO];exact hn,ht⟩
  rw[OO] at q;exact q
 | none=>
  dsimp only;have OO:S k=false:=by
   cases hk:S k with
   | false=>rfl
   | true=>
    obtain⟨e,he,hp⟩:=(eQ.2.1 k).mp hk;have q:=List.findIdx?_eq_none_iff.mp hr e he;rw[hp] at q;exact Bool.noConfusion q
  have hgw:∀(c:Bool){s₁:AB}{Q':Unit->AB->Prop},Q' () s₁->AI (AN prog w) A (match c with|true=>rule "set.scan.the-table-gave-way" | false=>pure ()) Q' E s₁:=
   λc s₁ Q' hq=>by cases c <;> first|exact Au hq|exact DI hq
  have gf:=layNew_perm t es (knd.hash k) x;have ii:=layNew_fits t es (knd.hash k) x;have mf:=Ry ht es (knd.hash k) x;generalize layNew t es (knd.hash k) x=L at gf ii mf |-;obtain⟨c6,t1,wd,gv⟩:=L;dsimp only at gf ii mf |-;rw[toList_push] at gf;have qV:c6.size=n+1:=by rw[<- Ex,gf.length_eq,AQ,Ex,hn];rfl
  have OC:ElemsOf knd c6.toList/\(∀k',(S k'||decide (k'=k))=true ↔ ∃e∈c6.toList,knd.is k' e.2=true)/\c6.size<FF:=
   ⟨(eQ.1.push f6 NE).perm gf,mem_push_iff f6 eQ.2.1 gf,by rw[qV];exact ml⟩
  have f8:∀h',Cc a s.heap h'->SetT knd b h' a (λk'=>S k'||decide (k'=k)) c6.size->Q true { s with heap:=h' }:=by
   intro h' du i8;have q:=h h' du;rw[OO] at q;rw[qV] at i8;exact q i8
  refine An (hgw _ ?_);by_cases bz:t1.plain=true
  ·rw[if_pos bz,hashByValue_scannable 8 NE];refine An (Au ?_);refine Pu (b:=b) ?_ ho hex hd OC (t2:=if plainKind x=true then t1 else { t1 with plain:=false }) ?_ ?_ ?_
   ·intro c s₁ Q' hq;cases c <;> first|exact Au hq|exact DI hq
   ·split
    ·exact ii
    exact AZ.fits_plain_off ii
   ·split
    ·exact mf
    exact Vu mf false
   intro h' du i8;dsimp only;exact Au (f8 h' du i8)
  rw[if_neg bz];refine An (Au ?_);refine Pu (b:=b) ?_ ho hex hd OC ii mf ?_
  ·intro c s₁ Q' hq;cases c <;> first|exact Au hq|exact DI hq
  intro h' du i8;dsimp only;exact Au (f8 h' du i8)
end
abbrev bt(w:Bi):Bool:=w.params.followText "set-order"
section
variable{R:Result->AB->Prop}{wr:List IN}{G:Array GenState->Array GenState->Prop}{P:Nat->Ap->Prop}{St:Nat->AB->Prop}{b:Bool}
theorem XM(W:WalksS prog w A.in1 I fp wr G n P St)(S:IN)(w8:S∉fp)(val:Nat->Int)(vE:∀i v,P i v->∃t,v=.int (val i) t)(hb:n+1<FF) :
  ∀(k i:Nat)(s:AB),n-i=k->i<=n->St i s->SetT (FG prog w) b s.heap S (λk'=>(FD val i).any (· == k')) (FD val i).length ->
   (∀s',Moved (S::wr) G s s'->SetT (FG prog w) b s'.heap S (λk'=>(FD val n).any (· == k')) (FD val n).length->R (.ok (.ret .none)) s') ->
   D5 (AN prog w) A (.builtin "set.update.loop" ⟨[.ref S,.ref I],[]⟩) R s:=by
 have hSw:S∉wr:=λh=>w8 (W.sub _ h);have aT:∀c∈wr,c∈S::wr:=λc hc=>A9 _ hc;intro k
 induction k with
 | zero=>
  intro i s hk hi gz hS hR;have tj:i=n:=ω;subst tj;refine D6 F.entry_set_update_loop ?_;rw[Bz.under_plainId Ki _];show AI _ A.in1 (EJ (.ref I) >>= _) _ _ s;refine An (W.done s _ _ gz λs' hm=>?_);show AI _ A.in1 (ret Ap.none) _ _ s';exact Au (hR s' (hm.mono aT) (hS.get λo e=>hm.heap S _ hSw e))
 | succ k ih=>
  intro i s hk hi gz hS hR;have aI:i<n:=ω;refine D6 F.entry_set_update_loop ?_;rw[Bz.under_plainId Ki _];show AI _ A.in1 (EJ (.ref I) >>= _) _ _ s;refine An (W.item i s _ _ aI gz λv s' hP hst' hm=>?_);obtain⟨t,rfl⟩:=vE i v hP;have i8:=hS.get λo e=>hm.heap S _ hSw e;show AI _ A.in1 (FH [GE (val i) t] (setAdd S (.int (val i) t)) >>= _) _ _ s';refine An (CB ?_);unfold setAdd;refine CB (An ((FG prog w).pyHash (k:=val i) (intKind_is _ _ _ _) ?_));have ml:(FD val i).length+1<FF:=by have:=firstMet_length_le val i;omega
  refine LQ (knd:=FG prog w) (s:={ s' with toks:=s'.toks+1 }) (intKind_is _ _ _ _) Z i8 ml λh' du Q3=>?_;have hSi:SetT (FG prog w) b h' S (λk'=>(FD val (i+1)).any (· == k')) (FD val (i+1)).length:=
   Q3.congr (λk'=>by rw[firstMet_succ,step_any]) (by rw[firstMet_succ,step_length])
  refine Au ⟨HM Ki _,ih (i+1) _ ω aI (W.frame _ s' _ _ hst' (le_succ _) λc hc o e=>?_) hSi λlL hm'' hS''=>?_⟩
  ·rw[du.2 c (λh:c=S=>w8 (by rw[<- h];exact hc))];exact e
  refine hR lL (Moved.trans W.gtrans ((hm.mono aT).then_heap (le_succ _) λc o hc e=>?_) hm'') hS'';rw[du.2 c (λh:c=S=>hc (by rw[h];exact A5))];exact e
end
abbrev wI(w:Bi):Obj:={ cls:=.type "set",dict:=IF,data:=.set #[] 0 (.fresh 0 0 (!bt w)) }
def Xa(a:Ap){Q₁:Ap->AB->Prop}(h:Q₁ (.ref s.heap.objs.size) { s with heap:=s.heap.push (wI w) }) :
  D5 (AN prog w) A (.call (.builtin "set.__new__") ⟨[.type "set",a],[]⟩) (wants Q₁ E) s:=by
 refine GH (show AI _ A.in1 (checkBuiltinCall "set.__new__" ⟨[.type "set",a],[]⟩ >>= λ_=>HP (.builtin "set.__new__" ⟨[.type "set",a],[]⟩)) _ _ s from ?_);refine An (C5 (F.newCall_set_1 a) (Au ⟨HM F.plain_set_new _,D6 F.entry_set_new ?_⟩));rw[Bz.under_plainId F.plain_set_new _];unfold AW.«set.__new__» AW.Frozenset.newClass;have aT:=sub_set_self;obtain⟨hp,g,d,tk,os⟩:=s;dsimp only
 wp_walk
 refine Ee (Au ?_);dsimp only;simp only[newObj];exact An (wpAny_alloc (Au (Au h)))
set_option maxHeartbeats 3200000 in
theorem Xc{l:IN}{items:Array Ap}{ns:List Int}{Q:Ap->AB->Prop}(hh:A.handled=IF)(hl:s.heap.IsList l items)(hi:E7 items.toList ns)(hb:items.size+1<FF)
   (h:∀(h':Heap)(tk:Nat),SetT (FG prog w) (!bt w) h' s.heap.objs.size (λk'=>(FD (λi=>ns.getD i 0) items.size).any (· == k')) (FD (λi=>ns.getD i 0) items.size).length ->
   (∀c o,c<s.heap.objs.size->s.heap.get? c=ID o->h'.get? c=ID o)->Q (.ref s.heap.objs.size) { s with heap:=h',toks:=tk }) :
  AI (AN prog w) A (call (.type "set") [.ref l]) Q E s:=by
 obtain⟨c,tl,NU⟩:=F7.mro;have sR:=F7.made;have aT:=F7.sub;refine IA (GH (show AI _ _ (callAny (.type "set") _) _ _ _ from Au ⟨Code.quiet_builtin _ ψ,D6 F.entry_type_call ?_⟩));rw[Bz.under_plain (K2 "set" [.ref l] []) rfl];have h1:=F7.notType;have h2:=F7.canCreate;have hct:=F.typeCall_set_1 (.ref l)
 repeat (any_goals (first|assumption|wp_step))
 refine EW (Xa (.ref l) (E:=E) (Q₁:=λobj s₁=>obj=.ref s.heap.objs.size/\s₁={ s with heap:=s.heap.push (wI w) }) ⟨rfl,rfl⟩) λr s₁ hr=>?_;cases r with
 | error e=>exact hr
 | ok fl=>
  cases fl with
  | ret obj=>
   obtain⟨rfl,rfl⟩:=hr;have hS:(s.heap.push (wI w)).get? s.heap.objs.size=ID (wI w):=AU _ rfl;have hT:AB.TypeIs { s with heap:=s.heap.push (wI w) } (.ref s.heap.objs.size) "set" := ⟨_,hS,rfl⟩;have QP:=F7.init.lookup;have hbi:=F7.init.bind (.ref s.heap.objs.size)
   repeat (any_goals (first|assumption|wp_step))
   refine EW (F0 (R:=wants (λr s₂=>r=.none/\∃h' tk,s₂={ s with heap:=h',toks:=tk } /\
     SetT (FG prog w) (!bt w) h' s.heap.objs.size (λk'=>(FD (λi=>ns.getD i 0) items.size).any (· == k')) (FD (λi=>ns.getD i 0) items.size).length /\
     (∀c o,c<s.heap.objs.size->s.heap.get? c=ID o->h'.get? c=ID o)) E) F7.init.plain F.entry_set_init (check_set_init_1 hT ?_)) λr₂ s₂ hr₂=>?_
   ·obtain⟨ol,we,ft,nl,i5⟩:=hl;obtain⟨ocls,Nc,odata,vk⟩:=ol;simp only at ft i5;subst ft;subst i5;have UX:(s.heap.push (wI w)).get? l=ID { cls:=.type "list",dict:=Nc,data:=.seq items nl,slots:=vk }:=AE _ we;have hsls:=F.sub_list_set;have hslf:=F.sub_list_frozenset;have ck:(GT "list" == GT "dict")=false:=by decide
    have eM:(s.heap.push (wI w)).IsList l items:=⟨_,UX,rfl,nl,rfl⟩;unfold AW.«set.__init__» noKeywords AW.Frozenset.updateFrom;generalize hPI:IY=PI
    wp_walk
    subst hPI;refine FK eM (An (LM ?_));have hlS:l<s.heap.objs.size:=A6 we;have hh3:A.in1.in1.in1.handled=IF:=by simp[hh]
    have VC:l≠(s.heap.push (wI w)).objs.size:=by
     rw[CY];exact BO (D3 hlS)
    have w8:s.heap.objs.size∉[(s.heap.push (wI w)).objs.size,l]:=by
     rw[CY];simp only[AX,AL,BB,or_false,not_or];exact⟨BO (DD _),JJ hlS⟩
    have vE:∀(i:Nat)(v:Ap),items[i]?=ID v->∃t,v=.int ((λi=>ns.getD i 0) i) t:=λi v hv=>E7.int_at hi i v (by rw[DT];exact hv);refine XM (b:=!bt w) ((Walks.list hh3 _ l VC items).toS) s.heap.objs.size w8 (λi=>ns.getD i 0) vE hb (items.size-0) 0 _ ω (DC _)
     ⟨⟨_,AU _ rfl,rfl,rfl⟩,(eM.push _)⟩ ?hS0 ?hR
    case hS0=>exact⟨_,#[],0,_,AE _ hS,⟨rfl,rfl,rfl⟩,rfl,⟨λe he=>by simp at he,λk=>by simp[firstMet_zero],δ⟩,by rfl,rfl,G6 _ _ _⟩
    case hR=>
     intro s' hm i8;obtain⟨h',g',d',tk',S2⟩:=s';have eg:g'=s.gens:=hm.gens;have ed:d'=s.drawn:=hm.drawn;have eo:S2=s.os:=hm.os;subst eg;subst ed;subst eo;show AI _ _ _ _ _ _;refine Au (show AI _ _ (ret Ap.none) _ _ _ from Au ⟨rfl,h',tk',rfl,i8,λc o hc e=>?_⟩);have kr:c≠s.heap.objs.size:=BO hc;have nB:c≠(s.heap.push (wI w)).objs.size:=by
      rw[CY];exact BO (D3 hc)
     exact hm.heap c o (by simp only[AX,AL,BB,or_false,not_or];exact⟨kr,nB⟩) (AE _ (AE _ e))
   cases r₂ with
   | error e=>exact hr₂
   | ok fl₂=>
    cases fl₂ with
    | ret r=>
     obtain⟨rfl,h',tk,rfl,i8,rq⟩:=hr₂
     repeat (any_goals (first|assumption|wp_step))
     exact h _ _ i8 rq
    | _=>exact hr₂.elim
  | _=>exact hr.elim
theorem vy{α:Type}:∀{l:List α}{i:Nat}(h:i<l.length),(l[i]::l.eraseIdx i).Perm l
 | x::l,0,_=>Ff.refl _
 | x::l,i+1,h=>by
  have h':i<l.length:=by simpa using h
  show(l[i]::x::l.eraseIdx i).Perm (x::l);exact(Ff.swap _ _ _).trans (Ff.cons _ (vy h'))
def wp_choose{src:Source}{Q:Nat->AB->Prop}(hn:n≠0)(h:∀k d,k<n->Q k { s with drawn:=d }):AI (AN prog w) A (choose src n) Q E s:=
 λ_ _ _=>⟨hn,h _ _ (mod_lt _ (Nat.pos_of_ne_zero hn))⟩
theorem adY{α:Type}:∀(n:Nat)(xs:List α)(s:AB){Q:List α->AB->Prop},xs.length=n->(∀ys d,ys.Perm xs->Q ys { s with drawn:=d })->AI (AN prog w) A (drawOrder n xs) Q E s:=by
 intro n
 induction n with
 | zero=>
  intro xs s Q hl h;have e:xs=[]:=Kj.mp hl;subst e;exact Au (h [] s.drawn (Ff.refl _))
 | succ n ih=>
  intro xs s Q hl h;cases xs with
  | nil=>cases hl
  | cons x xs=>
   unfold drawOrder;refine An (wp_choose ζ λi d hi=>?_);have hg:(x::xs)[i]?=ID (x::xs)[i]:=AC hi;rw[hg];dsimp only;refine An (ih _ _ (by rw[KP,if_pos hi];simpa using hl) λys d' hp=>Au (h _ d' ?_));exact(Ff.cons _ hp).trans (vy hi)
theorem acK{α:Type}(next:Nat->Nat):∀(bS k:Nat)(left:List α)(out:Array α),left.length=bS->(Iq.go next bS k left out).toList.Perm (out.toList++left):=by
 intro bS
 induction bS with
 | zero=>
  intro k left out hl;have e:left=[]:=Kj.mp hl;subst e;show out.toList.Perm _;rw[D9]
 | succ bS ih=>
  intro k left out hl;unfold Iq.go;have hi:next k%left.length<left.length:=mod_lt _ ω;rw[AC hi];dsimp only;refine(ih (k+1) _ _ (by rw[KP,if_pos hi];omega)).trans ?_;rw[toList_push,F5];exact Ff.append_left _ (vy hi)
def V5(next:Nat->Nat)(xs:Array α):(Iq next xs).toList.Perm xs.toList:=by
 have:=acK next xs.size 0 xs.toList #[] ζ;simpa [Iq] using this
def jT(h:Heap)(S:IN)(es:Array (Int×Ap))(ep:Nat)(t:AZ):Prop:=∃o,h.get? S=ID o/\o.ExactSet/\o.data=.set es ep t
def iR(h:Heap)(I:IN)(first:Ap)(i:Nat)(S:IN)(n ep:Nat):Prop:=
 h.get? I=ID { cls:=.type "set_iterator",dict:=IF,data:=.fields #[first,.int i 0,.ref S,.int n 0,.int ep 0],slots:=#[] }
def jT.get{S:IN}{es:Array (Int×Ap)}{t:AZ}(hS:jT h S es ep t)(hk:∀o,h.get? S=ID o->h'.get? S=ID o):jT h' S es ep t:=
 let ⟨o,ho,r⟩:=hS;⟨o,hk o ho,r⟩
section
variable{S:IN}{es:Array (Int×Ap)}{t:AZ}
def qR{Q:(Array (Int×Ap)×Nat×AZ)->AB->Prop}(hS:jT s.heap S es ep t)(hf:t.fits es.size=true)(h:Q (es,ep,t) s):AI (AN prog w) A (setState S) Q E s:=
 let ⟨_,ho,_,hd⟩:=hS;wpAny_setState_of ho hd hf h
def below_at{xs:Array Nat}(hr:Ris xs)(hi:i<=xs.size):AZ.below xs (if i=0 then 0 else xs.getD (i-1) 0+1)=i:=by
 have hs:=v8 hr (if i=0 then 0 else xs.getD (i-1) 0+1);generalize hb:AZ.below xs (if i=0 then 0 else xs.getD (i-1) 0+1)=b at hs;by_cases h0:i=0
 ·subst h0;simp only[↓reduceIte] at hs;rcases Nat.eq_zero_or_pos b with h|h
  ·exact h
  have hl:0<xs.size:=ω;have hg:xs[0]?=ID xs[0]:=by simp[hl]
  have:=(hs.1 0 _ hg).mp h;omega
 rw[if_neg h0] at hs;have hl:i-1<xs.size:=ω;have hg:xs[i-1]?=ID xs[i-1]:=by simp[hl]
 have hd:xs.getD (i-1) 0=xs[i-1]:=by simp[Array.getD,hl]
 rw[hd] at hs;have h1:i-1<b:=(hs.1 _ _ hg).mpr ω;rcases Go i b with h|h
 ·have g9:i<xs.size:=ω;have rL:xs[i]?=ID xs[i]:=by simp[g9]
  have h2:=(hs.1 _ _ rL).mp h;have h3:=hr.lt hg rL ω;omega
 omega
def adn(hf:t.fits es.size=true)(ht:TOk (!bt w) t)(hd:bt w=true\/(!t.plain&&decide (es.size>1))=false) :
  ∃(vs:List Ap)(sl:Nat->Nat),sl 0=0/\vs.Perm (es.toList.map (·.2))/\∀(i:Nat)(s:AB)(A:Bz)(E:Ap->AB->Prop)(Q:Option (Ap×Nat)->AB->Prop),i<=vs.length->jT s.heap S es ep t ->
   Q (vs[i]?.map λx=>(x,sl (i+1))) s->AI (AN prog w) A (setNext S (sl i) i ep) Q E s:=by
 by_cases hb:bt w=true
 ·refine⟨(Iq (w.params.setOrder S ep) es).toList.map (·.2),λ_=>0,rfl,(V5 _ es).map _,λi s A E Q hi hS h=>?_⟩;unfold setNext;refine An (qR hS hf ?_);dsimp only;unfold setsByText;refine An (An (Ee (Au ?_)));show AI _ _ (if bt w=true then _ else _) _ _ _;rw[if_pos hb,if_neg ζ];unfold setWalk;refine An (An (qR hS hf ?_));dsimp only;unfold setsByText;refine An (An (Ee (Au ?_)));show AI _ _ (if bt w=true then _ else _) _ _ _;rw[if_pos hb];refine An (Ee (Au (Au ?_)));have e:((Iq (w.params.setOrder S ep) es)[i]?).map (λe=>(e.2,0))=(((Iq (w.params.setOrder S ep) es).toList.map (·.2))[i]?).map λx=>(x,0):=by
   rw[AM,Option.map_map,DT];rfl
  show Q (((Iq (w.params.setOrder S ep) es)[i]?).map (λe=>(e.2,0))) s;rw[e];exact h
 have hb':bt w=false:=by simpa using hb
 have wq:=hd.resolve_left hb;have im:t.place.size=es.size:=by
  have:=hf;unfold AZ.fits at this;simp only[CL,beq_iff_eq] at this;exact this.1
 refine⟨es.toList.map (·.2),λi=>if i=0 then 0 else t.place.getD (i-1) 0+1,rfl,Ff.refl _,λi s A E Q hi hS h=>?_⟩;unfold setNext;refine An (qR hS hf ?_);dsimp only;unfold setsByText;refine An (An (Ee (Au ?_)));show AI _ _ (if bt w=true then _ else _) _ _ _;rw[if_neg hb];show AI _ _ (if (!t.plain&&decide (es.size>1))=true then _ else _) _ _ _;rw[if_neg (by rw[wq];simp)];refine An ?_;show AI _ _ (if (!t.led && !es.isEmpty)=true then _ else _) _ _ _;have VT:t.led=true:=by rw[ht.2.2,hb'];rfl
 rw[if_neg (by rw[VT];simp)];refine Au (Au ?_);have oT:i<=es.size:=by simpa using hi
 rw[below_at ht.1 (by rw[im];exact oT)];rcases Go i es.size with aI|hge
 ·have g1:es[i]?=ID es[i]:=by simp[aI]
  have g2:t.place[i]?=ID t.place[i]:=by simp[im,aI]
  have g3:(es.toList.map (·.2))[i]?=ID es[i].2:=by rw[AM,DT,g1];rfl
  rw[g1,g2];rw[g3] at h;have g4:t.place.getD i 0=t.place[i]'(by rw[im];exact aI):=by simp[Array.getD,im,aI]
  simp only[map_some,Nat.add_one_ne_zero,if_false,Nat.add_sub_cancel,g4] at h;exact h
 have g1:es[i]?=IF:=by simp[hge]
 have g3:(es.toList.map (·.2))[i]?=IF:=by rw[AM,DT,g1];rfl
 rw[g1];rw[g3] at h;exact h
end
def Om:LN table "set.__iter__" = ID AW.«frozenset.__iter__»:=entryFor_alias (id' := "frozenset.__iter__") (by kernel_rfl) Z ψ (by kernel_rfl)
def dX:Slot "set_iterator" "__next__" "set_iterator.__next__" :=
 .of (owner := "set_iterator") (n := "__next__") (by rw[GI,EU];kernel_rfl) ψ ψ ψ (by first|exact .inl ψ|exact .inr ψ) (by rw[Fh];kernel_rfl)
def Cj:Slot "set_iterator" "__iter__" "set_iterator.__iter__" :=
 .of (owner := "set_iterator") (n := "__iter__") (by rw[GI,EU];kernel_rfl) ψ ψ ψ (by first|exact .inl ψ|exact .inr ψ) (by rw[Fh];kernel_rfl)
def m7:LN table "set_iterator.__next__" = ID AW.«set_iterator.__next__»:=Kk (by kernel_rfl)
def Ol:LN table "set_iterator.__iter__" = ID AW.«dict_keyiterator.__iter__»:=entryFor_alias (id' := "dict_keyiterator.__iter__") (by kernel_rfl) Z ψ (by kernel_rfl)
def ql(a:Ap):LO "set_iterator.__next__" ⟨[a],[]⟩:=by unfold LO;kernel_rfl
def Sw(a:Ap):LO "set_iterator.__iter__" ⟨[a],[]⟩:=by unfold LO;kernel_rfl
section
variable{S:IN}{es:Array (Int×Ap)}{t:AZ}
def iR.ty{h:AB}(hI:iR h.heap I first i S n ep):h.TypeIs (.ref I) "set_iterator" := ⟨_,hI,rfl⟩
def iR.get(hI:iR h I first i S n ep)(hk:∀o,h.get? I=ID o->h'.get? I=ID o):iR h' I first i S n ep:=hk _ hI
def mU{Q:Array (Int×Ap)->AB->Prop}(hS:jT s.heap S es ep t)(hf:t.fits es.size=true)(h:Q es s):AI (AN prog w) A (setEntries S) Q E s:=
 let ⟨_,ho,_,hd⟩:=hS;wpAny_setEntries_of ho hd hf h
def Oi{Q:Nat->AB->Prop}(hS:jT s.heap S es ep t)(hf:t.fits es.size=true)(h:Q ep s):AI (AN prog w) A (setEpoch S) Q E s:=
 let ⟨_,ho,_,hd⟩:=hS;wpAny_setEpoch_of ho hd hf h
def Tp(hh:A.handled=IF){P:Fin->AB->Prop}(h:∀(h':Heap)(e:Ap),(∀c o,s.heap.get? c=ID o->h'.get? c=ID o)->AB.TypeIs { s with heap:=h' } e "StopIteration" -> E' e { s with heap:=h' }) :
  AI (AN prog w) A (newExc (.type "StopIteration") [] >>= λe=>(raiseNew e:Sem Fin)) P E' s:=by
 refine An ?_;simp only[newExc,newTuple];refine An (BE (An (m:=LP _ _) (C5 (a:=Ap.none) (by first|rfl|(simp only[LP];rfl)) ?_)) (by size_fits))
 refine BE ?_ (by size_fits);simp only[raiseNew];refine An (wpAny_handled ?_);rw[hh];refine An (Au (wpAny_throw (h _ (.ref _) (λc o e=>AE _ (AE _ e)) ⟨_,AU _ rfl,rfl⟩)))
def next_item{first:Nat}{v:Ap}{sl:Nat}{Q:Option Ap->AB->Prop}(hI:iR s.heap I (.int first 0) i S es.size ep)(hS:jT s.heap S es ep t)(hf:t.fits es.size=true)
  (hn:∀(s:AB)(A:Bz)(E:Ap->AB->Prop)(Q:Option (Ap×Nat)->AB->Prop),jT s.heap S es ep t->Q (ID (v,sl)) s->AI (AN prog w) A (setNext S first i ep) Q E s)
  (ck:S≠I)(hQ:∀h',iR h' I (.int sl 0) (i+1) S es.size ep->Cc I s.heap h'->Q (ID v) { s with heap:=h' }):AI (AN prog w) A (EJ (.ref I)) Q E s:=by
 unfold EJ;refine An (E6 (B3 (name:=EA "__next__") hI.ty dX (B1 dX hI.ty m7 ?_ (ql _))));show AI _ _ (fieldsOf (.ref I) >>= _) _ _ s;refine An (LS hI Z ?_);refine An (mU hS hf ?_);rw[if_neg ζ];dsimp only;refine An (hn s _ _ _ hS ?_);dsimp only;refine An (CF hI ζ λh1 g1 b1=>?_);refine An (CF (s:={ s with heap:=h1 }) g1 ζ λh2 g2 b2=>?_);exact Au ⟨_,rfl,Au (hQ h2 g2 (b1.trans b2))⟩
end
section
variable{S:IN}{es:Array (Int×Ap)}{t:AZ}
def Mp{ph:Heap}(b:Cc a h h')(k:∀c o,h'.get? c=ID o->ph.get? c=ID o)(c:IN)(o:Obj)(hc:c≠a)(e:h.get? c=ID o):ph.get? c=ID o:=k c o (b.extBut c o hc e)
def next_end{first:Nat}{Q:Option Ap->AB->Prop}(hh:A.handled=IF)(hI:iR s.heap I (.int first 0) i S es.size ep)(hS:jT s.heap S es ep t)(hf:t.fits es.size=true)
  (hn:∀(s:AB)(A:Bz)(E:Ap->AB->Prop)(Q:Option (Ap×Nat)->AB->Prop),jT s.heap S es ep t->Q IF s->AI (AN prog w) A (setNext S first i ep) Q E s)
  (hQ:∀h',(∀c o,c≠I->s.heap.get? c=ID o->h'.get? c=ID o)->Q IF { s with heap:=h' }):AI (AN prog w) A (EJ (.ref I)) Q E s:=by
 unfold EJ;refine An (E6 (B3 (name:=EA "__next__") hI.ty dX (B1 dX hI.ty m7 ?_ (ql _))));show AI _ _ (fieldsOf (.ref I) >>= _) _ _ s;refine An (LS hI Z (An (mU hS hf ?_)));rw[if_neg ζ];dsimp only;refine An (hn s _ _ _ hS ?_);dsimp only;refine An (CF hI ζ λh1 g1 b1=>?_);refine Tp (s:={ s with heap:=h1 }) (by simpa using hh) λh2 e k2 ty=>An (HG ty LI (Au (hQ h2 λc o hc x=>Mp b1 k2 c o hc x)))
def TupAt(h:Heap)(T:IN)(ds:List Nat):Prop:=h.get? T=ID { cls:=.type "tuple",data:=.seq (ds.map λ(i:Nat)=>CI i).toArray }
def RV{d:Nat}{ds:List Nat}{v:Ap}{Q:Option Ap->AB->Prop}(hI:iR s.heap I (.ref T) i S es.size ep)(hS:jT s.heap S es ep t)(hT:TupAt s.heap T ds)(hf:t.fits es.size=true)
  (hd:ds[i]?=ID d)(hv:(es[d]?).map (·.2)=ID v)(ck:S≠I)
  (hQ:∀h',iR h' I (.ref T) (i+1) S es.size ep->Cc I s.heap h'->Q (ID v) { s with heap:=h' }):AI (AN prog w) A (EJ (.ref I)) Q E s:=by
 unfold EJ;refine An (E6 (B3 (name:=EA "__next__") hI.ty dX (B1 dX hI.ty m7 ?_ (ql _))));show AI _ _ (fieldsOf (.ref I) >>= _) _ _ s;refine An (LS hI Z (An (mU hS hf ?_)));rw[if_neg ζ];dsimp only;refine An (DL hT Z ?_);dsimp only;have hg:(ds.map λ(i:Nat)=>CI i).toArray[(i:Int).toNat]?=ID (.int (d:Int) 0):=by
  rw[GA,HH,AM,hd];rfl
 rw[hg];dsimp only;unfold setNextDrawn;refine An (An (qR hS hf ?_));dsimp only;rw[if_neg ζ];obtain⟨⟨hh,x⟩,he,rfl⟩:=BM.mp hv;rw[GA,he];dsimp only;refine Au ?_;refine An (CF hI ζ λh1 g1 b1=>?_);exact Au ⟨_,rfl,Au (hQ h1 g1 b1)⟩
def W5{ds:List Nat}{Q:Option Ap->AB->Prop}(hh:A.handled=IF)(hI:iR s.heap I (.ref T) i S es.size ep)(hS:jT s.heap S es ep t)(hT:TupAt s.heap T ds)(hf:t.fits es.size=true)
  (hd:ds[i]?=IF)(hQ:∀h',(∀c o,c≠I->s.heap.get? c=ID o->h'.get? c=ID o)->Q IF { s with heap:=h' }):AI (AN prog w) A (EJ (.ref I)) Q E s:=by
 unfold EJ;refine An (E6 (B3 (name:=EA "__next__") hI.ty dX (B1 dX hI.ty m7 ?_ (ql _))));show AI _ _ (fieldsOf (.ref I) >>= _) _ _ s;refine An (LS hI Z (An (mU hS hf ?_)));rw[if_neg ζ];dsimp only;refine An (DL hT Z ?_);dsimp only;have hg:(ds.map λ(i:Nat)=>CI i).toArray[(i:Int).toNat]?=IF:=by
  rw[GA,HH,AM,hd];rfl
 rw[hg];dsimp only;refine An (CF hI ζ λh1 g1 b1=>?_);refine An (CF (s:={ s with heap:=h1 }) g1 ζ λh2 g2 b2=>?_);refine Tp (s:={ s with heap:=h2 }) (by simpa using hh) λh3 e k3 ty=>An (HG ty LI (Au (hQ h3 λc o hc x=>Mp (b1.trans b2) k3 c o hc x)))
def T3(hI:iR s.heap I first i S n ep)(h:Q (.ref I) s):AI (AN prog w) A (IY (.ref I)) Q E s:=by
 refine wpAny_pyIter_slot hI.ty Cj (B1 Cj hI.ty Ol ?_ (Sw _));show AI _ _ (ret (.ref I)) _ _ s;exact Au ⟨_,rfl, "set_iterator",_,hI.ty,dX.lookup,h⟩
theorem Yv{Q:Ap->AB->Prop}(hh:A.handled=IF)(hS:jT s.heap S es ep t)(hf:t.fits es.size=true)(ht:TOk (!bt w) t)(hz:es.size<=AJ)
   (h:∀(s':AB)(I:IN)(fp:List IN)(vs:List Ap)(St:Nat->AB->Prop),(∀c o,s.heap.get? c=ID o->s'.heap.get? c=ID o)->s'.gens=s.gens->s'.os=s.os->s'.toks=s.toks->vs.Perm (es.toList.map (·.2))->I=s'.heap.objs.size-1->s.heap.objs.size<=I->I<s'.heap.objs.size ->
   (∀A':Bz,A'.handled=IF->WalksS prog w A' I fp [I] (λa b=>b=a) vs.length (λi v=>vs[i]?=ID v) St)->St 0 s'->(∀b∈fp,b<s'.heap.objs.size/\(b=S\/s.heap.objs.size<=b))->Q (.ref I) s') :
  AI (AN prog w) A (IY (.ref S)) Q E s:=by
 obtain⟨o,ho,hx,hd⟩:=id hS;have UE:s.TypeIs (.ref S) "set" := ⟨o,ho,hx.1⟩;have lt:S<s.heap.objs.size:=A6 ho;refine wpAny_pyIter_slot UE F.slot_set_iter (B1 F.slot_set_iter UE Om ?_ (F.args_set_iter_1 _));unfold AW.«frozenset.__iter__»;show AI _ _ (AW.Frozenset.sizeOf S >>= _) _ _ s;unfold AW.Frozenset.sizeOf;refine An (An (mU hS hf (Au ?_)));unfold setDrawn setsByText;refine An (An (qR hS hf ?_));dsimp only;refine An (An (Ee (Au (Au ?_))));show AI _ _ (if (!bt w&&(!t.plain&&decide (es.size>1)))=true then _ else _) _ _ _;have arith:∀{n m:Nat},m=n+1->n=m-1:=by intros;omega
 by_cases hc:(!bt w&&(!t.plain&&decide (es.size>1)))=true
 ·rw[if_pos hc];refine An (adY es.size (BF es.size) _ (Cf) λds d hp=>?_);have i5:ds.length=es.size:=by rw[hp.length_eq,Cf]
  refine An (IG ?_ (by rw[AG,i5];exact hz));have tz:jT (s.heap.push { cls:=.type "tuple",data:=.seq (ds.map λ(i:Nat)=>CI i).toArray }) S es ep t:=hS.get λo e=>AE _ e;have hT1:TupAt (s.heap.push { cls:=.type "tuple",data:=.seq (ds.map λ(i:Nat)=>CI i).toArray }) s.heap.objs.size ds:=AU _ rfl;have eW:(s.heap.push { cls:=.type "tuple",data:=.seq (ds.map λ(i:Nat)=>CI i).toArray }).objs.size=s.heap.objs.size+1:=CY ..;have j3:∀c o,s.heap.get? c=ID o->(s.heap.push { cls:=.type "tuple",data:=.seq (ds.map λ(i:Nat)=>CI i).toArray }).get? c=ID o:=λc o e=>AE _ e;generalize s.heap.push { cls:=.type "tuple",data:=.seq (ds.map λ(i:Nat)=>CI i).toArray }=h1 at tz hT1 eW j3 |-;refine An (Oi (s:={ s with drawn:=d,heap:=h1 }) tz hf (An (BE ?_)));have hI:iR (h1.push { cls:=.type "set_iterator",data:=.fields #[.ref s.heap.objs.size,.int (0:Nat) 0,.ref S,.int (es.size:Nat) 0,.int (ep:Nat) 0] }) h1.objs.size (.ref s.heap.objs.size) 0 S es.size ep:=AU _ rfl;refine Au ⟨_,rfl, "set_iterator",_,⟨_,hI,rfl⟩,dX.lookup,?_⟩;have dC:(h1.push { cls:=.type "set_iterator",data:=.fields #[.ref s.heap.objs.size,.int (0:Nat) 0,.ref S,.int (es.size:Nat) 0,.int (ep:Nat) 0] }).objs.size=h1.objs.size+1:=CY ..;have av:∀c o,h1.get? c=ID o->(h1.push { cls:=.type "set_iterator",data:=.fields #[.ref s.heap.objs.size,.int (0:Nat) 0,.ref S,.int (es.size:Nat) 0,.int (ep:Nat) 0] }).get? c=ID o:=λc o e=>AE _ e;show Q (.ref h1.objs.size) { s with drawn:=d,heap:=h1.push { cls:=.type "set_iterator",data:=.fields #[.ref s.heap.objs.size,.int (0:Nat) 0,.ref S,.int (es.size:Nat) 0,.int (ep:Nat) 0] } };generalize h1.push { cls:=.type "set_iterator",data:=.fields #[.ref s.heap.objs.size,.int (0:Nat) 0,.ref S,.int (es.size:Nat) 0,.int (ep:Nat) 0] }=h2 at hI dC av |-;have n1:S≠h1.objs.size:=by rw[eW];exact BO (D3 lt)
  have n2:s.heap.objs.size≠h1.objs.size:=by rw[eW];exact BO (DD _)
  have bo:∀i d:Nat,ds[i]?=ID d->∃x:Ap,(es[d]?).map (λ(e:Int×Ap)=>e.2)=ID x/\(ds.map λd=>(es.toList.map (·.2)).getD d .none)[i]?=ID x:=by
   intro i d hi;have:d<es.size:=by have:=hp.mem_iff.mp (AY hi);simpa using this
   refine⟨es[d].2,by simp[this],?_⟩;rw[AM,hi];simp[this]
  refine h { s with drawn:=d,heap:=h2 } h1.objs.size [h1.objs.size,S,s.heap.objs.size] (ds.map λd=>(es.toList.map (·.2)).getD d .none)
   (λi s'=>iR s'.heap h1.objs.size (.ref s.heap.objs.size) i S es.size ep/\jT s'.heap S es ep t/\TupAt s'.heap s.heap.objs.size ds)
   (λc o e=>av c o (j3 c o e)) Z Z Z ?_ (arith dC) (by rw[eW];exact le_succ _) (by show h1.objs.size<h2.objs.size;rw[dC];exact DD _) (λA' hh'=>?_) ⟨hI,tz.get (av S),av _ _ hT1⟩ ?_
  ·have e:(BF es.size).map (λd=>(es.toList.map (·.2)).getD d .none)=es.toList.map (·.2):=by
    refine ext_getElem ζ λi h1 h2=>?_;simp at h1 h2;simp[h2]
   exact(hp.map λd=>(es.toList.map λ(x:Int×Ap)=>x.2).getD d Ap.none).trans (Ff.of_eq e)
  ·have ar:(ds.map λd=>(es.toList.map (·.2)).getD d .none).length=ds.length:=AG _;exact {
    sub:=λb hb=>by simp at hb;simp[hb]
    grefl:=λ_=>rfl
    gtrans:=λa b c e f=>f.trans e
    frame:=λi s1 h' tk st _ hk=>⟨st.1.get λo e=>hk _ ζ o e,st.2.1.get λo e=>hk _ ζ o e,hk _ ζ _ st.2.2⟩
    item:=λi s1 Q1 E1 hi st hQ1=>by
     rw[ar] at hi;obtain⟨x,e1,e2⟩:=bo i ds[i] (AC hi);refine RV st.1 st.2.1 st.2.2 hf (AC hi) e1 n1 λh' i' b'=>?_;exact hQ1 x { s1 with heap:=h' } e2 ⟨i',st.2.1.get λo e=>b'.extBut _ o n1 e,b'.extBut _ _ n2 st.2.2⟩ ⟨λb o hb e=>b'.extBut b o (λz=>hb (by simp[z])) e,rfl,rfl,rfl,A3 _⟩
    done:=λs1 Q1 E1 st hQ1=>by
     refine W5 hh' st.1 st.2.1 st.2.2 hf (by rw[ar];simp) λh' k'=>?_;exact hQ1 { s1 with heap:=h' } ⟨λb o hb e=>k' b o (λz=>hb (by simp[z])) e,rfl,rfl,rfl,A3 _⟩
    self:=λi s1 Q1 E1 st hQ1=>T3 st.1 hQ1 }
  intro b hb;show b<h2.objs.size/\_;have l0:=D3 lt;simp only[AX,BB,or_false] at hb;rw[dC,eW];rcases hb with rfl|rfl|rfl
  ·rw[eW];exact⟨DD _,.inr (le_succ _)⟩
  ·exact⟨D3 l0,.inl rfl⟩
  exact⟨D3 (DD _),.inr (A3 _)⟩
 rw[if_neg hc];obtain⟨vs,sl,ZZ,hp,hn⟩:=adn (prog:=prog) (w:=w) (S:=S) (ep:=ep) hf ht (by
  cases hb:bt w with
  | true=>exact .inl rfl
  | false=>rw[hb] at hc;exact .inr (by simpa using hc))
 refine An (Au (An (Oi hS hf (An (BE ?_)))));have hI:iR (s.heap.push { cls:=.type "set_iterator",data:=.fields #[.int (0:Nat) 0,.int (0:Nat) 0,.ref S,.int (es.size:Nat) 0,.int (ep:Nat) 0] }) s.heap.objs.size (.int (sl 0) 0) 0 S es.size ep:=by rw[ZZ];exact AU _ rfl
 refine Au ⟨_,rfl, "set_iterator",_,⟨_,hI,rfl⟩,dX.lookup,?_⟩;have dC:(s.heap.push { cls:=.type "set_iterator",data:=.fields #[.int (0:Nat) 0,.int (0:Nat) 0,.ref S,.int (es.size:Nat) 0,.int (ep:Nat) 0] }).objs.size=s.heap.objs.size+1:=CY ..;have av:∀c o,s.heap.get? c=ID o->(s.heap.push { cls:=.type "set_iterator",data:=.fields #[.int (0:Nat) 0,.int (0:Nat) 0,.ref S,.int (es.size:Nat) 0,.int (ep:Nat) 0] }).get? c=ID o:=λc o e=>AE _ e;show Q (.ref s.heap.objs.size) { s with heap:=s.heap.push { cls:=.type "set_iterator",data:=.fields #[.int (0:Nat) 0,.int (0:Nat) 0,.ref S,.int (es.size:Nat) 0,.int (ep:Nat) 0] } };generalize s.heap.push { cls:=.type "set_iterator",data:=.fields #[.int (0:Nat) 0,.int (0:Nat) 0,.ref S,.int (es.size:Nat) 0,.int (ep:Nat) 0] }=h2 at hI dC av |-;have n1:S≠s.heap.objs.size:=BO lt;refine h { s with heap:=h2 } s.heap.objs.size [s.heap.objs.size,S] vs (λi s'=>iR s'.heap s.heap.objs.size (.int (sl i) 0) i S es.size ep/\jT s'.heap S es ep t)
  (λc o e=>av c o e) Z Z Z hp (arith dC) (A3 _) (by show s.heap.objs.size<h2.objs.size;rw[dC];exact DD _) (λA' hh'=>?_) ⟨hI,hS.get (av S)⟩ ?_
 ·exact {
   sub:=λb hb=>by simp at hb;simp[hb]
   grefl:=λ_=>rfl
   gtrans:=λa b c e f=>f.trans e
   frame:=λi s1 h' tk st _ hk=>⟨st.1.get λo e=>hk _ ζ o e,st.2.get λo e=>hk _ ζ o e⟩
   item:=λi s1 Q1 E1 hi st hQ1=>by
    have hv:vs[i]?=ID vs[i]:=AC hi;refine next_item st.1 st.2 hf (v:=vs[i]) (sl:=sl (i+1)) (λs2 A2 E2 Q2 eS hQ2=>hn i s2 A2 E2 Q2 (Gc hi) eS (by rw[hv];exact hQ2)) n1 λh' i' b'=>?_;exact hQ1 vs[i] { s1 with heap:=h' } hv ⟨i',st.2.get λo e=>b'.extBut _ o n1 e⟩ ⟨λb o hb e=>b'.extBut b o (λz=>hb (by simp[z])) e,rfl,rfl,rfl,A3 _⟩
   done:=λs1 Q1 E1 st hQ1=>by
    have hv:vs[vs.length]?=IF:=by simp
    refine next_end hh' st.1 st.2 hf (λs2 A2 E2 Q2 eS hQ2=>hn vs.length s2 A2 E2 Q2 (A3 _) eS (by rw[hv];exact hQ2)) λh' k'=>?_;exact hQ1 { s1 with heap:=h' } ⟨λb o hb e=>k' b o (λz=>hb (by simp[z])) e,rfl,rfl,rfl,A3 _⟩
   self:=λi s1 Q1 E1 st hQ1=>T3 st.1 hQ1 }
 intro b hb;show b<h2.objs.size/\_;rw[dC];simp only[AX,BB,or_false] at hb;rcases hb with rfl|rfl
 ·exact⟨DD _,.inr (A3 _)⟩
 exact⟨D3 lt,.inl rfl⟩
end
def IK(p:CS):Prop:=∃n t,p.1=.int n t
def Jk(xs:Array CS):Prop:=∀(i:Nat) p,xs[i]?=ID p->IK p
def Va{st:D2}{xs:Array CS}{Q:CS->D2->Prop}(hi:i<xs.size)(h:∀p,xs[i]?=ID p->Q p st):wpS (AN prog w) A E s (elem' xs i) Q st:=by
 rw[elem'_eq];have e:xs[i]?=ID xs[i]:=getElem?_pos xs i hi;rw[e];exact D0 (h _ e)
def Chain:List (Nat×Nat×Nat)->Nat->Nat->Prop
 | [],a,b=>a=b
 | (p,n,_)::t,a,b=>p=a/\1<=n/\Chain t (a+n) b
theorem Chain.le:∀{l:List (Nat×Nat×Nat)}{a b:Nat},Chain l a b->a<=b
 | [],_,_,h=>le_of_eq h
 | (_,n,_)::_,a,_,⟨_,_,h⟩=>BU (Nat.le_add_right a n) h.le
theorem Chain.snoc:∀{l:List (Nat×Nat×Nat)}{a b n w:Nat},Chain l a b->1<=n->Chain (l++[(b,n,w)]) a (b+n)
 | [],a,b,n,w,h,h1=>by cases h;exact⟨rfl,h1,rfl⟩
 | (_,_,_)::t,a,b,n,w,⟨k1,k2,k3⟩,h1=>⟨k1,k2,k3.snoc h1⟩
theorem Chain.YT:∀{l:List (Nat×Nat×Nat)}{a b p n w v:Nat},Chain (l++[(p,n,w)]) a b->Chain (l++[(p,n,v)]) a b
 | [],a,b,p,n,w,v,h=>h
 | (_,_,_)::t,a,b,p,n,w,v,⟨k1,k2,k3⟩=>⟨k1,k2,k3.YT⟩
def Jk.perm{a b:Array CS}(h:Jk a)(hp:b.toList.Perm a.toList):Jk b:=by
 intro i p hi;have h1:p∈b.toList:=by rw[<- DT] at hi;exact AY hi
 obtain⟨j,hj⟩:=List.getElem?_of_mem (hp.mem_iff.mp h1);exact h j p (by rw[<- DT];exact hj)
def Jk.ext{a:Array CS}(h:Jk a)(x y:Nat):Jk (a.extract x y):=by
 intro i p hi;rw[Array.getElem?_extract] at hi;split at hi
 ·exact h _ p hi
 cases hi
structure MB(a₀:Array CS)(st:D2):Prop where
 kind:kindOf st=oneType'
 perm:(B9 st).toList.Perm a₀.toList
 fail:Kn st=IF
def MB.size{st:D2}(h:MB a₀ st):(B9 st).size=a₀.size:=by simpa using h.perm.length_eq
def MP(a₀:Array CS)(pd:Array (Nat×Nat×Nat))(st:D2):Prop:=MB a₀ st/\Cn st=pd
def MP.set{st:D2}{xs:Array CS}(h:MP a₀ pd st)(hp:xs.Perm (B9 st)):MP a₀ pd (setArr st xs):=
 ⟨⟨h.1.kind,(Array.perm_iff_toList_perm.mp hp).trans h.1.perm,h.1.fail⟩,h.2⟩
def MC(a₀:Array CS)(hi:Nat)(st:D2):Prop:=MB a₀ st/\Chain (Cn st).toList 0 hi
theorem abV:∀(l:List (Nat×Nat×Nat)),l≠[]->∃t p n v,l=t++[(p,n,v)]
 | l,h=>⟨l.dropLast,(l.getLast h).1,(l.getLast h).2.1,(l.getLast h).2.2,(List.dropLast_concat_getLast h).symm⟩
theorem zP{α:Type}(f:α->α)(x:α):∀t:List α,(t++[x]).modify t.length f=t++[f x]
 | []=>rfl
 | y::t=>congrArg (y :: ·) (zP f x t)
def MC.YT{st:D2}{hi pw:Nat}(h:MC a₀ hi st):MC a₀ hi (KG st ((Cn st).modify ((Cn st).size-1) λ(x,len,_)=>(x,len,pw))):=by
 refine⟨⟨h.1.kind,h.1.perm,h.1.fail⟩,?_⟩;show Chain ((Cn st).modify ((Cn st).size-1) λ(x,len,_)=>(x,len,pw)).toList 0 hi;have hc:=h.2;by_cases he:(Cn st).toList=[]
 ·have:Cn st=#[]:=by simpa using he
  rw[this] at hc |-;simpa using hc
 obtain⟨t,p,n,v,e⟩:=abV _ he;have e2:Cn st=(t++[(p,n,v)]).toArray:=by rw[<- e]
 rw[e] at hc;rw[e2];have:((t++[(p,n,v)]).toArray.modify ((t++[(p,n,v)]).toArray.size-1) λ(x,len,_)=>(x,len,pw)).toList=t++[(p,n,pw)]:=by
  simp[zP]
 rw[this];exact hc.YT
def MC.push{st:D2}{lo:Nat}(h:MC a₀ lo st)(h1:1<=n):MC a₀ (lo+n) (KG st ((Cn st).push (lo,n,0))):=by
 refine⟨⟨h.1.kind,h.1.perm,h.1.fail⟩,?_⟩;show Chain ((Cn st).push (lo,n,0)).toList 0 (lo+n);rw[toList_push];exact h.2.snoc h1
def MC.of{st dy:D2}{lo:Nat}(h:MC a₀ lo st)(h':MP a₀ (Cn st) dy):MC a₀ lo dy:=⟨h'.1,by rw[h'.2];exact h.2⟩
def abJ{σ:Type}{c:Prop}[Decidable c]{m n:StateT σ Sem α}{st:σ}{Q:α->σ->Prop}(h1:c->wpS (AN prog w) A E s m Q st)(h2:¬c->wpS (AN prog w) A E s n Q st):wpS (AN prog w) A E s (if c then m else n) Q st:=by
 by_cases h:c
 ·rw[if_pos h];exact h1 h
 rw[if_neg h];exact h2 h
def HJ(vs:List Ap):((FL vs).map (·.2)).toList=vs:=by
 unfold FL;simp[List.map_snd_zip]
theorem WN{vs xs:List Ap}(hp:xs.Perm vs):∀{ns:List Int},E7 vs ns->∃oC,E7 xs oC/\oC.Perm ns:=by
 induction hp with
 | nil=>intro ns h;exact⟨ns,h,Ff.refl _⟩
 | cons x _ ih=>
  intro ns h;cases h with
  | cons n t h=>
   obtain⟨oC,h1,h2⟩:=ih h;exact⟨n::oC,.cons n t h1,h2.cons n⟩
 | swap x y l=>
  intro ns h;cases h with
  | cons n t h=>
   cases h with
   | cons m u h=>exact⟨m::n::_,.cons m u (.cons n t h),Ff.swap _ _ _⟩
 | trans _ _ ih1 ih2=>
  intro ns h;obtain⟨n1,a1,b1⟩:=ih2 h;obtain⟨n2,a2,b2⟩:=ih1 a1;exact⟨n2,a2,b2.trans b1⟩
theorem uL{α:Type}[DecidableEq α]:∀{l ks:List α},l.Nodup->(∀x∈l,x∈ks)->ks.length=l.length->ks.Perm l
 | [],ks,_,_,h=>by rw[Kj.mp h]
 | x::l,ks,hn,hs,hl=>by
  obtain⟨h1,h2⟩:=GM.mp hn;have hx:x∈ks:=hs x (A5 ..);refine(List.perm_cons_erase hx).trans (Ff.cons _ (uL h2 (λy hy=>?_) ?_))
  ·have:y≠x:=λe=>h1 (e ▸ hy);exact(List.mem_erase_of_ne this).mpr (hs y (A9 _ hy))
  rw[List.length_erase_of_mem hx,hl];rfl
theorem sZ(val:Nat->Int):∀i,(FD val i).Nodup
 | 0=>nodup_nil
 | i+1=>by
  rw[firstMet_succ];unfold step_dedup;have ih:=sZ val i;split
  ·exact ih
  rename_i h;rw[List.nodup_append];refine⟨ih,by simp,λa ha b hb e=>?_⟩;simp only[AL] at hb;exact h (IT.mpr ⟨a,ha,by simp[e,hb]⟩)
def ded(ns:List Int):List Int:=FD (λi=>ns.getD i 0) ns.length
def yX(ns:List Int):(ded ns).Nodup:=sZ _ _
def BK(ns:List Int):(ded ns).length<=ns.length:=firstMet_length_le _ _
def Vc{k:Int}:k∈ded ns↔k∈ns:=by
 have e:=firstMet_any (λi=>ns.getD i 0) ns.length k;have hr:(BF ns.length).map (λi=>ns.getD i 0)=ns:=by
  refine ext_getElem ζ λi h1 h2=>?_;simp at h1 h2;simp[h2]
 rw[hr] at e;have a1:∀l:List Int,l.any (· == k)=true↔k∈l:=λl=>by simp
 rw[<- a1,<- a1];unfold ded;rw[e]
section
variable{S:IN}{es:Array (Int×Ap)}{t:AZ}
theorem Eu:∀{l:List (Int×Ap)},ElemsOf (FG prog w) l->∃ks:List Int,E7 (l.map (·.2)) ks/\∀k,k∈ks ↔ ∃e∈l,(FG prog w).is k e.2=true
 | [],_=>⟨[],.nil,λk=>by simp⟩
 | (h,v)::l,he=>by
  obtain⟨⟨k,hk,_⟩,_⟩:=he.head;obtain⟨tk,e⟩:=Ap.isInt_shape hk;dsimp only at e hk;subst e;obtain⟨ks,h1,h2⟩:=Eu he.tail;refine⟨k::ks,.cons k tk h1,λj=>?_⟩;rw[AX,h2];constructor
  ·rintro(rfl|⟨e,a,b⟩)
   ·exact⟨_,A5 ..,hk⟩
   exact⟨e,A9 _ a,b⟩
  rintro⟨e,a,b⟩;rcases AX.mp a with rfl|a
  ·exact .inl ((FG prog w).inj _ _ _ b hk)
  exact .inr ⟨e,a,b⟩
def aaE{ae:Array Ap}(h:ItemsOf (λi v=>vs[i]?=ID v) ae vs.length):ae.toList=vs:=by
 refine ext_getElem (by simpa using h.1) λi h1 h2=>?_;have:vs[i]?=ID ae[i]:=h.2 i ae[i] ζ;rw[AC h2] at this;simpa using this.symm
def O1{Q:List Ap->AB->Prop}(hh:A.handled=IF)(hS:jT s.heap S es ep t)(hf:t.fits es.size=true)(ht:TOk (!bt w) t)(hz:es.size<=AJ)
  (hQ:∀(s':AB)(vs:List Ap),vs.Perm (es.toList.map (·.2))->(∀c o,s.heap.get? c=ID o->s'.heap.get? c=ID o)->s'.gens=s.gens->s'.os=s.os->s.heap.objs.size<=s'.heap.objs.size->Q vs s') :
  AI (AN prog w) A (collect (.ref S)) Q E s:=by
 obtain⟨o,ho,hx,hd⟩:=id hS;have UE:s.TypeIs (.ref S) "set" := ⟨o,ho,hx.1⟩;have lt:S<s.heap.objs.size:=A6 ho;unfold collect;refine An (LM (D6 F.entry_proto_collect ?_));rw[Bz.under_plainId F.plain_proto_collect _];show AI _ A.in1 (newList [] >>= λl=>HP (.builtin "list.__iadd__" ⟨[l,.ref S],[]⟩)) _ _ s;refine An (BE ?_);refine Au ⟨HM F.plain_list_iadd _,D6 F.entry_list_iadd ?_⟩;rw[Bz.under_plainId F.plain_list_iadd _];have tz:jT (s.heap.push { cls:=.type "list",data:=.seq ([]:List Ap).toArray }) S es ep t:=hS.get λo e=>AE _ e;have y6:(s.heap.push { cls:=.type "list",data:=.seq ([]:List Ap).toArray }).get? s.heap.objs.size=ID { cls:=.type "list",data:=.seq ([]:List Ap).toArray }:=AU _ rfl;have j3:∀c o,s.heap.get? c=ID o->(s.heap.push { cls:=.type "list",data:=.seq ([]:List Ap).toArray }).get? c=ID o:=λc o e=>AE _ e;have NC:AB.TypeIs { s with heap:=s.heap.push { cls:=.type "list",data:=.seq ([]:List Ap).toArray } } (.ref S) "set" := ⟨o,j3 _ _ ho,hx.1⟩;generalize s.heap.push { cls:=.type "list",data:=.seq ([]:List Ap).toArray }=h1 at tz y6 j3 NC |-;have ne1:s.heap.objs.size≠S:=JJ lt;show AI _ A.in1 (AW.List.listExtendWith (.ref s.heap.objs.size) (.ref S) (.ref s.heap.objs.size)) _ _ _;unfold AW.List.listExtendWith;refine An (wpAny_typeOf NC ?_);have q1:AW.List.listSameRef (.ref s.heap.objs.size) (.ref S)=false:=by simp[AW.List.listSameRef,ne1]
 rw[if_neg (by rw[q1];decide)];refine An (Yv (s:={ s with heap:=h1 }) hh tz hf ht hz λs2 I fp vs St av rL yn cr hp hI cf aI W st0 kq=>?_);have vF:s2.TypeIs (.ref S) "set" := ⟨o,av _ _ (j3 _ _ ho),hx.1⟩;refine An (CB ?_);unfold AW.List.listLengthHint;refine An (wpAny_specialOf vF F.slot_set_len.lookup ?_)
 (generalize hid:("set.__len__" : String)=id0;(fail_if_success (clear hid id0));wp_delta;rw[show splitId id0=ID ("set","__len__") from by subst hid;decide +kernel];subst hid)
 refine An (HG (b:=true) vF sub_set_self ?_);refine FB Z (wpAny_ite_true ψ (An (wpAny_typeOf vF (Au ?_))));rw[if_pos δ];have w8:s.heap.objs.size∉fp:=λz=>by
  have l1:s.heap.objs.size<h1.objs.size:=A6 y6;rcases(kq _ z).2 with e|e
  ·exact ne1 e
  exact ED _ (BA l1 e)
 have y4:=av _ _ y6;refine An (DI (An ?_));show AI _ A.in1 (updateSeq s.heap.objs.size (·.push .none) >>= λ_=>updateSeq s.heap.objs.size (·.pop)) _ _ _;refine An (wpAny_updateSeq y4 Z ?_);have hL3:=Hn (CC (·.push Ap.none)) y4 rfl;refine wpAny_updateSeq hL3 Z ?_;have hL4:=Hn (CC (·.pop)) hL3 rfl;have fR:∀b o,b≠s.heap.objs.size->s2.heap.get? b=ID o->((s2.heap.update s.heap.objs.size (CC (·.push Ap.none))).update s.heap.objs.size (CC (·.pop))).get? b=ID o:=
  λb o hb e=>(C7 _ _ (Co hb)).trans ((C7 _ _ (Co hb)).trans e)
 have W1:=W A.in1 (by simpa using hh);refine Au ⟨HM F.plain_extend_loop _,codeAny_extend_loopS W1 (by rw[hp.length_eq,AG,Ex];exact hz) _ w8 _ vs.length 0 _ _ _ Z (DC _)
  (W1.frame 0 s2 _ s2.toks st0 (A3 _) λb hb o e=>fR b o (λz=>w8 (z ▸ hb)) e) hL4 (ItemsOf.nil _) λs' ah c' hm i8 hacc=>?_⟩
 show AI _ A (load s.heap.objs.size >>= _) _ _ s';refine An (wpAny_load i8 (Au ?_));rw[aaE hacc];have l2:s.heap.objs.size<s'.heap.objs.size:=A6 i8;refine hQ s' vs hp (λc o e=>?_) (hm.gens.trans rL) (hm.os.trans yn) (Gc l2);have lc:c<s.heap.objs.size:=A6 e;have nI:c≠I:=λz=>by
  have l3:s.heap.objs.size<h1.objs.size:=A6 y6;have l4:h1.objs.size<=I:=cf;rw[z] at lc;exact ED _ (BA (lt_trans lc l3) l4)
 exact hm.heap c o (by simp only[AX,BB,or_false,not_or];exact⟨BO lc,nI⟩) (fR c o (BO lc) (av _ _ (j3 _ _ e)))
def LK{l:List Int}(hh:A.handled=IF)(hS:SetT (FG prog w) (!bt w) s.heap S (λk'=>l.any (· == k')) l.length)(i3:l.Nodup)(ky:l.length<64)
   (h:∀(s':AB)(L:IN)(xs:List Ap)(oC:List Int)(k:Nat),s'.heap.get? L=ID (F1 "list" xs.toArray k)->E7 xs oC->oC.Perm l->(l.length<64->oC.Pairwise (·<=·)) ->
   (∀c o,s.heap.get? c=ID o->s'.heap.get? c=ID o)->s'.gens=s.gens->s'.os=s.os->s.heap.objs.size<=L->Q (.ref L) s'):AI (AN prog w) A (call (.builtin "sorted") [.ref S]) Q E s:=by
 obtain⟨o,es,ep,t,ho,hex,hd,⟨eQ,bo,hb⟩,hf,hn,ht⟩:=hS;have hz:es.size<=AJ:=fits_of_scanBound hb;obtain⟨ks,N3,hkm⟩:=Eu eQ;have hkp:ks.Perm l:=uL i3 (λx hx=>(hkm x).mpr ((bo x).mp (by simpa using hx))) (by rw[<- hn,<- Ex,<- E7.length N3,AG]);refine Calls.call_function_entry kind_sorted plain_sorted entry_sorted (args_sorted1 (.ref S)) ?_;unfold AW.«sorted»;refine An (m:=checkCount "sorted" 1 1 _) (Au (An (O1 (by simpa using hh) ⟨o,ho,hex,hd⟩ hf ht hz λs1 vs hp j3 hg1 QH eM=>An (wpAny_newList ?_ ?_))))
 ·obtain⟨ms,hms,hmp⟩:=WN hp N3;have hvl:vs.length=l.length:=by rw[E7.length hms,hmp.length_eq,hkp.length_eq]
  have hL:(s1.heap.push (F1 "list" vs.toArray 0)).get? s1.heap.objs.size=ID (F1 "list" vs.toArray 0):=AU _ rfl;show AI (AN prog w) A.in1 _ _ E { s1 with heap:=s1.heap.push (F1 "list" vs.toArray 0) };refine An (CB (B1 slot_list_sort ⟨_,hL,rfl⟩ entry_list_sort (list_sort_tree hL hms ?_ λxs oC a1 a2 a3=>⟨_,rfl,Au ⟨_,rfl,?_⟩⟩) (args_list_sort _)))
  ·rw[hvl];exact ky
  obtain⟨e,he⟩:=sortedHeap_at (out:=xs) hL;refine h _ _ xs.toList oC e (by simpa using he) a1 (a2.trans (hmp.trans hkp)) (λ_=>a3) (λc o x=>?_) hg1 QH eM;have lc:c<s1.heap.objs.size:=A6 (j3 c o x);show(sortedHeap _ _ _ _).get? c=ID o;rw[sortedHeap_old (BO lc) (by rw[size_push'];exact D3 lc)];exact AE _ (j3 c o x)
 rw[hp.length_eq,AG,Ex];exact hz
end
end SRT
set_option maxHeartbeats 4000000
namespace L2
open PySem PySem.Spec PyProof.Rows
theorem BW:∀{xs:List Int}{us:List Ap},Vals (xs.map At) us->E7 us xs
 | [],_,h=>by cases h;exact .nil
 | x::xs,_,h=>by
  cases h with
  | cons r h=>
   obtain⟨t,rfl⟩:=r;exact .cons x t (BW h)
theorem yO:∀{us:List Ap}{xs:List Int},E7 us xs->Vals (xs.map At) us
 | _,_,.nil=>.nil
 | _,_,.cons n t h=>.cons ⟨t,rfl⟩ (yO h)
def tSS(K:AA)(ta:TA):TE:=λσ H Q=>ta σ H λvs H1=>∃(l:IN)(xs:List Int),vs=[.ref l]/\SqL K H1 l (xs.map At)/\xs.length<64 /\
 ∀(p:IN)(ys:List Int),H1 p=IF->ys.Perm (SRT.ded xs)->((SRT.ded xs).length<64->ys.Pairwise (·<=·))->Q (.ref p) (upd H1 p (.lst (ys.map At)))
def Inv.drawn(I:Inv X ac σ H s)(d:Drawn):Inv X ac σ H { s with drawn:=d }:=
 I.step (g':=s.gens) (d':=d) (t':=s.toks) (h':=s.heap) (ch:=[]) (λ_ z=>nomatch z) (λb o _ _ _ e _=>e) (λb o _ _ _ e _=>⟨o.slots,e⟩) (λ_ _ _ _ n=>n) (λb o _ e=>⟨o,e⟩) (λ_ _ e=>e) (λ_ _ _ e=>e) (λb ps e=>⟨#[],by rw[e];simp⟩) (λ_ h=>h) I.hok I.bare
def Uc{a:Expr}{p:Pos}(hc:X.calm=true)(mS:Gl X "sorted")(mB:X.mg "sorted" = IF)(hg:Gl X "set")(hm:X.mg "set" = IF)(ha:QA X [a] ta)
  (hs:AH [a] X.env=[(false,eval a X.env)]:=by rfl)
  (he:AH [.Call (.Name "set" p2) [a] [] ag] X.env=[(false,eval (.Call (.Name "set" p2) [a] [] ag) X.env)]:=by rfl) :
  QE X (.Call (.Name "sorted" p) [.Call (.Name "set" p2) [a] [] ag] [] pos) (tSS X.K ta):=⟨by
 intro ac s σ H Q I h;refine DU (iM I mS mB JA ?_ δ δ);refine Hm ?_ he rfl;rw[he];show AI _ _ (spliced ((false,eval (.Call (.Name "set" p2) [a] [] ag) X.env)::[])) _ _ s;refine C0 ?_;refine Call_ (iM I hg hm PyProof.Rows.boot_set (BI (thA (ha.h ag ac s σ H _ I h) λus s1 vs H1 I1 r1 q1=>?_) hs Z));obtain⟨l,xs,rfl,sq,hn,q⟩:=q1;cases r1 with
 | cons r rr=>
  cases rr;cases r;obtain⟨af,rv,pl,hz⟩:=I1.list sq;have hI:=BW rv;have ar:af.length=xs.length:=E7.length hI;refine SRT.Xc (I1.ok.hd hc) pl.isList (by simpa using hI) (by simp[ar,FF];omega) λh2 t2 hS hk=>C6 ?_;have eq:FD (λi=>xs.getD i 0) af.toArray.size=SRT.ded xs:=by unfold SRT.ded;rw[A0,ar]
  rw[eq] at hS;have av:∀c o,s1.heap.get? c=ID o->h2.get? c=ID o:=λc o e=>hk c o (A6 e) e;refine SRT.LK (s:={ s1 with heap:=h2,toks:=t2 }) (I1.ok.hd hc) hS (SRT.yX xs) (G2 (SRT.BK xs) hn) λs3 L ys ns k gL iL pL oL k3 g3 o3 l3=>?_;have le:s1.heap.objs.size<=L:=by
   obtain⟨o,_,_,_,e,_⟩:=hS;exact BU (Gc (A6 e)) l3
  have hf:H1 L=IF:=I1.hok.fresh le;obtain⟨h3,g3',d3,t3,o3'⟩:=s3;cases g3;cases o3;have hl:ns.length<=AJ:=by
   rw[pL.length_eq];exact BU (SRT.BK xs) (BU (Gc hn) δ)
  refine⟨.ref L,_,((I1.drawn d3).laid (t':=t3) (h':=h3) (λc o e=>k3 c o (av c o e)) le (show bW X.prog X.w _ h3 _ (.lst (ns.map At)) from⟨by simpa using hl,ys,k,yO iL,gL⟩)),rfl,q L ns hf pL oL⟩⟩
theorem vY:∀(names:List (Str×BQ)) (n:Nat) (ae:List (Str×IN)),E9 n names ae=E9 n names []++ae
 | [],_,_=>rfl
 | (x,k)::r,n,ae=>by
  unfold E9;split
  ·rw[vY r (n+1) ((x,n)::ae),vY r (n+1) [(x,n)],F5];rfl
  exact vY r n ae
theorem R6:∀(names:List (Str×BQ)) (n:Nat) (x:Str) (c:IN),(x,c)∈E9 n names []->(x,BQ.cell)∈names
 | [],_,_,_,h=>by cases h
 | (y,k)::r,n,x,c,h=>by
  unfold E9 at h;split at h
  ·rename_i hk;rw[vY] at h;rcases BG.1 h with h|h
   ·exact A9 _ (R6 r _ x c h)
   cases AL.mp h;rw[beq_iff_eq.mp hk];exact A5
  exact A9 _ (R6 r _ x c h)
theorem j9{l1 l2:List (Str×IN)}{x:Str}:(l1++l2).lookup x=(match l1.lookup x with|some c=>ID c|none=>l2.lookup x):=by
 induction l1 with
 | nil=>rfl
 | cons a l ih=>
  obtain⟨k,v⟩:=a;rw[LG,DZ,DZ];cases x == k with
  | true=>rfl
  | false=>exact ih
theorem R7:∀(names:List (Str×BQ)) (n:Nat) (x:Str),(x,BQ.cell)∈names->∃c,(E9 n names []).lookup x=ID c
 | [],_,_,h=>by cases h
 | (y,k)::r,n,x,h=>by
  unfold E9;rcases AX.1 h with e|h
  ·cases e;rw[if_pos (show(BQ.cell == BQ.cell)=true by decide),vY,j9];cases (E9 (n+1) r []).lookup y with
   | some c=>exact⟨c,rfl⟩
   | none=>
    refine⟨n,?_⟩;show List.lookup y [(y,n)]=ID n;rw[DZ,beq_self_eq_true]
  split
  ·obtain⟨c,hc⟩:=R7 r (n+1) x h;rw[vY,j9,hc];exact⟨c,rfl⟩
  exact R7 r n x h
def adp{M:Model}{globals:IN}{Q:Env->AB->Prop}
  (hQ:Q (newEnv scope s.heap.objs.size globals (E9 (s.heap.objs.size+1) scope.names cl) qual IF .none (ID env) builtinsNs) { s with heap:=pushCells (s.heap.push { cls:=.type "dict",data:=.dict #[] }) scope.names }) :
  AI M A (newFunctionEnv scope globals cl [] qual IF .none (ID env)) Q E s:=by
 unfold newFunctionEnv;simp only[isSome_some,if_true];refine An (wpAny_alloc (An (wpAny_layCells _ (λa b c=>by cases h:b == BQ.cell <;> simp[h]) _ _ _ _ ?_)))
 rw[show({ s with heap:=s.heap.push { cls:=.type "dict",data:=.dict #[] } }:AB).heap.objs.size=s.heap.objs.size+1 from CY ..];rw[forIn_nil];exact An (Au (Au hQ))
def eV(X:Cx)(N:List Str)(scope:C8)(cl:List (Str×IN))(C:IN)(s:AB)(H:Hp)(fp:List IN):Cx:=
 { X with N:=N,s₀:=s,H₀:=H,env:=Fa scope cl C X.env,outer:=X.stack,stack:=X.stack,ex:=fp,fn:=λx=>scope.names.lookup x == ID .cell,pn:=[],xe:=λ_ _=>False }
def nF(NX:List Str)(names:List (Str×BQ)):List Str->List (Option Nat)->Bool
 | [],[]=>true
 | x::r,o::q=>(match o with
   | none=>names.lookup x == ID .local||names.lookup x == ID .cell
   | some j=>NX[j]? == ID x&&names.lookup x == ID .free)&&nF NX names r q
 | _,_=>false
theorem Dv{NX:List Str}{names:List (Str×BQ)}:∀{N:List Str}{mp:List (Option Nat)}{i j:Nat}{x:Str},nF NX names N mp=true->N[i]?=ID x->mp[i]?=ID (ID j)->NX[j]?=ID x/\names.lookup x=ID .free
 | [],_,i,_,_,_,h,_=>by simp at h
 | _::_,[],_,_,_,h,_,_=>by simp[nF] at h
 | y::r,o::q,0,j,x,h,h1,h2=>by
  simp at h1 h2;subst h1 h2;unfold nF at h;simp only[CL,beq_iff_eq] at h;exact h.1
 | y::r,o::q,i+1,j,x,h,h1,h2=>by
  unfold nF at h;rw[CL] at h;exact Dv (i:=i) h.2 (by simpa using h1) (by simpa using h2)
theorem Du{NX:List Str}{names:List (Str×BQ)}:∀{N:List Str}{mp:List (Option Nat)},nF NX names N mp=true->mp.length=N.length
 | [],[],_=>rfl
 | [],_::_,h=>by simp[nF] at h
 | _::_,[],h=>by simp[nF] at h
 | _::r,_::q,h=>by
  unfold nF at h;rw[CL] at h;simp[Du h.2]
structure Fx(NX:List Str)(kX:List (Str×BQ))(N:List Str)(mp:List (Option Nat))(scope:C8):Prop where
 kind:scope.kind=.function
 cel:∀y∈scope.names,y.2=.cell->scope.names.lookup y.1=ID .cell
 locs:∀y∈scope.names,y.2=.local->scope.names.lookup y.1=ID .local
 fre:∀y∈scope.names,y.2=.free->kX.lookup y.1=ID .cell\/kX.lookup y.1=ID .free
 map:nF NX scope.names N mp=true
structure Fz(X:Cx)(scope:C8)(cl own:List (Str×IN))(C:IN)(h3:Heap):Prop where
 sub:∀x c,cl.lookup x=ID c->X.env.cells.lookup x=ID c
 has:∀y∈scope.names,y.2=.free->∃c,cl.lookup y.1=ID c
 mine:∀x c,own.lookup x=ID c->scope.names.lookup x=ID .cell/\C<c/\h3.IsCell c IF
 all:∀x,scope.names.lookup x=ID .cell->∃c,own.lookup x=ID c
 apart:own.Pairwise λx y=>x.2≠y.2
theorem Fz.look{X:Cx}{scope:C8}{cl own:List (Str×IN)}{C:IN}{h3:Heap}(O:Fz X scope cl own C h3){x:Str}{c:IN}(h:(own++cl).lookup x=ID c):(scope.names.lookup x=ID .cell/\C<c/\h3.IsCell c IF/\own.lookup x=ID c)\/(cl.lookup x=ID c/\X.env.cells.lookup x=ID c):=by
 rw[j9] at h;cases e:own.lookup x with
 | some c'=>
  rw[e] at h;cases h;obtain⟨a,b,d⟩:=O.mine x c e;exact .inl ⟨a,b,d,rfl⟩
 | none=>
  rw[e] at h;exact .inr ⟨h,O.sub x c h⟩
theorem Fz.free{X:Cx}{scope:C8}{cl own:List (Str×IN)}{C:IN}{h3:Heap}(O:Fz X scope cl own C h3){x:Str}(h:scope.names.lookup x≠ID .cell):(own++cl).lookup x=cl.lookup x:=by
 rw[j9];cases e:own.lookup x with
 | some c'=>exact absurd (O.mine x c' e).1 h
 | none=>rfl
section
variable{N:List Str}{own:List (Str×IN)}{h3:Heap}
def K1(cn:X.env.scope.names=kX)(S:Fx NX kX N mp scope)(I:Inv X ac σ H s)(kq:∀b∈fp,mY X ac H b)(a8:∀b∈fp,b<s.heap.objs.size)(hC:s.heap.objs.size<=C)
  (O:Fz X scope cl own C h3):(eV X N scope (own++cl) C s H fp).Ok where
 mod:=I.ok.mod
 kind:=S.kind
 glob:=I.ok.glob
 blt:=I.ok.blt
 above:=hC
 inj:=λx y c h1 h2=>by
  have dq:∀{z:Str},X.env.cells.lookup z=ID c->¬C<c:=λ{z} hz aI=>by
   obtain⟨_,o,g,_⟩:=I.cell z c hz;have:=A6 g;exact absurd (BA this hC) (Nat.not_lt_of_lt aI)
  rcases O.look h1 with⟨_,g1,_,l1⟩|⟨_,g1⟩
  ·rcases O.look h2 with⟨_,_,_,l2⟩|⟨_,g2⟩
   ·exact PySem.name_of_addr O.apart (BC l1) (BC l2)
   exact absurd g1 (dq g2)
  rcases O.look h2 with⟨_,g2,_,_⟩|⟨_,g2⟩
  ·exact absurd g2 (dq g1)
  exact I.ok.inj x y c g1 g2
 has:=λx h=>by
  have key:scope.names.lookup x=ID .cell\/scope.names.lookup x=ID .free:=by
   rcases h with h|h
   ·rcases eU (env:=X.env) (names:=scope.names) h with q|⟨_,q⟩
    ·exact .inl q
    exact .inr q
   rcases eU (env:=X.env) (names:=scope.names) h with q|⟨q,_⟩
   ·exact .inr q
   cases q
  show ∃c,(own++cl).lookup x=ID c;rcases key with key|key
  ·obtain⟨c,hc⟩:=O.all x key;exact⟨c,by rw[j9,hc]⟩
  rw[O.free (by rw[key];decide)];exact O.has _ (BC key) rfl
 cab:=λx c h1 h2=>by
  rcases O.look h2 with⟨_,g,_⟩|⟨g,_⟩
  ·exact BU hC (Gc g)
  obtain⟨c',i7⟩:=O.all x (beq_iff_eq.mp h1);replace h2:(own++cl).lookup x=ID c:=h2;rw[j9,i7] at h2;cases h2;exact BU hC (Gc (O.mine x _ i7).2.1)
 hd:=I.ok.hd
 frames:=I.ok.frames
 stk:=.inl rfl
 exf:=λb hb=>⟨BO (BA (a8 b hb) hC),λx c e=>by
  rcases O.look e with⟨_,g,_⟩|⟨_,g⟩
  ·exact JJ (lt_trans (BA (a8 b hb) hC) g)
  exact(kq b hb).2.2.2.2.1 x c g⟩
 bs:=I.bs
 bsz:=BU I.ok.bsz I.sz
 noex:=λb o e hb=>by
  rcases(kq b hb).2.2.2.1 with q|q
  ·exact I.ok.noex b o e q
  exact absurd (BA (BA (A6 e) I.ok.bsz) q) (ED _)
 exfs:=λb hb hz=>by
  obtain⟨_,h1,h2,_⟩:=kq b hb;rcases AX.mp (I.oN b hz) with q|q
  ·exact h1 q
  exact h2 q
 sY:=I.stack
 frf:=I.Jq
theorem abh(gT:X.N=NX)(cn:X.env.scope.names=kX)(S:Fx NX kX N mp scope)(I:Inv X ac σ H s)(kq:∀b∈fp,mY X ac H b)(a8:∀b∈fp,b<s.heap.objs.size)(hC:s.heap.objs.size<=C)
  (O:Fz X scope cl own C s'.heap)
  (ho:s'.os=s.os)(hg:s'.gens=s.gens)(hn:∃m,s'.heap.Ns C m)(hk:∀b o,s.heap.get? b=ID o->s'.heap.get? b=ID o){pl:List (IN×Obj)}
  (hp:∀p∈pl,s'.heap.get? p.1=ID p.2/\H p.1=IF/\p.1≠C/\p.1∉frs X.stack/\∀v,p.2.data≠.cell v) :
  Inv (eV X N scope (own++cl) C s H fp) pl (fO mp σ) H s' where
 ok:=K1 cn S I kq a8 hC O
 os:=ho
 bare:=by rw[hg];exact I.bare
 base:=Un.kept hk
 loc:=by
  obtain⟨m,hm⟩:=hn;refine⟨m,hm,λi x v h1 h2 h3=>?_⟩;have il:(mp.map λo=>match o with|some j=>(σ[j]?).join|none=>IF)[i]?=ID (ID v):=h2
  rw[AM] at il;cases e:mp[i]? with
  | none=>rw[e] at il;cases il
  | some o=>
   rw[e] at il;cases o with
   | none=>cases il
   | some j=>
    have h4:(σ[j]?).join=ID v:=by simpa using il
    have h5:σ[j]?=ID (ID v):=by
     cases q:σ[j]? with
     | none=>rw[q] at h4;cases h4
     | some z=>rw[q] at h4;rw[show z=ID v from h4]
    obtain⟨g1,g2⟩:=Dv S.map h1 e;have fk:=S.fre _ (BC g2) rfl;obtain⟨m0,_,hl⟩:=I.loc;have zS:Vis X.env.scope x:=by
     rcases fk with q|q
     ·exact .inr (.inl (by rw[cn];exact q))
     exact .inr (.inr (by rw[cn];exact q))
    obtain⟨u,r,l⟩:=hl j x v (by rw[gT];exact g1) h5 zS;refine⟨u,r,.inr ?_⟩;have l':∃c,X.env.cells.lookup x=ID c/\s.heap.IsCell c (ID u):=by
     rcases l with⟨q,_⟩|⟨_,q⟩
     ·have q':X.env.scope.names.lookup x=ID .local:=q;rw[cn] at q';rcases fk with z|z
      ·rw[q'] at z;cases z
      rw[q'] at z;cases z
     exact q
    obtain⟨c,hc,oc,ym,hd⟩:=l';obtain⟨c',i7⟩:=O.has _ (BC g2) rfl;have ec:c'=c:=by
     have:=O.sub x c' i7;rw[hc] at this;exact(A7 this).symm
    subst ec;refine⟨?_,c',(O.free (by rw[g2];decide)).trans i7,oc,hk _ _ ym,hd⟩;rcases h3 with q|q|q
    ·rcases eU (env:=X.env) (names:=scope.names) q with z|⟨z,_⟩
     ·rw[g2] at z;cases z
     cases z
    ·exact .inl q
    exact .inr q
 cell:=λx c e=>by
  rcases O.look e with⟨_,_,g,_⟩|⟨_,g⟩
  ·exact⟨_,g⟩
  obtain⟨v,o,h1,h2⟩:=I.cell x c g;exact⟨v,o,hk _ _ h1,h2⟩
 free:=I.hok.fresh hC
 freeC:=λx c e=>by
  rcases O.look e with⟨_,g,_⟩|⟨_,g⟩
  ·exact I.hok.fresh (BU hC (Gc g))
  exact I.freeC x c g
 pin:=λp hpp=>hp p (by simpa [eV] using hpp)
 hok:=I.hok.kept hk
 len:=by
  show(mp.map _).length=N.length;rw[AG];exact Du S.map
end
section
variable{N:List Str}
set_option maxHeartbeats 8000000 in
theorem OJ{tg iter aS:Expr}{br:List Expr}{pos pos0:Pos}{wi:TI}{g:TG}{tc:TT}{te:TE}{ac:List (IN×Obj)}{s:AB}{σ:St}{H:Hp}{Q:VK}{use:Option (Ap->Sem Unit)}{QQ:Ap->AB->Prop}(gT:X.N=NX)(cn:X.env.scope.names=kX)(S:Fx NX kX N mp scope)(hc:X.calm=true)
  (hi:QI X tg iter wi)(hg:∀cl C s H fp,QG (eV X N scope cl C s H fp) tg g)(ht:∀cl C s H fp,QC (eV X N scope cl C s H fp) br tc)(he:∀cl C s H fp,QE (eV X N scope cl C s H fp) aS te)
  (hs:∀x,Cb iter X.env x=pure x)(I:Inv X ac σ H s)(h:Lx mp wi g tc te σ H Q)(fin:zq X ac σ Q use QQ) :
  AI (AN X.prog X.w) X.A (comprehension (.ListComp aS [⟨tg,iter,br,0⟩] scope pos) scope X.env pos0 (newList []) false (eval iter X.env) use) QQ X.xe s:= by
 obtain⟨cl,ft,aT,dv⟩:=Vh I cn S.fre;refine GB Z hs ft S.kind S.locs ?_;refine thn (hi.h ac s σ H _ I h) λv s1 h1=>thn h1 λyb s2 h2=>?_;obtain⟨it,fp,tn,J,H2,e,I2,T,eS,f2,W,⟨m0,w0⟩,bE⟩:=h2;subst e;refine BE (adp ?_);dsimp only;have a8:∀b∈fp,b<s2.heap.objs.size:=λb hb=>by
  obtain⟨o,q,_⟩:=T.obj _ _ eS b hb;exact A6 q
 generalize hD:s2.heap.objs.size=D;generalize i9:s2.heap.push { cls:=.type "list",dict:=IF,data:=.seq ([]:List Ap).toArray }=P2;have hC:P2.objs.size=D+1:=by rw[<- i9,CY,hD]
 have zC:=PySem.cellsFrom_ok scope.names (P2.push { cls:=.type "dict",data:=.dict #[] }) (P2.objs.size+1) [] ⟨λ_ _ hm=>(nomatch hm),IQ⟩ (by rw[CY];exact A3 _);rw[CY] at zC;have ef:(PySem.pushCells (P2.push { cls:=.type "dict",data:=.dict #[] }) scope.names).Ns P2.objs.size λ_=>IF:=(Heap.Ns.new P2 (.type "dict")).keeps (PySem.pushCells_keeps _ _);have kp:∀b o,P2.get? b=ID o->(PySem.pushCells (P2.push { cls:=.type "dict",data:=.dict #[] }) scope.names).get? b=ID o:=λb o q=>PySem.pushCells_keeps _ _ b o (AE _ q);rw[vY];generalize wc:PySem.cellsFrom (P2.objs.size+1) scope.names []=own at zC |-;generalize PySem.pushCells (P2.push { cls:=.type "dict",data:=.dict #[] }) scope.names=h3 at zC ef kp |-;generalize y8:P2.objs.size=C at ef zC wc hC |-;have dq:∀b o,s2.heap.get? b=ID o->h3.get? b=ID o:=λb o q=>kp b o (i9 ▸ AE _ q);have g0:h3.get? D=ID { cls:=.type "list",data:=.seq ([]:List Ap).toArray }:=kp _ _ (by rw[<- i9,<- hD];exact AU _ Z);have O:Fz X scope cl own C h3:=by
  refine⟨aT,dv,λx c e=>?_,λx e=>?_,zC.apart⟩
  ·have hm:=BC e;obtain⟨g1,g2⟩:=zC.empty x c hm;rw[<- wc] at hm;exact⟨S.cel _ (R6 _ _ _ _ hm) rfl,g2,g1⟩
  rw[<- wc];exact R7 _ _ x (BC e)
 have ie:D∉frs X.stack:=λz=>by
  rcases AX.mp (I2.oN D z) with q|q
  ·exact na0 I2.lt hD q.symm
  exact I2.Z7 (na4 hD) q
 have I0:Inv (eV X N scope (own++cl) C s2 H2 fp) [(D,{ cls:=.type "list",data:=.seq ([]:List Ap).toArray })] (fO mp σ) H2 { s2 with heap:=h3 }:=
  abh (s':={ s2 with heap:=h3 }) gT cn S I2 f2 a8 (na3 hD hC) O Z Z ⟨_,ef⟩ dq λp hp=>by
   have ep:=AL.mp hp;subst ep;exact⟨g0,I2.hok.fresh (na4 hD),na2 hC,ie,λv z=>by cases z⟩
 have T0:tn 0 h3:=T.keep _ _ _ eS λb _ o q=>dq b o q;have fo:∀z:AB,z={ s2 with heap:=h3 } ->
   D5 (AN X.prog X.w) X.A (.compLoop (.ListComp aS [⟨tg,iter,br,0⟩] scope pos) 0 (.ref it) (.ref D) (Fa scope (own++cl) C X.env))
    (compPost (AN X.prog X.w) X.A X.xe use QQ (.ref D) C) z:=by
  rintro z rfl;have cm:∀{H':Hp}{pl:List (IN×Obj)},(∀b∈fp,H' b=IF)->(∀p∈pl,p.1=D)->∀b∈fp,mY (eV X N scope (own++cl) C s2 H2 fp) pl H' b:=λhn hp b hb=>by
   have nE:=a8 b hb;refine⟨hn b hb,na1 nE hD hC,(K1 cn S I2 f2 a8 (na3 hD hC) O).exfs b hb,.inl hb,((K1 cn S I2 f2 a8 (na3 hD hC) O).exf b hb).2,λp hpp=>?_⟩;have wb:=hp p (by simpa [eV] using hpp);rw[wb];exact(na0 nE hD).symm
  refine W9 (env:=Fa scope (own++cl) C X.env) (λn z=>∃i ae τ H' af k,Inv (eV X N scope (own++cl) C s2 H2 fp) [(D,{ cls:=.type "list",data:=.seq (EM af) k })] τ H' z/\tn i z.heap/\(∀b∈fp,H' b=IF)/\Vals ae af/\ae.length<=AJ/\W i n ae τ H')
   ?_ m0 ⟨0,[],_,H2,[],0,I0,T0,λb hb=>(f2 b hb).1,.nil,DC _,w0⟩
  rintro n s5 ⟨i,ae,τ,H5,af,k,I5,st5,kA,va,hz,w5⟩;rcases bE i n ae τ H5 w5 with⟨stop,qn⟩|⟨go,dC,N9,pf,step⟩
  ·refine thn (T.done (eV X N scope (own++cl) C s2 H2 fp) Z Z Z hc i _ s5 τ H5 _ I5 (cm kA ζ) st5 stop) λr s6 ⟨hr,I6⟩=>?_;subst hr;obtain⟨m6,rg,_⟩:=I6.loc;obtain⟨dD,nD,_,_,_⟩:=I6.pin (D,_) (AR _ (AL.mpr Z));have U:=I6.base;have nC:H5 C=IF:=I6.free;refine fin D C s6 m6 (upd H5 D (.lst ae)) rg (λh' sb=>R4 I2 f2 hD hC I6.os U I6.hok I6.bare nD nC sb ⟨hz,af,k,va,(sb.2 D (na2 hC)).trans dD⟩) (na1 I2.lt hD hC) (λy c z=>?_) (by rw[aO (Co (na2 hC))];exact nC) (BU I2.sz (na3 hD hC)) (λp hp=>na1 (A6 (I2.pin p hp).1) hD hC) (qn D nD);obtain⟨_,o,h1,_⟩:=I2.cell y c z;exact na1 (A6 h1) hD hC
  refine thn (T.item (eV X N scope (own++cl) C s2 H2 fp) Z Z Z hc i _ s5 τ H5 _ I5 (cm kA ζ) st5 go) λr s6 ⟨u,hr,h6⟩=>?_;subst hr;refine thn h6 λ_ s7 ⟨x,H7,I7,r7,y7,iN,xb⟩=>?_;have I7':=I7.pinned (cm xb ζ) (T.obj _ _ iN);refine noE ((hg (own++cl) C s2 H2 fp).h _ s7 τ H7 x u _ I7' r7 (step x H7 y7)) λ_ s8 ⟨τ1,H8,I8,q8⟩=>?_;refine noE ((ht (own++cl) C s2 H2 fp).h _ s8 τ1 H8 _ I8 q8) λok s9 ⟨H9,I9,q9⟩=>?_;have HP:∀{H':Hp}{z:AB}{its':List Ap}{k':Nat},Inv (eV X N scope (own++cl) C s2 H2 fp) ([(D,{ cls:=.type "list",data:=.seq (EM its') k' })]++gO fp s7.heap) τ1 H' z ->
    tn (i+1) z.heap/\(∀b∈fp,H' b=IF)/\Inv (eV X N scope (own++cl) C s2 H2 fp) [(D,{ cls:=.type "list",data:=.seq (EM its') k' })] τ1 H' z:=λ{H' z its' k'} Iz=>by
   have get:∀b∈fp,∀o,s7.heap.get? b=ID o->z.heap.get? b=ID o/\H' b=IF:=λb hb o q=>by
    obtain⟨a1,a2,_⟩:=Iz.pin (b,o) (AR _ (AR _ (ju hb q)));exact⟨a1,a2⟩
   refine⟨T.keep _ _ _ iN λb hb o q=>(get b hb o q).1,λb hb=>?_,Iz.lq⟩;obtain⟨o,q,_⟩:=T.obj _ _ iN b hb;exact(get b hb o q).2
  cases ok with
  | false=>
   rw[if_neg A8] at q9 |-;obtain⟨m',hm,w9⟩:=pf _ _ _ q9;obtain⟨a1,a2,a3⟩:=HP I9;exact⟨m',hm,i+1,ae,τ1,H9,af,k,a3,a1,a2,va,hz,w9⟩
  | true=>
   rw[if_pos rfl] at q9 |-;refine noE ((he (own++cl) C s2 H2 fp).h _ s9 τ1 H9 _ I9 q9) λy dA ⟨v,H10,I10,rv,Na⟩=>?_;obtain⟨m',hm,zI⟩:=pf _ _ _ Na;obtain⟨a1,a2,a3⟩:=HP I10;obtain⟨dD,nD,_,_,_⟩:=a3.pin (D,_) (AR _ (AL.mpr Z));have ar:=va.length;refine FR F.slot_list_append ⟨_,dD,rfl⟩ L7 (Lv _ _) (PySem.list_append D af.toArray k y (by rw[A0];omega)) ⟨dD,?_⟩;obtain⟨k',q⟩:∃k',(dA.heap.update D (CC λa=>a.push y)).get? D=ID { cls:=.type "list",data:=.seq (af++[y]).toArray k' }:=by
    have q:=PySem.IsL.update dD (λa=>a.push y);rw[show af.toArray.push y=(af++[y]).toArray by simp] at q;exact⟨_,q⟩
   have a4:Inv (eV X N scope (own++cl) C s2 H2 fp) (gO fp s7.heap) τ1 H10 dA:=I10.kJ λp hp=>I10.pin p (AR _ (AR _ hp));have a5:Inv (eV X N scope (own++cl) C s2 H2 fp) (gO fp s7.heap) τ1 H10 { dA with heap:=dA.heap.update D (CC λa=>a.push y),toks:=dA.toks }:=
    a4.turned (it:=D) (λb o hb z=>(C7 _ _ (Co hb)).trans z) nD (na2 hC) (.inr (na4 hD))
     (λx c z=>by
      rcases O.look z with⟨_,g,_⟩|⟨_,g⟩
      ·exact JJ (lt_trans (by rw[hC];exact DD D) g)
      ·obtain⟨_,o,h1,_⟩:=I2.cell x c g;exact na0 (A6 h1) hD) λp hp=>by
      have hb:=(nT (by simpa [eV] using hp)).1;exact na0 (a8 _ hb) hD
   obtain⟨b1,b2,b3⟩:=(show tn (i+1) (dA.heap.update D (CC λa=>a.push y))/\(∀b∈fp,H10 b=IF)/\True from
    ⟨T.keep _ _ _ a1 λb hb o z=>(C7 _ _ (na0 (a8 b hb) hD).symm).trans z,a2,trivial⟩)
   refine⟨m',hm,i+1,ae++[v],τ1,H10,af++[y],k',a5.kJ λp hp=>?_,b1,b2,va.append (.cons rv .nil),by rw[AQ,BS];omega,zI⟩;have ep:=AL.mp hp;subst ep;exact⟨q,nD,na2 hC,ie,λv z=>by cases z⟩
 have e1:{ newEnv scope C X.env.globals (own++cl) X.env.qual IF .none (ID X.env) X.env.builtins with scope:=relabel scope X.env }=Fa scope (own++cl) C X.env:=rfl;exact codeAny_compStart_list (fo _ Z) (T.self _ 0 _ _ _ T0 (fo _ Z))
def Zm{x:Str}(N:List Str)(mp:List (Option Nat))(hn:Nm X.N X.env.scope i x)(OP:X.N.Nodup)(gT:X.N=NX)(cn:X.env.scope.names=kX)(S:Fx NX kX N mp scope)(hc:X.calm=true)
  (hi:QI X tg iter wi)(hg:∀cl C s H fp,QG (eV X N scope cl C s H fp) tg g)(ht:∀cl C s H fp,QC (eV X N scope cl C s H fp) br tc)(he:∀cl C s H fp,QE (eV X N scope cl C s H fp) aS te)
  (hf:X.fn x=true\/X.env.scope.names.lookup x=ID .local:=by exact .inl Z)
  (UK:HI [.Name x ba] (.ListComp aS [⟨tg,iter,br,0⟩] scope pos) ag.line X.env=pure true:=by rfl)
  (h1:(D8 [.Name x ba] X.env).map (·.2)=[E3 (.Name x ba) X.env]:=by rfl)
  (hs:∀x,Cb iter X.env x=pure x:=by intro _;rfl):QS X (.Assign [.Name x ba] (.ListComp aS [⟨tg,iter,br,0⟩] scope pos) ag) (z8 (Lx mp wi g tc te) (lF i)):=by
 refine⟨λac s σ H Dn I h=>?_⟩;rw[exec_Assign_arm];refine An (C4 ?_);rw[UK];refine An (Au ?_);rw[if_pos rfl,h1];exact An (An (thn (OJ gT cn S hc hi hg ht he hs I h (.set (nx:=Dn.nx) hn OP hf)) λ_ s' ⟨τ,H',I',q'⟩=>Au (Au ⟨τ,H',I',q'⟩)))
def cO(N:List Str)(mp:List (Option Nat))(gT:X.N=NX)(cn:X.env.scope.names=kX)(S:Fx NX kX N mp scope)(hc:X.calm=true)
  (hi:QI X tg iter wi)(hg:∀cl C s H fp,QG (eV X N scope cl C s H fp) tg g)(ht:∀cl C s H fp,QC (eV X N scope cl C s H fp) br tc)(he:∀cl C s H fp,QE (eV X N scope cl C s H fp) aS te)
  (hs:∀x,Cb iter X.env x=pure x:=by intro _;rfl):QE X (.ListComp aS [⟨tg,iter,br,0⟩] scope pos) (Lx mp wi g tc te):=⟨λac s σ H Q I h=>by
 rw[eval_ListComp];exact OJ gT cn S hc hi hg ht he hs I h .val⟩
end
structure DA(K:AA)(x:Str)(st:Stmt)(f:IN)(od an:Option IN)(sl:Array (Option Ap))(oc kV dc pm cd ct:Ap):Prop where
 a:nsIn K B8 x=ID (ID (.ref f))
 l:K.lookup f=ID ⟨oc,od,.func (fnOf x x (fJ st) (cZ st) (aj st) .none kV dc pm an cd ct),sl⟩
 c:codeIn K cd x=true
 k:keepIn K (.ref f)=true
def DA.d{x:Str}{st:Stmt}{sl:Array (Option Ap)}{kV dc cd:Ap}(D:DA K x st f od an sl oc kV dc pm cd ct)(ps:List Str)(X:K.In h)(G:h.Ns B8 mg)
  (hb:∀(kV di pm:Ap)(an:Option IN)(aw ct:Ap)(us:List Ap),us.length=ps.length->JO (fnOf x x (fJ st) (cZ st) (aj st) .none kV di pm an aw ct) ⟨us,[]⟩=pure (ps.zip us)):abH K mg x st ps f (fnOf x x (fJ st) (cZ st) (aj st) .none kV dc pm an cd ct):=
 agj X G D.a D.l D.c D.k hb
def DB(K:AA)(x:Str)(st:Stmt):Prop:=∃(f:IN)(od an:Option IN)(sl:Array (Option Ap)) (oc kV dc pm cd ct:Ap),DA K x st f od an sl oc kV dc pm cd ct
def DBc(K:AA)(x:Str)(st:Stmt)(cb:IN):Prop:=∃(f:IN)(od an:Option IN)(sl:Array (Option Ap)) (oc kV dc pm ct:Ap),DA K x st f od an sl oc kV dc pm (.ref cb) ct
theorem DB.d{K:AA}{h:Heap}{mg:Str->Option Ap}{x:Str}{st:Stmt}(D:DB K x st)(ps:List Str)(X:K.In h)(G:h.Ns B8 mg)
   (hb:∀(kV di pm:Ap)(an:Option IN)(aw ct:Ap)(us:List Ap),us.length=ps.length->JO (fnOf x x (fJ st) (cZ st) (aj st) .none kV di pm an aw ct) ⟨us,[]⟩=pure (ps.zip us):=by
   intro _ _ _ _ _ _ us hl
   first
   | (obtain⟨z0,rfl⟩:=ln1 hl;rfl)
   | (obtain⟨z0,z1,rfl⟩:=ln2 hl;rfl)
   | (obtain⟨z0,z1,z2,rfl⟩:=ln3 hl;rfl)
   | (obtain⟨z0,z1,z2,z3,rfl⟩:=ln4 hl;rfl)
   | (obtain⟨z0,z1,z2,z3,z4,rfl⟩:=ln5 hl;rfl)):∃f fd,abH K mg x st ps f fd:=by
 obtain⟨f,od,an,sl,oc,kV,dc,pm,cd,ct,a⟩:=D;exact⟨_,_,a.d ps X G hb⟩
def NS(K:AA):List Str->Prop
 | []=>True
 | x::r=>nsIn K B8 x=ID IF/\NS K r
theorem NS.all{K:AA}:∀{l:List Str},NS K l->∀x∈l,nsIn K B8 x=ID IF
 | y::r,h,x,hx=>(AX.mp hx).elim (λe=>e ▸ h.1) (NS.all h.2 x)
def Fun.okz{x:Str}{st:Stmt}{N:List Str}{k:Nat}(F:Fun K x qual st f fd)(S:bw N ps (aj st))
   (dE:∀(aw:Ap)(A:Bz)(outer:List Env)(s:AB)(H:Hp)(vs:List V)(Q:VK)(E:XK),gw k (A.deeper (F9 qual (aj st) s.heap.objs.size f aw))->sp vs H Q E ->
   ∃t,QB (KN CX0 P w K mg base N qual (aj st) f aw A outer s H E).nox (cZ st) t/\t { nx:=λ_ H'=>Q .non H',rt:=Q } (L2.start N vs) H)
  (len:∀vs H Q E,sp vs H Q E->vs.length=ps.length:=by
   intro vs H Q E h
   repeat (first|(obtain⟨rfl,_⟩:=h;rfl)|obtain⟨_,h⟩:=h)):c7 P w K mg base CX0 (k+1) f fd ps sp:=F.okq S len dE
inductive Pg where
 | pick (l:Int)
 | one (k:Nat) (r:Pg)
 | wit (k:Nat) (r:Pg)
 | low (k:Nat) (a b:Pg)
 | msk (l:Int) (r:Pg)
 | tab
 | odd (d:AF)
structure OddOk(d:AF):Prop where
 tab:d≠.tuple [.str "table"]
 pick:∀l,d≠.tuple [.str "pick",.int l]
 one:∀(k:Nat) r,d≠.tuple [.str "is",.int (k:Int),r]
 wit:∀(k:Nat) r,d≠.tuple [.str "within",.int (k:Int),r]
 low:∀(k:Nat) a b,d≠.tuple [.str "below",.int (k:Int),a,b]
 msk:∀l r,d≠.tuple [.str "mask",.int l,r]
section
variable{R:Result->AB->Prop}
abbrev tG(aS tg iter c8 am:Expr)(scope:C8)(pos:Pos):Expr:=.ListComp aS [⟨tg,iter,[],0⟩,⟨c8,am,[],0⟩] scope pos
theorem X4(aS tg iter c8 am:Expr)(scope:C8)(pos:Pos)(it ae:Ap)(env:Env) :
  JP (tG aS tg iter c8 am scope pos) 0 it ae env=(F4 iter.pos >>= λ_=>EJ it >>= λr=>match r with
   | none=>pure (.done .next)
   | some v=>DM tg it v >>= λ_=>E3 tg env v >>= λ_=>
    eval am env >>= λx=>F4 am.pos >>= λ_=>Cb am env x >>= λx=>FH [x] (IY x) >>= λsr=>runOwn (.compStart (tG aS tg iter c8 am scope pos) 1 sr ae env) env >>= λ_=>
     HP (.compLoop (tG aS tg iter c8 am scope pos) 0 it ae env)):=by rfl
theorem abO(aS tg iter c8 am:Expr)(scope:C8)(pos:Pos)(it ae:Ap)(env:Env) :
  JP (tG aS tg iter c8 am scope pos) 1 it ae env=(F4 am.pos >>= λ_=>EJ it >>= λr=>match r with
   | none=>pure (.done .next)
   | some v=>DM c8 it v >>= λ_=>E3 c8 env v >>= λ_=>
    (eval aS env >>= λx=>call (.builtin "list.append") [ae,x] >>= λ_=>pure ()) >>= λ_=>
     HP (.compLoop (tG aS tg iter c8 am scope pos) 1 it ae env)):=by rfl
def Ym{c8:Expr}{it ae:Ap}
  (h0:D5 (AN prog w) A (.compLoop (tG aS tg iter c8 am scope pos) 1 it ae env) R s)
  (h:AI (AN prog w) A (IY it) (λyf s'=>D5 (AN prog w) A (.compLoop (tG aS tg iter c8 am scope pos) 1 yf ae env) R s') (EK (AN prog w) A env λx s'=>R (.error x) s') s) :
  D5 (AN prog w) A (.compStart (tG aS tg iter c8 am scope pos) 1 it ae env) R s:=by
 refine GH (show AI _ _ ((compStart (tG aS tg iter c8 am scope pos) 1 it ae env).onRaise (λx=>do JU x env;F4 theWindowsPlace)) _ _ s from wpAny_notedAt ?_);unfold compStart;show AI _ _ (ask >>= _) _ _ s;refine An (Ee (wpAny_ite ?_));split
 ·exact Au (AD Z h0)
 refine An (DI ?_);show AI _ _ (F4 am.pos >>= _) _ _ s;exact An (C4 (An (BD h (λyf s' h'=>Au (AD Z h')) λ_ _ x=>x)))
theorem aas{aS tg iter c8 am:Expr}{scope:C8}{pos:Pos}{it ae:Ap}{env:Env}(eK:∀x,Cb am env x=pure x)(J:Nat->AB->Prop)
   (bE:∀n s,J n s->AI (AN prog w) A (EJ it) (λr s1=>match r with
   | none=>R (.ok .next) s1
   | some v=>AI (AN prog w) A (DM tg it v) (λ_ gc=>AI (AN prog w) A (E3 tg env v) (λ_ s2=>
     AI (AN prog w) A (eval am env) (λx s3=>AI (AN prog w) A (IY x) (λsr s4=>
      D5 (AN prog w) A (.compStart (tG aS tg iter c8 am scope pos) 1 sr ae env) (λr s5=>match r with | .ok _=>∃m,m<n/\J m s5 | .error _=>False) s4)
      (λ_ _=>False) s3) (λ_ _=>False) s2) (λ_ _=>False) gc) (λ_ _=>False) s1) (λ_ _=>False) s)
  (n:Nat) (h:J n s):D5 (AN prog w) A (.compLoop (tG aS tg iter c8 am scope pos) 0 it ae env) R s:=by
 refine KB Z J (λn z hJ=>?_) n h;show AI _ A ((JP (tG aS tg iter c8 am scope pos) 0 it ae env).onRaise (λy=>do JU y env;HV y)) _ _ z;refine LB ?_;rw[X4];refine An (C4 (An (BD (bE n z hJ) (λr s1 h1=>?_) λ_ _ q=>q.elim)));cases r with
 | none=>exact Au h1
 | some v=>
  refine An (BD h1 (λ_ gc jp=>?_) λ_ _ q=>q.elim);refine An (BD jp (λ_ s2 h2=>An (BD h2 (λx s3 h3=>?_) λ_ _ q=>q.elim)) λ_ _ q=>q.elim);refine An (C4 (An (C5 (eK x) (An (CB (BD h3 (λsr s4 h4=>?_) λ_ _ q=>q.elim))))));refine An (wpAny_runOwn (EW h4 λr s5 h5=>?_));cases r with
  | ok f=>exact Au ⟨rfl,h5⟩
  | error e=>exact h5.elim
theorem adx{aS tg iter c8 am:Expr}{scope:C8}{pos:Pos}{it ae:Ap}{env:Env}(J:Nat->AB->Prop)
   (bE:∀n s,J n s->AI (AN prog w) A (EJ it) (λr s1=>match r with
   | none=>R (.ok .next) s1
   | some v=>AI (AN prog w) A (DM c8 it v) (λ_ gc=>AI (AN prog w) A (E3 c8 env v) (λ_ s2=>
     AI (AN prog w) A (eval aS env) (λx s4=>AI (AN prog w) A (call (.builtin "list.append") [ae,x]) (λ_ s5=>∃m,m<n/\J m s5) (λ_ _=>False) s4) (λ_ _=>False) s2) (λ_ _=>False) gc) (λ_ _=>False) s1) (λ_ _=>False) s)
  (n:Nat) (h:J n s):D5 (AN prog w) A (.compLoop (tG aS tg iter c8 am scope pos) 1 it ae env) R s:=by
 refine KB Z J (λn z hJ=>?_) n h;show AI _ A ((JP (tG aS tg iter c8 am scope pos) 1 it ae env).onRaise (λy=>do JU y env;HV y)) _ _ z;refine LB ?_;rw[abO];refine An (C4 (An (BD (bE n z hJ) (λr s1 h1=>?_) λ_ _ q=>q.elim)));cases r with
 | none=>exact Au h1
 | some v=>
  refine An (BD h1 (λ_ gc jp=>?_) λ_ _ q=>q.elim);refine An (BD jp (λ_ s2 h2=>An (An (BD h2 (λx s3 h3=>?_) λ_ _ q=>q.elim))) λ_ _ q=>q.elim);exact An (BD h3 (λ_ s5 h5=>Au (Au ⟨rfl,h5⟩)) λ_ _ q=>q.elim)
end
end L2
set_option maxHeartbeats 8000000
namespace L2
open PySem PySem.Spec PyProof.Rows
def Qg(mp:List (Option Nat))(wi:TI)(g:TG)(kF:TI)(g2:TG)(te:TE):TE:=λσ H Q=>wi σ H λJ H1=>
 ∃W:Nat->Nat->List V->St->Hp->Prop,(∃m,W 0 m [] (fO mp σ) H1)/\∀i m ae τ H2,W i m ae τ H2 ->
  (J.stop i H2/\∀d,H2 d=IF->Q (.ref d) (upd H2 d (.lst ae))) \/
  (J.go i H2/\∃N:List V->St->Hp->Prop,(∀ah τ' H',N ah τ' H'->∃m',m'<m/\W (i+1) m' ah τ' H')/\∀x H3,J.yld i H2 x H3->g x τ H3 λτ1 H4=>kF τ1 H4 λJ2 H5=>
   ∃W2:Nat->Nat->List V->St->Hp->Prop,(∃m2,W2 0 m2 ae τ1 H5)/\∀j m2 eC τ2 H6,W2 j m2 eC τ2 H6 ->
    (J2.stop j H6/\N eC τ2 H6) \/
    (J2.go j H6/\eC.length<AJ/\∃N2:List V->St->Hp->Prop,(∀ah τ' H',N2 ah τ' H'->∃m',m'<m2/\W2 (j+1) m' ah τ' H')/\∀x2 H7,J2.yld j H6 x2 H7->g2 x2 τ2 H7 λτ3 H8=>te τ3 H8 λv H9=>N2 (eC++[v]) τ3 H9))
section
variable{N:List Str}
def ZK{c8:Expr}(N:List Str)(mp:List (Option Nat))(gT:X.N=NX)(cn:X.env.scope.names=kX)(S:Fy NX kX N mp scope)(hc:X.calm=true)
  (hi:PI X tg iter wi)(hg:∀cl C s H fp,PG (bH X N scope cl C s H fp) tg g)(wp:∀cl C s H fp,PI (bH X N scope cl C s H fp) c8 am kF)(rL:∀cl C s H fp,PG (bH X N scope cl C s H fp) c8 g2)(he:∀cl C s H fp,PE (bH X N scope cl C s H fp) aS te)
  (hs:∀x,Cb iter X.env x=pure x:=by intro _;rfl)(eK:∀env x,Cb am env x=pure x:=by intro _ _;rfl):PE X (tG aS tg iter c8 am scope pos) (Qg mp wi g kF g2 te):=by
 intro ac s σ H Q I h;obtain⟨cl,ft,aT,dv⟩:=Vh I cn S.fre;rw[eval_ListComp];refine GB (use:=IF) Z hs ft S.kind S.locs ?_;refine thn (hi ac s σ H _ I h) λv s1 h1=>thn h1 λyb s2 h2=>?_;obtain⟨it,fp,tn,J,H2,e,I2,T,eS,f2,W,⟨m0,w0⟩,bE⟩:=h2;subst e;refine BE (HR S.nocell (by intro y hy;simp at hy) (λh3 ef du=>?_) S.kind);dsimp only at ef du |-;have a8:∀b∈fp,b<s2.heap.objs.size:=λb hb=>by
  obtain⟨o,q,_⟩:=T.obj _ _ eS b hb;exact A6 q
 generalize hD:s2.heap.objs.size=D at ef du;generalize i9:s2.heap.push { cls:=.type "list",dict:=IF,data:=.seq ([]:List Ap).toArray }=P2 at ef du |-;have hC:P2.objs.size=D+1:=by rw[<- i9,CY,hD]
 generalize y8:P2.objs.size=C at ef du |-;rw[y8] at hC;have dq:∀b o,s2.heap.get? b=ID o->h3.get? b=ID o:=λb o q=>by
  have hb:=A6 q;exact du.extBut b o (na1 hb hD hC) (AE _ (i9 ▸ AE _ q))
 have g0:h3.get? D=ID { cls:=.type "list",data:=.seq ([]:List Ap).toArray }:=
  du.extBut _ _ (na2 hC) (AE _ (by rw[<- i9,<- hD];exact AU _ Z))
 have ie:D∉frs X.stack:=λz=>by
  rcases AX.mp (I2.oN D z) with q|q
  ·exact na0 I2.lt hD q.symm
  exact I2.Z7 (na4 hD) q
 have I0:Inv (bH X N scope cl C s2 H2 fp) [(D,{ cls:=.type "list",data:=.seq ([]:List Ap).toArray })] (fO mp σ) H2 { s2 with heap:=h3,toks:=s2.toks+([]:List (Str×Ap)).length }:=
  K4 (s':={ s2 with heap:=h3,toks:=s2.toks+([]:List (Str×Ap)).length }) gT cn S I2 f2 a8 (na3 hD hC) aT dv Z Z ⟨_,ef⟩ dq λp hp=>by
   have ep:=AL.mp hp;subst ep;exact⟨g0,I2.hok.fresh (na4 hD),na2 hC,ie,λv z=>by cases z⟩
 have T0:tn 0 h3:=T.keep _ _ _ eS λb _ o q=>dq b o q;have fo:∀z:AB,z={ s2 with heap:=h3,toks:=s2.toks+([]:List (Str×Ap)).length } ->
   D5 (AN X.prog X.w) X.A (.compLoop (tG aS tg iter c8 am scope pos) 0 (.ref it) (.ref D) (Fa scope cl C X.env))
    (compPost (AN X.prog X.w) X.A X.xe IF (EP X ac σ Q) (.ref D) C) z:=by
  rintro z rfl;have cm:∀{H':Hp}{pl:List (IN×Obj)},(∀b∈fp,H' b=IF)->(∀p∈pl,p.1=D)->∀b∈fp,mY (bH X N scope cl C s2 H2 fp) pl H' b:=λhn hp b hb=>by
   have nE:=a8 b hb;refine⟨hn b hb,na1 nE hD hC,(K3 cn S I2 f2 a8 (na3 hD hC) aT dv).exfs b hb,.inl hb,λx c q=>(f2 b hb).2.2.2.2.1 x c (aT x c q),λp hpp=>?_⟩;have wb:=hp p (by simpa [bH] using hpp);rw[wb];exact(na0 nE hD).symm
  refine aas (env:=Fa scope cl C X.env) (eK _) (λn z=>∃i ae τ H' af k,Inv (bH X N scope cl C s2 H2 fp) [(D,{ cls:=.type "list",data:=.seq (EM af) k })] τ H' z/\tn i z.heap/\(∀b∈fp,H' b=IF)/\Vals ae af/\ae.length<=AJ/\W i n ae τ H')
   ?_ m0 ⟨0,[],_,H2,[],0,I0,T0,λb hb=>(f2 b hb).1,.nil,DC _,w0⟩
  rintro n s5 ⟨i,ae,τ,H5,af,k,I5,st5,kA,va,hz,w5⟩;rcases bE i n ae τ H5 w5 with⟨stop,qn⟩|⟨go,N9,pf,step⟩
  ·refine noE (T.done (bH X N scope cl C s2 H2 fp) Z Z Z hc i _ s5 τ H5 _ I5 (cm kA ζ) st5 stop) λr s6 ⟨hr,I6⟩=>?_;subst hr;obtain⟨m6,rg,_⟩:=I6.loc;refine⟨m6,rg,λh' sb=>?_⟩;obtain⟨dD,nD,_,_,_⟩:=I6.pin (D,_) (AR _ (AL.mpr Z));have I7:Inv X ac σ (upd H5 D (.lst ae)) { s6 with heap:=h' }:=R4 I2 f2 hD hC I6.os I6.base I6.hok I6.bare nD I6.free sb ⟨hz,af,k,va,(sb.2 D (na2 hC)).trans dD⟩;exact⟨.ref D,_,I7,rfl,qn D nD⟩
  refine noE (T.item (bH X N scope cl C s2 H2 fp) Z Z Z hc i _ s5 τ H5 _ I5 (cm kA ζ) st5 go) λr s6 ⟨u,hr,h6⟩=>?_;subst hr;refine noE h6 λ_ s7 ⟨x,H7,I7,r7,y7,iN,xb⟩=>?_;have I7':=I7.pinned (cm xb ζ) (T.obj _ _ iN);have HP:∀{H':Hp}{z:AB}{its':List Ap}{k':Nat}{τ1:St},Inv (bH X N scope cl C s2 H2 fp) ([(D,{ cls:=.type "list",data:=.seq (EM its') k' })]++gO fp s7.heap) τ1 H' z ->
    tn (i+1) z.heap/\(∀b∈fp,H' b=IF)/\Inv (bH X N scope cl C s2 H2 fp) [(D,{ cls:=.type "list",data:=.seq (EM its') k' })] τ1 H' z:=λ{H' z its' k' τ1} Iz=>by
   have get:∀b∈fp,∀o,s7.heap.get? b=ID o->z.heap.get? b=ID o/\H' b=IF:=λb hb o q=>by
    obtain⟨a1,a2,_⟩:=Iz.pin (b,o) (AR _ (AR _ (ju hb q)));exact⟨a1,a2⟩
   refine⟨T.keep _ _ _ iN λb hb o q=>(get b hb o q).1,λb hb=>?_,Iz.lq⟩;obtain⟨o,q,_⟩:=T.obj _ _ iN b hb;exact(get b hb o q).2
  refine noE (hg cl C s2 H2 fp _ s7 τ H7 x u _ I7' r7 (step x H7 y7)) λ_ s8 ⟨τ1,H8,I8,q8⟩=>?_
  -- the second walk
  refine noE (wp cl C s2 H2 fp _ s8 τ1 H8 _ I8 q8) λv9 s9 h9=>noE h9 λitv2 dA h10=>?_;obtain⟨sr,zd,ZH,J2,H10,e2,I10,T2,MS,XB,W2,⟨m2,zI⟩,F'⟩:=h10;subst e2;have lm:∀{H':Hp}{its':List Ap}{k':Nat},(∀b∈zd,H' b=IF)->∀b∈zd,mY (bH X N scope cl C s2 H2 fp) ([(D,{ cls:=.type "list",data:=.seq (EM its') k' })]++gO fp s7.heap) H' b:=λ{H' its' k'} hn b hb=>by
   obtain⟨_,a2,a3,a4,a5,a6⟩:=XB b hb;refine⟨hn b hb,a2,a3,a4,a5,λp hp=>?_⟩;rcases BG.mp hp with z|z
   ·exact a6 p (EF _ z)
   rcases BG.mp z with z|z
   ·have ep:=AL.mp z;subst ep;exact a6 (D,{ cls:=.type "list",data:=.seq (EM af) k }) (AR _ (EF _ (AL.mpr Z)))
   exact a6 p (AR _ (AR _ z))
  have nD2:∀b∈zd,b≠D:=λb hb=>by
   obtain⟨_,_,_,_,_,a6⟩:=XB b hb;exact(a6 (D,{ cls:=.type "list",data:=.seq (EM af) k }) (AR _ (EF _ (AL.mpr Z)))).symm
  have sv:D5 (AN X.prog X.w) X.A (.compLoop (tG aS tg iter c8 am scope pos) 1 (.ref sr) (.ref D) (Fa scope cl C X.env))
    (λr s5=>match r with | .ok _=>∃m,m<n/\∃i ae τ H' af k,Inv (bH X N scope cl C s2 H2 fp) [(D,{ cls:=.type "list",data:=.seq (EM af) k })] τ H' s5/\tn i s5.heap/\(∀b∈fp,H' b=IF)/\Vals ae af/\ae.length<=AJ/\W i m ae τ H' | .error _=>False) dA:=by
   refine adx (env:=Fa scope cl C X.env) (λn z=>∃j ae τ H' af k,Inv (bH X N scope cl C s2 H2 fp) ([(D,{ cls:=.type "list",data:=.seq (EM af) k })]++gO fp s7.heap) τ H' z/\ZH j z.heap/\(∀b∈zd,H' b=IF)/\Vals ae af/\ae.length<=AJ/\W2 j n ae τ H')
    ?_ m2 ⟨0,ae,τ1,H10,af,k,I10,MS,λb hb=>(XB b hb).1,va,hz,zI⟩
   rintro n2 eD ⟨j,eC,τ2,H11,a9,k2,I11,MR,OV,Se,dC,zD⟩;rcases F' j n2 eC τ2 H11 zD with⟨stop,qn⟩|⟨go2,aI,N2,hN2,MQ⟩
   ·refine noE (T2.done (bH X N scope cl C s2 H2 fp) Z Z Z hc j _ eD τ2 H11 _ I11 (lm OV) MR stop) λr db ⟨hr,I12⟩=>?_;subst hr;obtain⟨m',hm,w12⟩:=pf _ _ _ qn;obtain⟨a1,a2,a3⟩:=HP I12;exact⟨m',hm,i+1,eC,τ2,H11,a9,k2,a3,a1,a2,Se,dC,w12⟩
   refine noE (T2.item (bH X N scope cl C s2 H2 fp) Z Z Z hc j _ eD τ2 H11 _ I11 (lm OV) MR go2) λr db ⟨u2,hr,y'⟩=>?_;subst hr;refine noE y' λ_ ly ⟨x2,H13,I13,r13,y13,vb,Xs⟩=>?_;have I13':=I13.pinned (lm Xs) (T2.obj _ _ vb);refine noE (rL cl C s2 H2 fp _ ly τ2 H13 x2 u2 _ I13' r13 (MQ x2 H13 y13)) λ_ pS ⟨τ3,H14,I14,M'⟩=>?_;refine noE (he cl C s2 H2 fp _ pS τ3 H14 _ I14 M') λy iO ⟨v,H15,I15,rv,M3⟩=>?_;obtain⟨m',hm,w15⟩:=hN2 _ _ _ M3;have OU:∀b∈zd,∀o,ly.heap.get? b=ID o->iO.heap.get? b=ID o/\H15 b=IF:=λb hb o q=>by
    obtain⟨a1,a2,_⟩:=I15.pin (b,o) (AR _ (AR _ (ju hb q)));exact⟨a1,a2⟩
   have PR:ZH (j+1) iO.heap:=T2.keep _ _ _ vb λb hb o q=>(OU b hb o q).1;have f15:∀b∈zd,H15 b=IF:=λb hb=>by
    obtain⟨o,q,_⟩:=T2.obj _ _ vb b hb;exact(OU b hb o q).2
   have I16:=I15.lq;obtain⟨dD,nD,_,_,_⟩:=I16.pin (D,_) (AR _ (EF _ (AL.mpr Z)));have ar:=Se.length;refine FR F.slot_list_append ⟨_,dD,rfl⟩ L7 (Lv _ _) (PySem.list_append D a9.toArray k2 y (by rw[A0];omega)) ⟨dD,?_⟩;obtain⟨k',q⟩:∃k',(iO.heap.update D (CC λa=>a.push y)).get? D=ID { cls:=.type "list",data:=.seq (a9++[y]).toArray k' }:=by
    have q:=PySem.IsL.update dD (λa=>a.push y);rw[show a9.toArray.push y=(a9++[y]).toArray by simp] at q;exact⟨_,q⟩
   have a4:Inv (bH X N scope cl C s2 H2 fp) (gO fp s7.heap) τ3 H15 iO:=I16.kJ λp hp=>I16.pin p (AR _ (AR _ hp));have a5:Inv (bH X N scope cl C s2 H2 fp) (gO fp s7.heap) τ3 H15 { iO with heap:=iO.heap.update D (CC λa=>a.push y),toks:=iO.toks }:=
    a4.turned (it:=D) (λb o hb z=>(C7 _ _ (Co hb)).trans z) nD (na2 hC) (.inr (na4 hD))
     (λx c z=>by
      obtain⟨_,o,h1,_⟩:=I2.cell x c (aT x c z);exact na0 (A6 h1) hD) λp hp=>by
      have hb:=(nT (by simpa [bH] using hp)).1;exact na0 (a8 _ hb) hD
   refine⟨m',hm,j+1,eC++[v],τ3,H15,a9++[y],k',a5.kJ λp hp=>?_,T2.keep _ _ _ PR λb hb o z=>(C7 _ _ (nD2 b hb).symm).trans z,f15,Se.append (.cons rv .nil),by rw[AQ,BS];omega,w15⟩;rcases BG.mp hp with z|z
   ·have ep:=AL.mp z;subst ep;exact⟨q,nD,na2 hC,ie,λv z=>by cases z⟩
   exact a5.pin p (AR _ z)
  exact Ym sv (T2.self _ 0 _ _ _ MS sv)
 exact codeAny_compStart_list (fo _ Z) (T.self _ 0 _ _ _ T0 (fo _ Z))
end
end L2
set_option maxHeartbeats 4000000
namespace L2
open PySem PySem.Spec PyProof.Rows
def InW(g2:TG)(te:TE)(N:List V->St->Hp->Prop)(ae:List V)(τ1:St)(J2:It)(H5:Hp):Prop:=
 ∃W2:Nat->Nat->List V->St->Hp->Prop,(∃m2,W2 0 m2 ae τ1 H5)/\∀j m2 eC τ2 H6,W2 j m2 eC τ2 H6 ->
  (J2.stop j H6/\N eC τ2 H6) \/
  (J2.go j H6/\eC.length<AJ/\∃N2:List V->St->Hp->Prop,(∀ah τ' H',N2 ah τ' H'->∃m',m'<m2/\W2 (j+1) m' ah τ' H')/\∀x2 H7,J2.yld j H6 x2 H7->g2 x2 τ2 H7 λτ3 H8=>te τ3 H8 λv H9=>N2 (eC++[v]) τ3 H9)
def aeu(mp:List (Option Nat))(g:TG)(kF:TI)(g2:TG)(te:TE)(σ:St)(Q:VK)(J:It)(H1:Hp):Prop:=
 ∃W:Nat->Nat->List V->St->Hp->Prop,(∃m,W 0 m [] (fO mp σ) H1)/\∀i m ae τ H2,W i m ae τ H2 ->
  (J.stop i H2/\∀d,H2 d=IF->Q (.ref d) (upd H2 d (.lst ae))) \/
  (J.go i H2/\∃N:List V->St->Hp->Prop,(∀ah τ' H',N ah τ' H'->∃m',m'<m/\W (i+1) m' ah τ' H')/\∀x H3,J.yld i H2 x H3->g x τ H3 λτ1 H4=>kF τ1 H4 (InW g2 te N ae τ1))
section
variable{τ1:St}{Q:VK}
def ad2(h:∀R:It->Hp->Prop,R=aeu mp g kF g2 te σ Q->wi σ H R):Qg mp wi g kF g2 te σ H Q:=h _ rfl
end
def Zr{c8:Expr}(N:List Str)(mp:List (Option Nat))(gT:X.N=NX)(cn:X.env.scope.names=kX)(S:Fy NX kX N mp scope)(hc:X.calm=true)
  (hi:QI X tg iter wi)(hg:∀cl C s H fp,QG (bH X N scope cl C s H fp) tg g)(wp:∀cl C s H fp,QI (bH X N scope cl C s H fp) c8 am kF)(rL:∀cl C s H fp,QG (bH X N scope cl C s H fp) c8 g2)(he:∀cl C s H fp,QE (bH X N scope cl C s H fp) aS te)
  (hs:∀x,Cb iter X.env x=pure x:=by intro _;rfl)(eK:∀env x,Cb am env x=pure x:=by intro _ _;rfl):QE X (.ListComp aS [⟨tg,iter,[],0⟩,⟨c8,am,[],0⟩] scope pos) (Qg mp wi g kF g2 te):=
 ⟨ZK N mp gT cn S hc hi.h (λcl C s H fp=>(hg cl C s H fp).h) (λcl C s H fp=>(wp cl C s H fp).h) (λcl C s H fp=>(rL cl C s H fp).h) (λcl C s H fp=>(he cl C s H fp).h) hs eK⟩
end L2
namespace SRT
open PySem PySem.Builtin PySem.Builtin.List PyProof.Rows
def wC:SortKind:=(sortPriv% PySem.Builtin.KeyKind.tuples) true
def TK(s:AB)(x:Ap)(a k:Int):Prop:=∃q o n t u z,x=.ref q/\s.heap.get? q=ID o/\o.cls=.type "tuple" /\ o.data=.seq #[.int a t,.int k u,z] n
def QK{a b:Int}{t u:Tok}{Q:Bool->AB->Prop}(h:Q (decide (a<b)) s):AI (AN prog w) A (oneLt' false (.int a t) (.int b u)) Q E s:=by
 rw[oneLt'_eq];refine An (wpAny_richCompare_same (op:=.Lt) (T := "int") (typeIs_int s a t) (typeIs_int s b u) slot_int_lt (call_int_lt ⟨(by intro h;cases h),?_⟩));exact EE h
def afP(a k b l:Int):Bool:=decide (a<b\/(a=b/\k<l))
def aay{x y:Ap}{a k b l:Int}{Q:Bool->AB->Prop}(hx:TK s x a k)(hy:TK s y b l)(hd:k≠l)(h:Q (afP a k b l) s):AI (AN prog w) A (keyLt' wC x y) Q E s:=by
 obtain⟨q,o,n,t,u,z,rfl,ho,_,hs⟩:=hx;obtain⟨q',o',n',t',u',z',rfl,mw,_,UO⟩:=hy;show AI _ _ (AW.List.listItems (.ref q) >>= λxs=>AW.List.listItems (.ref q') >>= _) _ _ s;refine An (Hc ho hs ?_);refine An (Hc mw UO ?_);show AI _ _ (forIn [((GE a t,GE b t'),0),((GE k u,GE l u'),1),((z,z'),2)] _ _ >>= _) _ _ s;rw[E4];refine An (An (An (JE ?_)));unfold afP at h;by_cases e:a=b
 ·subst e;rw[beq_self_eq_true];refine Au ?_;simp only[E4];refine An (An (JE ?_));rw[beq_false_of_ne hd];refine An (QK (Au (Au (Au ?_))));rw[show decide (a<a\/a=a/\k<l)=decide (k<l) from decide_eq_decide.mpr ω] at h;exact h
 rw[beq_false_of_ne e];refine An (oneLt_int (Au (Au (Au ?_))));rw[show decide (a<b\/a=b/\k<l)=decide (a<b) from decide_eq_decide.mpr ω] at h;exact h
end SRT
namespace SRT
open PySem PyProof.Rows
def Rk(f:CS->Int)(xs:Array CS)(i:Nat):Int:=match xs[i]? with
 | some p=>f p
 | none=>0
def Rk.at{f:CS->Int}{xs ys:Array CS}(h:xs[i]?=ys[j]?):Rk f xs i=Rk f ys j:=by
 unfold Rk;rw[h]
def Asc(f:CS->Int)(xs:Array CS)(n:Nat):Prop:=∀i j,i<j->j<n->Rk f xs i<Rk f xs j
def Dsc(f:CS->Int)(xs:Array CS)(n:Nat):Prop:=∀i j,i<j->j<n->Rk f xs j<Rk f xs i
def Asc.snoc{f:CS->Int}{xs:Array CS}(h:Asc f xs n)(h1:1<=n)(hl:Rk f xs (n-1)<Rk f xs n):Asc f xs (n+1):=λi j gg hj=>by
 by_cases e:j=n
 ·subst e;by_cases e2:i=j-1
  ·subst e2;exact hl
  have:=h i (j-1) ω ω;omega
 exact h i j gg ω
def Dsc.snoc{f:CS->Int}{xs:Array CS}(h:Dsc f xs n)(h1:1<=n)(hl:Rk f xs n<Rk f xs (n-1)):Dsc f xs (n+1):=λi j gg hj=>by
 by_cases e:j=n
 ·subst e;by_cases e2:i=j-1
  ·subst e2;exact hl
  have:=h i (j-1) ω ω;omega
 exact h i j gg ω
def Dsc.mirror{f:CS->Int}{xs:Array CS}(h:Dsc f xs n)(hn:n<=xs.size):Asc f (mirror xs 0 n ((n-0)/2)) n:=λi j gg hj=>by
 have e1:=getElem?_mirror_all (i:=0) hn i;have e2:=getElem?_mirror_all (i:=0) hn j;rw[if_pos ⟨DC _,ω⟩] at e1 e2;rw[Rk.at e1,Rk.at e2];exact h _ _ ω ω
structure RB(a₀:Array CS)(st:D2):Prop where
 kind:kindOf st=wC
 perm:(B9 st).toList.Perm a₀.toList
 fail:Kn st=IF
 pend:Cn st=#[]
def RB.size{st:D2}(h:RB a₀ st):(B9 st).size=a₀.size:=by
 have:=h.perm.length_eq;simpa using this
def RB.set{xs:Array CS}{st:D2}(h:RB a₀ st)(hp:xs.Perm (B9 st)):RB a₀ (setArr st xs):=
 ⟨h.kind,(Array.perm_iff_toList_perm.mp hp).trans h.perm,h.fail,h.pend⟩
section
variable{f:CS->Int}
def Asks(prog:AO)(w:Bi)(A:Bz)(E:Ap->AB->Prop)(s:AB)(a₀:Array CS)(f:CS->Int):Prop:=
 ∀(st:D2)(x y:CS)(Q:Option Bool->D2->Prop),kindOf st=wC->x∈a₀.toList->y∈a₀.toList->f x≠f y->Q (ID (decide (f x<f y))) st->wpS (AN prog w) A E s (lt' x y) Q st
def Mt{st:D2}(hB:RB a₀ st)(hf:(a₀.toList.map f).Nodup)(hi:i<a₀.size)(hj:j<a₀.size)(gg:i≠j):Rk f (B9 st) i≠Rk f (B9 st) j:=by
 have hn:((B9 st).toList.map f).Nodup:=(hB.perm.map f).nodup_iff.mpr hf;have hz:=hB.size;have e1:(B9 st)[i]?=ID (B9 st)[i]:=getElem?_pos _ i ω;have e2:(B9 st)[j]?=ID (B9 st)[j]:=getElem?_pos _ j ω;unfold Rk;rw[e1,e2];show f _≠f _;intro e;refine gg ((List.getElem_inj (xs:=(B9 st).toList.map f) (i:=i) (j:=j) (h₀:=by simp;omega) (h₁:=by simp;omega) hn).mp ?_);simpa using e
def ltR{st:D2}{i' j':Nat}{Q:Option Bool->D2->Prop}(O:Asks prog w A E s a₀ f)(hf:(a₀.toList.map f).Nodup)(hB:RB a₀ st)(i j:Nat)(ei:i'=i)(ej:j'=j)(hi:i<a₀.size)(hj:j<a₀.size)(gg:i≠j)
  (h:Q (ID (decide (Rk f (B9 st) i<Rk f (B9 st) j))) st):wpS (AN prog w) A E s (ltAt' i' j') Q st:=by
 subst ei;subst ej;have hz:=hB.size;have ck:=Mt hB hf hi hj gg;rw[ltAt'_eq];refine CH (wpS_get ?_);refine CH (Va ω λp hp=>?_);refine CH (Va ω λq hq=>?_);have mp:p∈a₀.toList:=hB.perm.mem_iff.mp (by simpa using Lc hp);have mq:q∈a₀.toList:=hB.perm.mem_iff.mp (by simpa using Lc hq);unfold Rk at h ck;rw[hp,hq] at h ck;exact O st p q Q hB.kind mp mq ck h
def agk{st:D2}{Q:Option Nat->D2->Prop}(O:Asks prog w A E s a₀ f)(hf:(a₀.toList.map f).Nodup)(hB:RB a₀ st)(fm:Nat)(en:fm=a₀.size)(h1:1<=fm)
  (h:∀n dy,1<=n->n<=fm->RB a₀ dy->Asc f (B9 dy) n->Q (ID n) dy):wpS (AN prog w) A E s (countRun' 0 fm) Q st:=by
 refine CH (LU (Hd (I:=λx c z=>z=st/\c=(IF,x)/\Asc f (B9 st) x) (Q:=λc z=>z=st/\∃n,c=(IF,n)/\1<=n/\n<=fm/\Asc f (B9 st) n/\(n<fm->Rk f (B9 st) n<Rk f (B9 st) (n-1))) ?_ ?_ ⟨rfl,rfl,λi j _ _=>ω⟩) ?_)
 ·rintro x c z W' hx ⟨rfl,rfl,ha⟩;dsimp only;refine CH (ltR O hf hB x (x-1) ω ω ω ω ω ?_);by_cases e:Rk f (B9 z) x<Rk f (B9 z) (x-1)
  ·rw[decide_eq_true e];exact D0 ⟨rfl,x,rfl,W',ω,ha,λ_=>e⟩
  rw[decide_eq_false e];have:=Mt hB hf (i:=x) (j:=x-1) ω ω ω;exact D0 ⟨rfl,rfl,ha.snoc W' ω⟩
 ·rintro c z ⟨rfl,rfl,ha⟩;exact⟨rfl,_,rfl,ω,ω,(by rw[KI h1] at ha;rw[KI h1];exact ha),λq=>ω⟩
 rintro c z ⟨rfl,n,rfl,k1,k2,ha,hx⟩;dsimp only;by_cases he:(n == fm)=true
 ·rw[if_pos he];exact D0 (h n z k1 k2 hB ha)
 rw[if_neg he];have k3:n<fm:=by have:¬(n=fm):=(by simpa using he);omega
 by_cases hg:n>1
 ·rw[if_pos hg];refine CH (ltR O hf hB 0 (n-1) Z ω ω ω ω ?_);rw[decide_eq_true (ha 0 (n-1) ω ω)];exact D0 (h n z k1 k2 hB ha)
 rw[if_neg hg];have e1:n=1:=ω;subst e1;have hd:Dsc f (B9 z) 2:=λi j gg hj=>by
  have:i=0:=by omega
  have:j=1:=by omega
  subst i;subst j;exact hx k3
 refine CH (wpS_lift (DI (AD Z ?_)));refine CH (LU (Hd (I:=λx c z'=>z'=z/\c=(IF,x,0)/\Dsc f (B9 z) x) (Q:=λc z'=>z'=z/\∃n,c=(IF,n,0)/\2<=n/\n<=fm/\Dsc f (B9 z) n) ?_ ?_ ⟨rfl,rfl,hd⟩) ?_)
 ·rintro x c z' h2x qS ⟨rfl,rfl,hd⟩;dsimp only;refine CH (ltR O hf hB x (x-1) ω ω ω ω ω ?_);have ck:=Mt hB hf (i:=x) (j:=x-1) ω ω ω;by_cases e:Rk f (B9 z') x<Rk f (B9 z') (x-1)
  ·rw[decide_eq_true e];dsimp only;rw[if_pos rfl,if_neg δ];exact D0 ⟨rfl,rfl,hd.snoc ω e⟩
  rw[decide_eq_false e];dsimp only;rw[if_neg (A8)];refine CH (ltR O hf hB (x-1) x ω ω ω ω ω ?_);have aI:Rk f (B9 z') (x-1)<Rk f (B9 z') x:=ω;rw[decide_eq_true aI];exact D0 ⟨rfl,x,rfl,h2x,ω,hd⟩
 ·rintro c z' ⟨rfl,rfl,hd⟩;rw[KI ω] at hd |-;exact⟨rfl,_,rfl,ω,A3 _,hd⟩
 rintro c z' ⟨rfl,n,rfl,q1,q2,hd⟩;dsimp only;rw[if_neg δ];have hz:=hB.size;apply CH;apply wpS_reverse;have RI:RB a₀ (setArr z' (mirror (B9 z') 0 (0+n) ((0+n-0)/2))):=hB.set (mirror_perm _ _ _ _);have ha':Asc f (B9 (setArr z' (mirror (B9 z') 0 (0+n) ((0+n-0)/2)))) n:=by
  have:=hd.mirror ω;rw[zero_add];exact this
 generalize setArr z' (mirror (B9 z') 0 (0+n) ((0+n-0)/2))=eS at RI ha' |-;refine CH (LU (Hd (I:=λx c z=>z=eS/\c=(IF,x)/\Asc f (B9 eS) x) (Q:=λc z=>z=eS/\∃n,c=(IF,n)/\1<=n/\n<=fm/\Asc f (B9 eS) n) ?_ ?_ ⟨rfl,rfl,ha'⟩) ?_)
 ·rintro x c z W' hx ⟨rfl,rfl,ha⟩;dsimp only;refine CH (ltR O hf RI x (x-1) ω ω ω ω ω ?_);by_cases e:Rk f (B9 z) x<Rk f (B9 z) (x-1)
  ·rw[decide_eq_true e];exact D0 ⟨rfl,x,rfl,ω,ω,ha⟩
  rw[decide_eq_false e];have:=Mt RI hf (i:=x) (j:=x-1) ω ω ω;exact D0 ⟨rfl,rfl,ha.snoc ω ω⟩
 ·rintro c z ⟨rfl,rfl,ha⟩;rw[KI ω] at ha |-;exact⟨rfl,_,rfl,ω,A3 _,ha⟩
 rintro c z ⟨rfl,n,rfl,k1,k2,ha⟩;exact D0 (h n z k1 k2 RI ha)
end
def Sv{f:CS->Int}{xs:Array CS}{k l:Nat}(h:Asc f xs k)(hk:k<xs.size)(hl:l<=k)(h1:∀i,i<l->Rk f xs i<Rk f xs k)(h2:∀i,l<=i->i<k->Rk f xs k<Rk f xs i):Asc f (bubble xs k (k-l)) (k+1):=by
 have g:∀i,Rk f (bubble xs k (k-l)) i=if i=l then Rk f xs k else if l<i/\i<=k then Rk f xs (i-1) else Rk f xs i:=λi=>by
  have e:=getElem?_bubble hk (k-l) ω i;rw[show k-(k-l)=l by omega] at e;split
  ·rename_i c;rw[if_pos c] at e;exact Rk.at e
  rename_i c;rw[if_neg c] at e;split
  ·rename_i c2;rw[if_pos c2] at e;exact Rk.at e
  rename_i c2;rw[if_neg c2] at e;exact Rk.at e
 intro i j gg hj;rw[g i,g j];by_cases a1:i=l
 ·rw[if_pos a1,if_neg ω,if_pos ω];exact h2 _ ω ω
 rw[if_neg a1];by_cases a2:l<i/\i<=k
 ·rw[if_pos a2,if_neg ω,if_pos ω];exact h _ _ ω ω
 rw[if_neg a2];by_cases b1:j=l
 ·rw[if_pos b1];exact h1 _ ω
 rw[if_neg b1];by_cases b2:l<j/\j<=k
 ·rw[if_pos b2];by_cases c:i=j-1
  ·omega
  exact h _ _ ω ω
 rw[if_neg b2];exact h _ _ ω ω
section
variable{f:CS->Int}
def ahL{st:D2}{ok:Nat}{Q:Bool->D2->Prop}(O:Asks prog w A E s a₀ f)(hf:(a₀.toList.map f).Nodup)(hB:RB a₀ st)(hn:n<=a₀.size)(hok:1<=ok)(hon:ok<=n)(ha:Asc f (B9 st) ok)
  (h:∀dy,RB a₀ dy->Asc f (B9 dy) n->Q true dy):wpS (AN prog w) A E s (binarySort' 0 n ok) Q st:=by
 have hm:max ok 1=ok:=ω;refine CH (LU (Hd (I:=λx c z=>RB a₀ z/\c=(IF,())/\Asc f (B9 z) x) (Q:=λc z=>RB a₀ z/\c=(IF,())/\Asc f (B9 z) n) ?_ (λc z hh=>by rw[hm,KI hon] at hh;exact hh) ⟨hB,rfl,by rw[hm];exact ha⟩) ?_)
 ·rintro k c z j3 hk ⟨hz,rfl,av⟩;dsimp only;have hsz:=hz.size;refine CH (LU (Hd (I:=λx c z'=>z'=z/\∃l r,c=(IF,l,r)/\l<=r/\r<=k/\r-l<=k-x/\(∀i,i<l->Rk f (B9 z) i<Rk f (B9 z) k)/\(∀i,r<=i->i<k->Rk f (B9 z) k<Rk f (B9 z) i)) (Q:=λc z'=>z'=z/\∃l,c=(IF,l,l)/\l<=k/\(∀i,i<l->Rk f (B9 z) i<Rk f (B9 z) k)/\(∀i,l<=i->i<k->Rk f (B9 z) k<Rk f (B9 z) i)) ?_ ?_ ⟨rfl,0,k,rfl,DC _,A3 _,A3 _,λi hi=>ω,λi h1 h2=>ω⟩) ?_)
  ·rintro x c z' _ hx ⟨rfl,l,r,rfl,q1,q2,q3,q4,q5⟩;dsimp only;by_cases hl:l≥r
   ·rw[if_pos hl];have:l=r:=by omega
    subst this;exact D0 ⟨rfl,l,rfl,q2,q4,q5⟩
   rw[if_neg hl];refine CH (ltR O hf hz k ((l+r)/2) ω ω ω ω ω ?_);have ck:=Mt hz hf (i:=k) (j:=(l+r)/2) ω ω ω;by_cases e:Rk f (B9 z') k<Rk f (B9 z') ((l+r)/2)
   ·rw[decide_eq_true e];refine D0 ⟨rfl,l,(l+r)/2,rfl,ω,ω,ω,q4,λi h1 h2=>?_⟩;by_cases c:i=(l+r)/2
    ·rw[c];exact e
    have:=av ((l+r)/2) i ω h2;omega
   rw[decide_eq_false e];refine D0 ⟨rfl,(l+r)/2+1,r,rfl,ω,q2,ω,λi h1=>?_,q5⟩;by_cases c:i=(l+r)/2
   ·rw[c];omega
   have:=av i ((l+r)/2) ω ω;omega
  ·rintro c z' ⟨rfl,l,r,rfl,q1,q2,q3,q4,q5⟩;have:l=r:=by omega
   subst this;exact⟨rfl,l,rfl,q2,q4,q5⟩
  rintro c z' ⟨rfl,l,rfl,q2,q4,q5⟩;dsimp only;refine CH (wpS_modify (D0 ⟨hz.set (bubble_perm _ _ _),rfl,?_⟩));have:=Sv av ω q2 q4 q5;show Asc f (bubble (B9 z') (0+k) (0+k-(0+l))) (k+1);rw[zero_add,zero_add];exact this
 rintro c z ⟨hz,rfl,hk⟩;exact D0 (h z hz hk)
def agF{st:D2}{Q:Unit->D2->Prop}(O:Asks prog w A E s a₀ f)(hf:(a₀.toList.map f).Nodup)(hB:RB a₀ st)(h1:1<=a₀.size)(ky:a₀.size<64)
  (h:∀dy,(B9 dy).toList.Perm a₀.toList->Kn dy=IF->Asc f (B9 dy) a₀.size->Q () dy):wpS (AN prog w) A E s sortRuns' Q st:=by
 refine CH (wpS_get ?_);dsimp only;have hs:=hB.size;dsimp only [B9] at hs;simp only[hs];have hmr:(sortPriv% PySem.Builtin.minRun) a₀.size a₀.size 0=a₀.size:=by
  obtain⟨k,hk⟩:∃k,a₀.size=k+1:=⟨a₀.size-1,ω⟩;have:minRun' (k+1) a₀.size 0=a₀.size:=by
   rw[minRun'_succ,if_pos ky];rfl
  rw[<- hk] at this;exact this
 rw[hmr];refine CH (LU (Hd (I:=λx c z=>(x=0/\c=(IF,0)/\RB a₀ z)\/(c=(IF,a₀.size)/\(B9 z).toList.Perm a₀.toList/\Kn z=IF/\(Cn z).size=1/\Asc f (B9 z) a₀.size)) (Q:=λc z=>c=(IF,a₀.size)/\(B9 z).toList.Perm a₀.toList/\Kn z=IF/\(Cn z).size=1/\Asc f (B9 z) a₀.size) ?step ?fin (.inl ⟨rfl,rfl,hB⟩)) ?post)
 case fin=>
  rintro c z (⟨hx,_,_⟩|hD)
  ·omega
  exact hD
 case step=>
  rintro x c z _ hx (⟨rfl,rfl,hz⟩|⟨rfl,d1,d2,d3,d4⟩)
  ·dsimp only;rw[if_neg ω];refine CH (agk O hf hz _ (Nat.sub_zero _) ω λn z' n1 n2 vt ha=>?_);dsimp only;have fin:∀z':D2,RB a₀ z'->Asc f (B9 z') a₀.size->∀m,m=a₀.size->(B9 (KG z' ((Cn z').push (0,m,0)))).toList.Perm a₀.toList/\Kn (KG z' ((Cn z').push (0,m,0)))=IF/\(Cn (KG z' ((Cn z').push (0,m,0)))).size=1/\Asc f (B9 (KG z' ((Cn z').push (0,m,0)))) a₀.size:=λz' vt ha m hm=>
    ⟨vt.perm,vt.fail,(by show((Cn z').push _).size=1;rw[vt.pend];rfl),ha⟩
   by_cases aI:n<a₀.size
   ·rw[if_pos aI];refine CH (wpS_lift (DI (AD Z ?_)));refine CH (ahL O hf vt (show min (a₀.size-0) a₀.size<=a₀.size by omega) n1 ω ha λz2 dC QY=>?_);rw[if_neg (show ¬((!true)=true) by decide)];refine CH (wpS_get ?_);have fb:(Cn z2).back?=IF:=by rw[dC.pend];rfl
    rw[show min (a₀.size-0) a₀.size=a₀.size by omega] at QY;dsimp only [Cn] at fb;rw[fb];refine CH (wpS_modify (D0 (.inr ⟨?_,fin z2 dC QY _ ω⟩)));rw[show 0+min (a₀.size-0) a₀.size=a₀.size by omega]
   rw[if_neg aI];have e:n=a₀.size:=ω;refine CH (wpS_get ?_);have fb:(Cn z').back?=IF:=by rw[vt.pend];rfl
   dsimp only [Cn] at fb;rw[fb];refine CH (wpS_modify (D0 (.inr ⟨?_,fin z' vt (e ▸ ha) _ e⟩)));rw[zero_add,e]
  dsimp only;rw[if_pos (A3 _)];exact D0 ⟨rfl,d1,d2,d3,d4⟩
 case post=>
  rintro c z ⟨rfl,d1,d2,d3,d4⟩;dsimp only;refine CH (LU (Hd (I:=λ_ c z'=>c=(IF,())/\z'=z) (Q:=λc z'=>c=(IF,())/\z'=z) ?_ (λ_ _ hh=>hh) ⟨rfl,rfl⟩) ?_)
  ·rintro x c z' _ _ ⟨rfl,rfl⟩;refine CH (wpS_get ?_);refine abJ (λ_=>D0 ⟨rfl,rfl⟩) λhg=>?_;have rL:¬(Cn z').size<=1:=hg;omega
  rintro c z' ⟨rfl,rfl⟩;exact D0 (h z' d1 d2 d4)
end
def aaW{v:Ap}{a k:Int}{Q:Option Ap->AB->Prop}(h:TK s v a k)(q:∀t,Q (ID (.int a t)) s):AI (AN prog w) A (firstOfTuple' v) Q E s:=by
 obtain⟨p,o,n,t,u,z,rfl,ho,hc,hs⟩:=h;show AI _ _ (typeOf (.ref p) >>= λty=>_) _ _ s;refine An (wpAny_typeOf (T := "tuple") (show s.TypeIs (.ref p) "tuple" from⟨o,ho,hc⟩) ?_);rw[if_neg δ];exact An (Hc ho hs (Au (q t)))
theorem Iu:∀{vs:List Ap}{Q:List (Option Ap)->AB->Prop},(∀v∈vs,∃a k,TK s v a k)->(∀(ws:List Ap)(ns:List Int),E7 ws ns->ws.length=vs.length->Q (ws.map ID) s)->AI (AN prog w) A (vs.mapM firstOfTuple') Q E s
 | [],Q,_,q=>by
  rw[List.mapM_nil];exact Au (q [] [] .nil Z)
 | v::vs,Q,h,q=>by
  rw[List.mapM_cons];obtain⟨a,k,hv⟩:=h v (A5 ..);refine An (aaW hv λt=>?_);refine An (Iu (vs:=vs) (λx hx=>h x (A9 _ hx)) λws ns hI hl=>?_);exact Au (q (.int a t::ws) (a::ns) (.cons a t hI) (by rw[B0,B0,hl]))
def XR{v:Ap}(hI:E7 (v::vs) ns):oneTypeOnly' (v::vs).toArray=pure (ID (.type "int")):=by
 simp only[oneTypeOnly'_eq,List.mapM_toArray,mapM_typeOf_ints hI,map_pure,pure_bind,DE,HH,IH];rw[if_pos ?_];rw[List.all_toArray,all_cons];have e:(GT "int" == GT "int")=true:=rfl;rw[e,Bool.true_and,all_map];exact FU.mpr λ_ _=>rfl
theorem adC{vs:List Ap}{Q:SortKind->AB->Prop}(h:∀v∈vs,∃a k,TK s v a k)(hn:1<=vs.length)(q:Q wC s):AI (AN prog w) A (keyKind' vs.toArray) Q E s:=by
 rw[keyKind'_eq];rw[List.mapM_toArray];rw[map_eq_pure_bind];refine An (An (Iu h λws ns hI hl=>Au ?_));have ha:(ws.map ID).toArray.all (·.isSome)=true:=by simp
 rw[if_pos ha];have hfm:(ws.map ID).toArray.filterMap id=ws.toArray:=by simp[IZ]
 rw[hfm];cases ws with
 | nil=>rw[<- hl] at hn;cases hn
 | cons v ws=>
  rw[XR hI];refine An (DI ?_);exact An (Au (Au q))
structure Fq(s:AB)(g:Ap->Int)(vs:List Ap):Prop where
 tk:∀v∈vs,∃a k,TK s v a k/\0<=k/\k<64/\g v=64*a+k
 nd:(vs.map g).Nodup
def aat{a k b l:Int}(h1:0<=k)(h2:k<64)(h3:0<=l)(h4:l<64):afP a k b l=decide (64*a+k<64*b+l):=decide_eq_decide.mpr ω
def CQ{p:CS}(h:p∈(FL vs).toList):p.1∈vs/\p.2=p.1:=by
 unfold FL at h;rw[Array.toList_zip] at h;obtain⟨i,hi,rfl⟩:=L8 h;simp
def Wc(vs:List Ap):(FL vs).toList.map (·.1)=vs:=by
 unfold FL;simp[List.map_fst_zip]
def aeb{g:Ap->Int}(h:Fq s g vs):Asks prog w A E s (FL vs) λp=>g p.1:=by
 intro st x y Q hk hx hy ck q;obtain⟨a,k,h1,h2,h3,e1⟩:=h.tk x.1 (CQ hx).1;obtain⟨b,l,h4,h5,h6,e2⟩:=h.tk y.1 (CQ hy).1;rw[lt'_eq];refine CH (wpS_get ?_);rw[hk];refine CH (wpS_lift (E6 ?_));by_cases N4:k=l
 ·-- the same second number: the first are unlike
  subst N4;obtain⟨p,o,n,t,u,z,e,ho,hc,hs⟩:=h1;obtain⟨p',o',n',t',u',z',e',mw,i7,UO⟩:=h4;have cK:a≠b:=λz=>ck (by show g x.1=g y.1;rw[e1,e2,z]);rw[e,e'];show AI _ _ (AW.List.listItems (.ref p) >>= λxs=>AW.List.listItems (.ref p') >>= _) _ _ s;refine An (Hc ho hs ?_);refine An (Hc mw UO ?_);show AI _ _ (forIn [((GE a t,GE b t'),0),((GE k u,GE k u'),1),((z,z'),2)] _ _ >>= _) _ _ s;rw[E4];refine An (An (An (JE ?_)));rw[beq_false_of_ne cK];refine An (oneLt_int (Au (Au (Au ⟨rfl,D0 ?_⟩))));have:decide (a<b)=decide (g x.1<g y.1):=decide_eq_decide.mpr ω;rw[this];exact q
 refine aay h1 h4 N4 ⟨rfl,D0 ?_⟩;rw[aat h2 h3 h5 h6,<- e1,<- e2];exact q
def Fq.keep{g:Ap->Int}(h:Fq s g vs)(k:∀q o,s.heap.get? q=ID o->o.cls=.type "tuple" -> s'.heap.get? q=ID o):Fq s' g vs:=
 ⟨λv hv=>by
  obtain⟨a,b,⟨q,o,n,t,u,z,e,ho,hc,hs⟩,r⟩:=h.tk v hv;exact⟨a,b,⟨q,o,n,t,u,z,e,k q o ho hc,hc,hs⟩,r⟩,h.nd⟩
def Xx{g:Ap->Int}{xs:Array CS}(hp:xs.toList.Perm (FL vs).toList)(h:Asc (λp=>g p.1) xs (FL vs).size):((xs.map (·.2)).toList.map g).Pairwise (· < ·):=by
 have hz:xs.size=(FL vs).size:=by
  have:=hp.length_eq;simpa using this
 refine List.pairwise_iff_getElem.mpr λi j hi hj gg=>?_;have hix:i<xs.size:=by simpa using hi
 have hjx:j<xs.size:=by simpa using hj
 have e:∀(k:Nat)(hk:k<xs.size),g xs[k].2=Rk (λp=>g p.1) xs k:=λk hk=>by
  have m:xs[k]∈(FL vs).toList:=hp.mem_iff.mp ζ;unfold Rk;rw[getElem?_pos xs k hk];show g _=g _;rw[(CQ m).2]
 have a1:=h i j gg ω;rw[<- e i hix,<- e j hjx] at a1;simpa using a1
theorem afM{a:IN}{vs:List Ap}{n:Nat}{P:Fin->AB->Prop}{g:Ap->Int}(ho:s.heap.get? a=ID (F1 "list" vs.toArray n))(hR:Fq s g vs)
  (ar:vs.length<64)(h:∀xs:Array Ap,xs.toList.Perm vs->(xs.toList.map g).Pairwise (· < ·)->P (.done (.ret .none)) { s with heap:=sortedHeap s.heap a vs xs }):AI (AN prog w) A (AW.«list.sort» ⟨[.ref a],[]⟩) P E s:=by
 rw[list_sort_plain];have la:a<s.heap.objs.size:=A6 ho;refine An (Hc ho Z (An (listUpdate_at ho Z ?_)));obtain⟨e,he⟩:∃e,(s.heap.update a (CC λ_=>#[])).get? a=ID (F1 "list" #[] e):=⟨_,get?_update_seq ho λ_=>#[]⟩;refine An (seqEpoch_at he Z (An (IG (An (wpAny_newList (CB ?_))))));have h6:(((s.heap.update a (CC λ_=>#[])).push (F1 "tuple" vs.toArray 0)).push (F1 "list" #[] 0)).get? a=ID (F1 "list" #[] e):=by
  rw[Heap.get?_push_ne _ _ _ (by rw[size_push',size_update];exact BO (Nat.le_succ_of_le la)),Heap.get?_push_ne _ _ _ (by rw[size_update];exact BO la),he]
 have hR6:Fq { s with heap:=((s.heap.update a (CC λ_=>#[])).push (F1 "tuple" vs.toArray 0)).push (F1 "list" #[] 0) } g vs:=hR.keep λq o hq hc=>by
  have ck:q≠a:=λz=>by
   rw[z,ho] at hq;cases hq;exact absurd (show GT "list" = GT "tuple" from hc) δ
  exact AE _ (AE _ ((C7 _ _ (Co ck)).trans hq))
 show AI _ A _ P E { s with heap:=((s.heap.update a (CC λ_=>#[])).push (F1 "tuple" vs.toArray 0)).push (F1 "list" #[] 0) };dsimp only;by_cases h2:(vs.toArray.size<2)
 ·rw[if_pos h2,if_pos h2];refine(An (Au ?_));rw[StateT.run_pure];refine An (Au (An (seqEpoch_at h6 Z (An (listUpdate_at h6 Z ?_ (hsz2:=?z))))))
  case z=>rw[Array.size_map];show(FL vs).size<=_;rw[pairsOf_size,Lu];omega
  simp only[Me,bne_self_eq_false,if_false];have e0:((vs.toArray.zip vs.toArray).map (·.2)).toList=vs:=by rw[show(vs.toArray.zip vs.toArray).map (·.2)=(FL vs).map (·.2) from rfl,HJ]
  refine Au (h _ (by rw[e0]) ?_);rw[e0]
  match vs,h2 with
  | [],_=>exact .nil
  | [v],_=>exact Kt _ _
  | _::_::t,h2=>exact absurd h2 ζ
 rw[if_neg h2,if_neg h2];refine An (adC (λv hv=>?_) (by simp at h2;omega) ?_)
 ·obtain⟨a,k,t,_⟩:=hR6.tk v hv;exact⟨a,k,t⟩
 refine An (BD (agF (a₀:=FL vs) (f:=λp=>g p.1) (st:=D2.mk' wC (vs.toArray.zip vs.toArray) #[] 7 IF) (Q:=λ_ z=>(B9 z).toList.Perm (FL vs).toList/\Kn z=IF/\Asc (λp=>g p.1) (B9 z) (FL vs).size) (aeb hR6) ?nd ⟨rfl,Ff.refl _,rfl,rfl⟩ (by rw[pairsOf_size];simp at h2;omega) (by rw[pairsOf_size];exact ar) λz d1 d2 d3=>⟨d1,d2,d3⟩) ?_ λ_ _ e=>e)
 case nd=>
  have:=hR.nd;rw[<- Wc vs,GL] at this;exact this
 rintro⟨⟨⟩,z⟩ s' ⟨rfl,d1,d2,d3⟩;have hm:((B9 z).map (·.2)).toList.Perm vs:=by
  have:=d1.map (·.2);rw[<- toList_map,<- toList_map,HJ] at this;exact this
 refine An (seqEpoch_at h6 Z (An (listUpdate_at h6 Z ?_ (hsz2:=?z))))
 case z=>
  have:=hm.length_eq;rw[Ex] at this;show((B9 z).map (·.2)).size<=_;rw[this,Lu];omega
 dsimp only;rw[d2];simp only[Me,bne_self_eq_false,if_false];exact Au (h _ hm (Xx d1 d3))
def abU{g:Ap->Int}(hl:s.heap.IsList l vs.toArray)(hR:Fq s g vs)(ar:vs.length<64)
  (h:∀xs:Array Ap,xs.toList.Perm vs->(xs.toList.map g).Pairwise (· < ·)->Q (.ref (s.heap.objs.size+1)) { s with heap:=sortedAll s.heap vs xs }):AI (AN prog w) A (call (.builtin "sorted") [.ref l]) Q E s:=by
 refine Calls.call_function_entry kind_sorted plain_sorted entry_sorted (args_sorted1 (.ref l)) ?_;unfold AW.«sorted»;refine An (m:=checkCount "sorted" 1 1 _) (Au (An (collect_list hl (An (wpAny_newList ?_)))));have hz:((s.heap.push (F1 "list" #[] 0)).update s.heap.objs.size (CC (· ++ vs.toArray))).objs.size=s.heap.objs.size+1:=size_update .. |>.trans (size_push' _ _);have hL:(((s.heap.push (F1 "list" #[] 0)).update s.heap.objs.size (CC (· ++ vs.toArray))).push (F1 "list" vs.toArray 0)).get? (s.heap.objs.size+1)=ID (F1 "list" vs.toArray 0):=hz ▸ AU _ rfl;show AI (AN prog w) A.in1 _ _ E { s with heap:=((s.heap.push (F1 "list" #[] 0)).update s.heap.objs.size (CC (· ++ vs.toArray))).push (F1 "list" vs.toArray 0) };rw[hz];refine An (CB (B1 slot_list_sort ⟨_,hL,rfl⟩ entry_list_sort (afM hL (hR.keep λq o hq hc=>?_) ar λxs hp ho=>⟨_,rfl,Au ⟨_,rfl,h xs hp ho⟩⟩) (args_list_sort _)));have ck:s.heap.objs.size≠q:=λz=>by
  exact BO (A6 hq) z.symm
 exact AE _ ((C7 _ _ ck).trans (AE _ hq))
end SRT
namespace L2
open PySem PySem.Spec PyProof.Rows
def rkT(key:IN->Int×Int)(p:IN):Int:=64*(key p).1+(key p).2
def agH:List V->Hp->VK->Prop:=λvs H Q=>∃(l:IN)(ps:List IN)(key:IN->Int×Int),vs=[.ref l]/\H l=ID (.lst (ps.map AT))/\ps.length<64 /\
 (∀p∈ps,(∃v,H p=ID (.tup [.int (key p).1,.int (key p).2,v]))/\0<=(key p).2/\(key p).2<64)/\(ps.map (rkT key)).Nodup /\
 ∀(d:IN)(qs:List IN),H d=IF->qs.Perm ps->(qs.map (rkT key)).Pairwise (· < ·)->Q (.ref d) (upd H d (.lst (qs.map AT)))
theorem GZ:∀{ps:List IN}{us:List Ap},Vals (ps.map AT) us->us=ps.map EQ
 | [],_,h=>by cases h;rfl
 | p::ps,_,h=>by
  cases h with
  | cons r h=>
   cases r;rw[GZ h];rfl
theorem Hw:∀(ps:List IN),Vals (ps.map AT) (ps.map EQ)
 | []=>.nil
 | p::ps=>.cons rfl (Hw ps)
def rkV(key:IN->Int×Int):Ap->Int
 | .ref p=>rkT key p
 | _=>0
theorem V8:∀{xs:List Ap}{ps:List IN},xs.Perm (ps.map EQ)->∃qs:List IN,xs=qs.map EQ/\qs.Perm ps:=λ{xs ps} h=>by
 have hx:∀v∈xs,∃p,v=EQ p:=λv hv=>by
  obtain⟨p,_,e⟩:=Ch.mp (h.mem_iff.mp hv);exact⟨p,e.symm⟩
 obtain⟨qs,rfl⟩:∃qs:List IN,xs=qs.map EQ:=by
  clear h
  induction xs with
  | nil=>exact⟨[],rfl⟩
  | cons v xs ih=>
   obtain⟨p,rfl⟩:=hx v (A5 ..);obtain⟨qs,rfl⟩:=ih λx m=>hx x (A9 _ m);exact⟨p::qs,rfl⟩
 refine⟨qs,rfl,?_⟩;have:=h.filterMap λv=>match v with | .ref p=>ID p|_=>IF
 simpa [IZ,Function.comp_def] using this
theorem R8:dm X (.builtin "sorted") agH:=by
 intro ac s σ H xs us Q I rv h;obtain⟨l,ps,key,rfl,el,hl,hp,i3,q⟩:=h;cases rv with
 | cons r rr=>
  cases rr;cases r;obtain⟨af,rl,pl,hz⟩:=I.list (SqL.of el);have e:=GZ rl;subst e;have hg:(λv=>rkV key v)∘EQ=rkT key:=rfl;refine SRT.abU (g:=rkV key) pl.isList ⟨λv hv=>?_,?_⟩ (by rw[AG];exact hl) λys hy ho=>?_
  ·obtain⟨p,hm,rfl⟩:=Ch.mp hv;obtain⟨⟨v,ep⟩,k1,k2⟩:=hp p hm;obtain⟨ts,rt,pt,_⟩:=I.tuple (SqT.of ep);obtain⟨ob,g1,g2,n,g3⟩:=pt;cases rt with
   | cons r1 rt=>
    cases rt with
    | cons r2 rt=>
     cases rt with
     | cons r3 rt=>
      cases rt;obtain⟨t,rfl⟩:=r1;obtain⟨u,rfl⟩:=r2;exact⟨(key p).1,(key p).2,⟨p,ob,n,t,u,_,rfl,g1,g2,g3⟩,k1,k2,rfl⟩
  ·rw[GL];exact i3
  obtain⟨qs,e,hq⟩:=V8 hy;rw[e,GL] at ho;obtain⟨n,he⟩:=sortedAll_at s.heap (ps.map EQ) ys;have le:s.heap.objs.size<=s.heap.objs.size+1:=le_succ _;have hf:H (s.heap.objs.size+1)=IF:=I.hok.fresh le;refine⟨.ref (s.heap.objs.size+1),_,I.laid (t':=s.toks) (λc o z=>sortedAll_old z) le (show bW X.prog X.w _ _ _ (.lst (qs.map AT)) from⟨aQ (by rw[AG,hq.length_eq];omega),qs.map EQ,n,Hw qs,?_⟩),rfl,q _ qs hf hq ho⟩;rw[he];have:ys=(qs.map EQ).toArray:=by rw[<- e]
  rw[this]
end L2
namespace SRT
open PySem PyProof.Rows
def Kd:mroOf (.type "reversed")=pure [.type "reversed",.type "object"]:=by rw[mroOf_type];kernel_rfl
def ado:typeLookup (.type "reversed") "__new__" = pure (ID (.builtin "reversed.__new__")):=by rw[GI,EU];kernel_rfl
def NT:Bind.madeBy (.type "reversed")=pure (ID "reversed.__new__"):=madeBy_type Kd ado ψ
def abb(a:Ap):checkTypeCall "reversed" ⟨[a],[]⟩=pure ():=by kernel_rfl
def abg(a:Ap):checkBuiltinCall "reversed.__new__" ⟨[.type "reversed",a],[]⟩=pure ():=by kernel_rfl
def Et:LN table "reversed.__new__" = ID AW.«reversed.__new__»:=Kk (by kernel_rfl)
def CP:plainId "reversed.__new__" = true:=by decide +kernel
def adl:isSubtype (.type "list_reverseiterator") (.type "reversed")=pure false:=by rw[Fh];kernel_rfl
def mJ:Slot "list_reverseiterator" "__next__" "list_reverseiterator.__next__" :=
 .of (owner := "list_reverseiterator") (n := "__next__") (by rw[GI,EU];kernel_rfl) ψ ψ ψ (by first|exact .inl ψ|exact .inr ψ) (by rw[Fh];kernel_rfl)
def Ck:Slot "list_reverseiterator" "__iter__" "list_reverseiterator.__iter__" :=
 .of (owner := "list_reverseiterator") (n := "__iter__") (by rw[GI,EU];kernel_rfl) ψ ψ ψ (by first|exact .inl ψ|exact .inr ψ) (by rw[Fh];kernel_rfl)
def zU:LN table "list_reverseiterator.__next__" = ID AW.«list_reverseiterator.__next__»:=Kk (by kernel_rfl)
def Oo:LN table "list_reverseiterator.__iter__" = ID AW.«dict_keyiterator.__iter__»:=entryFor_alias (id' := "dict_keyiterator.__iter__") (by kernel_rfl) Z ψ (by kernel_rfl)
def Fj(a:Ap):LO "list_reverseiterator.__next__" ⟨[a],[]⟩:=by unfold LO;kernel_rfl
def Sx(a:Ap):LO "list_reverseiterator.__iter__" ⟨[a],[]⟩:=by unfold LO;kernel_rfl
def u0(h:Heap)(rt l:IN)(j:Int):Prop:=h.get? rt=ID { cls:=.type "list_reverseiterator",data:=.fields #[.ref l,.int j 0] }
section
variable{rt:IN}{j:Int}
def u0.ty(h:u0 s.heap rt l j):s.TypeIs (.ref rt) "list_reverseiterator" := ⟨_,h,rfl⟩
def YM{x:Ap}{Q:Option Ap->AB->Prop}(hI:u0 s.heap rt l j)(hl:s.heap.IsList l items)(h0:0<=j)(hx:items[j.toNat]?=ID x)
  (hQ:∀h',u0 h' rt l (j-1)->Cc rt s.heap h'->Q (ID x) { s with heap:=h' }):AI (AN prog w) A (EJ (.ref rt)) Q E s:=by
 obtain⟨oL,UZ,_,nL,hdL⟩:=hl;unfold EJ;refine An (E6 (B3 (name:=EA "__next__") hI.ty mJ (B1 mJ hI.ty zU ?_ (Fj _))));show AI _ _ (field (.ref rt) 1 >>= _) _ _ s;refine An (Ct hI Z (x:=.int j 0) Z ?_);dsimp only;rw[if_neg ω];refine An (Ct hI Z (x:=.ref l) Z ?_);refine An (DL UZ hdL ?_);dsimp only;rw[hx];refine An (CF hI ζ λh1 g1 b1=>?_);exact Au ⟨_,rfl,Au (hQ h1 g1 b1)⟩
def Yl(hh:A.handled=IF){P:α->AB->Prop}(h:∀(h':Heap)(e:Ap),(∀c o,s.heap.get? c=ID o->h'.get? c=ID o)->AB.TypeIs { s with heap:=h' } e "StopIteration" -> E' e { s with heap:=h' }) :
  AI (AN prog w) A (newExc (.type "StopIteration") [] >>= λe=>(raiseNew e:Sem α)) P E' s:=by
 refine An ?_;simp only[newExc,newTuple];refine An (BE (An (m:=LP _ _) (C5 (a:=Ap.none) (by first|rfl|(simp only[LP];rfl)) ?_)) (by size_fits))
 refine BE ?_ (by size_fits);simp only[raiseNew];refine An (wpAny_handled ?_);rw[hh];exact An (Au (wpAny_throw (h _ (.ref _) (λc o e=>AE _ (AE _ e)) ⟨_,AU _ rfl,rfl⟩)))
def ab6{Q:Option Ap->AB->Prop}(hh:A.handled=IF)(hI:u0 s.heap rt l j)(h0:j<0)
  (hQ:∀h',Heap.ExtBut rt s.heap h'->Q IF { s with heap:=h' }):AI (AN prog w) A (EJ (.ref rt)) Q E s:=by
 unfold EJ;refine An (E6 (B3 (name:=EA "__next__") hI.ty mJ (B1 mJ hI.ty zU ?_ (Fj _))));show AI _ _ (field (.ref rt) 1 >>= _) _ _ s;refine An (Ct hI Z (x:=.int j 0) Z ?_);dsimp only;rw[if_pos h0];refine An (DI ?_);refine An ?_;show AI _ _ (newExc (.type "StopIteration") [] >>= λe=>(raiseNew e:Sem _)) _ _ s;refine Yl (show A.in1.handled=IF from hh) λh' e k te=>?_;refine An (HG (T := "StopIteration") (b:=true) te LI ?_);exact Au (hQ h' λb o _ z=>k b o z)
def Mu(hI:u0 s.heap rt l j)(h:Q (.ref rt) s):AI (AN prog w) A (IY (.ref rt)) Q E s:=by
 refine wpAny_pyIter_slot hI.ty Ck (B1 Ck hI.ty Oo ?_ (Sx _));show AI _ _ (ret (.ref rt)) _ _ s;exact Au ⟨_,rfl, "list_reverseiterator",_,hI.ty,mJ.lookup,h⟩
end
def Tj:isSubtype (.type "reversed") (.type "reversed")=pure true:=by rw[Fh];kernel_rfl
def ab5{P:PySem.Fin->AB->Prop}(hL:s.heap.IsList l items)(h:P (.done (.ret (.ref s.heap.objs.size))) { s with heap:=s.heap.push { cls:=.type "list_reverseiterator",data:=.fields #[.ref l,.int ((items.size:Int)-1) 0] } }) :
  AI (AN prog w) A (AW.«reversed.__new__» ⟨[.type "reversed",.ref l],[]⟩) P E s:=by
 have hT:=hL.typeIs;have hs:=Tj;unfold AW.«reversed.__new__»
 wp_walk
 refine C5 HU.lookup ?_;refine An (C5 (HU.bind _) ?_);show AI _ _ (rule "reversed.__new__.own-method" >>= _) _ _ s;refine An (DI (An (LM ?_)));obtain⟨oL,ho,_,nL,hd⟩:=hL;refine F0 HU.plain F.entry_list_reversed (HU.check _ _ _ _ _ _ _ _ hT (F.args_list_reversed_1 _) ?_);show AI _ _ (AW.List.listItems (.ref l) >>= λxs=>newFields "list_reverseiterator" [.ref l,CI ((xs.size:Int)-1)] >>= λv=>ret v) _ _ s;exact An (Hc ho hd (An (BE (Au (Au h)))))
def abj(hL:s.heap.IsList l items)(h:Q (.ref s.heap.objs.size) { s with heap:=s.heap.push { cls:=.type "list_reverseiterator",data:=.fields #[.ref l,.int ((items.size:Int)-1) 0] } }) :
  AI (AN prog w) A (call (.type "reversed") [.ref l]) Q E s:=by
 have NU:=Kd;have sR:=NT;have aT:=adl;have hct:=abb (.ref l);refine IA (GH ?_);show AI _ _ (callAny (.type "reversed") _) _ _ _;refine Au (AD (Code.quiet_builtin _ ψ) (D6 F.entry_type_call ?_));rw[Bz.under_plain (K2 "reversed" [.ref l] []) (units_type_call_type "reversed" [.ref l] [])];have h1:(GT "reversed" == GT "type")=false:=by decide +kernel
 have h2:((LV "reversed").bind (·.mro.findSome? λt=>(LV t).bind λb=>if b.noNew then ID true else if b.attrs.any (·.1 == "__new__") then ID false else IF)).getD false=false:=by decide +kernel
 iterate 60 (try any_goals first|assumption|wp_step)
 refine F0 CP Et (C5 (abg _) (ab5 hL ?_));dsimp only;have hT:AB.TypeIs { s with heap:=s.heap.push { cls:=.type "list_reverseiterator",data:=.fields #[.ref l,.int ((items.size:Int)-1) 0] } } (.ref s.heap.objs.size) "list_reverseiterator" := ⟨_,AU _ rfl,rfl⟩
 iterate 60 (try any_goals first|assumption|wp_step)
end SRT
namespace L2
open PySem PySem.Spec PyProof.Rows
def Itv(K:AA)(a:IN)(n:Nat):It:=
 ⟨λi H=>∃xs x,SqL K H a xs/\xs.length=n/\i<n/\xs[n-1-i]?=ID x,λi H x H'=>H'=H/\∀xs,SqL K H a xs->xs[n-1-i]?=ID x,λi H=>n<=i⟩
def X3(a it:IN)(n:Nat):Turn P w K tg (Itv K a n) [it] it (λi h=>SRT.u0 h it a ((n:Int)-1-i)) where
 mem:=by simp
 obj:=λi h st b hb=>by
  have e:b=it:=by simpa using hb
  subst e;exact⟨_,st,λv z=>by cases z⟩
 keep:=λi h h' st k=>k it ζ _ st
 item:=by
  intro X hP hw hK hc i ac s σ H E I hf st hg;subst hP hw hK;obtain⟨xs,x,hq,hl,hi,hx⟩:=hg;obtain⟨af,rv,p,hz⟩:=I.list hq;obtain⟨u,hu,ru⟩:=rv.get hx;obtain⟨f0,f1,f2,f3,f4,f5⟩:=hf it ζ;refine SRT.YM st p.isList ω (x:=u) (by rw[show((n:Int)-1-i).toNat=n-1-i by omega];simpa using hu) λh' dy sb=>?_;have I1:Inv X ac σ H { s with heap:=h' }:=I.turned (t':=s.toks) (λb o hb e=>(sb.2 b hb).trans e) f0 f1 f3 f4 f5;have eS:SRT.u0 h' it a ((n:Int)-1-((i+1:Nat):Int)):=by
   rw[show(n:Int)-1-((i+1:Nat):Int)=(n:Int)-1-i-1 by omega];exact dy
  exact⟨u,rfl,N6 (s:={ s with heap:=h' }) dy Z Z δ ⟨x,H,I1,ru,⟨rfl,λys hy=>by rw[I.rZ hy hq];exact hx⟩,eS,λb hb=>(hf b hb).1⟩⟩
 done:=by
  intro X hP hw hK hc i ac s σ H E I hf st hg;subst hP hw hK;replace hg:n<=i:=hg;obtain⟨f0,f1,f2,f3,f4,f5⟩:=hf it ζ;exact SRT.ab6 (I.ok.hd hc) st ω λh' eb=>⟨rfl,I.turned (t':=s.toks) (λb o hb e=>eb b o hb e) f0 f1 f3 f4 f5⟩
 self:=λ_ _ _ _ _ st h=>SRT.Mu st h
def af6(K:AA)(ta:TA):TI:=λσ H R=>ta σ H λvs H1=>∃a xs,vs=[.ref a]/\SqL K H1 a xs/\R (Itv K a xs.length) H1
def ae1{a:Expr}{p:Pos}(hg:Gl X "reversed")(hm:X.mg "reversed" = IF)(ha:QA X [a] ta)(hs:AH [a] X.env=[(false,eval a X.env)]:=by rfl):QI X tg (.Call (.Name "reversed" p) [a] [] pos) (af6 X.K ta):=⟨by
 intro ac s σ H R I h;refine Call_ (iM I hg hm boot_reversed (BI (thA (ha.h pos ac s σ H _ I h) λus s1 vs H1 I1 r1 q1=>?_) hs Z));obtain⟨l,xs,e,g1,q⟩:=q1;subst e;cases r1 with
 | cons r rr=>
  cases rr;cases r;obtain⟨af,rv,p1,eW⟩:=I1.list g1;have hl:=rv.length;refine SRT.abj p1.isList ?_;have b1:SRT.u0 (s1.heap.push { cls:=.type "list_reverseiterator",data:=.fields #[.ref l,.int ((af.toArray.size:Int)-1) 0] }) s1.heap.objs.size l ((xs.length:Int)-1-((0:Nat):Int)):=by
   have e:=AU s1.heap (o:={ cls:=.type "list_reverseiterator",data:=.fields #[.ref l,.int ((af.toArray.size:Int)-1) 0] }) rfl;unfold SRT.u0;rw[e,show((af.toArray.size:Int)-1)=(xs.length:Int)-1-((0:Nat):Int) by rw[A0];omega]
  refine SRT.Mu (s:={ s1 with heap:=_ }) b1 ?_;refine⟨s1.heap.objs.size,[s1.heap.objs.size],_,_,H1,rfl,I1.kept (t':=s1.toks) λb o e=>AE _ e,X3 l _ xs.length,b1,λb hb=>?_,q⟩;have e:b=s1.heap.objs.size:=by simpa using hb
  subst e;exact I1.GP (A3 _) (I1.hok.fresh (A3 _))⟩
def ahe(hR:R=(λJ H1=>∃W:Nat->Nat->St->Hp->Prop,(∃m,W 0 m σ H1)/\∀i m σ H,W i m σ H ->
  (J.stop i H/\D.nx σ H)\/(J.go i H/\∃N:St->Hp->Prop,(∀σ' H',N σ' H'->∃m',m'<m/\W (i+1) m' σ' H')/\∀x H',J.yld i H x H'->g x σ H' λσ2 H2=>tb { D with nx:=N,ct:=N,bk:=D.nx } σ2 H2)))
  (Pv:Nat->St->Hp->Prop)(h0:Pv 0 σ H)(hl:∀i σ H,Pv i σ H->SqL K H a xs)(hs:∀i x σ H,xs.reverse[i]?=ID x->Pv i σ H->g x σ H λσ2 H2=>tb { D with nx:=Pv (i+1),ct:=Pv (i+1),bk:=D.nx } σ2 H2)(hd:∀σ H,Pv xs.length σ H->D.nx σ H):R (Itv K a xs.length) H:=by
 subst hR;refine⟨λi m σ H=>m=xs.length-i/\i<=xs.length/\Pv i σ H,⟨xs.length,by simp,DC _,h0⟩,?_⟩;rintro i m σ H ⟨rfl,hi,p⟩;have q:=hl i σ H p;by_cases aI:i<xs.length
 ·have ex:xs[xs.length-1-i]?=ID xs[xs.length-1-i]:=AC ω;refine .inr ⟨⟨xs,_,q,rfl,aI,ex⟩,Pv (i+1),λσ' H' p'=>⟨xs.length-(i+1),ω,rfl,aI,p'⟩,λx H' y=>?_⟩;obtain⟨e,y⟩:=y;subst e;refine hs i x σ _ ?_ p;rw[KW aI];exact y xs q
 have e:i=xs.length:=ω;subst e;exact .inl ⟨A3 _,hd σ H p⟩
theorem xH{α β:Type}(f:α->β):∀(l:List α)(j:Nat),(l.eraseIdx j).map f=(l.map f).eraseIdx j
 | [],_=>rfl
 | _::_,0=>rfl
 | a::l,j+1=>by
  show f a::(l.eraseIdx j).map f=f a::(l.map f).eraseIdx j;rw[xH f l j]
end L2
namespace SRT
open PySem PyProof.Rows
def oO:Slot "range" "__reversed__" "range.__reversed__" :=
 .of (owner := "range") (n := "__reversed__") (by rw[GI,EU];kernel_rfl) ψ ψ ψ (by first|exact .inl ψ|exact .inr ψ) (by rw[Fh];kernel_rfl)
def Oq:LN table "range.__reversed__" = ID AW.«range.__reversed__»:=Kk (by kernel_rfl)
def Sy(a:Ap):LO "range.__reversed__" ⟨[a],[]⟩:=by unfold LO;kernel_rfl
def Wk:isSubtype (.type "range_iterator") (.type "reversed")=pure false:=by rw[Fh];kernel_rfl
def VP{r:IN}{n:Int}{t u v:Tok}{P:PySem.Fin->AB->Prop}(hr:IsRange s.heap r 0 n 1 t u v)(h0:0<=n)(h1:n<2^62)(h:P (.done (.ret (.ref s.heap.objs.size))) { s with heap:=s.heap.push { cls:=.type "range_iterator",data:=.fields #[CI (n-1),CI n,CI (-1)] } }) :
  AI (AN prog w) A (AW.«reversed.__new__» ⟨[.type "reversed",.ref r],[]⟩) P E s:=by
 have hT:s.TypeIs (.ref r) "range" := ⟨_,hr,rfl⟩;have hs:=Tj;unfold AW.«reversed.__new__»
 wp_walk
 refine C5 oO.lookup ?_;refine An (C5 (oO.bind _) ?_);show AI _ _ (rule "reversed.__new__.own-method" >>= _) _ _ s;refine An (DI (An (LM ?_)));refine F0 oO.plain Oq (oO.check _ _ _ _ _ _ _ _ hT (Sy _) ?_);have hsz:AW.Range.rangeSize 0 n 1=n:=by rw[rangeSize_one];split <;> omega
 show AI _ _ (AW.Range.rangeFields (.ref r) >>= _) _ _ s;unfold AW.Range.rangeFields;refine An (An (Ct hr Z (x:=.int 0 t) Z (An (C5 (a:=ID 0) Z ?_))));refine An (Ct hr Z (x:=.int n u) Z (An (C5 (a:=ID n) Z ?_)));refine An (Ct hr Z (x:=.int 1 v) Z (An (C5 (a:=ID 1) Z ?_)));refine Au ?_;dsimp only;have hsm:(AW.Range.rangeFitsLong 0&&AW.Range.rangeFitsLong n&&AW.Range.rangeFitsLong 1&&AW.Range.rangeFitsLong (-1)&&AW.Range.rangeFitsLong (0-1)&&AW.Range.rangeFitsLong n)=true:=by
  simp only[AW.Range.rangeFitsLong,CL,decide_eq_true_eq];omega
 rw[hsz,hsm,if_neg δ,if_pos rfl,show(0:Int)+(n-1)*1=n-1 by omega];exact An (BE (Au (Au h)))
def R9{r:IN}{n:Int}{t u v:Tok}(hr:IsRange s.heap r 0 n 1 t u v)(h0:0<=n)(h1:n<2^62)(h:Q (.ref s.heap.objs.size) { s with heap:=s.heap.push { cls:=.type "range_iterator",data:=.fields #[CI (n-1),CI n,CI (-1)] } }) :
  AI (AN prog w) A (call (.type "reversed") [.ref r]) Q E s:=by
 have NU:=Kd;have sR:=NT;have aT:=Wk;have hct:=abb (.ref r);refine IA (GH ?_);show AI _ _ (callAny (.type "reversed") _) _ _ _;refine Au (AD (Code.quiet_builtin _ ψ) (D6 F.entry_type_call ?_));rw[Bz.under_plain (K2 "reversed" [.ref r] []) (units_type_call_type "reversed" [.ref r] [])];have jp:(GT "reversed" == GT "type")=false:=by decide +kernel
 have h2:((LV "reversed").bind (·.mro.findSome? λt=>(LV t).bind λb=>if b.noNew then ID true else if b.attrs.any (·.1 == "__new__") then ID false else IF)).getD false=false:=by decide +kernel
 iterate 60 (try any_goals first|assumption|wp_step)
 refine F0 CP Et (C5 (abg _) (VP hr h0 h1 ?_));dsimp only;have hT:AB.TypeIs { s with heap:=s.heap.push { cls:=.type "range_iterator",data:=.fields #[CI (n-1),CI n,CI (-1)] } } (.ref s.heap.objs.size) "range_iterator" := ⟨_,AU _ rfl,rfl⟩
 iterate 60 (try any_goals first|assumption|wp_step)
end SRT
namespace L2
open PySem PySem.Spec PyProof.Rows
def agu(lo:Int)(n:Nat):It:=⟨λi _=>i<n,λi H x H'=>H'=H/\x=.int (lo-i),λi _=>n<=i⟩
def Vt(it:IN)(lo:Int)(n:Nat):Turn P w K tg (agu lo n) [it] it (λi h=>Lo h it (lo+(i:Nat)*(-1)) ((n:Int)-(i:Nat)) (-1)) where
 mem:=by simp
 obj:=λi h st b hb=>by
  have e:b=it:=by simpa using hb
  subst e;exact⟨_,st,λv z=>by
   have z':Da _=Data.cell v:=z;cases z'⟩
 keep:=λi h h' st k=>k it ζ _ st
 item:=by
  intro X hP hw hK hc i ac s σ H E I hf st hg;subst hP hw hK;obtain⟨f0,f1,f2,f3,f4,f5⟩:=hf it ζ;have W:=Walks.range (prog:=X.prog) (w:=X.w) (I.ok.hd hc) it lo (-1) n;refine W.item i s _ _ hg st λv h' tk hv dy kk=>?_;obtain⟨t,rfl⟩:=hv;have I1:Inv X ac σ H { s with heap:=h',toks:=tk }:=I.turned (λb o hb e=>kk b o (by simpa using hb) e) f0 f1 f3 f4 f5;refine⟨_,rfl,N6 (s:={ s with heap:=h',toks:=tk }) (n := "range_iterator") dy Z Z δ ⟨.int (lo-i),H,I1,⟨t,?_⟩,⟨rfl,rfl⟩,dy,λb hb=>(hf b hb).1⟩⟩;rw[show lo+(i:Int)*(-1)=lo-i by omega]
 done:=by
  intro X hP hw hK hc i ac s σ H E I hf st hg;subst hP hw hK;obtain⟨f0,f1,f2,f3,f4,f5⟩:=hf it ζ;exact wpAny_pyNext_range_end (I.ok.hd hc) st (by have:n<=i:=hg;omega) λh' eb=>⟨rfl,I.turned (t':=s.toks) (λb o hb e=>eb b o hb e) f0 f1 f3 f4 f5⟩
 self:=λ_ _ _ _ _ st h=>Kx st h
def aaK(ta:TA):TI:=λσ H R=>ta σ H λvs H1=>∃j:Int,vs=[.int j]/\(0<=j/\j<2^60)/\R (agu (j-1) j.toNat) H1
def acv{a:Expr}{p:Pos}(VX:Gl X "reversed")(VI:X.mg "reversed" = IF)(hg:Gl X "range")(hm:X.mg "range" = IF)(ha:QA X [a] ta)(hs:AH [a] X.env=[(false,eval a X.env)]:=by rfl)(Qb:AH [.Call (.Name "range" p2) [a] [] ag] X.env=[(false,eval (.Call (.Name "range" p2) [a] [] ag) X.env)]:=by rfl) :
  QI X tg (.Call (.Name "reversed" p) [.Call (.Name "range" p2) [a] [] ag] [] pos) (aaK ta):=⟨by
 intro ac s σ H R I h;refine Call_ (iM I VX VI boot_reversed (BI ?_ Qb Z));rw[Qb];show AI _ _ (spliced ((false,eval (.Call (.Name "range" p2) [a] [] ag) X.env)::CO pos [])) _ _ s;refine C0 ?_;refine Call_ (iM I hg hm boot_range (BI (thA (ha.h ag ac s σ H _ I h) λus s1 vs H1 I1 r1 q1=>?_) hs Z));obtain⟨j,e,⟨q1,q2⟩,q⟩:=q1;subst e;cases r1 with
 | cons r rr=>
  cases rr;obtain⟨t,rfl⟩:=r;refine call_range_1 (C6 ?_);refine SRT.R9 (IsRange.new ..) q1 ω ?_;have I2:Inv X ac σ H1 { s1 with heap:=s1.heap.push { cls:=.type "range",data:=.fields #[.int 0 s1.toks,.int j t,.int 1 (s1.toks+1)] },toks:=s1.toks+1+1 }:=I1.kept λb o e=>AE _ e;have st:Lo ((s1.heap.push { cls:=.type "range",data:=.fields #[.int 0 s1.toks,.int j t,.int 1 (s1.toks+1)] }).push { cls:=.type "range_iterator",data:=.fields #[CI (j-1),CI j,CI (-1)] }) (s1.heap.push { cls:=.type "range",data:=.fields #[.int 0 s1.toks,.int j t,.int 1 (s1.toks+1)] }).objs.size (j-1) j (-1):=AU _ rfl;refine Kx st ?_;refine⟨_,[_],_,_,H1,rfl,I2.kept (t':=s1.toks+1+1) λb o e=>AE _ e,Vt _ (j-1) j.toNat,?_,λb hb=>?_,q⟩
  ·show Lo _ _ (j-1+((0:Nat):Int)*(-1)) (((j.toNat:Nat):Int)-((0:Nat):Int)) (-1);rw[show j-1+((0:Nat):Int)*(-1)=j-1 by omega,show((j.toNat:Nat):Int)-((0:Nat):Int)=j by omega];exact st
  have e:b=(s1.heap.push { cls:=.type "range",data:=.fields #[.int 0 s1.toks,.int j t,.int 1 (s1.toks+1)] }).objs.size:=by simpa using hb
  subst e;exact I2.GP (A3 _) (I2.hok.fresh (A3 _))⟩
def uZ(c:IN)(q:Str):HO:=.ext λh=>h.CodeRec (.ref c) q
def abf(e:h.CodeRec (.ref c) q):bW P w H h c (uZ c q):=by
 refine⟨e,?_,λh1 h2 e1 k=>?_⟩
 ·obtain⟨c',o,vs,t,ec,ho,_⟩:=e;cases ec;exact⟨o,ho⟩
 obtain⟨c',o,vs,t,ec,ho,r⟩:=e1;cases ec;exact⟨c,o,vs,t,rfl,k o ho,r⟩
def jW(H:Hp)(P:IN)(pos:Pos)(q:Str):Prop:=∃ps,H P=ID (.tbl ps)/\TriplesOk ps.toList/\(Ix pos ps.toList=IF\/∃c',Ix pos ps.toList=ID (.ref c')/\H c'=ID (uZ c' q))
def jW.same{P:IN}(h:jW H P pos q)(s:Same H H'):jW H' P pos q:=by
 obtain⟨ps,e,t,k⟩:=h;exact⟨ps,s _ _ e,t,k.imp id λ⟨c',a,b⟩=>⟨c',a,s _ _ b⟩⟩
def jW.gY{P:IN}(h:jW H P pos q)(s:aR p H H')(hp:∀ps,H p≠ID (.tbl ps))(hq:∀c,H p≠ID (uZ c q)):jW H' P pos q:=by
 obtain⟨ps,e,t,k⟩:=h;refine⟨ps,s _ _ (λz=>hp ps (by rw[<- z];exact e)) e,t,k.imp id λ⟨c',a,b⟩=>⟨c',a,s _ _ (λz=>hq c' (by rw[<- z];exact b)) b⟩⟩
def Inv.track(I:Inv X ac σ H s)(hf:mY X ac H f)(new:bW X.prog X.w (upd H f o) s.heap f o):Inv X ac σ (upd H f o) s:=by
 obtain⟨fn,fl,ffs,fe,fc,fp⟩:=hf;have fR:∀{b u},H b=ID u->upd H f o b=ID u:=λ{b u} e=>by rw[aO (aH e fn)];exact e
 refine⟨I.ok,I.os,I.bare,⟨I.base.keep,I.base.slot,λb u e n nx=>?_,I.base.there,λb xs e=>fR (I.base.tups b xs e),λb u v e=>fR (I.base.frzs b u v e),λb ps e=>?_⟩,I.loc,I.cell,?_,λx c e=>?_,λp hp=>?_,λb u e=>?_,I.len⟩
 ·have:b≠f:=λz=>by
   rcases fe with fe|fe
   ·exact nx (z ▸ fe)
   exact absurd (A6 e) (Nat.not_lt.mpr (by rw[z];exact fe))
  rw[aO this];exact I.base.free b u e n nx
 ·obtain⟨m,em⟩:=I.base.tbls b ps e;exact⟨m,fR em⟩
 ·rw[aO (Co fl)];exact I.free
 ·rw[aO (fc x c e)];exact I.freeC x c e
 ·obtain⟨a1,a2,a3⟩:=I.pin p hp;refine⟨a1,?_,a3⟩;rw[aO (fp p hp)];exact a2
 by_cases z:b=f
 ·rw[z,aB] at e;cases e;rw[z];exact new
 rw[aO z] at e;exact(I.hok b u e).stay (λ_ _ _ q=>q) (λ_ q=>fR q) λ_ _ q=>fR q
theorem Wu{P:AO}{w:Bi}{K:AA}{mg mb:Str->Option Ap}{CX:CXT}{k:Nat}{fa a c T:IN}{fd:CU}{x:Str}{sp:Sp}{s₁:AB}{vs:List Ap}{ns:List Int}
  (KX:K.In s₁.heap)(ef:s₁.heap.Ns B8 mg)(hb:s₁.heap.Ns builtinsNs mb)(hbb:∀x:Str,x ≠ "__name__" -> mb x=Ev x)(VS:s₁.heap.NoLimit)(hg:s₁.gens=#[])
  (ha:s₁.heap.get? a=ID { cls:=.type "list",data:=.seq vs.toArray })(hi:E7 vs ns)(hl:ns.length<=AJ)(hr:gw k callerA)
  (hcd:Fk s₁.heap c T)(hT:s₁.heap.get? T=ID (LX #[]))(OR:K.lookup T=IF)(WS:s₁.heap.BuiltinsAt mg T)
  (F:∀base:Heap,K.In base->base.Ns B8 mg->base.BuiltinsAt mg T->c7 P w K mg base CX k fa fd [x] sp)(OI:∀(s:AB)(u:Ap),BindsTo s fd ⟨[u],[]⟩ [(x,u)])
  (kL:∀H:Hp,H T=ID (.tbl #[])->SqL K H a (ns.map At)->sp [.ref a] H (λv _=>v=.bl true) λ_ _ _=>False)
  (WO:∀H e s',CX [] H s₁ (λ_ _ _=>False) e s'->False) :
  D5 (AN P w) callerA (.call (.ref fa) ⟨[.ref a],[]⟩) (λr s'=>r=.ok (.ret (.bool true))/\OldK s₁.heap s'.heap/\s'.os=s₁.os/\IL s'.gens) s₁:=by
 have rv:=G3 hi;have TR:=hi.length;have TJ:a≠T:=λz=>by rw[z,hT] at ha;cases ha
 have core:∀H:Hp,H T=ID (.tbl #[])->SqL K H a (ns.map At)->HOk P w H s₁.heap->(∀b,b≠T->H b=IF\/(b=a/\K.lookup a=IF/\∃o xs,H b=ID (.frz o (.lst xs)))) ->
   D5 (AN P w) callerA (.call (.ref fa) ⟨[.ref a],[]⟩) (λr s'=>r=.ok (.ret (.bool true))/\OldK s₁.heap s'.heap/\s'.os=s₁.os/\IL s'.gens) s₁:=by
  intro H hHT hS hok hA;have gX:∀{b:IN}{o:Obj},s₁.heap.get? b=ID o->H b=IF->(Gm s₁.heap H).get? b=ID o:=λe n=>aaL e n;have oD:∀{b:IN}{o:Obj},s₁.heap.get? b=ID o->b≠T->b≠a->H b=IF:=λ{b o} _ n1 n2=>by
   rcases hA b n1 with z|z
   ·exact z
   exact absurd z.1 n2
  have P1:∀{b:IN}{m:Str->Option Ap},s₁.heap.Ns b m->(Gm s₁.heap H).Ns b m:=λ{b m} ⟨o,es,ep,e,d,r⟩=>⟨o,es,ep,gX e (oD e (λz=>by rw[z,hT] at e;cases e;cases d) λz=>by
   rw[z,ha] at e;cases e;have d':HQ vs.toArray _=Data.dict es ep:=d;cases d'),d,r⟩
  have hKb:K.In (Gm s₁.heap H):=λb o e=>gX (KX b o e) (by
   rcases hA b (λz=>by rw[z,OR] at e;cases e) with z|⟨z,z2,_⟩
   ·exact z
   rw[z,z2] at e;cases e)
  have hBb:(Gm s₁.heap H).BuiltinsAt mg T:=by
   obtain⟨bm,o,e1,e2,e3,e4,e5,e6,e7,e8⟩:=WS;exact⟨bm,o,e1,e2,e3,e4,gX e5 (oD e5 e4 λz=>by rw[z,ha] at e5;cases e5;cases e8),e6,e7,e8⟩
  have hM:Mod K mg (Gm s₁.heap H):=⟨hKb,P1 ef,⟨mb,P1 hb,hbb⟩,let ⟨mc,h1,h2⟩:=VS;⟨mc,P1 h1,h2⟩⟩;have e0:Lp P w K mg (Gm s₁.heap H) callerA [] s₁ H:=⟨rfl,hM,λb o e=>adg e,le_of_eq (WQ _ _),trivial,λb hb=>absurd (show b∈([]:List IN) from hb) ζ,hok,.of_eq hg⟩;refine EW ((F _ hKb (P1 ef) hBb).run callerA [] s₁ H ⟨[.ref a],[]⟩ [.ref a] [.ref a] _ _ hr e0 (OI s₁ (.ref a)) (.cons Z .nil) (kL H hHT hS)) λr s' h=>?_;cases r with
  | error e=>exact(WO H e s' h).elim
  | ok fl=>
   cases fl with
   | next=>exact C9 h
   | brk=>exact C9 h
   | cont=>exact C9 h
   | ret u=>
    obtain⟨v,H',os,bare,un,re,r',q⟩:=h;have q':v=.bl true:=q;subst q';obtain rfl:u=Is true:=r';have kp:∀b o,b≠T->s₁.heap.get? b=ID o->s'.heap.get? b=ID o:=λb o n e=>by
     rcases hA b n with z|⟨_,_,ob,xs,z⟩
     ·exact un.keep b o e z (by intro z;exact absurd (show b∈([]:List IN) from z) ζ) ζ
     have z2:=un.frzs b ob _ z;obtain⟨e1,_⟩:=hok b _ z;obtain⟨e2,_⟩:=re b _ z2;rw[e] at e1;cases e1;exact e2
    obtain⟨dS,hm⟩:=un.tbls T _ hHT;have hT':s'.heap.get? T=ID { cls:=.none,data:=.fields (#[]++dS) }:=re T _ hm;refine⟨rfl,⟨λb o e=>?_,λb o e=>?_⟩,os,bare⟩
    ·by_cases z:b=T
     ·subst z;rw[hT] at e;cases e;obtain⟨oc,ws,_,_,_,_,_,_,_,c1,c2,c3,c4,_⟩:=hcd;exact .inr (.inl ⟨⟨c,oc,ws,c1,c2,c3,c4⟩,rfl,#[],dS,rfl,hT'⟩)
     exact .inl (kp b o z e)
    by_cases z:b=T
    ·rw[z];exact⟨_,hT'⟩
    exact⟨o,kp b o z e⟩
 cases hk:K.lookup a with
 | some o=>
  have e:=KX a o hk;rw[ha] at e;cases e;refine core (λb=>if b=T then ID (.tbl #[]) else IF) (if_pos Z) (.inr ⟨_,vs.toArray,_,hk,rfl,rfl,rfl,by rw[A0,TR];exact hl,by simpa using rv⟩) (λb u z=>?_) λb n=>.inl (if_neg n);by_cases hbT:b=T
  ·have z':=(if_pos hbT).symm.trans z;cases z';rw[hbT];exact hT
  have z':=(if_neg hbT).symm.trans z;cases z'
 | none=>
  refine core (λb=>if b=T then ID (.tbl #[]) else if b=a then ID (.frz { cls:=.type "list",data:=.seq vs.toArray } (.lst (ns.map At))) else IF) (if_pos Z) (.inl (.inr ⟨{ cls:=.type "list",data:=.seq vs.toArray },(if_neg TJ).trans (if_pos Z)⟩)) (λb u z=>?_) λb n=>?_
  ·by_cases hbT:b=T
   ·have z':=(if_pos hbT).symm.trans z;cases z';rw[hbT];exact hT
   by_cases wE:b=a
   ·have z':=((if_neg hbT).trans (if_pos wE)).symm.trans z;cases z';subst wE;exact⟨ha,by rw[AG];exact hl,vs,_,rv,ha⟩
   have z':=((if_neg hbT).trans (if_neg wE)).symm.trans z;cases z'
  by_cases wE:b=a
  ·exact .inr ⟨wE,hk,_,_,(if_neg n).trans (if_pos wE)⟩
  exact .inl ((if_neg n).trans (if_neg wE))
def XF{l:PySem.W.OpenLaw}{k:Nat}{q:AO}{d:DefRec}{K:Params->AA}{CX:Bi->CXT}{sp:Bi->Sp}{x:Str}
  (hn:l.most=ID n)(wn:n<=AJ)(OE:d.params.defaults=[])(hr:gw k callerA)
  (hY:∀(w:Bi)(h:Heap),YP w h->(K w.params).In h/\h.get? T=ID (LX #[])/\(K w.params).lookup T=IF/\Fk h c T)
   (F:∀(w:Bi)(mg:Str->Option Ap)(fa:IN)(h:Heap),(K w.params).In h->h.Ns B8 mg->mg d.name=ID (.ref fa) ->
   ∃fd:CU,(∀(s:AB)(u:Ap),BindsTo s fd ⟨[u],[]⟩ [(x,u)]) /\
    ∀base:Heap,(K w.params).In base->base.Ns B8 mg->base.BuiltinsAt mg T->c7 l.prog w (K w.params) mg base (CX w) k fa fd [x] (sp w))
  (kL:∀(w:Bi)(H:Hp)(a:IN)(ns:List Int),ns.length<=n->H T=ID (.tbl #[])->SqL (K w.params) H a (ns.map At)->sp w [.ref a] H (λv _=>v=.bl true) λ_ _ _=>False)
  (WO:∀(w:Bi)(H:Hp)(s:AB)(e:Ap)(s':AB),CX w [] H s (λ_ _ _=>False) e s'->False) :
  PySem.W.WalkO q h8 XP YP l.row.toRowW d [] (λf vs=>PySem.call f vs):=by
 refine Att.Pk hn OE λw s₀ s₁ mg mb fa o pm cd di a vs ns G Y ho hd hcd hmg wf mP ar hg=>?_;obtain⟨KX,hT,OR,hC⟩:=hY w _ Y;obtain⟨fd,hb,hF⟩:=F w mg fa _ KX G.T.g hmg;have WS:s₁.heap.BuiltinsAt mg T:=by
  obtain⟨bm,ob,b1,b2,b3,b4,b5,b6⟩:=G.T.bmain;refine⟨bm,ob,b1,b2,λz=>?_,λz=>?_,b3,b4,b5,b6⟩
  ·obtain⟨o',es,ep,e,d',_⟩:=G.T.g;rw[<- z,b3] at e;cases e;rw[b6] at d';cases d'
  rw[z,hT] at b3;cases b3;cases b6
 exact Wu KX G.T.g G.T.b G.T.builtins G.T.nolimit hg wf mP (BU ar wn) hr hC hT OR WS hF hb (λH hO hS=>kL w H a ns ar hO hS) λH e s'=>WO w H s₁ e s'
end L2
namespace SRT
open PySem PyProof.Rows
def TP(s:AB)(x:Ap)(a:Int):Prop:=∃q o n t z,x=.ref q/\s.heap.get? q=ID o/\o.cls=.type "tuple" /\ o.data=.seq #[.int a t,z] n
end SRT
namespace L2
open PySem PySem.Spec PyProof.Rows
end L2
namespace SRT
open PySem PyProof.Rows
end SRT
namespace L2
open PySem PySem.Spec PyProof.Rows
def isT(ss:Sts)(zs:List Int)(k:Nat):Bool:=decide ((fZ ss k).1=(fZ ss k).2.1)&&decide (zs.getD 0 0<=zs.getD 1 0)
def mF(ss:Sts)(zs:List Int)(k:Nat):Str:=if isT ss zs k=true then "is" else "within"
def dg(ss:Sts)(zs:List Int)(k:Nat):Int:=if isT ss zs k=true then zs.getD 0 0 else zs.getD 1 0
def vA(ss:Sts)(zs:List Int)(k:Nat):Int:=if isT ss zs k=true then zs.getD 1 0 else zs.getD 0 0
def xK(ss:Sts)(ws zs:List Int)(k:Nat):Int:=-(ws.getD k 0)*vA ss zs k
def jA(ss:Sts)(ws zs:List Int)(k:Nat):Int:=64*xK ss ws zs k+(k:Int)
def Ge(ss:Sts)(zs:List Int)(lab:Int):List Nat->AF
 | []=>.tuple [.str "pick",.int lab]
 | k::r=>.tuple [.str (mF ss zs k),.int (k:Int),Ge ss zs lab r]
def Xb{p:Nat}(h0:1<=zs.getD 0 0)(h1:1<=zs.getD 1 0) :
  (ws.getD b 0*dg ss zs p<ws.getD p 0*dg ss zs b)↔xK ss ws zs p<xK ss ws zs b:=by
 unfold xK dg vA;have m:∀(x y c:Int),1<=c->(x*c<y*c↔x<y):=λx y c hc=>⟨λh=>Int.lt_of_mul_lt_mul_right h ω,λh=>Int.mul_lt_mul_of_pos_right h ω⟩;by_cases c1:isT ss zs p=true
 ·by_cases c2:isT ss zs b=true
  ·simp only[if_pos c1,if_pos c2];rw[m _ _ _ h0,m _ _ _ h1];omega
  simp only[if_pos c1,if_neg c2];rw[neg_mul,neg_mul];omega
 by_cases c2:isT ss zs b=true
 ·simp only[if_neg c1,if_pos c2];rw[neg_mul,neg_mul];omega
 simp only[if_neg c1,if_neg c2];rw[m _ _ _ h1,m _ _ _ h0];omega
theorem HN{r:Nat->Int}:∀{l1 l2:List Nat},l1.Perm l2->(l1.map r).Pairwise (· < ·)->(l2.map r).Pairwise (· < ·)->l1=l2
 | [],l2,p,_,_=>by rw[List.nil_perm.mp p]
 | a::l1,[],p,_,_=>by have:=p.length_eq;simp at this
 | a::l1,b::l2,p,h1,h2=>by
  rw[DE,D4] at h1 h2;have e:a=b:=by
   have ma:a∈b::l2:=p.mem_iff.mp (A5 ..);have mb:b∈a::l1:=p.mem_iff.mpr (A5 ..);rcases AX.mp ma with z|z
   ·exact z
   rcases AX.mp mb with z2|z2
   ·exact z2.symm
   have q1:=h1.1 _ (Fm (f:=r) z2);have q2:=h2.1 _ (Fm (f:=r) z);omega
  subst e;rw[HN ((List.perm_cons a).mp p) h1.2 h2.2]
def ahc(ss:Sts)(lab:Int):List Nat:=(BF ss.length).filter λk=>decide ((fZ ss k).2.2≠lab)
def qC(H:Hp)(t:IN)(zs:List Int):Prop:=H t=ID (.tup (zs.map At))/\zs.length=5/\∀z∈zs,1<=z/\z<=99
def Tq:Sp:=λvs H Q _=>∃(a t:IN)(ss:Sts)(zs:List Int)(k:Nat),vs=[.ref a,.ref t]/\H a=ID (.tup [.int (fZ ss k).1,.int (fZ ss k).2.1,.int (fZ ss k).2.2])/\qC H t zs/\Q (.str (mF ss zs k)) H
def Td(ss:Sts)(zs:List Int)(k:Nat):AF:=.tuple [.str (mF ss zs k),.int (k:Int)]
def Tw:Sp:=λvs H Q _=>∃(sa p:IN)(lab:Int)(xs:List V)(ok:IN->Prop)(ss:Sts)(zs:List Int)(ord:List Nat),vs=[.ref sa,.ref p,.int lab]/\H sa=ID (.lst xs)/\aF ok H xs (ss.map stD)/\(∀k∈ord,k<ss.length)/\ord.length<=60/\aJ (λ_=>True) H (.ref p) (.list (ord.map (Td ss zs))) /\
 ∀(v:V) H',Same H H'->aJ (λ_=>True) H' v (Ge ss zs lab (ord.filter λk=>decide ((fZ ss k).2.2≠lab)))->Q v H'
def BR{k:Nat}(h:isT ss zs k=true):mF ss zs k = "is" /\ vA ss zs k=zs.getD 1 0/\dg ss zs k=zs.getD 0 0:=by
 unfold mF vA dg;rw[if_pos h,if_pos h,if_pos h];exact⟨rfl,rfl,rfl⟩
def wA{k:Nat}(h:¬isT ss zs k=true):mF ss zs k = "within" /\ vA ss zs k=zs.getD 0 0/\dg ss zs k=zs.getD 1 0:=by
 unfold mF vA dg;rw[if_neg h,if_neg h,if_neg h];exact⟨rfl,rfl,rfl⟩
def fV(H:Hp)(p:IN):Int×Int:=match H p with
 | some (.tup [.int a,.int b,_])=>(a,b)
 | _=>(0,0)
def WD{a b:Int}(h:H p=ID (.tup [.int a,.int b,v])):fV H p=(a,b):=by
 unfold fV;rw[h]
def ab7(hi:i<64)(hj:j<64)(h:i≠j):jA ss ws zs i≠jA ss ws zs j:=by
 unfold jA;omega
def qC.bd{t:IN}(h:qC H t zs)(hi:i<5):1<=zs.getD i 0/\zs.getD i 0<=99:=by
 have hl:i<zs.length:=by rw[h.2.1];exact hi
 have e:zs.getD i 0=zs[i]:=by simp[hl]
 rw[e];exact h.2.2 _ (EB hl)
def W4{l:List α}{x:α}(hi:i<l.length)(h:l[l.length-1-i]?=ID x):l.drop (l.length-(i+1))=x::l.drop (l.length-i):=by
 have hl:l.length-(i+1)<l.length:=ω;rw[IJ hl,show l.length-(i+1)+1=l.length-i by omega];congr 1;have:l[l.length-(i+1)]?=ID x:=by rw[<- h];congr 1;omega
 rw[AC hl] at this;exact A7 this
def plT(ss:Sts)(zs:List Int)(lab:Int):List Nat->Pl
 | []=>.pick lab
 | k::r=>if isT ss zs k=true then .one k (plT ss zs lab r) else .wit k (plT ss zs lab r)
theorem aem(ss:Sts)(zs:List Int)(lab:Int):∀l,plD (plT ss zs lab l)=Ge ss zs lab l
 | []=>rfl
 | k::r=>by
  have ih:=aem ss zs lab r;show plD (if isT ss zs k=true then .one k (plT ss zs lab r) else .wit k (plT ss zs lab r))=.tuple [.str (mF ss zs k),.int (k:Int),Ge ss zs lab r];unfold mF;split
  ·rw[<- ih];rfl
  rw[<- ih];rfl
theorem Ui(ss:Sts)(zs:List Int)(lab:Int):∀l,uD (plT ss zs lab l)=l.length+1
 | []=>rfl
 | k::r=>by
  have ih:=Ui ss zs lab r;unfold plT;split
  ·show uD (plT ss zs lab r)+1=_;rw[ih];rfl
  show uD (plT ss zs lab r)+1=_;rw[ih];rfl
def Lf.less{left:List Nat}{k:Nat}(h:Lf ss left)(hm:m∈left)(hk:m≠k):Lf ss (left.filter (·≠k))/\m∈left.filter (·≠k):=by
 have yv:m∈left.filter (·≠k):=ER.mpr ⟨hm,by simpa using hk⟩;exact⟨⟨List.ne_nil_of_mem yv,λa ha=>h.lt a (ER.mp ha).1,h.up.filter _⟩,yv⟩
def rC(ss:Sts)(ws zs:List Int):Int->List Nat->Int
 | _,[]=>0
 | W,k::r=>W*dg ss zs k+rC ss ws zs (W-ws.getD k 0) r
theorem G7{ws:List Int}{k:Nat}:∀{left:List Nat},left.Pairwise (· < ·)->k∈left->sumK ws (left.filter (·≠k))=sumK ws left-ws.getD k 0
 | [],_,h=>(nomatch h)
 | a::l,h,hk=>by
  rw[D4] at h;have c:∀(x:Nat)(y:List Nat),sumK ws (x::y)=ws.getD x 0+sumK ws y:=λx y=>by unfold sumK;rw[DE,sum_cons]
  by_cases e:a=k
  ·subst e;have:(a::l).filter (·≠a)=l:=by
    rw[List.filter_cons_of_neg ζ];exact Mb.mpr λb hb=>by have:=h.1 b hb;simp;omega
   rw[this,c];omega
  have av:k∈l:=by
   rcases AX.mp hk with z|z
   ·exact absurd z.symm e
   exact z
  rw[List.filter_cons_of_pos (by simpa using e),c,c,G7 h.2 av];omega
theorem MK{ss:Sts}{ws zs:List Int}{lab:Int}:∀{l left:List Nat},left.Pairwise (· < ·)->l.Nodup->(∀k∈l,k∈left)->Ab ss (mO ws zs) (plT ss zs lab l) left=rC ss ws zs (sumK ws left) l
 | [],_,_,_,_=>rfl
 | k::r,left,h,hn,tj=>by
  rw[GM] at hn;have hk:=tj k (A5 ..);have ih:=MK (ss:=ss) (ws:=ws) (zs:=zs) (lab:=lab) (l:=r) (left:=left.filter (·≠k)) (h.filter _) hn.2 λa ha=>ER.mpr ⟨tj a (A9 _ ha),by simpa using λ(z:a=k)=>hn.1 (z ▸ ha)⟩;rw[G7 h hk] at ih;show _=sumK ws left*dg ss zs k+rC ss ws zs (sumK ws left-ws.getD k 0) r;rw[<- ih];rw[plT.eq_2];unfold dg;split
  ·show zs.getD 0 0*sumK ws left+Ab ss (mO ws zs) (plT ss zs lab r) (left.filter (·≠k))=_;rw[II]
  show zs.getD 1 0*sumK ws left+Ab ss (mO ws zs) (plT ss zs lab r) (left.filter (·≠k))=_;rw[II]
theorem KZ(aS tg iter:Expr)(br:List Expr)(scope:C8)(pos:Pos)(it ae:Ap)(env:Env) :
  JP (.SetComp aS [⟨tg,iter,br,0⟩] scope pos) 0 it ae env=(do
   F4 iter.pos
   match <- EJ it with
   | none=>pure (.done .next)
   | some v=>
    DM tg it v
    E3 tg env v
    let mut ok:=true
    for c in br do
     if ok then ok <- isTrue c env (eval c env)
    if ok then
     (do
      let v <- eval aS env
      F4 aS.pos
      let _ <- call (.builtin "set.add") [ae,v])
    HP (.compLoop (.SetComp aS [⟨tg,iter,br,0⟩] scope pos) 0 it ae env)):=by rfl
section
variable{R:Result->AB->Prop}
theorem RZ{aS tg iter:Expr}{br:List Expr}{scope:C8}{pos:Pos}{it ae:Ap}{env:Env}(J:Nat->AB->Prop)
   (bE:∀n s,J n s->AI (AN prog w) A (EJ it) (λr s1=>match r with
   | none=>R (.ok .next) s1
   | some v=>AI (AN prog w) A (DM tg it v) (λ_ gc=>AI (AN prog w) A (E3 tg env v) (λ_ s2=>
     AI (AN prog w) A (forIn br true λc r=>if r=true then do let ok <- isTrue c env (eval c env);pure (De ok) else pure (De r)) (λok s3=>
      if ok=true then AI (AN prog w) A (eval aS env) (λx s4=>
       AI (AN prog w) A (call (.builtin "set.add") [ae,x]) (λ_ s5=>∃m,m<n/\J m s5) (EK (AN prog w) A env λe z=>R (.error e) z) s4) (EK (AN prog w) A env λe z=>R (.error e) z) s3
      else ∃m,m<n/\J m s3) (EK (AN prog w) A env λe z=>R (.error e) z) s2) (EK (AN prog w) A env λe z=>R (.error e) z) gc) (EK (AN prog w) A env λe z=>R (.error e) z) s1) (EK (AN prog w) A env λe z=>R (.error e) z) s)
  (n:Nat) (h:J n s):D5 (AN prog w) A (.compLoop (.SetComp aS [⟨tg,iter,br,0⟩] scope pos) 0 it ae env) R s:=by
 refine KB Z J (λn z hJ=>?_) n h;show AI _ A ((JP (.SetComp aS [⟨tg,iter,br,0⟩] scope pos) 0 it ae env).onRaise (λy=>do JU y env;HV y)) _ _ z;refine LB ?_;rw[KZ];refine An (C4 (An (BD (bE n z hJ) (λr s1 h1=>?_) λ_ _ q=>q)));cases r with
 | none=>exact Au h1
 | some v=>
  refine An (BD h1 (λ_ gc jp=>?_) λ_ _ q=>q);refine An (BD jp (λ_ s2 h2=>An (BD h2 (λok s3 h3=>?_) λ_ _ q=>q)) λ_ _ q=>q);cases ok with
  | false=>exact Au ⟨rfl,h3⟩
  | true=>
   exact An (An (BD h3 (λx s4 h4=>An (C4 (An (BD h4 (λ_ s5 h5=>Au (Au ⟨rfl,h5⟩)) λ_ _ q=>q)))) λ_ _ q=>q))
theorem GQ{aS target iter br aE scope pos it ae env}
  (h0:D5 (AN prog w) A (.compLoop (.SetComp aS (⟨target,iter,br,0⟩::aE) scope pos) 0 it ae env) R s)
   (h:AI (AN prog w) A (IY it) (λyf s'=>D5 (AN prog w) A (.compLoop (.SetComp aS (⟨target,iter,br,0⟩::aE) scope pos) 0 yf ae env) R s')
   (EK (AN prog w) A env λx s'=>R (.error x) s') s) :
  D5 (AN prog w) A (.compStart (.SetComp aS (⟨target,iter,br,0⟩::aE) scope pos) 0 it ae env) R s:=by
 refine GH ?_;show AI _ A ((compStart (.SetComp aS (⟨target,iter,br,0⟩::aE) scope pos) 0 it ae env).onRaise (λy=>do JU y env;F4 theWindowsPlace)) _ _ s;refine wpAny_notedAt ?_;unfold compStart;change AI _ A (ask >>= _) _ _ s;refine An (Ee (wpAny_ite ?_));split
 ·first
   | exact An (Au (Au ⟨rfl,h0⟩))
   | exact Au ⟨rfl,h0⟩
 first
  | exact An (DI (An (C4 (An (BD h (λyf s' h'=>Au ⟨rfl,h'⟩) λ_ _ q=>q)))))
  | (refine An (DI ?_);change AI _ _ (F4 iter.pos >>= _) _ _ s;exact An (C4 (An (BD h (λyf s' h'=>Au ⟨rfl,h'⟩) λ_ _ q=>q))))
end
end L2
namespace SRT
open PySem PyProof.Rows
section
variable{K:Type}[DecidableEq K]{knd:KeyKind prog w K}{b:Bool}
def SetT.ty{S:K->Bool}(hS:SetT knd b s.heap a S n):s.TypeIs (.ref a) "set" :=
 let ⟨o,_,_,_,ho,hx,_⟩:=hS;⟨o,ho,hx.1⟩
def Xm{S:K->Bool}{k:K}{x:Ap}(hx:knd.is k x=true)(NE:x.scannable=true)(hS:SetT knd b s.heap a S n)(hr:n+1<FF)
  (h:∀h',Cc a s.heap h'->SetT knd b h' a (λk'=>S k'||decide (k'=k)) (if S k then n else n+1)->Q .none { s with heap:=h',toks:=s.toks+1 }) :
  AI (AN prog w) A (call (.builtin "set.add") [.ref a,x]) Q E s:=
 B1 F.slot_set_add hS.ty F.entry_set_add (by
  simp only[AW.«set.add»,AW.Frozenset.oneOther,List.isEmpty_nil,bind_assoc,AW.Frozenset.addrOf,setAdd];refine An (Au (An (Au (An (CB (An (knd.pyHash hx ?_)))))));exact LQ (s:={ s with toks:=s.toks+1 }) hx NE hS hr λh' c d=>Au ⟨_,rfl,h h' c d⟩) (F.args_set_add_2 _ _)
end
end SRT
namespace L2
open PySem PySem.Spec PyProof.Rows
def Z8(h:Q (.ref s.heap.objs.size) { s with heap:=s.heap.push (SRT.wI w) }):AI (AN prog w) A (newSet (.type "set")) Q E s:=by
 unfold newSet setsByText;refine An (An (Ee (Au ?_)));dsimp only;simp only[newObj];exact BE h
def TX{K:Type}[DecidableEq K]{knd:KeyKind prog w K}{b:Bool}{S:K->Bool}(hS:SRT.SetT knd b h a S n) :
  ∃o,h.get? a=ID o/\(∃es ep t,o.data=.set es ep t)/\∀h' a',h'.get? a'=ID o->SRT.SetT knd b h' a' S n:=by
 obtain⟨o,es,ep,t,ho,hx,hd,r⟩:=hS;exact⟨o,ho,⟨es,ep,t,hd⟩,λh' a' e=>⟨o,es,ep,t,e,hx,hd,r⟩⟩
def wg(ae:List Int)(k:Int):List Int:=if ae.any (· == k) then ae else ae++[k]
def SN(k:Int)(h:ae.Nodup):(wg ae k).Nodup:=by
 unfold wg;split
 ·exact h
 rename_i q;refine List.nodup_append.mpr ⟨h,by simp,λa ha b hb e=>q ?_⟩;simp only[AL] at hb;subst hb;subst e;simpa using ha
def abC(ae:List Int)(k j:Int):(wg ae k).any (· == j)=(ae.any (· == j)||decide (j=k)):=by
 unfold wg;split
 ·rename_i q;by_cases e:j=k
  ·subst e;simp[q]
  simp[e]
 rw[List.any_append];congr 1;simp[Bool.beq_eq_decide_eq,eq_comm]
def Fl(ae:List Int)(k:Int):(wg ae k).length=if ae.any (· == k) then ae.length else ae.length+1:=by
 unfold wg;split <;> simp
def aeB(mp:List (Option Nat))(wi:TI)(g:TG)(tc:TT)(te:TE):TE:=λσ H Q=>wi σ H λJ H1=>
 ∃W:Nat->Nat->List Int->St->Hp->Prop,(∃m,W 0 m [] (fO mp σ) H1)/\∀i m ae τ H2,W i m ae τ H2 ->
  (J.stop i H2/\∀d (ys:List Int),H2 d=IF->ae.Nodup->ys.Perm ae->(ae.length<64->ys.Pairwise (·<=·))->Q (.ref d) (upd H2 d (.lst (ys.map At)))) \/
  (J.go i H2/\ae.length<63/\∃N:List Int->St->Hp->Prop,(∀ah τ' H',N ah τ' H'->∃m',m'<m/\W (i+1) m' ah τ' H')/\∀x H3,J.yld i H2 x H3->g x τ H3 λτ1 H4=>tc τ1 H4 λb H5=>
   if b=true then te τ1 H5 λv H6=>∃k:Int,v=.int k/\N (wg ae k) τ1 H6 else N ae τ1 H5)
section
variable{N:List Str}
set_option maxHeartbeats 8000000 in
theorem afm{tg iter aS:Expr}{br:List Expr}{p pos ag:Pos}{wi:TI}{g:TG}{tc:TT}{te:TE}(N:List Str)(mp:List (Option Nat))(mS:Gl X "sorted")(mB:X.mg "sorted" = IF)(gT:X.N=NX)(cn:X.env.scope.names=kX)(S:Fy NX kX N mp scope)(hc:X.calm=true)
  (hi:PI X tg iter wi)(hg:∀cl C s H fp,PG (bH X N scope cl C s H fp) tg g)(ht:∀cl C s H fp,PTs (bH X N scope cl C s H fp) br tc)(he:∀cl C s H fp,PE (bH X N scope cl C s H fp) aS te)
  (P':AH [.SetComp aS [⟨tg,iter,br,0⟩] scope ag] X.env=[(false,eval (.SetComp aS [⟨tg,iter,br,0⟩] scope ag) X.env)]:=by rfl)
  (hs:∀x,Cb iter X.env x=pure x:=by intro _;rfl):PE X (.Call (.Name "sorted" p) [.SetComp aS [⟨tg,iter,br,0⟩] scope ag] [] pos) (aeB mp wi g tc te):=by
 intro ac s σ H Q I h;refine DU (iM I mS mB JA ?_ δ δ);refine Hm ?_ P' rfl;rw[P'];show AI _ _ (spliced ((false,eval (.SetComp aS [⟨tg,iter,br,0⟩] scope ag) X.env)::[])) _ _ s;refine C0 ?_;obtain⟨cl,ft,aT,dv⟩:=Vh I cn S.fre
 let QQ:Ap->AB->Prop:=λv s'=>∃D H' ae,v=.ref D/\Inv X ac σ H' s'/\SRT.SetT (FG X.prog X.w) (!SRT.bt X.w) s'.heap D (λk=>ae.any (· == k)) ae.length/\ae.Nodup/\ae.length<=63 /\
  ∀d (ys:List Int),H' d=IF->ae.Nodup->ys.Perm ae->(ae.length<64->ys.Pairwise (·<=·))->Q (.ref d) (upd H' d (.lst (ys.map At)))
 refine thn (Q:=QQ) ?aa λv s9 hq=>?bb
 case bb=>
  obtain⟨D,H9,ae,rfl,I9,hS,nd,cf,q⟩:=hq;refine C6 ?_;refine SRT.LK (I9.ok.hd hc) hS nd (Nat.lt_succ_of_le cf) λs3 L ys ns k gL iL pL oL k3 g3 o3 l3=>?_;have hf:H9 L=IF:=I9.hok.fresh l3;obtain⟨h3,g3',d3,t3,o3'⟩:=s3;cases g3;cases o3;have hl:ns.length<=AJ:=by
   rw[pL.length_eq];exact BU cf δ
  exact⟨.ref L,_,((I9.drawn d3).laid (t':=t3) (h':=h3) k3 l3 (show bW X.prog X.w _ h3 _ (.lst (ns.map At)) from⟨by simpa using hl,ys,k,yO iL,gL⟩)),rfl,q L ns hf nd pL oL⟩
 rw[arm_eval_SetComp];refine GB (use:=IF) Z hs ft S.kind S.locs ?_;refine thn (hi ac s σ H _ I h) λv s1 h1=>thn h1 λyb s2 h2=>?_;obtain⟨it,fp,tn,J,H2,e,I2,T,eS,f2,W,⟨m0,w0⟩,bE⟩:=h2;subst e;refine Z8 (HR S.nocell (by intro y hy;simp at hy) (λh3 ef du=>?_) S.kind);dsimp only at ef du |-;have a8:∀b∈fp,b<s2.heap.objs.size:=λb hb=>by
  obtain⟨o,q,_⟩:=T.obj _ _ eS b hb;exact A6 q
 generalize hD:s2.heap.objs.size=D at ef du;generalize i9:s2.heap.push (SRT.wI X.w)=P2 at ef du |-;have hC:P2.objs.size=D+1:=by rw[<- i9,CY,hD]
 generalize y8:P2.objs.size=C at ef du |-;rw[y8] at hC;have dq:∀b o,s2.heap.get? b=ID o->h3.get? b=ID o:=λb o q=>by
  have hb:=A6 q;exact du.extBut b o (na1 hb hD hC) (AE _ (i9 ▸ AE _ q))
 have g0:h3.get? D=ID (SRT.wI X.w):=
  du.extBut _ _ (na2 hC) (AE _ (by rw[<- i9,<- hD];exact AU _ Z))
 have ie:D∉frs X.stack:=λz=>by
  rcases AX.mp (I2.oN D z) with q|q
  ·exact na0 I2.lt hD q.symm
  exact I2.Z7 (na4 hD) q
 have I0:Inv (bH X N scope cl C s2 H2 fp) [(D,(SRT.wI X.w))] (fO mp σ) H2 { s2 with heap:=h3,toks:=s2.toks+([]:List (Str×Ap)).length }:=
  K4 (s':={ s2 with heap:=h3,toks:=s2.toks+([]:List (Str×Ap)).length }) gT cn S I2 f2 a8 (na3 hD hC) aT dv Z Z ⟨_,ef⟩ dq λp hp=>by
   have ep:=AL.mp hp;subst ep;exact⟨g0,I2.hok.fresh (na4 hD),na2 hC,ie,λv z=>by cases z⟩
 have T0:tn 0 h3:=T.keep _ _ _ eS λb _ o q=>dq b o q;have S0:SRT.SetT (FG X.prog X.w) (!SRT.bt X.w) h3 D (λk=>([]:List Int).any (· == k)) ([]:List Int).length:=
  ⟨_,#[],0,_,g0,⟨rfl,rfl,rfl⟩,rfl,⟨λe he=>by simp at he,λk=>by simp,δ⟩,by rfl,rfl,SRT.G6 _ _ _⟩
 have fo:∀z:AB,z={ s2 with heap:=h3,toks:=s2.toks+([]:List (Str×Ap)).length } ->
   D5 (AN X.prog X.w) X.A (.compLoop (.SetComp aS [⟨tg,iter,br,0⟩] scope ag) 0 (.ref it) (.ref D) (Fa scope cl C X.env))
    (compPost (AN X.prog X.w) X.A X.xe IF QQ (.ref D) C) z:=by
  rintro z rfl;have cm:∀{H':Hp}{pl:List (IN×Obj)},(∀b∈fp,H' b=IF)->(∀p∈pl,p.1=D)->∀b∈fp,mY (bH X N scope cl C s2 H2 fp) pl H' b:=λhn hp b hb=>by
   have nE:=a8 b hb;refine⟨hn b hb,na1 nE hD hC,(K3 cn S I2 f2 a8 (na3 hD hC) aT dv).exfs b hb,.inl hb,λx c q=>(f2 b hb).2.2.2.2.1 x c (aT x c q),λp hpp=>?_⟩;have wb:=hp p (by simpa [bH] using hpp);rw[wb];exact(na0 nE hD).symm
  obtain⟨ob0,go0,_,so0⟩:=TX S0;rw[g0] at go0;cases go0;refine RZ (env:=Fa scope cl C X.env) (λn z=>∃i ae τ H' o,Inv (bH X N scope cl C s2 H2 fp) [(D,o)] τ H' z/\(∀h' a',h'.get? a'=ID o->SRT.SetT (FG X.prog X.w) (!SRT.bt X.w) h' a' (λk=>ae.any (· == k)) ae.length)/\tn i z.heap/\(∀b∈fp,H' b=IF)/\ae.Nodup/\ae.length<=63/\W i n ae τ H')
   ?_ m0 ⟨0,[],_,H2,_,I0,so0,T0,λb hb=>(f2 b hb).1,.nil,DC _,w0⟩
  rintro n s5 ⟨i,ae,τ,H5,ob,I5,xF,st5,kA,nd,hz,w5⟩;rcases bE i n ae τ H5 w5 with⟨stop,qn⟩|⟨go,dC,N9,pf,step⟩
  ·refine thn (T.done (bH X N scope cl C s2 H2 fp) Z Z Z hc i _ s5 τ H5 _ I5 (cm kA ζ) st5 stop) λr s6 ⟨hr,I6⟩=>?_;subst hr;obtain⟨m6,rg,_⟩:=I6.loc;refine⟨m6,rg,λh' sb=>?_⟩;obtain⟨dD,nD,_,_,_⟩:=I6.pin (D,_) (AR _ (AL.mpr Z));have U:=I6.base;have nC:H5 C=IF:=I6.free;have ne:∀b o,s2.heap.get? b=ID o->b≠C:=λb o q=>na1 (A6 q) hD hC;have dr:∀b o,b≠C->s6.heap.get? b=ID o->h'.get? b=ID o:=λb o hb q=>(sb.2 b hb).trans q;have U':Un (frs X.stack) fp H2 H5 s2.heap h':=by
    refine⟨λb o q n1 hb hx=>dr b o (ne b o q) (U.keep b o q n1 hb hx),λb o q n1 hb hx=>?_,U.free,λb o q hx=>?_,U.tups,U.frzs,U.tbls⟩
    ·obtain⟨sl,z⟩:=U.slot b o q n1 hb hx;exact⟨sl,dr b _ (ne b o q) z⟩
    obtain⟨o',z⟩:=U.there b o q hx;exact⟨o',dr b _ (ne b o q) z⟩
   have hok:HOk X.prog X.w H5 h':=λb u q=>by
    refine(I6.hok b u q).stay (λc v hcc z=>dr c v ?_ z) (λc z=>z) λc xs z=>z;rcases hcc with z1|z1
    ·subst z1;exact aH q nC
    exact aH z1 nC
   have I7:Inv X ac σ H5 { s6 with heap:=h' }:=I2.call' (s':={ s6 with heap:=h' }) (ch:=fp) I6.os U' hok I6.bare λb hb=>by
    obtain⟨_,a2,_,a4,a5,a6⟩:=f2 b hb;exact⟨a4,a2,a5,a6⟩
   exact⟨D,H5,ae,rfl,I7,xF h' D (dr _ _ (na2 hC) dD),nd,hz,qn⟩
  refine thn (T.item (bH X N scope cl C s2 H2 fp) Z Z Z hc i _ s5 τ H5 _ I5 (cm kA ζ) st5 go) λr s6 ⟨u,hr,h6⟩=>?_;subst hr;refine thn h6 λ_ s7 ⟨x,H7,I7,r7,y7,iN,xb⟩=>?_;have I7':=I7.pinned (cm xb ζ) (T.obj _ _ iN);refine noE (hg cl C s2 H2 fp _ s7 τ H7 x u _ I7' r7 (step x H7 y7)) λ_ s8 ⟨τ1,H8,I8,q8⟩=>?_;refine noE (ht cl C s2 H2 fp _ s8 τ1 H8 _ I8 q8) λok s9 ⟨H9,I9,q9⟩=>?_;have HP:∀{H':Hp}{z:AB}{o':Obj},Inv (bH X N scope cl C s2 H2 fp) ([(D,o')]++gO fp s7.heap) τ1 H' z ->
    tn (i+1) z.heap/\(∀b∈fp,H' b=IF)/\Inv (bH X N scope cl C s2 H2 fp) [(D,o')] τ1 H' z:=λ{H' z o'} Iz=>by
   have get:∀b∈fp,∀o,s7.heap.get? b=ID o->z.heap.get? b=ID o/\H' b=IF:=λb hb o q=>by
    obtain⟨a1,a2,_⟩:=Iz.pin (b,o) (AR _ (AR _ (ju hb q)));exact⟨a1,a2⟩
   refine⟨T.keep _ _ _ iN λb hb o q=>(get b hb o q).1,λb hb=>?_,Iz.lq⟩;obtain⟨o,q,_⟩:=T.obj _ _ iN b hb;exact(get b hb o q).2
  cases ok with
  | false=>
   rw[if_neg A8] at q9 |-;obtain⟨m',hm,w9⟩:=pf _ _ _ q9;obtain⟨a1,a2,a3⟩:=HP I9;exact⟨m',hm,i+1,ae,τ1,H9,ob,a3,xF,a1,a2,nd,hz,w9⟩
  | true=>
   rw[if_pos rfl] at q9 |-;refine noE (he cl C s2 H2 fp _ s9 τ1 H9 _ I9 q9) λy dA ⟨v,H10,I10,rv,kk,ek,Na⟩=>?_;subst ek;obtain⟨tk,rfl⟩:=rv;obtain⟨m',hm,zI⟩:=pf _ _ _ Na;obtain⟨a1,a2,a3⟩:=HP I10;obtain⟨dD,nD,_,_,_⟩:=a3.pin (D,_) (AR _ (AL.mpr Z));refine SRT.Xm (knd:=FG X.prog X.w) (intKind_is _ _ kk tk) Z (xF _ _ dD) (by simp only[FF];omega) λh' sb dd=>?_;obtain⟨o',g1,⟨dt,pj,t',g2⟩,g3⟩:=TX (dd.congr (S':=λk=>(wg ae kk).any (· == k)) (n':=(wg ae kk).length) (λk=>(abC ae kk k).symm) (Fl ae kk).symm);have a4:Inv (bH X N scope cl C s2 H2 fp) (gO fp s7.heap) τ1 H10 dA:=I10.kJ λp hp=>I10.pin p (AR _ (AR _ hp));have a5:Inv (bH X N scope cl C s2 H2 fp) (gO fp s7.heap) τ1 H10 { dA with heap:=h',toks:=dA.toks+1 }:=
    a4.turned (it:=D) (λb o hb z=>(sb.2 b hb).trans z) nD (na2 hC) (.inr (na4 hD))
     (λx c z=>by
      obtain⟨_,o,h1,_⟩:=I2.cell x c (aT x c z);exact na0 (A6 h1) hD) λp hp=>by
      have hb:=(nT (by simpa [bH] using hp)).1;exact na0 (a8 _ hb) hD
   have b1:tn (i+1) h':=T.keep _ _ _ a1 λb hb o z=>(sb.2 b (na0 (a8 b hb) hD)).trans z;have bz:(wg ae kk).length<=63:=by rw[Fl];split <;> omega
   refine⟨m',hm,i+1,wg ae kk,τ1,H10,o',a5.kJ λp hp=>?_,g3,b1,a2,SN kk nd,bz,zI⟩;have ep:=AL.mp hp;subst ep;exact⟨g1,nD,na2 hC,ie,λv z=>by rw[g2] at z;cases z⟩
 have e1:{ newEnv scope C X.env.globals cl X.env.qual IF .none (ID X.env) X.env.builtins with scope:=relabel scope X.env }=Fa scope cl C X.env:=rfl;exact GQ (fo _ Z) (T.self _ 0 _ _ _ T0 (fo _ Z))
def ae2{p:Pos}(N:List Str)(mp:List (Option Nat))(mS:Gl X "sorted")(mB:X.mg "sorted" = IF)(gT:X.N=NX)(cn:X.env.scope.names=kX)(S:Fy NX kX N mp scope)(hc:X.calm=true)
  (hi:QI X tg iter wi)(hg:∀cl C s H fp,QG (bH X N scope cl C s H fp) tg g)(ht:∀cl C s H fp,QC (bH X N scope cl C s H fp) br tc)(he:∀cl C s H fp,QE (bH X N scope cl C s H fp) aS te)
  (P':AH [.SetComp aS [⟨tg,iter,br,0⟩] scope ag] X.env=[(false,eval (.SetComp aS [⟨tg,iter,br,0⟩] scope ag) X.env)]:=by rfl)
  (hs:∀x,Cb iter X.env x=pure x:=by intro _;rfl):QE X (.Call (.Name "sorted" p) [.SetComp aS [⟨tg,iter,br,0⟩] scope ag] [] pos) (aeB mp wi g tc te):=
 ⟨afm N mp mS mB gT cn S hc hi.h (λcl C s H fp=>(hg cl C s H fp).h) (λcl C s H fp=>(ht cl C s H fp).h) (λcl C s H fp=>(he cl C s H fp).h) P' hs⟩
end
def iI(ss:Sts)(lab:Int)(ord:List Nat):List Nat:=ord.filter λk=>decide ((fZ ss k).2.2≠lab)
def Hj:Sp:=λvs H Q _=>∃(sa wa t p:IN)(lab:Int)(xs:List V)(ok:IN->Prop)(ss:Sts)(ws zs:List Int)(ord:List Nat),vs=[.ref sa,.ref wa,.ref t,.ref p,.int lab]/\H sa=ID (.lst xs)/\aF ok H xs (ss.map stD)/\H wa=ID (.lst (ws.map At))/\ws.length=ss.length/\qC H t zs/\(∀k∈ord,k<ss.length)/\ord.length<=60/\aJ (λ_=>True) H (.ref p) (.list (ord.map (Td ss zs))) /\
 ∀H',Same H H'->Q (.int (rC ss ws zs (sumK ws ord) (iI ss lab ord))) H'
def jR(ss:Sts)(ws zs:List Int)(W:Int)(ord:List Nat)(lab:Int):Int:=rC ss ws zs W (iI ss lab ord)
structure OrdB(ss:Sts)(ws zs:List Int)(ord:List Nat):Prop where
 pm:ord.Perm (BF ss.length)
 up:(ord.map (jA ss ws zs)).Pairwise (· < ·)
theorem Zz{l m:List Int}(h:l.Perm m):l.sum=m.sum:=by
 induction h with
 | nil=>rfl
 | cons a _ ih=>rw[sum_cons,sum_cons,ih]
 | swap a b l=>simp only[sum_cons];omega
 | trans _ _ i1 i2=>exact i1.trans i2
def ahp(mp:List (Option Nat))(g:TG)(tc:TT)(te:TE)(σ:St)(Q:VK)(J:It)(H1:Hp):Prop:=
 ∃W:Nat->Nat->List Int->St->Hp->Prop,(∃m,W 0 m [] (fO mp σ) H1)/\∀i m ae τ H2,W i m ae τ H2 ->
  (J.stop i H2/\∀d (ys:List Int),H2 d=IF->ae.Nodup->ys.Perm ae->(ae.length<64->ys.Pairwise (·<=·))->Q (.ref d) (upd H2 d (.lst (ys.map At)))) \/
  (J.go i H2/\ae.length<63/\∃N:List Int->St->Hp->Prop,(∀ah τ' H',N ah τ' H'->∃m',m'<m/\W (i+1) m' ah τ' H')/\∀x H3,J.yld i H2 x H3->g x τ H3 λτ1 H4=>tc τ1 H4 λb H5=>
   if b=true then te τ1 H5 λv H6=>∃k:Int,v=.int k/\N (wg ae k) τ1 H6 else N ae τ1 H5)
def agB{Q:VK}(h:∀R,R=ahp mp g tc te σ Q->wi σ H R):aeB mp wi g tc te σ H Q:=h _ rfl
def agA{Q:VK}(hR:R=ahp mp g tc te σ Q)(hx:xs.length<63)(Pv:Nat->List Int->St->Hp->Prop)(h0:Pv 0 [] (fO mp σ) H)(hl:∀i ae τ H,Pv i ae τ H->ae.length<=i)
  (hq:∀i ae τ H,Pv i ae τ H->SqL K H a xs)
  (hs:∀i x ae τ H,xs[i]?=ID x->Pv i ae τ H->g x τ H λτ1 H4=>tc τ1 H4 λb H5=>if b=true then te τ1 H5 λv H6=>∃k:Int,v=.int k/\Pv (i+1) (wg ae k) τ1 H6 else Pv (i+1) ae τ1 H5)
  (hd:∀ae τ H d (ys:List Int),Pv xs.length ae τ H->H d=IF->ys.Perm ae->(ae.length<64->ys.Pairwise (·<=·))->ae.Nodup->Q (.ref d) (upd H d (.lst (ys.map At)))):R (Itl K a) H:=by
 rw[hR];refine⟨λi m ae τ H2=>Pv i ae τ H2/\i<=xs.length/\m=xs.length-i,⟨_,h0,DC _,rfl⟩,λi m ae τ H2 ⟨p,hi,hm⟩=>?_⟩;rcases Go i xs.length with z|z
 ·refine .inr ⟨⟨xs,xs[i],hq i ae τ H2 p,AC z⟩,by have:=hl i ae τ H2 p;omega,λah τ' H'=>Pv (i+1) ah τ' H',λah τ' H' p'=>⟨xs.length-(i+1),ω,p',z,rfl⟩,λx H3 y=>?_⟩;obtain⟨rfl,UC⟩:=y;exact hs i x ae τ _ (UC xs (hq i ae τ _ p)) p
 have e:i=xs.length:=ω;subst e;exact .inl ⟨⟨xs,hq _ ae τ H2 p,A3 _⟩,λd ys h1 h2 h3 h4=>hd ae τ H2 d ys p h1 h3 h4 h2⟩
def abB{k l:Int}:l∈wg ae k↔l∈ae\/l=k:=by
 unfold wg;split
 ·rename_i c;obtain⟨x,mx,e⟩:=IT.mp c;have e:x=k:=by simpa using e
  exact⟨.inl,λh=>h.elim id λz=>by rw[z,<- e];exact mx⟩
 rw[BG,AL]
def Dy{ys:List Int}(h:ys.Pairwise (·<=·))(n:ys.Nodup):ys.Pairwise (· < ·):=(h.and n).imp λ{a b} z=>by
 have h1:a<=b:=z.1;have h2:a≠b:=z.2;omega
end L2
namespace HT
open PySem PySem.Spec PyProof.Rows
end HT
namespace L2
open PySem PySem.Spec PyProof.Rows
def ahN(ss:Sts)(ws zs:List Int)(lab:Int)(ol:List Nat):Prop:=ol.Perm (ahc ss lab)/\(ol.map (jA ss ws zs)).Pairwise (· < ·)
def agp(ss:Sts)(ws zs:List Int)(H:Hp)(lab:Int)(q:IN):Prop:=∃ol,ahN ss ws zs lab ol/\H q=ID (.tup [.int (rC ss ws zs ws.sum ol),.int lab])
structure Pairs(ss:Sts)(ws zs:List Int)(H:Hp)(ys:List Int)(qs:List IN):Prop where
 len:qs.length=ys.length
 all:∀(m:Nat) q lab,qs[m]?=ID q->ys[m]?=ID lab->agp ss ws zs H lab q
section
variable{τ1:St}{Q:VK}
def abe{lo:Int}(hR:R=aeu mp g kF g2 te σ Q)(Pv:Nat->List V->St->Hp->Prop)(h0:Pv 0 [] (fO mp σ) H)
  (hs:∀i ae τ H,i<n->Pv i ae τ H->g (.int (lo-i)) τ H λτ1 H4=>∀R2:It->Hp->Prop,R2=InW g2 te (Pv (i+1)) ae τ1->kF τ1 H4 R2)
  (hg:∀x τ H k k',(∀τ' H',k τ' H'->k' τ' H')->g x τ H k->g x τ H k')
  (hd:∀ae τ H d,Pv n ae τ H->H d=IF->Q (.ref d) (upd H d (.lst ae))):R (agu lo n) H:=by
 subst hR;refine⟨λi m ae τ H2=>m=n-i/\i<=n/\Pv i ae τ H2,⟨_,rfl,DC _,h0⟩,?_⟩;rintro i m ae τ H2 ⟨rfl,hi,p⟩;by_cases aI:i<n
 ·refine .inr ⟨aI,Pv (i+1),λah τ' H' q=>⟨_,ω,rfl,aI,q⟩,λx H3 y=>?_⟩;obtain⟨rfl,rfl⟩:=y;exact hg _ _ _ _ _ (λτ' H' z=>z _ Z) (hs i ae τ _ aI p)
 have e:i=n:=ω;subst e;exact .inl ⟨A3 _,λd gI=>hd ae τ H2 d p gI⟩
def ahI{lo:Int}{N:List V->St->Hp->Prop}{PH:List V}(hR:R=InW g2 te N PH τ1)(Pw:Nat->List V->St->Hp->Prop)(h0:Pw 0 PH τ1 H)
  (hl:∀j ae τ H,j<n->Pw j ae τ H->ae.length<AJ)
  (hs:∀i ae τ H,i<n->Pw i ae τ H->g2 (.int (lo+i)) τ H λτ3 H8=>te τ3 H8 λv H9=>Pw (i+1) (ae++[v]) τ3 H9)
  (hd:∀ae τ H,Pw n ae τ H->N ae τ H):R (Itr lo n) H:=by
 subst hR;refine⟨λi m ae τ H2=>m=n-i/\i<=n/\Pw i ae τ H2,⟨_,rfl,DC _,h0⟩,?_⟩;rintro i m ae τ H2 ⟨rfl,hi,p⟩;by_cases aI:i<n
 ·refine .inr ⟨aI,hl i ae τ H2 aI p,Pw (i+1),λah τ' H' q=>⟨_,ω,rfl,aI,q⟩,λx H3 y=>?_⟩;obtain⟨rfl,rfl⟩:=y;exact hs i ae τ _ aI p
 have e:i=n:=ω;subst e;exact .inl ⟨A3 _,hd ae τ H2 p⟩
end
def aeU:SQ:=λo i v H Q=>∃(a:IN)(H4:Hp),o=.ref a/\yp H a i v H4/\Q H4
def Yw(hu:X.A.units+1<FI):S5 X aeU:=by
 intro ac s σ H o i v ov iv u Q I ro ri rv h;obtain⟨a,H4,rfl,g,q⟩:=h;cases ro;exact IV hu I g ri rv λs4 I4=>⟨H4,I4,q⟩
end L2
namespace SRT
open PySem PyProof.Rows PySem.SeqAt
open MeetsSeq MeetsSeq2 MeetsSeq3 SeqRoads2 AutoSeq1
theorem aeT(l:IN)(items:Array Ap)(n:Nat)(x:Ap)(e:Ap->Bool)(j:Nat)(hj:j<items.size)(mN:e items[j]=true)(Qr:items.size<=AJ)(k:Nat) :
  ∀i:Nat,j-i=k->i<=j->(∀m (hm:m<items.size),i<=m->m<j->e items[m]=false)->Meets (AW.«list.remove.loop» ⟨[.ref l,x,CI i],[]⟩)
   (λA R s=>s.heap.get? l=ID { cls:=.type "list",dict:=IF,data:=.seq items n,slots:=#[] }/\(∀y,y∈items->EqAt A.in1 s y x (e y))/\R (.ok (.ret .none)) { s with heap:=s.heap.update l (CC λxs=>xs.eraseIdxIfInBounds j) }):=by
 induction k with
 | zero=>
  intro i hk gg oQ prog w A R s h;obtain⟨hp,g,d,tk,os⟩:=s;obtain⟨hl,he,h⟩:=h;obtain rfl:i=j:=by omega
  wp_walk using KS hl
  rw[show items[((i:Nat):Int).toNat]?=ID items[i] by simp[hj]];refine An (he _ (Array.getElem_mem hj) prog w _ _ ?_);rw[mN];have hz:(items.eraseIdxIfInBounds i).size<=AJ+1:=BU (size_erased items _) (Nat.le_succ_of_le Qr)
  wp_walk using (wpAny_updateSeq hl Z (hz:=Qr) (_hz':=hz)),KS hl
  simpa using h
 | succ k ih=>
  intro i hk gg oQ prog w A R s h;obtain⟨hp,g,d,tk,os⟩:=s;obtain⟨hl,he,h⟩:=h;have hi:i<items.size:=ω
  wp_walk using KS hl
  rw[show items[((i:Nat):Int).toNat]?=ID items[i] by simp[hi]];refine An (he _ (Array.getElem_mem hi) prog w _ _ ?_);rw[oQ i hi (A3 _) ω]
  wp_walk
  rw[show((i:Int)+1)=((i+1:Nat):Int) by push_cast;rfl];refine⟨HM plain_remove_loop _,D6 entry_remove_loop ?_⟩;rw[Bz.under_plainId plain_remove_loop _];exact ih (i+1) ω ω (λm hm h1 h2=>oQ m hm ω h2) prog w A R _ ⟨hl,he,h⟩
def VR(l:IN)(items:Array Ap)(n:Nat)(x:Ap)(e:Ap->Bool)(j:Nat)(hj:j<items.size)(mN:e items[j]=true)(oQ:∀m (hm:m<items.size),m<j->e items[m]=false)(Qr:items.size<=AJ) :
  Meets (AW.«list.remove» ⟨[.ref l,x],[]⟩)
   (λA R s=>s.heap.get? l=ID { cls:=.type "list",dict:=IF,data:=.seq items n,slots:=#[] }/\(∀y,y∈items->EqAt A.in1 s y x (e y))/\R (.ok (.ret .none)) { s with heap:=s.heap.update l (CC λxs=>xs.eraseIdxIfInBounds j) }):=by
 intro prog w A R s h;obtain⟨hp,g,d,tk,os⟩:=s;obtain⟨hl,he,h⟩:=h
 wp_walk using KS hl
 refine⟨HM plain_remove_loop _,D6 entry_remove_loop ?_⟩;rw[Bz.under_plainId plain_remove_loop _];exact aeT l items n x e j hj mN Qr _ 0 Z (DC _) (λm hm _ h2=>oQ m hm h2) prog w A R _ ⟨hl,he,h⟩
end SRT
namespace L2
open PySem PySem.Spec PyProof.Rows
def eqG(g:IN->Int×Int)(q:IN):Ap->Bool
 | .ref p=>decide (g p=g q)
 | _=>false
def Y4:V->List V->Hp->VK->Prop:=λx vs H Q=>∃(l q:IN)(ps:List IN)(g:IN->Int×Int),x=.ref l/\vs=[.ref q]/\H l=ID (.lst (ps.map AT))/\q∈ps/\(∀p∈ps,H p=ID (.tup [.int (g p).1,.int (g p).2]))/\ps.length<=1000000 /\
 ∀j,(ps.map g).idxOf (g q)=j->Q .non (upd H l (.lst ((ps.eraseIdx j).map AT)))
theorem Mv:∀{ps:List IN}{us:List Ap}{m:Nat}{v:Ap},Vals (ps.map AT) us->us[m]?=ID v->∃p,ps[m]?=ID p/\v=.ref p
 | [],us,m,v,r,e=>by cases r;cases e
 | p::ps,us,m,v,r,e=>by
  cases r with
  | cons r1 rr=>
   cases m with
   | zero=>cases e;cases r1;exact⟨p,rfl,rfl⟩
   | succ m=>exact Mv (ps:=ps) rr e
section
theorem adw(hu:X.A.in1.units<FI):MtM X "list.remove" Y4:=by
 intro ac s σ H x vs v us Q I rx rv h;obtain⟨l,q,ps,g,rfl,rfl,hH,hq,hg,hl,qq⟩:=h;cases rx;obtain⟨u,rfl,ru⟩:=rv.one;cases ru;obtain⟨z,af,n,r,NV,e⟩:=I.Rv hH;have hz:af.length=ps.length:=by have:=r.length;rw[AG] at this;omega
 obtain⟨j,hj⟩:∃j,(ps.map g).idxOf (g q)=j:=⟨_,rfl⟩;have bo:g q∈ps.map g:=Fm hq;have VV:j<ps.length:=by rw[<- hj,<- AG (f:=g)];exact Ic bo
 have get:∀(m:Nat)(hm:m<af.toArray.size),∃p,ps[m]?=ID p/\af.toArray[m]=.ref p:=λm hm=>by
  have sT:m<af.length:=by simpa using hm
  obtain⟨p,e1,e2⟩:=Mv r (AC sT);exact⟨p,e1,by simpa using e2⟩
 refine FR F.slot_list_remove ⟨_,e,rfl⟩ F.entry_list_remove (F.args_list_remove_2 _ _) (SRT.VR l af.toArray n (.ref q) (eqG g q) j (by simp;omega) ?_ (λm hm aI=>?_) (by rw[A0];exact BU ω (aQ (A3 1000000)))) ⟨e,λy hy=>?_,?_⟩
 ·obtain⟨p,e1,e2⟩:=get j (by simp;omega);rw[e2];have:(ps.map g)[j]?=ID (g q):=by
   subst hj;rw[AC (Ic bo),List.getElem_idxOf]
  rw[AM,e1] at this;exact decide_eq_true (A7 this)
 ·obtain⟨p,e1,e2⟩:=get m hm;rw[e2];refine decide_eq_false λz=>?_;rw[<- hj] at aI;have:=List.not_of_lt_findIdx (p:=(· == g q)) (xs:=ps.map g) (i:=m) aI;rw[List.getElem_map] at this;have e3:ps[m]'ω=p:=by rw[AC ω] at e1;exact A7 e1
  rw[e3,z] at this;simp at this
 ·obtain⟨m,hm,rfl⟩:=Array.getElem_of_mem hy;obtain⟨p,e1,e2⟩:=get m hm;rw[e2];by_cases hpq:p=q
  ·subst hpq;rw[show eqG g p (.ref p)=true from decide_eq_true rfl];exact B6.same _
  have h1:=hg p (AY e1);have h2:=hg q hq;obtain⟨bg,r1,qf,eW⟩:=I.tuple (SqT.of h1);obtain⟨a9,r2,qc,dC⟩:=I.tuple (SqT.of h2);cases r1 with
  | cons x1 r1=>
   cases r1 with
   | cons x2 r1=>
    cases r1;cases r2 with
    | cons y1 r2=>
     cases r2 with
     | cons y2 r2=>
      cases r2;obtain⟨t1,rfl⟩:=x1;obtain⟨t2,rfl⟩:=x2;obtain⟨t3,rfl⟩:=y1;obtain⟨t4,rfl⟩:=y2;refine B6.of_refs hpq ?_;have:=SeqAt.RcAt.tuples (A:=X.A.in1) (e:=λj=>if j=0 then (g p).1 == (g q).1 else (g p).2 == (g q).2) qf qc hu (λj h1 h2=>?_)
      ·rw[show eqG g q (.ref p)=((g p).1 == (g q).1&&(g p).2 == (g q).2) from ?_]
       ·have e5:((BF (min 2 2)).all (λj=>if j=0 then (g p).1 == (g q).1 else (g p).2 == (g q).2)&&(2 == 2))=((g p).1 == (g q).1&&(g p).2 == (g q).2):=by
         show(((if (0:Nat)=0 then (g p).1 == (g q).1 else (g p).2 == (g q).2)&&((if (1:Nat)=0 then (g p).1 == (g q).1 else (g p).2 == (g q).2)&&true))&&true)=_;rw[if_pos rfl,if_neg δ,Bool.and_true,Bool.and_true]
        rw[<- e5];exact this
       show decide (g p=g q)=_;rw[FA,decide_eq_true_eq,CL,beq_iff_eq,beq_iff_eq];exact Prod.ext_iff
      have jp:j<2:=h1
      match j,jp with
      | 0,_=>exact B6.int_int (g p).1 t1 (g q).1 t3
      | 1,_=>exact B6.int_int (g p).2 t2 (g q).2 t4
 refine⟨.non,_,I.afN (ys:=(ps.eraseIdx j).map AT) (its':=af.eraseIdx j) hH e ?_ ?_ ?_,rfl,qq j hj⟩
 ·simp[Array.eraseIdxIfInBounds];omega
 ·rw[xH];exact Vals.eraseIdx _ r
 rw[AG,KP];split <;> exact aQ ω
variable {o:Expr}
def YS(x:V)(te:TE)(σ:St)(H1:Hp)(Q:VK):Prop:=match x with
 | .ref l=>isq (H1 l)/\te σ H1 λy H2=>Y4 (.ref l) [y] H2 Q
 | _=>False
def aei(to te:TE):TE:=λσ H Q=>to σ H λx H1=>YS x te σ H1 Q
def X6(to te:TE)(σ:St)(H:Hp)(Q:VK):aei to te σ H Q=to σ H λx H1=>YS x te σ H1 Q:=rfl
def V0(l:IN)(te:TE)(σ:St)(H1:Hp)(Q:VK):YS (.ref l) te σ H1 Q=(isq (H1 l)/\te σ H1 λy H2=>Y4 (.ref l) [y] H2 Q):=rfl
theorem acy{bp cpos:Pos}(hu:X.A.in1.units<FI)(ho:QE X o to)(he:QE X e te)
  (bj:E5 o "remove" X.env (eval o X.env)=eval o X.env:=by rfl)
   (cE:((CO cpos (AH [e] X.env)).all (λx=>!x.1)&&(IC cpos (FX [] X.env)).all (λx=>x.1.isSome)
   && decide ([e].length+([]:List E8).length+(if ([]:List E8).isEmpty then 0 else 1)<30))=true:=by rfl)
  (bi:(bp.endLine == cpos.line)=true:=by rfl) (hs:AH [e] X.env=(false,eval e X.env)::AH [] X.env:=by rfl) (az:(CO cpos (AH [] X.env)).any (·.1)=false:=by rfl) :
  QE X (.Call (.Attribute o "remove" bp) [e] [] cpos) (aei to te):=⟨by
 intro ac s σ H Q I h;refine Fs bj cE bi Z (thE (ho.h ac s σ H _ I h) λv s1 x H1 I1 r1 q=>?_);cases x with
 | ref l=>
  obtain⟨q1,q2⟩:=q;cases el:H1 l with
  | none=>rw[el] at q1;exact q1.elim
  | some ob=>
   cases ob with
   | lst xs=>
    obtain⟨h1,h2⟩:=yt (T := "list") I1 r1 (.inl ⟨rfl,xs,SqL.of el⟩);refine⟨"list","list.remove",Fc,PySem.F.slot_list_remove,PySem.F.type_list_remove,h1,h2,?_⟩;rw[hs];refine EL (by show(false||(CO cpos (AH [] X.env)).any (·.1))=false;rw[az] <;> rfl) (EX ?_)
    refine C0 (thE (he.h ac s1 σ H1 _ I1 q2) λu s2 y H2 I2 r2 q3=>C6 ?_);exact adw hu ac s2 σ H2 (.ref l) [y] v [u] Q I2 r1 (.cons r2 .nil) q3
   | _=>rw[el] at q1;exact q1.elim
 | _=>exact q.elim⟩
end
def agC:List Nat->Nat
 | []=>0
 | k::l=>2^k+agC l
def Vm(n s:Nat):List Nat:=(BF n).filter λk=>s.testBit k
inductive Wy where
 | pick (l:Int)
 | tab
 | msk (l:Int)
 | one (k:Nat)
 | wit (k:Nat)
 | low (k:Nat)
def hdL:Wy->List AF
 | .pick l=>[.str "pick",.int l]
 | .tab=>[.str "table"]
 | .msk l=>[.str "mask",.int l]
 | .one k=>[.str "is",.int (k:Int)]
 | .wit k=>[.str "within",.int (k:Int)]
 | .low k=>[.str "below",.int (k:Int)]
def ahC(ss:Sts)(left:List Nat):Wy->List (List Nat)
 | .pick _=>[]
 | .tab=>[]
 | .msk l=>[left.filter λk=>(fZ ss k).2.2≠l]
 | .one k=>[left.filter (·≠k)]
 | .wit k=>[left.filter (·≠k)]
 | .low k=>[left.filter (· < k),left.filter (k<=·)]
section
variable {ok:IN->Prop}{d:AF}
def gvV(h:σ[i]?=ID (ID v))(t:aJ ok H v d):Gv ok (tV i) σ H d:=λH2 s Q q=>by
 unfold tV;rw[h];exact q _ _ (Same.refl _) (t.same s)
def abA{r:IN}(hσ:σ[i]?=ID (ID (.ref r)))(er:H r=ID (.lst xs))(hx:xs.length<1000000)(hr:∀a,ok a->a≠r)(t:aF ok H xs ds)(h:Gv ok te σ H d)
  (q:∀v H',Same H H'->aF ok (upd H' r (.lst (xs++[v]))) (xs++[v]) (ds++[d])->D.nx σ (upd H' r (.lst (xs++[v])))):Lw (Ly (tV i) te) D σ H:=by
 unfold Lw Ly tV;rw[hσ];show aec _ _ _ _ _;rw[Pr];refine⟨by rw[er];trivial,h H (Same.refl _) _ λv H' s tv=>?_⟩;rw[s _ _ er,yo];refine⟨BA hx δ,q v H' s ?_⟩;exact((t.same s).append (.cons tv .nil)).keep λa o h e=>⟨h,by rw[aO (hr a h)];exact e⟩
end
theorem aa8(left:List Nat):mX (nv left) (ID 1) IF=nv (left.drop 1):=by
 unfold mX;have e2:HT.sIx (nv left).length (nv left).length IF=(nv left).length:=rfl;rw[e2];cases left with
 | nil=>rfl
 | cons a r=>
  have e1:HT.sIx (nv (a::r)).length 0 (ID 1)=1:=by
   simp only[HT.sIx,rD,B0];split
   ·omega
   omega
  rw[e1];show(((nv (a::r)).drop 1).take _)=nv r;rw[EZ (by rw[FO];exact A3 _)];rfl
theorem aga{ok:IN->Prop}{σ:St}{H:Hp}{i:Nat}{p:IN}{L:List Int}(hσ:σ[i]?=ID (ID (.ref p)))(e:H p=ID (.lst (L.map At)))(hL:0<L.length):Gv ok (tOp uy (tV i) (tC (At 0))) σ H (.int (L.getD 0 0)):=λH' s Q q=>by
 unfold tOp tV tC;rw[hσ];show uy (.ref p) (.int 0) H' Q;rw[qY,s _ _ e,Bt];cases L with
 | nil=>exact absurd hL δ
 | cons x L=>exact⟨At x,cG (xs:=At x::L.map At) (j:=0) rfl,q _ _ (Same.refl _) (.int x)⟩
def ahq(ss:Sts)(left:List Nat):Wy->Prop
 | .pick l=>∀k∈left,lbl ss k=l
 | .tab=>gG ss left<=200
 | .msk l=>gG ss left<=64/\(∃k∈left,lbl ss k=l)/\∃k∈left,lbl ss k≠l
 | .one k=>(k∈left/\1<left.length)/\(fZ ss k).1=(fZ ss k).2.1
 | .wit k=>k∈left/\1<left.length
 | .low k=>k∈left.drop 1
def mkP:Wy->List Pl->Pl
 | .pick l,_=>.pick l
 | .tab,_=>.tab
 | .msk l,ps=>.msk l (ps.getD 0 .tab)
 | .one k,ps=>.one k (ps.getD 0 .tab)
 | .wit k,ps=>.wit k (ps.getD 0 .tab)
 | .low k,ps=>.low k (ps.getD 0 .tab) (ps.getD 1 .tab)
def ahr(w:Wy):Pl:=mkP w []
def agw(f:List Nat->Pl->Int)(N:List Int)(ss:Sts)(left:List Nat)(w:Wy):Int:=f left (ahr w)+((ahC ss left w).map λp=>N.getD (agC p) 0).sum
def agt(f:List Nat->Pl->Int)(N:List Int)(ss:Sts)(left:List Nat)(c:Int):Prop:=(∃w,ahq ss left w/\c=agw f N ss left w)/\∀w,ahq ss left w->c<=agw f N ss left w
structure Tbl(f:List Nat->Pl->Int)(ss:Sts)(n m:Nat)(N:List Int):Prop where
 len:N.length=m
 at0:N.getD 0 0=0
 lst:∀x,0<x->x<m->agt f N ss (Vm n x) (N.getD x 0)
structure PlT(f:List Nat->Pl->Int)(ss:Sts)(n m:Nat)(N:List Int)(T:List Pl):Prop where
 len:T.length=m
 ok:∀x,0<x->x<m->PlV ss (T.getD x .tab) (Vm n x)/\Ab ss f (T.getD x .tab) (Vm n x)=N.getD x 0/\uD (T.getD x .tab)+1<=2*(Vm n x).length
def aeo(is:List Int)(w:Int)(j:Nat):Prop:=is[j]?=ID w/\∀m<j,is[m]?≠ID w
def Yd(K:AA)(to te:TE):TE:=λσ H Q=>to σ H λx H1=>∃(p:IN)(is:List Int),x=.ref p/\SqL K H1 p (is.map At)/\te σ H1 λy H2=>∃w,y=.int w/\SqL K H2 p (is.map At)/\w∈is/\∀j,aeo is w j->Q (.int (j:Nat)) H2
theorem aaT:∀{is:List Int}{w:Int},w∈is->∃j,aeo is w j
 | a::is,w,h=>by
  by_cases c:a=w
  ·subst c;exact⟨0,rfl,λm hm=>ω⟩
  obtain⟨j,h1,h2⟩:=aaT (is:=is) (w:=w) (by
   rcases AX.mp h with z|z
   ·exact absurd z.symm c
   exact z)
  refine⟨j+1,h1,λm hm=>?_⟩;cases m with
  | zero=>intro z;exact c (A7 z)
  | succ m=>exact h2 m ω
section
variable{o:Expr}
def acA(hu:X.A.in1.units<FI)(ho:QE X o to)(he:QE X e te)
  (bj:E5 o "index" X.env (eval o X.env)=eval o X.env:=by rfl)
   (cE:((CO cpos (AH [e] X.env)).all (λx=>!x.1)&&(IC cpos (FX [] X.env)).all (λx=>x.1.isSome)
   && decide ([e].length+([]:List E8).length+(if ([]:List E8).isEmpty then 0 else 1)<30))=true:=by rfl)
  (bi:(bp.endLine == cpos.line)=true:=by rfl) (hs:AH [e] X.env=(false,eval e X.env)::AH [] X.env:=by rfl) (az:(CO cpos (AH [] X.env)).any (·.1)=false:=by rfl) :
  QE X (.Call (.Attribute o "index" bp) [e] [] cpos) (Yd X.K to te):=⟨by
 intro ac s σ H Q I h;refine Fs bj cE bi Z (thE (ho.h ac s σ H _ I h) λv s1 x H1 I1 r1 q=>?_);obtain⟨p,is,rfl,hq,q⟩:=q;obtain⟨h1,h2⟩:=yt (T := "list") I1 r1 (.inl ⟨rfl,_,hq⟩);refine⟨"list","list.index",Fc,PySem.F.slot_list_index,PySem.F.type_list_index,h1,h2,?_⟩;rw[hs];refine EL (by show(false||(CO cpos (AH [] X.env)).any (·.1))=false;rw[az] <;> rfl) (EX ?_)
 refine C0 (thn (he.h ac s1 σ H1 _ I1 q) λu s2 ⟨y,H2,I2,r2,w,ey,NI,hw,q3⟩=>C6 ?_);subst ey;obtain⟨j,hf⟩:=aaT hw;cases r1;obtain⟨af,rv,pl,hz⟩:=I2.list NI;have hl:=rv.length;rw[AG] at hl;have hj:j<af.length:=by have:=(AK.mp hf.1).1;omega
 have at':∀m (hm:m<af.length),∃t,af[m]=GE (is.getD m 0) t:=λm hm=>oK rv m _ (by simp[AC hm]);have gd:∀m,m<af.length->is[m]?=ID (is.getD m 0):=λm hm=>by
  rw[AV,AC ω];rfl
 obtain⟨tu,rfl⟩:=r2;obtain⟨ob,n,eo,ec,ed,es⟩:=pl;cases ob with
 | mk cls dict data slots=>
  cases ec;cases es;have Op:((j:Nat):Int)<2^63-1:=by
   have hl:=rv.length;have:=Lu;omega
  refine FR F.slot_list_index ⟨_,eo,rfl⟩ F.entry_list_index (F.args_list_index_2 _ _) (SeqAt.list_indexAt p af.toArray n _ _ (.int w tu) (λy=>match y with | .int z _=>z == w|_=>false) j (by simpa using hj) Op ?_ ?_) ⟨eo,λy hy=>?_,?_⟩
  ·obtain⟨t,e⟩:=at' j hj;have:af.toArray[j]'(by simpa using hj)=GE (is.getD j 0) t:=by simpa using e
   rw[this];have:=hf.1;rw[gd j hj] at this;simpa using A7 this
  ·intro m hm hmj;have sT:m<af.length:=by simpa using hm
   obtain⟨t,e⟩:=at' m sT;have:af.toArray[m]=GE (is.getD m 0) t:=by simpa using e
   rw[this];have:=hf.2 m hmj;rw[gd m sT] at this;have:is.getD m 0≠w:=λz=>this (by rw[z]);simpa using this
  ·have Up:y∈af:=by simpa using hy
   obtain⟨m,hm,em⟩:=FC.mp Up;obtain⟨t,e⟩:=at' m hm;rw[em] at e;rw[e];exact B6.int_int _ t w tu
  exact⟨.int (j:Nat),H2,I2.tok _,⟨_,rfl⟩,q3 j hf⟩⟩
end
def Lz:Sp:=λvs H Q _=>∃(sa wa t la:IN)(xs:List V)(ok:IN->Prop)(ss:Sts)(ws zs:List Int)(left:List Nat),vs=[.ref sa,.ref wa,.ref t,.ref la]/\H sa=ID (.lst xs)/\aF ok H xs (ss.map stD)/\ss.length<=60/\H wa=ID (.lst (ws.map At))/\ws.length=ss.length/\qC H t zs/\H la=ID (.lst (nv left))/\Lf ss left/\left.length<=60 /\
 ∀(p:IN)(ord:List Nat) H',Same H H'->ord.Perm left->(ord.map (jA ss ws zs)).Pairwise (· < ·)->aJ (λ_=>True) H' (.ref p) (.list (ord.map (Td ss zs)))->Q (.ref p) H'
theorem vq{ss:Sts}{ws zs:List Int}:∀{left:List Nat},left.Pairwise (· < ·)->(∀k∈left,k<64)->(left.map (jA ss ws zs)).Nodup
 | [],_,_=>nodup_nil
 | a::l,h,ky=>by
  rw[D4] at h;refine GM.mpr ⟨λm=>?_,vq h.2 λk hk=>ky k (A9 _ hk)⟩;obtain⟨b,hb,e⟩:=Ch.mp m;have:=h.1 b hb;exact ab7 (ky b (A9 _ hb)) (ky a A5) ω e
theorem Hy{H:Hp}:∀{ps:List IN}{left:List Nat}{g:Nat->Int×Int},ps.length=left.length->(∀(j:Nat) p k,ps[j]?=ID p->left[j]?=ID k->fV H p=g k)->ps.map (fV H)=left.map g
 | [],[],_,_,_=>rfl
 | p::ps,k::left,g,hl,h=>by
  rw[DE,DE,h 0 p k Z rfl,Hy (by simpa using hl) λj p k h1 h2=>h (j+1) p k h1 h2]
def u9(ss:Sts)(left:List Nat)(L:List Int):Prop:=L.Pairwise (· < ·)/\∀l,l∈L ↔ ∃k∈left,lbl ss k=l
def Tv:Sp:=λvs H Q _=>∃(sa wa t la:IN)(xs:List V)(ok:IN->Prop)(ss:Sts)(ws zs:List Int)(left:List Nat),vs=[.ref sa,.ref wa,.ref t,.ref la]/\H sa=ID (.lst xs)/\aF ok H xs (ss.map stD)/\ss.length<=60/\H wa=ID (.lst (ws.map At))/\ws.length=ss.length/\qC H t zs/\H la=ID (.lst (nv left))/\Lf ss left/\left.length<=60 /\
 ∀(r:IN)(ts:List IN)(L:List Int)(ord:List Nat) H',Same H H'->H r=IF->H' r=ID (.lst (ts.map AT))->u9 ss left L->ord.Perm left->(ord.map (jA ss ws zs)).Pairwise (· < ·)->ts.length=L.length ->
  (∀(j:Nat) t lab,ts[j]?=ID t->L[j]?=ID lab->∃v,H' t=ID (.tup [.int (jR ss ws zs (sumK ws left) ord lab),v])/\aJ (λ_=>True) H' v (Ge ss zs lab (iI ss lab ord)))->Q (.ref r) H'
def VD{a b:List Nat}(h:a.Perm b):sumK ws a=sumK ws b:=by
 unfold sumK;exact Zz (h.map _)
def gC:Int->List (Int×Int)->Int
 | _,[]=>0
 | W,x::r=>W*x.2+gC (W-x.1) r
def Fall(l:List (Int×Int)):Prop:=l.Pairwise λx y=>y.1*x.2<=x.1*y.2
theorem Oe{a:Int×Int}:∀{pre post:List (Int×Int)}{W:Int},(∀b∈pre,b.1*a.2<=a.1*b.2)->gC W (a::(pre++post))<=gC W (pre++a::post)
 | [],post,W,_=>GU _
 | b::pre,post,W,h=>by
  have ih:=Oe (a:=a) (pre:=pre) (post:=post) (W:=W-b.1) λc hc=>h c (A9 _ hc);have hb:=h b A5;show W*a.2+((W-a.1)*b.2+gC (W-a.1-b.1) (pre++post))<=W*b.2+gC (W-b.1) (pre++a::post);have e:gC (W-b.1) (a::(pre++post))=(W-b.1)*a.2+gC (W-a.1-b.1) (pre++post):=by
   show(W-b.1)*a.2+gC (W-b.1-a.1) (pre++post)=_;rw[show W-b.1-a.1=W-a.1-b.1 by omega]
  rw[e] at ih;rw[Int.sub_mul] at ih |-;omega
theorem En:∀{l o:List (Int×Int)}{W:Int},Fall l->o.Perm l->gC W l<=gC W o
 | [],o,W,_,p=>by rw[List.perm_nil.mp p];exact GU _
 | a::l,o,W,hr,p=>by
  obtain⟨h1,h2⟩:=D4.mp hr;obtain⟨pre,post,rfl⟩:=List.append_of_mem (p.mem_iff.mpr A5);have p2:(pre++post).Perm l:=(List.perm_cons a).mp (List.perm_middle.symm.trans p);have ih:=En (l:=l) (o:=pre++post) (W:=W-a.1) h2 p2;refine Int.le_trans ?_ (Oe (a:=a) (pre:=pre) (post:=post) λb hb=>h1 b (p2.mem_iff.mp (EF _ hb)));show W*a.2+gC (W-a.1) l<=W*a.2+gC (W-a.1) (pre++post);omega
def adS{l o:List (Int×Int)}{W:Int}(h:Fall l)(k:Fall o)(p:o.Perm l):gC W o=gC W l:=Int.le_antisymm (En k p.symm) (En h p)
def prK(ss:Sts)(ws zs:List Int)(k:Nat):Int×Int:=(ws.getD k 0,dg ss zs k)
theorem Um(ss:Sts)(ws zs:List Int):∀(l:List Nat)(W:Int),rC ss ws zs W l=gC W (l.map (prK ss ws zs))
 | [],_=>rfl
 | k::l,W=>by
  show W*dg ss zs k+rC ss ws zs (W-ws.getD k 0) l=W*dg ss zs k+gC (W-ws.getD k 0) (l.map (prK ss ws zs));rw[Um ss ws zs l]
theorem Iv{ss:Sts}{ws zs:List Int}(h0:1<=zs.getD 0 0)(h1:1<=zs.getD 1 0):∀{l:List Nat},(∀k∈l,k<64)->(l.map (jA ss ws zs)).Pairwise (· < ·)->Fall (l.map (prK ss ws zs))
 | [],_,_=>IQ
 | a::l,ky,hr=>by
  rw[DE,D4] at hr;refine D4.mpr ⟨λy hy=>?_,Iv h0 h1 (λk hk=>ky k (A9 _ hk)) hr.2⟩;obtain⟨b,hb,rfl⟩:=Ch.mp hy;have q:=hr.1 _ (Fm (f:=jA ss ws zs) hb);have ha64:=ky a A5;have hb64:=ky b (A9 _ hb);have nk:¬xK ss ws zs b<xK ss ws zs a:=by
   unfold jA at q;omega
  exact not_lt.mp λz=>nk ((Xb (ss:=ss) (ws:=ws) (zs:=zs) (p:=b) (b:=a) h0 h1).mp z)
def Mw{x b n:Int×Int}(hx:0<x.2)(hb:0<b.2)(hn:0<n.2)(h1:x.1*b.2<=b.1*x.2)(h2:b.1*n.2<=n.1*b.2):x.1*n.2<=n.1*x.2:=by
 have h3:=Int.mul_le_mul_of_nonneg_right h1 (Int.le_of_lt hn);have h4:=Int.mul_le_mul_of_nonneg_right h2 (Int.le_of_lt hx);refine Int.le_of_mul_le_mul_right (show x.1*n.2*b.2<=n.1*x.2*b.2 from ?_) hb;rw[show x.1*n.2*b.2=x.1*b.2*n.2 by rw[L6,II n.2,<- L6],show n.1*x.2*b.2=n.1*b.2*x.2 by rw[L6,II x.2,<- L6]];rw[show b.1*n.2*x.2=b.1*x.2*n.2 by rw[L6,II n.2,<- L6]] at h4;exact Int.le_trans h3 h4
def rng(a b:Nat):List Nat:=(BF (b-a)).map (a + ·)
def fC{a k:Nat}:k∈rng a b↔a<=k/\k<b:=by
 unfold rng;rw[Ch];constructor
 ·rintro⟨j,hj,rfl⟩;have:=D7.mp hj;omega
 rintro⟨h1,h2⟩;exact⟨k-a,D7.mpr ω,ω⟩
def gP(a b:Nat):(rng a b).length=b-a:=by unfold rng;rw[AG,Cf]
def YF(a b:Nat):(rng a b).Pairwise (· < ·):=KF.mpr (Hb.imp λh=>ω)
def YJ{a:Nat}(h:a<b)(hb:b<=ss.length):Lf ss (rng a b):=⟨λz=>by have:=gP a b;rw[z] at this;simp at this;omega,λk hk=>by have:=fC.mp hk;omega,YF a b⟩
def yI{a k:Nat}(h1:a<=k)(h2:k<=b):rng a b=rng a k++rng k b:=by
 unfold rng;rw[show b-a=(k-a)+(b-k) by omega,List.range_add,Be,GL];congr 1;refine Fn λj _=>?_;show a+(k-a+j)=k+j;omega
def YH{a k:Nat}(h1:a<=k)(h2:k<=b):(rng a b).filter (· < k)=rng a k:=by
 rw[yI h1 h2,filter_append,Mb.mpr λj hj=>by have:=fC.mp hj;simp;omega,KL.mpr λj hj=>by have:=fC.mp hj;simp;omega,D9]
def YK{a k:Nat}(h1:a<=k)(h2:k<=b):(rng a b).filter (k<=·)=rng k b:=by
 rw[yI h1 h2,filter_append,KL.mpr λj hj=>by have:=fC.mp hj;simp;omega,Mb.mpr λj hj=>by have:=fC.mp hj;simp;omega,nil_append]
def YL(a b:Nat):Qu (a:Int) (b-a)=nv (rng a b):=by
 unfold Qu nv rng;rw[GL];refine Fn λj _=>?_;show At ((a:Int)+(j:Nat))=At ((a+j:Nat):Int);congr 1
abbrev mj:=Int×List AF×List (Nat×Nat)
def Mr(ss:Sts)(zs:List Int)(lab:Int):List Nat->List AF
 | []=>[.str "pick",.int lab]
 | k::r=>[.str (mF ss zs k),.int (k:Int),Ge ss zs lab r]
def YD(ss:Sts)(zs:List Int)(lab:Int)(l:List Nat):Ge ss zs lab l=.tuple (Mr ss zs lab l):=by cases l <;> rfl
structure u5(ss:Sts)(ws zs:List Int)(left ord:List Nat):Prop where
 pm:ord.Perm left
 up:(ord.map (jA ss ws zs)).Pairwise (· < ·)
def u5.one{left o u:List Nat}(h:u5 ss ws zs left o)(k:u5 ss ws zs left u):o=u:=HN (h.pm.trans k.pm.symm) h.up k.up
inductive lK (ss:Sts)(ws zs:List Int)(a b:Nat):mj->Prop
 | row (lab:Int) (ord:List Nat):(∃k∈rng a b,lbl ss k=lab)->u5 ss ws zs (rng a b) ord->lK ss ws zs a b (jR ss ws zs (sumK ws (rng a b)) ord lab,Mr ss zs lab (iI ss lab ord),[])
 | tab:gG ss (rng a b)<=200->lK ss ws zs a b (zs.getD 4 0*sumK ws (rng a b),[.str "table"],[])
 | msk (l0 l1:Int):gG ss (rng a b)<=64->u9 ss (rng a b) [l0,l1]->lK ss ws zs a b (zs.getD 3 0*sumK ws (rng a b),[.str "mask",.int l0,.tuple [.str "pick",.int l1]],[])
 | low (k:Nat):a<k->k<b->lK ss ws zs a b (zs.getD 2 0*sumK ws (rng a b),[.str "below",.int (k:Int)],[(a,k),(k,b)])
def rpD(x:Nat×Nat):AF:=.tuple [.int (x.1:Int),.int (x.2:Int)]
def rwD(x:mj):AF:=.tuple [.int x.1,.tuple x.2.1,.list (x.2.2.map rpD)]
def lg(N:Nat->Nat->Int)(x:mj):Int:=x.1+(x.2.2.map λp=>N p.1 p.2).sum
def kE(ss:Sts)(ws zs:List Int)(N:Nat->Nat->Int)(a b:Nat)(c:Int):Prop:=(∃x,lK ss ws zs a b x/\c=lg N x)/\∀x,lK ss ws zs a b x->c<=lg N x
theorem wU{ss:Sts}{ws zs:List Int}{a b:Nat}{x:mj}(h:lK ss ws zs a b x):∀p∈x.2.2,a<=p.1/\p.1<p.2/\p.2<=b/\p.2-p.1<b-a:=by
 cases h with
 | low k h1 h2=>
  intro p hp;rcases AX.mp hp with rfl|hp
  ·exact⟨A3 _,h1,ω,ω⟩
  rw[AL.mp hp];exact⟨ω,h2,A3 _,ω⟩
 | _=>intro p hp;cases hp
def kE.congr{a:Nat}{c:Int}(e:∀i j,a<=i->i<j->j<=b->j-i<b-a->N i j=M i j)(h:kE ss ws zs N a b c):kE ss ws zs M a b c:=by
 have key:∀x,lK ss ws zs a b x->lg N x=lg M x:=λx hx=>by
  unfold lg;rw[Fn λp hp=>by obtain⟨h1,h2,h3,h4⟩:=wU hx p hp;exact e _ _ h1 h2 h3 h4]
 obtain⟨⟨x,hx,ex⟩,l⟩:=h;exact⟨⟨x,hx,by rw[<- key x hx];exact ex⟩,λy hy=>by rw[<- key y hy];exact l y hy⟩
def Uh(T:Nat->Nat->AF)(x:mj):AF:=.tuple (x.2.1++x.2.2.map λp=>T p.1 p.2)
structure abF(N:Nat->Nat->Int)(ok:IN->Prop)(H:Hp)(r nd:IN)(xs:List V)(W:List mj)(kn:List (List Key×V)):Prop where
 er:H r=ID (.lst xs)
 t:aF ok H xs (W.map rwD)
 hx:xs.length<=1000
 en:H nd=ID (.dT kn)
 at':∀x∈W,∀p∈x.2.2,iT kn (key2 p.1 p.2)=ID (.int (N p.1 p.2))
 hd:∀x∈W,x.2.1≠[]/\x.2.1.length<=10/\x.2.2.length<=2
def yx(N:Nat->Nat->Int):Sp:=λvs H Q _=>∃(r nd:IN)(ok:IN->Prop)(xs:List V)(W:List mj)(kn:List (List Key×V)),vs=[.ref r,.ref nd]/\abF N ok H r nd xs W kn /\
 ∀b H',Same H H'->H b=IF->H' b=ID (.lst ((W.map (lg N)).map At))->Q (.ref b) H'
def Cg(N:Nat->Nat->Int)(T:Nat->Nat->AF):Sp:=λvs H Q _=>∃(r nd pd:IN)(ok:IN->Prop)(xs:List V)(W:List mj)(kn kp:List (List Key×V)),vs=[.ref r,.ref nd,.ref pd]/\abF N ok H r nd xs W kn/\dJ ok H/\H pd=ID (.dT kp)/\(∀x∈W,∀p∈x.2.2,∃v,iT kp (key2 p.1 p.2)=ID v/\aJ ok H v (T p.1 p.2))/\W≠[] /\
 ∀(v:V) x H',Same H H'->x∈W->(∀x'∈W,lg N x<=lg N x')->aJ ok H' v (.tuple [.int (lg N x),Uh T x])->Q v H'
def mG{ok:IN->Prop}{p:Nat×Nat}(t:aJ ok H y (rpD p)):∃q,y=.ref q/\H q=ID (.tup [.int (p.1:Int),.int (p.2:Int)]):=by
 obtain⟨q,xs,rfl,e,tt⟩:=aJ.P0 t;cases aF.ints (is:=[(p.1:Int),(p.2:Int)]) tt;exact⟨q,rfl,e⟩
def mK(n i:Nat):List (Nat×Nat):=(BF (i+1)).map λj=>(n-1-i,n-i+j)
def dZ(n i:Nat):List (Nat×Nat):=(BF i).flatMap (mK n)
def zA(n i:Nat):dZ n (i+1)=dZ n i++mK n i:=by
 unfold dZ;rw[range_succ,List.flatMap_append,List.flatMap_cons,List.flatMap_nil,D9]
def Cu(n i:Nat):(mK n i).length=i+1:=by unfold mK;rw[AG,Cf]
theorem oY(n:Nat):∀i,i<=60->(dZ n i).length<=61*i
 | 0,_=>A3 _
 | i+1,h=>by
  have:=oY n i ω;rw[zA,AQ,Cu];omega
def Hg(n:Nat):Sp:=λvs H Q _=>vs=[.int (n:Int)]/\n<=60 /\
 ∀(r:IN)(xs:List V) H',Same H H'->H r=IF->H' r=ID (.lst xs)->aF (λ_=>True) H' xs ((dZ n n).map rpD)->Q (.ref r) H'
def Js:Sp:=λvs H Q _=>∃(sa wa t rp:IN)(a b:Nat)(xs:List V)(ok:IN->Prop)(ss:Sts)(ws zs:List Int),vs=[.ref sa,.ref wa,.ref t,.ref rp]/\H sa=ID (.lst xs)/\aF ok H xs (ss.map stD)/\ss.length<=60/\H wa=ID (.lst (ws.map At))/\ws.length=ss.length/\qC H t zs/\H rp=ID (.tup [.int (a:Int),.int (b:Int)])/\a<b/\b<=ss.length /\
 ∀(r:IN)(ys:List V)(W:List mj) H',Same H H'->H r=IF->H' r=ID (.lst ys)->(∀x,x∈W↔lK ss ws zs a b x)->W≠[]->aF (λ_=>True) H' ys (W.map rwD)->ys.length<=200->Q (.ref r) H'
theorem S6{ss:Sts}{ws zs:List Int}{a b:Nat}{x:mj}(h:lK ss ws zs a b x):x.2.1≠[]/\x.2.1.length<=10/\x.2.2.length<=2:=by
 cases h with
 | row lab ord _ _=>cases iI ss lab ord <;> exact⟨by simp[Mr],by simp[Mr],by simp⟩
 | tab _=>exact⟨by simp,by simp,by simp⟩
 | msk l0 l1 _ _=>exact⟨by simp,by simp,by simp⟩
 | low k _ _=>exact⟨by simp,by simp,by simp⟩
theorem XQ:∀{L M:List Int},L.Pairwise (· < ·)->M.Pairwise (· < ·)->(∀l,l∈L↔l∈M)->L=M
 | [],[],_,_,_=>rfl
 | [],m::M,_,_,h=>absurd ((h m).mpr A5) ζ
 | a::L,[],_,_,h=>absurd ((h a).mp A5) ζ
 | a::L,m::M,hL,hM,h=>by
  rw[D4] at hL hM;have e:a=m:=by
   rcases AX.mp ((h a).mp A5) with z|z
   ·exact z
   rcases AX.mp ((h m).mpr A5) with y|y
   ·exact y.symm
   have:=hL.1 m y;have:=hM.1 a z;omega
  subst e;rw[XQ hL.2 hM.2 λl=>⟨λz=>?_,λz=>?_⟩]
  ·rcases AX.mp ((h l).mp (A9 _ z)) with y|y
   ·have:=hL.1 l z;omega
   exact y
  rcases AX.mp ((h l).mpr (A9 _ z)) with y|y
  ·have:=hM.1 l z;omega
  exact y
def u9.one{left:List Nat}{L M:List Int}(h:u9 ss left L)(k:u9 ss left M):L=M:=XQ h.1 k.1 λl=>(h.2 l).trans (k.2 l).symm
def Hv(ss:Sts)(ws zs:List Int)(a b:Nat)(ord:List Nat)(L:List Int):List mj:=L.map λlab=>(jR ss ws zs (sumK ws (rng a b)) ord lab,Mr ss zs lab (iI ss lab ord),[])
def Uz(ws zs:List Int)(a b:Nat):List mj:=(rng (a+1) b).map λ(k:Nat)=>(zs.getD 2 0*sumK ws (rng a b),[.str "below",.int (k:Int)],[(a,k),(k,b)])
def ux(ss:Sts)(ws zs:List Int)(a b:Nat):List mj:=if gG ss (rng a b)<=200 then [(zs.getD 4 0*sumK ws (rng a b),[.str "table"],[])] else []
def Al(ss:Sts)(ws zs:List Int)(a b:Nat)(L:List Int):List mj:=if gG ss (rng a b)<=64/\L.length=2 then [(zs.getD 3 0*sumK ws (rng a b),[.str "mask",.int (L.getD 0 0),.tuple [.str "pick",.int (L.getD 1 0)]],[])] else []
theorem uf{ss:Sts}{ws zs:List Int}{a b:Nat}{ord:List Nat}{L:List Int}(hL:u9 ss (rng a b) L)(ho:u5 ss ws zs (rng a b) ord)(x:mj):x∈Hv ss ws zs a b ord L++ux ss ws zs a b++Al ss ws zs a b L++Uz ws zs a b↔lK ss ws zs a b x:=by
 rw[BG,BG,BG];constructor
 ·rintro(((h|h)|h)|h)
  ·obtain⟨lab,hl,rfl⟩:=Ch.mp h;exact .row lab ord ((hL.2 lab).mp hl) ho
  ·unfold ux at h;split at h
   ·rename_i c;rw[AL.mp h];exact .tab c
   cases h
  ·unfold Al at h;split at h
   ·rename_i c;rw[AL.mp h]
    match L,c.2,hL with
    | [l0,l1],_,hL=>exact .msk l0 l1 c.1 hL
   cases h
  obtain⟨k,hk,rfl⟩:=Ch.mp h;have:=fC.mp hk;exact .low k ω ω
 intro h;cases h with
 | row lab o2 hl h2=>
  rw[<- ho.one h2];exact .inl (.inl (.inl (Ch.mpr ⟨lab,(hL.2 lab).mpr hl,rfl⟩)))
 | tab c=>exact .inl (.inl (.inr (by unfold ux;rw[if_pos c];exact A5)))
 | msk l0 l1 c h2=>
  rw[hL.one h2];exact .inl (.inr (by unfold Al;rw[if_pos ⟨c,rfl⟩];exact A5))
 | low k h1 h2=>exact .inr (Ch.mpr ⟨k,fC.mpr ⟨ω,h2⟩,rfl⟩)
def Vp{a:Nat}{L:List Int}{W:List mj}(cK:a<b)(ho:u5 ss ws zs (rng a b) ord)(h:∀x,x∈W↔lK ss ws zs a b x):W≠[]:=λz=>by
 have:=(h _).mpr (lK.row (lbl ss a) ord ⟨a,fC.mpr ⟨A3 _,cK⟩,rfl⟩ ho);rw[z] at this;cases this
def RG{ok:IN->Prop}{kvs:List (Key×V)}{w:Str}{c:Int}(hσ:σ[i]?=ID (ID (.ref p)))(e:H p=ID (.dK kvs))(hv:iT kvs (EI w)=ID (.int c)):Gv ok (tDG (tV i) (tC (.str w))) σ H (.int c):=λH' s Q q=>by
 unfold tDG tV tC;rw[hσ];exact⟨p,.int c,rfl,qt.k' (k:=EI w) (s _ _ e) hv,q _ _ (Same.refl _) (.int c)⟩
theorem af9{ok:IN->Prop}{σ:St}{H:Hp}{i:Nat}{p:IN}{L:List Int}(hσ:σ[i]?=ID (ID (.ref p)))(e:H p=ID (.lst (L.map At)))(hL:1<L.length):Gv ok (tOp uy (tV i) (tC (At 1))) σ H (.int (L.getD 1 0)):=λH' s Q q=>by
 unfold tOp tV tC;rw[hσ];show uy (.ref p) (.int 1) H' Q;rw[qY,s _ _ e,Bt]
 match L,hL with
 | x::y::L,_=>exact⟨At y,cG (xs:=At x::At y::L.map At) (j:=1) rfl,q _ _ (Same.refl _) (.int y)⟩
def YG{a:Nat}(h:a<b):(rng a b).drop 1=rng (a+1) b:=by
 rw[yI (le_succ a) (show a+1<=b from h),List.drop_left' (by rw[gP];omega)]
def Cw:Pl->Option Int
 | .one _ r=>Cw r
 | .wit _ r=>Cw r
 | .pick l=>ID l
 | _=>IF
def inRun(ss:Sts):Pl->Nat->Nat->Prop
 | .pick _,_,_=>True
 | .tab,_,_=>True
 | .msk _ r,_,_=>∃l,r=.pick l
 | .low k p q,a,b=>(a<k/\k<b)/\inRun ss p a k/\inRun ss q k b
 | .one _ r,a,b=>∃l,Cw r=ID l/\∃j∈rng a b,lbl ss j=l
 | .wit _ r,a,b=>∃l,Cw r=ID l/\∃j∈rng a b,lbl ss j=l
structure PB(ss:Sts)(ws zs:List Int)(c:Int)(a b:Nat)(pl:Pl):Prop where
 v:PlV ss pl (rng a b)
 s:Ab ss (mO ws zs) pl (rng a b)=c
 r:inRun ss pl a b
 z:uD pl+1<=2*(b-a)
theorem Ms(ss:Sts)(zs:List Int)(lab:Int):∀l,Cw (plT ss zs lab l)=ID lab
 | []=>rfl
 | k::r=>by
  have ih:=Ms ss zs lab r;unfold plT;split <;> exact ih
theorem ael{ss:Sts}{zs:List Int}{lab:Int}{m:Nat}:∀{l left:List Nat},Lf ss left->m∈left->m∉l->l.Nodup->(∀k∈l,k∈left)->(∀k∈left,k∈l\/lbl ss k=lab)->PlV ss (plT ss zs lab l) left
 | [],_,h,_,_,_,_,ha=>⟨h,λk hk=>(ha k hk).elim (λz=>nomatch z) id⟩
 | k::r,left,h,hm,hn,nd,hs,ha=>by
  have hk:m≠k:=λz=>hn (z ▸ A5);have hr:m∉r:=λz=>hn (A9 _ z);obtain⟨h1,h2⟩:=h.less hm hk;obtain⟨nd1,nd2⟩:=GM.mp nd;have ih:=ael (zs:=zs) (lab:=lab) (l:=r) h1 h2 hr nd2 (λj hj=>ER.mpr ⟨hs j (A9 _ hj),by have:j≠k:=λz=>nd1 (z ▸ hj);simpa using this⟩) λj hj=>by
   obtain⟨g1,g2⟩:=ER.mp hj;rcases ha j g1 with z|z
   ·rcases AX.mp z with rfl|z
    ·simp at g2
    exact .inl z
   exact .inr z
  have N4:=hs k A5;unfold plT;split
  ·rename_i c;unfold isT at c;rw[CL,decide_eq_true_eq] at c;exact⟨⟨h,N4,c.1⟩,ih⟩
  exact⟨⟨h,N4⟩,ih⟩
theorem XD{ss:Sts}{ws zs:List Int}{a b:Nat}{x:mj}{N:Nat->Nat->Int}{T:Nat->Nat->Pl}(cK:a<b)(hb:b<=ss.length)(hx:lK ss ws zs a b x)(hT:∀p∈x.2.2,PB ss ws zs (N p.1 p.2) p.1 p.2 (T p.1 p.2)):∃pl,Uh (λi j=>plD (T i j)) x=plD pl/\PB ss ws zs (lg N x) a b pl:=by
 have lf:=YJ cK hb;have NV:=gP a b;cases hx with
 | row lab ord hl ho=>
  obtain⟨m,hm,em⟩:=hl;have bo:∀k,k∈iI ss lab ord↔k∈rng a b/\lbl ss k≠lab:=λk=>by
   unfold iI;rw[ER,ho.pm.mem_iff,decide_eq_true_eq];rfl
  have hmn:m∉iI ss lab ord:=λz=>((bo m).mp z).2 em;have nd:(iI ss lab ord).Nodup:=(ho.pm.nodup_iff.mpr (lf.up.imp λh=>BO h)).filter _;have ar:(iI ss lab ord).length+1<=b-a:=by
   have h1:(iI ss lab ord).length<ord.length:=List.length_filter_lt_length_iff_exists.mpr ⟨m,ho.pm.mem_iff.mpr hm,by simp;exact em⟩;have h2:=ho.pm.length_eq;rw[NV] at h2;omega
  refine⟨plT ss zs lab (iI ss lab ord),?_,ael lf hm hmn nd (λk hk=>((bo k).mp hk).1) (λk hk=>?_),?_,?_,by rw[Ui];omega⟩
  ·rw[aem,YD];show AF.tuple (Mr ss zs lab (iI ss lab ord)++[])=_;rw[D9]
  ·by_cases c:lbl ss k=lab
   ·exact .inr c
   exact .inl ((bo k).mpr ⟨hk,c⟩)
  ·rw[MK lf.up nd λk hk=>((bo k).mp hk).1];exact(add_zero _).symm
  have he:=Ms ss zs lab;cases hn:iI ss lab ord with
  | nil=>exact trivial
  | cons k r=>
   unfold plT;split <;> exact⟨lab,he r,m,hm,em⟩
 | tab c=>exact⟨.tab,rfl,⟨lf,c⟩,(add_zero _).symm,trivial,by show 1+1<=_;omega⟩
 | msk l0 l1 c hL=>
  obtain⟨k0,f7,e0⟩:=(hL.2 l0).mp A5;obtain⟨k1,j3,e1⟩:=(hL.2 l1).mp ζ;have aI:l0<l1:=(D4.mp hL.1).1 l1 ζ;have hf:k1∈(rng a b).filter λk=>(fZ ss k).2.2≠l0:=ER.mpr ⟨j3,decide_eq_true (show lbl ss k1≠l0 by omega)⟩;refine⟨.msk l0 (.pick l1),rfl,⟨⟨lf,c,k0,f7,e0⟩,⟨List.ne_nil_of_mem hf,λk hk=>lf.lt k (ER.mp hk).1,lf.up.filter _⟩,λk hk=>?_⟩,?_,⟨l1,rfl⟩,?_⟩
  ·obtain⟨g1,g2⟩:=ER.mp hk;have h2:lbl ss k≠l0:=of_decide_eq_true g2;have:=(hL.2 (lbl ss k)).mpr ⟨k,g1,rfl⟩;simp at this;rcases this with z|z
   ·exact absurd z h2
   exact z
  ·show zs.getD 3 0*sumK ws (rng a b)+0=zs.getD 3 0*sumK ws (rng a b)+0;rfl
  have:2<=b-a:=by
   have h1:k0≠k1:=λz=>by rw[z] at e0;omega
   have:=fC.mp f7;have:=fC.mp j3;omega
  show 1+1+1<=_;omega
 | low k h1 h2=>
  obtain⟨v1,s1,r1,z1⟩:=hT (a,k) A5;obtain⟨v2,s2,r2,z2⟩:=hT (k,b) ζ;dsimp only at v1 s1 r1 z1 v2 s2 r2 z2;refine⟨.low k (T a k) (T k b),rfl,⟨⟨lf,fC.mpr ⟨ω,h2⟩⟩,?_,?_⟩,?_,⟨⟨h1,h2⟩,r1,r2⟩,?_⟩
  ·rw[YH ω ω];exact v1
  ·rw[YK ω ω];exact v2
  ·show zs.getD 2 0*sumK ws (rng a b)+Ab ss (mO ws zs) (T a k) ((rng a b).filter (· < k))+Ab ss (mO ws zs) (T k b) ((rng a b).filter (k<=·))=zs.getD 2 0*sumK ws (rng a b)+(N a k+(N k b+0));rw[YH ω ω,YK ω ω,s1,s2];omega
  show uD (T a k)+uD (T k b)+1+1<=_;omega
def Oj(qual:Str)(scope:C8)(L:IN)(cl:List (Str×IN))(f:IN)(cd:Ap):Env:=newEnv scope L B8 cl (qual ++ ".<locals>.") (ID f) cd IF builtinsNs
def aa7(P:AO)(w:Bi)(K:AA)(mg:Str->Option Ap)(base:Heap)(N:List Str)(qual:Str)(scope:C8)(cl:List (Str×IN))(f:IN)(cd:Ap)(A:Bz)(outer:List Env)(s:AB)(H:Hp)(E:XK):Cx where
 prog:=P
 w:=w
 K:=K
 mg:=mg
 base:=base
 A:=A.deeper (Oj qual scope s.heap.objs.size cl f cd)
 N:=N
 s₀:=s
 H₀:=H
 env:=Oj qual scope s.heap.objs.size cl f cd
 outer:=outer
 stack:=Oj qual scope s.heap.objs.size cl f cd::outer
 ex:=[]
 calm:=true
 fn:=λ_=>false
 pn:=[]
 xe:=λe s'=>AI (AN P w) (A.deeper (Oj qual scope s.heap.objs.size cl f cd)) (leaving (Oj qual scope s.heap.objs.size cl f cd) e) (λ_ lL=>CX0 outer H s E e lL) (λe' lL=>CX0 outer H s E e' lL) s'
structure BL(x:Str)(N:List Str)(cl:List (Str×IN))(sc:C8):Prop where
 kind:sc.kind=.function
 co:sc.isCoroutine=false
 gen:sc.isGenerator=false
 par:sc.names.lookup x=ID .local
 nocell:∀y∈sc.names,y.2≠.cell
 free:∀y∈N,sc.names.lookup y=ID .free
 has:∀y,sc.names.lookup y=ID .free->∃c,cl.lookup y=ID c
 inj:∀y z c,cl.lookup y=ID c->cl.lookup z=ID c->y=z
theorem aax{P:AO}{w:Bi}{K:AA}{mg:Str->Option Ap}{base:Heap}{A:Bz}{outer:List Env}{s:AB}{H:Hp}{f c':IN}{name qual:Str}{params:GO}{body:Expr}{scope:C8}{cl:List (Str×IN)}{pm ctv:Ap}{x:Str}{N:List Str}{k:Nat}{u:Ap}{v:V}{vs:List V}{Q:VK}{E:XK}{t:TE}
  (ho:s.heap.get? f=ID (Dx name qual params body scope cl pm c' ctv))(hcd:s.heap.CodeRec (.ref c') qual)(S:BL x N cl scope)(hr:gw (k+1) A)(e0:Lp P w K mg base A outer s H)
  (hb:JO (PySem.W.kla_fn name qual params body scope cl pm (.ref c') ctv) ⟨[u],[]⟩=pure [(x,u)])(rv:RelV v u)(hl:vs.length=N.length)
  (ft:∀y c,cl.lookup y=ID c->∃z,s.heap.IsCell c z)(ie:∀y c,cl.lookup y=ID c->H c=IF)
  (wx:∀(i:Nat) y z,N[i]?=ID y->vs[i]?=ID z->∃uz c,RelV z uz/\cl.lookup y=ID c/\s.heap.IsCell c (ID uz))
  (hp:PE (aa7 P w K mg base (x::N) qual scope cl f (.ref c') A outer s H E) body t)(hq:t (ID v::vs.map ID) H Q) :
  D5 (AN P w) A (.call (.ref f) ⟨[u],[]⟩) (CR CX0 outer P w H s Q E) s:=by
 have TN:s.heap.NoLimit:=e0.mod.nolimit.keeps λb o e=>(e0.bs b o e).1;refine PySem.W.kla_callFunE hr.depth ho Z S.co S.gen Z hcd ?_;rw[hb];refine Au (HR S.nocell (λy hy=>by rw[AL.mp hy];exact S.par) (λh' ef du=>?_) S.kind);have keep:∀b o,s.heap.get? b=ID o->h'.get? b=ID o:=λb o e=>(du.2 b (BO (A6 e))).trans (AE _ e);refine⟨TN.keeps keep,PySem.W.kla_codeExpr ?_⟩;have oD:∀b:IN,b∉(aa7 P w K mg base (x::N) qual scope cl f (.ref c') A outer s H E).ex:=λb z=>absurd (show b∈([]:List IN) from z) ζ;have I:Inv (aa7 P w K mg base (x::N) qual scope cl f (.ref c') A outer s H E) [] (ID v::vs.map ID) H { s with heap:=h',toks:=s.toks+[(x,u)].length }:=by
  refine⟨⟨e0.mod,S.kind,rfl,rfl,A3 _,λy z c h1 h2=>S.inj y z c h1 h2,λy hy=>?_,λy c h _=>absurd (show false=true from h) δ,λ_=>hr.hd,Bz.frames_deeper e0.frames,.inr ⟨rfl,rfl⟩,λb z=>absurd z (oD b),e0.bs,e0.bsz,λb _ _=>oD b,λb z=>absurd z (oD b),e0.sY,e0.frf⟩,
   rfl,e0.bare,Un.kept keep,⟨_,ef,λi y z h1 h2 h3=>?_⟩,λy c h=>?_,e0.hok.fresh (A3 _),λy c h=>ie y c h,λp hp=>absurd (show p∈([]:List (IN×Obj)) from hp) ζ,e0.hok.kept keep,?_⟩
  ·have hy:scope.names.lookup y=ID .cell\/scope.names.lookup y=ID .free:=hy;rcases hy with hy|hy
   ·exact absurd Z (S.nocell _ (BC hy))
   exact S.has y hy
  ·cases i with
   | zero=>
    obtain rfl:x=y:=A7 h1;obtain rfl:v=z:=A7 (A7 h2);exact⟨u,rv,.inl ⟨S.par,by simp⟩⟩
   | succ i=>
    have jp:N[i]?=ID y:=h1;have il:vs[i]?=ID z:=by
     have:(vs.map ID)[i]?=ID (ID z):=h2;rw[AM] at this;cases e:vs[i]? with
     | none=>rw[e] at this;cases this
     | some a=>rw[e] at this;cases this;rfl
    obtain⟨uz,c,r1,c1,c2⟩:=wx i y z jp il;exact⟨uz,r1,.inr ⟨.inr (S.free y (AY jp)),c,c1,c2.keeps keep⟩⟩
  ·obtain⟨z,hz⟩:=ft y c h;exact⟨z,hz.keeps keep⟩
  show(vs.map ID).length+1=N.length+1;rw[AG,hl]
 refine BD (hp [] _ (ID v::vs.map ID) H _ I hq) (λu s' hs=>?_) λe s' hs=>hs;obtain⟨v,H',J,r,q⟩:=hs;exact⟨v,H',J.os,J.bare,J.base,J.hok,r,q⟩
def uE(f:IN)(o:Obj):HO:=.ext λh=>h.get? f=ID o
def Uu{o:Obj}(e:h.get? f=ID o):bW P w H h f (uE f o):=
 ⟨e,⟨o,e⟩,λh1 h2 e1 k=>k o e1⟩
open Classical in
def hidC(cs:List IN)(H:Hp):Hp:=λb=>if b∈cs then IF else H b
def backC(cs:List IN)(H H1:Hp):Hp:=λb=>if b∈cs then H b else H1 b
def uo{b:IN}(h:b∈cs):hidC cs H b=IF:=if_pos h
def fG{b:IN}(h:b∉cs):hidC cs H b=H b:=if_neg h
def Pj{b:IN}(h:b∈cs):backC cs H H1 b=H b:=if_pos h
def jG{b:IN}(h:b∉cs):backC cs H H1 b=H1 b:=if_neg h
def adK(hok:HOk P w H h)(hc:∀c∈cs,∃φ,H c=ID (.ext φ)):HOk P w (hidC cs H) h:=λb u e=>by
 by_cases hb:b∈cs
 ·rw[uo hb] at e;cases e
 rw[fG hb] at e;refine(hok b u e).stay (λd v _ q=>q) (λd q=>?_) λd xs q=>?_
 ·rw[fG λz=>?_]
  ·exact q
  obtain⟨φ,e2⟩:=hc d z;rw[q] at e2;cases e2
 rw[fG λz=>?_]
 ·exact q
 obtain⟨φ,e2⟩:=hc d z;rw[q] at e2;cases e2
def abt(hok:HOk P w H1 h')(hc:∀c∈cs,∃φ,H c=ID (.ext φ)/\bW P w H h' c (.ext φ))(hn:∀c∈cs,H1 c=IF):HOk P w (backC cs H H1) h':=λb u e=>by
 by_cases hb:b∈cs
 ·rw[Pj hb] at e;obtain⟨φ,e2,k⟩:=hc b hb;rw[e] at e2;cases e2;exact k
 rw[jG hb] at e;refine(hok b u e).stay (λd v _ q=>q) (λd q=>?_) λd xs q=>?_
 ·rw[jG λz=>?_]
  ·exact q
  rw[hn d z] at q;cases q
 rw[jG λz=>?_]
 ·exact q
 rw[hn d z] at q;cases q
def aea{fs:List IN}(u:Un fs [] (hidC cs H) H1 h h')(hc:∀c∈cs,∃φ,H c=ID (.ext φ)):Un fs [] H (backC cs H H1) h h':=by
 have out:∀{b o},H b=ID o->(∀φ,o≠.ext φ)->b∉cs:=λ{b o} e n z=>by
  obtain⟨φ,e2⟩:=hc b z;rw[e] at e2;exact n φ (A7 e2)
 have non:∀{b},H b=IF->b∉cs:=λ{b} e z=>by
  obtain⟨φ,e2⟩:=hc b z;rw[e] at e2;cases e2
 refine⟨λb o e n h1 h2=>u.keep b o e ((fG (non n)).trans n) h1 h2,λb o e n h1 h2=>u.slot b o e ((fG (non n)).trans n) h1 h2,λb o e n h2=>?_,λb o e h2=>u.there b o e h2,λb xs e=>?_,λb o v e=>?_,λb ps e=>?_⟩
 ·rw[jG (non n)];exact u.free b o e ((fG (non n)).trans n) h2
 ·have hb:=out e λφ z=>by cases z
  rw[jG hb];exact u.tups b xs ((fG hb).trans e)
 ·have hb:=out e λφ z=>by cases z
  rw[jG hb];exact u.frzs b o v ((fG hb).trans e)
 have hb:=out e λφ z=>by cases z
 rw[jG hb];exact u.tbls b ps ((fG hb).trans e)
def VJ(s:Same (hidC cs H) H1):Same H (backC cs H H1):=λb o e=>by
 by_cases hb:b∈cs
 ·rw[Pj hb];exact e
 rw[jG hb];exact s b o ((fG hb).trans e)
theorem ad1{P:AO}{w:Bi}{cs:List IN}{H:Hp}{outer:List Env}{s s':AB}{Q:VK}{E:XK}{r:Result}(hok:HOk P w H s.heap)(hc:∀c∈cs,∃φ,H c=ID (.ext φ))(hf:∀c∈cs,c∉frs outer)
  (h:CR CX0 outer P w (hidC cs H) s (λv H1=>Q v (backC cs H H1)) E r s'):CR CX0 outer P w H s Q E r s':=by
 match r,h with
 | .ok (.ret u),h=>
  obtain⟨v,H1,os,bare,un,re,rv,q⟩:=h;have got:∀c∈cs,∃φ o,H c=ID (.ext φ)/\bW P w H s.heap c (.ext φ)/\s.heap.get? c=ID o:=λc hm=>by
   obtain⟨φ,e⟩:=hc c hm;have k:=hok c _ e;obtain⟨k1,⟨o,k2⟩,k3⟩:=id k;exact⟨φ,o,e,k,k2⟩
  refine⟨v,backC cs H H1,os,bare,aea un hc,abt re (λc hm=>?_) (λc hm=>?_),rv,q⟩
  ·obtain⟨φ,o,e,⟨k1,⟨o2,k2⟩,k3⟩,e2⟩:=got c hm;have e3:s'.heap.get? c=ID o:=un.keep c o e2 (uo hm) (hf c hm) ζ;exact⟨φ,e,k3 _ _ k1 (λo' q'=>by rw[e2] at q';cases q';exact e3),⟨o,e3⟩,k3⟩
  obtain⟨φ,o,e,_,e2⟩:=got c hm;exact un.free c o e2 (uo hm) ζ
 | .error e,h=>exact h
 | .ok .next,h=>exact h
 | .ok .brk,h=>exact h
 | .ok .cont,h=>exact h
def zZ(P:AO)(w:Bi)(K:AA)(mg:Str->Option Ap)(base:Heap)(k:Nat)(f:IN)(sp:V->Hp->VK->Prop):Prop:=
 ∀(A:Bz)(outer:List Env)(s:AB)(H:Hp)(u:Ap)(v:V)(Q:VK)(E:XK),gw k A->Lp P w K mg base A outer s H->RelV v u->sp v H Q->D5 (AN P w) A (.call (.ref f) ⟨[u],[]⟩) (CR CX0 outer P w H s Q E) s
def vd(H:Hp)(f:IN):Prop:=∃oc od fd sl,H f=ID (uE f ⟨oc,od,.func fd,sl⟩)
def Jo(P:AO)(w:Bi)(K:AA)(mg:Str->Option Ap)(base:Heap)(k i:Nat)(ta:TA):TE:=λσ H Q=>∃f,σ[i]?=ID (ID (.ref f))/\vd H f /\
 ta σ H λvs H1=>vd H1 f/\∃v sp,vs=[v]/\zZ P w K mg base k f sp/\sp v H1 Q
section
variable{k:Nat}{x:Str}{p:Pos}
end
def kI(H:Hp)(c:IN)(u:Ap):Prop:=∃o,H c=ID (uE c o)/\o.data=.cell (ID u)
def adB{c':IN}{name:Str}{ctv:Ap}{x:Str}{N:List Str}{k:Nat}{vs:List V}{t:TE}
  (S:BL x N cl scope)(hb:∀u,JO (PySem.W.kla_fn name qual params body scope cl pm (.ref c') ctv) ⟨[u],[]⟩=pure [(x,u)])(hl:vs.length=N.length)
  (hp:∀(A:Bz)(outer:List Env)(s:AB)(H:Hp)(E:XK),gw (k+1) A->PE (aa7 P w K mg base (x::N) qual scope cl f (.ref c') A outer s H E) body t) :
  zZ P w K mg base (k+1) f λv H Q=>H f=ID (uE f (Dx name qual params body scope cl pm c' ctv))/\H c'=ID (uZ c' qual)/\(∀y c,cl.lookup y=ID c->∃u,kI H c u) /\
   (∀(i:Nat) y z,N[i]?=ID y->vs[i]?=ID z->∃uz c,RelV z uz/\cl.lookup y=ID c/\kI H c uz)/\(∀c∈cl.map (·.2),∃u,kI H c u) /\
   f∉cl.map (·.2)/\c'∉cl.map (·.2)/\t (ID v::vs.map ID) (hidC (cl.map (·.2)) H) λv' H1=>Q v' (backC (cl.map (·.2)) H H1):=by
 intro A outer s H u v Q E hr e0 rv ⟨h1,h2,h3,h4,h5,h6,h7,q⟩;have ij:∀c∈cl.map (·.2),∃φ,H c=ID (.ext φ):=λc hc=>by
  obtain⟨u,o,e,_⟩:=h5 c hc;exact⟨_,e⟩
 have mem:∀y c,cl.lookup y=ID c->c∈cl.map (·.2):=λy c e=>Ch.mpr ⟨(y,c),BC e,rfl⟩;have e1:Lp P w K mg base A outer s (hidC (cl.map (·.2)) H):=⟨e0.frames,e0.mod,λb o e=>⟨(e0.bs b o e).1,by
  by_cases hb:b∈cl.map (·.2)
  ·exact uo hb
  ·exact(fG hb).trans (e0.bs b o e).2⟩,e0.bsz,e0.sY,λb hb=>by
  by_cases hm:b∈cl.map (·.2)
  ·exact uo hm
  exact(fG hm).trans (e0.frf b hb),adK e0.hok ij,e0.bare⟩
 have hf:∀c∈cl.map (·.2),c∉frs outer:=λc hc hm=>by
  obtain⟨u,o,e,_⟩:=h5 c hc;rw[e0.frf c hm] at e;cases e
 have cellAt:∀c u,kI H c u->s.heap.IsCell c (ID u):=λc u ⟨o,e,d⟩=>⟨o,(e0.hok c _ e).1,d⟩;refine EW (aax (e0.hok f _ h1).1 (e0.hok c' _ h2).1 S hr e1 (hb u) rv hl (λy c e=>?_) (λy c e=>uo (mem y c e)) (λi y z e2 e3=>?_) (hp A outer s _ E hr) q) λr s' hq=>ad1 e0.hok ij hf hq
 ·obtain⟨u,e2⟩:=h3 y c e;exact⟨_,cellAt c u e2⟩
 obtain⟨uz,c,a1,a2,a3⟩:=h4 i y z e2 e3;exact⟨uz,c,a1,a2,cellAt c uz a3⟩
def qm(g:IN->Option Obj)(H:Hp):Hp:=λb=>match g b with
 | some o=>ID (uE b o)
 | none=>H b
def lH(g:IN->Option Obj)(H:Hp):Hp:=λb=>match g b with
 | some _=>IF
 | none=>H b
def Lk{g:IN->Option Obj}{b:IN}{o:Obj}(h:g b=ID o):qm g H b=ID (uE b o):=by unfold qm;rw[h]
def gH{g:IN->Option Obj}{b:IN}(h:g b=IF):qm g H b=H b:=by unfold qm;rw[h]
def Ov{g:IN->Option Obj}{b:IN}{o:Obj}(h:g b=ID o):lH g H b=IF:=by unfold lH;rw[h]
def jF{g:IN->Option Obj}{b:IN}(h:g b=IF):lH g H b=H b:=by unfold lH;rw[h]
section
variable{g:IN->Option Obj}
theorem aed(hok:HOk P w H h)(hg:∀c o,g c=ID o->h.get? c=ID o/\H c=IF):HOk P w (qm g H) h:=λb u e=>by
 cases hb:g b with
 | some o=>
  rw[Lk hb] at e;cases e;exact Uu (hg b o hb).1
 | none=>
  rw[gH hb] at e;have keep:∀{d v},H d=ID v->qm g H d=ID v:=λ{d v} q=>by
   cases hd:g d with
   | some o=>rw[(hg d o hd).2] at q;cases q
   | none=>rw[gH hd];exact q
  exact(hok b u e).stay (λd v _ q=>q) (λd q=>keep q) λd xs q=>keep q
theorem Ou(hok:HOk P w H2 h')(hg:∀c o,g c=ID o->H2 c=ID (uE c o)):HOk P w (lH g H2) h':=λb u e=>by
 cases hb:g b with
 | some o=>
  rw[Ov hb] at e;cases e
 | none=>
  rw[jF hb] at e;have keep:∀{d v},H2 d=ID v->(∀φ,v≠.ext φ)->lH g H2 d=ID v:=λ{d v} q n=>by
   cases hd:g d with
   | some o=>rw[hg d o hd] at q;exact absurd (A7 q).symm (n _)
   | none=>rw[jF hd];exact q
  exact(hok b u e).stay (λd v _ q=>q) (λd q=>keep q λφ z=>by cases z) λd xs q=>keep q λφ z=>by cases z
theorem Vb{fs:List IN}(u:Un fs [] (qm g H) H2 h h')(hok:HOk P w H2 h')(hg:∀c o,g c=ID o->h.get? c=ID o/\H c=IF/\c∉fs)(h2:∀c o,g c=ID o->H2 c=ID (uE c o)):Un fs [] H (lH g H2) h h':=by
 have out:∀{b o},H b=ID o->g b=IF:=λ{b o} e=>by
  cases hb:g b with
  | some o2=>rw[(hg b o2 hb).2.1] at e;cases e
  | none=>rfl
 have kept:∀c o,g c=ID o->h'.get? c=ID o:=λc o e=>(hok c _ (h2 c o e)).1;refine⟨λb o e n n1 n2=>?_,λb o e n n1 n2=>?_,λb o e n n2=>?_,λb o e n2=>u.there b o e n2,λb xs e=>?_,λb o v e=>?_,λb ps e=>?_⟩
 ·cases hb:g b with
  | some o2=>
   have e2:=(hg b o2 hb).1;rw[e] at e2;cases e2;exact kept b o hb
  | none=>exact u.keep b o e ((gH hb).trans n) n1 n2
 ·cases hb:g b with
  | some o2=>exact absurd n1 (hg b o2 hb).2.2
  | none=>exact u.slot b o e ((gH hb).trans n) n1 n2
 ·cases hb:g b with
  | some o2=>exact Ov hb
  | none=>rw[jF hb];exact u.free b o e ((gH hb).trans n) n2
 ·rw[jF (out e)];exact u.tups b xs ((gH (out e)).trans e)
 ·rw[jF (out e)];exact u.frzs b o v ((gH (out e)).trans e)
 rw[jF (out e)];exact u.tbls b ps ((gH (out e)).trans e)
end
structure Bo(cs:List (Nat×IN))(σ:St)(H:Hp)(g:IN->Option Obj):Prop where
 val:∀i c,(i,c)∈cs->∀v,σ[i]?=ID (ID v)->∃u o,RelV v u/\g c=ID o/\o.data=.cell (ID u)
 dom:∀c o,g c=ID o->∃i,(i,c)∈cs
 fre:∀c o,g c=ID o->H c=IF
 all:∀i c,(i,c)∈cs->∃o,g c=ID o
def Qh(sp:Sp)(cs:List (Nat×IN))(t:TA):TE:=λσ H Q=>t σ H λvs H1=>∀g,Bo cs σ H1 g->sp vs (qm g H1) (λv H2=>(∀c o,g c=ID o->H2 c=ID (uE c o))/\Q v (lH g H2)) E0
theorem Vj{X:Cx}{ac:List (IN×Obj)}{σ:St}{H1:Hp}{s1:AB}(I1:Inv X ac σ H1 s1)(cs:List (Nat×IN))(gN:∀i c,(i,c)∈cs->∃y,X.N[i]?=ID y/\X.env.kindOf y=ID .cell/\X.env.cells.lookup y=ID c/\X.fn y=true) :
  ∃g,Bo cs σ H1 g/\Lp X.prog X.w X.K X.mg X.base X.A X.stack s1 (qm g H1)/\∀c o,g c=ID o->s1.heap.get? c=ID o/\H1 c=IF/\c∉frs X.stack:=by
 obtain⟨g,Oy⟩:∃g:IN->Option Obj,g=λb=>if b∈cs.map (·.2) then s1.heap.get? b else IF:=⟨_,rfl⟩;have RR:∀c o,g c=ID o->c∈cs.map (·.2)/\s1.heap.get? c=ID o:=λc o e=>by
  rw[Oy] at e;dsimp only at e;split at e
  ·exact⟨by assumption,e⟩
  cases e
 have OT:∀i c,(i,c)∈cs->g c=s1.heap.get? c:=λi c hm=>by
  rw[Oy];exact if_pos (Ch.mpr ⟨(i,c),hm,rfl⟩)
 have own:∀c o,g c=ID o->∃i y,(i,c)∈cs/\X.env.cells.lookup y=ID c/\X.fn y=true:=λc o e=>by
  obtain⟨⟨i,c2⟩,hm,rfl⟩:=Ch.mp (RR c o e).1;obtain⟨y,_,_,h3,h4⟩:=gN i c2 hm;exact⟨i,y,hm,h3,h4⟩
 have fr1:∀c o,g c=ID o->H1 c=IF:=λc o e=>by
  obtain⟨i,y,_,h3,_⟩:=own c o e;exact I1.freeC y c h3
 have G:Bo cs σ H1 g:=by
  refine⟨λi c hm v hv=>?_,λc o e=>?_,fr1,λi c hm=>?_⟩
  ·obtain⟨y,h1,h2,h3,_⟩:=gN i c hm;obtain⟨m,ef,loc⟩:=I1.loc;obtain⟨u,ru,look⟩:=loc i y v h1 hv (.inr (.inl h2));rcases look with⟨z,_⟩|⟨_,c2,e2,o,e3,e4⟩
   ·rw[h2] at z;cases z
   rw[h3] at e2;cases e2;exact⟨u,o,ru,(OT i c hm).trans e3,e4⟩
  ·obtain⟨i,y,hm,_⟩:=own c o e;exact⟨i,hm⟩
  obtain⟨y,_,_,h3,_⟩:=gN i c hm;obtain⟨z,o,e,_⟩:=I1.cell y c h3;exact⟨o,(OT i c hm).trans e⟩
 have YO:∀c o,g c=ID o->∃z,o.data=.cell z:=λc o e=>by
  obtain⟨i,y,_,h3,_⟩:=own c o e;obtain⟨z,o2,e2,d⟩:=I1.cell y c h3;rw[(RR c o e).2] at e2;cases e2;exact⟨z,d⟩
 have nfr:∀c o,g c=ID o->c∉frs X.stack:=λc o e hm=>by
  obtain⟨i,y,_,h3,h4⟩:=own c o e;rcases AX.mp (I1.oN c hm) with z|z
  ·obtain⟨m,⟨o2,es,ep,e2,d2,_⟩,_⟩:=I1.loc;obtain⟨zz,d⟩:=YO c o e;rw[<- z,(RR c o e).2] at e2;cases e2;rw[d] at d2;cases d2
  obtain⟨_,o2,e2,_⟩:=I1.ok.sY.mem z;have a1:=I1.ok.cab y c h4 h3;have a2:=A6 e2;exact absurd (BA a2 a1) (ED _)
 have gk:∀c o,g c=ID o->s1.heap.get? c=ID o/\H1 c=IF/\c∉frs X.stack:=λc o e=>⟨(RR c o e).2,fr1 c o e,nfr c o e⟩;have e0:=I1.env0;have e1:Lp X.prog X.w X.K X.mg X.base X.A X.stack s1 (qm g H1):=by
  refine⟨e0.frames,e0.mod,λb o e=>⟨(e0.bs b o e).1,?_⟩,e0.bsz,e0.sY,λb hm=>?_,aed e0.hok λc o e=>⟨(gk c o e).1,(gk c o e).2.1⟩,e0.bare⟩
  ·cases tm:g b with
   | none=>exact(gH tm).trans (e0.bs b o e).2
   | some o2=>
    obtain⟨i,y,_,h3,h4⟩:=own b o2 tm;have a1:=I1.ok.cab y b h4 h3;have a2:=A6 e;have a3:=I1.ok.bsz;exact absurd (BA a2 (BU a3 a1)) (ED _)
  cases tm:g b with
  | none=>exact(gH tm).trans (e0.frf b hm)
  | some o2=>exact absurd hm (nfr b o2 tm)
 exact⟨g,G,e1,gk⟩
section
variable{k:Nat}{x:Str}{p:Pos}{t:TA}
end
theorem Bk{pos ag:Pos}{c:Ap}(ck:ag.line≠pos.line\/ag.col≠pos.col)(l:List Ap)(h:TriplesOk l):Ix ag (l++[CI pos.line,CI pos.col,c])=Ix ag l:=by
 fun_induction TriplesOk l with
 | case1=>
  simp only[nil_append,Ix,CI];rw[if_neg];intro z;rw[CL] at z;have z1:(pos.line:Int)=(ag.line:Int):=eq_of_beq z.1;have z2:(pos.col:Int)=(ag.col:Int):=eq_of_beq z.2;omega
 | case2 a t b u x aE ih=>
  simp only[LG,Ix];rw[ih h]
 | case3 l h1 h2=>exact h.elim
section
variable{P:IN}
def Ww(I:Inv X ac σ H s)(ft:FS scope X.env=pure cl)(na:defaultsOf params X.env=([],[]))(gr:X.env.code=.ref c)(C:Fk X.base c P)(hb:X.base.BuiltinsAt X.mg P)(hq:X.env.qual ++ "<lambda>" = qual)(hL:jW H P pos qual)
  (h:∀(f c':IN)(ctv pm:Ap)(H':Hp)(s':AB),Inv X ac σ H' s'->s.heap.objs.size<=f->H' f=IF->s'.heap.get? f=ID (Dx "<lambda>" qual params body scope cl pm c' ctv)->H' c'=ID (uZ c' qual)->jW H' P pos qual->aR P H H'->(∀(ag:Pos) q2,(ag.line≠pos.line\/ag.col≠pos.col)->jW H P ag q2->jW H' P ag q2)->Q (.ref f) s') :
  AI (AN X.prog X.w) X.A (eval (.Lambda params body scope pos) X.env) Q E s:=by
 refine PySem.W.kla_eval na ?_;rw[hq];obtain⟨ps,hP,ht,hk⟩:=hL;have kb:=I.bk;have WG:s.heap.get? P=ID (LX ps):=I.hok P _ hP;have hg:s.heap.Ns B8 X.mg:=I.mod.glob.keeps kb;have hgP:B8≠P:=λz=>by
  obtain⟨o,es,ep,e,d,_⟩:=hg;rw[z,WG] at e;cases e;cases d
 have yY:s.heap.BuiltinsAt X.mg P:=by
  obtain⟨bm,o,e1,e2,e3,e4,e5,r⟩:=hb;exact⟨bm,o,e1,e2,e3,e4,kb _ _ e5,r⟩
 have hC:Fk s.heap c P:=C.keeps kb;have hsz:=I.hok;rcases hk with hnf|⟨c',hf,i7⟩
 ·refine PySem.W.kla_makeFunction ft I.ok.glob hg gr hC WG ht hnf hgP yY λc' ctv h' tk hx hge aI hrec htb=>?_;have V':H c'=IF:=I.hok.fresh hge;have ncP:c'≠P:=λz=>by rw[z,hP] at V';cases V'
  obtain⟨H',WJ⟩:∃H',H'=upd (upd H P (.tbl (ps ++ #[CI pos.line,CI pos.col,.ref c']))) c' (uZ c' qual):=⟨_,rfl⟩;have fR:∀b,b≠P->b≠c'->H' b=H b:=λb n1 n2=>by rw[WJ,aO n2,aO n1]
  have Sa:H' P=ID (.tbl (ps ++ #[CI pos.line,CI pos.col,.ref c'])):=by rw[WJ,aO ncP.symm,aB]
  have YV:H' c'=ID (uZ c' qual):=by rw[WJ,aB]
  have up:∀b o,b≠P->s.heap.get? b=ID o->(h'.push (Dx "<lambda>" qual params body scope cl ((X.mg "__name__").getD .none) c' ctv)).get? b=ID o:=λb o n e=>AE _ (hx b o n e);have dq:∀{b o},s.heap.get? b=ID o->b≠c':=λ{b o} e=>BO (BA (A6 e) hge);have lc:∀{b o},H b=ID o->b≠c':=λ{b o} e z=>by rw[z,V'] at e;cases e
  have nP:∀{b o},s.heap.get? b=ID o->H b=IF->b≠P:=λ{b o} _ n z=>by rw[z,hP] at n;cases n
  have fH:H' h'.objs.size=IF:=by
   have hs:s.heap.objs.size<=h'.objs.size:=Gc (G2 hge aI);have:H h'.objs.size=IF:=I.hok.fresh hs;rw[fR _ (λz=>by rw[z,hP] at this;cases this) (JJ aI)];exact this
  have un:Un X.fs [] H H' s.heap (h'.push (Dx "<lambda>" qual params body scope cl ((X.mg "__name__").getD .none) c' ctv)):=by
   refine⟨λb o e n _ _=>up b o (nP e n) e,λb o e n _ _=>⟨o.slots,up b o (nP e n) e⟩,λb o e n _=>by rw[fR b (nP e n) (dq e)];exact n,λb o e _=>?_,λb xs e=>?_,λb o u e=>?_,λb qs e=>?_⟩
   ·by_cases z:b=P
    ·rw[z];exact⟨_,AE _ htb⟩
    exact⟨o,up b o z e⟩
   ·rw[fR b (λz=>by rw[z,hP] at e;cases e) (lc e)];exact e
   ·rw[fR b (λz=>by rw[z,hP] at e;cases e) (lc e)];exact e
   by_cases z:b=P
   ·rw[z,hP] at e;cases e;rw[z];exact⟨_,Sa⟩
   rw[fR b z (lc e)];exact⟨#[],by rw[e];simp⟩
  have NH:(h'.push (Dx "<lambda>" qual params body scope cl ((X.mg "__name__").getD .none) c' ctv)).CodeRec (.ref c') qual:=by
   obtain⟨c1,o,vs,t,ec,ho,r⟩:=hrec;exact⟨c1,o,vs,t,ec,AE _ ho,r⟩
  have hok:HOk X.prog X.w H' (h'.push (Dx "<lambda>" qual params body scope cl ((X.mg "__name__").getD .none) c' ctv)):=λb u e=>by
   by_cases z1:b=c'
   ·rw[z1,YV] at e;cases e;rw[z1];exact abf NH
   by_cases z2:b=P
   ·rw[z2,Sa] at e;cases e;rw[z2];exact AE _ htb
   rw[fR b z2 z1] at e;refine(I.hok b u e).stay (λd v hd q=>up d v (λz=>?_) q) (λd q=>?_) λd xs q=>?_
   ·rcases hd with hd|hd
    ·exact z2 (hd.symm.trans z)
    rw[z,hP] at hd;cases hd
   ·rw[fR d (λz=>by rw[z,hP] at q;cases q) (lc q)];exact q
   rw[fR d (λz=>by rw[z,hP] at q;cases q) (lc q)];exact q
  refine h h'.objs.size c' ctv _ H' _ (I.un (t':=tk) un hok) (Gc (G2 hge aI)) fH (AU _ Z) YV ⟨_,Sa,?_,.inr ⟨c',?_,YV⟩⟩ (λb o n e=>by rw[fR b n (lc e)];exact e) λag q2 ck ⟨x9,e2,t2,k2⟩=>?_
  ·rw[GG];exact TriplesOk_snoc _ _ _ _ ht
  ·rw[GG];exact codeAmong_snoc _ ht hnf
  rw[hP] at e2;cases e2;refine⟨_,Sa,?_,?_⟩
  ·rw[GG];exact TriplesOk_snoc _ _ _ _ ht
  rw[GG];rw[show Ix ag (ps.toList++[CI pos.line,CI pos.col,.ref c'])=Ix ag ps.toList from Bk ck _ ht];exact k2.imp id λ⟨c2,a,b⟩=>⟨c2,a,by rw[fR c2 (λz=>by rw[z,hP] at b;cases b) (lc b)];exact b⟩
 refine PySem.W.kla_makeFunctionHit ft I.ok.glob hg gr hC WG ht hf yY λctv h' tk hx hge=>?_;have kp:∀b o,s.heap.get? b=ID o->(h'.push (Dx "<lambda>" qual params body scope cl ((X.mg "__name__").getD .none) c' ctv)).get? b=ID o:=λb o e=>AE _ (hx b o e);refine h h'.objs.size c' ctv _ H _ (I.kept (t':=tk) kp) hge (I.hok.fresh hge) (AU _ Z) i7 ⟨ps,hP,ht,.inr ⟨c',hf,i7⟩⟩ (aR.refl _ _) λ_ _ _ z=>z
end
def Yb(T:IN)(pos:Pos)(qual:Str)(params:GO)(body:Expr)(scope:C8)(cl:List (Str×IN)):TE:=λ_ H Q=>jW H T pos qual /\
 ∀(f c':IN)(ctv pm:Ap)(H':Hp),aR T H H'->H f=IF->H' f=ID (uE f (Dx "<lambda>" qual params body scope cl pm c' ctv))->H' c'=ID (uZ c' qual)->jW H' T pos qual ->
  (∀(ag:Pos) q2,(ag.line≠pos.line\/ag.col≠pos.col)->jW H T ag q2->jW H' T ag q2)->Q (.ref f) H'
section
variable{p:Pos}{x:Str}{k:Nat}
def Ud(ft:FS scope X.env=pure cl)(na:defaultsOf params X.env=([],[]))(gr:X.env.code=.ref c)(C:Fk X.base c T)(hb:X.base.BuiltinsAt X.mg T)(hq:X.env.qual ++ "<lambda>" = qual) :
  QE X (.Lambda params body scope pos) (Yb T pos qual params body scope cl):=⟨by
 intro ac s σ H Q I h;obtain⟨hL,q⟩:=h;refine Ww I ft na gr C hb hq hL λf c' ctv pm H2 s2 I2 hfs yz hfo hcc y4 sx fR=>?_;have fp:mY X ac H2 f:=I.GP hfs yz;have I3:=I2.track fp (Uu hfo);have lr:Same H2 (upd H2 f (uE f (Dx "<lambda>" qual params body scope cl pm c' ctv))):=au yz;exact⟨.ref f,_,I3,rfl,q f c' ctv pm _ (sx.trans lr.x) (I.hok.fresh hfs) aB (lr _ _ hcc) (y4.same lr) λag q2 ne z=>(fR ag q2 ne z).same lr⟩⟩
def MJ(hr:gw k X.A)(hn:Nm X.N X.env.scope i x)(ha:QA X [e] ta)(he:AH [e] X.env=(false,eval e X.env)::AH [] X.env:=by rfl)(bz:(CO pos (AH [] X.env)).any (·.1)=false:=by rfl) :
  QE X (.Call (.Name x p) [e] [] pos) (Jo X.prog X.w X.K X.mg X.base k i ta):=⟨by
 intro ac s σ H Q I h;obtain⟨f,hf,⟨oc,od,fd,sl,hH⟩,h⟩:=h;refine DU (thn ((pn hn) ac s σ H (λv H'=>v=.ref f/\H'=H) I ⟨_,hf,rfl,rfl⟩) λfv s0 ⟨v,H0,I0,r0,e1,e2⟩=>?_);subst e1;subst e2;cases r0;have at0:PySem.W.FnAt f s0.heap:=⟨oc,od,fd,sl,(I0.hok f _ hH).1⟩;refine PySem.W.callWith_F at0 (thn (ha.h pos ac s0 σ H0 _ I0 h) λus s1 ⟨vs,H1,I1,r,⟨Ta,S4,XA,SL,WI⟩,v,sp,ev,L,q⟩=>⟨⟨Ta,S4,XA,SL,(I1.hok f _ WI).1⟩,?_⟩) he bz;subst ev;cases r with
 | cons r1 rr=>
  cases rr;refine IA (EW (L X.A X.stack s1 H1 _ v Q E0 hr I1.env0 r1 q) λr s' hq=>?_);cases r with
  | error e=>exact Uk ac σ H1 s1 e s' I1 hq
  | ok fl=>
   cases fl with
   | ret u=>exact I1.after hq
   | next=>exact C9 hq
   | brk=>exact C9 hq
   | cont=>exact C9 hq⟩
def ae4{cs:List (Nat×IN)}(C:Cal X.prog X.w X.K X.mg X.base x k ps sp)(hr:gw k X.A)(hg:Gl X x)(i6:Bn x)(gN:∀i c,(i,c)∈cs->∃y,X.N[i]?=ID y/\X.env.kindOf y=ID .cell/\X.env.cells.lookup y=ID c/\X.fn y=true)
  (ha:QA X (e::es) ta)(he:AH (e::es) X.env=(false,eval e X.env)::AH es X.env:=by rfl)(bz:(CO pos (AH es X.env)).any (·.1)=false:=by rfl):QE X (.Call (.Name x p) (e::es) [] pos) (Qh sp cs ta):=⟨by
 obtain⟨f,fd,F,hb,hk,hm⟩:=C.ex;intro ac s σ H Q I h;refine DU (Ke I hg hm ?_ i6.hd);refine PySem.W.callWith_K (h₀:=X.base) I.ok.mod.kin hk (thA (ha.h pos ac s σ H _ I h) λus s1 vs H1 I1 r q=>⟨I1.kIn,?_⟩) he bz;obtain⟨g,G,e1,gk⟩:=Vj I1 cs gN;have r2:Vals (vs++[]) (us++[]):=r.append .nil;have q2:sp (vs++[]) (qm g H1) (λv H2=>(∀c o,g c=ID o->H2 c=ID (uE c o))/\Q v (lH g H2)) E0:=by
  rw[D9];exact q g G
 have hl:(us++[]).length=ps.length:=by rw[<- r2.length];exact F.len _ _ _ _ q2
 refine IA (EW (F.run X.A X.stack s1 (qm g H1) ⟨us,[]⟩ (us++[]) (vs++[]) _ E0 hr e1 (hb s1 us I1.kIn hl) r2 q2) λr s' hq=>?_);cases r with
 | error e=>exact(Uk ac σ H1 s1 e s' I1 hq)
 | ok fl=>
  cases fl with
  | ret u=>
   obtain⟨v,H2,os,bare,un,hok,rv,av,q3⟩:=hq;exact I1.after ⟨v,lH g H2,os,bare,Vb un hok gk av,Ou hok av,rv,q3⟩
  | next=>exact C9 hq
  | brk=>exact C9 hq
  | cont=>exact C9 hq⟩
end
def abG(H:Hp)(a:IN):Prop:=∃xs,H a=ID (.lst xs)\/H a=ID (.tup xs)
mutual
theorem aJ.seq{ok:IN->Prop}{H:Hp}:∀{v:V}{d:AF},aJ ok H v d->aJ (λa=>ok a/\abG H a) H v d
 | _,_,.non=>.non
 | _,_,.bl b=>.bl b
 | _,_,.int i=>.int i
 | _,_,.str x=>.str x
 | _,_,.lst o e z t=>.lst ⟨o,_,.inl e⟩ e z t.seq
 | _,_,.tup o e z t=>.tup ⟨o,_,.inr e⟩ e z t.seq
theorem aF.seq{ok:IN->Prop}{H:Hp}:∀{vs:List V}{ds:List AF},aF ok H vs ds->aF (λa=>ok a/\abG H a) H vs ds
 | _,_,.nil=>.nil
 | _,_,.cons h r=>.cons h.seq r.seq
end
def aJ.hid{ok:IN->Prop}(hc:∀c∈cs,∃φ,H c=ID (.ext φ)){d:AF}(t:aJ ok H v d):aJ ok (hidC cs H) v d:=t.seq.keep λa o h e=>by
 obtain⟨h1,xs,h2⟩:=h;refine⟨h1,?_⟩;rw[fG λz=>?_]
 ·exact e
 obtain⟨φ,e2⟩:=hc a z;rw[e2] at h2;rcases h2 with h2|h2 <;> cases h2
def aP.hid(hc:∀c∈cs,∃φ,H c=ID (.ext φ))(t:aP H p B):aP (hidC cs H) p B:=by
 obtain⟨a,b,c,e,r⟩:=t;refine⟨a,b,c,?_,r⟩;rw[fG λz=>?_]
 ·exact e
 obtain⟨φ,e2⟩:=hc p z;rw[e2] at e;cases e
def kI.ext(h:kI H c u):∃φ,H c=ID (.ext φ):=by
 obtain⟨o,e,_⟩:=h;exact⟨_,e⟩
def qi{φ:Heap->Prop}(tp:aP H p B)(e:H c=ID (.ext φ)):c≠p:=λz=>by
 obtain⟨_,_,_,e2,_⟩:=tp.ex;rw[z,e2] at e;cases e
def agg{x:Str}{st:Stmt}{kV di:Ap}{N:List Str}{k:Nat}
  (lk:K.lookup f=ID ⟨oc,od,.func (fnOf x qual (fJ st) (cZ st) (aj st) .none kV di pm an (.ref c) ct),kH⟩)(hcd:codeIn K (.ref c) qual=true)(S:bw N ps (aj st))(len:∀vs H Q E,sp vs H Q E->vs.length=ps.length)
   (dE:∀(A:Bz)(outer:List Env)(s:AB)(H:Hp)(vs:List V)(Q:VK)(E:XK),gw k (A.deeper (F9 qual (aj st) s.heap.objs.size f (.ref c)))->sp vs H Q E ->
   ∃t,QB (KN CX0 P w K mg base N qual (aj st) f (.ref c) A outer s H E).nox (cZ st) t/\t { nx:=λ_ H'=>Q .non H',rt:=Q } (L2.start N vs) H):c7 P w K mg base CX0 (k+1) f (fnOf x qual (fJ st) (cZ st) (aj st) .none kV di pm an (.ref c) ct) ps sp:=by
 refine aep lk hcd S len λA outer s H vs Q E hr kL=>?_;obtain⟨t,h,q⟩:=dE A outer s H vs Q E hr kL;exact⟨t,h.h.nox,q⟩
def Pq(hL:jW H T pos qual)
   (h:∀(f c':IN)(ctv pm:Ap)(H':Hp),aR T H H'->H f=IF->H' f=ID (uE f (Dx "<lambda>" qual params body scope cl pm c' ctv))->H' c'=ID (uZ c' qual)->jW H' T pos qual ->
   (∀(ag:Pos) q2,(ag.line≠pos.line\/ag.col≠pos.col)->jW H T ag q2->jW H' T ag q2)->D.nx (σ.set i (ID (.ref f))) H'):z8 (Yb T pos qual params body scope cl) (lF i) D σ H:=⟨hL,h⟩
def aJ.tbl{ok:IN->Prop}(hL:jW H T pos q)(s:aR T H H'){d:AF}(t:aJ ok H v d):aJ ok H' v d:=t.seq.keep λa o h e=>by
 obtain⟨h1,xs,h2⟩:=h;refine⟨h1,s a o (λz=>?_) e⟩;obtain⟨ps,e2,_⟩:=hL;rw[z,e2] at h2;rcases h2 with h2|h2 <;> cases h2
def jW.ne(hL:jW H T pos q)(e:H a=ID o)(h:∀ps,o≠.tbl ps):a≠T:=λz=>by
 obtain⟨ps,e2,_⟩:=hL;rw[z,e2] at e;exact h ps (A7 e).symm
def aP.tbl(hL:jW H T pos q)(s:aR T H H')(t:aP H p B):aP H' p B:=by
 obtain⟨a,b,c,e,r⟩:=t;exact⟨a,b,c,s _ _ (hL.ne e λps z=>by cases z) e,r⟩
def jW.abP(hL:jW H T pos q)(tp:aP H p B)(s:aR p H H'):jW H' T pos q:=by
 obtain⟨_,_,_,e,_⟩:=tp.ex;exact hL.gY s (λps z=>by rw[e] at z;cases z) (λc z=>by rw[e] at z;cases z)
theorem Bo.same{cs:List (Nat×IN)}{σ:St}{H:Hp}{g:IN->Option Obj}(G:Bo cs σ H g):Same H (qm g H):=λb o e=>by
 cases hb:g b with
 | none=>rw[gH hb];exact e
 | some o2=>rw[G.fre b o2 hb] at e;cases e
def Bo.at{cs:List (Nat×IN)}{g:IN->Option Obj}(G:Bo cs σ H g)(hm:(i,c)∈cs)(hv:σ[i]?=ID (ID v)):∃u,RelV v u/\kI (qm g H) c u/\H c=IF:=by
 obtain⟨u,o,r,e,d⟩:=G.val i c hm v hv;exact⟨u,r,⟨o,Lk e,d⟩,G.fre c o e⟩
theorem Bo.back{cs:List (Nat×IN)}{σ:St}{H H2:Hp}{g:IN->Option Obj}{p:IN}{B:Int}(G:Bo cs σ H g)(tp:aP H p B)(s:aR p (qm g H) H2):(∀c o,g c=ID o->H2 c=ID (uE c o))/\aR p H (lH g H2):=by
 have np:∀c o,g c=ID o->c≠p:=λc o e=>tp.ne (G.fre c o e);refine⟨λc o e=>s _ _ (np c o e) (Lk e),λa o n e=>?_⟩;cases hb:g a with
 | none=>rw[jF hb];exact s a o n ((gH hb).trans e)
 | some o2=>rw[G.fre a o2 hb] at e;cases e
theorem aP.drop{cs:List (Nat×IN)}{σ:St}{H H2:Hp}{g:IN->Option Obj}{p:IN}{B B2:Int}(G:Bo cs σ H g)(tp:aP H p B)(t2:aP H2 p B2):aP (lH g H2) p B2:=by
 obtain⟨_,_,_,e,_⟩:=tp.ex;have hb:g p=IF:=by
  cases hb:g p with
  | none=>rfl
  | some o2=>rw[G.fre p o2 hb] at e;cases e
 obtain⟨a,b,c,e2,r⟩:=t2;exact⟨a,b,c,(jF hb).trans e2,r⟩
def bfR(q p:Nat×Nat):Prop:=p.1<q.1\/(p.1=q.1/\q.2<p.2)
def pU{p:Nat×Nat}:p∈mK n i ↔ ∃j,j<i+1/\(n-1-i,n-i+j)=p:=by
 unfold mK;rw[Ch];exact⟨λ⟨j,h,e⟩=>⟨j,D7.mp h,e⟩,λ⟨j,h,e⟩=>⟨j,D7.mpr h,e⟩⟩
def dh{p:Nat×Nat}:p∈dZ n n↔p.1<p.2/\p.2<=n:=by
 unfold dZ;rw[List.mem_flatMap];constructor
 ·rintro⟨i,hi,h⟩;have:=D7.mp hi;obtain⟨j,hj,rfl⟩:=pU.mp h;exact⟨by show n-1-i<n-i+j;omega,by show n-i+j<=n;omega⟩
 rintro⟨h1,h2⟩;refine⟨n-1-p.1,D7.mpr ω,pU.mpr ⟨p.2-p.1-1,ω,?_⟩⟩;exact Prod.ext (show n-1-(n-1-p.1)=p.1 by omega) (show n-(n-1-p.1)+(p.2-p.1-1)=p.2 by omega)
def Hu(n:Nat):(dZ n n).Pairwise bfR:=by
 unfold dZ;refine List.pairwise_flatMap.mpr ⟨λi hi=>?_,Hb.imp_of_mem λ{i j} hi hj h x hx y hy=>?_⟩
 ·unfold mK;exact KF.mpr (Hb.imp λ{j k} h=>.inr ⟨rfl,show n-i+j<n-i+k by omega⟩)
 have:=D7.mp hj;obtain⟨_,_,rfl⟩:=pU.mp hx;obtain⟨_,_,rfl⟩:=pU.mp hy;exact .inl (show n-1-j<n-1-i by omega)
def Te{l:List (Nat×Nat)}{p:Nat×Nat}(h:l.Pairwise bfR)(hi:l[i]?=ID p):∀q,q∈l.take i↔q∈l/\bfR q p:=by
 obtain⟨hl,e⟩:=AK.mp hi;have es:l=l.take i++p::l.drop (i+1):=by rw[<- e,<- IJ hl,K0]
 rw[es] at h;obtain⟨_,h2,h3⟩:=LL.mp h;intro q;constructor
 ·intro hq;exact⟨LD hq,h3 q hq p A5⟩
 rintro⟨hq,hb⟩;rw[es] at hq;rcases BG.mp hq with z|z
 ·exact z
 exfalso;rcases AX.mp z with rfl|z
 ·unfold bfR at hb;omega
 have:=(D4.mp h2).1 q z;unfold bfR at hb this;omega
structure Pz(ss:Sts)(ws zs:List Int)(H:Hp)(nd pd:IN)(m:Nat)(D:Nat×Nat->Prop)(N:Nat->Nat->Int)(T:Nat->Nat->Pl)(kn kp:List (List Key×V)):Prop where
 en:H nd=ID (.dT kn)
 ep:H pd=ID (.dT kp)
 ln:kn.length<=m
 lp:kp.length<=m
 num:∀p,D p->iT kn (key2 p.1 p.2)=ID (.int (N p.1 p.2))
 pln:∀p,D p->∃v,iT kp (key2 p.1 p.2)=ID v/\aJ (λa=>a≠nd/\a≠pd) H v (plD (T p.1 p.2))
 good:∀p,D p->PB ss ws zs (N p.1 p.2) p.1 p.2 (T p.1 p.2)
 lst:∀p,D p->kE ss ws zs N p.1 p.2 (N p.1 p.2)
def Pz.same{pd:IN}{D:Nat×Nat->Prop}{T:Nat->Nat->Pl}(h:Pz ss ws zs H nd pd m D N T kn kp)(s:Same H H'):Pz ss ws zs H' nd pd m D N T kn kp:=
 ⟨s _ _ h.en,s _ _ h.ep,h.ln,h.lp,h.num,λp hp=>by obtain⟨v,e,t⟩:=h.pln p hp;exact⟨v,e,t.same s⟩,h.good,h.lst⟩
def xM{a c d:Nat}(h:key2 (a:Int) (b:Int)=key2 (c:Int) (d:Int)):(a,b)=(c,d):=by
 obtain⟨h1,h2⟩:=aaz h;rw[show a=c by omega,show b=d by omega]
def Pz.step{pd:IN}{D D':Nat×Nat->Prop}{T:Nat->Nat->Pl}{a:Nat}{c:Int}{pl:Pl}(h:Pz ss ws zs H nd pd m D N T kn kp)(ck:nd≠pd)(cK:¬D (a,b))(hD':∀p,D' p↔D p\/p=(a,b))(tj:∀p,D' p->∀i j,p.1<=i->i<j->j<=p.2->j-i<p.2-p.1->D (i,j))
  (hg:PB ss ws zs c a b pl)(hl:kE ss ws zs N a b c)(tv:aJ (λx=>x≠nd/\x≠pd) H v (plD pl)) :
  ∃N' T',Pz ss ws zs (upd (upd H nd (.dT (putK kn (key2 (a:Int) (b:Int)) (.int c)))) pd (.dT (putK kp (key2 (a:Int) (b:Int)) v))) nd pd (m+1) D' N' T' (putK kn (key2 (a:Int) (b:Int)) (.int c)) (putK kp (key2 (a:Int) (b:Int)) v):=by
 obtain⟨N',eN⟩:∃N':Nat->Nat->Int,N'=λi j=>if (i,j)=(a,b) then c else N i j:=⟨_,rfl⟩;obtain⟨T',eT⟩:∃T':Nat->Nat->Pl,T'=λi j=>if (i,j)=(a,b) then pl else T i j:=⟨_,rfl⟩;have nN:∀p,D p->N' p.1 p.2=N p.1 p.2/\T' p.1 p.2=T p.1 p.2:=λp hp=>by
  have:¬(p.1,p.2)=(a,b):=λz=>cK (z ▸ hp);rw[eN,eT];exact⟨if_neg this,if_neg this⟩
 have nA:N' a b=c/\T' a b=pl:=by rw[eN,eT];exact⟨if_pos rfl,if_pos rfl⟩
 have tk:∀{v:V}{d:AF},aJ (λx=>x≠nd/\x≠pd) H v d->aJ (λx=>x≠nd/\x≠pd) (upd (upd H nd (.dT (putK kn (key2 (a:Int) (b:Int)) (.int c)))) pd (.dT (putK kp (key2 (a:Int) (b:Int)) v))) v d:=λt=>t.keep λx u hx e=>⟨hx,by rw[aO hx.2,aO hx.1];exact e⟩;have ZI:∀{u v:V}{d:AF},aJ (λx=>x≠nd/\x≠pd) H u d->aJ (λx=>x≠nd/\x≠pd) (upd (upd H nd (.dT (putK kn (key2 (a:Int) (b:Int)) (.int c)))) pd (.dT (putK kp (key2 (a:Int) (b:Int)) v))) u d:=λt=>t.keep λx u hx e=>⟨hx,by rw[aO hx.2,aO hx.1];exact e⟩;have lc:∀p,D' p->∀c,kE ss ws zs N p.1 p.2 c->kE ss ws zs N' p.1 p.2 c:=λp hp c l=>l.congr λi j h1 h2 h3 h4=>((nN (i,j) (tj p hp i j h1 h2 h3 h4)).1).symm;have key:∀p:Nat×Nat,∀(q:Prop),(D p->q)->(p=(a,b)->q)->D' p->q:=λp q h1 h2 h=>((hD' p).mp h).elim h1 h2;refine⟨N',T',by rw[aO ck];exact aB,aB,by have:=jD kn (key2 (a:Int) (b:Int)) (.int c);have:=h.ln;omega,by have:=jD kp (key2 (a:Int) (b:Int)) v;have:=h.lp;omega,λp hp=>?_,λp hp=>?_,λp hp=>?_,λp hp=>?_⟩
 ·refine key p _ (λd=>?_) (λe=>?_) hp
  ·rw[qO,if_neg λe=>cK (by rw[<- xM e];exact d),(nN p d).1];exact h.num p d
  subst e;rw[qO,if_pos rfl];show _=ID (At (N' a b));rw[nA.1]
 ·refine key p _ (λd=>?_) (λe=>?_) hp
  ·obtain⟨u,e,t⟩:=h.pln p d;refine⟨u,by rw[qO,if_neg λe=>cK (by rw[<- xM e];exact d)];exact e,?_⟩;rw[(nN p d).2];exact ZI t
  subst e;refine⟨v,by rw[qO,if_pos rfl],?_⟩;show aJ _ _ v (plD (T' a b));rw[nA.2];exact ZI tv
 ·refine key p _ (λd=>?_) (λe=>?_) hp
  ·rw[(nN p d).1,(nN p d).2];exact h.good p d
  subst e;show PB ss ws zs (N' a b) a b (T' a b);rw[nA.1,nA.2];exact hg
 refine key p _ (λd=>?_) (λe=>?_) hp
 ·rw[(nN p d).1];exact lc p hp _ (h.lst p d)
 subst e;show kE ss ws zs N' a b (N' a b);rw[nA.1];exact lc _ hp _ hl
def Hq:Sp:=λvs H Q _=>∃(sa wa t:IN)(xs:List V)(ok:IN->Prop)(ss:Sts)(ws zs:List Int),vs=[.ref sa,.ref wa,.ref t]/\H sa=ID (.lst xs)/\aF ok H xs (ss.map stD)/\1<=ss.length/\ss.length<=60/\H wa=ID (.lst (ws.map At))/\ws.length=ss.length/\qC H t zs /\
 ∀(r nd pd:IN) H' (m:Nat) (N:Nat->Nat->Int) (T:Nat->Nat->Pl) (kn kp:List (List Key×V)),Same H H'->H' r=ID (.tup [.ref nd,.ref pd])->Pz ss ws zs H' nd pd m (λp=>p.1<p.2/\p.2<=ss.length) N T kn kp->Q (.ref r) H'
def Qk:Sp:=λvs H Q E=>∃n:(Nat->Nat->Int)×(Nat->Nat->AF),Cg n.1 n.2 vs H Q E
def Hf:Sp:=λvs H Q E=>∃n:Nat,Hg n vs H Q E
def VF:Sp:=λvs H Q E=>∃n:Nat->Nat->Int,yx n vs H Q E
def Er{ι:Type}{CX:CXT}{k:Nat}{sp:ι->Sp}(h:∀n,c7 P w K mg base CX k f fd ps (sp n)):c7 P w K mg base CX k f fd ps (λvs H Q E=>∃n,sp n vs H Q E):=
 ⟨λvs H Q E ⟨n,z⟩=>(h n).1 vs H Q E z,λA outer s H args us vs Q E a b c d ⟨n,z⟩=>(h n).2 A outer s H args us vs Q E a b c d z⟩
def tL(nd pd:IN)(H H':Hp):Prop:=∀x o,x≠nd->x≠pd->H x=ID o->H' x=ID o
def tL.of{pd:IN}(s:Same H0 H)(b:tL nd pd H H')(h1:H0 nd=IF)(h2:H0 pd=IF):Same H0 H':=λx o e=>b x o (aH e h1) (aH e h2) (s x o e)
def tL.tree{pd:IN}{d:AF}(b:tL nd pd H H')(t:aJ (λx=>x≠nd/\x≠pd) H v d):aJ (λx=>x≠nd/\x≠pd) H' v d:=t.keep λa o h e=>⟨h,b a o h.1 h.2 e⟩
def tL.trans{pd:IN}(b:tL nd pd H H1)(s:Same H1 H2):tL nd pd H H2:=λx o h1 h2 e=>s _ _ (b x o h1 h2 e)
def tL.put{pd:IN}{o1 o2:HO}(b:tL nd pd H H1):tL nd pd H (upd (upd H1 nd o1) pd o2):=λx o h1 h2 e=>by
 rw[aO h2,aO h1];exact b x o h1 h2 e
def noD{pd:IN}(en:H nd=ID (.dT kn))(ep:H pd=ID (.dT kp))(h:abG H a):a≠nd/\a≠pd:=by
 constructor
 ·rintro rfl;obtain⟨xs,e|e⟩:=h
  ·rw[en] at e;cases e
  rw[en] at e;cases e
 rintro rfl;obtain⟨xs,e|e⟩:=h
 ·rw[ep] at e;cases e
 rw[ep] at e;cases e
def aF.ag8{pd:IN}{ok:IN->Prop}{vs:List V}(en:H nd=ID (.dT kn))(ep:H pd=ID (.dT kp))(t:aF ok H vs ds):aF (λx=>x≠nd/\x≠pd) H vs ds:=t.seq.keep λa o h e=>⟨noD en ep h.2,e⟩
def ahF{pd:IN}(en:H nd=ID (.dT kn))(ep:H pd=ID (.dT kp)):dJ (λx=>x≠nd/\x≠pd) H:=λH2 p s hp=>⟨(aH (s _ _ en) hp).symm,(aH (s _ _ ep) hp).symm⟩
abbrev uI:=List (List Key×IN×V)
def Fo(ae:uI):List (List Key×V):=ae.map λx=>(x.1,x.2.2)
def abE(ae:uI):(Fo ae).length=ae.length:=AG _
def KAt(ae:uI)(H:Hp):Prop:=∀x∈ae,H x.2.1=ID (.tup (x.1.map kV))
def wu(ae:uI)(xs:List (List Key×IN×Ap)):Prop:=Paired (λ(p:List Key×IN×V)(q:List Key×IN×Ap)=>p.1=q.1/\p.2.1=q.2.1/\RelV p.2.2 q.2.2) ae xs
def wu.length{ae:uI}{xs:List (List Key×IN×Ap)}(r:wu ae xs):ae.length=xs.length:=Mc r
def wu.snoc{ae:uI}{xs:List (List Key×IN×Ap)}(r:wu ae xs)(k:List Key)(b:IN)(ru:RelV v u):wu (ae++[(k,b,v)]) (xs++[(k,b,u)]):=Paired.snoc r ⟨rfl,rfl,ru⟩
theorem wu.kt{H:Hp}{ae:uI}{xs:List (List Key×IN×Ap)}(r:wu ae xs)(h:KAt ae H):KT H (Fo ae) xs:=by
 unfold wu at r
 induction r with
 | nil=>exact .nil
 | @cons p q ps qs hq t ih=>
  obtain⟨h1,h2,h3⟩:=hq;exact .cons ⟨h1,by rw[<- h2];exact h p A5,h3⟩ (ih λx hx=>h x (A9 _ hx))
theorem wu.mem{ae:uI}{xs:List (List Key×IN×Ap)}(r:wu ae xs):∀x∈xs,∃y∈ae,y.1=x.1/\y.2.1=x.2.1:=by
 unfold wu at r
 induction r with
 | nil=>intro x hx;cases hx
 | @cons p q ps qs hq t ih=>
  intro x hx;rcases AX.mp hx with rfl|hx
  ·exact⟨p,A5,hq.1,hq.2.1⟩
  obtain⟨y,hy,e⟩:=ih x hx;exact⟨y,A9 _ hy,e⟩
def z7(P:AO)(w:Bi)(o:Obj)(xs:List (List Key×IN×Ap)):Prop:=∃es ep,o.ExactDict/\o.data=Data.dict es ep/\es.toList=xs.map (entryOfKey (F3 (cT P w)))/\(xs.map (·.1)).Nodup
section
variable{o:Obj}{ae:uI}{xs:List (List Key×IN×Ap)}
def z7.at(d:z7 P w o xs)(r:wu ae xs)(ks:∀x∈ae,(F3 (cT P w)).is h x.1 x.2.1)(e:h.get? a=ID o):h.DictOfH (F3 (cT P w)) a xs:=by
 obtain⟨es,ep,h1,h2,h3,h4⟩:=d;refine⟨o,es,ep,e,h1,h2,h3,λx hx=>?_,h4⟩;obtain⟨y,hy,e1,e2⟩:=r.mem x hx;rw[<- e1,<- e2];exact ks y hy
def z7.new(d:z7 P w o xs)(z:(Fo ae).length<=AJ)(hd:(a == DH)=false)(r:wu ae xs)(ka:KAt ae H)(e:h.get? a=ID o):bW P w H h a (.dT (Fo ae)):=by
 obtain⟨es,ep,h1,h2,h3,h4⟩:=d;exact⟨z,hd,xs,r.kt ka,o,es,ep,e,h1,h2,h3,h4⟩
def z7.put(d:z7 P w o xs)(r:wu ae xs){kk:List Key}{b:IN}(kn:∀x∈ae,x.1≠kk)(dd:h.DictOfH (F3 (cT P w)) a (storedH xs kk b u)):∃o' es ep,h.get? a=ID o'/\o'.ExactDict/\o'.data=Data.dict es ep/\es.toList=(xs++[(kk,b,u)]).map (entryOfKey (F3 (cT P w)))/\((xs++[(kk,b,u)]).map (·.1)).Nodup:=by
 have:atKey xs kk=IF:=by
  unfold atKey;rw[Option.map_eq_none_iff,List.find?_eq_none];intro x hx;obtain⟨y,hy,e1,_⟩:=r.mem x hx;have:=kn y hy;rw[e1] at this;simpa using this
 rw[storedH_new this] at dd;obtain⟨o',es,ep,e,h1,h2,h3,_,h4⟩:=dd;exact⟨o',es,ep,e,h1,h2,h3,h4⟩
def W6(hb:DH<h.objs.size):z7 P w { cls:=.type "dict",data:=.dict #[] } []:=by
 obtain⟨_,_,vs,kv,o,es,ep,e,h1,h2,h3,h4⟩:=Ot (P:=P) (w:=w) (H:=λ_=>IF) h hb;cases kv;have e2:(h.push { cls:=.type "dict",data:=.dict #[] }).get? h.objs.size=ID { cls:=.type "dict",data:=.dict #[] }:=AU _ rfl;rw[e2] at e;cases e;exact⟨es,ep,h1,h2,h3,h4⟩
end
def Tf(mp:List (Option Nat))(wi:TI)(g:TG)(tc:TT)(tk tv:TE):TE:=λσ H Q=>wi σ H λJ H1=>
 ∃W:Nat->Nat->uI->St->Hp->Prop,(∃m,W 0 m [] (fO mp σ) H1)/\∀i m ae τ H2,W i m ae τ H2->KAt ae H2/\(
  (J.stop i H2/\∀d,H2 d=IF->Q (.ref d) (upd H2 d (.dT (Fo ae)))) \/
  (J.go i H2/\ae.length<AJ/\∃N:uI->St->Hp->Prop,(∀ah τ' H',N ah τ' H'->∃m',m'<m/\W (i+1) m' ah τ' H')/\∀x H3,J.yld i H2 x H3->g x τ H3 λτ1 H4=>tc τ1 H4 λb H5=>
   if b=true then tk τ1 H5 λkv H6=>tv τ1 H6 λv H7=>∃(k:List Key)(kb:IN),kv=.ref kb/\H7 kb=ID (.tup (k.map kV))/\KAt ae H7/\(∀x∈ae,x.1≠k)/\N (ae++[(k,kb,v)]) τ1 H7 else N ae τ1 H5))
def kT{X:Cx}(hu:X.A.units<FI):DKd X uI where
 e0:=[]
 len:=List.length
 ho c:=.dT (Fo c)
 K c H p:=KAt c H/\p
 S ae H7 kv v N:=∃(k:List Key)(kb:IN),kv=.ref kb/\H7 kb=ID (.tup (k.map kV))/\KAt ae H7/\(∀x∈ae,x.1≠k)/\N (ae++[(k,kb,v)])
 DV ae o:=∃vs,z7 X.prog X.w o vs/\wu ae vs
 nil _ h:=⟨[],W6 h,.nil⟩
 z:=rfl
 out h:=h.2
 new:=λ{c o H h D p} hz hs ⟨_,d,va⟩ k n e=>d.new (by rw[abE];exact hz) hs va (λx hx=>by rw[aO (aH (k.1 x hx) n)];exact k.1 x hx) e
 put:=by
  rintro c o H s D kv v uk u N Q E ⟨vs,d,va⟩ hz ⟨kk,kb,ek,ekb,TZ,TU,n⟩ rk rv hk e h;subst ek;cases (show _=EQ kb from rk);have ar:=va.length;refine wpAny_dictSet_heap (knd:=F3 (cT X.prog X.w)) hu (Dz hk ekb) (d.at va (λx hx=>Dz hk (TZ x hx)) e) (λh' dd sb=>?_) ω;obtain⟨o',dt,pj,g1,g2⟩:=d.put va TU dd;exact h _ o' h' _ n sb g1 ⟨_,⟨dt,pj,g2⟩,va.snoc kk kb rv⟩ (by rw[AQ,BS];omega) λv z=>by rw[g2.2.1] at z;cases z
def Zk{X:Cx}{NX:List Str}{kX:List (Str×BQ)}{scope:C8}(hu:X.A.units<FI):=@Ua X NX kX scope _ (kT hu) Tf rfl
def abI(mp:List (Option Nat))(g:TG)(tc:TT)(tk tv:TE)(σ:St)(Q:VK)(J:It)(H1:Hp):Prop:=
 ∃W:Nat->Nat->uI->St->Hp->Prop,(∃m,W 0 m [] (fO mp σ) H1)/\∀i m ae τ H2,W i m ae τ H2->KAt ae H2/\(
  (J.stop i H2/\∀d,H2 d=IF->Q (.ref d) (upd H2 d (.dT (Fo ae)))) \/
  (J.go i H2/\ae.length<AJ/\∃N:uI->St->Hp->Prop,(∀ah τ' H',N ah τ' H'->∃m',m'<m/\W (i+1) m' ah τ' H')/\∀x H3,J.yld i H2 x H3->g x τ H3 λτ1 H4=>tc τ1 H4 λb H5=>
   if b=true then tk τ1 H5 λkv H6=>tv τ1 H6 λv H7=>∃(k:List Key)(kb:IN),kv=.ref kb/\H7 kb=ID (.tup (k.map kV))/\KAt ae H7/\(∀x∈ae,x.1≠k)/\N (ae++[(k,kb,v)]) τ1 H7 else N ae τ1 H5))
def aa6{tk:TE}{Q:VK}(h:∀R:It->Hp->Prop,R=abI mp g tc tk tv σ Q->wi σ H R):Tf mp wi g tc tk tv σ H Q:=h _ rfl
theorem aa5{K:AA}{mp:List (Option Nat)}{g:TG}{tc:TT}{tk tv:TE}{σ:St}{H:Hp}{Q:VK}{R:It->Hp->Prop}{a:IN}{xs:List V}(hR:R=abI mp g tc tk tv σ Q)(hz:xs.length<AJ)(Pv:Nat->uI->St->Hp->Prop)(h0:Pv 0 [] (fO mp σ) H)
  (hq:∀i ae τ H,Pv i ae τ H->ae.length<=i/\KAt ae H/\SqL K H a xs)
  (hs:∀(i:Nat) x ae τ H,xs[i]?=ID x->Pv i ae τ H->g x τ H λτ1 H4=>tc τ1 H4 λb H5=>if b=true then tk τ1 H5 λkv H6=>tv τ1 H6 λv H7=>∃(k:List Key)(kb:IN),kv=.ref kb/\H7 kb=ID (.tup (k.map kV))/\KAt ae H7/\(∀x∈ae,x.1≠k)/\Pv (i+1) (ae++[(k,kb,v)]) τ1 H7 else Pv (i+1) ae τ1 H5)
  (hd:∀ae τ H d,Pv xs.length ae τ H->H d=IF->Q (.ref d) (upd H d (.dT (Fo ae)))):R (Itl K a) H:=by
 rw[hR];refine⟨λi m ae τ H'=>m+i=xs.length/\Pv i ae τ H',⟨xs.length,ω,h0⟩,?_⟩;rintro i m ae τ H2 ⟨hm,pv⟩;obtain⟨h1,h2,h3⟩:=hq i ae τ H2 pv;refine⟨h2,?_⟩;cases m with
 | zero=>
  have:i=xs.length:=by omega
  subst this;exact .inl ⟨⟨xs,h3,A3 _⟩,λd gI=>hd ae τ H2 d pv gI⟩
 | succ m=>
  have hi:i<xs.length:=ω;refine .inr ⟨⟨xs,xs[i],h3,AC hi⟩,ω,λah τ' H'=>Pv (i+1) ah τ' H',λah τ' H' p=>⟨m,ω,ω,p⟩,?_⟩;rintro x H3 ⟨rfl,hx⟩;exact hs i x ae τ _ (hx xs h3) pv
def oM(ss:Sts)(ws zs:List Int)(lab:Int):List (Int×Int):=((BF ss.length).filter λk=>lbl ss k≠lab).map (prK ss ws zs)
def Ce:Sp:=λvs H Q _=>∃(sa wa t:IN)(xs:List V)(ok:IN->Prop)(ss:Sts)(ws zs:List Int)(lab:Int),vs=[.ref sa,.ref wa,.ref t,.int lab]/\H sa=ID (.lst xs)/\aF ok H xs (ss.map stD)/\ss.length<=60/\H wa=ID (.lst (ws.map At))/\ws.length=ss.length/\qC H t zs /\
 ∀(l:List (Int×Int)) H',Same H H'->Fall l->l.Perm (oM ss ws zs lab)->Q (.int (gC ws.sum l)) H'
def gOf(H:Hp)(p:IN):Int×Int:=match H p with
 | some (.tup [.int a,.int b])=>(a,b)
 | _=>(0,0)
def Ej{a b:Int}(e:H p=ID (.tup [.int a,.int b])):gOf H p=(a,b):=by
 unfold gOf;rw[e]
structure PrL(H:Hp)(d:IN)(ps:List IN)(L:List (Int×Int)):Prop where
 e:H d=ID (.lst (ps.map AT))
 at':∀p∈ps,H p=ID (.tup [.int (gOf H p).1,.int (gOf H p).2])
 l:ps.map (gOf H)=L
def PrL.same{d:IN}{ps:List IN}(h:PrL H d ps L)(s:Same H H'):PrL H' d ps L:=by
 have k:∀p∈ps,gOf H' p=gOf H p:=λp hp=>Ej (s _ _ (h.at' p hp));exact⟨s _ _ h.e,λp hp=>by rw[k p hp];exact s _ _ (h.at' p hp),by rw[<- h.l];exact Fn k⟩
def PrL.put{d:IN}{ps qs:List IN}(h:PrL H d ps L)(hq:∀q∈qs,q∈ps\/∃a b,H q=ID (.tup [.int a,.int b])):PrL (upd H d (.lst (qs.map AT))) d qs (qs.map (gOf H)):=by
 have hd:∀q∈qs,∃a b,H q=ID (.tup [.int a,.int b]):=λq z=>(hq q z).elim (λy=>⟨_,_,h.at' q y⟩) id;have k:∀q∈qs,upd H d (.lst (qs.map AT)) q=H q:=λq z=>by
  obtain⟨a,b,e⟩:=hd q z;exact aO (Uv e h.e (λz=>by cases z))
 have k2:∀q∈qs,gOf (upd H d (.lst (qs.map AT))) q=gOf H q:=λq z=>by
  obtain⟨a,b,e⟩:=hd q z;rw[Ej e,Ej (by rw[k q z];exact e)]
 refine⟨aB,λq z=>?_,Fn k2⟩;obtain⟨a,b,e⟩:=hd q z;rw[k2 q z,Ej e,k q z];exact e
def abK{c:TT}(Pv:Nat->St->Hp->Prop)(n:Nat)(h0:Pv n σ H)
  (hs:∀m σ H,Pv m σ H->c σ H λb H1=>if b=true then ∃N:St->Hp->Prop,(∀σ' H',N σ' H'->∃m',m'<m/\Pv m' σ' H')/\tb { D with nx:=N,ct:=N,bk:=D.nx } σ H1 else D.nx σ H1):Qc c tb D σ H:=
 ⟨Pv,⟨n,h0⟩,hs⟩
def W0{p:Nat->Bool}(i:Nat):(BF (i+1)).filter p=(BF i).filter p++(if p i=true then [i] else []):=by
 rw[range_succ,filter_append,LY,List.filter_nil]
def PrL.push{d q:IN}{ps:List IN}{a b:Int}(h:PrL H d ps L)(e:H q=ID (.tup [.int a,.int b])):PrL (upd H d (.lst (ps.map AT++[.ref q]))) d (ps++[q]) (L++[(a,b)]):=by
 have:=h.put (qs:=ps++[q]) λx hx=>(BG.mp hx).elim .inl λz=>.inr (by rw[AL.mp z];exact⟨_,_,e⟩);rw[Be,Be,h.l] at this;rw[DE,DE,Ej e] at this;exact this
def PrL.len{d:IN}{ps:List IN}(h:PrL H d ps L):ps.length=L.length:=by rw[<- h.l,AG]
theorem uY(f:IN->Int×Int):∀(ps:List IN)(j:Nat),(ps.map f).eraseIdx j=(ps.eraseIdx j).map f
 | [],_=>rfl
 | _::_,0=>rfl
 | p::ps,j+1=>congrArg (f p :: ·) (uY f ps j)
def PrL.drop{d:IN}{ps:List IN}{b:Int×Int}(h:PrL H d ps L)(j:Nat)(hj:L.idxOf b=j):PrL (upd H d (.lst ((ps.eraseIdx j).map AT))) d (ps.eraseIdx j) (L.erase b):=by
 have:=h.put (qs:=ps.eraseIdx j) λx hx=>.inl (List.mem_of_mem_eraseIdx hx);rw[<- h.l] at hj |-;rw[List.erase_eq_eraseIdx_of_idxOf hj,uY];exact this
def adG(ps:List IN):(ps.map AT).isEmpty=ps.isEmpty:=by cases ps <;> rfl
def Vv(hz:zs.length=5)(h:∀z∈zs,1<=z/\z<=99):∀x∈oM ss ws zs lab,0<x.2/\x.2<=99:=by
 intro x hx;obtain⟨k,_,rfl⟩:=Ch.mp hx;show 0<dg ss zs k/\dg ss zs k<=99;have g:∀i,i<5->1<=zs.getD i 0/\zs.getD i 0<=99:=λi hi=>by
  rw[AV,AC ω];exact h _ (EB _)
 unfold dg;split
 ·have:=g 0 δ;omega
 have:=g 1 δ;omega
theorem lt_of_le_ne:∀{l:List Int},l.Pairwise (·<=·)->l.Nodup->l.Pairwise (· < ·)
 | [],_,_=>.nil
 | a::l,h,k=>by
  rw[D4] at h;rw[GM] at k;exact D4.mpr ⟨λb hb=>by have:=h.1 b hb;have:a≠b:=λz=>k.1 (z ▸ hb);omega,lt_of_le_ne h.2 k.2⟩
def afx{left:List Nat}(up:left.Pairwise (· < ·))(ky:∀k∈left,k<64):∃o,u5 ss ws zs left o:=by
 have pm:=List.mergeSort_perm left λx y=>decide (jA ss ws zs x<=jA ss ws zs y);have pw:=List.pairwise_mergeSort (le:=λx y=>decide (jA ss ws zs x<=jA ss ws zs y)) (λa b c h1 h2=>by simp at h1 h2 |-;omega) (λa b=>by simp;omega) left;refine⟨_,pm,lt_of_le_ne (KF.mpr (pw.imp λh=>by simpa using h)) ((pm.map _).nodup_iff.mpr (vq up ky))⟩
def sls(ss:Sts)(a b:Nat):Sts:=(ss.drop a).take (b-a)
def wG{a:Nat}(h:b<=ss.length):(sls ss a b).length=b-a:=by unfold sls;rw[EN,FO];omega
def Ci{a k:Nat}(h:b<=ss.length)(hk:k<b-a):fZ (sls ss a b) k=fZ ss (a+k):=by
 unfold fZ sls;rw[AV,AV,getElem?_take,if_pos ω,getElem?_drop]
def aeJ{a k:Nat}(hk:k<b-a):(slc ws a b).getD k 0=ws.getD (a+k) 0:=by
 unfold slc;rw[AV,AV,getElem?_take,if_pos ω,getElem?_drop]
def Jv{a:Nat}(h:b<=ws.length):(slc ws a b).sum=sumK ws (rng a b):=by
 unfold sumK rng;rw[GL];congr 1;refine ext_getElem? λk=>?_;rw[AM];by_cases hk:k<b-a
 ·rw[EC hk];unfold slc;rw[getElem?_take,if_pos ω,getElem?_drop,AC ω];show _=ID (ws.getD (a+k) 0);rw[AV,AC ω];rfl
 rw[B4 (by unfold slc;rw[EN,FO];omega),B4 (by rw[Cf];omega)];rfl
def Qa{a:Nat}(h:b<=ss.length):oM (sls ss a b) (slc ws a b) zs lab=((rng a b).filter λk=>decide (lbl ss k≠lab)).map (prK ss ws zs):=by
 unfold oM rng;rw[wG h,List.filter_map,GL];have e:(BF (b-a)).filter (λk=>decide (lbl (sls ss a b) k≠lab))=(BF (b-a)).filter ((λk=>decide (lbl ss k≠lab))∘λx=>a+x):=List.filter_congr λk hk=>by
  show decide (lbl (sls ss a b) k≠lab)=decide (lbl ss (a+k)≠lab);unfold lbl;rw[Ci h (D7.mp hk)]
 rw[e];refine Fn λk hk=>?_;have hk:=D7.mp (ER.mp hk).1;show prK _ _ _ k=prK ss ws zs (a+k);unfold prK dg isT;rw[aeJ hk,Ci h hk]
def YB{a:Nat}{l:List (Int×Int)}(df:ss.length<=60)(hb:b<=ss.length)(hw:ws.length=ss.length)(h0:1<=zs.getD 0 0)(h1:1<=zs.getD 1 0)(ho:u5 ss ws zs (rng a b) ord)(fl:Fall l)(pm:l.Perm (oM (sls ss a b) (slc ws a b) zs lab)):gC (slc ws a b).sum l=jR ss ws zs (sumK ws (rng a b)) ord lab:=by
 unfold jR;rw[Jv ω,Um];refine(adS fl (Iv h0 h1 (λk hk=>?_) ?_) ?_).symm
 ·have h2:=ho.pm.mem_iff.mp (ER.mp hk).1;have:=fC.mp h2;omega
 ·have:=ho.up;rw[KF] at this |-;exact this.filter _
 rw[Qa hb] at pm;exact(((ho.pm.filter _).map (prK ss ws zs)).trans (by unfold lbl at pm;exact pm.symm))
def flat(x:mj):Prop:=x.2.2=[]
def Ey(ss:Sts)(ws zs:List Int)(a b:Nat)(ord:List Nat)(L:List Int):List Int:=(if gG ss (rng a b)<=200 then [sumK ws (rng a b)*zs.getD 4 0] else [])++(if gG ss (rng a b)<=64/\L.length=2 then [sumK ws (rng a b)*zs.getD 3 0] else [])++L.map λlab=>jR ss ws zs (sumK ws (rng a b)) ord lab
def W8(ss:Sts)(ws zs:List Int)(a b:Nat)(ord:List Nat)(L:List Int):Ey ss ws zs a b ord L=(ux ss ws zs a b++Al ss ws zs a b L++Hv ss ws zs a b ord L).map (·.1):=by
 unfold Ey ux Al Hv;rw[Be,Be,GL];congr 1;congr 1
 ·split
  ·rw[II];rfl
  rfl
 split
 ·rw[II];rfl
 rfl
def Rt{a:Nat}{L:List Int}(hL:u9 ss (rng a b) L)(ho:u5 ss ws zs (rng a b) ord)(c:Int):c∈Ey ss ws zs a b ord L ↔ ∃x,lK ss ws zs a b x/\x.2.2=[]/\c=x.1:=by
 rw[W8,Ch];have hf:∀x,x∈ux ss ws zs a b++Al ss ws zs a b L++Hv ss ws zs a b ord L->x.2.2=[]:=λx hx=>by
  rcases BG.mp hx with hx|hx
  ·rcases BG.mp hx with hx|hx
   ·unfold ux at hx;split at hx
    ·rw[AL.mp hx]
    cases hx
   unfold Al at hx;split at hx
   ·rw[AL.mp hx]
   cases hx
  obtain⟨lab,_,rfl⟩:=Ch.mp hx;rfl
 constructor
 ·rintro⟨x,hx,rfl⟩;refine⟨x,(uf hL ho x).mp ?_,hf x hx,rfl⟩;simp only[BG] at hx |-;rcases hx with(h|h)|h
  ·exact .inl (.inl (.inr h))
  ·exact .inl (.inr h)
  exact .inl (.inl (.inl h))
 rintro⟨x,hx,e,rfl⟩;refine⟨x,?_,rfl⟩;have:=(uf hL ho x).mpr hx;simp only[BG] at this |-;rcases this with((h|h)|h)|h
 ·exact .inr h
 ·exact .inl (.inl h)
 ·exact .inl (.inr h)
 obtain⟨k,_,rfl⟩:=Ch.mp h;cases e
def Hi:Sp:=λvs H Q _=>∃(sa wa t:IN)(a b:Nat)(xs:List V)(ok:IN->Prop)(ss:Sts)(ws zs:List Int),vs=[.ref sa,.ref wa,.ref t,.int (a:Int),.int (b:Int)]/\H sa=ID (.lst xs)/\aF ok H xs (ss.map stD)/\ss.length<=60/\H wa=ID (.lst (ws.map At))/\ws.length=ss.length/\qC H t zs/\a<b/\b<=ss.length /\
 ∀(d:IN)(C:List Int) H',Same H H'->H d=IF->H' d=ID (.lst (C.map At))->C.length<=200->C≠[]->(∀c,c∈C ↔ ∃x,lK ss ws zs a b x/\x.2.2=[]/\c=x.1)->Q (.ref d) H'
def ahl(h1:i<=j)(h2:j<=xs.length):mX xs (ID (i:Int)) (ID (j:Int))=(xs.drop i).take (j-i):=by
 unfold mX;have e1:HT.sIx xs.length 0 (ID (i:Int))=i:=by
  simp only[HT.sIx];split <;> omega
 have e2:HT.sIx xs.length xs.length (ID (j:Int))=j:=by
  simp only[HT.sIx];split <;> omega
 rw[e1,e2]
theorem aF.aer{ok:IN->Prop}{H:Hp}:∀{vs:List V}{ds:List AF}(n:Nat),aF ok H vs ds->aF ok H (vs.drop n) (ds.drop n)
 | _,_,0,t=>t
 | _,_,n+1,.nil=>.nil
 | _,_,n+1,.cons _ r=>aF.aer n r
theorem aF.aeg{ok:IN->Prop}{H:Hp}:∀{vs:List V}{ds:List AF}(n:Nat),aF ok H vs ds->aF ok H (vs.take n) (ds.take n)
 | _,_,0,_=>.nil
 | _,_,n+1,.nil=>.nil
 | _,_,n+1,.cons t r=>.cons t (aF.aeg n r)
def abY(ss:Sts)(a b:Nat):((ss.map stD).drop a).take (b-a)=(sls ss a b).map stD:=by unfold sls;rw[map_take,map_drop]
def abv{xs:List α}(h:1<=xs.length):atI xs (-1)=atI xs ((xs.length-1:Nat):Int):=by
 unfold atI ixN;rw[if_neg δ,if_pos ω,if_pos ω,if_pos ω];congr 2;omega
def Yn{a:Nat}(cK:a<b)(h:b<=ss.length):(fZ (sls ss a b) (b-a-1)).2.1-(fZ (sls ss a b) 0).1+1=gG ss (rng a b):=by
 rw[Ci h ω,Ci h ω];unfold gG;have e1:(rng a b).head?=ID a:=by
  unfold rng;rw[List.head?_map,show b-a=(b-a-1)+1 by omega,IU];rfl
 have e2:(rng a b).getLast?=ID (b-1):=by
  unfold rng;rw[show b-a=(b-a-1)+1 by omega,range_succ,Be,List.map_singleton,List.getLast?_concat];exact congrArg ID ω
 rw[e1,e2,show a+(b-a-1)=b-1 by omega];rfl
def aaw{a:Nat}(h:b<=ss.length):(sls ss a b).map (·.2.2)=(rng a b).map (lbl ss):=by
 refine ext_getElem? λk=>?_;rw[AM,AM];unfold rng;rw[AM];by_cases hk:k<b-a
 ·rw[EC hk,Jr (by rw[wG h];exact hk),Ci h hk];rfl
 rw[B4 (by rw[wG h];omega),B4 (by rw[Cf];omega)];rfl
def YQ(p:Prop)[Decidable p](c:Int):(Cs (if p then 1 else 0:Int).toNat [At c]).flatten=(if p then [c] else []).map At:=by
 by_cases h:p
 ·rw[if_pos h,if_pos h];rfl
 rw[if_neg h,if_neg h];rfl
def ZS(p:Prop)[Decidable p]:(-2^63<=(if p then 1 else 0:Int))/\(if p then 1 else 0:Int)<2^63/\1*(if p then 1 else 0:Int).toNat<=AJ:=by
 by_cases h:p
 ·rw[if_pos h];exact⟨δ,δ,aQ δ⟩
 rw[if_neg h];exact⟨δ,δ,aQ δ⟩
def U5(p:Prop)[Decidable p](c:Int):(if p then [c] else []).length<=1:=by
 by_cases h:p
 ·rw[if_pos h];exact A3 _
 rw[if_neg h];exact DC _
def jZ{x:mj}(h:x.2.2=[]):lg M x=x.1:=by unfold lg;rw[h];show x.1+0=x.1;omega
theorem aau{ss:Sts}{ws zs:List Int}{M:Nat->Nat->Int}{a b:Nat}{C:List Int}{m:Int}(cK:a<b)(hC:∀c,c∈C ↔ ∃x,lK ss ws zs a b x/\x.2.2=[]/\c=x.1)(hm:m∈C++(rng (a+1) b).map λk=>zs.getD 2 0*sumK ws (rng a b)+M a k+M k b)(cf:∀c∈C++(rng (a+1) b).map λk=>zs.getD 2 0*sumK ws (rng a b)+M a k+M k b,m<=c):kE ss ws zs M a b m:=by
 have Nw:∀k:Nat,lg M (zs.getD 2 0*sumK ws (rng a b),[.str "below",.int (k:Int)],[(a,k),(k,b)])=zs.getD 2 0*sumK ws (rng a b)+M a k+M k b:=λk=>by
  show zs.getD 2 0*sumK ws (rng a b)+(M a k+(M k b+0))=_;omega
 constructor
 ·rcases BG.mp hm with h|h
  ·obtain⟨x,hx,e,rfl⟩:=(hC m).mp h;exact⟨x,hx,(jZ e).symm⟩
  obtain⟨k,hk,rfl⟩:=Ch.mp h;have:=fC.mp hk;exact⟨_,lK.low k ω this.2,(Nw k).symm⟩
 intro x hx;have flat:x.2.2=[]->m<=lg M x:=λe=>by
  rw[jZ e];exact cf _ (EF _ ((hC _).mpr ⟨x,hx,e,rfl⟩))
 cases hx with
 | row lab ord h1 h2=>exact flat rfl
 | tab c=>exact flat rfl
 | msk l0 l1 c h=>exact flat rfl
 | low k h1 h2=>
  rw[Nw];exact cf _ (AR _ (Ch.mpr ⟨k,fC.mpr ⟨ω,h2⟩,rfl⟩))
structure BTab(ss:Sts)(ws zs:List Int)(H:Hp)(bd:IN)(m:Nat)(D:Nat×Nat->Prop)(M:Nat->Nat->Int)(kvs:List (List Key×V)):Prop where
 e:H bd=ID (.dT kvs)
 l:kvs.length<=m
 num:∀p,D p->iT kvs (key2 p.1 p.2)=ID (.int (M p.1 p.2))
 one:∀p,D p->p.2=p.1+1->M p.1 p.2=0
 lst:∀p,D p->p.1+2<=p.2->kE ss ws zs M p.1 p.2 (M p.1 p.2)
def T6{a:Nat}(h:i<b-a):(rng a b)[i]?=ID (a+i):=by
 unfold rng;rw[AM,EC h];rfl
def at0{x:V}:atI (x::xs) 0=ID x:=cG (j:=0) rfl
theorem adQ{l:List Int}(h:∀w∈l,0<=w)(k:Nat):0<=l.getD k 0:=by
 rw[AV];cases e:l[k]? with
 | none=>exact GU _
 | some x=>exact h x (AY e)
def Fv(m:Nat)(d:AF)(N:List Int):Prop:=d=.list (N.map AF.int)/\N.length=m
def blP(p:Prop):V:=.bl (@decide p (D1 p))
def O8{p:Prop}(h:p):blP p=.bl true:=congrArg As (@decide_eq_true p (D1 p) h)
def tK{p:Prop}(h:¬p):blP p=.bl false:=congrArg As (@decide_eq_false p (D1 p) h)
def spListN:Sp:=λvs H Q _=>∃(v:V)(m:Nat)(ok:IN->Prop)(d:AF),vs=[v,.int (m:Int)]/\dJ ok H/\aJ ok H v d/\(∀H',Same H H'->Q (blP (∃N,Fv m d N)) H')
def iY(n:Nat)(N:Nat->Nat->Int)(a:Nat):List Int:=(rng (a+1) (n+1)).map (N a)
def iW(n:Nat)(N:Nat->Nat->Int)(a:Nat):(iY n N a).length=n-a:=by unfold iY;rw[AG,gP];omega
def rA{a:Nat}(h:i<n-a):(iY n N a)[i]?=ID (N a (a+1+i)):=by
 unfold iY;rw[AM,T6 ω];rfl
def pq(n:Nat)(N:Nat->Nat->Int):AF:=.list ((BF n).map λa=>.list ((iY n N a).map AF.int))
def Vo(n:Nat)(d:AF):Prop:=∃N,d=pq n N
def ZR(e:pq n N=pq n M):∀a b,a<b->b<=n->N a b=M a b:=by
 intro a b h1 h2;have e1:=congrArg (λl:List AF=>l[a]?) (AF.list.inj e);simp only[AM] at e1;rw[EC ω] at e1;have e2:(iY n N a).map AF.int=(iY n M a).map AF.int:=AF.list.inj (A7 e1);have e3:=congrArg (λl:List AF=>l[b-(a+1)]?) e2;simp only[AM] at e3;rw[rA ω,rA ω,show a+1+(b-(a+1))=b by omega] at e3;exact AF.int.inj (A7 e3)
def uh:Vo n (.list ds)↔ds.length=n/\∀j,j<n->∃M,Fv (n-j) (ds.getD j .none) M:=by
 constructor
 ·rintro⟨N,e⟩;have e:=AF.list.inj e;refine⟨by rw[e,AG,Cf],λj hj=>⟨iY n N j,?_,iW n N j⟩⟩;rw[e,AV,AM,EC hj];rfl
 rintro⟨hl,h⟩;obtain⟨f,hf⟩:∃f:Nat->List Int,∀j,j<n->Fv (n-j) (ds.getD j .none) (f j):=by
  classical
  exact⟨λj=>if q:j<n then Classical.choose (h j q) else [],λj q=>by simp only[dif_pos q];exact Classical.choose_spec (h j q)⟩
 refine⟨λa b=>(f a).getD (b-(a+1)) 0,congrArg AF.list (ext_getElem? λk=>?_)⟩;rw[AM];by_cases c:k<n
 ·obtain⟨h1,h2⟩:=hf k c;rw[EC c,AC ω];rw[AV,AC ω] at h1;replace h1:ds[k]=.list ((f k).map AF.int):=h1;rw[h1];show ID _=ID _;congr 3;refine ext_getElem? λi=>?_;by_cases ci:i<n-k
  ·rw[rA ci,AC ω,show k+1+i-(k+1)=i by omega,AV,AC ω];rfl
  rw[B4 ω,B4 (by rw[iW];omega)]
 rw[B4 ω,B4 (by rw[Cf];omega)];rfl
def zx(ss:Sts)(ws zs:List Int)(n:Nat)(N:Nat->Nat->Int):Prop:=∀a b,a<b->b<=n->∀x,lK ss ws zs a b x->N a b<=lg N x
def PK{a:Nat}(h:∀i j,a<=i->i<j->j<=b->j-i<b-a->N i j=M i j){x:mj}(hx:lK ss ws zs a b x):lg N x=lg M x:=by
 unfold lg;rw[Fn λp hp=>by obtain⟨h1,h2,h3,h4⟩:=wU hx p hp;exact h _ _ h1 h2 h3 h4]
def zx.congr(h:∀a b,a<b->b<=n->N a b=M a b)(k:zx ss ws zs n N):zx ss ws zs n M:=λa b h1 h2 x hx=>by
 rw[<- h a b h1 h2,<- PK (λi j g1 g2 g3 g4=>h i j g2 ω) hx];exact k a b h1 h2 x hx
def SX(ss:Sts)(ws zs:List Int)(n:Nat)(d:AF):Prop:=∃N,d=pq n N/\zx ss ws zs n N
def oU:SX ss ws zs n (pq n N)↔zx ss ws zs n N:=
 ⟨λ⟨M,e,b⟩=>b.congr λa b h1 h2=>(ZR e a b h1 h2).symm,λb=>⟨N,rfl,b⟩⟩
def yr(ss:Sts)(ws zs:List Int)(n:Nat)(N:Nat->Nat->Int):Prop:=∀p:Nat×Nat,p.1<p.2->p.2<=n->kE ss ws zs N p.1 p.2 (N p.1 p.2)
def Yr:Sp:=λvs H Q _=>∃(v:V)(n:Nat)(ok:IN->Prop)(d:AF),vs=[v,.int (n:Int)]/\n<=60/\dJ ok H/\aJ ok H v d/\∀H',Same H H'->Q (blP (Vo n d)) H'
def qT:Sp:=λvs H Q _=>∃(sa wa t:IN)(v:V)(xs:List V)(ok fi:IN->Prop)(ss:Sts)(ws zs:List Int)(d:AF),vs=[.ref sa,.ref wa,.ref t,v]/\H sa=ID (.lst xs)/\aF ok H xs (ss.map stD)/\1<=ss.length/\ss.length<=60/\H wa=ID (.lst (ws.map At))/\ws.length=ss.length/\qC H t zs/\(∀w∈ws,0<=w)/\dJ fi H/\aJ fi H v d /\
 ∀H',Same H H'->Q (blP (SX ss ws zs ss.length d)) H'
def Cd:Sp:=λvs H Q _=>∃(sa wa t:IN)(xs:List V)(ok:IN->Prop)(ss:Sts)(ws zs:List Int),vs=[.ref sa,.ref wa,.ref t]/\H sa=ID (.lst xs)/\aF ok H xs (ss.map stD)/\1<=ss.length/\ss.length<=60/\H wa=ID (.lst (ws.map At))/\ws.length=ss.length/\qC H t zs /\
 ∀(r:IN)(rs:List IN)(N:Nat->Nat->Int) H',Same H H'->H r=IF->H' r=ID (.lst (rs.map AT))->rs.length=ss.length->(∀(j:Nat) a,rs[j]?=ID a->H a=IF/\H' a=ID (.lst ((iY ss.length N j).map At)))->yr ss ws zs ss.length N->Q (.ref r) H'
theorem Cv{H:Hp}{ok:IN->Prop}{f:Nat->List Int}:∀{rs:List IN}{k:Nat},(∀(j:Nat) a,rs[j]?=ID a->ok a/\H a=ID (.lst ((f (k+j)).map At))/\(f (k+j)).length<=1000000)->aF ok H (rs.map AT) ((List.range' k rs.length).map λa=>.list ((f a).map AF.int))
 | [],_,_=>.nil
 | a::rs,k,h=>by
  obtain⟨h1,h2,h3⟩:=h 0 a rfl;rw[DE,B0,range'_succ,DE];refine .cons (.lst h1 h2 (by rw[AG];exact h3) (yu _)) (Cv λj b hj=>?_);have:=h (j+1) b hj;rwa [show k+(j+1)=k+1+j by omega] at this
def ZP{ok:IN->Prop}{r:IN}{rs:List IN}(df:n<=60)(hr:ok r)(e:H r=ID (.lst (rs.map AT)))(hl:rs.length=n)(h:∀(j:Nat) a,rs[j]?=ID a->ok a/\H a=ID (.lst ((iY n N j).map At))):aJ ok H (.ref r) (pq n N):=by
 unfold pq;refine .lst hr e (by rw[AG];omega) ?_;have:=Cv (H:=H) (ok:=ok) (f:=iY n N) (rs:=rs) (k:=0) λj a hj=>by
  rw[zero_add];exact⟨(h j a hj).1,(h j a hj).2,by rw[iW];omega⟩
 rwa [hl,<- List.range_eq_range'] at this
def vz(N:Nat->Nat->Int)(l:List (Nat×Nat)):List (List Key×V):=l.map λp=>(key2 p.1 p.2,At (N p.1 p.2))
theorem vg{N:Nat->Nat->Int}:∀{l:List (Nat×Nat)}{p:Nat×Nat},p∈l->iT (vz N l) (key2 p.1 p.2)=ID (.int (N p.1 p.2))
 | q::l,p,h=>by
  by_cases e:key2 (q.1:Int) (q.2:Int)=key2 (p.1:Int) (p.2:Int)
  ·have e2:=xM e;have:q=p:=Prod.ext (congrArg Prod.fst e2) (congrArg Prod.snd e2);subst this;exact gD e
  rcases AX.mp h with rfl|h
  ·exact absurd Z e
  exact(gF e).trans (vg h)
def yq(ss:Sts)(ws zs:List Int)(N:Nat->Nat->Int)(l:List (Nat×Nat)):Prop:=∀p∈l,∀x,lK ss ws zs p.1 p.2 x->N p.1 p.2<=lg N x
def Ph:yq ss ws zs N (dZ n n)↔zx ss ws zs n N:=
 ⟨λh a b h1 h2 x hx=>h (a,b) (dh.mpr ⟨h1,h2⟩) x hx,λh p hp x hx=>by obtain⟨h1,h2⟩:=dh.mp hp;exact h p.1 p.2 h1 h2 x hx⟩
def yq.snoc{l:List (Nat×Nat)}{p:Nat×Nat}(h:yq ss ws zs N l)(k:∀x,lK ss ws zs p.1 p.2 x->N p.1 p.2<=lg N x):yq ss ws zs N (l++[p]):=λq hq=>by
 rcases BG.mp hq with hq|hq
 ·exact h q hq
 rw[AL.mp hq];exact k
theorem Jy{ss:Sts}{ws zs:List Int}{N:Nat->Nat->Int}{a:Nat}(hw:∀k,0<=ws.getD k 0)(hz:∀k,k<5->0<=zs.getD k 0):kE ss ws zs N a (a+1) 0:=by
 have hr:rng a (a+1)=[a]:=by
  unfold rng;rw[show a+1-a=1 by omega];rfl
 have hs:0<=sumK ws (rng a (a+1)):=by
  rw[hr];show 0<=ws.getD a 0+0;have:=hw a;omega
 have ia:lK ss ws zs a (a+1) (jR ss ws zs (sumK ws (rng a (a+1))) [a] (lbl ss a),Mr ss zs (lbl ss a) (iI ss (lbl ss a) [a]),[]):=.row (lbl ss a) [a] ⟨a,by rw[hr];exact A5,rfl⟩ ⟨by rw[hr],Kt _ _⟩;have zero:∀o,o.Perm [a]->jR ss ws zs (sumK ws (rng a (a+1))) o (lbl ss a)=0:=λo ho=>by
  unfold jR;have:iI ss (lbl ss a) o=[]:=by
   unfold iI;refine KL.mpr λk hk=>?_;have:=AL.mp (ho.mem_iff.mp hk);subst this;simp[lbl]
  rw[this];rfl
 refine⟨⟨_,ia,by rw[jZ rfl];exact(zero [a] (.refl _)).symm⟩,λx hx=>?_⟩;cases hx with
 | row lab ord h1 h2=>
  obtain⟨k,hk,rfl⟩:=h1;rw[hr] at hk;rw[AL.mp hk,jZ rfl];show 0<=jR ss ws zs _ ord (lbl ss a);rw[zero ord (by rw[<- hr];exact h2.pm)];exact GU _
 | tab c1=>rw[jZ rfl];exact mul_nonneg (hz 4 δ) hs
 | msk l0 l1 c1 c2=>rw[jZ rfl];exact mul_nonneg (hz 3 δ) hs
 | low k g1 g2=>omega
def FJ(ss:Sts)(ws zs:List Int)(n:Nat)(N:Nat->Nat->Int)(D:Nat->Nat->Prop):Prop:=∀a b,D a b->a<b->b<=n->∀x,lK ss ws zs a b x->N a b<=lg N x
theorem Br{ok:IN->Prop}{H:Hp}{v:V}{n:Nat}{N:Nat->Nat->Int}(td:aJ ok H v (pq n N)){a b:Nat}(cK:a<b)(gS:b<=n):∃(pd:IN)(lP:List V)(ra:IN)(ns:List V),v=.ref pd/\H pd=ID (.lst lP)/\atI lP (a:Int)=ID (.ref ra)/\H ra=ID (.lst ns)/\atI ns ((b:Int)-(a:Int)-1)=ID (.int (N a b)):=by
 unfold pq at td;cases td with
 | lst o e z tt=>
  rename_i pd lP;have hl:=tt.length;rw[AG,Cf] at hl;have hx:lP[a]?=ID (lP[a]'ω):=AC ω;obtain⟨dd,hd,ow⟩:=tt.get hx;rw[AM,EC ω] at hd;cases hd;have nK:=cG hx;generalize lP[a]'ω=y at ow nK;cases ow with
  | lst o2 e2 z2 tt2=>
   cases aF.ints tt2;refine⟨pd,lP,_,_,rfl,e,nK,e2,?_⟩;rw[show(b:Int)-(a:Int)-1=((b-(a+1):Nat):Int) by omega];refine cG ?_;rw[AM,rA ω,show a+1+(b-(a+1))=b by omega];rfl
def FJ.mono{D D':Nat->Nat->Prop}(h:FJ ss ws zs n N D)(k:∀a b,a<b->b<=n->D' a b->D a b):FJ ss ws zs n N D':=λa b d h1 h2=>h a b (k a b h1 h2 d) h1 h2
open PySem PySem.Spec PyProof.Rows Builtin Builtin.Str
open PySem PySem.Spec PyProof.Rows PySem.NumText
def agI:V->Option Int->Option Int->Hp->VK->Prop:=λx lo hi H Q=>match x with
 | .str z=>z.length<=AJ/\Q (.str (A4 z lo hi)) H
 | _=>False
theorem aeM{X:Cx}:SlR X agI:=by
 intro ac s σ H x v vl vu lo hi sl Q I rx hs pl pu h;unfold agI at h;split at h
 ·rename_i z;obtain⟨hz,q⟩:=h;obtain⟨t,rfl⟩:=rx;refine⟨"str",_,F.slot_str_getitem.lookup,typeIs_str _ _ _,?_⟩;have fin:∀t' k,EP X ac σ Q (.str (A4 z lo hi) t') { s with toks:=k }:=λt' k=>⟨.str _,H,I.tok _,⟨_,rfl⟩,q⟩;cases pl with
  | none=>
   cases pu with
   | none=>exact GV (l:=IF) (u:=IF) (st:=IF) hs rfl (KU ⟨BU (F8 z _ _) hz,fin⟩)
   | int j uj=>exact GV (l:=IF) (u:=ID (j,uj)) (st:=IF) hs rfl (KU ⟨BU (F8 z _ _) hz,fin⟩)
  | int i ui=>
   cases pu with
   | none=>exact GV (l:=ID (i,ui)) (u:=IF) (st:=IF) hs rfl (KU ⟨BU (F8 z _ _) hz,fin⟩)
   | int j uj=>exact GV (l:=ID (i,ui)) (u:=ID (j,uj)) (st:=IF) hs rfl (KU ⟨BU (F8 z _ _) hz,fin⟩)
 exact h.elim
def agK:R2:=λx y H Q=>match x,y with
 | .str z,.int i=>z.length<=AJ/\∃c,atI z.cps.toList i=ID c/\Q (.str ⟨#[c]⟩) H
 | _,_=>False
def adE:IxR X agK:=by
 intro value slice ac s σ H x y v u Q I rx ry q hs;unfold agK at q;split at q
 ·obtain⟨h1,c,h2,h3⟩:=q;exact afZ value slice ac s σ H _ _ v u Q I rx ry ⟨_,_,c,rfl,rfl,h1,h2,h3⟩ hs
 exact q.elim
def aek:List V->Hp->VK->Prop:=λvs H Q=>match vs with
 | [.str z]=>z.length<=AJ/\Q (.int z.length) H
 | _=>False
def Xg:dm X (.builtin "len") aek:=by
 intro ac s σ H xs us Q I r h;unfold aek at h;split at h
 ·exact K6 ac s σ H _ us Q I r ⟨_,rfl,h.1,h.2⟩
 exact h.elim
def qZ:R2:=λx y H Q=>match x,y with
 | .str a,.str b=>a.length+b.length<=AJ/\Q (.str (a++b)) H
 | x,y=>Cy x y H Q
def acn(a b:Int)(H:Hp)(Q:VK):qZ (.int a) (.int b) H Q=Q (.int (a+b)) H:=rfl
def ack(p q:IN)(H:Hp)(Q:VK):qZ (.ref p) (.ref q) H Q=adq (H p) (H q) H Q:=rfl
def fM:OpR X (EH .Add) qZ:=by
 intro ac s σ H x y v u Q I rx ry h;unfold qZ at h;split at h
 ·exact QJ ac s σ H _ _ v u Q I rx ry ⟨_,_,rfl,rfl,h.1,h.2⟩
 exact aW ac s σ H _ _ v u Q I rx ry h
def YX:V->Option Int->Option Int->Hp->VK->Prop:=λx lo hi H Q=>match x with
 | .str z=>z.length<=AJ/\Q (.str (A4 z lo hi)) H
 | x=>YZ x lo hi H Q
theorem FW{X:Cx}:SlR X YX:=by
 intro ac s σ H x v vl vu lo hi sl Q I rx hs pl pu h;cases x with
 | str z=>exact aeM ac s σ H _ v vl vu lo hi sl Q I rx hs pl pu h
 | _=>exact qU ac s σ H _ v vl vu lo hi sl Q I rx hs pl pu h
def Zc:R2:=λx y H Q=>match x,y with
 | .str z,.int i=>z.length<=AJ/\∃c,atI z.cps.toList i=ID c/\Q (.str ⟨#[c]⟩) H
 | x,y=>uy x y H Q
def ae0(p:IN)(i:Int)(H:Hp)(Q:VK):Zc (.ref p) (.int i) H Q=ixq (H p) i H Q:=rfl
def af0:IxR X Zc:=by
 intro value slice ac s σ H x y v u Q I rx ry q hs;unfold Zc at q;split at q
 ·exact adE value slice ac s σ H _ _ v u Q I rx ry q hs
 exact bK value slice ac s σ H _ _ v u Q I rx ry q hs
def Zb:List V->Hp->VK->Prop:=λvs H Q=>match vs with
 | [.str z]=>z.length<=AJ/\Q (.int z.length) H
 | vs=>T8 vs H Q
def acd(z:Str)(H:Hp)(Q:VK):Zb [.str z] H Q=(z.length<=AJ/\Q (.int z.length) H):=rfl
def Xh:dm X (.builtin "len") Zb:=by
 intro ac s σ H xs us Q I r h;unfold Zb at h;split at h
 ·exact Xg ac s σ H _ us Q I r h
 exact cU ac s σ H _ us Q I r h
def rdX:=AD @acn (AD @ae0 @acd)
def Jw{x:Str}{c:Nat}(h:c∈(A4 x lo hi).cps.toList):c∈x.cps.toList:=by
 unfold A4 at h;split at h
 ·exact h
 rw[List.toList_toArray] at h;obtain⟨i,_,e⟩:=mem_filterMap.mp h;exact Array.mem_toList_iff.mpr (Lc e)
def Yu(x:Str)(lo hi:Option Int):(A4 x lo hi).length<=(AW.Str.strSliceIndices lo hi 1 x.length).length:=by
 unfold A4;split
 ·rename_i h;rw[CL] at h;have:=eq_of_beq h.2;omega
 show Array.size _<=_;rw[A0];exact List.length_filterMap_le _ _
def aeK{x:Str}{a b:Int}(h0:0<=a)(h:a<=b):(A4 x IF (ID a)).length+(A4 x (ID b) IF).length<=x.length:=by
 have h1:=Yu x IF (ID a);have h2:=Yu x (ID b) IF;simp only[AW.Str.strSliceIndices,sliceRange,AG,Cf] at h1 h2;simp only[if_pos (show(1:Int)>0 by decide),if_neg (show ¬a<0 by omega),if_neg (show ¬b<0 by omega)] at h1 h2;split at h1 <;> split at h2 <;> omega
def CT{x m:Str}{a b:Int}(h:okS n x)(h0:0<=a)(cK:a<=b)(hm:okS 0 m)(hl:m.length<=1):okS (n+1) (A4 x IF (ID a)++m++A4 x (ID b) IF)/\okS (n+1) (A4 x IF (ID a)++A4 x (ID b) IF):=by
 have ht:=aeK (x:=x) h0 cK;have hx:=h.1;have se:∀(p q:Str),(p++q).cps=p.cps++q.cps:=λ_ _=>rfl;refine⟨⟨by rw[IX,IX];omega,λc hc=>?_⟩,⟨by rw[IX];omega,λc hc=>?_⟩⟩
 ·rw[se,se,GG,GG] at hc;rcases BG.mp hc with z|z
  ·rcases BG.mp z with z|z
   ·exact h.2 c (Jw z)
   exact hm.2 c z
  exact h.2 c (Jw z)
 rw[se,GG] at hc;rcases BG.mp hc with z|z
 ·exact h.2 c (Jw z)
 exact h.2 c (Jw z)
section
variable {ok:IN->Prop}{ta tb:TE}{es:List AF}{d:AF}{tl th:TO}
def Ao(h:σ[i]?=ID (ID v))(t:aJ ok H0 v d):Gv ok (tV i) σ H0 d:=λH s Q q=>by
 unfold tV;rw[h];exact q _ _ (Same.refl _) (t.same s)
def Kp{x y:Str}(h:Gv ok ta σ H0 (.str x))(h2:Gv ok tb σ H0 (.str y))(hl:x.length+y.length<=AJ):Gv ok (tOp qZ ta tb) σ H0 (.str (x++y)):=λH s Q q=>
 h H s _ λv H1 s1 t1=>by
  cases t1;refine h2 H1 (s.trans s1) _ λw H2 s2 t2=>?_;cases t2;exact⟨hl,q _ _ (s1.trans s2) (.str _)⟩
def RD{x:Str}(h:Gv ok te σ H0 (.str x))(hx:x.length<=AJ)(hl:∀(H:Hp)(Q:Option Int->Hp->Prop),Q lo H->tl σ H Q)(hh:∀(H:Hp)(Q:Option Int->Hp->Prop),Q hi H->th σ H Q):Gv ok (tSl YX te tl th) σ H0 (.str (A4 x lo hi)):=λH s Q q=>
 h H s _ λv H1 s1 t1=>by
  cases t1;exact hl H1 _ (hh H1 _ ⟨hx,q _ _ s1 (.str _)⟩)
theorem adN(n:dJ ok H0)(h:Gv ok ta σ H0 (.list ds))(h2:Gv ok tb σ H0 (.list es))(hl:ds.length+es.length<=1000000):Gv ok (tOp qZ ta tb) σ H0 (.list (ds++es)):=λH s Q q=>
 h H s _ λv H1 s1 t1=>by
  cases t1 with
  | lst o1 e1 z1 t1=>
   refine h2 H1 (s.trans s1) _ λw H2 s2 t2=>?_;cases t2 with
   | lst o2 e2 z2 t2=>
    have l1:=t1.length;have l2:=t2.length;show qZ _ _ _ _;rw[ack,s2 _ _ e1,e2,SJ];refine⟨aQ ω,λp hp=>q _ _ ((s1.trans s2).trans (au hp)) (.lst (n H2 p ((s.trans s1).trans s2) hp) aB (by rw[AQ];omega) (((t1.same s2).append t2).same (au hp)))⟩
theorem Kh{H:Hp}{Q:VK}(d:AF)(he:d=.list ds)(h:Gv ok te σ H d)(q:∀p xs H',Same H H'->H' p=ID (.lst xs)->ok p->aF ok H' xs ds->tb σ H' λy H2=>Zc (.ref p) y H2 Q):tOp Zc te tb σ H Q:=by
 subst he;refine h H (Same.refl _) _ λv H' s t=>?_;cases t with
 | lst o e z ts=>exact q _ _ _ s e o ts
theorem af8(n:dJ ok H0)(h:Gv ok te σ H0 (.list ds)):Gv ok (aeC te) σ H0 (.list ds.reverse):=λH s Q q=>h H s _ λv H1 s1 t1=>by
 cases t1 with
 | lst o e z ts=>
  show rvK _ _ _;rw[ab3,e,ab2];intro p hp;exact q _ _ (s1.trans (au hp)) (.lst (n H1 p (s.trans s1) hp) aB (by rw[IE];exact z) (ts.reverse.same (au hp)))
def WR{k:Int}(h:Gv ok te σ H0 (.int k))(hl:k.natAbs.log2<1920):Gv ok (tCB (λxs H Q=>∃i,xs=[.int i]/\i.natAbs.log2<1920/\Q (.str (toString i)) H) (jX te wD)) σ H0 (.str (toString k)):=
 λH s Q q=>h H s _ λv H1 s1 t1=>by
  cases t1;exact⟨k,rfl,hl,q _ _ s1 (.str _)⟩
def XJ{Q:VK}(h:σ[i]?=ID (ID v))(q:Q v H):tV i σ H Q:=by
 unfold tV;rw[h];exact q
def xQ{x:Str}{at0:Int}(hi:σ[i]?=ID (ID (.str x)))(hj:σ[j]?=ID (ID (.int at0)))(hx:x.length<=1000):Gv ok (tSl YX (tV i) tY (BX (tV j))) σ H0 (.str (A4 x IF (ID at0))):=
 RD (Ao hi (.str x)) (aQ ω) (λH Q q=>q) λH Q q=>XJ hj ⟨at0,rfl,q⟩
def xO{x:Str}{at0:Int}(hi:σ[i]?=ID (ID (.str x)))(hj:σ[j]?=ID (ID (.int at0)))(hx:x.length<=1000):Gv ok (tSl YX (tV i) (BX (tOp qZ (tV j) (tC (.int 1)))) tY) σ H0 (.str (A4 x (ID (at0+1)) IF)):=
 RD (Ao hi (.str x)) (aQ ω) (λH Q q=>by unfold BX tOp;exact XJ hj ⟨at0+1,rfl,q⟩) λH Q q=>q
def aaN{x:Str}{at0:Int}(hi:σ[i]?=ID (ID (.str x)))(hj:σ[j]?=ID (ID (.int at0)))(hx:x.length<=1000):Gv ok (tSl YX (tV i) (BX (tV j)) tY) σ H0 (.str (A4 x (ID at0) IF)):=
 RD (Ao hi (.str x)) (aQ ω) (λH Q q=>XJ hj ⟨at0,rfl,q⟩) λH Q q=>q
def BJ{x m:Str}{b at0:Int}(h:Gv ok ta σ H0 (.str (A4 x IF (ID at0))))(h2:Gv ok tb σ H0 (.str (A4 x (ID b) IF)))(hx:x.length<=1000)(hm:m.length<=1):Gv ok (tOp qZ (tOp qZ ta (tC (.str m))) tb) σ H0 (.str (A4 x IF (ID at0)++m++A4 x (ID b) IF)):=by
 have l1:=F8 x IF (ID at0);have l2:=F8 x (ID b) IF;exact Kp (Kp h pX (aQ ω)) h2 (aQ (by rw[IX];omega))
def aaO{x:Str}{b at0:Int}(h:Gv ok ta σ H0 (.str (A4 x IF (ID at0))))(h2:Gv ok tb σ H0 (.str (A4 x (ID b) IF)))(hx:x.length<=1000):Gv ok (tOp qZ ta tb) σ H0 (.str (A4 x IF (ID at0)++A4 x (ID b) IF)):=by
 have l1:=F8 x IF (ID at0);have l2:=F8 x (ID b) IF;exact Kp h h2 (aQ ω)
theorem WT{i:Nat}{v:V}(n:dJ ok H0)(h:σ[i]?=ID (ID v))(t:aJ ok H0 v (.list ds)):∃d,(d=.int (-(1))\/d∈ds)/\Gv ok (tIf (zy (tOp aeW (tV i) (Ls wD))) (tOp uy (tV i) (tUn (rU λi=>At (-i)) (tC (At 1)))) (tUn (rU λi=>At (-i)) (tC (At 1)))) σ H0 d:=by
 have MD:∀{H:Hp}{Q:Bool->Hp->Prop},Same H0 H->(∀H',Same H H'->Q (!ds.isEmpty) H')->zy (tOp aeW (tV i) (Ls wD)) σ H Q:=λ{H Q} s q=>by
  unfold zy tOp;refine XJ h ?_;cases t with
  | lst o e z ts=>
   rename_i l xs;refine⟨aQ δ,λp hp=>?_⟩;have s1:=au (o:=BY []) hp;have hl:=ts.length;have:xs.isEmpty=ds.isEmpty:=by cases xs <;> cases ds <;> first|rfl|(cases hl)
   exact⟨l,p,xs,rfl,rfl,s1 _ _ (s _ _ e),aB,_,rfl,by rw[this];exact q _ s1⟩
 by_cases hd:ds=[]
 ·refine⟨.int (-(1)),.inl rfl,λH s Q q=>?_⟩;subst hd;refine MD s λH' s'=>?_;exact⟨1,rfl,q _ _ s' (.int _)⟩
 obtain⟨a,b,e⟩:=Ii ds (by cases ds with|nil=>exact absurd Z hd|cons _ _=>exact Nat.succ_pos _);subst e;refine⟨b,.inr (BG.mpr (.inr A5)),λH s Q q=>?_⟩;refine MD s λH' s'=>?_;have:(!(a++[b]).isEmpty)=true:=by cases a <;> rfl
 rw[this,if_pos rfl];exact adM (Ao h t) H' (s.trans s') _ λv H2 s2 t2=>q v H2 (s'.trans s2) t2
end
def Jm(P:AO)(w:Bi)(K:AA)(mg:Str->Option Ap)(base:Heap)(k i:Nat)(cs:List (Nat×IN))(ta:TA):TE:=λσ H Q=>∃f,σ[i]?=ID (ID (.ref f))/\vd H f /\
 ta σ H λvs H1=>vd H1 f/\∃v,vs=[v]/\∀g,Bo cs σ H1 g->∃sp,zZ P w K mg base k f sp/\sp v (qm g H1) (λv' H2=>(∀c o,g c=ID o->H2 c=ID (uE c o))/\Q v' (lH g H2))
section
variable{k:Nat}{x:Str}{p:Pos}{cs:List (Nat×IN)}
def HF(hr:gw k X.A)(gN:∀i c,(i,c)∈cs->∃y,X.N[i]?=ID y/\X.env.kindOf y=ID .cell/\X.env.cells.lookup y=ID c/\X.fn y=true)(hn:Nm X.N X.env.scope i x)(ha:QA X [e] ta)(he:AH [e] X.env=(false,eval e X.env)::AH [] X.env:=by rfl)(bz:(CO pos (AH [] X.env)).any (·.1)=false:=by rfl) :
  QE X (.Call (.Name x p) [e] [] pos) (Jm X.prog X.w X.K X.mg X.base k i cs ta):=⟨by
 intro ac s σ H Q I h;obtain⟨f,hf,⟨oc,od,fd,sl,hH⟩,h⟩:=h;refine DU (thn ((pn hn) ac s σ H (λv H'=>v=.ref f/\H'=H) I ⟨_,hf,rfl,rfl⟩) λfv s0 ⟨v,H0,I0,r0,e1,e2⟩=>?_);subst e1;subst e2;cases r0;have at0:PySem.W.FnAt f s0.heap:=⟨oc,od,fd,sl,(I0.hok f _ hH).1⟩;refine PySem.W.callWith_F at0 (thn (ha.h pos ac s0 σ H0 _ I0 h) λus s1 ⟨vs,H1,I1,r,⟨Ta,S4,XA,SL,WI⟩,v,ev,q⟩=>⟨⟨Ta,S4,XA,SL,(I1.hok f _ WI).1⟩,?_⟩) he bz;subst ev;obtain⟨g,G,e1,gk⟩:=Vj I1 cs gN;obtain⟨sp,L,q2⟩:=q g G;cases r with
 | cons r1 rr=>
  cases rr;refine IA (EW (L X.A X.stack s1 (qm g H1) _ v _ E0 hr e1 r1 q2) λr s' hq=>?_);cases r with
  | error e=>exact Uk ac σ H1 s1 e s' I1 hq
  | ok fl=>
   cases fl with
   | ret u=>
    obtain⟨v,H2,os,bare,un,hok,rv,av,q3⟩:=hq;exact I1.after ⟨v,lH g H2,os,bare,Vb un hok gk av,Ou hok av,rv,q3⟩
   | next=>exact C9 hq
   | brk=>exact C9 hq
   | cont=>exact C9 hq⟩
end
theorem ZQ{ok:IN->Prop}{H:Hp}{v:V}{n:Nat}{N:Nat->Nat->Int}(td:aJ ok H v (pq n N)):∃(pa:IN)(xs:List V),v=.ref pa/\ok pa/\H pa=ID (.lst xs)/\xs.length=n/\∀(j:Nat) x,xs[j]?=ID x->∃a,x=.ref a/\ok a/\H a=ID (.lst ((iY n N j).map At)):=by
 unfold pq at td;cases td with
 | lst o e z tt=>
  rename_i pa xs;have hl:=tt.length;rw[AG,Cf] at hl;refine⟨pa,xs,rfl,o,e,hl,λj x hx=>?_⟩;have hj:=(AK.mp hx).1;obtain⟨dd,hd,ow⟩:=tt.get hx;rw[AM,EC ω] at hd;cases hd;cases ow with
  | lst o2 e2 z2 tt2=>
   cases aF.ints tt2;exact⟨_,rfl,o2,e2⟩
theorem Ti{ws:List Int}(hw:∀z∈ws,0<=z/\z<=1000000):∀left:List Nat,0<=sumK ws left/\sumK ws left<=1000000*(left.length:Int)
 | []=>⟨GU 0,by show(0:Int)<=_;omega⟩
 | k::l=>by
  have ih:=Ti hw l;have h0:0<=ws.getD k 0/\ws.getD k 0<=1000000:=by
   rw[AV];cases e:ws[k]? with
   | none=>exact⟨δ,δ⟩
   | some z=>exact hw z (AY e)
  have e:sumK ws (k::l)=ws.getD k 0+sumK ws l:=rfl;rw[e,B0];omega
def adk{N:List Int}(hl:N.length<=200)(h:∀z∈N,z.natAbs<=10^20):szD 0 (.list (N.map AF.int)):=by
 refine⟨by rw[AG];show _<=210*1;omega,gJ.mpr λd hd=>?_⟩;obtain⟨z,hz,rfl⟩:=Ch.mp hd;show z.natAbs<=10^20*2^0;have:=h z hz;omega
theorem vD:∀N:List Int,aK (N.map AF.int)=N.length
 | []=>rfl
 | z::N=>by show 1+aK (N.map AF.int)=_;rw[vD N,B0];omega
def Q6(N:List Int):AF.depthAll (N.map AF.int)=0:=Nat.le_zero.mp (lJ λd hd=>by
 obtain⟨z,_,rfl⟩:=Ch.mp hd;exact A3 0)
section
variable {ok:IN->Prop}
theorem aaM(n:dJ ok H0)(h:Gv ok te σ H0 (.list ds)):Gv ok (tCB (λxs H Q=>∃p ys,xs=[AT p]/\((SqL K H p ys/\∀l,H l=IF->Q (.ref l) (upd H l (.tup ys)))\/(SqT K H p ys/\Q (.ref p) H))) (jX te wD)) σ H0 (.tuple ds):=λH s Q q=>
 h H s _ λv H1 s1 t1=>by
  cases t1 with
  | lst o e z ts=>
   refine⟨_,_,rfl,.inl ⟨SqL.of e,λl hl=>?_⟩⟩;exact q _ _ (s1.trans (au hl)) (.tup (n H1 l (s.trans s1) hl) aB z (ts.same (au hl)))
end
theorem aaF{K:AA}{ok:IN->Prop}{te:TE}{σ:St}{H:Hp}{R:It->Hp->Prop}{ds:List AF}(h:Gv ok te σ H (.tuple ds))(q:∀p xs H',Same H H'->H' p=ID (.tup xs)->aF ok H' xs ds->R (Itt K p) H'):Im K te σ H R:=by
 refine h H (Same.refl _) _ λv H' s t=>?_;cases t with
 | tup o e z ts=>
  show itK _ _ _ _;rw[Bv,e,adF];exact q _ _ _ s e ts
theorem Uo{ss:Sts}{ws zs:List Int}(hw:∀k,0<=ws.getD k 0/\ws.getD k 0<=1000000)(hp:∀k,1<=dg ss zs k/\dg ss zs k<=99):∀(l:List Nat)(W:Int),W.natAbs+1000000*l.length<=10^9->(rC ss ws zs W l).natAbs<=10^11*l.length
 | [],_,_=>DC _
 | k::l,W,h=>by
  rw[B0] at h |-;have h1:=hw k;have h2:=hp k;have ih:=Uo hw hp l (W-ws.getD k 0) ω;have h3:(W*dg ss zs k).natAbs<=10^9*99:=by
   rw[Int.natAbs_mul];exact mul_le_mul ω ω
  show(W*dg ss zs k+rC ss ws zs (W-ws.getD k 0) l).natAbs<=_;omega
theorem aey{ss:Sts}{ws zs:List Int}{a b:Nat}(cK:b-a<=60)(hw:∀z∈ws,0<=z/\z<=1000000)(hz:∀z∈zs,1<=z/\z<=99)(h5:zs.length=5){x:mj}(hx:lK ss ws zs a b x):x.1.natAbs<=10^13:=by
 have hs:=Ti hw (rng a b);rw[gP] at hs;have Uf:∀i,i<5->1<=zs.getD i 0/\zs.getD i 0<=99:=λi hi=>by
  rw[AV,AC ω];exact hz _ (EB _)
 have hm:∀i,i<5->(zs.getD i 0*sumK ws (rng a b)).natAbs<=10^13:=λi hi=>by
  have:=Uf i hi;rw[Int.natAbs_mul];exact BU (mul_le_mul (show _<=99 by omega) (show _<=60000000 by omega)) δ
 cases hx with
 | row lab ord h1 h2=>
  have hl:=h2.pm.length_eq;rw[gP] at hl;have hf:=Ll (λk=>decide ((fZ ss k).2.2≠lab)) ord;have:=Uo (ss:=ss) (ws:=ws) (zs:=zs) (λk=>by
   rw[AV];cases e:ws[k]? with
   | none=>exact⟨δ,δ⟩
   | some z=>exact hw z (AY e)) (λk=>by
   unfold dg;split
   ·exact Uf 0 δ
   exact Uf 1 δ) (iI ss lab ord) (sumK ws (rng a b)) (by unfold iI;omega)
  show(rC ss ws zs _ (iI ss lab ord)).natAbs<=_;refine BU this (BU (Nat.mul_le_mul_left _ (show(iI ss lab ord).length<=60 by unfold iI;omega)) δ)
 | tab c=>exact hm 4 δ
 | msk l0 l1 c h=>exact hm 3 δ
 | low k h1 h2=>exact hm 2 δ
theorem yr.bd{ss:Sts}{ws zs:List Int}{n:Nat}{N:Nat->Nat->Int}(h:yr ss ws zs n N)(df:n<=60)(hw:∀z∈ws,0<=z/\z<=1000000)(hz:∀z∈zs,1<=z/\z<=99)(h5:zs.length=5):∀d a b,b-a=d->a<b->b<=n->(N a b).natAbs+10^13<=2*10^13*d:=by
 intro d
 induction d using Nat.strongRecOn with
 | ind d ih=>
  intro a b e cK hb;obtain⟨⟨x,hx,ex⟩,_⟩:=h (a,b) cK hb;dsimp only at hx ex;have b1:=aey ω hw hz h5 hx;have flat:x.2.2=[]->(N a b).natAbs+10^13<=2*10^13*d:=λe2=>by
   rw[ex,jZ e2];omega
  cases hx with
  | row lab ord h1 h2=>exact flat rfl
  | tab c=>exact flat rfl
  | msk l0 l1 c h=>exact flat rfl
  | low k h1 h2=>
   have i1:=ih (k-a) ω a k Z h1 ω;have i2:=ih (b-k) ω k b Z h2 hb;have e3:N a b=zs.getD 2 0*sumK ws (rng a b)+(N a k+(N k b+0)):=ex;dsimp only at b1;rw[e3];omega
def afv(df:n<=60)(h:∀a b,a<b->b<=n->(N a b).natAbs<=10^20):szD 0 (pq n N):=by
 refine⟨by rw[AG,Cf];show _<=210*1;omega,gJ.mpr λd hd=>?_⟩;obtain⟨a,ha,rfl⟩:=Ch.mp hd;refine adk (by rw[iW];omega) λz hz=>?_;obtain⟨b,hb,rfl⟩:=Ch.mp hz;have:=fC.mp hb;exact h a b ω ω
theorem CW{f:Nat->List Int}{m:Nat}:∀l:List Nat,(∀a∈l,(f a).length<=m)->aK (l.map λa=>.list ((f a).map AF.int))<=l.length*(m+1)
 | [],_=>DC _
 | a::l,h=>by
  have ih:=CW l λb hb=>h b (A9 _ hb);have h1:=h a A5;have h2:=vD (f a);rw[DE,B0,Nat.add_mul,one_mul];show(1+aK ((f a).map AF.int))+aK _<=_;omega
def Wb(h:n<=16):nodes (pq n N)<=273:=by
 have:=CW (f:=iY n N) (m:=16) (BF n) λa _=>by rw[iW];omega
 rw[Cf] at this;have h2:n*(16+1)<=16*17:=mul_le_mul h (A3 _);show 1+aK _<=273;omega
def mV:Nat->AF
 | 0=>.int 0
 | n+1=>.list [mV n]
def Iw(d:AF):(AF.list [d]).depth=d.depth+1:=by
 show AF.depthAll [d]+1=_;rw[AF.depthAll.eq_2,AF.depthAll.eq_1,Nat.max_zero]
theorem Ox:∀n,(mV n).depth=n/\nodes (mV n)=n+1
 | 0=>⟨rfl,rfl⟩
 | n+1=>by
  obtain⟨h1,h2⟩:=Ox n;refine⟨(Iw _).trans (by rw[h1]),?_⟩;show 1+(nodes (mV n)+0)=_;omega
def yg{k:Nat}(h:∀d∈ds,d.depth<=k):(AF.list ds).depth<=k+1/\(AF.tuple ds).depth<=k+1:=by
 have:=lJ h;exact⟨by show AF.depthAll _+1<=_;omega,by show AF.depthAll _+1<=_;omega⟩
theorem rE{m:Nat}:∀{ds:List AF},(∀d∈ds,nodes d<=m)->aK ds<=ds.length*m
 | [],_=>DC _
 | d::ds,h=>by
  have:=rE λe he=>h e (A9 _ he);have:=h d A5;rw[B0,Nat.add_mul,one_mul];show nodes d+aK ds<=_;omega
section
variable {ok:IN->Prop}{d:AF}
theorem agb(h:Gv ok te σ H0 (.list (d::ds))):Gv ok (tOp uy te (tC (.int 0))) σ H0 d:=λH s Q q=>by
 refine U3 (.list (d::ds)) Z (λH1 s1 Q1 q1=>h H1 (s.trans s1) Q1 q1) λp xs H' s' e o t=>?_;show uy (.ref p) (.int 0) H' Q;cases t with
 | cons t1 t2=>
  rw[qY,e,Bt];exact⟨_,cG (j:=0) rfl,q _ _ s' t1⟩
end
def Tc(n:Nat)(N:Nat->Nat->Int):AF:=.list ((BF n).map λa=>.tuple ((iY n N a).map AF.int))
def agG(K:AA):List V->Hp->VK->Prop:=λxs H Q=>∃p ys,xs=[AT p]/\((SqL K H p ys/\∀l,H l=IF->Q (.ref l) (upd H l (.tup ys)))\/(SqT K H p ys/\Q (.ref p) H))
def abi(h:X.K=K):dm X (.type "tuple") (agG K):=by
 subst h;exact gM
def adL(hσ:σ[j]?=ID (ID v))(h0:fO mp σ=[IF])(df:n<=60)(nw:dJ (·≠p) H0)(t:aJ (·≠p) H0 v (pq n N)):Gv (·≠p) (Lx mp (Im K (tV j)) (lF 0) Vy (tCB (agG K) (jX (tV 0) wD))) σ H0 (Tc n N):=λH s Q q=>by
 obtain⟨pa,xs,rfl,opa,epa,hl,ia⟩:=ZQ (t.same s);refine fL λR hR=>?_;show(tV j) σ H _;unfold tV;rw[hσ];show itK K (.ref pa) H R;rw[Bv,epa,Kl];obtain⟨Pc,ai⟩:∃Pv:Nat->List V->St->Hp->Prop,Pv=λ(i:Nat) ae τ H'=>∃(o0:Option V),Same H H'/\aF (·≠p) H' ae ((BF i).map λa=>.tuple ((iY n N a).map AF.int))/\τ=[o0]:=⟨_,rfl⟩;refine jz hR (xs:=xs) (aQ ω) Pc (by rw[ai,h0];exact⟨_,Same.refl _,.nil,rfl⟩) ?_ ?_ ?_ ?_
 ·intro i ae τ H2 pc;rw[ai] at pc;obtain⟨_,_,t2,_⟩:=pc;have:=t2.length;rw[AG,Cf] at this;omega
 ·intro i ae τ H2 pc;rw[ai] at pc;obtain⟨_,s2,_⟩:=pc;exact SqL.of (s2 _ _ epa)
 ·intro i y ae τ H2 hy pc;rw[ai] at pc;obtain⟨o0,s2,t2,rfl⟩:=pc;obtain⟨x,rfl,ox,ex⟩:=ia i y hy;simp only[lF,Vy,EO,reduceIte];refine⟨x,_,rfl,.inl ⟨SqL.of (s2 _ _ ex),λl hl0=>?_⟩⟩;have s3:=au (o:=Do ((iY n N i).map At)) hl0;rw[ai];refine⟨_,s2.trans s3,?_,rfl⟩;rw[range_succ,Be];exact(t2.same s3).append (.cons (.tup (nw _ _ (s.trans s2) hl0) aB (by rw[AG,iW];omega) (yu _)) .nil)
 intro ae τ H2 d pc hd;rw[ai] at pc;obtain⟨o0,s2,t2,rfl⟩:=pc;have s3:=au (o:=BY ae) hd;have wT:=t2.length;rw[AG,Cf,hl] at wT;rw[hl] at t2;exact q _ _ (s2.trans s3) (aJ.lst (ok:=(·≠p)) (nw _ _ (s.trans s2) hd) aB ω (t2.same s3))
def YC(l:List Int):(AF.list (l.map AF.int)).depth=1/\nodes (.list (l.map AF.int))=1+l.length/\(AF.tuple (l.map AF.int)).depth=1/\nodes (.tuple (l.map AF.int))=1+l.length:=by
 have h1:=Q6 l;have h2:=vD l;refine⟨?_,?_,?_,?_⟩
 ·show AF.depthAll _+1=1;rw[h1]
 ·show 1+aK _=_;rw[h2]
 ·show AF.depthAll _+1=1;rw[h1]
 show 1+aK _=_;rw[h2]
def ac3(n:Nat)(N:Nat->Nat->Int):List AF:=(BF n).map λa=>.list ((iY n N a).map AF.int)
def Ul(h:n<=16)(N:Nat->Nat->Int):∀d∈ac3 n N,d.depth<=1/\nodes d<=17:=λd hd=>by
 obtain⟨a,_,rfl⟩:=Ch.mp hd;obtain⟨h1,h2,_⟩:=YC (iY n N a);rw[iW] at h2;omega
def X5(h:n<=16)(N:Nat->Nat->Int):(Tc n N).depth<=2/\nodes (Tc n N)<=400:=by
 have e:∀d∈((BF n).map λa=>AF.tuple ((iY n N a).map AF.int)),d.depth<=1/\nodes d<=17:=λd hd=>by
  obtain⟨a,_,rfl⟩:=Ch.mp hd;obtain⟨_,_,h1,h2⟩:=YC (iY n N a);rw[iW] at h2;omega
 have h1:=(yg λd hd=>(e d hd).1).1;have h2:=rE λd hd=>(e d hd).2;rw[AG,Cf] at h2;have h3:n*17<=16*17:=LZ _ h;exact⟨h1,by show 1+aK _<=400;omega⟩
def ac4(h:n<=16)(N:Nat->Nat->Int):(pq n N).depth<=2/\nodes (pq n N)<=300:=by
 have h1:=(yg λd hd=>(Ul h N d hd).1).1;have:=Wb (N:=N) h;exact⟨h1,ω⟩
end L2
local macro_rules | `(tactic| push_cast) => `(tactic| ((try dsimp only [L2.tV, L2.Vz, L2.VB, L2.zy, L2.tOp, L2.tC, L2.Qf, L2.Lr, L2.uJ, L2.jX, L2.wD, L2.tCB, L2.tIf, L2.X8, L2.tB, L2.abQ, L2.tOr, L2.Ls, L2.Qe, L2.z8, L2.lF, L2.rI0, IH, Kb, EO, FE]); try simp only [↓L2.rdy, L2.rdy, ↓reduceIte, reduceCtorEq, Nat.reduceAdd, Nat.reduceSub]))
local macro_rules | `(tactic| push_cast [$ls,*]) => `(tactic| ((try dsimp only [L2.tV, L2.Vz, L2.VB, L2.zy, L2.tOp, L2.tC, L2.Qf, L2.Lr, L2.uJ, L2.jX, L2.wD, L2.tCB, L2.tIf, L2.X8, L2.tB, L2.abQ, L2.tOr, L2.Ls, L2.Qe, L2.z8, L2.lF, L2.rI0, IH, Kb, EO, FE]); try simp only [↓L2.rdy, L2.rdy, ↓reduceIte, reduceCtorEq, Nat.reduceAdd, Nat.reduceSub, $ls,*]))
namespace K32
open PySem L2 PyProof.Rows
abbrev q0_:List Str:=["_law_tape_here","_law_many"]
abbrev q1_:List Str:=["_law_stretches_here","_law_weights_here","_law_prices_here","_law_begin","_law_end"]
abbrev q2_:List Str:=["stretches","weights","prices","left"]
abbrev q3_:List Str:=["_law_tape_here","_law_thing","_law_spot"]
abbrev q4_:List Str:=["_law_stretches_here","_law_weights_here","_law_prices_here","_law_label"]
abbrev q5_:List Str:=["_law_stretches_here","_law_weights_here","_law_prices_here","_law_thing"]
abbrev q6_:List Str:=["_law_tape_here","_law_thing"]
abbrev q7_:List Str:=["stretches","weights","prices"]
abbrev q8_:List Str:=["_law_tape_here","_law_ask","_law_due","_law_handed"]
abbrev q9_:List Str:=["stretches","weights","prices","tests","label"]
abbrev q10_:List Str:=["stretches","weights","prices","run"]
abbrev q11_:List Str:=["_law_script","_law_k"]
abbrev q12_:List Str:=["stretches","weights","prices","thing"]
abbrev q13_:List Str:=["stretches","left"]
abbrev q14_:List Str:=["_law_thing","_law_inner"]
abbrev q15_:List Str:=["thing","many"]
abbrev q16_:List Str:=["_law_tape_here","_law_handed"]
abbrev q17_:List Str:=["stretches","tests","label"]
abbrev q18_:List Str:=["weights","prices","left"]
abbrev q19_:List Str:=["ways","numbers","plans"]
abbrev q20_:List Str:=["_law_thing"]
abbrev q21_:List Str:=["ways","numbers"]
abbrev q22_:List Str:=["stretch","prices"]
def top(i:Nat):Stmt:=PySem.Challenge.pw_caseways_k32_papers_for_runs_spoilt.main.body.getD i (.Pass ⟨0,0,0,0⟩)
abbrev BLs:List Str:=["abs","all","any","bool","enumerate","int","isinstance","len","list","max","min","range","repr","reversed","set","sorted","str","sum","tuple","zip"]
def aar:("abs" : Str)∈BLs:=by decide +kernel
def aaq:("all" : Str)∈BLs:=by decide +kernel
def afK:("any" : Str)∈BLs:=by decide +kernel
def xJ:("bool" : Str)∈BLs:=by decide +kernel
def pW:("enumerate" : Str)∈BLs:=by decide +kernel
def vP:("int" : Str)∈BLs:=by decide +kernel
def bA:("isinstance" : Str)∈BLs:=by decide +kernel
def iK:("len" : Str)∈BLs:=by decide +kernel
def jO:("list" : Str)∈BLs:=by decide +kernel
def afJ:("max" : Str)∈BLs:=by decide +kernel
def Dw:("min" : Str)∈BLs:=by decide +kernel
def eO:("range" : Str)∈BLs:=by decide +kernel
def Uy:("repr" : Str)∈BLs:=by decide +kernel
def zQ:("reversed" : Str)∈BLs:=by decide +kernel
def aap:("set" : Str)∈BLs:=by decide +kernel
def ug:("sorted" : Str)∈BLs:=by decide +kernel
def aao:("str" : Str)∈BLs:=by decide +kernel
def vO:("sum" : Str)∈BLs:=by decide +kernel
def jh:("tuple" : Str)∈BLs:=by decide +kernel
def aan:("zip" : Str)∈BLs:=by decide +kernel
abbrev Fw:List Str:=["_law_script","_law_k"]
abbrev GI_(s:Stmt)(x:Str):Prop:=(aj s).names.lookup x=ID .globalImplicit
abbrev NM_(N:List Str)(s:Stmt)(i:Nat)(x:Str):Prop:=Nm N (aj s) i x
abbrev nQ:Stmt:=top 28
def VH:bw Fw q11_ (aj nQ):=⟨rfl,rfl,rfl,ψ,rfl,ψ,ψ⟩
def Dg:NM_ Fw nQ 0 "_law_script":=.of ψ
def Df:NM_ Fw nQ 1 "_law_k":=.of ψ
def Kw:GI_ nQ "len":=ψ
def Xr:Bn "_law_cell_at" := ⟨ψ,ψ⟩
abbrev Ln:List Str:=["_law_script","_law_k","_law_cell"]
abbrev oW:Stmt:=top 29
def T4:bw Ln q11_ (aj oW):=⟨rfl,rfl,rfl,ψ,rfl,ψ,ψ⟩
def aac:NM_ Ln oW 0 "_law_script":=.of ψ
def CZ:NM_ Ln oW 1 "_law_k":=.of ψ
def wW:NM_ Ln oW 2 "_law_cell":=.of ψ
def DK:GI_ oW "_law_cell_at":=ψ
def DG:GI_ oW "abs":=ψ
def RJ:GI_ oW "int":=ψ
def ad5:Bn "_law_tape" := ⟨ψ,ψ⟩
abbrev zc:List Str:=["_law_tape_here","_law_many","_law_found","_law_prime","_law_once"]
abbrev oX:Stmt:=top 30
def wJ:bw zc q0_ (aj oX):=⟨rfl,rfl,rfl,ψ,rfl,ψ,ψ⟩
def eF:NM_ zc oX 0 "_law_tape_here":=.of ψ
def rG:NM_ zc oX 1 "_law_many":=.of ψ
def rF:NM_ zc oX 2 "_law_found":=.of ψ
def Nj:NM_ zc oX 3 "_law_prime":=.of ψ
def Dc:NM_ zc oX 4 "_law_once":=.of ψ
def Kq:GI_ oX "_law_take":=ψ
def cF:Bn "_law_take" := ⟨ψ,ψ⟩
section
variable{bs:List Str}
def ade(hB:∀x:Str,x∈BLs->mg x=IF)(F:Fun K "_law_cell_at" "_law_cell_at" nQ f fd):c7 P w K mg base CX0 1 f fd q11_ (Ys K):=by
 refine F.okz VH λaw A outer s H vs Q E hr h=>?_;obtain⟨a,ns,k,rfl,hS,h0,q⟩:=h;refine⟨_,(aN (aZ (uK (cB Uq (ao Df) (bO lZ Kw (hB "len" iK) CA iQ (ak (ao Dg) aq)) (bJ _)) (aU U0 (ao Dg) (ao Df) (λ_ _=>rfl)) aA))),?_⟩;push_cast;refine⟨_,.inl hS,?_⟩;split
 ·rename_i c;rw[AG] at c;have hk:k.toNat<ns.length:=ω;have ek:k=((k.toNat:Nat):Int):=ω;have z:atI (ns.map At) ((k.toNat:Nat):Int)=ID (.int ns[k.toNat]):=cG (by rw[AM,AC hk];rfl);rw[<- ek] at z;unfold agL;exact⟨a,_,k,_,rfl,rfl,hS,z,q _⟩
 exact q _
def ac8(hB:∀x:Str,x∈BLs->mg x=IF)(CZCellAt:Cal P w K mg base "_law_cell_at" 1 q11_ (Ys K))(F:Fun K "_law_tape" "_law_tape" oW f fd):c7 P w K mg base CX0 2 f fd q11_ (Yo K):=by
 refine F.okz T4 λaw A outer s H vs Q E hr h=>?_;obtain⟨a,ns,k,rfl,hS,h0,h1,q⟩:=h;refine⟨_,(aD (aY wW T4.nd (bx CZCellAt (hr.mono δ) DK Xr (ak (ao aac) (ak (ao CZ) aq))) Z (.inl Z))
  (aN (aZ (bI (ak (aL dz (bO O3 DG (hB "abs" aar) PyProof.Rows.Boot.«abs» abp (ak (ao wW) aq)) (mL qj RJ (hB "int" vP) L0 v7 (ak (rz ag3 (bO O3 DG (hB "abs" aar) PyProof.Rows.Boot.«abs» abp (ak (ao wW) aq)) (aL vB aA aA) (bJ _)) aq))) (ak (aL lM (aL dz (aL aW (aL aW (aL lM (ao wW) aA) (aL dz (aL dz aA (ao CZ)) (ao CZ))) aA) aA) aA) (ak aA aq))))))),?_⟩
 push_cast;refine⟨a,ns,k,rfl,hS,h0,λv=>?_⟩;push_cast;refine⟨⟨δ,δ,δ⟩,?_,δ,.inl δ,.inr ω,.inr δ,δ,aQ δ,λp hp=>q p _ hp (au hp) ⟨_,_,_,aB,?_,?_,?_,GU _,GU _⟩⟩
 ·right;generalize (if v<0 then -v else v)=u;split <;> decide
 ·refine mul_nonneg ?_ ?_
  ·split <;> omega
  generalize (if v<0 then -v else v)=u;split <;> decide
 ·exact FV _ δ
 exact ET _ δ
def Us(hB:∀x:Str,x∈BLs->mg x=IF)(hn:n<=10)(CZTake:Cal P w K mg base "_law_take" n q0_ (mH n))(F:Fun K "_law_take" "_law_take" oX f fd):c7 P w K mg base CX0 (n+1) f fd q0_ (mH (n+1)):=by
 refine F.okz wJ λaw A outer s H vs Q E hr h=>?_;obtain⟨p,m,B,rfl,⟨a,b,c,hp,ha,hb0,hb1,hc0,kr⟩,kw,wo,mE,NR,wn,q⟩:=h;refine⟨_,(aD (fu (cB M4 (aU bK (ao eF) aA (λ_ _=>rfl)) aA (bJ _)) (aD (aY rF wJ.nd (aL lM (aU bK (ao eF) aA (λ_ _=>rfl)) (ao rG)) Z (.inl Z))
  (aD (oZ (aL M5 (aU bK (ao eF) aA (λ_ _=>rfl)) (ao rG)) (JT (ao eF) aA TY))
  (aN (aZ (ao rF))))) cQ)
  (aD (oZ (aL aW (aU bK (ao eF) aA (λ_ _=>rfl)) aA) (JT (ao eF) aA TY))
  (aD (aY Nj wJ.nd (aU bK (bI (ak aA (ak aA (ak aA (ak aA (ak aA (ak aA (ak aA aq)))))))) (aL lM (aU bK (ao eF) aA (λ_ _=>rfl)) aA) (λ_ _=>rfl)) Z (.inl Z))
  (aD (aY Dc wJ.nd (aL lM (aL dz (aL aW (aU bK (ao eF) aA (λ_ _=>rfl)) (aL dz aA (aU bK (ao eF) aA (λ_ _=>rfl)))) (aL aW aA (aU bK (ao eF) aA (λ_ _=>rfl)))) (ao Nj)) Z (.inl Z))
  (aD (oZ (aL lM (aL aW (aL dz (ao Dc) (aL aW (aL lM (ao Dc) aA) aA)) (aU bK (ao eF) aA (λ_ _=>rfl))) aA) (JT (ao eF) aA TY))
  (aD (aY rF wJ.nd (aL M5 (aL lM (aL dz (aU bK (ao eF) aA (λ_ _=>rfl)) (aL aW (aL lM (aU bK (ao eF) aA (λ_ _=>rfl)) aA) aA)) aA) aA) Z (.inl Z))
  (aN (aZ (uK (cB Uq (ao rG) (aL vB aA aA) (bJ _)) (aL lM (ao rF) (ao rG)) (aL lM (aL aW (aL dz (ao rF) aA) (bx CZTake (hr.mono ω) Kq cF (ak (ao eF) (ak aA aq)))) (ao rG))))))))))),?_⟩
 push_cast[hp];split
 ·refine⟨wo,⟨wo,mE⟩,?_⟩;refine q _ _ (FV _ ω) (ET _ wo) aR.upd ⟨_,_,_,aB,Int.ediv_nonneg ha ω,hb0,hb1,hc0,ω⟩
 refine⟨aQ δ,λp1 mn=>?_⟩;have np:p≠p1:=λz=>by rw[<- z,aB] at mn;cases mn
 obtain⟨v,hv,v0⟩:=afg (c+1);push_cast[hp,aO np,ne_eq,np,not_false_eq_true,hv];have m1:∀x:Int,0<=x%40009/\x%40009<40009:=λx=>⟨FV _ δ,ET _ δ⟩;have m2:∀x:Int,0<=x%1009/\x%1009<1009:=λx=>⟨FV _ δ,ET _ δ⟩;have m3:∀x:Int,0<=x%2147483629/\x%2147483629<2147483629:=λx=>⟨FV _ δ,ET _ δ⟩;refine⟨δ,.inl δ,.inr ω,v0,δ,.inr ?_,δ,δ,.inr ?_,δ,δ,δ,?_⟩
 ·have:=m1 ((b+39373*(c+1))*(48271+(c+1))%v);omega
 ·have:=m2 (((b+39373*(c+1))*(48271+(c+1))%v*((b+39373*(c+1))*(48271+(c+1))%v%40009+7)+(c+1))%2147483629);omega
 have e3:=m3 ((b+39373*(c+1))*(48271+(c+1))%v*((b+39373*(c+1))*(48271+(c+1))%v%40009+7)+(c+1));generalize ((b+39373*(c+1))*(48271+(c+1))%v*((b+39373*(c+1))*(48271+(c+1))%v%40009+7)+(c+1))%2147483629=y at e3 |-;have sx:aR p H (upd (upd (upd H p (BY [At a,At b,At (c+1)])) p1 (BY [At 2147483587,At 2147483579,At 2147483563,At 2147483549,At 2147483543,At 2147483497,At 2147483489])) p (BY [At a,At y,At (c+1)])):=
  (aR.upd.trans (au mn).x).trans aR.upd
 have tp:aP (upd (upd (upd H p (BY [At a,At b,At (c+1)])) p1 (BY [At 2147483587,At 2147483579,At 2147483563,At 2147483549,At 2147483543,At 2147483497,At 2147483489])) p (BY [At a,At y,At (c+1)])) p (B+1):=
  ⟨a,y,c+1,aB,ha,e3.1,e3.2,ω,ω⟩
 generalize upd (upd (upd H p (BY [At a,At b,At (c+1)])) p1 (BY [At 2147483587,At 2147483579,At 2147483563,At 2147483549,At 2147483543,At 2147483497,At 2147483489])) p (BY [At a,At y,At (c+1)])=H2 at sx tp |-;split
 ·refine⟨wo,q _ _ (FV _ ω) (ET _ wo) sx ?_⟩;obtain⟨a',b',c',z1,z2,z3,z4,z5,z6⟩:=tp;exact⟨a',b',c',z1,z2,z3,z4,z5,ω⟩
 rename_i hm;have sT:1000000<=m:=by
  rw[show(10:Int)^B5 6=1000000 from by decide] at hm;omega
 have NO:=wn sT;refine⟨.inr δ,p,99991,B+1,rfl,tp,ω,δ,δ,ω,λz=>absurd z δ,λr H3 r0 r1 s3 t3=>?_⟩;push_cast;refine⟨wo,q _ _ (FV _ ω) (ET _ wo) (sx.trans s3) ?_⟩;obtain⟨a',b',c',z1,z2,z3,z4,z5,z6⟩:=t3;exact⟨a',b',c',z1,z2,z3,z4,z5,ω⟩
def Vx:c7 P w K mg base CX0 0 f fd q0_ (mH 0):=by
 have no:∀vs H Q E,¬mH 0 vs H Q E:=λvs H Q E h=>by
  obtain⟨p,m,B,_,_,_,_,_,h1,_⟩:=h;omega
 exact⟨λvs H Q E h=>absurd h (no vs H Q E),λA outer s H args us vs Q E _ _ _ _ h=>absurd h (no vs H Q E)⟩
abbrev mW:List Str:=["stretches","left"]
abbrev ig:Stmt:=top 5
def Ac:bw mW q13_ (aj ig):=⟨rfl,rfl,rfl,ψ,rfl,ψ,ψ⟩
def n6:NM_ mW ig 0 "stretches":=.of ψ
def nZ:NM_ mW ig 1 "left":=.of ψ
def Bl:Bn "numbers_across" := ⟨ψ,ψ⟩
abbrev Jj:List Str:=["thing"]
abbrev j7:Stmt:=top 1
def Ql:bw Jj ["thing"] (aj j7):=⟨rfl,rfl,rfl,ψ,rfl,ψ,ψ⟩
def zO:NM_ Jj j7 0 "thing":=.of ψ
def Em:GI_ j7 "bool":=ψ
def GK:GI_ j7 "int":=ψ
def lG:GI_ j7 "isinstance":=ψ
def Ss:Bn "is_number" := ⟨ψ,ψ⟩
def Lb:Bn "MOST_IN_MASK" := ⟨ψ,ψ⟩
def GX:Bn "MOST_IN_TABLE" := ⟨ψ,ψ⟩
def Vl:Bn "TESTS" := ⟨ψ,ψ⟩
theorem Wj(hB:∀x:Str,x∈BLs->mg x=IF)(F:Fun K "numbers_across" "numbers_across" ig f fd):c7 P w K mg base CX0 1 f fd q13_ LC:=by
 refine F.okz Ac λaw A outer s H vs Q E hr h=>?_;obtain⟨s,l,ok,ss,left,rfl,ts,tl,lf,q⟩:=h;refine⟨_,(aN (aZ (aL aW (aL eX (aU bK (aU bK (ao n6) (aU bK (ao nZ) (HD vh aA) (λ_ _=>rfl)) (λ_ _=>rfl)) aA (λ_ _=>rfl)) (aU bK (aU bK (ao n6) (aU bK (ao nZ) aA (λ_ _=>rfl)) (λ_ _=>rfl)) aA (λ_ _=>rfl))) aA))),?_⟩;obtain⟨la,rfl,_,el,_⟩:=tl.left;replace el:H la=ID (.lst (nv left)):=el;cases ts with
 | lst o es zs tss=>
  obtain⟨k1,e1,m1,a1⟩:=adh lf.ne;obtain⟨k0,e0,m0,a0⟩:=adi lf.ne;obtain⟨p1,x1,y1⟩:=tss.stN (lf.lt _ m1);obtain⟨p0,x0,y0⟩:=tss.stN (lf.lt _ m0);unfold gG at q;rw[e1,e0] at q;push_cast[el,a1,a0,es,x1,x0,y1,y0];exact q
theorem Z6(hB:∀x:Str,x∈BLs->mg x=IF)(F:Fun K "is_number" "is_number" j7 f fd):c7 P w K mg base CX0 1 f fd ["thing"] Yp:=by
 refine F.okz Ql λaw A outer s H vs Q E hr h=>?_;obtain⟨v,ok,d,rfl,t,q⟩:=h;refine⟨_,(aN (aZ (CN (bO dj lG (hB "isinstance" bA) B7 bB (ak (ao zO) (ak (jK "int" GK (hB "int" vP) L0 v7) aq))) (CJ (Zo (bO dj lG (hB "isinstance" bA) B7 bB (ak (ao zO) (ak (jK "bool" Em (hB "bool" xJ) boot_bool yh) aq)))))))),?_⟩;cases t with
 | non=>push_cast;exact q
 | bl b=>push_cast;exact q
 | int i=>push_cast;exact q
 | str x=>push_cast;exact q
 | lst o e z t=>push_cast[e];exact q
 | tup o e z t=>push_cast[e];exact q
abbrev tR:List Str:=["stretches","left"]
abbrev lB:Stmt:=top 6
def JB:bw tR q13_ (aj lB):=⟨rfl,rfl,rfl,ψ,rfl,ψ,ψ⟩
def Gi:NM_ tR lB 1 "left":=.of ψ
def Le:Bn "labels_left" := ⟨ψ,ψ⟩
theorem ada(hB:∀x:Str,x∈BLs->mg x=IF)(F:Fun K "labels_left" "labels_left" lB f fd):c7 P w K mg base CX0 1 f fd q13_ Yq:=by
 refine F.okz JB λaw A outer s H vs Q E hr h=>?_;obtain⟨s,l,ok,ss,left,rfl,ts,tl,lf,q⟩:=h;refine⟨_,(aN (aZ (cO (NX:=tR) (kX:=(aj lB).names) ["k","stretches"] [IF,ID 0] Z Z ⟨rfl,ψ,ψ,ψ,ψ⟩ Z (cJ (ao Gi)) (λ_ _ _ _ _=>(bD 0 (show BH (["k","stretches"]:List Str) from by decide +kernel) Z (C3 Z))) (λ_ _ _ _ _=>eE) (λ_ _ _ _ _=>(aU bK (aU bK (bh 1) (bh 0) (λ_ _=>rfl)) aA (λ_ _=>rfl)))))),?_⟩;obtain⟨la,rfl,_,el,NV⟩:=tl.left;replace el:H la=ID (.lst (nv left)):=el;cases ts with
 | lst o es zs tss=>
  push_cast;refine fL λR hR=>?_;push_cast[el];refine IW (lbl ss) (λτ=>∃o0,τ=[o0,ID (.ref _)]) hR el NV ⟨_,rfl⟩ ?_ ?_
  ·rintro i k τ ae Pn hk ⟨o0,rfl⟩ hN;obtain⟨p1,x1,y1⟩:=tss.stN (lf.lt _ (AY hk));push_cast[es,x1,y1];exact hN _ ⟨_,rfl⟩
  intro d hd;exact q d hd
end
abbrev tQ:List Str:=["stretch","prices"]
abbrev lA:Stmt:=top 11
def Jz:bw tQ q22_ (aj lA):=⟨rfl,rfl,rfl,ψ,rfl,ψ,ψ⟩
def uU:NM_ tQ lA 0 "stretch":=.of ψ
def uT:NM_ tQ lA 1 "prices":=.of ψ
def K9:Bn "word_of_test" := ⟨ψ,ψ⟩
abbrev cM:List Str:=["stretches","weights","prices","left","ranked","k","word","other"]
abbrev bM:Stmt:=top 12
def gU:bw cM q2_ (aj bM):=⟨rfl,rfl,rfl,ψ,rfl,ψ,ψ⟩
def Ai:NM_ cM bM 0 "stretches":=.of ψ
def Ah:NM_ cM bM 1 "weights":=.of ψ
def lQ:NM_ cM bM 2 "prices":=.of ψ
def Ag:NM_ cM bM 3 "left":=.of ψ
def lO:NM_ cM bM 4 "ranked":=.of ψ
def jk:NM_ cM bM 5 "k":=.of ψ
def lN:NM_ cM bM 6 "word":=.of ψ
def qw:NM_ cM bM 7 "other":=.of ψ
def sO:GI_ bM "sorted":=ψ
def nJ:GI_ bM "word_of_test":=ψ
def Fe:Bn "tests_in_order" := ⟨ψ,ψ⟩
abbrev wk:List Str:=["stretches","tests","label","plan","word","k"]
abbrev nq:Stmt:=top 13
def wN:bw wk q17_ (aj nq):=⟨rfl,rfl,rfl,ψ,rfl,ψ,ψ⟩
def aah:NM_ wk nq 0 "stretches":=.of ψ
def aag:NM_ wk nq 1 "tests":=.of ψ
def Nz:NM_ wk nq 2 "label":=.of ψ
def xG:NM_ wk nq 3 "plan":=.of ψ
def Ny:NM_ wk nq 4 "word":=.of ψ
def Dq:NM_ wk nq 5 "k":=.of ψ
def Bc:GI_ nq "reversed":=ψ
def ad8:Bn "row_by" := ⟨ψ,ψ⟩
theorem st5{zs:List Int}(h:zs.length=5):∃a b c d e,zs=[a,b,c,d,e]:=by
 match zs,h with
 | [a,b,c,d,e],_=>exact⟨a,b,c,d,e,rfl⟩
section
variable{bs:List Str}
def ZV(F:Fun K "word_of_test" "word_of_test" lA f fd):c7 P w K mg base CX0 1 f fd q22_ Tq:=by
 refine F.okz Jz λaw A outer s H vs Q E hr h=>?_;obtain⟨a,t,ss,zs,k,rfl,ea,⟨et,hz,hb⟩,q⟩:=h;refine⟨_,(aD (fu (JS (JR (cB (jL hr.cY) (aU bK (ao uU) aA (λ_ _=>rfl)) (aU bK (ao uU) aA (λ_ _=>rfl)) (bJ _)) (Bp (cB MT (aU bK (ao uT) aA (λ_ _=>rfl)) (aU bK (ao uT) aA (λ_ _=>rfl)) (bJ _))))) (aN (aZ gm)) cQ)
  (aN (aZ gm))),?_⟩
 obtain⟨z0,z1,z2,z3,z4,rfl⟩:=st5 hz;replace et:H t=ID (.tup [.int z0,.int z1,.int z2,.int z3,.int z4]):=et;push_cast[ea,et];split
 ·rename_i c1;split
  ·rename_i c2;rw[(BR (ss:=ss) (k:=k) (show isT ss [z0,z1,z2,z3,z4] k=true by unfold isT;rw[decide_eq_true c1,decide_eq_true (show [z0,z1,z2,z3,z4].getD 0 0<=[z0,z1,z2,z3,z4].getD 1 0 from c2)];rfl)).1] at q;exact q
  rename_i c2;rw[(wA (ss:=ss) (k:=k) (show ¬isT ss [z0,z1,z2,z3,z4] k=true by unfold isT;rw[decide_eq_false (show ¬ [z0,z1,z2,z3,z4].getD 0 0<=[z0,z1,z2,z3,z4].getD 1 0 from c2),Bool.and_false];decide)).1] at q;exact q
 rename_i c1;rw[(wA (ss:=ss) (k:=k) (show ¬isT ss [z0,z1,z2,z3,z4] k=true by unfold isT;rw[decide_eq_false c1,Bool.false_and];decide)).1] at q;exact q
def Wd(hB:∀x:Str,x∈BLs->mg x=IF)(CWordOfTest:Cal P w K mg base "word_of_test" 1 q22_ Tq)(F:Fun K "tests_in_order" "tests_in_order" bM f fd):c7 P w K mg base CX0 2 f fd q2_ Lz:=by
 refine F.okz gU λaw A outer s H vs Q E hr h=>?_;obtain⟨sa,wa,t,la,xs,ok,ss,ws,zs,left,rfl,es,ts,df,ew,ee,h5,el,lf,NY,q⟩:=h;refine⟨_,(aD (aY lO gU.nd (bI aq) Z (.inl Z))
  (aD (gh BN Z (cJ (ao Ag)) (dF jk gU.nd (.inl Z))
  (aD (aY lN gU.nd (bx CWordOfTest (hr.mono δ) nJ K9 (ak (aU bK (ao Ai) (ao jk) (λ_ _=>rfl)) (ak (ao lQ) aq))) Z (.inl Z))
  (aD (aY qw gU.nd (uK (cB (jL hr.cY) (ao lN) gm (bJ _)) (aU bK (ao lQ) aA (λ_ _=>rfl)) (aU bK (ao lQ) aA (λ_ _=>rfl))) Z (.inl Z))
  (aN (jJ (m5 (ao lO) (cD (ak (aL dz (HD vh (aU bK (ao Ah) (ao jk) (λ_ _=>rfl))) (ao qw)) (ak (ao jk) (ak (ao lN) aq))))))))) (λ_=>rfl))
  (aN (aZ (cO (NX:=cM) (kX:=(aj bM).names) ["rank","k","word"] [IF,IF,IF] Z Z ⟨rfl,ψ,ψ,ψ,ψ⟩ Z (cJ (bO R8 sO (hB "sorted" ug) JA Xp (ak (ao lO) aq))) (λ_ _ _ _ _=>(gj (n:=3) Z (aV (bD 0 (show BH (["rank","k","word"]:List Str) from by decide +kernel) Z (C3 Z)) (aV (bD 1 (show BH (["rank","k","word"]:List Str) from by decide +kernel) Z (C3 Z)) (aV (bD 2 (show BH (["rank","k","word"]:List Str) from by decide +kernel) Z (C3 Z)) dM))))) (λ_ _ _ _ _=>eE) (λ_ _ _ _ _=>(cD (ak (bh 2) (ak (bh 1) aq))))))))),?_⟩
 obtain⟨et,hz,hb⟩:=id h5;refine aM λk hk=>?_;push_cast;refine⟨DC _,λr hr0=>?_⟩;have s1:=au (o:=BY []) hr0;have e1:upd H r (BY []) r=ID (.lst (([]:List IN).map AT)):=aB;have nr:∀{a:IN}{o:HO},H a=ID o->a≠r:=λh=>aH h hr0;generalize upd H r (BY [])=H1 at s1 e1 |-;subst hk;refine aM λk hk=>?_;have tN:=s1 _ _ el;refine jE λR hR=>?_;push_cast[tN];obtain⟨Pv,ap⟩:∃Pv:Nat->L2.St->Hp->Prop,Pv=λ(i:Nat) σ H'=>∃(ps:List IN)(o5 o6 o7:Option V),aR r H H'/\H' r=ID (.lst (ps.map AT))/\ps.length=i/\(∀(j:Nat)(p:IN)(k:Nat),ps[j]?=ID p->left[j]?=ID k->p≠r/\H' p=ID (.tup [.int (xK ss ws zs k),.int (k:Int),.str (mF ss zs k)]))/\σ=[ID (.ref sa),ID (.ref wa),ID (.ref t),ID (.ref la),ID (.ref r),o5,o6,o7]:=⟨_,rfl⟩;refine Ip hR (xs:=nv left) Pv (by rw[ap];exact⟨[],_,_,_,s1.x,e1,rfl,λj p k h=>(nomatch h),rfl⟩) (λi σ H' _ pv=>?_) ?_ ?_
 ·rw[ap] at pv;obtain⟨_,_,_,_,s',_⟩:=pv;exact SqL.of (s' _ _ (nr el) el)
 ·intro i x σ H2 hx pv;rw[ap] at pv;obtain⟨ps,o5,o6,o7,s2,tJ,im,fb,rfl⟩:=pv;obtain⟨k0,f7,rfl⟩:=JW hx;have tj:k0<ss.length:=lf.lt k0 (AY f7);have tI:=s2 _ _ (nr es) es;have zg:=s2 _ _ (nr ew) ew;have kB:=s2 _ _ (nr et) et;obtain⟨p0,x0,y0⟩:=ts.stN tj;have y2:=s2 _ _ (nr y0) y0;have w0:=wz (zs:=ws) (i:=k0) ω;have z0:=wz (zs:=zs) (i:=0) ω;have z1:=wz (zs:=zs) (i:=1) ω;refine aM λk2 av=>?_;push_cast[tI,x0];refine⟨p0,t,ss,zs,k0,rfl,y2,⟨kB,hz,hb⟩,?_⟩;subst av;have fin:∀o6,3<=AJ/\∀p,H2 p=IF->apq (upd H2 p (Do [.int (xK ss ws zs k0),.int (k0:Int),.str (mF ss zs k0)]) r) r (.ref p) (upd H2 p (Do [.int (xK ss ws zs k0),.int (k0:Int),.str (mF ss zs k0)])) λ_ H'=>Pv (i+1) [ID (.ref sa),ID (.ref wa),ID (.ref t),ID (.ref la),ID (.ref r),ID (.int (k0:Int)),ID (.str (mF ss zs k0)),o6] H':=by
   intro o6;refine⟨aQ δ,λp hp=>?_⟩;have TC:p≠r:=(aH tJ hp).symm;rw[aO TC.symm,tJ,yo];have hi0:=(AK.mp f7).1;refine⟨BA (by rw[AG];omega) (aQ (A3 1000000)),?_⟩;rw[ap];refine⟨ps++[p],_,_,_,s2.trans ((au hp).x.trans aR.upd),by rw[aB,Be];rfl,by rw[AQ,BS];omega,λj p' k' hj rq=>?_,rfl⟩;rcases Go j ps.length with h|h
   ·rw[FM h] at hj;obtain⟨n1,n2⟩:=fb j p' k' hj rq;exact⟨n1,by rw[aO n1,aO (aH n2 hp)];exact n2⟩
   rw[DJ h] at hj;have hj0:j-ps.length=0:=by
    have:=(AK.mp hj).1;simp at this;omega
   rw[hj0] at hj;cases hj;have hji:j=i:=ω;rw[hji,f7] at rq;cases rq;exact⟨TC,by rw[aO TC,aB]⟩
  have bz0:=h5.bd (i:=0) δ;have bz1:=h5.bd (i:=1) δ;refine aM λk2 av=>?_;have kT:-(ws.getD k0 0)*vA ss zs k0=xK ss ws zs k0:=rfl;by_cases c:isT ss zs k0=true
  ·obtain⟨q1,q2,_⟩:=BR c;rw[q2] at kT;rw[q1] at fin |-;push_cast[kB,z1];subst av;push_cast[zg,w0,tJ];refine⟨_,z1,?_⟩;push_cast[tJ,zg,w0,kT];exact⟨.inr ⟨ω,ω⟩,fin _⟩
  obtain⟨q1,q2,_⟩:=wA c;rw[q2] at kT;rw[q1] at fin |-;push_cast[kB,z0];subst av;push_cast[zg,w0,tJ];rw[if_neg ψ];refine⟨_,z0,?_⟩;push_cast[tJ,zg,w0,kT];exact⟨.inr ⟨ω,ω⟩,fin _⟩
 intro σ H2 pv;rw[ap] at pv;obtain⟨ps,o5,o6,o7,s2,tJ,im,fb,rfl⟩:=pv;rw[rD] at im;show k _ _;subst hk;push_cast;refine fL λR2 hR2=>?_;push_cast;have at':∀{j:Nat}{p:IN},ps[j]?=ID p->∃k,left[j]?=ID k/\k<ss.length:=λ{j p} hj=>by
  have h1:=(AK.mp hj).1;exact⟨left[j]'ω,AC ω,lf.lt _ (EB _)⟩
 have f6:∀(j:Nat)(p:IN)(k:Nat),ps[j]?=ID p->left[j]?=ID k->fV H2 p=(xK ss ws zs k,(k:Int)):=λj p k hj hk=>WD (fb j p k hj hk).2;have bP:=Hy (g:=λk=>(xK ss ws zs k,(k:Int))) im f6;have UP:ps.map (rkT (fV H2))=left.map (jA ss ws zs):=by
  have e1:ps.map (rkT (fV H2))=(ps.map (fV H2)).map λx=>64*x.1+x.2:=by rw[GL];rfl
  rw[e1,bP,GL];rfl
 have oQ:ps.map (λp=>(fV H2 p).2.toNat)=left:=by
  have e1:ps.map (λp=>(fV H2 p).2.toNat)=(ps.map (fV H2)).map λx=>x.2.toNat:=by rw[GL];rfl
  rw[e1,bP,GL];have:((λx:Int×Int=>x.2.toNat)∘λ(j:Nat)=>(xK ss ws zs j,(j:Int)))=id:=by
   funext j;rfl
  rw[this,List.map_id]
 refine⟨r,ps,fV H2,rfl,tJ,ω,λp hp=>?_,by rw[UP];exact vq lf.up λk hk=>by have:=lf.lt k hk;omega,λdd qs hdd UR hqs=>?_⟩
 ·obtain⟨j,hj⟩:=List.mem_iff_getElem?.mp hp;obtain⟨k,hk,N3⟩:=at' hj;rw[f6 j p k hj hk];exact⟨⟨_,(fb j p k hj hk).2⟩,Int.natCast_nonneg _,by show(k:Int)<64;omega⟩
 have mv:(qs.map λp=>(fV H2 p).2.toNat).Perm left:=by
  have:=UR.map λp=>(fV H2 p).2.toNat;rw[oQ] at this;exact this
 have oP:∀q∈qs,∃j:Nat,j<ss.length/\(fV H2 q).2.toNat=j/\rkT (fV H2) q=jA ss ws zs j/\H2 q=ID (.tup [.int (xK ss ws zs j),.int (j:Int),.str (mF ss zs j)]):=λq hq=>by
  obtain⟨j,hj⟩:=List.mem_iff_getElem?.mp (UR.mem_iff.mp hq);obtain⟨k,hk,N3⟩:=at' hj;refine⟨k,N3,?_,?_,(fb j q k hj hk).2⟩
  ·rw[f6 j q k hj hk];rfl
  unfold rkT;rw[f6 j q k hj hk];rfl
 have sM:(qs.map λp=>(fV H2 p).2.toNat).map (jA ss ws zs)=qs.map (rkT (fV H2)):=by
  rw[GL];refine Fn λq hq=>?_;obtain⟨j,_,e1,e2,_⟩:=oP q hq;show jA ss ws zs (fV H2 q).2.toNat=_;rw[e1,e2]
 have s3:=au (o:=BY (qs.map AT)) hdd;have e3:upd H2 dd (BY (qs.map AT)) dd=_:=aB;generalize upd H2 dd (BY (qs.map AT))=H3 at s3 e3 |-;push_cast[e3];have hql:qs.length=left.length:=by rw[UR.length_eq,im]
 obtain⟨ord,mr⟩:∃ord,ord=qs.map λp=>(fV H2 p).2.toNat:=⟨_,rfl⟩;rw[<- mr] at mv sM;obtain⟨Pc,ai⟩:∃Pv:Nat->List V->L2.St->Hp->Prop,Pv=λ(i:Nat) ae τ H'=>∃(o1 o2 o3:Option V),Same H3 H'/\aF (λ_=>True) H' ae ((ord.take i).map (Td ss zs))/\τ=[o1,o2,o3]:=⟨_,rfl⟩;refine jz hR2 (xs:=qs.map AT) (aQ (by rw[AG];omega)) Pc (by rw[ai];exact⟨IF,IF,IF,Same.refl _,.nil,rfl⟩) ?_ ?_ ?_ ?_
 ·intro i ae τ H4 pc;rw[ai] at pc;obtain⟨_,_,_,_,t4,_⟩:=pc;have:=t4.length;rw[AG,EN] at this;omega
 ·intro i ae τ H4 pc;rw[ai] at pc;obtain⟨_,_,_,s4,_,_⟩:=pc;exact SqL.of (s4 _ _ e3)
 ·intro i x ae τ H4 hx pc;rw[ai] at pc;obtain⟨o1,o2,o3,s4,t4,rfl⟩:=pc;rw[AM] at hx;obtain⟨q0,hq0,rfl⟩:=BM.mp hx;obtain⟨j,hj,e1,_,eq0⟩:=oP q0 (AY hq0);have xi:=s4 _ _ (s3 _ _ eq0);push_cast[xi];refine⟨aQ δ,λp4 hp4=>?_⟩;rw[ai];refine⟨_,_,_,s4.trans (au hp4),?_,rfl⟩;have ho:ord[i]?=ID j:=by rw[mr,AM,hq0,<- e1];rfl
  rw[take_add_one,ho,Be];exact(t4.same (au hp4)).append (.cons (.tup trivial aB (by show 2<=1000000;decide) (.cons (.str _) (.cons (.int _) .nil))) .nil)
 intro ae τ H4 d4 pc kM;rw[ai] at pc;obtain⟨o1,o2,o3,s4,t4,rfl⟩:=pc;have we:ord.length=left.length:=by rw[mr,AG];exact hql
 rw[EZ (by rw[AG];omega)] at t4;have sF:=t4.length;rw[AG] at sF;exact q d4 ord _ ((T5 s2 hr0).trans (s3.trans (s4.trans (au kM)))) mv (by rw[sM];exact hqs) (.lst trivial aB ω (t4.same (au kM)))
theorem Z2(hB:∀x:Str,x∈BLs->mg x=IF)(F:Fun K "row_by" "row_by" nq f fd):c7 P w K mg base CX0 1 f fd q17_ Tw:=by
 refine F.okz wN λaw A outer s H vs Q E hr h=>?_;obtain⟨sa,p,lab,xs,ok,ss,zs,ord,rfl,es,ts,aI,df,tp,q⟩:=h;refine⟨_,(aD (aY xG wN.nd (cD (ak gm (ak (ao Nz) aq))) Z (.inl Z))
  (aD (gh BN Z (ae1 Bc (hB "reversed" zQ) (ak (ao aag) aq)) (gj (n:=2) Z (aV (dF Ny wN.nd (.inl Z)) (aV (dF Dq wN.nd (.inl Z)) dM)))
  (aN (fu (cB (pA hr.cY) (aU bK (aU bK (ao aah) (ao Dq) (λ_ _=>rfl)) aA (λ_ _=>rfl)) (ao Nz) (bJ _)) (aN (aY xG wN.nd (cD (ak (ao Ny) (ak (ao Dq) (ak (ao xG) aq)))) Z (.inl Z))) cQ)) (λ_=>rfl))
  (aN (aZ (ao xG))))),?_⟩
 refine aM λk hk=>?_;push_cast;refine⟨aQ δ,λp1 mn=>?_⟩;have s1:=au (o:=Do [AS "pick",At lab]) mn;have t1:aJ (λ_=>True) (upd H p1 (Do [AS "pick",At lab])) (.ref p1) (Ge ss zs lab []):=.tup trivial aB (by show 2<=1000000;decide) (.cons (.str _) (.cons (.int _) .nil));generalize upd H p1 (Do [AS "pick",At lab])=H1 at s1 t1 |-;subst hk;refine aM λk hk=>?_;refine jE λR hR=>?_;push_cast[af6];cases tp with
 | lst o ep zp xN=>
  rename_i ys;have fq:=xN.length;rw[AG] at fq;have Pe:=s1 _ _ ep;have c6:=s1 _ _ es;refine⟨ys,SqL.of Pe,?_⟩;obtain⟨Pv,ap⟩:∃Pv:Nat->L2.St->Hp->Prop,Pv=λ(i:Nat) σ H'=>∃(v:V)(o4 o5:Option V),Same H1 H'/\aJ (λ_=>True) H' v (Ge ss zs lab ((ord.drop (ord.length-i)).filter λk=>decide ((fZ ss k).2.2≠lab)))/\σ=[ID (.ref sa),ID (.ref p),ID (.int lab),ID v,o4,o5]:=⟨_,rfl⟩;refine ahe hR (xs:=ys) Pv (by rw[ap];exact⟨_,_,_,Same.refl _,by rw[Nat.sub_zero,List.drop_length];exact t1,rfl⟩) (λi σ H' pv=>?_) ?_ ?_
  ·rw[ap] at pv;obtain⟨_,_,_,s',_⟩:=pv;exact SqL.of (s' _ _ Pe)
  ·intro i x σ H2 hx pv;rw[ap] at pv;obtain⟨v,o4,o5,s2,tv,rfl⟩:=pv;have hi:i<ys.length:=by
    have:=(AK.mp hx).1;rwa [IE] at this
   rw[KW hi] at hx;have db:=s1.trans s2;obtain⟨d,hd,td⟩:=(xN.same db).get hx;rw[AM] at hd;obtain⟨k0,f7,rfl⟩:=BM.mp hd;rw[fq] at f7;have wq:=W4 ω f7;obtain⟨a0,x0,y0⟩:=(ts.same db).stN (aI k0 (AY f7));have tI:=db _ _ es;cases td with
   | tup o9 e9 z9 t9=>
    cases t9 with
    | cons u1 t9=>
     cases u1;cases t9 with
     | cons u2 t9=>
      cases u2;cases t9;push_cast[e9,tI,x0,y0];by_cases c:(fZ ss k0).2.2=lab
      ·rw[decide_eq_true c,if_neg δ,ap];refine⟨_,_,_,s2,?_,rfl⟩;rw[wq,LY,if_neg (by simp[c])];exact tv
      rw[decide_eq_false c,if_pos (show(!false)=true from Z)];refine⟨aQ δ,λp4 hp4=>?_⟩;rw[ap];refine⟨_,_,_,s2.trans (au hp4),?_,rfl⟩;rw[wq,LY,if_pos (by simp[c])];exact .tup trivial aB (by show 3<=1000000;decide) (.cons (.str _) (.cons (.int _) (.cons (tv.same (au hp4)) .nil)))
  intro σ H2 pv;rw[ap] at pv;obtain⟨v,o4,o5,s2,tv,rfl⟩:=pv;show k _ _;subst hk;push_cast;rw[fq,sub_self,List.drop_zero] at tv;exact q v _ (s1.trans s2) tv
abbrev iw:List Str:=["stretches","weights","prices","tests","label","waiting","cost","word","k"]
abbrev dY:Stmt:=top 14
def j4:bw iw q9_ (aj dY):=⟨rfl,rfl,rfl,ψ,rfl,ψ,ψ⟩
def Rj:NM_ iw dY 0 "stretches":=.of ψ
def Ri:NM_ iw dY 1 "weights":=.of ψ
def Rh:NM_ iw dY 2 "prices":=.of ψ
def Dp:NM_ iw dY 3 "tests":=.of ψ
def Rg:NM_ iw dY 4 "label":=.of ψ
def vJ:NM_ iw dY 5 "waiting":=.of ψ
def vI:NM_ iw dY 6 "cost":=.of ψ
def Dm:NM_ iw dY 7 "word":=.of ψ
def vH:NM_ iw dY 8 "k":=.of ψ
def Ei:GI_ dY "TESTS":=ψ
def KC:GI_ dY "sum":=ψ
def Xv:Bn "row_cost" := ⟨ψ,ψ⟩
abbrev jU:List Str:=["stretches","weights","prices","left","tests","labels"]
abbrev fQ:Stmt:=top 15
def yE:bw jU q2_ (aj fQ):=⟨rfl,rfl,rfl,ψ,rfl,ψ,ψ⟩
def Rf:NM_ jU fQ 0 "stretches":=.of ψ
def Rc:NM_ jU fQ 1 "weights":=.of ψ
def Rb:NM_ jU fQ 2 "prices":=.of ψ
def Dl:NM_ jU fQ 3 "left":=.of ψ
def Ra:NM_ jU fQ 4 "tests":=.of ψ
def Dk:NM_ jU fQ 5 "labels":=.of ψ
def Bb:GI_ fQ "sorted":=ψ
def qK:GI_ fQ "tests_in_order":=ψ
def Xu:Bn "rows_for" := ⟨ψ,ψ⟩
theorem QZ(hB:∀x:Str,x∈BLs->mg x=IF){be:IN}(da:mg "TESTS" = ID (.ref be))(bv:KTup K be ([("is" : Str),("within" : Str),("below" : Str),("mask" : Str),("table" : Str)].map AS))(F:Fun K "row_cost" "row_cost" dY f fd):c7 P w K mg base CX0 1 f fd q9_ Hj:=by
 refine F.okz j4 λaw A outer s H vs Q E hr h=>?_;obtain⟨sa,wa,t,p,lab,xs,ok,ss,ws,zs,ord,rfl,es,ts,ew,ee,⟨et,hz,me⟩,aI,df,tp,q⟩:=h;refine⟨_,(aD (aY vJ j4.nd (bO (kh Z) KC (hB "sum" vO) L1 vZ (ak (cO (NX:=iw) (kX:=(aj dY).names) ["word","k","weights"] [IF,IF,ID 1] Z Z ⟨rfl,ψ,ψ,ψ,ψ⟩ Z (cJ (ao Dp)) (λ_ _ _ _ _=>(gj (n:=2) Z (aV (bD 0 (show BH (["word","k","weights"]:List Str) from by decide +kernel) Z (C3 Z)) (aV (bD 1 (show BH (["word","k","weights"]:List Str) from by decide +kernel) Z (C3 Z)) dM)))) (λ_ _ _ _ _=>eE) (λ_ _ _ _ _=>(aU bK (bh 2) (bh 1) (λ_ _=>rfl)))) aq)) Z (.inl Z))
  (aD (aY vI j4.nd aA Z (.inl Z))
  (aD (gh BN Z (cJ (ao Dp)) (gj (n:=2) Z (aV (dF Dm j4.nd (.inl Z)) (aV (dF vH j4.nd (.inl Z)) dM)))
  (aN (fu (cB (pA hr.cY) (aU bK (aU bK (ao Rj) (ao vH) (λ_ _=>rfl)) aA (λ_ _=>rfl)) (ao Rg) (bJ _)) (aD (Zn vI j4.nd (aL dz (aU bK (ao Rh) (acB hr.un1 (Bq (v:=AT be) Ei da Z Vl) (ao Dm)) (λ_ _=>rfl)) (ao vJ)) af5)
  (aN (Zn vJ j4.nd (aU bK (ao Ri) (ao vH) (λ_ _=>rfl)) af4))) cQ)) (λ_=>rfl))
  (aN (aZ (ao vI)))))),?_⟩
 have tp0:=tp;cases tp with
 | lst o ep zp xN=>
  rename_i ys;have fq:=xN.length;rw[AG] at fq;refine aM λk hk=>?_;push_cast;refine fL λR hR=>?_;push_cast[ep];obtain⟨Pc,ai⟩:∃Pv:Nat->List V->L2.St->Hp->Prop,Pv=λ(i:Nat) ae τ H'=>∃(o0 o1:Option V),H'=H/\ae=((ord.take i).map λk=>ws.getD k 0).map At/\τ=[o0,o1,ID (.ref wa)]:=⟨_,rfl⟩;refine jz hR (xs:=ys) (aQ ω) Pc (by rw[ai];exact⟨_,_,rfl,rfl,rfl⟩) ?_ ?_ ?_ ?_
  ·intro i ae τ H2 pc;rw[ai] at pc;obtain⟨_,_,_,rfl,_⟩:=pc;rw[AG,AG];exact Db _ _
  ·intro i ae τ H2 pc;rw[ai] at pc;obtain⟨_,_,rfl,_⟩:=pc;exact SqL.of ep
  ·intro i x ae τ H2 hx pc;rw[ai] at pc;obtain⟨o0,o1,rfl,rfl,rfl⟩:=pc;obtain⟨d,hd,td⟩:=xN.get hx;rw[AM] at hd;obtain⟨k0,f7,rfl⟩:=BM.mp hd;have mM:k0<ws.length:=by rw[ee];exact aI k0 (AY f7)
   have nK:atI (ws.map At) (k0:Int)=ID (At (ws.getD k0 0)):=cG (by rw[AM,AC mM];simp[mM]);cases td with
   | tup o9 e9 z9 t9=>
    cases t9 with
    | cons u1 t9=>
     cases u1;cases t9 with
     | cons u2 t9=>
      cases u2;cases t9;push_cast[e9,ew,nK];rw[ai];refine⟨_,_,rfl,?_,rfl⟩;rw[take_add_one,f7,Be,Be];rfl
  intro ae τ H2 d2 pc dL;rw[ai] at pc;obtain⟨o0,o1,rfl,rfl,rfl⟩:=pc;rw[fq,CM];have s2:=au (o:=BY ((ord.map λk=>ws.getD k 0).map At)) dL;have e2:upd H2 d2 (BY ((ord.map λk=>ws.getD k 0).map At)) d2=_:=aB;generalize upd H2 d2 (BY ((ord.map λk=>ws.getD k 0).map At))=H3 at s2 e2 |-;push_cast[e2];refine⟨_,rfl,?_⟩;clear hR ai;have XG:(ord.map λk=>ws.getD k 0).sum=sumK ws ord:=rfl;rw[XG];subst hk;refine aM λk hk=>?_;push_cast;subst hk;refine aM λk hk=>?_;refine jE λR hR=>?_;have ep3:=s2 _ _ ep;have es3:=s2 _ _ es;have ew3:=s2 _ _ ew;have r8:=s2 _ _ et;push_cast[ep3];obtain⟨Pv,ap⟩:∃Pv:Nat->L2.St->Hp->Prop,Pv=λ(i:Nat) σ H'=>∃(W C:Int)(o7 o8:Option V),H'=H3/\rC ss ws zs (sumK ws ord) (iI ss lab ord)=C+rC ss ws zs W (iI ss lab (ord.drop i))/\σ=[ID (.ref sa),ID (.ref wa),ID (.ref t),ID (.ref p),ID (.int lab),ID (.int W),ID (.int C),o7,o8]:=⟨_,rfl⟩;refine Ip (xs:=ys) hR Pv ?_ ?_ ?_ ?_
  ·rw[ap];exact⟨_,_,_,_,rfl,by rw[List.drop_zero,Int.zero_add],rfl⟩
  ·intro i σ H' _ pv;rw[ap] at pv;obtain⟨_,_,_,_,rfl,_⟩:=pv;exact SqL.of ep3
  ·intro i x σ H4 hx pv;rw[ap] at pv;obtain⟨W,C,o7,o8,rfl,ww,rfl⟩:=pv;obtain⟨d,hd,td⟩:=(xN.same s2).get hx;rw[AM] at hd;obtain⟨k0,f7,rfl⟩:=BM.mp hd;have On:=aI k0 (AY f7);have mM:k0<ws.length:=by rw[ee];exact On
   have nK:atI (ws.map At) (k0:Int)=ID (At (ws.getD k0 0)):=cG (by rw[AM,AC mM];simp[mM]);have wq:ord.drop i=k0::ord.drop (i+1):=by
    obtain⟨li,e⟩:=AK.mp f7;rw[IJ li,e]
   obtain⟨a0,x0,y0⟩:=(ts.same s2).stN On;cases td with
   | tup o9 e9 z9 t9=>
    cases t9 with
    | cons u1 t9=>
     cases u1;cases t9 with
     | cons u2 t9=>
      cases u2;cases t9;push_cast[e9,es3,x0,y0];by_cases c:(fZ ss k0).2.2=lab
      ·rw[decide_eq_true c,if_neg δ,ap];refine⟨W,C,_,_,rfl,?_,rfl⟩;rw[ww,wq];unfold iI;rw[LY,if_neg (by simp[c])]
      rw[decide_eq_false c,if_pos (show(!false)=true from Z)];obtain⟨z0,z1,z2,z3,z4,rfl⟩:=st5 hz;replace r8:H4 t=ID (.tup [.int z0,.int z1,.int z2,.int z3,.int z4]):=r8;have gz:rC ss ws [z0,z1,z2,z3,z4] W (iI ss lab (ord.drop i))=W*dg ss [z0,z1,z2,z3,z4] k0+rC ss ws [z0,z1,z2,z3,z4] (W-ws.getD k0 0) (iI ss lab (ord.drop (i+1))):=by
       rw[wq];unfold iI;rw[LY,if_pos (by simp[c])];rfl
      push_cast[r8,Ye];refine⟨Vw,false,bv,bv,?_⟩;by_cases c9:isT ss [z0,z1,z2,z3,z4] k0=true
      ·obtain⟨w1,_,w3⟩:=BR c9;rw[w1];refine⟨0,⟨rfl,λm hm=>absurd hm (LF _)⟩,_,rfl,?_⟩;push_cast[ew3,nK];refine⟨.inl ⟨?_,?_⟩,?_⟩
       ·have:=me z0 ζ;omega
       ·have:=me z0 ζ;omega
       rw[ap];refine⟨_,_,_,_,rfl,?_,rfl⟩;rw[ww,gz,w3];show C+(W*z0+_)=C+z0*W+_;rw[II W z0];omega
      obtain⟨w1,_,w3⟩:=wA c9;rw[w1];refine⟨1,⟨rfl,λm hm=>?_⟩,_,rfl,?_⟩
      ·have:m=0:=by omega
       rw[this];intro z;exact absurd (A7 z) ψ
      push_cast[ew3,nK];refine⟨.inl ⟨?_,?_⟩,?_⟩
      ·have:=me z1 ζ;omega
      ·have:=me z1 ζ;omega
      rw[ap];refine⟨_,_,_,_,rfl,?_,rfl⟩;rw[ww,gz,w3];show C+(W*z1+_)=C+z1*W+_;rw[II W z1];omega
  intro σ H4 pv;rw[ap] at pv;obtain⟨W,C,o7,o8,rfl,ww,rfl⟩:=pv;subst hk;push_cast;rw[fq,List.drop_length] at ww;have:rC ss ws zs W (iI ss lab [])=0:=rfl;rw[this,add_zero] at ww;rw[ww] at q;exact q _ s2
def QX(hB:∀x:Str,x∈BLs->mg x=IF)(CTestsInOrder:Cal P w K mg base "tests_in_order" 2 q2_ Lz)(CRowCost:Cal P w K mg base "row_cost" 1 q9_ Hj)(CRowBy:Cal P w K mg base "row_by" 1 q17_ Tw)(F:Fun K "rows_for" "rows_for" fQ f fd):c7 P w K mg base CX0 3 f fd q2_ Tv:=by
 refine F.okz yE λaw A outer s H vs Q E hr h=>?_;obtain⟨sa,wa,t,la,xs,ok,ss,ws,zs,left,rfl,es,ts,df,ew,ee,h5,el,lf,NY,q⟩:=h;refine⟨_,(aD (aY Ra yE.nd (bx CTestsInOrder (hr.mono δ) qK Fe (ak (ao Rf) (ak (ao Rc) (ak (ao Rb) (ak (ao Dl) aq))))) Z (.inl Z))
  (aD (aY Dk yE.nd (ae2 (NX:=jU) (kX:=(aj fQ).names) ["k","stretches"] [IF,ID 0] Bb (hB "sorted" ug) Z Z ⟨rfl,ψ,ψ,ψ,ψ⟩ Z (cJ (ao Dl)) (λ_ _ _ _ _=>(bD 0 (show BH (["k","stretches"]:List Str) from by decide +kernel) Z (C3 Z))) (λ_ _ _ _ _=>eE) (λ_ _ _ _ _=>(aU bK (aU bK (bh 1) (bh 0) (λ_ _=>rfl)) aA (λ_ _=>rfl)))) Z (.inl Z))
  (aN (aZ (cO (NX:=jU) (kX:=(aj fQ).names) ["label","stretches","weights","prices","tests"] [IF,ID 0,ID 1,ID 2,ID 4] Z Z ⟨rfl,ψ,ψ,ψ,ψ⟩ Z (cJ (ao Dk)) (λ_ _ _ _ _=>(bD 0 (show BH (["label","stretches","weights","prices","tests"]:List Str) from by decide +kernel) Z (C3 Z))) (λ_ _ _ _ _=>eE) (λ_ _ _ _ _=>(cD (ak (bx CRowCost (hr.mono δ) Z Xv (ak (bh 1) (ak (bh 2) (ak (bh 3) (ak (bh 4) (ak (bh 0) aq)))))) (ak (bx CRowBy (hr.mono δ) Z ad8 (ak (bh 1) (ak (bh 4) (ak (bh 0) aq)))) aq))))))))),?_⟩
 refine aM λk hk=>?_;push_cast;refine⟨sa,wa,t,la,xs,ok,ss,ws,zs,left,rfl,es,ts,df,ew,ee,h5,el,lf,NY,λp ord H1 s1 yk yi tp=>?_⟩;push_cast;have ol:ord.length=left.length:=yk.length_eq;have olt:∀k∈ord,k<ss.length:=λk hk=>lf.lt k (yk.mem_iff.mp hk);subst hk;refine aM λk hk=>?_;refine agB λR hR=>?_;have tN:=s1 _ _ el;have c6:=s1 _ _ es;push_cast[tN];obtain⟨Pv,ap⟩:∃Pv:Nat->List Int->L2.St->Hp->Prop,Pv=λ(i:Nat) ae τ H'=>∃(o0:Option V),H'=H1/\ae.length<=i/\(∀l,l∈ae ↔ ∃k∈left.take i,lbl ss k=l)/\τ=[o0,ID (.ref sa)]:=⟨_,rfl⟩;have hnl:(nv left).length=left.length:=rD left;refine agA hR (xs:=nv left) ω Pv (by rw[ap];exact⟨_,rfl,A3 _,λl=>⟨λz=>(by cases z),λ⟨k,z,_⟩=>(by cases z)⟩,rfl⟩) ?_ ?_ ?_ ?_
 ·intro i ae τ H2 pv;rw[ap] at pv;exact pv.choose_spec.2.1
 ·intro i ae τ H2 pv;rw[ap] at pv;obtain⟨_,rfl,_⟩:=pv;exact SqL.of tN
 ·intro i x ae τ H2 hx pv;rw[ap] at pv;obtain⟨o0,rfl,wT,bo,rfl⟩:=pv;obtain⟨k0,f7,rfl⟩:=JW hx;have li:k0<ss.length:=lf.lt k0 (AY f7);obtain⟨a0,x0,y0⟩:=(ts.same s1).stN li;push_cast[c6,x0,y0];rw[ap];refine⟨_,rfl,?_,λl=>?_,rfl⟩
  ·have:=Fl ae (fZ ss k0).2.2;split at this <;> omega
  rw[abB,bo,take_snoc f7];constructor
  ·rintro(⟨k,z1,z2⟩|z)
   ·exact⟨k,EF _ z1,z2⟩
   exact⟨k0,by simp,z.symm⟩
  rintro⟨k,z1,z2⟩;rcases BG.mp z1 with z1|z1
  ·exact .inl ⟨k,z1,z2⟩
  rw[AL.mp z1] at z2;exact .inr z2.symm
 intro ae τ H2 d2 ys pv dL hp hu nd;rw[ap] at pv;obtain⟨o0,rfl,wT,bo,rfl⟩:=pv;rw[hnl] at wT bo;rw[CM] at bo;have hL:u9 ss left ys:=⟨Dy (hu ω) (hp.nodup_iff.mpr nd),λl=>hp.mem_iff.trans (bo l)⟩;have fq:ys.length<=60:=by have:=hp.length_eq;omega
 have s2:=au (o:=BY (ys.map At)) dL;have e2:upd H2 d2 (BY (ys.map At)) d2=_:=aB;have pT:=s1.trans s2;generalize upd H2 d2 (BY (ys.map At))=H3 at s2 e2 pT |-;clear hR ap;push_cast;subst hk;refine fL λR hR=>?_;push_cast[e2];obtain⟨Pc,ai⟩:∃Pv:Nat->List V->L2.St->Hp->Prop,Pv=λ(i:Nat) ae τ H'=>∃(tl:List IN)(o0:Option V),Same H3 H'/\ae=tl.map AT/\tl.length=i/\(∀(j:Nat) u lab,tl[j]?=ID u->ys[j]?=ID lab->∃v,H' u=ID (.tup [.int (jR ss ws zs (sumK ws left) ord lab),v])/\aJ (λ_=>True) H' v (Ge ss zs lab (iI ss lab ord)))/\τ=[o0,ID (.ref sa),ID (.ref wa),ID (.ref t),ID (.ref p)]:=⟨_,rfl⟩;refine jz hR (xs:=ys.map At) (aQ (by rw[AG];omega)) Pc (by rw[ai];exact⟨[],_,Same.refl _,rfl,rfl,λj u lab h=>(by cases h),rfl⟩) ?_ ?_ ?_ ?_
 ·intro i ae τ H4 pc;rw[ai] at pc;obtain⟨tl,_,_,rfl,h1,_⟩:=pc;rw[AG];omega
 ·intro i ae τ H4 pc;rw[ai] at pc;obtain⟨tl,_,s4,_⟩:=pc;exact SqL.of (s4 _ _ e2)
 ·intro i x ae τ H4 hx pc;rw[ai] at pc;obtain⟨tl,o0,s4,rfl,sF,bP,rfl⟩:=pc;rw[AM] at hx;obtain⟨lab,i4,rfl⟩:=BM.mp hx;have M1:=pT.trans s4;have dk:=(tp.same s2).same s4;push_cast;refine⟨sa,wa,t,p,lab,xs,ok,ss,ws,zs,ord,rfl,M1 _ _ es,ts.same M1,M1 _ _ ew,ee,⟨M1 _ _ h5.1,h5.2⟩,olt,ω,dk,λH5 s5=>?_⟩;push_cast;have ve:=M1.trans s5;refine⟨sa,p,lab,xs,ok,ss,zs,ord,rfl,ve _ _ es,ts.same ve,olt,ω,dk.same s5,λv H6 s6 tv=>?_⟩;push_cast;refine⟨aQ δ,λu hu=>?_⟩;have Pf:rC ss ws zs (sumK ws ord) (iI ss lab ord)=jR ss ws zs (sumK ws left) ord lab:=by unfold jR;rw[VD yk]
  rw[Pf];have s7:=au (o:=Do [At (jR ss ws zs (sumK ws left) ord lab),v]) hu;rw[ai];refine⟨tl++[u],_,((s4.trans s5).trans s6).trans s7,by rw[Be];rfl,by rw[AQ,BS,sF],λj u' lab' hj N0=>?_,rfl⟩;rcases Go j tl.length with c|c
  ·rw[FM c] at hj;obtain⟨v',e1,t1⟩:=bP j u' lab' hj N0;have MX:=(s5.trans s6).trans s7;exact⟨v',MX _ _ e1,t1.same MX⟩
  rw[DJ c] at hj;have:j-tl.length=0:=by
   have:=(AK.mp hj).1;rw[BS] at this;omega
  rw[this] at hj;cases hj;have ej:j=i:=ω;subst ej;rw[i4] at N0;cases N0;exact⟨v,aB,tv.same s7⟩
 intro ae τ H4 d4 pc kM;rw[ai] at pc;obtain⟨tl,o0,s4,rfl,sF,bP,rfl⟩:=pc;rw[AG] at sF;have s5:=au (o:=BY (tl.map AT)) kM;push_cast;exact q d4 tl ys ord _ ((pT.trans s4).trans s5) ((pT.trans s4).none kM) aB hL yk yi sF λj u lab h1 h2=>by
  obtain⟨v',e1,t1⟩:=bP j u lab h1 h2;exact⟨v',s5 _ _ e1,t1.same s5⟩
abbrev kj:List Str:=["weights","prices","left","together","costs"]
abbrev dI:Stmt:=top 9
def qX:bw kj q18_ (aj dI):=⟨rfl,rfl,rfl,ψ,rfl,ψ,ψ⟩
def J5:NM_ kj dI 1 "prices":=.of ψ
def J4:NM_ kj dI 2 "left":=.of ψ
def J3:NM_ kj dI 3 "together":=.of ψ
def pK:NM_ kj dI 4 "costs":=.of ψ
def yU:GI_ dI "TESTS":=ψ
def Ef:GI_ dI "sum":=ψ
def Ed:GI_ dI "zip":=ψ
def O6:Bn "step_costs" := ⟨ψ,ψ⟩
theorem ZX(hB:∀x:Str,x∈BLs->mg x=IF){be:IN}(da:mg "TESTS" = ID (.ref be))(bv:KTup K be ([("is" : Str),("within" : Str),("below" : Str),("mask" : Str),("table" : Str)].map AS))(F:Fun K "step_costs" "step_costs" dI f fd):c7 P w K mg base CX0 1 f fd q18_ Tt:=by
 refine F.okz qX λaw A outer s H vs Q E hr h=>?_;obtain⟨l,wa,z,ok,ws,zs,left,rfl,tl,aI,hw,hz,h5,Xt,q⟩:=h;refine⟨_,(aD (aY J3 qX.nd (bO (kh Z) Ef (hB "sum" vO) L1 vZ (ak (cO (NX:=kj) (kX:=(aj dI).names) ["k","weights"] [IF,ID 0] Z Z ⟨rfl,ψ,ψ,ψ,ψ⟩ Z (cJ (ao J4)) (λ_ _ _ _ _=>(bD 0 (show BH (["k","weights"]:List Str) from by decide +kernel) Z (C3 Z))) (λ_ _ _ _ _=>eE) (λ_ _ _ _ _=>(aU bK (bh 1) (bh 0) (λ_ _=>rfl)))) aq)) Z (.inl Z))
  (aD (acq (NX:=["weights","prices","left","together","costs"]) (kX:=(aj dI).names) ["word","price","together"] [IF,IF,ID 3] pK qX.nd Z Z ⟨rfl,ψ,ψ,ψ,ψ⟩ Z (acr Ed (hB "zip" aan) (ak (Bq (v:=AT be) yU da Z Vl) (ak (ao J5) aq))) (λ_ _ _ _ _=>(gj (n:=2) Z (aV (bD 0 (show BH (["word","price","together"]:List Str) from by decide +kernel) Z (C3 Z)) (aV (bD 1 (show BH (["word","price","together"]:List Str) from by decide +kernel) Z (C3 Z)) dM)))) (λ_ _ _ _ _=>eE) (λ_ _ _ _ _=>(bh 0)) (λ_ _ _ _ _=>(aL dz (bh 1) (bh 2))))
  (aD (agO hr.m9 (ao pK) gm aA Z)
  (aN (aZ (ao pK)))))),?_⟩
 obtain⟨la,rfl,sj,el,ll⟩:=tl.left;replace el:H la=ID (.lst (nv left)):=el;refine aM λk hk=>?_;push_cast;refine fL λR2 hR2=>?_;push_cast[el];refine IW (λk=>ws.getD k 0) (λτ=>∃o0,τ=[o0,ID (.ref wa)]) hR2 el ll ⟨_,rfl⟩ ?_ ?_
 ·rintro i k' τ ae Pn rq ⟨o0,rfl⟩ h1;have hwk:=wz (zs:=ws) (i:=k') (aI _ (AY rq));push_cast[hw,hwk];exact h1 _ ⟨_,rfl⟩
 intro d2 dL;have s3:=au (o:=BY ((left.map λk=>ws.getD k 0).map At)) dL;have e3:upd H d2 (BY ((left.map λk=>ws.getD k 0).map At)) d2=_:=aB;generalize upd H d2 (BY ((left.map λk=>ws.getD k 0).map At))=H3 at s3 e3 |-;push_cast[e3];refine⟨_,rfl,?_⟩;have hz3:=s3 _ _ hz;subst hk;refine aM λk hk=>?_;push_cast;refine ad0 λR3 hR3=>?_;push_cast[aaG];refine⟨be,z,_,_,rfl,bv.sq,SqT.of hz3,?_⟩;refine adZ (kvs:=qg (zs.map (· * sumK ws left))) (ys:=zs.map At) (λτ=>∃o0 o1,τ=[o0,o1,ID (.int (sumK ws left))]) hR3 bv.sq (SqT.of hz3) (by rw[AG,h5];exact A3 5) (by show 5<=15;decide) ⟨_,_,rfl⟩ ?_ ?_
 ·rintro i kv y τ H4 p Nx hkv hy s4 ⟨o0,o1,rfl⟩ hp hN;have s5:=au (o:=Do [kV kv.1,y]) hp;have e5:upd H4 p (Do [kV kv.1,y]) p=_:=aB;generalize upd H4 p (Do [kV kv.1,y])=H5 at s5 e5 |-;rw[AM] at hy;cases P7:zs[i]? with
  | none=>rw[P7] at hy;cases hy
  | some zi=>
   rw[P7] at hy;cases hy;have N1:=adU hkv;rw[N7,AV,P7] at N1;have hfz:=Xt zi (AY P7);push_cast[e5];refine⟨.inl ⟨ω,ω⟩,kv.1,rfl,?_⟩;have:=hN [ID (kV kv.1),ID (.int zi),ID (.int (sumK ws left))] H5 (s4.trans s5) ⟨_,_,rfl⟩;rw[N1] at this;exact this
 intro d H4 s4 kM;have s5:=au (o:=HO.dK (iJ [] (qg (zs.map (· * sumK ws left))))) kM;subst hk;refine aM λk hk=>?_;push_cast[rdA];refine⟨d,_,rfl,yp.k (k:=EI "pick") aB (adT _),?_⟩;subst hk;push_cast;rw[abL];exact q d _ ((s3.trans s4).trans (au kM)) aB
abbrev zm:List Str:=["ways","numbers"]
abbrev nR:Stmt:=top 19
def Qm:bw zm q21_ (aj nR):=⟨rfl,rfl,rfl,ψ,rfl,ψ,ψ⟩
def NK:NM_ zm nR 0 "ways":=.of ψ
def Fi:Bn "bounds_of" := ⟨ψ,ψ⟩
abbrev jV:List Str:=["ways","numbers","plans","bounds","least","cost","head","parts"]
abbrev fj:Stmt:=top 24
def mD:bw jV q19_ (aj fj):=⟨rfl,rfl,rfl,ψ,rfl,ψ,ψ⟩
def Dt:NM_ jV fj 0 "ways":=.of ψ
def Rn:NM_ jV fj 1 "numbers":=.of ψ
def vL:NM_ jV fj 3 "bounds":=.of ψ
def vK:NM_ jV fj 4 "least":=.of ψ
def Rm:NM_ jV fj 5 "cost":=.of ψ
def Ds:NM_ jV fj 6 "head":=.of ψ
def Dr:NM_ jV fj 7 "parts":=.of ψ
def ye:GI_ fj "bounds_of":=ψ
def KD:GI_ fj "min":=ψ
def Ek:GI_ fj "tuple":=ψ
def Xw:Bn "least_by" := ⟨ψ,ψ⟩
theorem HS{N:Nat->Nat->Int}(hB:∀x:Str,x∈BLs->mg x=IF)(F:Fun K "bounds_of" "bounds_of" nR f fd):c7 P w K mg base CX0 1 f fd q21_ (yx N):=by
 refine F.okz Qm λaw A outer s H vs Q E hr h=>?_;obtain⟨r,nd,ok,xs,W,kn,rfl,wr,q⟩:=h;refine⟨_,(aN (aZ (cO (NX:=zm) (kX:=(aj nR).names) ["cost","head","parts","numbers"] [IF,IF,IF,ID 1] Z Z ⟨rfl,ψ,ψ,ψ,ψ⟩ Z (cJ (ao NK)) (λ_ _ _ _ _=>(gj (n:=3) Z (aV (bD 0 (show BH (["cost","head","parts","numbers"]:List Str) from by decide +kernel) Z (C3 Z)) (aV (bD 1 (show BH (["cost","head","parts","numbers"]:List Str) from by decide +kernel) Z (C3 Z)) (aV (bD 2 (show BH (["cost","head","parts","numbers"]:List Str) from by decide +kernel) Z (C3 Z)) dM))))) (λ_ _ _ _ _=>eE) (λ_ _ _ _ _=>(aL aW (bh 0) (bO (kh Z) Z (hB "sum" vO) L1 vZ (ak (cO (NX:=["cost","head","parts","numbers"]) (kX:=_) ["part","numbers"] [IF,ID 3] Z Z ⟨rfl,ψ,ψ,by (intro y hy hf;repeat (first|(rcases AX.mp hy with rfl|hy;(first|exact Or.inr rfl|exact C3 rfl|exact absurd hf δ))|exact absurd hy BB)),ψ⟩ Z (acu K (bh 2)) (λ_ _ _ _ _=>(bD 0 (show BH (["part","numbers"]:List Str) from by decide +kernel) Z (C3 Z))) (λ_ _ _ _ _=>eE) (λ_ _ _ _ _=>(CK hr.m9 (bh 1) (bh 0) (λ_ _=>rfl)))) aq))))))),?_⟩
 have hx:=wr.hx;have er:=wr.er;have g7:=wr.t.length;rw[AG] at g7;push_cast;refine fL λR hR=>?_;push_cast[er];obtain⟨Pc,ai⟩:∃Pv:Nat->List V->L2.St->Hp->Prop,Pv=λ(i:Nat) ae τ H'=>∃(o0 o1 o2:Option V),Same H H'/\ae=((W.take i).map (lg N)).map At/\τ=[o0,o1,o2,ID (.ref nd)]:=⟨_,rfl⟩;refine jz hR (xs:=xs) (aQ ω) Pc (by rw[ai];exact⟨_,_,_,Same.refl _,rfl,rfl⟩) ?_ ?_ ?_ ?_
 ·intro i ae τ H2 pc;rw[ai] at pc;obtain⟨_,_,_,_,rfl,_⟩:=pc;rw[AG,AG];exact Db _ _
 ·intro i ae τ H2 pc;rw[ai] at pc;obtain⟨_,_,_,s2,_⟩:=pc;exact SqL.of (s2 _ _ er)
 ·intro i y ae τ H2 hy pc;rw[ai] at pc;obtain⟨o0,o1,o2,s2,rfl,rfl⟩:=pc;obtain⟨d,hd,td⟩:=(wr.t.same s2).get hy;rw[AM] at hd;obtain⟨w1,sD,rfl⟩:=BM.mp hd;have mE:=AY sD;cases td with
  | tup ot et zt tt=>
   cases tt with
   | cons tc tt=>
    cases tt with
    | cons th tt=>
     cases tt with
     | cons tp tt=>
      cases tt;cases tc;rename_i ta xh xp;cases tp with
      | lst op ep zp tpp=>
       rename_i la ys;have fq:=tpp.length;rw[AG] at fq;have en2:=s2 _ _ wr.en;push_cast[et];refine fL λR2 hR2=>?_;push_cast[ep];obtain⟨Pd,ik⟩:∃Pv:Nat->List V->L2.St->Hp->Prop,Pv=λ(j:Nat) ae τ H'=>∃(o0:Option V),H'=H2/\ae=((w1.2.2.take j).map λp=>N p.1 p.2).map At/\τ=[o0,ID (.ref nd)]:=⟨_,rfl⟩;refine jz hR2 (xs:=ys) (aQ zp) Pd (by rw[ik];exact⟨_,rfl,rfl,rfl⟩) ?_ ?_ ?_ ?_
       ·intro j ae τ H3 pd;rw[ik] at pd;obtain⟨_,rfl,rfl,_⟩:=pd;rw[AG,AG];exact Db _ _
       ·intro j ae τ H3 pd;rw[ik] at pd;obtain⟨_,rfl,_⟩:=pd;exact SqL.of ep
       ·intro j y2 ae τ H3 hy2 pd;rw[ik] at pd;obtain⟨Tl,rfl,rfl,rfl⟩:=pd;obtain⟨d2,dL,pE⟩:=tpp.get hy2;rw[AM] at dL;obtain⟨p1,mn,rfl⟩:=BM.mp dL;obtain⟨q2,rfl,xm⟩:=mG pE;push_cast[rdA];refine⟨nd,At (N p1.1 p1.2),rfl,qt.k2 en2 xm (wr.at' w1 mE p1 (AY mn)),?_⟩;rw[ik];exact⟨_,rfl,by rw[take_snoc mn,Be,Be];rfl,rfl⟩
       intro ae τ H3 d2 pd dL;rw[ik] at pd;obtain⟨Tl,rfl,rfl,rfl⟩:=pd;rw[fq,CM];have s3:=au (o:=BY ((w1.2.2.map λp=>N p.1 p.2).map At)) dL;have e3:upd H3 d2 (BY ((w1.2.2.map λp=>N p.1 p.2).map At)) d2=_:=aB;generalize upd H3 d2 (BY ((w1.2.2.map λp=>N p.1 p.2).map At))=H4 at s3 e3 |-;push_cast[e3];refine⟨_,rfl,?_⟩;rw[ai];refine⟨_,_,_,s2.trans s3,?_,rfl⟩;rw[take_snoc sD,Be,Be];rfl
 intro ae τ H2 d pc hd;rw[ai] at pc;obtain⟨o0,o1,o2,s2,rfl,rfl⟩:=pc;rw[g7,CM];exact q d _ (s2.trans (au hd)) (s2.none hd) aB
theorem Q5{N:Nat->Nat->Int}{T:Nat->Nat->AF}(hB:∀x:Str,x∈BLs->mg x=IF)(CBoundsOf:Cal P w K mg base "bounds_of" 1 q21_ (yx N))(F:Fun K "least_by" "least_by" fj f fd):c7 P w K mg base CX0 2 f fd q19_ (Cg N T):=by
 refine F.okz mD λaw A outer s H vs Q E hr h=>?_;obtain⟨r,nd,pd,ok,xs,W,kn,kp,rfl,wr,fr,XX,bz,hW,q⟩:=h;refine⟨_,(aD (aY vL mD.nd (bx CBoundsOf (hr.mono δ) ye Fi (ak (ao Dt) (ak (ao Rn) aq))) Z (.inl Z))
  (aD (aY vK mD.nd (bO (zb Z) KD (hB "min" Dw) boot_min Fd (ak (ao vL) aq)) Z (.inl Z))
  (aD (oZ (aU bK (ao Dt) (acA hr.un1 (ao vL) (ao vK)) (λ_ _=>rfl)) (gj (n:=3) Z (aV (dF Rm mD.nd (.inl Z)) (aV (dF Ds mD.nd (.inl Z)) (aV (dF Dr mD.nd (.inl Z)) dM)))))
  (aN (aZ (cD (ak (ao vK) (ak (aL Ur (ao Ds) (mL gM Ek (hB "tuple" jh) F2 jj (ak (cO (NX:=jV) (kX:=(aj fj).names) ["part","plans"] [IF,ID 2] Z Z ⟨rfl,ψ,ψ,ψ,ψ⟩ Z (cJ (ao Dr)) (λ_ _ _ _ _=>(bD 0 (show BH (["part","plans"]:List Str) from by decide +kernel) Z (C3 Z))) (λ_ _ _ _ _=>eE) (λ_ _ _ _ _=>(CK hr.m9 (bh 1) (bh 0) (λ_ _=>rfl)))) aq))) aq)))))))),?_⟩
 refine aM λk hk=>?_;push_cast;refine⟨r,nd,ok,xs,W,kn,rfl,wr,λb H1 s1 hb eb=>?_⟩;push_cast;subst hk;refine aM λk hk=>?_;push_cast;refine⟨_,.inl eb,λz=>hW (L3.mp z),λM hM cf=>?_⟩;subst hk;refine aM λk hk=>?_;have er1:=s1 _ _ wr.er;push_cast[er1,Yd];refine⟨_,SqL.of eb,SqL.of eb,hM,λj hj=>?_⟩;obtain⟨w1,sD,zk⟩:∃w1,W[j]?=ID w1/\lg N w1=M:=by
  have:=hj.1;rw[AM] at this;exact BM.mp this
 have hx:=wr.t.length;rw[AG] at hx;have VV:=(AK.mp sD).1;have P8:xs[j]?=ID (xs[j]'ω):=AC ω;obtain⟨d,hd,td⟩:=(wr.t.same s1).get P8;rw[AM,sD] at hd;cases hd;have eat:atI xs (j:Int)=ID (xs[j]'ω):=cG P8;generalize xs[j]'ω=xj at td eat;have mE:=AY sD;obtain⟨ck,hhl10,fb⟩:=wr.hd w1 mE;cases td with
 | tup ot et zt tt=>
  cases tt with
  | cons tc tt=>
   cases tt with
   | cons th tt=>
    cases tt with
    | cons tp tt=>
     cases tt;cases tc;rename_i ta xh xp;cases tp with
     | lst op ep zp tpp=>
      rename_i la ys;have fq:=tpp.length;rw[AG] at fq;have xn:=s1 _ _ XX;cases th with
      | tup oh eh zh SD=>
       rename_i ha NA;push_cast[eat,et];subst hk;push_cast;refine fL λR2 hR2=>?_;push_cast[ep];obtain⟨Pc,ai⟩:∃Pv:Nat->List V->L2.St->Hp->Prop,Pv=λ(i:Nat) ae τ H'=>∃(o0:Option V),H1=H'/\ae.length=i/\aF ok H1 ae ((w1.2.2.take i).map λp=>T p.1 p.2)/\τ=[o0,ID (.ref pd)]:=⟨_,rfl⟩;refine jz hR2 (xs:=ys) (aQ zp) Pc (by rw[ai];exact⟨_,rfl,rfl,.nil,rfl⟩) ?_ ?_ ?_ ?_
       ·intro i ae τ H2 pc;rw[ai] at pc;obtain⟨_,_,hl,_⟩:=pc;omega
       ·intro i ae τ H2 pc;rw[ai] at pc;obtain⟨_,rfl,_⟩:=pc;exact SqL.of ep
       ·intro i y ae τ H2 hy pc;rw[ai] at pc;obtain⟨o0,rfl,hl,t2,rfl⟩:=pc;obtain⟨d2,dL,pE⟩:=tpp.get hy;rw[AM] at dL;obtain⟨p1,mn,rfl⟩:=BM.mp dL;obtain⟨q2,rfl,xm⟩:=mG pE;obtain⟨vp,hvp,tvp⟩:=bz w1 mE p1 (AY mn);push_cast[rdA];refine⟨pd,vp,rfl,qt.k2 xn xm hvp,?_⟩;rw[ai];refine⟨_,rfl,by rw[AQ,hl];rfl,?_,rfl⟩;rw[take_snoc mn,Be];exact t2.append (.cons (tvp.same s1) .nil)
       intro ae τ H2 d pc hd;rw[ai] at pc;obtain⟨o0,rfl,hl,t2,rfl⟩:=pc;rw[fq,CM] at t2;have s3:=au (o:=BY ae) hd;have e3:upd H1 d (BY ae) d=_:=aB;generalize upd H1 d (BY ae)=H3 at s3 e3 |-;push_cast;refine⟨ae,.inl ⟨SqL.of e3,λl hl3=>?_⟩⟩;have s4:=au (o:=Do ae) hl3;have e4:upd H3 l (Do ae) l=_:=aB;generalize upd H3 l (Do ae)=H4 at s4 e4 |-;have eh4:=s4 _ _ (s3 _ _ eh);have fin:∀(v:V)(H5:Hp),Same H4 H5->aJ ok H5 v (Uh T w1)->(2<=AJ/\∀(p:IN),H5 p=IF->Q (AT p) (upd H5 p (Do [At M,v]))):=λv H5 s5 t5=>⟨aQ δ,λp hp=>by
        have s6:=au (o:=Do [At M,v]) hp;have sA:=((s1.trans s3).trans s4).trans s5;refine q _ w1 _ (sA.trans s6) mE (λw' hw'=>by rw[zk];exact cf _ (Fm hw')) ?_;rw[zk];exact .tup (fr.new (sA.none hp)) aB (by show 2<=1000000;decide) (.cons (.int _) (.cons (t5.same s6) .nil))⟩
       have hhl:=SD.length;have vT:0<w1.2.1.length:=L9.mpr ck;have wT:=t2.length;rw[AG] at wT;push_cast[eh4,e4,JQ,RX];refine⟨λz=>by rw[z] at hhl;exact absurd hhl (by show ¬0=_;omega),aQ ω,λU2=>?_,λck p hp=>?_⟩
       ·subst U2;refine fin _ _ (Same.refl _) ?_;unfold Uh;rw[show(w1.2.2.map λp=>T p.1 p.2)=[] from L3.mpr (List.eq_nil_of_length_eq_zero wT.symm),D9];exact .tup oh eh4 zh ((SD.same s3).same s4)
       have s5:=au (o:=Do (NA++ae)) hp;exact fin _ _ s5 (.tup (fr.new (((s1.trans s3).trans s4).none hp)) aB (by rw[AQ];omega) (((SD.same (s3.trans s4)).append (t2.same (s3.trans s4))).same s5))
abbrev wj:List Str:=["many"]
abbrev jr:Stmt:=top 17
def LR:bw wj ["many"] (aj jr):=⟨rfl,rfl,rfl,ψ,rfl,ψ,ψ⟩
def J9:NM_ wj jr 0 "many":=.of ψ
def yV:GI_ jr "range":=ψ
def uG:GI_ jr "reversed":=ψ
def zY:Bn "runs_of_row" := ⟨ψ,ψ⟩
abbrev cV:List Str:=["stretches","weights","prices","run","first","behind","left","costs","across","labels","ways"]
abbrev bf:Stmt:=top 18
def f9:bw cV q10_ (aj bf):=⟨rfl,rfl,rfl,ψ,rfl,ψ,ψ⟩
def pJ:NM_ cV bf 0 "stretches":=.of ψ
def xr:NM_ cV bf 1 "weights":=.of ψ
def xq:NM_ cV bf 2 "prices":=.of ψ
def J1:NM_ cV bf 3 "run":=.of ψ
def xg:NM_ cV bf 4 "first":=.of ψ
def w6:NM_ cV bf 5 "behind":=.of ψ
def iC:NM_ cV bf 6 "left":=.of ψ
def pI:NM_ cV bf 7 "costs":=.of ψ
def pH:NM_ cV bf 8 "across":=.of ψ
def lW:NM_ cV bf 9 "labels":=.of ψ
def jg:NM_ cV bf 10 "ways":=.of ψ
def qH:GI_ bf "MOST_IN_MASK":=ψ
def pY:GI_ bf "MOST_IN_TABLE":=ψ
def qI:GI_ bf "labels_left":=ψ
def Ec:GI_ bf "len":=ψ
def Az:GI_ bf "list":=ψ
def nH:GI_ bf "numbers_across":=ψ
def yS:GI_ bf "range":=ψ
def vX:GI_ bf "rows_for":=ψ
def Eb:GI_ bf "set":=ψ
def yc:GI_ bf "sorted":=ψ
def sJ:GI_ bf "step_costs":=ψ
def zX:Bn "ways_of_run" := ⟨ψ,ψ⟩
def Wg(hB:∀x:Str,x∈BLs->mg x=IF)(F:Fun K "runs_of_row" "runs_of_row" jr f fd):c7 P w K mg base CX0 1 f fd ["many"] (Hg n):=by
 refine F.okz LR λaw A outer s H vs Q E hr h=>?_;obtain⟨rfl,df,q⟩:=h;refine⟨_,(aN (aZ (Zr (NX:=wj) (kX:=(aj jr).names) ["first","behind","many"] [IF,IF,ID 0] Z Z ⟨rfl,ψ,ψ,ψ,ψ⟩ Z (acv uG (hB "reversed" zQ) yV (hB "range" eO) (ak (ao J9) aq)) (λ_ _ _ _ _=>(bD 0 (show BH (["first","behind","many"]:List Str) from by decide +kernel) Z (C3 Z))) (λ_ _ _ _ _=>(tZ Z (hB "range" eO) (ak (aL aW (bh 0) aA) (ak (aL aW (bh 2) aA) aq)))) (λ_ _ _ _ _=>(bD 1 (show BH (["first","behind","many"]:List Str) from by decide +kernel) Z (C3 Z))) (λ_ _ _ _ _=>(cD (ak (bh 0) (ak (bh 1) aq))))))),?_⟩
 push_cast;refine ad2 λR hR=>?_;push_cast[aaK];refine⟨ω,?_⟩;rw[GA];obtain⟨Pc,ai⟩:∃Pv:Nat->List V->L2.St->Hp->Prop,Pv=λ(i:Nat) ae τ H'=>∃(o0 o1:Option V),Same H H'/\aF (λ_=>True) H' ae ((dZ n i).map rpD)/\τ=[o0,o1,ID (.int (n:Int))]:=⟨_,rfl⟩;refine abe hR Pc (by rw[ai];exact⟨_,_,Same.refl _,.nil,rfl⟩) ?_ (λx τ H k k' hk h=>hk _ _ h) ?_
 ·intro i ae τ H2 hi pc;rw[ai] at pc;obtain⟨o0,o1,s2,t2,rfl⟩:=pc;push_cast;intro R2 hR2;push_cast[Io];refine⟨ω,?_⟩;rw[show((n:Int)+1-((n:Int)-1-(i:Int)+1)).toNat=i+1 by omega];obtain⟨Pw,rV⟩:∃Pv:Nat->List V->L2.St->Hp->Prop,Pv=λ(j:Nat) ae τ H'=>∃(o1:Option V),Same H H'/\aF (λ_=>True) H' ae ((dZ n i++(mK n i).take j).map rpD)/\τ=[ID (.int ((n:Int)-1-(i:Int))),o1,ID (.int (n:Int))]:=⟨_,rfl⟩;refine ahI hR2 Pw (by rw[rV];exact⟨_,s2,by rw[take_zero,D9];exact t2,rfl⟩) ?_ ?_ ?_
  ·intro j ae τ H3 hj pw;rw[rV] at pw;obtain⟨_,_,t3,_⟩:=pw;have h1:=t3.length;have h2:=oY n i ω;have h3:=Db j (mK n i);rw[AG,AQ] at h1;exact wH ω
  ·intro j ae τ H3 hj pw;rw[rV] at pw;obtain⟨o1',s3,t3,rfl⟩:=pw;push_cast;refine⟨aQ δ,λp hp=>?_⟩;have hx:(mK n i)[j]?=ID (n-1-i,n-i+j):=by
    unfold mK;rw[AM,EC hj];rfl
   rw[rV];have s4:=au (o:=Do [At ((n:Int)-1-(i:Int)),At ((n:Int)-1-(i:Int)+1+(j:Int))]) hp;refine⟨_,s3.trans s4,?_,rfl⟩;rw[take_snoc hx,<- F5,Be];refine(t3.same s4).append (.cons ?_ .nil);show aJ _ _ _ (rpD (n-1-i,n-i+j));unfold rpD;rw[show(((n-1-i:Nat)):Int)=(n:Int)-1-(i:Int) by omega,show(((n-i+j:Nat)):Int)=(n:Int)-1-(i:Int)+1+(j:Int) by omega];exact .tup trivial aB (show 2<=1000000 by decide) (.cons (.int _) (.cons (.int _) .nil))
  intro ae τ H3 pw;rw[rV] at pw;obtain⟨o1',s3,t3,rfl⟩:=pw;rw[ai];rw[EZ (by rw[Cu];exact A3 _),<- zA] at t3;exact⟨_,_,s3,t3,rfl⟩
 intro ae τ H2 d pc hd;rw[ai] at pc;obtain⟨o0,o1,s2,t2,rfl⟩:=pc;exact q d ae _ (s2.trans (au hd)) (s2.none hd) aB (t2.same (au hd))
def ZW(hB:∀x:Str,x∈BLs->mg x=IF)(cq:mg "MOST_IN_MASK" = ID (.int 64 cp))(ca:mg "MOST_IN_TABLE" = ID (.int 200 bX))(CNumbersAcross:Cal P w K mg base "numbers_across" 1 q13_ LC)(CLabelsLeft:Cal P w K mg base "labels_left" 1 q13_ Yq)(CStepCosts:Cal P w K mg base "step_costs" 1 q18_ Tt)(CRowsFor:Cal P w K mg base "rows_for" 3 q2_ Tv)(F:Fun K "ways_of_run" "ways_of_run" bf f fd):c7 P w K mg base CX0 4 f fd q10_ Js:=by
 refine F.okz f9 λaw A outer s H vs Q E hr h=>?_;obtain⟨sa,wa,t,rp,a,b,xs,ok,ss,ws,zs,rfl,es,ts,df,ew,ee,h5,kN,cK,gS,q⟩:=h;refine⟨_,(aD (oZ (ao J1) (gj (n:=2) Z (aV (dF xg f9.nd (.inl Z)) (aV (dF w6 f9.nd (.inl Z)) dM))))
  (aD (aY iC f9.nd (acz Z Az (hB "list" jO) yS (hB "range" eO) (ak (ao xg) (ak (ao w6) aq))) Z (.inl Z))
  (aD (aY pI f9.nd (bx CStepCosts (hr.mono δ) sJ O6 (ak (ao xr) (ak (ao xq) (ak (ao iC) aq)))) Z (.inl Z))
  (aD (aY pH f9.nd (bx CNumbersAcross (hr.mono δ) nH Bl (ak (ao pJ) (ak (ao iC) aq))) Z (.inl Z))
  (aD (aY lW f9.nd (Uc Z yc (hB "sorted" ug) Eb (hB "set" aap) (ak (bx CLabelsLeft (hr.mono δ) qI Le (ak (ao pJ) (ak (ao iC) aq))) aq)) Z (.inl Z))
  (aD (Zm (NX:=cV) (kX:=(aj bf).names) ["cost","plan"] [IF,IF] jg f9.nd Z Z ⟨rfl,ψ,ψ,ψ,ψ⟩ Z (cJ (bx CRowsFor (hr.mono δ) vX Xu (ak (ao pJ) (ak (ao xr) (ak (ao xq) (ak (ao iC) aq)))))) (λ_ _ _ _ _=>(gj (n:=2) Z (aV (bD 0 (show BH (["cost","plan"]:List Str) from by decide +kernel) Z (C3 Z)) (aV (bD 1 (show BH (["cost","plan"]:List Str) from by decide +kernel) Z (C3 Z)) dM)))) (λ_ _ _ _ _=>eE) (λ_ _ _ _ _=>(cD (ak (bh 0) (ak (bh 1) (ak (bI aq) aq))))))
  (aD (fu (cB MT (ao pH) (Bq (v:=At 200) pY ca ⟨_,rfl⟩ GX) (bJ _)) (aN (jJ (m5 (ao jg) (cD (ak (CK hr.m9 (ao pI) gm (λ_ _=>rfl)) (ak (cD (ak gm aq)) (ak (bI aq) aq))))))) cQ)
  (aD (fu (JS (JR (cB MT (ao pH) (Bq (v:=At 64) qH cq ⟨_,rfl⟩ Lb) (bJ _)) (Bp (cB (jL hr.cY) (bO cU Ec (hB "len" iK) CA iQ (ak (ao lW) aq)) aA (bJ _))))) (aN (jJ (m5 (ao jg) (cD (ak (CK hr.m9 (ao pI) gm (λ_ _=>rfl)) (ak (cD (ak gm (ak (aU bK (ao lW) aA (λ_ _=>rfl)) (ak (cD (ak gm (ak (aU bK (ao lW) aA (λ_ _=>rfl)) aq))) aq)))) (ak (bI aq) aq))))))) cQ)
  (aD (jJ (Ue (ao jg) (cO (NX:=cV) (kX:=(aj bf).names) ["k","costs","first","behind"] [IF,ID 7,ID 4,ID 5] Z Z ⟨rfl,ψ,ψ,ψ,ψ⟩ Z (cJ (bQ qU (ao iC) (bT aA) dw)) (λ_ _ _ _ _=>(bD 0 (show BH (["k","costs","first","behind"]:List Str) from by decide +kernel) Z (C3 Z))) (λ_ _ _ _ _=>eE) (λ_ _ _ _ _=>(cD (ak (CK hr.m9 (bh 1) gm (λ_ _=>rfl)) (ak (cD (ak gm (ak (bh 0) aq))) (ak (bI (ak (cD (ak (bh 2) (ak (bh 0) aq))) (ak (cD (ak (bh 0) (ak (bh 3) aq))) aq))) aq))))))))
  (aN (aZ (ao jg)))))))))))),?_⟩
 have lf:=YJ cK gS;have NV:=gP a b;have gu:=ts.length;rw[AG] at gu;have ZA:∀{H':Hp},Same H H'->aJ (λ_=>True) H' (.ref sa) (.list (ss.map stD)):=λs'=>.lst trivial (s' _ _ es) ω ((ts.same s').keep λa o _ e=>⟨trivial,e⟩);have Xt:Few zs:=λz hz=>by have:=h5.2.2 z hz;omega
 refine aM λk hk=>?_;push_cast[kN];subst hk;refine aM λk hk=>?_;push_cast;refine⟨ω,aQ ω,λla hla=>?_⟩;rw[show((b:Int)-(a:Int)).toNat=b-a by omega,YL];have s1:=au (o:=BY (nv (rng a b))) hla;have tN:upd H la (BY (nv (rng a b))) la=ID (BY (nv (rng a b))):=aB;generalize upd H la (BY (nv (rng a b)))=H1 at s1 tN |-;have tl:∀{H':Hp},Same H1 H'->aJ (λ_=>True) H' (.ref la) (Ij (rng a b)):=λs'=>Rx trivial (s' _ _ tN) ω;subst hk;refine aM λk hk=>?_;push_cast;refine⟨_,wa,t,_,ws,zs,rng a b,rfl,tl (Same.refl _),λk hk=>by have:=lf.lt k hk;omega,s1 _ _ ew,s1 _ _ h5.1,h5.2.1,Xt,λpc H2 s2 epc=>?_⟩;push_cast;subst hk;have db:=s1.trans s2;refine aM λk hk=>?_;push_cast;refine⟨_,_,_,ss,rng a b,rfl,ZA db,tl s2,lf,?_⟩;push_cast;subst hk;refine aM λk hk=>?_;push_cast[tSS];refine⟨_,_,_,ss,rng a b,rfl,ZA db,tl s2,lf,λa3 ha3=>?_⟩;have s3:=au (o:=BY (((rng a b).map (lbl ss)).map At)) ha3;have e3:upd H2 a3 (BY (((rng a b).map (lbl ss)).map At)) a3=ID (BY (((rng a b).map (lbl ss)).map At)):=aB;generalize upd H2 a3 (BY (((rng a b).map (lbl ss)).map At))=H3 at s3 e3 |-;refine⟨a3,rfl,(rng a b).map (lbl ss),SqL.of e3,by rw[AG];omega,λp4 L hp4 perm yi=>?_⟩;have i5:=SRT.BK ((rng a b).map (lbl ss));rw[AG] at i5;have bz:=perm.length_eq;have hL:u9 ss (rng a b) L:=⟨Dy (yi ω) (perm.nodup_iff.mpr (SRT.yX _)),λl=>by
  rw[perm.mem_iff,SRT.Vc,Ch]⟩
 have s4:=db.trans (s3.trans (au (o:=BY (L.map At)) hp4));have e4:upd H3 p4 (BY (L.map At)) p4=ID (BY (L.map At)):=aB;have xx:=(s3.trans (au (o:=BY (L.map At)) hp4)) _ _ epc;have j5:=(s2.trans (s3.trans (au (o:=BY (L.map At)) hp4))) _ _ tN;generalize upd H3 p4 (BY (L.map At))=H4 at s4 e4 xx j5 |-;show k _ _;subst hk;clear s3 e3 hp4 perm yi s2 epc db tl;refine aM λk hk=>?_;refine fL λR hR=>?_;push_cast[NZ];refine⟨sa,wa,t,la,xs,ok,ss,ws,zs,rng a b,rfl,s4 _ _ es,ts.same s4,df,s4 _ _ ew,ee,⟨s4 _ _ h5.1,h5.2⟩,j5,lf,ω,λr5 tl5 L5 ord H5 s5 hr5 XU hL5 yk UP sF ia=>?_⟩;show itK K (AT r5) H5 R;rw[Bv,XU,Kl];have eL:L5=L:=hL5.one hL;subst eL;have oR:u5 ss ws zs (rng a b) ord:=⟨yk,UP⟩;have kG:=s4.trans s5;have e5:=s5 _ _ e4;have xw:=s5 _ _ xx;have X1:=s5 _ _ j5;have hLl:L5.length<=60:=ω;obtain⟨RW,RA⟩:∃RW,RW=Hv ss ws zs a b ord L5:=⟨_,rfl⟩;have WF:RW.length=L5.length:=by rw[RA];exact AG _
 obtain⟨Pc,ai⟩:∃Pv:Nat->List V->L2.St->Hp->Prop,Pv=λ(i:Nat) ae τ H'=>∃(o0 o1:Option V),Same H5 H'/\aF (λ_=>True) H' ae ((RW.take i).map rwD)/\τ=[o0,o1]:=⟨_,rfl⟩;refine jz hR (xs:=tl5.map AT) (aQ (by rw[AG];omega)) Pc (by rw[ai];exact⟨_,_,Same.refl _,.nil,rfl⟩) ?_ ?_ ?_ ?_
 ·intro i ae τ H6 pc;rw[ai] at pc;obtain⟨_,_,_,t6,_⟩:=pc;have:=t6.length;rw[AG] at this;have:=Db i RW;omega
 ·intro i ae τ H6 pc;rw[ai] at pc;obtain⟨_,_,s6,_⟩:=pc;exact SqL.of (s6 _ _ XU)
 ·intro i y ae τ H6 hy pc;rw[ai] at pc;obtain⟨o0,o1,s6,t6,rfl⟩:=pc;rw[AM] at hy;obtain⟨u,hu,rfl⟩:=BM.mp hy;have oS:=(AK.mp hu).1;have i4:L5[i]?=ID (L5[i]'ω):=AC ω;generalize L5[i]'ω=lab at i4;obtain⟨v,ev,tv⟩:=ia i u lab hu i4;have hx:RW[i]?=ID (jR ss ws zs (sumK ws (rng a b)) ord lab,Mr ss zs lab (iI ss lab ord),[]):=by
   rw[RA];unfold Hv;rw[AM,i4];rfl
  have ev6:=s6 _ _ ev;push_cast[ev6];refine⟨aQ δ,λle cf=>⟨aQ δ,λp hp=>?_⟩⟩;have s7:=au (o:=BY []) cf;have e7:upd H6 le (BY []) le=ID (BY []):=aB;generalize upd H6 le (BY [])=H7 at s7 e7 hp |-;have s8:=au (o:=Do [At (jR ss ws zs (sumK ws (rng a b)) ord lab),v,AT le]) hp;rw[ai];refine⟨_,_,s6.trans (s7.trans s8),?_,rfl⟩;rw[take_snoc hx,Be];refine(t6.same (s7.trans s8)).append (.cons (.tup trivial aB (show 3<=1000000 by decide) (.cons (.int _) (.cons ?_ (.cons (.lst trivial (s8 _ _ e7) (show 0<=1000000 by decide) .nil) .nil)))) .nil);rw[<- YD];exact tv.same (s6.trans (s7.trans s8))
 intro ae τ H6 d pc hd;rw[ai] at pc;obtain⟨o0,o1,s6,t6,rfl⟩:=pc;rw[AG,sF,<- WF,CM] at t6;have tw:H d=IF:=(kG.trans s6).none hd;have UT:p4≠d:=aH (s6 _ _ e5) hd;have US:pc≠d:=aH (s6 _ _ xw) hd;have VU:la≠d:=aH (s6 _ _ X1) hd;have ZN:aF (·≠d) H6 ae (RW.map rwD):=t6.keep λa o _ e=>⟨aH e hd,e⟩;have s7:=(kG.trans s6).trans (au (o:=BY ae) hd);have XZ:=au (o:=BY ae) hd _ _ (s6 _ _ e5);have xv:=au (o:=BY ae) hd _ _ (s6 _ _ xw);have io:=au (o:=BY ae) hd _ _ (s6 _ _ X1);have kP:upd H6 d (BY ae) d=ID (BY ae):=aB;have t7:=ZN.same (au (o:=BY ae) hd);generalize upd H6 d (BY ae)=H7 at s7 XZ xv io kP t7 |-;show k _ _;clear hR ai t6 ZN s6 hd kG s4 s5 e4 e5 xx xw j5 X1 ia XU hr5;obtain⟨So,y3⟩:∃So:List mj->Hp->Prop,So=λW H'=>∃ys,Same H H'/\H' p4=ID (.lst (L5.map At))/\H' pc=ID (.dK (Ez zs (sumK ws (rng a b))))/\H' la=ID (.lst (nv (rng a b)))/\H' d=ID (.lst ys)/\aF (·≠d) H' ys (W.map rwD):=⟨_,rfl⟩;have put:∀(W:List mj)(x:mj)(v:V)(ys:List V)(H4 H5:Hp),Same H H4->H4 p4=ID (.lst (L5.map At))->H4 pc=ID (.dK (Ez zs (sumK ws (rng a b))))->H4 la=ID (.lst (nv (rng a b)))->Same H4 H5->aF (·≠d) (upd H5 d (.lst (ys++[v]))) (ys++[v]) (W.map rwD++[rwD x])->So (W++[x]) (upd H5 d (.lst (ys++[v]))):=λW x v ys H4 H5 s4 e1 e2 e3 s5 t=>by
  rw[y3];exact⟨_,j6 (s4.trans s5) tw,(aO UT).trans (s5 _ _ e1),(aO US).trans (s5 _ _ e2),(aO VU).trans (s5 _ _ e3),aB,by rw[Be];exact t⟩
 have SK:So RW H7:=by rw[y3];exact⟨ae,s7,XZ,xv,io,kP,t7⟩
 have To:∀{H':Hp}{ys:List V},H' d=ID (.lst ys)->dJ (·≠d) H':=λ{H' ys} e p q s' hq=>(aH (s' _ _ e) hq).symm;have cv:=λp=>abd ws zs (rng a b) p;clear s7 XZ xv io kP t7;subst hk
 -- a table
 refine aM λk hk=>?_;have tb:∀H8,So (RW++ux ss ws zs a b) H8->k [ID (.ref sa),ID (.ref wa),ID (.ref t),ID (.ref rp),ID (.int (a:Int)),ID (.int (b:Int)),ID (.ref la),ID (.ref pc),ID (.int (gG ss (rng a b))),ID (.ref p4),ID (.ref d)] H8:=by
  intro H8 MU;subst hk;refine aM λk hk=>?_;have mk:∀H9,So (RW++ux ss ws zs a b++Al ss ws zs a b L5) H9->k [ID (.ref sa),ID (.ref wa),ID (.ref t),ID (.ref rp),ID (.int (a:Int)),ID (.int (b:Int)),ID (.ref la),ID (.ref pc),ID (.int (gG ss (rng a b))),ID (.ref p4),ID (.ref d)] H9:=by
   intro H9 so9;subst hk;refine aM λk hk=>?_;rw[y3] at so9;obtain⟨ys,s9,ep9,XY,el9,xC,t9⟩:=so9;push_cast[BZ,KJ,xC,Bw];refine fL λR hR=>?_;push_cast[el9];rw[aa8,YG cK];intro Y2 ha10;have dA:=au (o:=BY (nv (rng (a+1) b))) ha10;have e10:upd H9 Y2 (BY (nv (rng (a+1) b))) Y2=ID (BY (nv (rng (a+1) b))):=aB;generalize upd H9 Y2 (BY (nv (rng (a+1) b)))=H10 at dA e10 |-;obtain⟨LW,RH⟩:∃LW,LW=Uz ws zs a b:=⟨_,rfl⟩;have WH:LW.length=b-(a+1):=by rw[RH];unfold Uz;rw[AG,gP]
   obtain⟨Pl,nV⟩:∃Pv:Nat->List V->L2.St->Hp->Prop,Pv=λ(i:Nat) ae τ H'=>∃(o0:Option V),Same H10 H'/\aF (·≠d) H' ae ((LW.take i).map rwD)/\τ=[o0,ID (.ref pc),ID (.int (a:Int)),ID (.int (b:Int))]:=⟨_,rfl⟩;refine jz hR (xs:=nv (rng (a+1) b)) (aQ (by rw[rD,gP];omega)) Pl (by rw[nV];exact⟨_,Same.refl _,.nil,rfl⟩) ?_ ?_ ?_ ?_
   ·intro i ae τ H11 pl;rw[nV] at pl;obtain⟨_,_,x5,_⟩:=pl;have:=x5.length;rw[AG] at this;have:=Db i LW;omega
   ·intro i ae τ H11 pl;rw[nV] at pl;obtain⟨_,eD,_⟩:=pl;exact SqL.of (eD _ _ e10)
   ·intro i y ae τ H11 hy pl;rw[nV] at pl;obtain⟨o0,eD,x5,rfl⟩:=pl;obtain⟨k0,f7,rfl⟩:=JW hy;have hx:LW[i]?=ID (zs.getD 2 0*sumK ws (rng a b),[.str "below",.int (k0:Int)],[(a,k0),(k0,b)]):=by
     rw[RH];unfold Uz;rw[AM,f7];rfl
    have P5:dJ (·≠d) H11:=To ((dA.trans eD) _ _ xC);have O':=(dA.trans eD) _ _ XY;have pk:∀{i j:Nat}{x y:Int},[ID (At (k0:Int)),ID (.ref pc),ID (.int (a:Int)),ID (.int (b:Int))][i]?=ID (ID (At x))->[ID (At (k0:Int)),ID (.ref pc),ID (.int (a:Int)),ID (.int (b:Int))][j]?=ID (ID (At y))->Gv (·≠d) (Qe (jX (tV i) (jX (tV j) wD))) [ID (At (k0:Int)),ID (.ref pc),ID (.int (a:Int)),ID (.int (b:Int))] H11 (.tuple [.int x,.int y]):=λh1 h2=>jw P5 (aG (gvV h1 (.int _)) (aG (gvV h2 (.int _)) bC)) (by show 2<=1000000;decide);simp only[lF,Vy,EO,reduceIte];refine(jw P5 (aG (RG (i:=1) Z O' (cv (.low 0 .tab .tab))) (aG (jw P5 (aG pX (aG (gvV (i:=0) Z (.int _)) bC)) (by show 2<=1000000;decide)) (aG (eY P5 (aG (pk (i:=2) (j:=0) Z Z) (aG (pk (i:=0) (j:=3) Z Z) bC)) (by show 2<=1000000;decide)) bC))) (by show 3<=1000000;decide)) H11 (Same.refl _) _ λv H12 db MG=>?_;rw[nV];refine⟨_,eD.trans db,?_,rfl⟩;rw[take_snoc hx,Be];exact(x5.same db).append (.cons MG .nil)
   intro ae τ H11 d11 pl hd11;rw[nV] at pl;obtain⟨o0,eD,x5,rfl⟩:=pl;rw[rD,gP,<- WH,CM] at x5;have db:=eD.trans (au (o:=BY ae) hd11);have R1:upd H11 d11 (BY ae) d11=ID (BY ae):=aB;have MG:=x5.same (au (o:=BY ae) hd11);generalize upd H11 d11 (BY ae)=H12 at db R1 MG |-;have sX:=dA.trans db;have X':=sX _ _ xC;rw[Es,X',R1,RT];have eM:=t9.length;have g9:=MG.length;have htw:(ux ss ws zs a b).length<=1:=by unfold ux;split <;> simp
   have hmw:(Al ss ws zs a b L5).length<=1:=by unfold Al;split <;> simp
   rw[AG] at eM g9;rw[AQ,AQ] at eM;refine⟨aQ ω,?_⟩;show k _ _;subst hk;push_cast;refine q d (ys++ae) (RW++ux ss ws zs a b++Al ss ws zs a b L5++LW) _ (j6 (s9.trans sX) tw) tw aB (λx=>?_) (Vp (L:=L5) cK oR λx=>?_) ?_ (by rw[AQ];omega)
   ·rw[RA,RH];exact uf hL oR x
   ·rw[RA,RH];exact uf hL oR x
   rw[Be];exact((t9.same sX).append MG).keep λa o h e=>⟨trivial,by rw[aO h];exact e⟩
  refine jY λkt ke hkt hke=>?_;rw[y3] at MU;obtain⟨ys,s8,xy,kC,RY,oj,t8⟩:=MU;push_cast[xy];rw[AG];unfold Al at mk;by_cases c:gG ss (rng a b)<=64/\L5.length=2
  ·rw[if_pos c.1,if_pos (by have:=c.2;omega)];rw[if_pos c] at mk;subst hkt;have n8:=To oj;have g7:=t8.length;have htw:(ux ss ws zs a b).length<=1:=by unfold ux;split <;> simp
   rw[AG,AQ] at g7;exact abA (ok:=(·≠d)) Z oj ω (λa h=>h) t8 (d:=rwD (zs.getD 3 0*sumK ws (rng a b),[.str "mask",.int (L5.getD 0 0),.tuple [.str "pick",.int (L5.getD 1 0)]],[])) (jw n8 (aG (RG Z kC (cv (.msk 0 .tab))) (aG (jw n8 (aG pX (aG (aga Z xy (by have:=c.2;omega)) (aG (jw n8 (aG pX (aG (af9 Z xy (by have:=c.2;omega)) bC)) (by show 2<=1000000;decide)) bC))) (by show 3<=1000000;decide)) (aG (eY n8 bC (by show 0<=1000000;decide)) bC))) (by show 3<=1000000;decide)) λv H5 s5 t5=>mk _ (put _ _ v ys H8 H5 s8 xy kC RY s5 t5)
  rw[if_neg c,D9] at mk;have MU:So (RW++ux ss ws zs a b) H8:=by rw[y3];exact⟨ys,s8,xy,kC,RY,oj,t8⟩
  subst hke;split
  ·rename_i c1;rw[if_neg (λz=>c ⟨c1,ω⟩)];exact mk _ MU
  exact mk _ MU
 refine jY λkt ke hkt hke=>?_;push_cast;unfold ux at tb;by_cases c:gG ss (rng a b)<=200
 ·rw[if_pos c];rw[if_pos c] at tb;subst hkt;rw[y3] at SK;obtain⟨ys,s8,xy,kC,RY,oj,t8⟩:=SK;have n8:=To oj;have g7:=t8.length;rw[AG] at g7;exact abA (ok:=(·≠d)) Z oj ω (λa h=>h) t8 (d:=rwD (zs.getD 4 0*sumK ws (rng a b),[.str "table"],[])) (jw n8 (aG (RG Z kC (cv .tab)) (aG (jw n8 (aG pX bC) (by show 1<=1000000;decide)) (aG (eY n8 bC (by show 0<=1000000;decide)) bC))) (by show 3<=1000000;decide)) λv H5 s5 t5=>tb _ (put _ _ v ys H7 H5 s8 xy kC RY s5 t5)
 rw[if_neg c];rw[if_neg c,D9] at tb;subst hke;exact tb _ SK
abbrev dR:List Str:=["stretches","weights","prices","numbers","plans","run","ways"]
abbrev bN:Stmt:=top 25
def gW:bw dR q7_ (aj bN):=⟨rfl,rfl,rfl,ψ,rfl,ψ,ψ⟩
def qy:NM_ dR bN 0 "stretches":=.of ψ
def Ak:NM_ dR bN 1 "weights":=.of ψ
def Aj:NM_ dR bN 2 "prices":=.of ψ
def jn:NM_ dR bN 3 "numbers":=.of ψ
def jm:NM_ dR bN 4 "plans":=.of ψ
def jl:NM_ dR bN 5 "run":=.of ψ
def qx:NM_ dR bN 6 "ways":=.of ψ
def qL:GI_ bN "least_by":=ψ
def yd:GI_ bN "len":=ψ
def oF:GI_ bN "runs_of_row":=ψ
def oE:GI_ bN "ways_of_run":=ψ
def Fg:Bn "leasts_of_runs" := ⟨ψ,ψ⟩
theorem Q0(hB:∀x:Str,x∈BLs->mg x=IF)(CRunsOfRow:Cal P w K mg base "runs_of_row" 1 ["many"] Hf)(CWaysOfRun:Cal P w K mg base "ways_of_run" 4 q10_ Js)(CLeastBy:Cal P w K mg base "least_by" 2 q19_ Qk)(F:Fun K "leasts_of_runs" "leasts_of_runs" bN f fd):c7 P w K mg base CX0 6 f fd q7_ Hq:=by
 refine F.okz gW λaw A outer s H vs Q E hr h=>?_;obtain⟨sa,wa,t,xs,ok,ss,ws,zs,rfl,es,ts,h1,df,ew,ee,h5,q⟩:=h;refine⟨_,(aD (aY jn gW.nd Zq Z (.inl Z))
  (aD (aY jm gW.nd Zq Z (.inl Z))
  (aD (gh BN Z (cJ (bx CRunsOfRow (hr.mono δ) oF zY (ak (bO cU yd (hB "len" iK) CA iQ (ak (ao qy) aq)) aq))) (dF jl gW.nd (.inl Z))
  (aD (aY qx gW.nd (bx CWaysOfRun (hr.mono δ) oE zX (ak (ao qy) (ak (ao Ak) (ak (ao Aj) (ak (ao jl) aq))))) Z (.inl Z))
  (aN (oZ (bx CLeastBy (hr.mono δ) qL Xw (ak (ao qx) (ak (ao jn) (ak (ao jm) aq)))) (gj (n:=2) Z (aV (Ub (ao jn) (ao jl) (Yw hr.m9)) (aV (Ub (ao jm) (ao jl) (Yw hr.m9)) dM)))))) (λ_=>rfl))
  (aN (aZ (cD (ak (ao jn) (ak (ao jm) aq)))))))),?_⟩
 have gu:=ts.length;rw[AG] at gu;refine aM λk hk=>?_;push_cast;refine λnd i3=>?_;subst hk;have sA:=au (o:=DO []) i3;have eA:upd H nd (DO []) nd=ID (DO []):=aB;generalize upd H nd (DO [])=HA at sA eA |-;refine aM λk hk=>?_;push_cast;refine λpd hpd=>?_;subst hk;have sB:=au (o:=DO []) hpd;have eB:upd HA pd (DO []) pd=ID (DO []):=aB;have ck:nd≠pd:=(aH eA hpd);have XV:=sA.none hpd;have Ya:=sB _ _ eA;have SS:=sA.trans sB;generalize upd HA pd (DO [])=HB at sB eB Ya SS |-;refine aM λk hk=>?_;refine jE λR hR=>?_;push_cast;have esB:=SS _ _ es;push_cast[esB];refine⟨ss.length,by rw[gu],df,λr rs HC sC hr0 er tr=>?_⟩;push_cast[er];have Z3:=SS.trans sC;have oQ:∀{a:IN}{o:HO},H a=ID o->a≠nd/\a≠pd:=λe=>⟨aH e i3,aH e XV⟩;have Pp:=sC _ _ Ya;have xD:=sC _ _ eB;have trD:=tr.ag8 Pp xD;have x3:=tr.length;rw[AG] at x3;have NG:=oY ss.length ss.length df;have hr1:r≠nd/\r≠pd:=⟨(aH Ya hr0).symm,(aH eB hr0).symm⟩;obtain⟨Pv,ap⟩:∃Pv:Nat->L2.St->Hp->Prop,Pv=λi σ H'=>∃(o4 o5:Option V)(N:Nat->Nat->Int)(T:Nat->Nat->Pl)(kn kp:List (List Key×V)),tL nd pd HC H'/\Pz ss ws zs H' nd pd i (λp=>p∈(dZ ss.length ss.length).take i) N T kn kp/\σ=[ID (.ref sa),ID (.ref wa),ID (.ref t),ID (.ref nd),ID (.ref pd),o4,o5]:=⟨_,rfl⟩;refine Ip hR (xs:=rs) Pv (by rw[ap];exact⟨_,_,λ_ _=>0,λ_ _=>.tab,[],[],λ_ _ _ _ e=>e,⟨Pp,xD,A3 _,A3 _,λ_ h=>(nomatch h),λ_ h=>(nomatch h),λ_ h=>(nomatch h),λ_ h=>(nomatch h)⟩,rfl⟩) ?_ ?_ ?_
 ·intro i σ H2 _ pv;rw[ap] at pv;obtain⟨_,_,_,_,_,_,b2,_⟩:=pv;exact SqL.of (b2 _ _ hr1.1 hr1.2 er)
 ·intro i y σ H2 hy pv;rw[ap] at pv;obtain⟨o4,o5,N,T,kn,kp,b2,rt,rfl⟩:=pv;have oS:i<rs.length:=(AK.mp hy).1;obtain⟨d,hd,td⟩:=trD.get hy;rw[AM] at hd;obtain⟨⟨a,b⟩,hp,rfl⟩:=BM.mp hd;obtain⟨rp,rfl,kN⟩:=mG (b2.tree td);dsimp only at kN;obtain⟨cK,gS⟩:=dh.mp (AY hp);dsimp only at cK gS;have tb:=Te (Hu ss.length) hp;have pT:Same H H2:=b2.of Z3 i3 XV;push_cast;refine⟨sa,wa,t,rp,a,b,xs,ok,ss,ws,zs,rfl,pT _ _ es,ts.same pT,df,pT _ _ ew,ee,⟨pT _ _ h5.1,h5.2⟩,kN,cK,gS,λwr ys W H3 s3 hwr XE hW WE tW fq=>?_⟩;have fN:=rt.same s3;have inD:∀x,lK ss ws zs a b x->∀p∈x.2.2,p∈(dZ ss.length ss.length).take i:=λx hx p fE=>by
   obtain⟨g1,g2,g3,g4⟩:=wU hx p fE;exact(tb p).mpr ⟨dh.mpr ⟨g2,ω⟩,by unfold bfR;show a<p.1\/(a=p.1/\p.2<b);omega⟩
  refine⟨(N,λi j=>plD (T i j)),wr,nd,pd,λx=>x≠nd/\x≠pd,ys,W,kn,kp,rfl,⟨XE,tW.ag8 fN.en fN.ep,ω,fN.en,λx hx p fE=>fN.num p (inD x ((hW x).mp hx) p fE),λx hx=>S6 ((hW x).mp hx)⟩,ahF fN.en fN.ep,fN.ep,λx hx p fE=>fN.pln p (inD x ((hW x).mp hx) p fE),WE,λv x H4 s4 hxW cf tv=>?_⟩;obtain⟨pl,epl,gpl⟩:=XD cK gS ((hW x).mp hxW) λp fE=>fN.good p (inD x ((hW x).mp hxW) p fE);rw[epl] at tv;have oz:=fN.same s4;have xf:=s4 _ _ (s3 _ _ kN);cases tv with
  | tup ot et zt tt=>
   cases tt with
   | cons tc tt=>
    cases tt with
    | cons tv tt=>
     cases tt;cases tc;push_cast[et];rename_i va;have QP:i<=3660:=ω;have ln4:=oz.ln;have lp4:=oz.lp;have hpb:pd≠nd:=Co ck;refine⟨nd,_,rfl,yp.k2 oz.en xf (wH ω),?_⟩;have ep5:upd H4 nd (DO (putK kn (key2 (a:Int) (b:Int)) (At (lg N x)))) pd=ID (DO kp):=by rw[aO hpb];exact oz.ep
     have XN:upd H4 nd (DO (putK kn (key2 (a:Int) (b:Int)) (At (lg N x)))) rp=ID (Do [At (a:Int),At (b:Int)]):=by rw[aO (Uv xf oz.en (λz=>by cases z))];exact xf
     refine⟨pd,_,rfl,yp.k2 ep5 XN (wH ω),?_⟩;have sK:=take_snoc hp;have bo:∀p,p∈(dZ ss.length ss.length).take (i+1)↔p∈(dZ ss.length ss.length).take i\/p=(a,b):=λp=>by
      rw[sK,BG,AL]
     obtain⟨N',T',rt5⟩:=oz.step (a:=a) (b:=b) (c:=lg N x) (pl:=pl) (v:=va) (D':=λp=>p∈(dZ ss.length ss.length).take (i+1)) ck (λz=>by have:=((tb _).mp z).2;unfold bfR at this;dsimp only at this;omega) bo (λp fE i2 j2 g1 g2 g3 g4=>by
      refine(tb _).mpr ⟨dh.mpr ?_,?_⟩
      ·rcases(bo p).mp fE with z|rfl
       ·have:=dh.mp ((tb p).mp z).1;exact⟨g2,by show j2<=_;omega⟩
       exact⟨g2,by show j2<=_;dsimp only at g3;omega⟩
      rcases(bo p).mp fE with z|rfl
      ·have:=((tb p).mp z).2;unfold bfR at this |-;dsimp only at this |-;omega
      unfold bfR;dsimp only at g1 g3 g4 |-;omega) gpl ⟨⟨x,(hW x).mp hxW,rfl⟩,λy hy=>cf y ((hW y).mpr hy)⟩ tv
     rw[ap];exact⟨_,_,N',T',_,_,((b2.trans s3).trans s4).put,rt5,rfl⟩
 intro σ H2 pv;rw[ap] at pv;obtain⟨o4,o5,N,T,kn,kp,b2,rt,rfl⟩:=pv;rw[x3,CM] at rt;show k _ H2;subst hk;push_cast;refine⟨aQ δ,λp hp=>?_⟩;have s3:=au (o:=Do [AT nd,AT pd]) hp;have fN:=rt.same s3;refine q p nd pd _ _ N T kn kp ((b2.of Z3 i3 XV).trans s3) aB ⟨fN.en,fN.ep,fN.ln,fN.lp,λp fE=>fN.num p (dh.mpr fE),λp fE=>fN.pln p (dh.mpr fE),λp fE=>fN.good p (dh.mpr fE),λp fE=>fN.lst p (dh.mpr fE)⟩
end
abbrev iG:List Str:=["thing","many"]
abbrev bV:Stmt:=top 20
def wO:bw iG q15_ (aj bV):=⟨rfl,rfl,rfl,ψ,rfl,ψ,ψ⟩
def jt:NM_ iG bV 0 "thing":=.of ψ
def vN:NM_ iG bV 1 "many":=.of ψ
def sW:GI_ bV "all":=ψ
def lX:GI_ bV "isinstance":=ψ
def sV:GI_ bV "len":=ψ
def qN:GI_ bV "list":=ψ
def yj:Bn "is_list_of_numbers" := ⟨ψ,ψ⟩
abbrev m8:List Str:=["thing","many"]
abbrev dB:Stmt:=top 21
def JC:bw m8 q15_ (aj dB):=⟨rfl,rfl,rfl,ψ,rfl,ψ,ψ⟩
def nu:NM_ m8 dB 0 "thing":=.of ψ
def Gj:NM_ m8 dB 1 "many":=.of ψ
def Bj:GI_ dB "all":=ψ
def qM:GI_ dB "enumerate":=ψ
def qe:GI_ dB "isinstance":=ψ
def Bh:GI_ dB "len":=ψ
def yW:GI_ dB "list":=ψ
def Lg:Bn "is_run_paper" := ⟨ψ,ψ⟩
abbrev gB:List Str:=["stretches","weights","prices","thing","many","runs","numbers","run"]
abbrev bY:Stmt:=top 22
def lu:bw gB q12_ (aj bY):=⟨rfl,rfl,rfl,ψ,rfl,ψ,ψ⟩
def xu:NM_ gB bY 0 "stretches":=.of ψ
def J8:NM_ gB bY 1 "weights":=.of ψ
def J7:NM_ gB bY 2 "prices":=.of ψ
def J6:NM_ gB bY 3 "thing":=.of ψ
def pQ:NM_ gB bY 4 "many":=.of ψ
def pP:NM_ gB bY 5 "runs":=.of ψ
def pO:NM_ gB bY 6 "numbers":=.of ψ
def pN:NM_ gB bY 7 "run":=.of ψ
def uF:GI_ bY "bounds_of":=ψ
def qJ:GI_ bY "is_run_paper":=ψ
def Eh:GI_ bY "len":=ψ
def Eg:GI_ bY "min":=ψ
def sU:GI_ bY "runs_of_row":=ψ
def sS:GI_ bY "ways_of_run":=ψ
def O7:Bn "shows_runs" := ⟨ψ,ψ⟩
abbrev jH:List Str:=["stretches","weights","prices","numbers","plans","many"]
abbrev dU:Stmt:=top 26
def oV:bw jH q7_ (aj dU):=⟨rfl,rfl,rfl,ψ,rfl,ψ,ψ⟩
def zN:NM_ jH dU 0 "stretches":=.of ψ
def Nv:NM_ jH dU 1 "weights":=.of ψ
def Nu:NM_ jH dU 2 "prices":=.of ψ
def Nt:NM_ jH dU 3 "numbers":=.of ψ
def Nr:NM_ jH dU 4 "plans":=.of ψ
def zM:NM_ jH dU 5 "many":=.of ψ
def pZ:GI_ dU "leasts_of_runs":=ψ
def GD:GI_ dU "len":=ψ
def Ba:GI_ dU "range":=ψ
def Sq:Bn "run_paper" := ⟨ψ,ψ⟩
theorem JX:∀{ds:List AF},(ds.map fX).all id=true->∃N:List Int,ds=N.map AF.int
 | [],_=>⟨[],rfl⟩
 | d::ds,h=>by
  rw[DE,all_cons,CL] at h;obtain⟨N,e⟩:=JX h.2;cases d with
  | int i=>exact⟨i::N,by rw[e];rfl⟩
  | _=>exact absurd h.1 A8
theorem M8:∀N:List Int,((N.map AF.int).map fX).all id=true
 | []=>rfl
 | i::N=>M8 N
section
variable{bs:List Str}
theorem Z5(hB:∀x:Str,x∈BLs->mg x=IF)(CIsNumber:Cal P w K mg base "is_number" 1 ["thing"] Yp)(F:Fun K "is_list_of_numbers" "is_list_of_numbers" bV f fd):c7 P w K mg base CX0 2 f fd q15_ spListN:=by
 refine F.okz wO λaw A outer s H vs Q E hr h=>?_;obtain⟨v,m,ok,d,rfl,hn,t,q⟩:=h;refine⟨_,(aN (aZ (CN (bO dj lX (hB "isinstance" bA) B7 bB (ak (ao jt) (ak (jK "list" qN (hB "list" jO) F6 kZ) aq))) (CN (rz (jL hr.cY) (bO cU sV (hB "len" iK) CA iQ (ak (ao jt) aq)) (ao vN) (bJ _)) (CJ (bO (Jd Z) sW (hB "all" aaq) PyProof.Rows.Boot.«all» abo (ak (cO (NX:=iG) (kX:=(aj bV).names) ["part"] [IF] Z Z ⟨rfl,ψ,ψ,ψ,ψ⟩ Z (cJ (ao jt)) (λ_ _ _ _ _=>(bD 0 (show BH (["part"]:List Str) from by decide +kernel) Z (C3 Z))) (λ_ _ _ _ _=>eE) (λ_ _ _ _ _=>(bx CIsNumber (hr.mono δ) Z Ss (ak (bh 0) aq)))) aq))))))),?_⟩;have no:(∀ds,d≠.list ds)->∀H',Same H H'->Q (.bl false) H':=λh H' s=>by
  have:=q H' s;rw[tK] at this
  ·exact this
  rintro⟨N,rfl,_⟩;exact h _ rfl
 cases t with
 | non=>push_cast;exact no (λds z=>by cases z) _ (Same.refl _)
 | bl b=>push_cast;exact no (λds z=>by cases z) _ (Same.refl _)
 | int i=>push_cast;exact no (λds z=>by cases z) _ (Same.refl _)
 | str x=>push_cast;exact no (λds z=>by cases z) _ (Same.refl _)
 | tup o e z t=>push_cast[e];exact no (λds z=>by cases z) _ (Same.refl _)
 | lst o e z t=>
  rename_i p xs ds;have hl:=t.length;push_cast[e];split
  ·rename_i c;have hlm:ds.length=m:=ω;refine fL λR hR=>?_;push_cast[e];obtain⟨Pc,ai⟩:∃Pv:Nat->List V->L2.St->Hp->Prop,Pv=λ(i:Nat) ae τ H'=>∃(o0:Option V),Same H H'/\ae=((ds.take i).map fX).map As/\τ=[o0]:=⟨_,rfl⟩;refine jz hR (xs:=xs) (aQ z) Pc (by rw[ai];exact⟨_,Same.refl _,rfl,rfl⟩) ?_ ?_ ?_ ?_
   ·intro i ae τ H2 pc;rw[ai] at pc;obtain⟨_,_,rfl,_⟩:=pc;rw[AG,AG];exact Db _ _
   ·intro i ae τ H2 pc;rw[ai] at pc;obtain⟨_,s2,_⟩:=pc;exact SqL.of (s2 _ _ e)
   ·intro i y ae τ H2 hy pc;rw[ai] at pc;obtain⟨o0,s2,rfl,rfl⟩:=pc;obtain⟨d,hd,td⟩:=(t.same s2).get hy;push_cast;refine⟨_,ok,d,rfl,td,?_⟩;rw[ai];exact⟨_,s2,by rw[take_snoc hd,Be,Be];rfl,rfl⟩
   intro ae τ H2 d pc hd;rw[ai] at pc;obtain⟨o0,s2,rfl,rfl⟩:=pc;rw[hl,CM];have s3:=s2.trans (au (o:=BY ((ds.map fX).map As)) hd);have e3:upd H2 d (BY ((ds.map fX).map As)) d=ID (BY ((ds.map fX).map As)):=aB;generalize upd H2 d (BY ((ds.map fX).map As))=H3 at s3 e3 |-;push_cast[e3];refine⟨_,rfl,?_⟩;have:=q H3 s3;by_cases all:(ds.map fX).all id=true
   ·obtain⟨N,rfl⟩:=JX all;rw[O8 ⟨N,rfl,by rw[AG] at hlm;exact hlm⟩] at this;rw[all];exact this
   rw[tK] at this
   ·rw[eq_false_iff.mpr all];exact this
   rintro⟨N,h1,h2⟩;cases h1;exact all (M8 N)
  rename_i c;have:=q H (Same.refl _);rw[tK] at this
  ·exact this
  rintro⟨N,h1,h2⟩;cases h1;rw[AG] at hl;omega
theorem adb(hB:∀x:Str,x∈BLs->mg x=IF)(CIsListOfNumbers:Cal P w K mg base "is_list_of_numbers" 2 q15_ spListN)(F:Fun K "is_run_paper" "is_run_paper" dB f fd):c7 P w K mg base CX0 3 f fd q15_ Yr:=by
 refine F.okz JC λaw A outer s H vs Q E hr h=>?_;obtain⟨v,n,ok,d,rfl,df,hn,t,q⟩:=h;refine⟨_,(aD (fu (JS (Hz (rm (iH (bO dj qe (hB "isinstance" bA) B7 bB (ak (ao nu) (ak (jK "list" yW (hB "list" jO) F6 kZ) aq))) (λ_=>rfl))) (Cz (cB (pA hr.cY) (bO cU Bh (hB "len" iK) CA iQ (ak (ao nu) aq)) (ao Gj) (bJ _))))) (aN (aZ jB)) cQ)
  (aN (aZ (bO (Jd Z) Bj (hB "all" aaq) PyProof.Rows.Boot.«all» abo (ak (cO (NX:=m8) (kX:=(aj dB).names) ["first","part","many"] [IF,IF,ID 1] Z Z ⟨rfl,ψ,ψ,ψ,ψ⟩ Z (CG qM (hB "enumerate" pW) (ak (ao nu) aq)) (λ_ _ _ _ _=>(gj (n:=2) Z (aV (bD 0 (show BH (["first","part","many"]:List Str) from by decide +kernel) Z (C3 Z)) (aV (bD 1 (show BH (["first","part","many"]:List Str) from by decide +kernel) Z (C3 Z)) dM)))) (λ_ _ _ _ _=>eE) (λ_ _ _ _ _=>(bx CIsListOfNumbers (hr.mono δ) Z yj (ak (bh 1) (ak (aL eX (bh 2) (bh 0)) aq))))) aq))))),?_⟩
 have no:(∀ds,d≠.list ds)->Q (.bl false) H:=λh=>by
  have:=q H (Same.refl _);rw[tK] at this
  ·exact this
  rintro⟨N,rfl⟩;exact h _ rfl
 refine aM λk hk=>?_;cases t with
 | non=>push_cast;exact no (λds z=>by cases z)
 | bl b=>push_cast;exact no (λds z=>by cases z)
 | int i=>push_cast;exact no (λds z=>by cases z)
 | str x=>push_cast;exact no (λds z=>by cases z)
 | tup o e z t=>push_cast[e];exact no (λds z=>by cases z)
 | lst o e z t=>
  rename_i p xs ds;have hl:=t.length;push_cast[e];by_cases c:(xs.length:Int)=(n:Int)
  ·rw[decide_eq_true c,Mk,if_neg δ];have VQ:ds.length=n:=ω;subst hk;push_cast;refine fL λR hR=>?_;push_cast[um,Bx,e,Km];obtain⟨g,hg⟩:∃g:Nat->V,g=λj=>blP (∃M,Fv (n-j) (ds.getD j .none) M):=⟨_,rfl⟩;obtain⟨Pc,ai⟩:∃Pv:Nat->List V->L2.St->Hp->Prop,Pv=λ(i:Nat) ae τ H'=>∃(o0 o1:Option V),Same H H'/\ae=(BF i).map g/\τ=[o0,o1,ID (.int (n:Int))]:=⟨_,rfl⟩;refine agl hR (xs:=xs) (aQ z) Pc (by rw[ai];exact⟨_,_,Same.refl _,rfl,rfl⟩) ?_ ?_ ?_ ?_
   ·intro i ae τ H2 pc;rw[ai] at pc;obtain⟨_,_,_,rfl,_⟩:=pc;rw[AG,Cf];exact A3 _
   ·intro i ae τ H2 pc;rw[ai] at pc;obtain⟨_,_,s2,_⟩:=pc;exact SqL.of (s2 _ _ e)
   ·intro i y ae τ H2 p2 hy pc fb;rw[ai] at pc;obtain⟨o0,o1,s2,rfl,rfl⟩:=pc;have hi:=(AK.mp hy).1;obtain⟨d,hd,td⟩:=(t.same s2).get hy;have s3:=au (o:=Do [At (i:Nat),y]) fb;have e3:upd H2 p2 (Do [At (i:Nat),y]) p2=_:=aB;have ME:=td.same s3;generalize upd H2 p2 (Do [At (i:Nat),y])=H3 at s3 e3 ME |-;push_cast[e3];refine⟨y,n-i,ok,d,by rw[show(n:Int)-(i:Int)=((n-i:Nat):Int) by omega],hn.same (s2.trans s3),ME,λH4 s4=>?_⟩;rw[ai];refine⟨_,_,(s2.trans s3).trans s4,?_,rfl⟩;rw[range_succ,Be];congr 1;rw[hg,List.map_singleton,AV,hd];rfl
   intro ae τ H2 d2 pc dL;rw[ai] at pc;obtain⟨o0,o1,s2,rfl,rfl⟩:=pc;obtain⟨ua,yY⟩:∃ua:List Bool,ua=(BF n).map λj=>@decide (∃M,Fv (n-j) (ds.getD j .none) M) (D1 _):=⟨_,rfl⟩;have gV:(BF xs.length).map g=ua.map As:=by
    rw[hg,yY,GL,show xs.length=n by omega];rfl
   rw[gV];have s3:=s2.trans (au (o:=BY (ua.map As)) dL);have e3:upd H2 d2 (BY (ua.map As)) d2=ID (BY (ua.map As)):=aB;generalize upd H2 d2 (BY (ua.map As))=H3 at s3 e3 |-;push_cast[e3];refine⟨_,rfl,?_⟩;have:=q H3 s3;have iff:=uh (n:=n) (ds:=ds);by_cases all:ua.all id=true
   ·rw[O8 (iff.mpr ⟨VQ,λj hj=>?_⟩)] at this
    ·rw[all];exact this
    rw[yY,all_map,FU] at all;exact @of_decide_eq_true _ (D1 _) (all j (D7.mpr hj))
   rw[tK λz=>all ?_] at this
   ·rw[eq_false_iff.mpr all];exact this
   rw[yY,all_map,FU];intro j hj;exact @decide_eq_true _ (D1 _) ((iff.mp z).2 j (D7.mp hj))
  rw[decide_eq_false c,LJ,if_pos rfl];have:=q H (Same.refl _);rw[tK] at this
  ·exact this
  intro z;have:=(uh.mp z).1;omega
def M7(hB:∀x:Str,x∈BLs->mg x=IF)(CLeastsOfRuns:Cal P w K mg base "leasts_of_runs" 6 q7_ Hq)(F:Fun K "run_paper" "run_paper" dU f fd):c7 P w K mg base CX0 8 f fd q7_ Cd:=by
 refine F.okz oV λaw A outer s H vs Q E hr h=>?_;obtain⟨sa,wa,t,xs,ok,ss,ws,zs,rfl,es,ts,h1,df,ew,ee,h5,q⟩:=h;refine⟨_,(aD (oZ (bx CLeastsOfRuns (hr.mono δ) pZ Fg (ak (ao zN) (ak (ao Nv) (ak (ao Nu) aq)))) (gj (n:=2) Z (aV (dF Nt oV.nd (.inl Z)) (aV (dF Nr oV.nd (.inl Z)) dM))))
  (aD (aY zM oV.nd (bO cU GD (hB "len" iK) CA iQ (ak (ao zN) aq)) Z (.inl Z))
  (aN (aZ (cO (NX:=jH) (kX:=(aj dU).names) ["first","numbers","many"] [IF,ID 3,ID 5] Z Z ⟨rfl,ψ,ψ,ψ,ψ⟩ Z (iB Ba (hB "range" eO) (ak (ao zM) aq)) (λ_ _ _ _ _=>(bD 0 (show BH (["first","numbers","many"]:List Str) from by decide +kernel) Z (Or.inr Z))) (λ_ _ _ _ _=>eE) (λ_ _ _ _ _=>(cO (NX:=["first","numbers","many"]) (kX:=_) ["behind","numbers","first"] [IF,ID 1,ID 0] Z Z ⟨rfl,ψ,ψ,by (intro y hy hf;repeat (first|(rcases AX.mp hy with rfl|hy;(first|exact Or.inr rfl|exact C3 rfl|exact absurd hf δ))|exact absurd hy BB)),ψ⟩ Z (tZ Z (hB "range" eO) (ak (aL aW (bh 0) aA) (ak (aL aW (bh 2) aA) aq))) (λ_ _ _ _ _=>(bD 0 (show BH (["behind","numbers","first"]:List Str) from by decide +kernel) Z (C3 Z))) (λ_ _ _ _ _=>eE) (λ_ _ _ _ _=>(CK hr.m9 (bh 1) (cD (ak (bh 2) (ak (bh 0) aq))) (λ_ _=>rfl)))))))))),?_⟩
 have gu:=ts.length;rw[AG] at gu;refine aM λk hk=>?_;push_cast;refine⟨sa,wa,t,xs,ok,ss,ws,zs,rfl,es,ts,h1,df,ew,ee,h5,λr nd pd H1 m N T kn kp s1 er rt=>?_⟩;push_cast[er];subst hk;refine aM λk hk=>?_;have c6:=s1 _ _ es;push_cast[c6];subst hk;rw[gu];push_cast;refine fL λR hR=>?_;push_cast[sy];refine⟨ω,ω,?_⟩;have al:yr ss ws zs ss.length N:=λp h1 h2=>rt.lst p ⟨h1,h2⟩;obtain⟨n,hn⟩:∃n,n=ss.length:=⟨_,rfl⟩;rw[<- hn] at df al q hR |-;obtain⟨Pc,ai⟩:∃Pv:Nat->List V->L2.St->Hp->Prop,Pv=λ(i:Nat) ae τ H'=>∃(rs:List IN)(o0:Option V),Same H1 H'/\ae=rs.map AT/\rs.length=i/\(∀(j:Nat) a,rs[j]?=ID a->H1 a=IF/\H' a=ID (.lst ((iY n N j).map At)))/\τ=[o0,ID (.ref nd),ID (.int (n:Int))]:=⟨_,rfl⟩;refine KR (n:=n) hR (aQ ω) Pc (by rw[ai];exact⟨[],_,Same.refl _,rfl,rfl,(λj a h=>by cases h),rfl⟩) ?_ ?_ ?_
 ·intro i ae τ H2 pc;rw[ai] at pc;obtain⟨rs,_,_,rfl,hl,_⟩:=pc;rw[AG];omega
 ·intro i ae τ H2 hi pc;rw[ai] at pc;obtain⟨rs,o0,s2,rfl,hl,rb,rfl⟩:=pc;push_cast;refine fL λR2 hR2=>?_;push_cast[Io];refine⟨ω,?_⟩;rw[show((n:Int)+1-(0+(i:Int)+1)).toNat=n-i by omega];obtain⟨Pd,ik⟩:∃Pv:Nat->List V->L2.St->Hp->Prop,Pv=λ(j:Nat) ae τ H'=>∃(o0:Option V),Same H2 H'/\ae=((iY n N i).take j).map At/\τ=[o0,ID (.ref nd),ID (.int (0+(i:Int)))]:=⟨_,rfl⟩;refine KR (n:=n-i) hR2 (aQ ω) Pd (by rw[ik];exact⟨_,Same.refl _,rfl,rfl⟩) ?_ ?_ ?_
  ·intro j ae τ H3 qh;rw[ik] at qh;obtain⟨_,_,rfl,_⟩:=qh;rw[AG];exact Db _ _
  ·intro j ae τ H3 hj qh;rw[ik] at qh;obtain⟨Tl,s3,rfl,rfl⟩:=qh;have fN:=(rt.same s2).same s3;push_cast[rdA];refine⟨aQ δ,λp hp=>?_⟩;have s4:=au (o:=Do [At (0+(i:Int)),At (0+(i:Int)+1+(j:Int))]) hp;have e4:upd H3 p (Do [At (0+(i:Int)),At (0+(i:Int)+1+(j:Int))]) p=ID (.tup [At (i:Int),At ((i+1+j:Nat):Int)]):=by
    rw[aB,show(0:Int)+(i:Int)=(i:Int) by omega,show(i:Int)+1+(j:Int)=((i+1+j:Nat):Int) by omega]
   have oz:=fN.same s4;generalize upd H3 p (Do [At (0+(i:Int)),At (0+(i:Int)+1+(j:Int))])=H4 at s4 e4 oz |-;refine⟨nd,_,rfl,qt.k2 oz.en e4 (oz.num (i,i+1+j) ⟨by dsimp only;omega,by dsimp only;omega⟩),?_⟩;rw[ik];refine⟨_,s3.trans s4,?_,rfl⟩;rw[take_snoc (rA hj),Be];rfl
  intro ae τ H3 d qh hd;rw[ik] at qh;obtain⟨Tl,s3,rfl,rfl⟩:=qh;rw[EZ (by rw[iW];exact A3 _)];have s4:=au (o:=BY ((iY n N i).map At)) hd;rw[ai];have s24:=s3.trans s4;refine⟨rs++[d],_,s2.trans s24,by rw[Be];rfl,by rw[AQ,hl];rfl,λj a hj=>?_,rfl⟩;rcases Go j rs.length with c|c
  ·rw[FM c] at hj;obtain⟨g1,g2⟩:=rb j a hj;exact⟨g1,s24 _ _ g2⟩
  rw[DJ c] at hj;have:j-rs.length=0:=by
   have:=(AK.mp hj).1;rw[BS] at this;omega
  rw[this] at hj;cases hj;rw[show j=i by omega];exact⟨(s2.trans s3).none hd,aB⟩
 intro ae τ H2 d pc hd;rw[ai] at pc;obtain⟨rs,o0,s2,rfl,hl,rb,rfl⟩:=pc;have s3:=au (o:=BY (rs.map AT)) hd;subst hn;exact q d rs N _ ((s1.trans s2).trans s3) ((s1.trans s2).none hd) aB hl (λj a hj=>⟨s1.none (rb j a hj).1,s3 _ _ (rb j a hj).2⟩) al
def Wf(hB:∀x:Str,x∈BLs->mg x=IF)(CIsRunPaper:Cal P w K mg base "is_run_paper" 3 q15_ Yr)(CRunsOfRow:Cal P w K mg base "runs_of_row" 1 ["many"] Hf)(CBoundsOf:Cal P w K mg base "bounds_of" 1 q21_ VF)(CWaysOfRun:Cal P w K mg base "ways_of_run" 4 q10_ Js)(F:Fun K "shows_runs" "shows_runs" bY f fd):c7 P w K mg base CX0 6 f fd q12_ qT:=by
 refine F.okz lu λaw A outer s H vs Q E hr h=>?_;obtain⟨sa,wa,t,v,xs,ok,fi,ss,ws,zs,d,rfl,es,ts,h1,df,ew,ee,h5,wm,fr,td,q⟩:=h;refine⟨_,(aD (aY pQ lu.nd (bO cU Eh (hB "len" iK) CA iQ (ak (ao xu) aq)) Z (.inl Z))
  (aD (fu (rm (iH (bx CIsRunPaper (hr.mono δ) qJ Lg (ak (ao J6) (ak (ao pQ) aq))) (λ_=>rfl))) (aN (aZ jB)) cQ)
  (aD (aY pP lu.nd (bx CRunsOfRow (hr.mono δ) sU zY (ak (ao pQ) aq)) Z (.inl Z))
  (aD (Zk hr.cY (NX:=["stretches","weights","prices","thing","many","runs","numbers","run"]) (kX:=(aj bY).names) ["first","behind","thing"] [IF,IF,ID 3] pO lu.nd Z Z ⟨rfl,ψ,ψ,ψ,ψ⟩ Z (cJ (ao pP)) (λ_ _ _ _ _=>(gj (n:=2) Z (aV (bD 0 (show BH (["first","behind","thing"]:List Str) from by decide +kernel) Z (C3 Z)) (aV (bD 1 (show BH (["first","behind","thing"]:List Str) from by decide +kernel) Z (C3 Z)) dM)))) (λ_ _ _ _ _=>eE) (λ_ _ _ _ _=>(cD (ak (bh 0) (ak (bh 1) aq)))) (λ_ _ _ _ _=>(aU bK (aU bK (bh 2) (bh 0) (λ_ _=>rfl)) (aL eX (aL eX (bh 1) (bh 0)) aA) (λ_ _=>rfl))))
  (aD (gh BN Z (cJ (ao pP)) (dF pN lu.nd (.inl Z))
  (aN (fu (cB M4 (CK hr.m9 (ao pO) (ao pN) (λ_ _=>rfl)) (bO (zb Z) Eg (hB "min" Dw) boot_min Fd (ak (bx CBoundsOf (hr.mono δ) uF Fi (ak (bx CWaysOfRun (hr.mono δ) sS zX (ak (ao xu) (ak (ao J8) (ak (ao J7) (ak (ao pN) aq))))) (ak (ao pO) aq))) aq)) (bJ _)) (aN (aZ jB)) cQ)) (λ_=>rfl))
  (aN (aZ jB))))))),?_⟩
 have gu:=ts.length;rw[AG] at gu;refine aM λk hk=>?_;push_cast[es];rw[gu];subst hk;refine aM λk hk=>?_;push_cast;refine⟨v,ss.length,fi,d,rfl,df,fr,td,λH1 s1=>?_⟩;by_cases c:Vo ss.length d
 ·rw[O8 c];obtain⟨N,rfl⟩:=c;push_cast;subst hk;refine aM λk hk=>?_;push_cast;refine⟨ss.length,rfl,df,λr rs H2 s2 hr0 er tr=>?_⟩;have db:=s1.trans s2;have x3:=tr.length;rw[AG] at x3;have NG:=oY ss.length ss.length df;push_cast;subst hk;refine aM λk hk=>?_;refine aa6 λR hR=>?_;push_cast[er];have pE:=td.same db;obtain⟨Pc,ai⟩:∃Pv:Nat->uI->L2.St->Hp->Prop,Pv=λ(i:Nat) ae τ H'=>∃(o0 o1:Option V),Same H2 H'/\ae.length=i/\KAt ae H'/\Fo ae=vz N ((dZ ss.length ss.length).take i)/\τ=[o0,o1,ID v]:=⟨_,rfl⟩;refine aa5 hR (xs:=rs) (wH ω) Pc (by rw[ai];exact⟨_,_,Same.refl _,rfl,(λx h=>by cases h),rfl,rfl⟩) ?_ ?_ ?_
  ·intro i ae τ H3 pc;rw[ai] at pc;obtain⟨_,_,s3,hl,ka,_⟩:=pc;exact⟨le_of_eq hl,ka,SqL.of (s3 _ _ er)⟩
  ·intro i y ae τ H3 hy pc;rw[ai] at pc;obtain⟨o0,o1,s3,hl,ka,gV,rfl⟩:=pc;obtain⟨dd,hd,ow⟩:=(tr.same s3).get hy;rw[AM] at hd;obtain⟨⟨a,b⟩,hp,rfl⟩:=BM.mp hd;obtain⟨rp,rfl,kN⟩:=mG ow;dsimp only at kN;obtain⟨cK,gS⟩:=dh.mp (AY hp);dsimp only at cK gS;push_cast[kN];refine⟨aQ δ,λkb hkb=>?_⟩;have s4:=au (o:=Do [At (a:Int),At (b:Int)]) hkb;have e4:upd H3 kb (Do [At (a:Int),At (b:Int)]) kb=ID (.tup ((key2 (a:Int) (b:Int)).map kV)):=aB;have T1:KAt ae (upd H3 kb (Do [At (a:Int),At (b:Int)])):=λx hx=>s4 _ _ (ka x hx);generalize upd H3 kb (Do [At (a:Int),At (b:Int)])=H4 at s4 e4 T1 |-;obtain⟨pd,lP,ra,ns,rfl,ep,nK,OZ,wS⟩:=Br (pE.same (s3.trans s4)) cK gS;push_cast[ep,nK,OZ,wS];refine⟨key2 (a:Int) (b:Int),e4,T1,λx hx e=>?_,?_⟩
   ·have hm:(x.1,x.2.2)∈Fo ae:=Ch.mpr ⟨x,hx,rfl⟩;rw[gV] at hm;obtain⟨p,fE,pj⟩:=Ch.mp hm;have e5:key2 (p.1:Int) (p.2:Int)=key2 (a:Int) (b:Int):=(congrArg Prod.fst pj).trans e;have e6:=xM e5;have:p=(a,b):=Prod.ext (congrArg Prod.fst e6) (congrArg Prod.snd e6);subst this;have:=((Te (Hu ss.length) hp _).mp fE).2;unfold bfR at this;dsimp only at this;omega
   rw[ai];refine⟨_,_,s3.trans s4,by rw[AQ,hl];rfl,λx hx=>?_,?_,rfl⟩
   ·rcases BG.mp hx with hx|hx
    ·exact T1 x hx
    rw[AL.mp hx];exact e4
   unfold Fo at gV |-;rw[Be,gV,take_snoc hp];unfold vz;rw[Be];rfl
  intro ae τ H3 d3 pc hd3;rw[ai] at pc;obtain⟨o0,o1,s3,hl,ka,gV,rfl⟩:=pc;rw[x3,CM] at gV;rw[gV];have s4:=s3.trans (au (o:=DO (vz N (dZ ss.length ss.length))) hd3);have e4:upd H3 d3 (DO (vz N (dZ ss.length ss.length))) d3=ID (DO (vz N (dZ ss.length ss.length))):=aB;generalize upd H3 d3 (DO (vz N (dZ ss.length ss.length)))=H4 at s4 e4 |-;clear hR ai Pc gV ka;push_cast;subst hk;refine aM λk hk=>?_;refine jE λR hR=>?_;have er4:=s4 _ _ er;push_cast[er4];obtain⟨Pv,ap⟩:∃Pv:Nat->L2.St->Hp->Prop,Pv=λ(i:Nat) σ H'=>∃(o7:Option V),Same H4 H'/\yq ss ws zs N ((dZ ss.length ss.length).take i)/\σ=[ID (.ref sa),ID (.ref wa),ID (.ref t),ID v,ID (.int (ss.length:Int)),ID (.ref r),ID (.ref d3),o7]:=⟨_,rfl⟩;refine Ip hR (xs:=rs) Pv (by rw[ap];exact⟨_,Same.refl _,(λp h=>by cases h),rfl⟩) ?_ ?_ ?_
  ·intro i σ H5 _ pv;rw[ap] at pv;obtain⟨_,s5,_⟩:=pv;exact SqL.of (s5 _ _ er4)
  ·intro i y σ H5 hy pv;rw[ap] at pv;obtain⟨o7,s5,bl,rfl⟩:=pv;obtain⟨dd,hd,ow⟩:=(tr.same (s4.trans s5)).get hy;rw[AM] at hd;obtain⟨⟨a,b⟩,hp,rfl⟩:=BM.mp hd;obtain⟨rp,rfl,kN⟩:=mG ow;dsimp only at kN;have bo:=AY hp;obtain⟨cK,gS⟩:=dh.mp bo;dsimp only at cK gS;have ve:=db.trans (s4.trans s5);have e5:=s5 _ _ e4;push_cast;refine⟨d3,_,rfl,qt.k2 e5 kN (vg bo),?_⟩;refine⟨sa,wa,t,rp,a,b,xs,ok,ss,ws,zs,rfl,ve _ _ es,ts.same ve,df,ve _ _ ew,ee,⟨ve _ _ h5.1,h5.2⟩,kN,cK,gS,λwr ys W H6 s6 hwr XE hW WE tW fq=>?_⟩;push_cast;refine⟨N,wr,d3,_,ys,W,_,rfl,⟨XE,tW,ω,s6 _ _ e5,λx hx p fE=>?_,λx hx=>S6 ((hW x).mp hx)⟩,λbd H7 s7 hbd ebd=>?_⟩
   ·obtain⟨g1,g2,g3,g4⟩:=wU ((hW x).mp hx) p fE;exact vg (dh.mpr ⟨g2,ω⟩)
   push_cast;refine⟨_,.inl ebd,λz=>WE (L3.mp z),λM hM cf=>?_⟩;have Z':=s5.trans (s6.trans s7);split
   ·rename_i c;have:=q H7 (db.trans (s4.trans Z'));rw[tK] at this
    ·exact this
    intro z;obtain⟨w1,sD,rfl⟩:=Ch.mp hM;have:=oU.mp z a b cK gS w1 ((hW w1).mp sD);omega
   rename_i c;rw[ap];refine⟨_,Z',?_,rfl⟩;rw[take_snoc hp];refine bl.snoc λx hx=>?_;have:=cf _ (Fm ((hW x).mpr hx));dsimp only;omega
  intro σ H5 pv;rw[ap] at pv;obtain⟨o7,s5,bl,rfl⟩:=pv;rw[x3,CM] at bl;show k _ H5;subst hk;push_cast;have:=q H5 (db.trans (s4.trans s5));rw[O8 (oU.mpr (Ph.mp bl))] at this;exact this
 rw[tK c];push_cast;have:=q H1 s1;rw[tK] at this
 ·exact this
 rintro⟨N,e,_⟩;exact c ⟨N,e⟩
abbrev dO:List Str:=["_law_tape_here","_law_many","_law_low","_law_labels","_law_found","_law_k","_law_far","_law_wide","_law_label"]
abbrev bZ:Stmt:=top 31
def cN:bw dO q0_ (aj bZ):=⟨rfl,rfl,rfl,ψ,rfl,ψ,ψ⟩
def cH:NM_ dO bZ 0 "_law_tape_here":=.of ψ
def Gh:NM_ dO bZ 1 "_law_many":=.of ψ
def je:NM_ dO bZ 2 "_law_low":=.of ψ
def kO:NM_ dO bZ 3 "_law_labels":=.of ψ
def jd:NM_ dO bZ 4 "_law_found":=.of ψ
def Gg:NM_ dO bZ 5 "_law_k":=.of ψ
def uM:NM_ dO bZ 6 "_law_far":=.of ψ
def jc:NM_ dO bZ 7 "_law_wide":=.of ψ
def jb:NM_ dO bZ 8 "_law_label":=.of ψ
def bG:GI_ bZ "_law_take":=ψ
def Av:GI_ bZ "max":=ψ
def xT:GI_ bZ "range":=ψ
def K7:Bn "_law_stretches" := ⟨ψ,ψ⟩
theorem afE(hB:∀x:Str,x∈BLs->mg x=IF)(CZTake:Cal P w K mg base "_law_take" 2 q0_ (mH 2))(F:Fun K "_law_stretches" "_law_stretches" bZ f fd):c7 P w K mg base CX0 3 f fd q0_ Qj:=by
 refine F.okz cN λaw A outer s H vs Q E hr h=>?_;obtain⟨p,m,B,rfl,tp,kw,ja,mE,yv,q⟩:=h;refine⟨_,(aD (aY je cN.nd (aU bK (bI (ak aA (ak (aL eX (bx CZTake (hr.mono δ) bG cF (ak (ao cH) (ak aA aq))) aA) (ak (aL eX (bx CZTake (hr.mono δ) bG cF (ak (ao cH) (ak (aL vB aA aA) aq))) (aL vB aA aA)) (ak (aL eX aA (aL afy aA aA)) aq))))) (bx CZTake (hr.mono δ) bG cF (ak (ao cH) (ak aA aq))) (λ_ _=>rfl)) Z (.inl Z))
  (aD (aY kO cN.nd (aL aW aA (bx CZTake (hr.mono δ) bG cF (ak (ao cH) (ak aA aq)))) Z (.inl Z))
  (aD (aY jd cN.nd (bI aq) Z (.inl Z))
  (aD (gh BN Z (iB xT (hB "range" eO) (ak (ao Gh) aq)) (dF Gg cN.nd (.inl Z))
  (aD (aY uM cN.nd (aU bK (bI (ak (aL vB aA aA) (ak (aL vB aA aA) aq))) (bx CZTake (hr.mono δ) bG cF (ak (ao cH) (ak aA aq))) (λ_ _=>rfl)) Z (.inl Z))
  (aD (aY jc cN.nd (bI (ak aA (ak aA (ak aA (ak (aL aW aA (bx CZTake (hr.mono δ) bG cF (ak (ao cH) (ak aA aq)))) (ak (aL aW aA (bx CZTake (hr.mono δ) bG cF (ak (ao cH) (ak aA aq)))) (ak (aL aW aA (bx CZTake (hr.mono δ) bG cF (ak (ao cH) (ak (ao uM) aq)))) aq))))))) Z (.inl Z))
  (aD (aY jc cN.nd (aU bK (ao jc) (bO (Xe Z) Av (hB "max" afJ) boot_max agm (ak aA (ak (aL eX (bx CZTake (hr.mono δ) bG cF (ak (ao cH) (ak aA aq))) aA) aq))) (λ_ _=>rfl)) Z (.inl Z))
  (aD (aY jb cN.nd (bx CZTake (hr.mono δ) bG cF (ak (ao cH) (ak (ao kO) aq))) Z (.inl Z))
  (aD (fu (JS (JR (cB (QF hr.cY) (ao jd) (bI aq) (bJ _)) (Bp (cB (jL hr.cY) (aU bK (aU bK (ao jd) (HD vh aA) (λ_ _=>rfl)) aA (λ_ _=>rfl)) (ao jb) (bJ _))))) (aN (aY jb cN.nd (aL lM (aL aW (aL aW (ao jb) aA) (bx CZTake (hr.mono δ) bG cF (ak (ao cH) (ak (aL eX (ao kO) aA) aq)))) (ao kO)) Z (.inl Z))) cQ)
  (aD (jJ (m5 (ao jd) (cD (ak (ao je) (ak (aL eX (aL aW (ao je) (ao jc)) aA) (ak (ao jb) aq))))))
  (aN (aY je cN.nd (aL aW (ao je) (ao jc)) Z (.inl Z))))))))) (λ_=>rfl))
  (aN (aZ (ao jd))))))),?_⟩
 refine aM λk hk=>?_;push_cast;refine⟨p,100,B,rfl,tp,by show B+2<=1000100;omega,δ,δ,δ,λz=>absurd z δ,λr1 H1 r10 r11 s1 k9=>?_⟩;push_cast;refine⟨⟨δ,δ,δ⟩,?_⟩;refine⟨p,10^9,B+2,rfl,k9,by show B+2+2<=1000100;omega,δ,δ,δ,λz=>by decide,λr2 H2 r20 r21 s2 cz=>?_⟩;push_cast[Int.one_mul];refine⟨⟨δ,δ,δ⟩,?_⟩;refine⟨⟨δ,δ,δ⟩,aQ δ,λl0 hl0=>?_⟩;have s3:=au (o:=BY [At 0,At (r1-50),At (r2-10^B5 8),At (0-2^B5 39)]) hl0;have cw:=cz.same s3;have n3:=cz.ne hl0;have e3:upd H2 l0 (BY [At 0,At (r1-50),At (r2-10^B5 8),At (0-2^B5 39)]) l0=_:=aB;generalize upd H2 l0 (BY [At 0,At (r1-50),At (r2-10^B5 8),At (0-2^B5 39)])=H3 at s3 cw e3 |-;refine⟨p,4,B+2+2,rfl,cw,by show B+2+2+2<=1000100;omega,δ,δ,δ,λz=>absurd z δ,λr4 H4 r40 r41 s4 dk=>?_⟩;obtain⟨lo,VO,X0⟩:=rB (is:=[0,r1-50,r2-10^B5 8,0-2^B5 39]) r40 r41;replace X0:atI [At 0,At (r1-50),At (r2-10^B5 8),At (0-2^B5 39)] r4=ID (.int lo):=X0;have e4:=s4 _ _ n3 e3;have blo:-(10^12)<=lo/\lo<=10^9:=by
  simp only[AX,BB,or_false] at VO;have:(10:Int)^B5 8=100000000:=by decide
  have:(2:Int)^B5 39=549755813888:=by decide
  rcases VO with z|z|z|z <;> omega
 have iE:aR p H H4:=((s1.trans s2).trans s3.x).trans s4;push_cast[e4,X0];subst hk;refine aM λk hk=>?_;push_cast;refine⟨p,4,B+2+2+2,rfl,dk,by show B+2+2+2+2<=1000100;omega,δ,δ,δ,λz=>absurd z δ,λr5 H5 r50 r51 s5 fF=>?_⟩;push_cast;subst hk;refine aM λk hk=>?_;push_cast;refine⟨aQ δ,λl hl=>?_⟩;have kl:=iE.trans s5;have rj:l≠p:=fF.ne hl;have Hl:H l=IF:=(Eo kl fF hl).2;have s6:=au (o:=BY []) hl;have jv:=fF.same s6;have e6:upd H5 l (BY []) l=_:=aB;generalize upd H5 l (BY [])=H6 at s6 jv e6 |-;have u7:=kl.trans s6.x;subst hk;obtain⟨OD,RF⟩:∃OD:IN->Prop,OD=λa=>a≠p/\a≠l:=⟨_,rfl⟩;have kd:∀{H H':Hp},aR p H H'->∀a o,OD a->H a=ID o->OD a/\H' a=ID o:=λ{H H'} sx a o h e=>by
  refine⟨h,sx a o ?_ e⟩;rw[RF] at h;exact h.1
 refine aM λk hk=>?_;refine jE λR hR=>?_;push_cast[sy];refine⟨ω,ω,?_⟩;obtain⟨Pv,ap⟩:∃Pv:Nat->L2.St->Hp->Prop,Pv=λ(i:Nat) σ H'=>∃(xs:List V)(ss:List (Int×Int×Int)) (lo:Int) (o5 o6 o7 o8:Option V),aR p H H'/\aP H' p (B+8+18*(i:Int))/\H' l=ID (.lst xs)/\aF OD H' xs (ss.map stD)/\ss.length=i/\Py ss /\
  (∀s,ss[ss.length-1]?=ID s->lo=s.2.1+1)/\(∀s,ss[0]?=ID s->s.1<=10^9)/\-(10^12)<=lo/\lo<=10^9+(10^12+10)*(i:Int)/\σ=[ID (.ref p),ID (.int m),ID (.int lo),ID (.int (2+r5)),ID (.ref l),o5,o6,o7,o8]:=⟨_,rfl⟩
 refine zT hR Pv (by rw[ap];exact⟨[],[],lo,_,_,_,_,u7,jv.le (by show B+2+2+2+2<=B+8+18*((0:Nat):Int);omega),e6,.nil,rfl,Py.nil,λs h=>(by cases h),λs h=>(by cases h),blo.1,by show lo<=10^9+(10^12+10)*((0:Nat):Int);omega,rfl⟩) ?_ ?_
 ·intro i σ H7 hi pv;rw[ap] at pv;obtain⟨xs,ss,lo,o5,o6,o7,o8,ki,oq,e7,PM,vS,row,tf,mT,bl1,bl2,rfl⟩:=pv;have hi60:i<60:=ω;refine aM λk2 av=>?_;push_cast;refine⟨⟨δ,δ,δ⟩,⟨δ,δ,δ⟩,aQ δ,λl1 eM=>?_⟩;have s8:=au (o:=BY [At (10^B5 9),At (10^B5 12)]) eM;have Mn:=oq.same s8;have n8:=oq.ne eM;have e8:=s8 _ _ e7;have Zs:=PM.same s8;have e81:upd H7 l1 (BY [At (10^B5 9),At (10^B5 12)]) l1=_:=aB;generalize upd H7 l1 (BY [At (10^B5 9),At (10^B5 12)])=H8 at s8 Mn e8 Zs e81 |-;have sx8:=ki.trans s8.x;refine⟨p,2,B+8+18*(i:Int),rfl,Mn,by show B+8+18*(i:Int)+2<=1000100;omega,δ,δ,δ,λz=>absurd z δ,λr9 H9 r90 r91 s9 tp9=>?_⟩;obtain⟨far,OA,xB⟩:=rB (is:=[10^B5 9,10^B5 12]) r90 r91;replace xB:atI [At (10^B5 9),At (10^B5 12)] r9=ID (.int far):=xB;have e91:=s9 _ _ n8 e81;have e9:=s9 _ _ rj e8;have ts9:=Zs.keep (kd s9);have sx9:=sx8.trans s9;have bfar:10^9<=far/\far<=10^12:=by
   simp only[AX,BB,or_false] at OA;have:(10:Int)^B5 9=1000000000:=by decide
   have:(10:Int)^B5 12=1000000000000:=by decide
   rcases OA with z|z <;> omega
  push_cast[e91,xB];subst av;refine aM λk2 av=>?_;push_cast;refine⟨p,4,B+8+18*(i:Int)+2,rfl,tp9,by show B+8+18*(i:Int)+2+2<=1000100;omega,δ,δ,δ,λz=>absurd z δ,λu1 H10 u10 u11 dA Sz=>?_⟩;push_cast;refine⟨p,30,B+8+18*(i:Int)+2+2,rfl,Sz,by show B+8+18*(i:Int)+2+2+2<=1000100;omega,δ,δ,δ,λz=>absurd z δ,λu2 H11 u20 u21 eD eJ=>?_⟩;push_cast;refine⟨p,far,B+8+18*(i:Int)+2+2+2,rfl,eJ,by show B+8+18*(i:Int)+2+2+2+2<=1000100;omega,ω,ω,δ,λ_=>by decide,λu3 H12 u30 u31 db ix=>?_⟩;push_cast;refine⟨aQ δ,λl2 g9=>?_⟩;have R1:=db _ _ rj (eD _ _ rj (dA _ _ rj e9));have Sn:=((ts9.keep (kd dA)).keep (kd eD)).keep (kd db);have SI:=((sx9.trans dA).trans eD).trans db;have ly:=au (o:=BY [At 1,At 1,At 1,At (2+u1),At (2+u2),At (1+u3)]) g9;have k8:=ix.same ly;have n13:=ix.ne g9;have e13:=ly _ _ R1;have IS:=Sn.same ly;have PD:upd H12 l2 (BY [At 1,At 1,At 1,At (2+u1),At (2+u2),At (1+u3)]) l2=_:=aB;generalize upd H12 l2 (BY [At 1,At 1,At 1,At (2+u1),At (2+u2),At (1+u3)])=H13 at ly k8 e13 IS PD |-;have SH:=SI.trans ly.x;subst av;refine aM λk2 av=>?_;push_cast;refine⟨p,11,B+8+18*(i:Int)+2+2+2+2,rfl,k8,by show B+8+18*(i:Int)+2+2+2+2+2<=1000100;omega,δ,δ,δ,λz=>absurd z δ,λu4 H14 u40 u41 pS k7=>?_⟩;have e14:=pS _ _ rj e13;have Sm:=IS.keep (kd pS);have SG:=SH.trans pS;have YN:=pS _ _ n13 PD;have bu:0<=(if u4-5>0 then u4-5 else 0)/\(if u4-5>0 then u4-5 else 0)<6:=by split <;> omega
  obtain⟨dP,sw,n9⟩:=rB (is:=[1,1,1,2+u1,2+u2,1+u3]) bu.1 bu.2;replace n9:atI [At 1,At 1,At 1,At (2+u1),At (2+u2),At (1+u3)] (if u4-5>0 then u4-5 else 0)=ID (.int dP):=n9;have bwide:1<=dP/\dP<=10^12:=by
   simp only[AX,BB,or_false] at sw;rcases sw with z|z|z|z|z|z <;> omega
  push_cast[YN,n9];subst av;refine aM λk2 av=>?_;push_cast;refine⟨p,2+r5,B+8+18*(i:Int)+2+2+2+2+2,rfl,k7,by show B+8+18*(i:Int)+2+2+2+2+2+2<=1000100;omega,ω,ω,δ,λz=>absurd z ω,λlab H15 lab0 lab1 iO pz=>?_⟩;have PC:=iO _ _ rj e14;have Sl:=Sm.keep (kd iO);have SF:=SG.trans iO;push_cast;subst av;refine aM λk2 av=>?_;have aE:∀(b:Int) H16 o5 o6,0<=b->b<=9->aR p H H16->H16 l=ID (.lst xs)->aF OD H16 xs (ss.map stD)->aP H16 p (B+8+18*(i:Int)+14)->k2 [ID (.ref p),ID (.int m),ID (.int lo),ID (.int (2+r5)),ID (.ref l),o5,o6,ID (.int dP),ID (.int b)] H16:=by
   intro b H16 o5 o6 b0 b9 km kQ hG fg;subst av;refine aM λk3 rn=>?_;push_cast[kQ];refine⟨aQ δ,λt ht=>?_⟩;have hZ:=au (o:=Do [At lo,At (lo+dP-1),At b]) ht;have e17:=hZ _ _ kQ;have ir:=fg.same hZ;have uv:=hG.same hZ;have nt:t≠p:=fg.ne ht;have nl:t≠l:=(aH kQ ht).symm;have et:upd H16 t (Do [At lo,At (lo+dP-1),At b]) t=_:=aB;generalize upd H16 t (Do [At lo,At (lo+dP-1),At b])=H17 at hZ e17 ir uv et |-;have g7:=uv.length;rw[AG] at g7;push_cast[e17];refine⟨BA (show xs.length<1000000 by omega) (aQ (A3 _)),?_⟩;have lj:aR p H (upd H17 l (BY (xs++[AT t]))):=yH (km.trans hZ.x) Hl;have k6:aP (upd H17 l (BY (xs++[AT t]))) p (B+8+18*(i:Int)+14):=ir.upd rj;have Pt:upd H17 l (BY (xs++[AT t])) l=_:=aB;have kk:∀a o,OD a->H17 a=ID o->OD a/\upd H17 l (BY (xs++[AT t])) a=ID o:=λa o h e=>by
    refine⟨h,?_⟩;rw[RF] at h;rw[aO h.2];exact e
   have tt:aJ OD H17 (.ref t) (stD (lo,lo+dP-1,b)):=.tup (by rw[RF];exact⟨nt,nl⟩) et (by show 3<=1000000;decide) (.cons (.int _) (.cons (.int _) (.cons (.int _) .nil)));have G':=(uv.keep kk).append (.cons (tt.keep kk) .nil);generalize upd H17 l (BY (xs++[AT t]))=H18 at lj k6 Pt G' |-;subst rn;push_cast;rw[ap];refine⟨_,ss++[(lo,lo+dP-1,b)],lo+dP,_,_,_,_,lj,k6.le (by show B+8+18*(i:Int)+14<=B+8+18*((i+1:Nat):Int);omega),Pt,by rw[Be];exact G',by rw[AQ,BS,vS],row.snoc ω ⟨b0,b9⟩ ⟨bl1,by rw[vS];omega⟩ tf,λs hs=>?_,λs hs=>?_,ω,by show lo+dP<=10^9+(10^12+10)*((i+1:Nat):Int);omega,rfl⟩
   ·rw[AQ,BS,Nat.add_sub_cancel,DJ (A3 _),sub_self] at hs;cases hs;show lo+dP=lo+dP-1+1;omega
   cases ss with
   | nil=>
    cases hs;show lo<=10^9;have:i=0:=vS.symm;subst this;omega
   | cons s0 ss0=>exact mT s hs
  refine jY λkt ke hkt hke=>?_;push_cast;refine⟨aQ δ,λl3 hl3=>?_⟩;have lw:=au (o:=BY []) hl3;refine⟨_,_,xs,rfl,rfl,lw _ _ PC,aB,?_⟩;have kQ:=lw _ _ PC;have hG:=Sl.same lw;have km:=SF.trans lw.x;have fg:=pz.same lw;generalize upd H15 l3 (BY [])=H16 at lw kQ hG km fg |-;have g7:=hG.length;rw[AG] at g7;cases hx:xs.isEmpty with
  | true=>
   push_cast;subst hke;push_cast;exact aE lab H16 _ _ lab0 ω km kQ hG (fg.le (by show B+8+18*(i:Int)+2+2+2+2+2+2<=_;omega))
  | false=>
   have vT:1<=xs.length:=by
    cases xs with
    | nil=>cases hx
    | cons a b=>simp
   obtain⟨j,x,P8,UB⟩:=adA xs vT;obtain⟨ax,sx,rfl,okx,hsx,ex⟩:=hG.st P8;push_cast[kQ,UB,ex];split
   ·subst hkt;push_cast;refine⟨p,2+r5-1,B+8+18*(i:Int)+2+2+2+2+2+2,rfl,fg,by show B+8+18*(i:Int)+2+2+2+2+2+2+2<=1000100;omega,ω,ω,δ,λz=>absurd z ω,λu6 H17 u60 u61 hZ ir=>?_⟩;push_cast;refine⟨ω,?_⟩;have h1:=FV (lab+1+u6) (show(2+r5:Int)≠0 by omega);have h2:=ET (lab+1+u6) (show(0:Int)<2+r5 by omega);exact aE _ H17 _ _ h1 ω (km.trans hZ) (hZ _ _ rj kQ) (hG.keep (kd hZ)) (ir.le (by show B+8+18*(i:Int)+2+2+2+2+2+2+2<=_;omega))
   subst hke;push_cast;exact aE lab H16 _ _ lab0 ω km kQ hG (fg.le (by show B+8+18*(i:Int)+2+2+2+2+2+2<=_;omega))
 intro σ H7 pv;rw[ap] at pv;obtain⟨xs,ss,lo,o5,o6,o7,o8,ki,oq,e7,PM,vS,row,tf,mT,bl1,bl2,rfl⟩:=pv;show k _ _;subst hk;push_cast;have g7:=PM.length;rw[AG] at g7;refine q l ss H7 ki (oq.le ω) (.lst rj e7 ω (PM.keep λa o h e=>?_)) ω row mT;rw[RF] at h;exact⟨h.1,e⟩
abbrev tM:List Str:=["_law_tape_here","_law_many","_law_most"]
abbrev iV:Stmt:=top 33
def Hs:bw tM q0_ (aj iV):=⟨rfl,rfl,rfl,ψ,rfl,ψ,ψ⟩
def Q9:NM_ tM iV 0 "_law_tape_here":=.of ψ
def Q8:NM_ tM iV 1 "_law_many":=.of ψ
def Q7:NM_ tM iV 2 "_law_most":=.of ψ
def DW:GI_ iV "_law_take":=ψ
def DR:GI_ iV "range":=ψ
def DQ:GI_ iV "tuple":=ψ
def Xq:Bn "_law_prices" := ⟨ψ,ψ⟩
abbrev oG:List Str:=["_law_tape_here","_law_many","_law_most"]
abbrev iy:Stmt:=top 32
def Cq:bw oG q0_ (aj iy):=⟨rfl,rfl,rfl,ψ,rfl,ψ,ψ⟩
def Ni:NM_ oG iy 0 "_law_tape_here":=.of ψ
def Nh:NM_ oG iy 1 "_law_many":=.of ψ
def Ng:NM_ oG iy 2 "_law_most":=.of ψ
def Ar:GI_ iy "_law_take":=ψ
def Aq:GI_ iy "range":=ψ
def Sd:Bn "_law_weights" := ⟨ψ,ψ⟩
def Wh(hB:∀x:Str,x∈BLs->mg x=IF)(CZTake:Cal P w K mg base "_law_take" 2 q0_ (mH 2))(F:Fun K "_law_prices" "_law_prices" iV f fd):c7 P w K mg base CX0 3 f fd q0_ Ho:=by
 refine F.okz Hs λaw A outer s H vs Q E hr h=>?_;obtain⟨p,B,rfl,tp,kw,ja,q⟩:=h;refine⟨_,(aD (aY Q7 Hs.nd (aU bK (bI (ak aA (ak aA (ak aA aq)))) (bx CZTake (hr.mono δ) DW cF (ak (ao Q9) (ak aA aq))) (λ_ _=>rfl)) Z (.inl Z))
  (aN (aZ (mL gM DQ (hB "tuple" jh) F2 jj (ak (cO (NX:=tM) (kX:=(aj iV).names) ["_law_k","_law_tape_here","_law_most"] [IF,ID 0,ID 2] Z Z ⟨rfl,ψ,ψ,ψ,ψ⟩ Z (iB DR (hB "range" eO) (ak (ao Q8) aq)) (λ_ _ _ _ _=>(bD 0 (show BH (["_law_k","_law_tape_here","_law_most"]:List Str) from by decide +kernel) Z (C3 Z))) (λ_ _ _ _ _=>eE) (λ_ _ _ _ _=>(aL aW aA (bx CZTake (hr.mono δ) Z cF (ak (bh 1) (ak (bh 2) aq)))))) aq))))),?_⟩
 refine aM λk hk=>?_;push_cast;refine⟨aQ δ,λl0 hl0=>?_⟩;have s3:=au (o:=BY [At 1,At 5,At 99]) hl0;have cw:=tp.same s3;have n3:=tp.ne hl0;have e3:upd H l0 (BY [At 1,At 5,At 99]) l0=_:=aB;generalize upd H l0 (BY [At 1,At 5,At 99])=H3 at s3 cw e3 |-;refine⟨p,3,B,rfl,cw,by show B+2<=1000100;omega,δ,δ,δ,λz=>absurd z δ,λr4 H4 r40 r41 s4 dk=>?_⟩;obtain⟨mo,VE,xz⟩:=rB (is:=[1,5,99]) r40 r41;replace xz:atI [At 1,At 5,At 99] r4=ID (.int mo):=xz;have e4:=s4 _ _ n3 e3;have bmo:1<=mo/\mo<=99:=by
  simp only[AX,BB,or_false] at VE;omega
 push_cast[e4,xz];subst hk;push_cast;refine fL λR hR=>?_;push_cast[sy];refine⟨δ,δ,?_⟩;obtain⟨Pc,ai⟩:∃Pv:Nat->List V->L2.St->Hp->Prop,Pv=λ(i:Nat) ae τ H'=>∃(o0:Option V)(zs:List Int),aR p H4 H'/\aP H' p (B+2+2*(i:Int))/\ae=zs.map At/\zs.length=i/\(∀z∈zs,1<=z/\z<=99)/\τ=[o0,ID (.ref p),ID (.int mo)]:=⟨_,rfl⟩;refine KR hR (aQ δ) Pc (by rw[ai];exact⟨IF,[],aR.refl _ _,dk.le (by show B+2<=B+2+2*0;omega),rfl,rfl,λz hz=>absurd hz BB,rfl⟩) ?_ ?_ ?_
 ·intro i ae τ H5 pc;rw[ai] at pc;obtain⟨_,zs,_,_,rfl,h1,_⟩:=pc;rw[AG];omega
 ·intro i ae τ H5 hi pc;rw[ai] at pc;obtain⟨o0,zs,s5,fF,rfl,yy,wP,rfl⟩:=pc;push_cast;refine⟨p,mo,_,rfl,fF,by show B+2+2*(i:Int)+2<=1000100;omega,ω,ω,δ,λz=>absurd z ω,λr6 H6 r60 r61 s6 jv=>?_⟩;push_cast;rw[ai];refine⟨_,zs++[1+r6],s5.trans s6,jv.le (by show B+2+2*(i:Int)+2<=B+2+2*((i+1:Nat):Int);omega),by rw[Be];rfl,by rw[AQ,yy];rfl,λz hz=>?_,rfl⟩;rcases BG.mp hz with hz|hz
  ·exact wP z hz
  rw[AL.mp hz];omega
 intro ae τ H5 d pc hd;rw[ai] at pc;obtain⟨o0,zs,s5,fF,rfl,yy,wP,rfl⟩:=pc;have s6:=au (o:=BY (zs.map At)) hd;have jv:=fF.same s6;have u7:aR p H (upd H5 d (.lst (zs.map At))):=((s3.x.trans s4).trans s5).trans s6.x;refine⟨d,rfl,_,.inl ⟨SqL.of aB,λt ht=>?_⟩⟩;have s7:=au (o:=Do (zs.map At)) ht;obtain⟨n7,h7⟩:=Eo u7 jv ht;exact q _ zs _ (u7.trans s7.x) ((jv.same s7).le (by show B+2+2*(5:Int)<=B+20;omega)) n7 h7 aB yy wP
def QM(hB:∀x:Str,x∈BLs->mg x=IF)(CZTake:Cal P w K mg base "_law_take" 2 q0_ (mH 2))(F:Fun K "_law_weights" "_law_weights" iy f fd):c7 P w K mg base CX0 3 f fd q0_ G9:=by
 refine F.okz Cq λaw A outer s H vs Q E hr h=>?_;obtain⟨p,m,B,rfl,tp,kw,ja,hm60,q⟩:=h;refine⟨_,(aD (aY Ng Cq.nd (aU bK (bI (ak aA (ak aA (ak aA (ak (aL aW (aL vB aA aA) aA) aq))))) (bx CZTake (hr.mono δ) Ar cF (ak (ao Ni) (ak aA aq))) (λ_ _=>rfl)) Z (.inl Z))
  (aN (aZ (cO (NX:=oG) (kX:=(aj iy).names) ["_law_k","_law_tape_here","_law_most"] [IF,ID 0,ID 2] Z Z ⟨rfl,ψ,ψ,ψ,ψ⟩ Z (iB Aq (hB "range" eO) (ak (ao Nh) aq)) (λ_ _ _ _ _=>(bD 0 (show BH (["_law_k","_law_tape_here","_law_most"]:List Str) from by decide +kernel) Z (C3 Z))) (λ_ _ _ _ _=>eE) (λ_ _ _ _ _=>(bx CZTake (hr.mono δ) Z cF (ak (bh 1) (ak (bh 2) aq)))))))),?_⟩
 refine aM λk hk=>?_;push_cast;refine⟨⟨δ,δ,δ⟩,aQ δ,λl0 hl0=>?_⟩;have s3:=au (o:=BY [At 2,At 10,At 1000,At (10^B5 6+1)]) hl0;have cw:=tp.same s3;have n3:=tp.ne hl0;have e3:upd H l0 (BY [At 2,At 10,At 1000,At (10^B5 6+1)]) l0=_:=aB;generalize upd H l0 (BY [At 2,At 10,At 1000,At (10^B5 6+1)])=H3 at s3 cw e3 |-;refine⟨p,4,B,rfl,cw,by show B+2<=1000100;omega,δ,δ,δ,λz=>absurd z δ,λr4 H4 r40 r41 s4 dk=>?_⟩;obtain⟨mo,VE,xz⟩:=rB (is:=[2,10,1000,10^B5 6+1]) r40 r41;replace xz:atI [At 2,At 10,At 1000,At (10^B5 6+1)] r4=ID (.int mo):=xz;have e4:=s4 _ _ n3 e3;have bmo:2<=mo/\mo<=1000001:=by
  simp only[AX,BB,or_false] at VE;have:(10:Int)^B5 6=1000000:=by decide
  omega
 push_cast[e4,xz];subst hk;push_cast;refine fL λR hR=>?_;push_cast[sy];refine⟨ω,ω,?_⟩;obtain⟨Pc,ai⟩:∃Pv:Nat->List V->L2.St->Hp->Prop,Pv=λ(i:Nat) ae τ H'=>∃(o0:Option V)(zs:List Int),aR p H4 H'/\aP H' p (B+2+2*(i:Int))/\ae=zs.map At/\zs.length=i/\(∀z∈zs,0<=z/\z<=1000000)/\τ=[o0,ID (.ref p),ID (.int mo)]:=⟨_,rfl⟩;refine KR hR (aQ ω) Pc (by rw[ai];exact⟨IF,[],aR.refl _ _,dk.le (by show B+2<=B+2+2*0;omega),rfl,rfl,λz hz=>absurd hz BB,rfl⟩) ?_ ?_ ?_
 ·intro i ae τ H5 pc;rw[ai] at pc;obtain⟨_,zs,_,_,rfl,h1,_⟩:=pc;rw[AG];omega
 ·intro i ae τ H5 hi pc;rw[ai] at pc;obtain⟨o0,zs,s5,fF,rfl,yy,wP,rfl⟩:=pc;push_cast;refine⟨p,mo,_,rfl,fF,by show B+2+2*(i:Int)+2<=1000100;omega,ω,ω,δ,λz=>by decide,λr6 H6 r60 r61 s6 jv=>?_⟩;rw[ai];refine⟨_,zs++[r6],s5.trans s6,jv.le (by show B+2+2*(i:Int)+2<=B+2+2*((i+1:Nat):Int);omega),by rw[Be];rfl,by rw[AQ,yy];rfl,λz hz=>?_,rfl⟩;rcases BG.mp hz with hz|hz
  ·exact wP z hz
  rw[AL.mp hz];omega
 intro ae τ H5 d pc hd;rw[ai] at pc;obtain⟨o0,zs,s5,fF,rfl,yy,wP,rfl⟩:=pc;have s6:=au (o:=BY (zs.map At)) hd;have kl:aR p H H5:=(s3.x.trans s4).trans s5;obtain⟨n7,h7⟩:=Eo kl fF hd;exact q _ zs _ (kl.trans s6.x) ((fF.same s6).le ω) n7 h7 aB ω wP
abbrev dG:List Str:=["_law_stretches_here","_law_weights_here","_law_prices_here","_law_label","_law_tests","_law_low","_law_high","_law_one","_law_weight","_law_left","_law_total","_law_best","_law_test"]
abbrev cu:Stmt:=top 35
def dH:bw dG q4_ (aj cu):=⟨rfl,rfl,rfl,ψ,rfl,ψ,ψ⟩
def Nq:NM_ dG cu 0 "_law_stretches_here":=.of ψ
def zL:NM_ dG cu 1 "_law_weights_here":=.of ψ
def rT:NM_ dG cu 2 "_law_prices_here":=.of ψ
def Np:NM_ dG cu 3 "_law_label":=.of ψ
def jC:NM_ dG cu 4 "_law_tests":=.of ψ
def zK:NM_ dG cu 5 "_law_low":=.of ψ
def zJ:NM_ dG cu 6 "_law_high":=.of ψ
def zH:NM_ dG cu 7 "_law_one":=.of ψ
def zG:NM_ dG cu 8 "_law_weight":=.of ψ
def rR:NM_ dG cu 9 "_law_left":=.of ψ
def pD:NM_ dG cu 10 "_law_total":=.of ψ
def fB:NM_ dG cu 11 "_law_best":=.of ψ
def lV:NM_ dG cu 12 "_law_test":=.of ψ
def Gw:GI_ cu "min":=ψ
def Gu:GI_ cu "sum":=ψ
def Gs:GI_ cu "zip":=ψ
def Sh:Bn "_law_row_cost" := ⟨ψ,ψ⟩
theorem M6(hB:∀x:Str,x∈BLs->mg x=IF)(F:Fun K "_law_row_cost" "_law_row_cost" cu f fd):c7 P w K mg base CX0 2 f fd q4_ Ce:=by
 refine F.okz dH λaw A outer s H vs Q E hr h=>?_;obtain⟨sa,wa,t,xs,ok,ss,ws,zs,lab,rfl,es,ts,df,ew,ee,h5,q⟩:=h;refine⟨_,(aD (aY jC dH.nd (bI aq) Z (.inl Z))
  (aD (gh BN Z (acs Gs (hB "zip" aan) (ak (ao Nq) (ak (ao zL) aq))) (gj (n:=2) Z (aV (gj (n:=3) Z (aV (dF zK dH.nd (.inl Z)) (aV (dF zJ dH.nd (.inl Z)) (aV (dF zH dH.nd (.inl Z)) dM)))) (aV (dF zG dH.nd (.inl Z)) dM)))
  (aN (fu (cB (pA hr.cY) (ao zH) (ao Np) (bJ _)) (aN (jJ (m5 (ao jC) (cD (ak (ao zG) (ak (uK (cB (jL hr.cY) (ao zK) (ao zJ) (bJ _)) (bO (Ja Z) Gw (hB "min" Dw) boot_min Fd (ak (aU bK (ao rT) aA (λ_ _=>rfl)) (ak (aU bK (ao rT) aA (λ_ _=>rfl)) aq))) (aU bK (ao rT) aA (λ_ _=>rfl))) aq)))))) cQ)) (λ_=>rfl))
  (aD (Qw (i:=9) (j:=10) Z dH.nd Z Z δ Z Z (ak (bO (kh Z) Gu (hB "sum" vO) L1 vZ (ak (ao zL) aq)) (ak aA aq)) (by rfl))
  (aD (Zj BN (cB (QF hr.cY) (ao jC) (bI aq) (bJ _)) (aD (aY fB dH.nd (aU bK (ao jC) aA (λ_ _=>rfl)) Z (.inl Z))
  (aD (gh BN Z (cJ (ao jC)) (dF lV dH.nd (.inl Z))
  (aN (aY fB dH.nd (uK (cB M4 (aL dz (aU bK (ao lV) aA (λ_ _=>rfl)) (aU bK (ao fB) aA (λ_ _=>rfl))) (aL dz (aU bK (ao fB) aA (λ_ _=>rfl)) (aU bK (ao lV) aA (λ_ _=>rfl))) (bJ _)) (ao lV) (ao fB)) Z (.inl Z))) (λ_=>rfl))
  (aD (jJ (acy hr.un1 (ao jC) (ao fB)))
  (aD (aY pD dH.nd (aL aW (ao pD) (aL dz (ao rR) (aU bK (ao fB) aA (λ_ _=>rfl)))) Z (.inl Z))
  (aN (aY rR dH.nd (aL eX (ao rR) (aU bK (ao fB) aA (λ_ _=>rfl))) Z (.inl Z))))))))
  (aN (aZ (ao pD))))))),?_⟩
 have gu:=ts.length;rw[AG] at gu;refine aM λk hk=>?_;push_cast;refine⟨aQ δ,λd hd=>?_⟩;have s1:=au (o:=BY []) hd;have e1:upd H d (BY []) d=ID (BY []):=aB;change k _ (upd H d (BY []));generalize upd H d (BY [])=H1 at s1 e1 |-;subst hk;refine aM λk hk=>?_;refine jE λR hR=>?_;have c6:=s1 _ _ es;have zk:=s1 _ _ ew;push_cast[c6,zk];obtain⟨Pv,ap⟩:∃Pv:Nat->L2.St->Hp->Prop,Pv=λi σ H'=>∃(o5 o6 o7 o8:Option V)(ps:List IN),Same H H'/\PrL H' d ps (((BF i).filter λk=>lbl ss k≠lab).map (prK ss ws zs))/\σ=[ID (.ref sa),ID (.ref wa),ID (.ref t),ID (.int lab),ID (.ref d),o5,o6,o7,o8,IF,IF,IF,IF]:=⟨_,rfl⟩;refine ahd hR (xs:=xs) (ys:=ws.map At) (by rw[AG];omega) Pv (by rw[ap];exact⟨_,_,_,_,[],s1,⟨e1,λ_ h=>(nomatch h),rfl⟩,rfl⟩) ?_ ?_ ?_
 ·intro i σ H2 pv;rw[ap] at pv;obtain⟨_,_,_,_,_,s2,_⟩:=pv;exact⟨s2 _ _ es,s2 _ _ ew⟩
 ·intro i x y σ H2 p hx hy pv hp;rw[ap] at pv;obtain⟨o5,o6,o7,o8,ps,s2,pr,rfl⟩:=pv;have s3:=au (o:=Do [x,y]) hp;have e3:upd H2 p (Do [x,y]) p=_:=aB;have vj:=pr.same s3;generalize upd H2 p (Do [x,y])=H3 at s3 e3 vj |-;obtain⟨d2,dL,pE⟩:=(ts.same (s2.trans s3)).get hx;rw[AM] at dL;obtain⟨⟨lo,hi,b⟩,hs,rfl⟩:=BM.mp dL;obtain⟨q2,vs,rfl,xm,Sk⟩:=aJ.P0 pE;cases aF.ints (is:=[lo,hi,b]) Sk;have oS:i<ss.length:=(AK.mp hs).1;rw[AM] at hy;obtain⟨wt,hwt,rfl⟩:=BM.mp hy;have gz:fZ ss i=(lo,hi,b):=by unfold fZ;rw[AV,hs];rfl
  have UD:ws.getD i 0=wt:=by rw[AV,hwt];rfl
  push_cast[e3,xm];have hlb:lbl ss i=b:=by unfold lbl;rw[gz]
  have eP:(BF (i+1)).filter (λk=>decide (lbl ss k≠lab))=(BF i).filter (λk=>decide (lbl ss k≠lab))++(if b=lab then [] else [i]):=by
   rw[W0,hlb];by_cases c:b=lab
   ·rw[if_pos c,if_neg (by simpa using c)]
   rw[if_neg c,if_pos (by simpa using c)]
  have fin:¬b=lab->∀(c:Int),c=dg ss zs i->∀(p:IN),H3 p=IF->apq (upd H3 p (Do [At wt,.int c]) d) d (AT p) (upd H3 p (Do [At wt,.int c])) λx H1=>
          Pv (i+1)
           [ID (AT sa),ID (AT wa),ID (AT t),ID (At lab),ID (AT d),
            ID (At lo),ID (At hi),ID (At b),ID (At wt),IF,IF,IF,IF]
           H1:=λcb c hc p5 hp5=>by
   have s4:=au (o:=Do [At wt,.int c]) hp5;have e4:upd H3 p5 (Do [At wt,.int c]) p5=_:=aB;have gy:=vj.same s4;generalize upd H3 p5 (Do [At wt,.int c])=H4 at s4 e4 gy |-;have bz:ps.length<=i:=by
    have:=congrArg List.length gy.l;rw[AG,AG] at this;have h2:=Ll (λk=>decide (lbl ss k≠lab)) (BF i);rw[Cf] at h2;omega
   rw[gy.e,yo];refine⟨by rw[AG];exact wH ω,?_⟩;rw[ap];refine⟨_,_,_,_,ps++[p5],Mq ((s2.trans s3).trans s4) hd,?_,rfl⟩;rw[eP,if_neg cb,Be];have:=gy.push e4;rw[hc] at this;rw[show([i]:List Nat).map (prK ss ws zs)=[(wt,dg ss zs i)] by show [prK ss ws zs i]=_;unfold prK;rw[UD]];exact this
  by_cases c:b=lab
  ·rw[if_neg (by simpa using c),ap];refine⟨_,_,_,_,ps,s2.trans s3,?_,rfl⟩;rw[eP,if_pos c,D9];exact vj
  rw[if_pos (by simpa using c)];have r8:=(s2.trans s3) _ _ h5.1;have X9:=vj.e;have h5l:=h5.2.1;have z0:atI (zs.map At) 0=ID (.int (zs.getD 0 0)):=wz (i:=0) ω;have z1:atI (zs.map At) 1=ID (.int (zs.getD 1 0)):=wz (i:=1) ω;have hpr:dg ss zs i=if lo=hi then (if zs.getD 1 0<zs.getD 0 0 then zs.getD 1 0 else zs.getD 0 0) else zs.getD 1 0:=by
   unfold dg isT;rw[gz];by_cases c1:lo=hi
   ·by_cases c2:zs.getD 1 0<zs.getD 0 0
    ·simp only[c1,c2,if_pos,decide_true,Bool.true_and,decide_eq_true_eq];rw[if_neg ω]
    simp only[c1,c2,if_pos,decide_true,Bool.true_and,decide_eq_true_eq];rw[if_pos ω];rfl
   simp only[c1,decide_false,Bool.false_and];rfl
  push_cast[r8,z0,z1,X9];split
  ·rename_i c1;exact⟨aQ δ,λp5 hp5=>fin c _ (by rw[hpr,if_pos c1]) p5 hp5⟩
  rename_i c1;exact⟨aQ δ,λp5 hp5=>fin c _ (by rw[hpr,if_neg c1]) p5 hp5⟩
 intro σ H2 pv;rw[ap] at pv;obtain⟨o5,o6,o7,o8,ps,s2,pr,rfl⟩:=pv;rw[AG,ee] at pr;show k _ H2;clear ap Pv hR;subst hk;refine aM λk hk=>?_;have zg:=s2 _ _ ew;push_cast[zg];refine⟨ws,rfl,?_⟩;subst hk;refine aM λk hk=>?_;obtain⟨Pw,rV⟩:∃Pw:Nat->L2.St->Hp->Prop,Pw=λm σ H'=>∃(o5 o6 o7 o8 fA eI:Option V)(ps:List IN)(L dn:List (Int×Int)) (lb left:Int),m=ps.length/\Same H H'/\PrL H' d ps L/\(dn++L).Perm (oM ss ws zs lab)/\Fall dn/\(∀x∈dn,∀y∈L,y.1*x.2<=x.1*y.2)/\(∀r,gC ws.sum (dn++r)=lb+gC left r)/\σ=[ID (.ref sa),ID (.ref wa),ID (.ref t),ID (.int lab),ID (.ref d),o5,o6,o7,o8,ID (.int left),ID (.int lb),fA,eI]:=⟨_,rfl⟩;refine abK Pw ps.length (by rw[rV];exact⟨_,_,_,_,_,_,ps,_,[],0,ws.sum,rfl,s2,pr,.refl _,.nil,λ_ h=>(nomatch h),λr=>(Int.zero_add _).symm,rfl⟩) ?_;intro m σ H3 pw;rw[rV] at pw;obtain⟨o5,o6,o7,o8,fA,eI,ps,L,dn,lb,left,rfl,s3,vj,pm,fl,hfl,ND,rfl⟩:=pw;have X9:=vj.e;push_cast[X9];refine⟨aQ δ,λe0 he0=>?_⟩;have s4:=au (o:=BY []) he0;have e4:upd H3 e0 (BY []) e0=_:=aB;have gy:=vj.same s4;generalize upd H3 e0 (BY [])=H4 at s4 e4 gy |-;refine⟨d,e0,ps.map AT,rfl,rfl,gy.e,e4,_,rfl,?_⟩;rw[adG];have ar:=gy.len;have hTl:(oM ss ws zs lab).length<=60:=by
  unfold oM;rw[AG];have h2:=Ll (λk=>decide (lbl ss k≠lab)) (BF ss.length);rw[Cf] at h2;omega
 have hLl:L.length<=60:=by
  have:=pm.length_eq;rw[AQ] at this;omega
 cases ps with
 | nil=>
  have hL:L=[]:=by rw[<- gy.l];rfl
  subst hL;rw[if_neg ζ];subst hk;push_cast;have h0:=ND [];rw[D9] at h0 pm;rw[show lb=gC ws.sum dn by rw[h0];show _=lb+0;omega];exact q dn _ (s3.trans s4) fl pm
 | cons p0 ps=>
  rw[if_pos ζ];have hLm:∀x∈L,x∈oM ss ws zs lab:=λx hx=>pm.mem_iff.mp (AR _ hx);have im:∀p∈p0::ps,0<(gOf H4 p).2/\(gOf H4 p).2<=99:=λp hp=>Vv h5.2.1 h5.2.2 _ (hLm _ (by rw[<- gy.l];exact Fm hp));obtain⟨QN,hQN⟩:∃QN:L2.St->Hp->Prop,QN=λσ' H'=>∃m',m'<(p0::ps).length/\Pw m' σ' H':=⟨_,rfl⟩;refine⟨QN,λσ' H' h=>by rw[hQN] at h;exact h,?_⟩;have zr:=gy.e;have at0:atI ((p0::ps).map AT) 0=ID (.ref p0):=cG (j:=0) rfl;push_cast[zr,at0];refine jE λR hR=>?_;push_cast[zr];obtain⟨Px,ku⟩:∃Px:Nat->L2.St->Hp->Prop,Px=λi σ H'=>∃(eI:Option V)(qb:IN),H'=H4/\qb∈p0::ps/\(∀p∈(p0::ps).take i,(gOf H4 p).1*(gOf H4 qb).2<=(gOf H4 qb).1*(gOf H4 p).2)/\σ=[ID (.ref sa),ID (.ref wa),ID (.ref t),ID (.int lab),ID (.ref d),o5,o6,o7,o8,ID (.int left),ID (.int lb),ID (.ref qb),eI]:=⟨_,rfl⟩;refine Ip hR (xs:=(p0::ps).map AT) Px (by rw[ku];exact⟨_,p0,rfl,A5,λ_ h=>(nomatch h),rfl⟩) ?_ ?_ ?_
  ·intro i σ H' _ px;rw[ku] at px;obtain⟨_,_,rfl,_⟩:=px;exact SqL.of zr
  ·intro i x σ H' hx px;rw[ku] at px;obtain⟨eI,qb,rfl,sN,cf,rfl⟩:=px;rw[AM] at hx;obtain⟨p,hp,rfl⟩:=BM.mp hx;have ep:=gy.at' p (AY hp);have eb:=gy.at' qb sN;push_cast[ep,eb];have mm:=im p (AY hp);have WA:=im qb sN;refine⟨.inr ⟨ω,ω⟩,.inr ⟨ω,ω⟩,?_⟩;have sK:=take_snoc hp;split
   ·rename_i c;rw[ku];refine⟨_,p,rfl,AY hp,λp2 fb=>?_,rfl⟩;rw[sK] at fb;rcases BG.mp fb with z|z
    ·have h2:=im p2 (LD z);exact Mw (x:=gOf H' p2) (b:=gOf H' qb) (n:=gOf H' p) h2.1 WA.1 mm.1 (cf p2 z) (Int.le_of_lt c)
    rw[AL.mp z];exact GU _
   rename_i c;rw[ku];refine⟨_,qb,rfl,sN,λp2 fb=>?_,rfl⟩;rw[sK] at fb;rcases BG.mp fb with z|z
   ·exact cf p2 z
   rw[AL.mp z];exact not_lt.mp c
  intro σ H' px;rw[ku] at px;obtain⟨eI,qb,rfl,sN,cf,rfl⟩:=px;rw[AG,CM] at cf;have eb:=gy.at' qb sN;have WA:=im qb sN;clear ku Px hR;dsimp only;refine aM λk hk=>?_;push_cast[X6,V0,zr];refine⟨d,qb,p0::ps,gOf H',rfl,rfl,zr,sN,gy.at',ω,λj hj=>?_⟩;rw[gy.l] at hj;have QU:gOf H' qb∈L:=by rw[<- gy.l];exact Fm sN
  have VV:j<(p0::ps).length:=by rw[ar,<- hj];exact Ic QU
  have PZ:=gy.drop j hj;have sd:Same H (upd H' d (BY (((p0::ps).eraseIdx j).map AT))):=Mq (s3.trans s4) hd;have Pm:upd H' d (BY (((p0::ps).eraseIdx j).map AT)) qb=ID (Do [At (gOf H' qb).1,At (gOf H' qb).2]):=by rw[aO (Uv eb zr (λz=>by cases z))];exact eb
  have eQ:((p0::ps).eraseIdx j).length<(p0::ps).length:=by rw[KP,if_pos VV];exact Nat.sub_lt (Nat.succ_pos _) Nat.zero_lt_one
  have NW:∀y∈L,y.1*(gOf H' qb).2<=(gOf H' qb).1*y.2:=λy hy=>by
   rw[<- gy.l] at hy;obtain⟨p,hp,rfl⟩:=Ch.mp hy;exact cf p hp
  have pmL:=List.perm_cons_erase QU;generalize (p0::ps).eraseIdx j=qs at PZ sd Pm eQ |-;generalize gOf H' qb=bq at QU WA PZ Pm NW pmL |-;generalize upd H' d (BY (qs.map AT))=H5 at PZ sd Pm |-;subst hk;refine aM λk hk=>?_;push_cast[Pm];refine⟨.inr ⟨ω,ω⟩,?_⟩;subst hk;push_cast[Pm];rw[hQN];refine⟨qs.length,eQ,?_⟩;rw[rV];refine⟨_,_,_,_,_,_,qs,L.erase bq,dn++[bq],_,_,rfl,sd,PZ,?_,?_,?_,?_,rfl⟩
  ·rw[F5];exact(Ff.append_left dn pmL.symm).trans pm
  ·exact LL.mpr ⟨fl,Kt _ _,λx hx y hy=>by rw[AL.mp hy];exact hfl x hx _ QU⟩
  ·intro x hx y hy;have hyL:=List.mem_of_mem_erase hy;rcases BG.mp hx with z|z
   ·exact hfl x z y hyL
   rw[AL.mp z];exact NW y hyL
  intro r;rw[F5,ND];show lb+(left*bq.2+gC (left-bq.1) r)=_;omega
abbrev dW:List Str:=["_law_stretches_here","_law_weights_here","_law_prices_here","_law_begin","_law_end","_law_some","_law_heavy","_law_span","_law_labels","_law_costs","_law_label"]
abbrev bU:Stmt:=top 34
def jo:bw dW q1_ (aj bU):=⟨rfl,rfl,rfl,ψ,rfl,ψ,ψ⟩
def Nk:NM_ dW bU 0 "_law_stretches_here":=.of ψ
def zF:NM_ dW bU 1 "_law_weights_here":=.of ψ
def rQ:NM_ dW bU 2 "_law_prices_here":=.of ψ
def rO:NM_ dW bU 3 "_law_begin":=.of ψ
def rN:NM_ dW bU 4 "_law_end":=.of ψ
def lE:NM_ dW bU 5 "_law_some":=.of ψ
def zE:NM_ dW bU 6 "_law_heavy":=.of ψ
def zB:NM_ dW bU 7 "_law_span":=.of ψ
def rM:NM_ dW bU 8 "_law_labels":=.of ψ
def lD:NM_ dW bU 9 "_law_costs":=.of ψ
def wZ:NM_ dW bU 10 "_law_label":=.of ψ
def vV:GI_ bU "_law_row_cost":=ψ
def uX:GI_ bU "int":=ψ
def Gr:GI_ bU "len":=ψ
def Gq:GI_ bU "set":=ψ
def yQ:GI_ bU "sorted":=ψ
def Gp:GI_ bU "sum":=ψ
def Sg:Bn "_law_run_ways" := ⟨ψ,ψ⟩
def QV(hB:∀x:Str,x∈BLs->mg x=IF)(CZRowCost:Cal P w K mg base "_law_row_cost" 2 q4_ Ce)(F:Fun K "_law_run_ways" "_law_run_ways" bU f fd):c7 P w K mg base CX0 4 f fd q1_ Hi:=by
 refine F.okz jo λaw A outer s H vs Q E hr h=>?_;obtain⟨sa,wa,t,a,b,xs,ok,ss,ws,zs,rfl,es,ts,df,ew,ee,h5,cK,gS,q⟩:=h;refine⟨_,(aD (aY lE jo.nd (bQ qU (ao Nk) (bT (ao rO)) (bT (ao rN))) Z (.inl Z))
  (aD (Qw (i:=6) (j:=7) Z jo.nd Z Z δ Z Z (ak (bO (kh Z) Gp (hB "sum" vO) L1 vZ (ak (bQ qU (ao zF) (bT (ao rO)) (bT (ao rN))) aq)) (ak (aL aW (aL eX (aU bK (aU bK (ao lE) (HD vh aA) (λ_ _=>rfl)) aA (λ_ _=>rfl)) (aU bK (aU bK (ao lE) aA (λ_ _=>rfl)) aA (λ_ _=>rfl))) aA) aq)) (by rfl))
  (aD (aY rM jo.nd (Uc Z yQ (hB "sorted" ug) Gq (hB "set" aap) (ak (cO (NX:=dW) (kX:=(aj bU).names) ["_law_low","_law_high","_law_label"] [IF,IF,IF] Z Z ⟨rfl,ψ,ψ,ψ,ψ⟩ Z (cJ (ao lE)) (λ_ _ _ _ _=>(gj (n:=3) Z (aV (bD 0 (show BH (["_law_low","_law_high","_law_label"]:List Str) from by decide +kernel) Z (C3 Z)) (aV (bD 1 (show BH (["_law_low","_law_high","_law_label"]:List Str) from by decide +kernel) Z (C3 Z)) (aV (bD 2 (show BH (["_law_low","_law_high","_law_label"]:List Str) from by decide +kernel) Z (C3 Z)) dM))))) (λ_ _ _ _ _=>eE) (λ_ _ _ _ _=>(bh 2))) aq)) Z (.inl Z))
  (aD (aY lD jo.nd (aL dz (bI (ak (aL dz (ao zE) (aU bK (ao rQ) aA (λ_ _=>rfl))) aq)) (mL qj uX (hB "int" vP) L0 v7 (ak (rz MT (ao zB) aA (bJ _)) aq))) Z (.inl Z))
  (aD (aY lD jo.nd (aL aW (ao lD) (aL dz (bI (ak (aL dz (ao zE) (aU bK (ao rQ) aA (λ_ _=>rfl))) aq)) (mL qj uX (hB "int" vP) L0 v7 (ak (CN (rz MT (ao zB) aA (bJ _)) (CJ (rz (jL hr.cY) (bO cU Gr (hB "len" iK) CA iQ (ak (ao rM) aq)) aA (bJ _)))) aq)))) Z (.inl Z))
  (aD (gh BN Z (cJ (ao rM)) (dF wZ jo.nd (.inl Z))
  (aN (jJ (m5 (ao lD) (bx CZRowCost (hr.mono δ) vV Sh (ak (ao lE) (ak (bQ qU (ao zF) (bT (ao rO)) (bT (ao rN))) (ak (ao rQ) (ak (ao wZ) aq)))))))) (λ_=>rfl))
  (aN (aZ (ao lD))))))))),?_⟩
 have gu:=ts.length;rw[AG] at gu;obtain⟨ord,mv⟩:=afx (ss:=ss) (ws:=ws) (zs:=zs) (YF a b) λk hk=>by have:=fC.mp hk;omega
 refine aM λk hk=>?_;push_cast[es];refine λra UQ=>?_;rw[ahl ω ω];subst hk;obtain⟨ys,hys⟩:∃ys,ys=(xs.drop a).take (b-a):=⟨_,rfl⟩;have Si:aF ok H ys ((sls ss a b).map stD):=by rw[hys,<- abY];exact(ts.aer a).aeg (b-a)
 have vS:=wG (ss:=ss) (a:=a) gS;have fq:=Si.length;rw[AG,vS] at fq;rw[<- hys];have s1:=au (o:=BY ys) UQ;have e1:upd H ra (BY ys) ra=_:=aB;generalize upd H ra (BY ys)=H1 at s1 e1 |-;refine aM λk hk=>?_;have zk:=s1 _ _ ew;have zn:=s1 _ _ h5.1;have ul:=Si.same s1;have h0:(sls ss a b)[0]?=ID (fZ (sls ss a b) 0):=Jr ω;have hL:(sls ss a b)[b-a-1]?=ID (fZ (sls ss a b) (b-a-1)):=Jr ω;obtain⟨p0,x0,y0⟩:=ul.stN (k:=0) ω;obtain⟨pL,xL,yL⟩:=ul.stN (k:=b-a-1) ω;replace x0:atI ys 0=ID (.ref p0):=x0;have Zl:atI ys (-1)=ID (.ref pL):=by
  rw[abv ω,fq];exact xL
 push_cast[e1,zk,x0,y0,Zl,yL];refine λpw hpw=>⟨slc ws a b,KQ ws a b ω ω,?_⟩;rw[KQ ws a b ω ω];have s2:=au (o:=BY ((slc ws a b).map At)) hpw;have e2:=s2 _ _ e1;have Y':=s2 _ _ y0;have Y3:=s2 _ _ yL;generalize upd H1 pw (BY ((slc ws a b).map At))=H2 at s2 e2 Y' Y3 |-;push_cast[e2,x0,Y',Zl,Y3];rw[Yn cK gS];have UM:(slc ws a b).sum=sumK ws (rng a b):=Jv ω;rw[UM];subst hk;refine aM λk hk=>?_;have Sf:=ul.same s2;push_cast[tSS,e2];refine fL λR hR=>?_;push_cast[e2];obtain⟨Pc,ai⟩:∃Pv:Nat->List V->L2.St->Hp->Prop,Pv=λ(i:Nat) ae τ H'=>∃(o0 o1 o2:Option V),H'=H2/\ae=(((sls ss a b).take i).map (·.2.2)).map At/\τ=[o0,o1,o2]:=⟨_,rfl⟩;refine jz hR (xs:=ys) (aQ ω) Pc (by rw[ai];exact⟨_,_,_,rfl,rfl,rfl⟩) ?_ ?_ ?_ ?_
 ·intro i ae τ H3 pc;rw[ai] at pc;obtain⟨_,_,_,rfl,rfl,_⟩:=pc;rw[AG,AG];exact Db _ _
 ·intro i ae τ H3 pc;rw[ai] at pc;obtain⟨_,_,_,rfl,_⟩:=pc;exact SqL.of e2
 ·intro i y ae τ H3 hy pc;rw[ai] at pc;obtain⟨o0,o1,o2,rfl,rfl,rfl⟩:=pc;obtain⟨d2,dL,pE⟩:=Sf.get hy;rw[AM] at dL;obtain⟨⟨lo,hi,l⟩,hs,rfl⟩:=BM.mp dL;obtain⟨q2,vs,rfl,xm,Sk⟩:=aJ.P0 pE;cases aF.ints (is:=[lo,hi,l]) Sk;push_cast[xm];rw[ai];exact⟨_,_,_,rfl,by rw[take_snoc hs,Be,Be];rfl,rfl⟩
 intro ae τ H3 d2 pc dL;rw[ai] at pc;obtain⟨o0,o1,o2,rfl,rfl,rfl⟩:=pc;rw[show ys.length=(sls ss a b).length by omega,CM,aaw gS];have s3:=au (o:=BY (((rng a b).map (lbl ss)).map At)) dL;have e3:upd H3 d2 (BY (((rng a b).map (lbl ss)).map At)) d2=_:=aB;generalize upd H3 d2 (BY (((rng a b).map (lbl ss)).map At))=H4 at s3 e3 |-;refine⟨d2,rfl,(rng a b).map (lbl ss),SqL.of e3,by rw[AG,gP];omega,λp4 L hp4 perm yi=>?_⟩;have i5:=SRT.BK ((rng a b).map (lbl ss));rw[AG,gP] at i5;have bz:=perm.length_eq;have OQ:u9 ss (rng a b) L:=⟨Dy (yi ω) (perm.nodup_iff.mpr (SRT.yX _)),λl=>by
  rw[perm.mem_iff,SRT.Vc,Ch]⟩
 have hLl:L.length<=60:=ω;have s5:=s3.trans (au (o:=BY (L.map At)) hp4);have e5:upd H4 p4 (BY (L.map At)) p4=ID (BY (L.map At)):=aB;generalize upd H4 p4 (BY (L.map At))=H5 at s5 e5 |-;subst hk;refine aM λk hk=>?_;have et5:=(s2.trans s5) _ _ zn;have h5l:=h5.2.1;have z4:atI (zs.map At) 4=ID (.int (zs.getD 4 0)):=wz (i:=4) ω;have z3:atI (zs.map At) 3=ID (.int (zs.getD 3 0)):=wz (i:=3) ω;push_cast[et5,z4];have xa:∀i,i<5->1<=zs.getD i 0/\zs.getD i 0<=99:=λi hi=>by
  rw[AV,AC ω];exact h5.2.2 _ (EB _)
 have h4:=xa 4 δ;have h3:=xa 3 δ;refine⟨.inr ⟨ω,ω⟩,aQ δ,λp6 hp6=>?_⟩;rw[YQ];have s6:=s5.trans (au (o:=BY [At (sumK ws (rng a b)*zs.getD 4 0)]) hp6);have e56:=au (o:=BY [At (sumK ws (rng a b)*zs.getD 4 0)]) hp6 _ _ e5;generalize upd H5 p6 (BY [At (sumK ws (rng a b)*zs.getD 4 0)])=H6 at s6 e56 |-;obtain⟨o1,o2,o3⟩:=ZS (gG ss (rng a b)<=200);refine⟨o1,o2,o3,λp7 sP=>?_⟩;have hC1:=U5 (gG ss (rng a b)<=200) (sumK ws (rng a b)*zs.getD 4 0);obtain⟨C1,Pp⟩:∃C1,C1=(if gG ss (rng a b)<=200 then [sumK ws (rng a b)*zs.getD 4 0] else []):=⟨_,rfl⟩;rw[<- Pp] at hC1 |-;have s7:=s6.trans (au (o:=BY (C1.map At)) sP);have YI:=au (o:=BY (C1.map At)) sP _ _ e56;have e7:upd H6 p7 (BY (C1.map At)) p7=_:=aB;generalize upd H6 p7 (BY (C1.map At))=H7 at s7 YI e7 |-;subst hk;refine aM λk hk=>?_;have et7:=(s2.trans s7) _ _ zn;push_cast[et7,z3,YI,e7];refine⟨.inr ⟨ω,ω⟩,aQ δ,λp8 hp8=>?_⟩;have s8:=au (o:=BY [At (sumK ws (rng a b)*zs.getD 3 0)]) hp8;have e8:upd H7 p8 (BY [At (sumK ws (rng a b)*zs.getD 3 0)]) p8=ID (BY [At (sumK ws (rng a b)*zs.getD 3 0)]):=aB;have YE:=s8 _ _ YI;have e78:=s8 _ _ e7;generalize upd H7 p8 (BY [At (sumK ws (rng a b)*zs.getD 3 0)])=H8 at s8 e8 YE e78 |-;obtain⟨C2,xD⟩:∃C2,C2=(if gG ss (rng a b)<=64/\L.length=2 then [sumK ws (rng a b)*zs.getD 3 0] else []):=⟨_,rfl⟩;have hC2:=U5 (gG ss (rng a b)<=64/\L.length=2) (sumK ws (rng a b)*zs.getD 3 0);rw[<- xD] at hC2;have fin:∀p9,H8 p9=IF->adq (upd H8 p9 (BY (C2.map At)) p7) (ID (BY (C2.map At))) (upd H8 p9 (BY (C2.map At))) λx H1=>
          k
           [ID (AT sa),ID (AT wa),ID (AT t),ID (At ↑a),ID (At ↑b),
            ID (AT ra),ID (At (sumK ws (rng a b))),ID (At (gG ss (rng a b))),
            ID (AT p4),ID x,IF]
           H1:=λp9 mm=>by
  have s9:=au (o:=BY (C2.map At)) mm;rw[s9 _ _ e78];have SW:=s7.trans (s8.trans s9);have e59:=s9 _ _ YE;rw[SJ,AG,AG,<- Be];refine⟨aQ ω,λd hd=>?_⟩;clear ai Pc hR;have tw:=(s1.trans (s2.trans SW)).none hd;have kM:p4≠d:=aH e59 hd;have UQ:ra≠d:=aH ((s2.trans SW) _ _ e1) hd;have sA:=SW.trans (au (o:=BY ((C1++C2).map At)) hd);have YA:=au (o:=BY ((C1++C2).map At)) hd _ _ e59;have edA:upd (upd H8 p9 (BY (C2.map At))) d (BY ((C1++C2).map At)) d=_:=aB;generalize upd (upd H8 p9 (BY (C2.map At))) d (BY ((C1++C2).map At))=HA at sA YA edA |-;have hdA:∀{x o},H x=ID o->x≠d:=λe=>aH e tw;subst hk;refine aM λk hk=>?_;refine jE λR hR=>?_;push_cast[YA];obtain⟨Pv,ap⟩:∃Pv:Nat->L2.St->Hp->Prop,Pv=λi σ H'=>∃(g6:Option V),(∀x o,x≠d->HA x=ID o->H' x=ID o)/\H' d=ID (.lst ((C1++C2++(L.take i).map λlab=>jR ss ws zs (sumK ws (rng a b)) ord lab).map At))/\σ=[ID (.ref sa),ID (.ref wa),ID (.ref t),ID (.int (a:Int)),ID (.int (b:Int)),ID (.ref ra),ID (.int (sumK ws (rng a b))),ID (.int (gG ss (rng a b))),ID (.ref p4),ID (.ref d),g6]:=⟨_,rfl⟩;have s0A:Same H HA:=s1.trans (s2.trans sA);refine Ip hR (xs:=L.map At) Pv (by rw[ap];exact⟨_,λ_ _ _ e=>e,by rw[take_zero,map_nil,D9];exact edA,rfl⟩) ?_ ?_ ?_
  ·intro i σ H' _ pv;rw[ap] at pv;obtain⟨_,s',_⟩:=pv;exact SqL.of (s' _ _ kM YA)
  ·intro i y σ H' hy pv;rw[ap] at pv;obtain⟨g6,s',zw,rfl⟩:=pv;have oS:=(AK.mp hy).1;rw[AG] at oS;rw[AM] at hy;obtain⟨lab,i4,rfl⟩:=BM.mp hy;have SY:∀{x:IN}{o:HO},H x=ID o->H' x=ID o:=λe=>s' _ _ (hdA e) (s0A _ _ e);have ew':=SY ew;push_cast[zw,ew'];refine λpw hpw=>?_;rw[KQ ws a b ω ω];have gc:=au (o:=BY ((slc ws a b).map At)) hpw;have epw:upd H' pw (BY ((slc ws a b).map At)) pw=_:=aB;have OZ:=gc _ _ (s' _ _ UQ ((s2.trans sA) _ _ e1));have edd:=gc _ _ zw;have tra:aF (λ_=>True) (upd H' pw (BY ((slc ws a b).map At))) ys ((sls ss a b).map stD):=Si.keep λx o _ e=>⟨trivial,gc _ _ (SY e)⟩;refine⟨ra,pw,t,ys,λ_=>True,sls ss a b,slc ws a b,zs,lab,rfl,OZ,tra,ω,epw,?_,⟨gc _ _ (SY h5.1),h5.2⟩,λl H2' s2' fl pl=>?_⟩
   ·rw[wG gS];unfold slc;rw[EN,FO];omega
   rw[YB df gS ee (xa 0 δ).1 (xa 1 δ).1 mv fl pl];show apq (H2' d) d _ H2' _;rw[s2' _ _ edd,yo];refine⟨?_,?_⟩
   ·rw[AG,AQ,AQ,AG];have:=Db i L;exact wH ω
   rw[ap];refine⟨_,λx o hx e=>by rw[aO hx];exact s2' _ _ (gc _ _ (s' _ _ hx e)),?_,rfl⟩;rw[aB,take_snoc i4,Be (f:=λlab=>jR ss ws zs (sumK ws (rng a b)) ord lab),<- F5,Be (l₂:=IB _ [lab])];rfl
  intro σ H' pv;rw[ap] at pv;obtain⟨g6,s',zw,rfl⟩:=pv;rw[AG,CM] at zw;clear ap Pv hR;show k _ H';subst hk;push_cast;have Wp:Ey ss ws zs a b ord L=C1++C2++L.map λlab=>jR ss ws zs (sumK ws (rng a b)) ord lab:=by rw[Pp,xD];rfl
  rw[<- Wp] at zw;have hlc:(Ey ss ws zs a b ord L).length<=62:=by
   rw[Wp,AQ,AQ,AG];omega
  have eM:=(OQ.2 (lbl ss a)).mpr ⟨a,fC.mpr ⟨A3 _,cK⟩,rfl⟩;refine q d _ H' (λx o e=>s' _ _ (hdA e) (s0A _ _ e)) tw zw ω (λz=>?_) λc=>Rt OQ mv c;rw[Wp] at z;have:=(List.append_eq_nil_iff.mp z).2;rw[L3.mp this] at eM;cases eM
 split
 ·rename_i c1;push_cast[YE];have hz:(if ((L.map At).length:Int)=2 then 1 else 0:Int)=if L.length=2 then 1 else 0:=by
   rw[AG];by_cases c2:L.length=2
   ·rw[if_pos c2,if_pos ω]
   rw[if_neg c2,if_neg ω]
  rw[hz];have WP:C2=if L.length=2 then [sumK ws (rng a b)*zs.getD 3 0] else []:=by
   rw[xD];by_cases c2:L.length=2
   ·rw[if_pos c2,if_pos ⟨c1,c2⟩]
   rw[if_neg c2,if_neg λz=>c2 z.2]
  push_cast[e8];obtain⟨g1,g2,g3⟩:=ZS (L.length=2);refine⟨g1,g2,g3,λp9 mm=>?_⟩;rw[YQ,<- WP];have:=fin p9 mm;push_cast;exact this
 rename_i c1;have e0:C2=[]:=by rw[xD,if_neg λz=>c1 z.1]
 refine⟨δ,δ,aQ δ,λp9 mm=>?_⟩;have:=fin p9 mm;rw[e0] at this;exact this
abbrev b8:List Str:=["_law_stretches_here","_law_weights_here","_law_prices_here","_law_thing","_law_many","_law_begin","_law_row","_law_end","_law_number","_law_most","_law_base","_law_k","_law_sides"]
abbrev aX:Stmt:=top 36
def cI:bw b8 q5_ (aj aX):=⟨rfl,rfl,rfl,ψ,rfl,ψ,ψ⟩
def uR:NM_ b8 aX 0 "_law_stretches_here":=.of ψ
def uQ:NM_ b8 aX 1 "_law_weights_here":=.of ψ
def uO:NM_ b8 aX 2 "_law_prices_here":=.of ψ
def gK:NM_ b8 aX 3 "_law_thing":=.of ψ
def jf:NM_ b8 aX 4 "_law_many":=.of ψ
def cj:NM_ b8 aX 5 "_law_begin":=.of ψ
def kY:NM_ b8 aX 6 "_law_row":=.of ψ
def fK:NM_ b8 aX 7 "_law_end":=.of ψ
def uN:NM_ b8 aX 8 "_law_number":=.of ψ
def kW:NM_ b8 aX 9 "_law_most":=.of ψ
def rK:NM_ b8 aX 10 "_law_base":=.of ψ
def jN:NM_ b8 aX 11 "_law_k":=.of ψ
def rJ:NM_ b8 aX 12 "_law_sides":=.of ψ
def sI:GI_ aX "_law_run_ways":=ψ
def Ax:GI_ aX "any":=ψ
def qG:GI_ aX "enumerate":=ψ
def jQ:GI_ aX "isinstance":=ψ
def lR:GI_ aX "len":=ψ
def oA:GI_ aX "list":=ψ
def Aw:GI_ aX "min":=ψ
def jP:GI_ aX "range":=ψ
def qz:GI_ aX "sum":=ψ
def K8:Bn "_law_shows_runs" := ⟨ψ,ψ⟩
theorem QL(hB:∀x:Str,x∈BLs->mg x=IF)(CZRunWays:Cal P w K mg base "_law_run_ways" 4 q1_ Hi)(F:Fun K "_law_shows_runs" "_law_shows_runs" aX f fd):c7 P w K mg base CX0 6 f fd q5_ qT:=by
 refine F.okz cI λaw A outer s H vs Q E hr h=>?_;obtain⟨sa,wa,t,v,xs,ok,fi,ss,ws,zs,d,rfl,es,ts,h1,df,ew,ee,h5,wm,fr,td,q⟩:=h;refine⟨_,(aD (aY jf cI.nd (bO cU lR (hB "len" iK) CA iQ (ak (ao uR) aq)) Z (.inl Z))
  (aD (fu (JS (Hz (rm (iH (bO dj jQ (hB "isinstance" bA) B7 bB (ak (ao gK) (ak (jK "list" oA (hB "list" jO) F6 kZ) aq))) (λ_=>rfl))) (Cz (cB (pA hr.cY) (bO cU lR (hB "len" iK) CA iQ (ak (ao gK) aq)) (ao jf) (bJ _))))) (aN (aZ jB)) cQ)
  (aD (gh BN Z (CG qG (hB "enumerate" pW) (ak (ao gK) aq)) (gj (n:=2) Z (aV (dF cj cI.nd (.inl Z)) (aV (dF kY cI.nd (.inl Z)) dM)))
  (aD (fu (JS (Hz (rm (iH (bO dj jQ (hB "isinstance" bA) B7 bB (ak (ao kY) (ak (jK "list" oA (hB "list" jO) F6 kZ) aq))) (λ_=>rfl))) (Cz (cB (pA hr.cY) (bO cU lR (hB "len" iK) CA iQ (ak (ao kY) aq)) (aL eX (ao jf) (ao cj)) (bJ _))))) (aN (aZ jB)) cQ)
  (aN (fu (iH (bO (Xl Z) Ax (hB "any" afK) PyProof.Rows.Boot.«any» agn (ak (cO (NX:=b8) (kX:=(aj aX).names) ["_law_one"] [IF] Z Z ⟨rfl,ψ,ψ,ψ,ψ⟩ Z (cJ (ao kY)) (λ_ _ _ _ _=>(bD 0 (show BH (["_law_one"]:List Str) from by decide +kernel) Z (C3 Z))) (λ_ _ _ _ _=>eE) (λ_ _ _ _ _=>(agP (bO dj Z (hB "isinstance" bA) B7 bB (ak (bh 0) (ak (jK "bool" Z (hB "bool" xJ) boot_bool yh) aq))) (CJ (Zo (bO dj Z (hB "isinstance" bA) B7 bB (ak (bh 0) (ak (jK "int" Z (hB "int" vP) L0 v7) aq)))))))) aq)) (λ_=>rfl)) (aN (aZ jB)) cQ))) (λ_=>rfl))
  (aD (gh BN Z (iB jP (hB "range" eO) (ak (ao jf) aq)) (dF cj cI.nd (.inl Z))
  (aN (gh BN Z (tZ jP (hB "range" eO) (ak (aL aW (ao cj) aA) (ak (aL aW (ao jf) aA) aq))) (dF fK cI.nd (.inl Z))
  (aD (aY uN cI.nd (aU bK (aU bK (ao gK) (ao cj) (λ_ _=>rfl)) (aL eX (aL eX (ao fK) (ao cj)) aA) (λ_ _=>rfl)) Z (.inl Z))
  (aD (aY kW cI.nd (bI (ak aA aq)) Z (.inl Z))
  (aD (fu (cB M4 (ao fK) (aL aW (ao cj) aA) (bJ _)) (aD (aY kW cI.nd (bx CZRunWays (hr.mono δ) sI Sg (ak (ao uR) (ak (ao uQ) (ak (ao uO) (ak (ao cj) (ak (ao fK) aq)))))) Z (.inl Z))
  (aD (aY rK cI.nd (aL dz (aU bK (ao uO) aA (λ_ _=>rfl)) (bO (kh Z) qz (hB "sum" vO) L1 vZ (ak (bQ qU (ao uQ) (bT (ao cj)) (bT (ao fK))) aq))) Z (.inl Z))
  (aN (gh BN Z (tZ jP (hB "range" eO) (ak (aL aW (ao cj) aA) (ak (ao fK) aq))) (dF jN cI.nd (.inl Z))
  (aD (aY rJ cI.nd (bI (ak (aU bK (aU bK (ao gK) (ao cj) (λ_ _=>rfl)) (aL eX (aL eX (ao jN) (ao cj)) aA) (λ_ _=>rfl)) (ak (aU bK (aU bK (ao gK) (ao jN) (λ_ _=>rfl)) (aL eX (aL eX (ao fK) (ao jN)) aA) (λ_ _=>rfl)) aq))) Z (.inl Z))
  (aN (jJ (m5 (ao kW) (aL aW (ao rK) (bO (kh Z) qz (hB "sum" vO) L1 vZ (ak (ao rJ) aq))))))) (λ_=>rfl))))) cQ)
  (aN (fu (cB M4 (ao uN) (bO (zb Z) Aw (hB "min" Dw) boot_min Fd (ak (ao kW) aq)) (bJ _)) (aN (aZ jB)) cQ))))) (λ_=>rfl))) (λ_=>rfl))
  (aN (aZ jB)))))),?_⟩
 have gu:=ts.length;rw[AG] at gu;refine aM λk hk=>?_;push_cast[es];rw[gu];subst hk;have no:∀H',Same H H'->¬Vo ss.length d->Q (.bl false) H':=λH' s' h=>by
  have:=q H' s';rw[tK] at this
  ·exact this
  rintro⟨N,e,_⟩;exact h ⟨N,e⟩
 have Nl:(∀ds,d≠.list ds)->Q (.bl false) H:=λh=>no H (Same.refl _) λ⟨N,e⟩=>h _ e;obtain⟨n,hn⟩:∃n,n=ss.length:=⟨_,rfl⟩;rw[<- hn] at h1 df ee no q |-;refine aM λk hk=>?_;have PQ:=td;cases td with
 | non=>push_cast;exact Nl (λds z=>by cases z)
 | bl b=>push_cast;exact Nl (λds z=>by cases z)
 | int i=>push_cast;exact Nl (λds z=>by cases z)
 | str x=>push_cast;exact Nl (λds z=>by cases z)
 | tup o e z t=>push_cast[e];exact Nl (λds z=>by cases z)
 | lst o e z tt=>
  rename_i pd lP ds;have hl:=tt.length;push_cast[e];by_cases c:(lP.length:Int)=(n:Int)
  ·rw[decide_eq_true c,Mk,if_neg δ];have VQ:ds.length=n:=ω;subst hk;have iff:=uh (n:=n) (ds:=ds);refine aM λk hk=>?_;refine jE λR hR=>?_;push_cast[um,Bx,e,Km];obtain⟨Pv,ap⟩:∃Pv:Nat->L2.St->Hp->Prop,Pv=λ(i:Nat) σ H'=>∃(o5 o6:Option V),Same H H'/\(∀j,j<i->∃M,Fv (n-j) (ds.getD j .none) M)/\σ=[ID (.ref sa),ID (.ref wa),ID (.ref t),ID (.ref pd),ID (.int (n:Int)),o5,o6,IF,IF,IF,IF,IF,IF]:=⟨_,rfl⟩;refine ahg hR (xs:=lP) Pv (by rw[ap];exact⟨_,_,Same.refl _,(λj h=>absurd h (LF _)),rfl⟩) ?_ ?_ ?_
   ·intro i σ H2 pv;rw[ap] at pv;obtain⟨_,_,s2,_⟩:=pv;exact s2 _ _ e
   ·intro i y σ H2 p2 hy pv fb;rw[ap] at pv;obtain⟨o5,o6,s2,bP,rfl⟩:=pv;have hi:=(AK.mp hy).1;obtain⟨dd,hd,ow⟩:=(tt.same s2).get hy;have Oy:ds.getD i .none=dd:=by rw[AV,hd];rfl
    have s3:=au (o:=Do [At (i:Nat),y]) fb;have e3:upd H2 p2 (Do [At (i:Nat),y]) p2=_:=aB;have ME:=ow.same s3;have lr:=s2.trans s3;generalize upd H2 p2 (Do [At (i:Nat),y])=H3 at s3 e3 ME lr |-;have YU:∀H',Same H3 H'->(¬ ∃M,Fv (n-i) dd M)->Q (.bl false) H':=λH' s' h=>no H' (lr.trans s') λz=>h (Oy ▸ (iff.mp z).2 i ω);have on:(∀es,dd≠.list es)->Q (.bl false) H3:=λh=>YU H3 (Same.refl _) λ⟨M,z,_⟩=>h _ z;push_cast[e3];cases ME with
    | non=>push_cast;exact on (λds z=>by cases z)
    | bl b=>push_cast;exact on (λds z=>by cases z)
    | int i=>push_cast;exact on (λds z=>by cases z)
    | str x=>push_cast;exact on (λds z=>by cases z)
    | tup o' e' z' t'=>push_cast[e'];exact on (λds z=>by cases z)
    | lst o' e' z' t'=>
     rename_i ra ys dt;have fq:=t'.length;push_cast[e'];by_cases c2:(ys.length:Int)=(n:Int)-(i:Int)
     ·rw[decide_eq_true c2,Mk,if_neg δ];refine fL λR2 hR2=>?_;push_cast[e'];obtain⟨Pc,ai⟩:∃Pv:Nat->List V->L2.St->Hp->Prop,Pv=λ(j:Nat) ae τ H'=>∃(o0:Option V),Same H3 H'/\ae=((dt.take j).map λd=>!fX d).map As/\τ=[o0]:=⟨_,rfl⟩;refine jz hR2 (xs:=ys) (aQ ω) Pc (by rw[ai];exact⟨_,Same.refl _,rfl,rfl⟩) ?_ ?_ ?_ ?_
      ·intro j ae τ H4 pc;rw[ai] at pc;obtain⟨_,_,rfl,_⟩:=pc;rw[AG,AG];exact Db _ _
      ·intro j ae τ H4 pc;rw[ai] at pc;obtain⟨_,s4,_⟩:=pc;exact SqL.of (s4 _ _ e')
      ·intro j x ae τ H4 hx pc;rw[ai] at pc;obtain⟨o0,s4,rfl,rfl⟩:=pc;obtain⟨de,hde,tde⟩:=(t'.same s4).get hx;have fin:Pc (j+1) (((dt.take j).map λd=>!fX d).map As++[.bl (!fX de)]) [ID x] H4:=by
        rw[ai];exact⟨_,s4,by rw[take_snoc hde,Be,Be];rfl,rfl⟩
       cases tde with
       | non=>push_cast;exact fin
       | bl b=>push_cast;exact fin
       | int i=>push_cast;exact fin
       | str x=>push_cast;exact fin
       | tup o9 e9 z9 t9=>push_cast[e9];exact fin
       | lst o9 e9 z9 t9=>push_cast[e9];exact fin
      intro ae τ H4 d4 pc kM;rw[ai] at pc;obtain⟨o0,s4,rfl,rfl⟩:=pc;rw[fq,CM];have s5:=s4.trans (au (o:=BY ((dt.map λd=>!fX d).map As)) kM);have e5:upd H4 d4 (BY ((dt.map λd=>!fX d).map As)) d4=ID (BY ((dt.map λd=>!fX d).map As)):=aB;generalize upd H4 d4 (BY ((dt.map λd=>!fX d).map As))=H5 at s5 e5 |-;push_cast[e5];refine⟨_,rfl,?_⟩;by_cases all:(dt.map λd=>!fX d).any id=true
      ·rw[all,if_pos rfl];refine YU H5 s5 ?_;rintro⟨M,h1,_⟩;cases h1;rw[any_map,IT] at all;obtain⟨x,hx,qS⟩:=all;obtain⟨i,_,rfl⟩:=Ch.mp hx;cases qS
      rw[eq_false_iff.mpr all,if_neg δ,ap];have al2:(dt.map fX).all id=true:=by
       rw[all_map,FU];intro x hx;cases qS:fX x with
       | true=>exact qS
       | false=>
        refine absurd ?_ all;rw[any_map,IT];exact⟨x,hx,by show(!fX x)=true;rw[qS];rfl⟩
      obtain⟨M,rfl⟩:=JX al2;refine⟨_,_,lr.trans s5,λj hj=>?_,rfl⟩;rcases Go j i with h|h
      ·exact bP j h
      have:j=i:=by omega
      subst this;rw[Oy];rw[AG] at fq;exact⟨M,rfl,ω⟩
     rw[decide_eq_false c2,LJ,if_pos rfl];refine YU H3 (Same.refl _) ?_;rintro⟨M,h1,h2⟩;cases h1;rw[AG] at fq;omega
   intro σ H2 pv;rw[ap] at pv;obtain⟨o5,o6,s2,bP,rfl⟩:=pv;obtain⟨N,hN⟩:=iff.mpr ⟨VQ,λj hj=>bP j ω⟩;clear hR ap;show k _ H2;subst hk;rw[hN] at PQ q;refine aM λk hk=>?_;refine jE λR hR=>?_;push_cast[sy];refine⟨ω,ω,?_⟩;obtain⟨Po,RC⟩:∃Pv:Nat->L2.St->Hp->Prop,Pv=λ(i:Nat) σ H'=>∃(o5 o6 o7 o8 o9 g6 fA eI:Option V),Same H H'/\FJ ss ws zs n N (λa _=>a<i)/\σ=[ID (.ref sa),ID (.ref wa),ID (.ref t),ID (.ref pd),ID (.int (n:Int)),o5,o6,o7,o8,o9,g6,fA,eI]:=⟨_,rfl⟩;refine zT (n:=n) hR Po (by rw[RC];exact⟨_,_,_,_,_,_,_,_,s2,(λa b h=>absurd h (LF _)),rfl⟩) ?_ ?_
   ·intro i σ H3 hi po;rw[RC] at po;obtain⟨o5,o6,o7,o8,o9,g6,fA,eI,s3,bl,rfl⟩:=po;rw[show(0:Int)+(i:Int)=(i:Int) by omega];refine jE λR2 hR2=>?_;push_cast[Io];refine⟨ω,?_⟩;rw[show((n:Int)+1-((i:Int)+1)).toNat=n-i by omega];obtain⟨Pi,RE⟩:∃Pv:Nat->L2.St->Hp->Prop,Pv=λ(j:Nat) σ H'=>∃(o7 o8 o9 g6 fA eI:Option V),Same H H'/\FJ ss ws zs n N (λa b=>a<i\/(a=i/\b<i+1+j))/\σ=[ID (.ref sa),ID (.ref wa),ID (.ref t),ID (.ref pd),ID (.int (n:Int)),ID (.int (i:Int)),o6,o7,o8,o9,g6,fA,eI]:=⟨_,rfl⟩;refine zT (n:=n-i) hR2 Pi (by rw[RE];exact⟨_,_,_,_,_,_,s3,bl.mono (λa b h1 h2 h=>ω),rfl⟩) ?_ ?_
    ·intro j σ H4 hj pi;rw[RE] at pi;obtain⟨o7',o8',o9',Tk,Th,Tb,s4,YR,rfl⟩:=pi;obtain⟨b,hb⟩:∃b,b=i+1+j:=⟨_,rfl⟩;rw[show(i:Int)+1+(j:Int)=(b:Int) by omega];obtain⟨qh,rws',ra,ns,XX,ep,nK,OZ,wS⟩:=Br (PQ.same s4) (a:=i) (b:=b) ω ω;cases XX;refine aM λk2 av=>?_;push_cast[ep,nK,OZ,wS];subst av;refine aM λk2 av=>?_;push_cast;refine⟨aQ δ,λd0 ny=>?_⟩;subst av;have s5:=au (o:=BY [At 0]) ny;have e5:upd H4 d0 (BY [At 0]) d0=ID (BY (([0]:List Int).map At)):=aB;have kG:=s4.trans s5;generalize upd H4 d0 (BY [At 0])=H5 at s5 e5 kG |-;refine aM λk2 av=>?_;have fin:∀(d:IN)(C:List Int)(H6:Hp)(g6 fA eI:Option V),Same H H6->H6 d=ID (.lst (C.map At))->C≠[]->(∀m,m∈C->(∀c∈C,m<=c)->kE ss ws zs N i b m)->k2 [ID (.ref sa),ID (.ref wa),ID (.ref t),ID (.ref pd),ID (.int (n:Int)),ID (.int (i:Int)),o6,ID (.int (b:Int)),ID (.int (N i b)),ID (.ref d),g6,fA,eI] H6:=by
      intro d C H6 g6 fA eI s6 e6 hC hl;subst av;push_cast;refine⟨C,.inl e6,hC,λm hm cf=>?_⟩;have lst:=hl m hm cf;split
      ·rename_i cc;have:=q H6 s6;rw[tK] at this
       ·exact this
       intro z;obtain⟨⟨x,hx,ex⟩,_⟩:=lst;have:=oU.mp z i b ω ω x hx;omega
      rename_i cc;rw[RE];refine⟨_,_,_,_,_,_,s6,λa' b' h h1 h2 x hx=>?_,rfl⟩;by_cases ce:a'=i/\b'=b
      ·obtain⟨rfl,rfl⟩:=ce;have:=lst.2 x hx;omega
      exact YR a' b' ω h1 h2 x hx
     have h5l:=h5.2.1;have xa:∀k,k<5->1<=zs.getD k 0/\zs.getD k 0<=99:=λk hk=>by
      rw[AV,AC ω];exact h5.2.2 _ (EB _)
     by_cases cb:(b:Int)>(i:Int)+1
     ·push_cast;rw[if_pos cb];refine⟨sa,wa,t,i,b,xs,ok,ss,ws,zs,rfl,kG _ _ es,ts.same kG,ω,kG _ _ ew,ω,⟨kG _ _ h5.1,h5.2⟩,ω,ω,λd C H6 s6 hd6 ed6 hCl hCn hC=>?_⟩;have SV:=kG.trans s6;have et6:=SV _ _ h5.1;have ew6:=SV _ _ ew;have h2:=xa 2 δ;have z2:atI (zs.map At) 2=ID (.int (zs.getD 2 0)):=wz (i:=2) ω;push_cast[et6,ew6,z2];refine λpw hpw=>⟨slc ws i b,KQ ws i b ω ω,?_⟩;rw[Jv ω];have s7:=au (o:=BY (mX (ws.map At) (ID (i:Int)) (ID (b:Int)))) hpw;have kP:=s7 _ _ ed6;have MX:=SV.trans s7;generalize upd H6 pw (BY (mX (ws.map At) (ID (i:Int)) (ID (b:Int))))=H7 at s7 kP MX |-;push_cast;refine⟨.inl ⟨ω,ω⟩,?_⟩;refine jE λR3 hR3=>?_;push_cast[Io];refine⟨ω,?_⟩;rw[show((b:Int)-((i:Int)+1)).toNat=b-(i+1) by omega];obtain⟨g,hg⟩:∃g:Nat->Int,g=λk=>zs.getD 2 0*sumK ws (rng i b)+N i k+N k b:=⟨_,rfl⟩;have hdH:H d=IF:=kG.none hd6;obtain⟨Pl,nV⟩:∃Pv:Nat->L2.St->Hp->Prop,Pv=λ(i2:Nat) σ H'=>∃(fA eI:Option V),Same H H'/\H' d=ID (.lst ((C++((rng (i+1) b).take i2).map g).map At))/\σ=[ID (.ref sa),ID (.ref wa),ID (.ref t),ID (.ref pd),ID (.int (n:Int)),ID (.int (i:Int)),o6,ID (.int (b:Int)),ID (.int (N i b)),ID (.ref d),ID (.int (zs.getD 2 0*sumK ws (rng i b))),fA,eI]:=⟨_,rfl⟩;refine zT (n:=b-(i+1)) hR3 Pl (by rw[nV];exact⟨_,_,MX,by rw[take_zero,map_nil,D9];exact kP,rfl⟩) ?_ ?_
      ·intro i2 σ H8 wp pl;rw[nV] at pl;obtain⟨fA,eI,s8,oj,rfl⟩:=pl;obtain⟨k3,rn⟩:∃k3,k3=i+1+i2:=⟨_,rfl⟩;rw[show(i:Int)+1+(i2:Int)=(k3:Int) by omega];obtain⟨pd1,rws1,ra1,ns1,xn,Pe,WB,XT,OM⟩:=Br (PQ.same s8) (a:=i) (b:=k3) ω ω;obtain⟨pd2,rws2,ra2,ns2,XW,ep2,OL,XO,OK⟩:=Br (PQ.same s8) (a:=k3) (b:=b) ω ω;cases xn;cases XW;rw[Pe] at ep2;cases ep2;refine aM λk4 hk4=>?_;push_cast[Pe,WB,XT,OM,OL,XO,OK];refine⟨aQ δ,λd9 hd9=>?_⟩;have s9:=au (o:=BY [At (N i k3),At (N k3 b)]) hd9;have e9:upd H8 d9 (BY [At (N i k3),At (N k3 b)]) d9=ID (BY ([N i k3,N k3 b].map At)):=aB;have xC:=s9 _ _ oj;generalize upd H8 d9 (BY [At (N i k3),At (N k3 b)])=H9 at s9 e9 xC |-;subst hk4;push_cast[e9,xC];refine⟨[N i k3,N k3 b],rfl,?_⟩;push_cast[xC];refine⟨wH (by rw[AG,AQ,AG];have:=Db i2 (rng (i+1) b);have:=gP (i+1) b;omega),?_⟩;rw[nV];refine⟨_,_,j6 (s8.trans s9) hdH,?_,rfl⟩;rw[aB,take_snoc (T6 ω),<- rn,Be,Be,Be,Be,F5];have:g k3=zs.getD 2 0*sumK ws (rng i b)+[N i k3,N k3 b].sum:=by
        rw[hg];show _=_+(N i k3+(N k3 b+0));dsimp only;omega
       rw[<- this];rfl
      intro σ H8 pl;rw[nV] at pl;obtain⟨fA,eI,s8,oj,rfl⟩:=pl;rw[show b-(i+1)=(rng (i+1) b).length from(gP _ _).symm,CM] at oj;refine fin d _ H8 _ _ _ s8 oj (λz=>hCn (List.append_eq_nil_iff.mp z).1) λm hm cf=>?_;rw[hg] at hm cf;exact aau ω hC hm cf
     push_cast;rw[if_neg cb];refine fin d0 [0] H5 _ _ _ kG e5 (List.cons_ne_nil _ _) λm hm _=>?_;rw[AL.mp hm,show b=i+1 by omega];exact Jy (adQ wm) λk hk=>by have:=xa k hk;omega
    intro σ H4 pi;rw[RE] at pi;obtain⟨o7',o8',o9',Tk,Th,Tb,s4,YR,rfl⟩:=pi;show Po (i+1) _ H4;rw[RC];exact⟨_,_,_,_,_,_,_,_,s4,YR.mono (λa b h1 h2 h=>ω),rfl⟩
   intro σ H3 po;rw[RC] at po;obtain⟨o5,o6,o7,o8,o9,g6,fA,eI,s3,bl,rfl⟩:=po;show k _ H3;subst hk;push_cast;have:=q H3 s3;rw[O8 (oU.mpr λa b h1 h2 x hx=>bl a b ω h1 h2 x hx)] at this;exact this
  rw[decide_eq_false c,LJ,if_pos rfl];refine no H (Same.refl _) λz=>?_;have:=(uh.mp z).1;omega
end
abbrev uw:List Str:=["_law_thing","_law_found","_law_at","_law_one"]
abbrev iz:Stmt:=top 37
def wL:bw uw q20_ (aj iz):=⟨rfl,rfl,rfl,ψ,rfl,ψ,ψ⟩
def HY:NM_ uw iz 0 "_law_thing":=.of ψ
def uc:NM_ uw iz 1 "_law_found":=.of ψ
def HX:NM_ uw iz 2 "_law_at":=.of ψ
def HW:NM_ uw iz 3 "_law_one":=.of ψ
def DP:GI_ iz "_law_spots":=ψ
def xX:GI_ iz "enumerate":=ψ
def vU:GI_ iz "isinstance":=ψ
def Ks:GI_ iz "list":=ψ
def Gn:GI_ iz "tuple":=ψ
def O4:Bn "_law_spots" := ⟨ψ,ψ⟩
def nO(n:Nat):Sp:=λvs H Q _=>∃v ok d,vs=[v]/\aJ ok H v d/\d.depth<n/\nodes d<=20000 /\
 ∀(l:IN)(xs:List V)(ps:List (List Nat)) H',Same H H'->H' l=ID (.lst xs)->bL H' xs ps->(∀p∈ps,valid d p/\p≠[])->ps.length+1=nodes d->Q (.ref l) H'
section
variable{bs:List Str}
theorem Z0{n:Nat}(hn9:n<=100)(hB:∀x:Str,x∈BLs->mg x=IF)(CZSpots:Cal P w K mg base "_law_spots" n q20_ (nO n))(F:Fun K "_law_spots" "_law_spots" iz f fd):c7 P w K mg base CX0 (n+1) f fd q20_ (nO (n+1)):=by
 refine F.okz wL λaw A outer s H vs Q E hr h=>?_;obtain⟨v,ok,d,rfl,t,hd,hn,q⟩:=h;refine⟨_,(aD (aY uc wL.nd (bI aq) Z (.inl Z))
  (aD (fu (iH (bO Jb vU (hB "isinstance" bA) B7 bB (ak (ao HY) (ak (cD (ak (jK "list" Ks (hB "list" jO) F6 kZ) (ak (jK "tuple" Gn (hB "tuple" jh) F2 jj) aq))) aq))) (λ_=>rfl)) (aN (gh BN Z (CG xX (hB "enumerate" pW) (ak (ao HY) aq)) (gj (n:=2) Z (aV (dF HX wL.nd (.inl Z)) (aV (dF HW wL.nd (.inl Z)) dM)))
  (aD (jJ (m5 (ao uc) (cD (ak (ao HX) aq))))
  (aN (jJ (Ue (ao uc) (cO (NX:=uw) (kX:=(aj iz).names) ["_law_spot","_law_at"] [IF,ID 2] Z Z ⟨rfl,ψ,ψ,ψ,ψ⟩ Z (cJ (bx CZSpots (hr.mono ω) DP O4 (ak (ao HW) aq))) (λ_ _ _ _ _=>(bD 0 (show BH (["_law_spot","_law_at"]:List Str) from by decide +kernel) Z (C3 Z))) (λ_ _ _ _ _=>eE) (λ_ _ _ _ _=>(aL Ur (cD (ak (bh 1) aq)) (bh 0)))))))) (λ_=>rfl))) cQ)
  (aN (aZ (ao uc))))),?_⟩
 refine aM λk hk=>?_;push_cast;refine⟨aQ δ,λl hl=>?_⟩;have s1:=au (o:=BY []) hl;have el:upd H l (BY []) l=ID (BY []):=aB;have Hl:=hl;generalize upd H l (BY [])=H1 at s1 el |-;have p1:bL H1 [] []:=.nil;subst hk;refine aM λk hk=>?_;refine jY λkt ke hkt hke=>?_;have leaf:∀H',Same H H'->H' l=ID (BY [])->bL H' [] []->nodes d=1->ke [ID v,ID (AT l),IF,IF] H':=λH' sH e p NR=>by
  subst hke;subst hk;push_cast;exact q l _ _ H' sH e p (λx hx=>nomatch hx) (by rw[NR];rfl)
 cases t with
 | non=>push_cast;exact⟨aQ δ,λt2 cr=>leaf _ (s1.trans (au cr)) (au cr _ _ el) (p1.same (au cr)) rfl⟩
 | bl b=>push_cast;exact⟨aQ δ,λt2 cr=>leaf _ (s1.trans (au cr)) (au cr _ _ el) (p1.same (au cr)) rfl⟩
 | int i=>push_cast;exact⟨aQ δ,λt2 cr=>leaf _ (s1.trans (au cr)) (au cr _ _ el) (p1.same (au cr)) rfl⟩
 | str x=>push_cast;exact⟨aQ δ,λt2 cr=>leaf _ (s1.trans (au cr)) (au cr _ _ el) (p1.same (au cr)) rfl⟩
 | lst o e z ts=>
  rename_i p ay ds;push_cast;refine⟨aQ δ,λt2 cr=>?_⟩;have s2:=s1.trans (au (o:=Do [By "list",By "tuple"]) cr);have e2:=s2 _ _ e;have gt:=au (o:=Do [By "list",By "tuple"]) cr _ _ el;have p2:=p1.same (au (o:=Do [By "list",By "tuple"]) cr);generalize upd H1 t2 (Do [By "list",By "tuple"])=H2 at s2 e2 gt p2 |-;push_cast[e2];have ar:=ts.length;have VZ:AF.depthAll ds+1<n+1:=by rw[<- AF.depth.eq_1];exact hd
  have U1:1+aK ds<=20000:=hn;subst hkt;refine jE λR hR=>?_;push_cast[um,Bx,e2,Km];obtain⟨Pv,ap⟩:∃Pv:Nat->L2.St->Hp->Prop,Pv=λ(i:Nat) σ H'=>∃(ps:List (List Nat)) (xs:List V) (o2 o3:Option V),Same H H'/\aR l H2 H'/\H' l=ID (BY xs)/\bL H' xs ps/\(∀pp∈ps,valid (.list ds) pp/\pp≠[])/\ps.length=aK (ds.take i)/\σ=[ID (AT p),ID (AT l),o2,o3]:=⟨_,rfl⟩;have pl:p≠l:=aH e Hl;refine Ep hR ay.length Pv (by rw[ap];exact⟨[],_,_,_,s2,aR.refl _ _,gt,p2,(λx hx=>nomatch hx),rfl,rfl⟩) ?_ ?_ ?_ ?_
  ·intro i σ H3 hi pv;rw[ap] at pv;obtain⟨ps,xs,o2,o3,_,sx,_,_,_,_,rfl⟩:=pv;exact⟨_,_,SqL.of (sx _ _ pl e2),AC hi⟩
  ·intro σ H3 pv;rw[ap] at pv;obtain⟨ps,xs,o2,o3,_,sx,_,_,_,_,rfl⟩:=pv;exact⟨_,SqL.of (sx _ _ pl e2),B4 (A3 _)⟩
  ·intro i σ H3 y H4 hi pv yl;rw[ap] at pv;obtain⟨ps,xs,o2,o3,s3,hU,e3,p3,v3,n3,rfl⟩:=pv;obtain⟨q1,x,rfl,oP,rfl,hx⟩:=yl;have hx:=hx _ (SqL.of (hU _ _ pl e2));obtain⟨dx,m4,tx⟩:=ts.get hx;have s4:=au (o:=Do [At (i:Nat),x]) oP;have e4:=s4 _ _ e3;have p4:=p3.same s4;have ko:=s3.trans s4;have iE:=hU.trans s4.x;have xi:upd H3 q1 (Do [At (i:Nat),x]) q1=ID (Do [At (i:Nat),x]):=aB;generalize upd H3 q1 (Do [At (i:Nat),x])=H4 at s4 e4 p4 ko iE xi |-;have ut:=tx.same ko;have om:=AY m4;have dd:=dN om;have nn:=jM om;have lx4:=p4.length;have Tx:=iZ i ds;push_cast[xi,e4];refine⟨aQ δ,λqa hqa=>?_⟩;have sa:=au (o:=Do [At (i:Nat)]) hqa;have ea:=sa _ _ e4;have O0:upd H4 qa (Do [At (i:Nat)]) qa=ID (Do (nW [i])):=aB;have pa:=(p4.same sa).append (.cons O0 .nil);have MV:=ko.trans sa;have MI:=iE.trans sa.x;generalize upd H4 qa (Do [At (i:Nat)])=Ha at sa ea O0 pa MV MI |-;push_cast[ea];refine⟨wH ω,?_⟩;have eb:upd Ha l (BY (xs++[AT qa])) l=_:=aB;have pb:=pa.Vq (ys:=xs++[AT qa]) ea;have vc:=j6 (o:=BY (xs++[AT qa])) MV Hl;have MH:=MI.trans (aR.upd (p:=l) (o:=BY (xs++[AT qa])));have e4:=eb;have p4:=pb;have ko:=vc;have iE:=MH;have ut:=tx.same vc;have C':∀pp∈ps++[[i]],valid (.list ds) pp/\pp≠[]:=λpp hpp=>by
    rcases BG.mp hpp with z|z
    ·exact v3 pp z
    rw[AL.mp z];exact⟨(tU m4 (by cases dx <;> trivial)).1,by simp⟩
   have No:(ps++[[i]]).length=aK (ds.take i)+1:=by rw[AQ,BS,n3]
   generalize upd Ha l (BY (xs++[AT qa]))=H4 at e4 p4 ko iE ut |-;clear eb pb vc MH;generalize NA:xs++[AT qa]=xs at e4 p4 |-;generalize im:ps++[[i]]=ps at p4 C' No |-;push_cast[BZ,KJ,e4,Bw];refine fL λR2 hR2=>?_;push_cast;refine⟨x,ok,dx,rfl,ut,ω,ω,λl2 xs2 x9 H5 s5 e5 p5 v5 n5=>?_⟩;push_cast[e5];have S1:=p5.length;obtain⟨Pc,ai⟩:∃Pv:Nat->List V->L2.St->Hp->Prop,Pv=λ(j:Nat) ae τ H'=>∃(o1:Option V),Same H5 H'/\bL H' ae ((x9.take j).map λpp=>i::pp)/\τ=[o1,ID (At (i:Nat))]:=⟨_,rfl⟩;refine jz hR2 (xs:=xs2) (Jx ω) Pc (by rw[ai];exact⟨IF,Same.refl _,.nil,rfl⟩) ?_ ?_ ?_ ?_
   ·intro j ae τ H6 pc;rw[ai] at pc;obtain⟨o1,s6,p6,rfl⟩:=pc;have:=p6.length;rw[AG,EN] at this;omega
   ·intro j ae τ H6 pc;rw[ai] at pc;obtain⟨o1,s6,p6,rfl⟩:=pc;exact SqL.of (s6 _ _ e5)
   ·intro j x2 ae τ H6 qS pc;rw[ai] at pc;obtain⟨o1,s6,p6,rfl⟩:=pc;obtain⟨t7,iP,rfl,sP,e7⟩:=p5.get qS;have Yf:=s6 _ _ e7;have sk:∀(ah:V)(H':Hp),Same H6 H'->(∃tt,ah=AT tt/\H' tt=ID (Do (nW (i::iP))))->Pc (j+1) (ae++[ah]) [ID (AT t7),ID (At (i:Nat))] H':=λah H' sH ⟨tt,ha,ht⟩=>by
     rw[ai,ha];refine⟨_,s6.trans sH,?_,rfl⟩;rw[take_snoc sP,Be];exact(p6.same sH).append (.cons ht .nil)
    push_cast;refine⟨aQ δ,λq7 hq7=>?_⟩;have s7:=au (o:=Do [At (i:Nat)]) hq7;have xE:upd H6 q7 (Do [At (i:Nat)]) q7=ID (Do [At (i:Nat)]):=aB;have Ps:=s7 _ _ Yf;generalize upd H6 q7 (Do [At (i:Nat)])=H7 at s7 xE Ps |-;rw[JQ,xE,Ps,RX];refine⟨by simp,?_,λz=>?_,λz p8 hp8=>?_⟩
    ·have:=nM iP dx (v5 iP (AY sP)).1;refine aQ ?_;rw[Nf];show 1+iP.length<=1000000;omega
    ·refine sk _ _ s7 ⟨q7,rfl,?_⟩;rw[xE];cases iP with
     | nil=>rfl
     | cons a b=>cases z
    exact sk _ _ (s7.trans (au hp8)) ⟨p8,rfl,aB⟩
   intro ae τ H6 d6 pc hd6;rw[ai] at pc;obtain⟨o1,s6,p6,rfl⟩:=pc;rw[S1,CM] at p6;have s7:=au (o:=BY ae) hd6;have io:upd H6 d6 (BY ae) l=ID (BY xs):=s7 _ _ (s6 _ _ (s5 _ _ e4));have kP:upd H6 d6 (BY ae) d6=ID (BY ae):=aB;have p7:=p6.same s7;have vi:=((p4.same s5).same s6).same s7;have MW:=((ko.trans s5).trans s6).trans s7;have ki:=((iE.trans s5.x).trans s6.x).trans s7.x;generalize upd H6 d6 (BY ae)=H7 at s7 io kP p7 vi MW ki |-;have la:=p7.length;have lx:=vi.length;rw[AG] at la;have TB:=iZ (i+1) ds;rw[gn m4] at TB;rw[Es,io,kP,RT];refine⟨Jx ω,?_⟩;show Pv _ _ _;rw[ap];refine⟨ps++x9.map (λpp=>i::pp),_,_,_,j6 MW Hl,ki.trans aR.upd,aB,(vi.Vq io).append (p7.Vq io),?_,?_,rfl⟩
   ·intro pp hpp;rcases BG.mp hpp with z|z
    ·exact C' pp z
    obtain⟨p9,mm,rfl⟩:=Ch.mp z;exact⟨(tU m4 (v5 p9 mm).1).1,by simp⟩
   rw[AQ,AG,No,gn m4];omega
  intro σ H3 pv;rw[ap] at pv;obtain⟨ps,xs,o2,o3,s3,hU,e3,p3,v3,n3,rfl⟩:=pv;show k _ _;subst hk;push_cast;refine q l _ _ H3 s3 e3 p3 v3 ?_;rw[ar,CM] at n3;rw[n3];exact add_comm _ _
 | tup o e z ts=>
  rename_i p ay ds;push_cast;refine⟨aQ δ,λt2 cr=>?_⟩;have s2:=s1.trans (au (o:=Do [By "list",By "tuple"]) cr);have e2:=s2 _ _ e;have gt:=au (o:=Do [By "list",By "tuple"]) cr _ _ el;have p2:=p1.same (au (o:=Do [By "list",By "tuple"]) cr);generalize upd H1 t2 (Do [By "list",By "tuple"])=H2 at s2 e2 gt p2 |-;push_cast[e2];have ar:=ts.length;have VZ:AF.depthAll ds+1<n+1:=by rw[<- AF.depth.eq_2];exact hd
  have U1:1+aK ds<=20000:=hn;subst hkt;refine jE λR hR=>?_;push_cast[um,Bx,e2,adJ];obtain⟨Pv,ap⟩:∃Pv:Nat->L2.St->Hp->Prop,Pv=λ(i:Nat) σ H'=>∃(ps:List (List Nat)) (xs:List V) (o2 o3:Option V),Same H H'/\aR l H2 H'/\H' l=ID (BY xs)/\bL H' xs ps/\(∀pp∈ps,valid (.tuple ds) pp/\pp≠[])/\ps.length=aK (ds.take i)/\σ=[ID (AT p),ID (AT l),o2,o3]:=⟨_,rfl⟩;have pl:p≠l:=aH e Hl;refine Ep hR ay.length Pv (by rw[ap];exact⟨[],_,_,_,s2,aR.refl _ _,gt,p2,(λx hx=>nomatch hx),rfl,rfl⟩) ?_ ?_ ?_ ?_
  ·intro i σ H3 hi pv;rw[ap] at pv;obtain⟨ps,xs,o2,o3,_,sx,_,_,_,_,rfl⟩:=pv;exact⟨_,_,SqT.of (sx _ _ pl e2),AC hi⟩
  ·intro σ H3 pv;rw[ap] at pv;obtain⟨ps,xs,o2,o3,_,sx,_,_,_,_,rfl⟩:=pv;exact⟨_,SqT.of (sx _ _ pl e2),rfl⟩
  ·intro i σ H3 y H4 hi pv yl;rw[ap] at pv;obtain⟨ps,xs,o2,o3,s3,hU,e3,p3,v3,n3,rfl⟩:=pv;obtain⟨q1,x,rfl,oP,rfl,hx⟩:=yl;have hx:=hx _ (SqT.of (hU _ _ pl e2));obtain⟨dx,m4,tx⟩:=ts.get hx;have s4:=au (o:=Do [At (i:Nat),x]) oP;have e4:=s4 _ _ e3;have p4:=p3.same s4;have ko:=s3.trans s4;have iE:=hU.trans s4.x;have xi:upd H3 q1 (Do [At (i:Nat),x]) q1=ID (Do [At (i:Nat),x]):=aB;generalize upd H3 q1 (Do [At (i:Nat),x])=H4 at s4 e4 p4 ko iE xi |-;have ut:=tx.same ko;have om:=AY m4;have dd:=dN om;have nn:=jM om;have lx4:=p4.length;have Tx:=iZ i ds;push_cast[xi,e4];refine⟨aQ δ,λqa hqa=>?_⟩;have sa:=au (o:=Do [At (i:Nat)]) hqa;have ea:=sa _ _ e4;have O0:upd H4 qa (Do [At (i:Nat)]) qa=ID (Do (nW [i])):=aB;have pa:=(p4.same sa).append (.cons O0 .nil);have MV:=ko.trans sa;have MI:=iE.trans sa.x;generalize upd H4 qa (Do [At (i:Nat)])=Ha at sa ea O0 pa MV MI |-;push_cast[ea];refine⟨wH ω,?_⟩;have eb:upd Ha l (BY (xs++[AT qa])) l=_:=aB;have pb:=pa.Vq (ys:=xs++[AT qa]) ea;have vc:=j6 (o:=BY (xs++[AT qa])) MV Hl;have MH:=MI.trans (aR.upd (p:=l) (o:=BY (xs++[AT qa])));have e4:=eb;have p4:=pb;have ko:=vc;have iE:=MH;have ut:=tx.same vc;have C':∀pp∈ps++[[i]],valid (.tuple ds) pp/\pp≠[]:=λpp hpp=>by
    rcases BG.mp hpp with z|z
    ·exact v3 pp z
    rw[AL.mp z];exact⟨(tU m4 (by cases dx <;> trivial)).2,by simp⟩
   have No:(ps++[[i]]).length=aK (ds.take i)+1:=by rw[AQ,BS,n3]
   generalize upd Ha l (BY (xs++[AT qa]))=H4 at e4 p4 ko iE ut |-;clear eb pb vc MH;generalize NA:xs++[AT qa]=xs at e4 p4 |-;generalize im:ps++[[i]]=ps at p4 C' No |-;push_cast[BZ,KJ,e4,Bw];refine fL λR2 hR2=>?_;push_cast;refine⟨x,ok,dx,rfl,ut,ω,ω,λl2 xs2 x9 H5 s5 e5 p5 v5 n5=>?_⟩;push_cast[e5];have S1:=p5.length;obtain⟨Pc,ai⟩:∃Pv:Nat->List V->L2.St->Hp->Prop,Pv=λ(j:Nat) ae τ H'=>∃(o1:Option V),Same H5 H'/\bL H' ae ((x9.take j).map λpp=>i::pp)/\τ=[o1,ID (At (i:Nat))]:=⟨_,rfl⟩;refine jz hR2 (xs:=xs2) (Jx ω) Pc (by rw[ai];exact⟨IF,Same.refl _,.nil,rfl⟩) ?_ ?_ ?_ ?_
   ·intro j ae τ H6 pc;rw[ai] at pc;obtain⟨o1,s6,p6,rfl⟩:=pc;have:=p6.length;rw[AG,EN] at this;omega
   ·intro j ae τ H6 pc;rw[ai] at pc;obtain⟨o1,s6,p6,rfl⟩:=pc;exact SqL.of (s6 _ _ e5)
   ·intro j x2 ae τ H6 qS pc;rw[ai] at pc;obtain⟨o1,s6,p6,rfl⟩:=pc;obtain⟨t7,iP,rfl,sP,e7⟩:=p5.get qS;have Yf:=s6 _ _ e7;have sk:∀(ah:V)(H':Hp),Same H6 H'->(∃tt,ah=AT tt/\H' tt=ID (Do (nW (i::iP))))->Pc (j+1) (ae++[ah]) [ID (AT t7),ID (At (i:Nat))] H':=λah H' sH ⟨tt,ha,ht⟩=>by
     rw[ai,ha];refine⟨_,s6.trans sH,?_,rfl⟩;rw[take_snoc sP,Be];exact(p6.same sH).append (.cons ht .nil)
    push_cast;refine⟨aQ δ,λq7 hq7=>?_⟩;have s7:=au (o:=Do [At (i:Nat)]) hq7;have xE:upd H6 q7 (Do [At (i:Nat)]) q7=ID (Do [At (i:Nat)]):=aB;have Ps:=s7 _ _ Yf;generalize upd H6 q7 (Do [At (i:Nat)])=H7 at s7 xE Ps |-;rw[JQ,xE,Ps,RX];refine⟨by simp,?_,λz=>?_,λz p8 hp8=>?_⟩
    ·have:=nM iP dx (v5 iP (AY sP)).1;refine aQ ?_;rw[Nf];show 1+iP.length<=1000000;omega
    ·refine sk _ _ s7 ⟨q7,rfl,?_⟩;rw[xE];cases iP with
     | nil=>rfl
     | cons a b=>cases z
    exact sk _ _ (s7.trans (au hp8)) ⟨p8,rfl,aB⟩
   intro ae τ H6 d6 pc hd6;rw[ai] at pc;obtain⟨o1,s6,p6,rfl⟩:=pc;rw[S1,CM] at p6;have s7:=au (o:=BY ae) hd6;have io:upd H6 d6 (BY ae) l=ID (BY xs):=s7 _ _ (s6 _ _ (s5 _ _ e4));have kP:upd H6 d6 (BY ae) d6=ID (BY ae):=aB;have p7:=p6.same s7;have vi:=((p4.same s5).same s6).same s7;have MW:=((ko.trans s5).trans s6).trans s7;have ki:=((iE.trans s5.x).trans s6.x).trans s7.x;generalize upd H6 d6 (BY ae)=H7 at s7 io kP p7 vi MW ki |-;have la:=p7.length;have lx:=vi.length;rw[AG] at la;have TB:=iZ (i+1) ds;rw[gn m4] at TB;rw[Es,io,kP,RT];refine⟨Jx ω,?_⟩;show Pv _ _ _;rw[ap];refine⟨ps++x9.map (λpp=>i::pp),_,_,_,j6 MW Hl,ki.trans aR.upd,aB,(vi.Vq io).append (p7.Vq io),?_,?_,rfl⟩
   ·intro pp hpp;rcases BG.mp hpp with z|z
    ·exact C' pp z
    obtain⟨p9,mm,rfl⟩:=Ch.mp z;exact⟨(tU m4 (v5 p9 mm).1).2,by simp⟩
   rw[AQ,AG,No,gn m4];omega
  intro σ H3 pv;rw[ap] at pv;obtain⟨ps,xs,o2,o3,s3,hU,e3,p3,v3,n3,rfl⟩:=pv;show k _ _;subst hk;push_cast;refine q l _ _ H3 s3 e3 p3 v3 ?_;rw[ar,CM] at n3;rw[n3];exact add_comm _ _
def Qi:c7 P w K mg base CX0 0 f fd q20_ (nO 0):=by
 have no:∀vs H Q E,¬nO 0 vs H Q E:=λvs H Q E h=>by
  obtain⟨_,_,_,_,_,h1,_⟩:=h;omega
 exact⟨λvs H Q E h=>absurd h (no vs H Q E),λA outer s H args us vs Q E _ _ _ _ h=>absurd h (no vs H Q E)⟩
end
abbrev ags:List Str:=["_law_thing","_law_inner"]
abbrev Qs:Stmt:=top 38
def agD:bw ags q14_ (aj Qs):=⟨rfl,rfl,rfl,ψ,rfl,ψ,ψ⟩
def afH:NM_ ags Qs 0 "_law_thing":=.of ψ
def aaf:NM_ ags Qs 1 "_law_inner":=.of ψ
def Ay:GI_ Qs "isinstance":=ψ
def Ea:GI_ Qs "tuple":=ψ
def O5:Bn "_law_as" := ⟨ψ,ψ⟩
def abT:Sp:=λvs H Q _=>∃(th l:IN)(xs ys:List V),vs=[.ref th,.ref l]/\H l=ID (.lst xs)/\((H th=ID (.tup ys)/\∀p,H p=IF->Q (.ref p) (upd H p (.tup xs)))\/(H th=ID (.lst ys)/\Q (.ref l) H))
section
variable{bs:List Str}
def ag6(hB:∀x:Str,x∈BLs->mg x=IF)(F:Fun K "_law_as" "_law_as" Qs f fd):c7 P w K mg base CX0 1 f fd q14_ abT:=by
 refine F.okz agD λaw A outer s H vs Q E hr h=>?_;obtain⟨th,l,xs,ys,rfl,el,h⟩:=h;refine⟨_,(aN (aZ (uK (iH (bO dj Ay (hB "isinstance" bA) B7 bB (ak (ao afH) (ak (jK "tuple" Ea (hB "tuple" jh) F2 jj) aq))) (λ_=>rfl)) (mL gM Ea (hB "tuple" jh) F2 jj (ak (ao aaf) aq)) (ao aaf)))),?_⟩;rcases h with⟨e,q⟩|⟨e,q⟩
 ·push_cast[e];exact⟨xs,.inl ⟨SqL.of el,q⟩⟩
 push_cast[e];exact q
end
abbrev zf:List Str:=["_law_tape_here","_law_thing","_law_way","_law_at","_law_some"]
abbrev gZ:Stmt:=top 40
def wK:bw zf q6_ (aj gZ):=⟨rfl,rfl,rfl,ψ,rfl,ψ,ψ⟩
def Dd:NM_ zf gZ 0 "_law_tape_here":=.of ψ
def b7:NM_ zf gZ 1 "_law_thing":=.of ψ
def wY:NM_ zf gZ 2 "_law_way":=.of ψ
def iu:NM_ zf gZ 3 "_law_at":=.of ψ
def wX:NM_ zf gZ 4 "_law_some":=.of ψ
def vR:GI_ gZ "_law_step_of_many":=ψ
def xU:GI_ gZ "_law_take":=ψ
def Oa:GI_ gZ "bool":=ψ
def RL:GI_ gZ "int":=ψ
def gR:GI_ gZ "isinstance":=ψ
def RK:GI_ gZ "len":=ψ
def N8:GI_ gZ "list":=ψ
def DN:GI_ gZ "str":=ψ
def Kr:GI_ gZ "tuple":=ψ
def ad6:Bn "_law_step" := ⟨ψ,ψ⟩
abbrev tO:List Str:=["_law_tape_here","_law_thing","_law_spot","_law_inner"]
abbrev g8:Stmt:=top 41
def Ht:bw tO q3_ (aj g8):=⟨rfl,rfl,rfl,ψ,rfl,ψ,ψ⟩
def Dj:NM_ tO g8 0 "_law_tape_here":=.of ψ
def vG:NM_ tO g8 1 "_law_thing":=.of ψ
def pG:NM_ tO g8 2 "_law_spot":=.of ψ
def pF:NM_ tO g8 3 "_law_inner":=.of ψ
def Kz:GI_ g8 "_law_as":=ψ
def yR:GI_ g8 "_law_bent_at":=ψ
def DY:GI_ g8 "_law_step":=ψ
def GC:GI_ g8 "list":=ψ
def Je:Bn "_law_bent_at" := ⟨ψ,ψ⟩
def mC(n:Nat):Sp:=λvs H Q _=>∃(p:IN)(B:Int)(v:V)(d:AF)(a:Nat)(ok:IN->Prop)(t:IN)(path:List Nat),vs=[.ref p,v,.ref t]/\aP H p B/\0<=B/\B<=900000/\dJ ok H/\(∀a,ok a->a≠p)/\aJ ok H v d/\szD a d/\a<=1 /\
 H t=ID (.tup (nW path))/\valid d path/\path.length<n/\path.length<=100/\∀v' d' H',aR p H H'->aP H' p (B+10)->aJ ok H' v' d'->zu a d d'->(∀ds,d=.list ds->path≠[]->∃cy,d'=.list cy/\cy.length=ds.length)->Q v' H'
section
variable{bs:List Str}
theorem Wi{n:Nat}(hB:∀x:Str,x∈BLs->mg x=IF)(CZStep:Cal P w K mg base "_law_step" (n+4) q6_ (wF false))(CZAs:Cal P w K mg base "_law_as" 1 q14_ abT)(CZBentAt:Cal P w K mg base "_law_bent_at" (n+4) q3_ (mC n))(F:Fun K "_law_bent_at" "_law_bent_at" g8 f fd):c7 P w K mg base CX0 (n+1+4) f fd q3_ (mC (n+1)):=by
 refine F.okz Ht λaw A outer s H vs Q E hr h=>?_;obtain⟨p,B,v,d,a,ok,t,path,rfl,tp,kw,ja,fr,hok,tr,sz,ha,et,hv,bz,NJ,q⟩:=h;refine⟨_,(aD (fu (cB (afB hr.cY) (ao pG) (cD aq) (bJ _)) (aN (aZ (bx CZStep (hr.mono ω) DY ad6 (ak (ao Dj) (ak (ao vG) aq))))) cQ)
  (aD (aY pF Ht.nd (mL lY GC (hB "list" jO) F6 kZ (ak (ao vG) aq)) Z (.inl Z))
  (aD (oZ (bx CZBentAt (hr.mono ω) yR Je (ak (ao Dj) (ak (aU bK (ao pF) (aU bK (ao pG) aA (λ_ _=>rfl)) (λ_ _=>rfl)) (ak (bQ qU (ao pG) (bT aA) dw) aq)))) (acw (ao pF) (aU bK (ao pG) aA (λ_ _=>rfl)) TY))
  (aN (aZ (bx CZAs (hr.mono ω) Kz O5 (ak (ao vG) (ak (ao pF) aq)))))))),?_⟩
 refine aM λk hk=>?_;refine jY λkt ke hkt hke=>?_;push_cast;refine⟨aQ δ,λq1 oP=>?_⟩;have s1:=au (o:=Do []) oP;refine⟨t,q1,nW path,[],rfl,rfl,s1 _ _ et,aB,Wm _,rfl,?_⟩;generalize upd H q1 (Do [])=H1 at s1 |-;push_cast;cases path with
 | nil=>
  rw[show(nW []).isEmpty=true from rfl,if_pos rfl];subst hkt;push_cast;exact⟨p,B,v,d,a,ok,rfl,tp.same s1,kw,ja,fr.same s1,hok,tr.same s1,sz,ha,λz=>(by cases z),λv' d' H' sx tp' t' b'=>q v' d' H' (s1.x.trans sx) tp' t' b' λ_ _ z=>absurd Z z⟩
 | cons i r=>
  rw[if_neg (by simp[nW])];subst hke;push_cast;subst hk;refine aM λk hk=>?_;have zn:H t=ID (Do (At (i:Nat)::nW r)):=et;have hpl':r.length<n:=by rw[B0] at bz;omega
  have UU:r.length<=100:=by rw[B0] at NJ;omega
  have e1':=zn;cases tr with
  | lst oo e z ts=>
   rename_i th ay ds;obtain⟨dc,ng,Sc⟩:=hv;have sL:ds.length<=210*5^a/\qu a ds:=sz;have bP:=gJ.mp sL.2;have rh:nodes (.list ds)=1+aK ds:=rfl;have ny:(AF.list ds).depth=AF.depthAll ds+1:=AF.depth.eq_1 ds;have hlx:=ts.length;obtain⟨x,hx⟩:∃x,ay[i]?=ID x:=⟨ay[i]'(by have:=(AK.mp ng).1;omega),AC _⟩;obtain⟨dc',nc,tx⟩:=ts.get hx;rw[ng] at nc;cases nc;have oS:i<ay.length:=(AK.mp hx).1;push_cast;refine⟨_,.inl (SqL.of (s1 _ _ e)),λl hl=>?_⟩;have s2:=(au (o:=BY ay) hl);have sj:ok l:=(fr.same s1).new hl;obtain⟨fi,gE⟩:∃fi:IN->Prop,fi=λa=>ok a/\a≠l:=⟨_,rfl⟩;have gt:upd H1 l (BY ay) l=ID (BY ay):=aB;have uu:aF fi (upd H1 l (BY ay)) ay ds:=(ts.same s1).keep λa o h e=>by rw[gE];exact⟨⟨h,aH e hl⟩,s2 _ _ e⟩
   have my:dJ fi (upd H1 l (BY ay)):=λH' q s' hq=>by
    rw[gE];exact⟨((fr.same s1).same s2) H' q s' hq,(aH (s' _ _ gt) hq).symm⟩
   have ic:∀a,fi a->a≠p:=λa h=>by rw[gE] at h;exact hok a h.1
   have kB:=s2 _ _ (s1 _ _ zn);have oe:=s2 _ _ (s1 _ _ e);have cz:=(tp.same s1).same s2;have MO:aR p H (upd H1 l (BY ay)):=(s1.trans s2).x;generalize upd H1 l (BY ay)=H2 at s2 gt uu my kB oe cz MO |-;subst hk;refine aM λk hk=>?_;have ze:atI ay (i:Int)=ID x:=cG hx;push_cast[kB,gt,ze,Oz];refine⟨aa9 (At (i:Nat)) (nW r),λt9 ht9=>?_⟩;have s9:=au (o:=Do (nW r)) ht9;have Sj:aJ fi (upd H2 t9 (Do (nW r))) x dc:=by
    obtain⟨dd,h1,h2⟩:=uu.get hx;rw[ng] at h1;cases h1;exact h2.same s9
   refine⟨p,B,x,dc,a,fi,t9,r,rfl,cz.same s9,kw,ja,my.same s9,ic,Sj,bP dc (AY ng),ha,aB,Sc,ω,ω,λv3 d3 H3 s3 cw t3 bc _=>?_⟩;have lp:l≠p:=hok l sj;have X2:=s3 _ _ lp (s9 _ _ gt);have SA:t≠p:=cz.net kB;have r8:=s3 _ _ SA (s9 _ _ kB);have xc:=s3 _ _ (hok _ oo) (s9 _ _ oe);push_cast[X2,r8];refine⟨i,Bu (Int.natCast_nonneg i) ω,?_⟩;subst hk;have SC:th≠l:=aH (s1 _ _ e) hl;have kk:∀a o,fi a->H3 a=ID o->ok a/\upd H3 l (BY (ay.set i v3)) a=ID o:=λa o h e=>by
    rw[gE] at h;exact⟨h.1,by rw[aO h.2];exact e⟩
   have t4:aF ok (upd H3 l (BY (ay.set i v3))) (ay.set i v3) (ds.set i d3):=(aF.set t3 i ((uu.same s9).nj ic s3)).keep kk;have j5:upd H3 l (BY (ay.set i v3)) l=ID (BY (ay.set i v3)):=aB;have oa:upd H3 l (BY (ay.set i v3)) th=_:=(aO SC).trans xc;have dk:=cw.upd (o:=BY (ay.set i v3)) lp;have Hl:H l=IF:=by
    cases eh:H l with
    | none=>rfl
    | some o9=>rw[s1 _ _ eh] at hl;cases hl
   have iA:aR p H (upd H3 l (BY (ay.set i v3))):=yH ((MO.trans s9.x).trans s3) Hl;have rf:dJ ok (upd H3 l (BY (ay.set i v3))):=fr.gY iA dk;generalize upd H3 l (BY (ay.set i v3))=H4 at t4 j5 oa dk iA rf |-;push_cast;refine⟨th,l,_,_,rfl,j5,.inr ⟨oa,?_⟩⟩;exact q _ _ _ iA dk (.lst sj j5 (by rw[length_set];exact z) t4) (Pa rh ny sL.1 bP ng bc).1 λds9 e9 _=>⟨_,rfl,by cases e9;rw[length_set]⟩
  | tup oo e z ts=>
   rename_i th ay ds;obtain⟨dc,ng,Sc⟩:=hv;have sL:ds.length<=210*5^a/\qu a ds:=sz;have bP:=gJ.mp sL.2;have rh:nodes (.tuple ds)=1+aK ds:=rfl;have ny:(AF.tuple ds).depth=AF.depthAll ds+1:=AF.depth.eq_2 ds;have hlx:=ts.length;obtain⟨x,hx⟩:∃x,ay[i]?=ID x:=⟨ay[i]'(by have:=(AK.mp ng).1;omega),AC _⟩;obtain⟨dc',nc,tx⟩:=ts.get hx;rw[ng] at nc;cases nc;have oS:i<ay.length:=(AK.mp hx).1;push_cast;refine⟨_,.inr (SqT.of (s1 _ _ e)),λl hl=>?_⟩;have s2:=(au (o:=BY ay) hl);have sj:ok l:=(fr.same s1).new hl;obtain⟨fi,gE⟩:∃fi:IN->Prop,fi=λa=>ok a/\a≠l:=⟨_,rfl⟩;have gt:upd H1 l (BY ay) l=ID (BY ay):=aB;have uu:aF fi (upd H1 l (BY ay)) ay ds:=(ts.same s1).keep λa o h e=>by rw[gE];exact⟨⟨h,aH e hl⟩,s2 _ _ e⟩
   have my:dJ fi (upd H1 l (BY ay)):=λH' q s' hq=>by
    rw[gE];exact⟨((fr.same s1).same s2) H' q s' hq,(aH (s' _ _ gt) hq).symm⟩
   have ic:∀a,fi a->a≠p:=λa h=>by rw[gE] at h;exact hok a h.1
   have kB:=s2 _ _ (s1 _ _ zn);have oe:=s2 _ _ (s1 _ _ e);have cz:=(tp.same s1).same s2;have MO:aR p H (upd H1 l (BY ay)):=(s1.trans s2).x;generalize upd H1 l (BY ay)=H2 at s2 gt uu my kB oe cz MO |-;subst hk;refine aM λk hk=>?_;have ze:atI ay (i:Int)=ID x:=cG hx;push_cast[kB,gt,ze,Oz];refine⟨aa9 (At (i:Nat)) (nW r),λt9 ht9=>?_⟩;have s9:=au (o:=Do (nW r)) ht9;have Sj:aJ fi (upd H2 t9 (Do (nW r))) x dc:=by
    obtain⟨dd,h1,h2⟩:=uu.get hx;rw[ng] at h1;cases h1;exact h2.same s9
   refine⟨p,B,x,dc,a,fi,t9,r,rfl,cz.same s9,kw,ja,my.same s9,ic,Sj,bP dc (AY ng),ha,aB,Sc,ω,ω,λv3 d3 H3 s3 cw t3 bc _=>?_⟩;have lp:l≠p:=hok l sj;have X2:=s3 _ _ lp (s9 _ _ gt);have SA:t≠p:=cz.net kB;have r8:=s3 _ _ SA (s9 _ _ kB);have xc:=s3 _ _ (hok _ oo) (s9 _ _ oe);push_cast[X2,r8];refine⟨i,Bu (Int.natCast_nonneg i) ω,?_⟩;subst hk;have SC:th≠l:=aH (s1 _ _ e) hl;have kk:∀a o,fi a->H3 a=ID o->ok a/\upd H3 l (BY (ay.set i v3)) a=ID o:=λa o h e=>by
    rw[gE] at h;exact⟨h.1,by rw[aO h.2];exact e⟩
   have t4:aF ok (upd H3 l (BY (ay.set i v3))) (ay.set i v3) (ds.set i d3):=(aF.set t3 i ((uu.same s9).nj ic s3)).keep kk;have j5:upd H3 l (BY (ay.set i v3)) l=ID (BY (ay.set i v3)):=aB;have oa:upd H3 l (BY (ay.set i v3)) th=_:=(aO SC).trans xc;have dk:=cw.upd (o:=BY (ay.set i v3)) lp;have Hl:H l=IF:=by
    cases eh:H l with
    | none=>rfl
    | some o9=>rw[s1 _ _ eh] at hl;cases hl
   have iA:aR p H (upd H3 l (BY (ay.set i v3))):=yH ((MO.trans s9.x).trans s3) Hl;have rf:dJ ok (upd H3 l (BY (ay.set i v3))):=fr.gY iA dk;generalize upd H3 l (BY (ay.set i v3))=H4 at t4 j5 oa dk iA rf |-;push_cast;refine⟨th,l,_,_,rfl,j5,.inl ⟨oa,λl9 hl9=>?_⟩⟩;have SU:=au (o:=Do (ay.set i v3)) hl9;exact q _ _ _ (iA.trans SU.x) (dk.same SU) (.tup (rf.new hl9) aB (by rw[length_set];exact z) (t4.same SU)) (Pa rh ny sL.1 bP ng bc).2 λds9 e9 _=>by cases e9
  | _=>exact hv.elim
def O9:c7 P w K mg base CX0 4 f fd q3_ (mC 0):=by
 have no:∀vs H Q E,¬mC 0 vs H Q E:=λvs H Q E h=>by
  obtain⟨_,_,_,_,_,_,_,_,_,_,_,_,_,_,_,_,_,_,_,h1,_⟩:=h;omega
 exact⟨λvs H Q E h=>absurd h (no vs H Q E),λA outer s H args us vs Q E _ _ _ _ h=>absurd h (no vs H Q E)⟩
end
abbrev zj:List Str:=["_law_tape_here","_law_handed","_law_found","_law_turn","_law_spots_here"]
abbrev jq:Stmt:=top 42
def wM:bw zj q16_ (aj jq):=⟨rfl,rfl,rfl,ψ,rfl,ψ,ψ⟩
def Di:NM_ zj jq 0 "_law_tape_here":=.of ψ
def aae:NM_ zj jq 1 "_law_handed":=.of ψ
def rY:NM_ zj jq 2 "_law_found":=.of ψ
def aad:NM_ zj jq 3 "_law_turn":=.of ψ
def Dh:NM_ zj jq 4 "_law_spots_here":=.of ψ
def DX:GI_ jq "_law_bent_at":=ψ
def Gz:GI_ jq "_law_spots":=ψ
def xZ:GI_ jq "_law_take":=ψ
def RN:GI_ jq "int":=ψ
def RM:GI_ jq "len":=ψ
def Ob:GI_ jq "list":=ψ
def Ky:GI_ jq "range":=ψ
def ad7:Bn "_law_bent" := ⟨ψ,ψ⟩
structure Bnt(d0:AF)(j:Nat)(d:AF):Prop where
 sz:szD j (.list [d])
 nd:nodes (.list [d])<=4^j*nodes (.list [d0])+20*5^j
 dp:(AF.list [d]).depth<=(AF.list [d0]).depth+2*j
def TQ:Sp:=λvs H Q _=>∃(p h:IN)(B:Int)(v0:V)(d0:AF),vs=[.ref p,.ref h]/\aP H p B/\0<=B/\B<=800000/\h≠p/\H h=ID (.lst [v0])/\aJ (·≠p) H v0 d0/\szD 0 d0/\(AF.list [d0]).depth<=70/\nodes (.list [d0])<=1000 /\
 ∀(l:IN)(d:AF)(j:Nat) H',aR p H H'->aP H' p (B+40)->aJ (·≠p) H' (.ref l) (.list [d])->1<=j->j<=2->Bnt d0 j d->Q (.ref l) H'
section
variable{bs:List Str}
theorem adf(hB:∀x:Str,x∈BLs->mg x=IF)(CZTake:Cal P w K mg base "_law_take" 2 q0_ (mH 2))(CZSpots:Cal P w K mg base "_law_spots" 81 q20_ (nO 81))(CZBentAt:Cal P w K mg base "_law_bent_at" 85 q3_ (mC 81))(F:Fun K "_law_bent" "_law_bent" jq f fd):c7 P w K mg base CX0 86 f fd q16_ TQ:=by
 refine F.okz wM λaw A outer s H vs Q E hr h=>?_;obtain⟨p,h,B,v0,d0,rfl,tp,kw,ja,nh,eh,t0,PU,yT,i3,q⟩:=h;refine⟨_,(aD (aY rY wM.nd (mL lY Ob (hB "list" jO) F6 kZ (ak (ao aae) aq)) Z (.inl Z))
  (aD (gh BN Z (iB Ky (hB "range" eO) (ak (aL aW aA (mL qj RN (hB "int" vP) L0 v7 (ak (rz (jL hr.cY) (bx CZTake (hr.mono δ) xZ cF (ak (ao Di) (ak aA aq))) aA (bJ _)) aq))) aq)) (dF aad wM.nd (.inl Z))
  (aD (aY Dh wM.nd (bx CZSpots (hr.mono δ) Gz O4 (ak (ao rY) aq)) Z (.inl Z))
  (aN (aY rY wM.nd (bx CZBentAt (hr.mono δ) DX Je (ak (ao Di) (ak (ao rY) (ak (aU bK (ao Dh) (bx CZTake (hr.mono δ) xZ cF (ak (ao Di) (ak (bO cU RM (hB "len" iK) CA iQ (ak (ao Dh) aq)) aq))) (λ_ _=>rfl)) aq)))) Z (.inl Z)))) (λ_=>rfl))
  (aN (aZ (ao rY))))),?_⟩
 refine aM λk hk=>?_;push_cast[eh];refine⟨_,.inl (SqL.of eh),λl0 hl0=>?_⟩;have s1:=au (o:=BY [v0]) hl0;have k9:=tp.same s1;have t1:aJ (·≠p) (upd H l0 (BY [v0])) (.ref l0) (.list [d0]):=.lst (tp.ne hl0) aB (by show 1<=1000000;decide) (.cons (t0.same s1) .nil);generalize upd H l0 (BY [v0])=H1 at s1 k9 t1 |-;subst hk;refine aM λk hk=>?_;refine jE λR hR=>?_;push_cast[sy];refine⟨p,4,B,rfl,k9,by show B+2<=1000100;omega,δ,δ,δ,λz=>absurd z δ,λr1 H2 r10 r11 s2 cz=>?_⟩;push_cast;obtain⟨m,mE,yv,hm⟩:∃m:Nat,1<=m/\m<=2/\(1+if r1=0 then 1 else 0:Int)=(m:Int):=by
  split
  ·exact⟨2,δ,δ,rfl⟩
  exact⟨1,δ,δ,rfl⟩
 rw[hm];refine⟨ω,ω,?_⟩;rw[GA];have bn0:Bnt d0 0 d0:=⟨⟨by show 1<=210*5^0;decide,PU,trivial⟩,by rw[pow_zero,one_mul];exact Nat.le_add_right _ _,A3 _⟩;obtain⟨Pv,ap⟩:∃Pv:Nat->L2.St->Hp->Prop,Pv=λ(j:Nat) σ H'=>∃(l:IN)(d:AF)(o3 o4:Option V),aR p H H'/\aP H' p (B+2+12*(j:Int))/\aJ (·≠p) H' (.ref l) (.list [d])/\Bnt d0 j d/\σ=[ID (.ref p),ID (.ref h),ID (.ref l),o3,o4]:=⟨_,rfl⟩;refine zT hR Pv (by rw[ap];exact⟨l0,d0,_,_,s1.x.trans s2,cz.le (by show B+2<=B+2+12*((0:Nat):Int);omega),t1.gY s2,bn0,rfl⟩) ?_ ?_
 ·intro j σ H3 hj pv;rw[ap] at pv;obtain⟨l,d,o3,o4,s3,cw,t3,bn,rfl⟩:=pv;have hj1:j=0\/j=1:=ω;have hnd3:nodes (.list [d])<=4100:=by
   have:=bn.nd;rcases hj1 with rfl|rfl
   ·simp only[pow_zero,one_mul] at this;omega
   simp only[pow_one] at this;omega
  have hdp3:(AF.list [d]).depth<=74:=by have:=bn.dp;omega
  refine aM λk3 rn=>?_;push_cast;refine⟨.ref l,_,_,rfl,t3,ω,ω,λls xs ps H4 s4 e4 p4 v4 n4=>?_⟩;push_cast;subst rn;have dk:=cw.same s4;have np:2<=nodes (.list [d]):=by
   have:=Wl d;show 2<=1+(nodes d+0);omega
  have lp:=p4.nt dk e4 ω;have xl:=p4.length;push_cast[e4];refine⟨p,(xs.length:Int),B+2+12*(j:Int),rfl,dk,ω,ω,ω,δ,λz=>absurd z ω,λat0 H5 a0 a1 s5 fF=>?_⟩;have e5:=s5 _ _ lp e4;have p5:=p4.abP dk s5;have hj5:at0.toNat<xs.length:=ω;have hx:xs[at0.toNat]?=ID xs[at0.toNat]:=AC hj5;have g7:atI xs at0=ID xs[at0.toNat]:=by
   have:=cG hx;rw[show((at0.toNat:Nat):Int)=at0 by omega] at this;exact this
  push_cast[e5,g7];obtain⟨tt,iP,ett,hp,et⟩:=p5.get hx;rw[ett];obtain⟨vl,vne⟩:=v4 iP (AY hp);have pl:=nM iP _ vl;refine⟨p,_,.ref l,_,j,_,tt,iP,rfl,fF,ω,ω,fF.newOk,λ_ h=>h,(t3.same s4).gY s5,bn.sz,ω,et,vl,ω,ω,λv' d' H6 s6 jv t6 b6 hl6=>?_⟩;obtain⟨cy,rfl,N0⟩:=hl6 _ Z vne;obtain⟨d2,rfl⟩:=List.length_eq_one_iff.mp N0;cases t6 with
  | lst o6 e6 z6 ts6=>
   rename_i l6 ys;show Pv _ _ _;rw[ap];refine⟨l6,d2,_,_,((s3.trans s4.x).trans s5).trans s6,jv.le ω,.lst o6 e6 z6 ts6,⟨b6.sz,?_,?_⟩,rfl⟩
   ·have h1:=b6.nd;have h2:=bn.nd;rcases hj1 with rfl|rfl
    ·simp only[pow_zero,one_mul,zero_add,pow_one] at h2 |-;omega
    simp only[pow_one] at h2;show nodes (.list [d2])<=16*nodes (.list [d0])+500;omega
   have h1:=b6.dp;have h2:=bn.dp;omega
 intro σ H3 pv;rw[ap] at pv;obtain⟨l,d,o3,o4,s3,cw,t3,bn,rfl⟩:=pv;show k _ _;subst hk;push_cast;exact q l d m H3 s3 (cw.le ω) t3 mE yv bn
end
abbrev gA:List Str:=["_law_tape_here","_law_thing","_law_inner","_law_at","_law_way","_law_more"]
abbrev bR:Stmt:=top 39
def iU:bw gA q6_ (aj bR):=⟨rfl,rfl,rfl,ψ,rfl,ψ,ψ⟩
def mQ:NM_ gA bR 0 "_law_tape_here":=.of ψ
def fU:NM_ gA bR 1 "_law_thing":=.of ψ
def bF:NM_ gA bR 2 "_law_inner":=.of ψ
def cR:NM_ gA bR 3 "_law_at":=.of ψ
def eG:NM_ gA bR 4 "_law_way":=.of ψ
def rH:NM_ gA bR 5 "_law_more":=.of ψ
def iD:GI_ bR "_law_as":=ψ
def jy:GI_ bR "_law_take":=ψ
def ou:GI_ bR "isinstance":=ψ
def yP:GI_ bR "len":=ψ
def xV:GI_ bR "list":=ψ
def mR:GI_ bR "tuple":=ψ
def GR:Bn "_law_step_of_many" := ⟨ψ,ψ⟩
theorem Lj{ok:IN->Prop}{σ:L2.St}{H:Hp}{D:Ends}{te:TE}{th:IN}{ay:List V}{cy:List AF}(n:dJ ok H)(h1:σ[1]?=ID (ID (.ref th)))(e:H th=ID (.lst ay)\/H th=ID (.tup ay))(h:Gv ok te σ H (.list cy))
  (q:∀v' d' H',Same H H'->aJ ok H' v' d'->(d'=.list cy\/d'=.tuple cy)->D.rt v' H'):Qf (uJ abT [] E0 (jX (tV 1) (jX te wD))) D σ H:=by
 unfold Qf uJ jX;refine XJ h1 ?_;refine h H (Same.refl _) _ λv1 H1 s1 t1=>?_;cases t1 with
 | lst o e1 z ts=>
  rename_i l1 ys;refine⟨th,_,_,ay,rfl,e1,?_⟩;rcases e with e|e
  ·exact .inr ⟨s1 _ _ e,q _ _ _ s1 (.lst o e1 z ts) (.inl Z)⟩
  refine .inl ⟨s1 _ _ e,λp hp=>?_⟩;have s2:=au (o:=Do ys) hp;exact q _ _ _ (s1.trans s2) (.tup (n _ _ s1 hp) aB z (ts.same s2)) (.inr Z)
section
variable{bs:List Str}
theorem Z1(hB:∀x:Str,x∈BLs->mg x=IF)(CZTake:Cal P w K mg base "_law_take" 2 q0_ (mH 2))(CZAs:Cal P w K mg base "_law_as" 1 q14_ abT)(F:Fun K "_law_step_of_many" "_law_step_of_many" bR f fd):c7 P w K mg base CX0 3 f fd q6_ (wF true):=by
 refine F.okz iU λaw A outer s H vs Q E hr h=>?_;obtain⟨p,B,v,d,a,ok,rfl,tp,kw,ja,fr,hok,t,sz,ha,UN,q⟩:=h;refine⟨_,(aD (aY bF iU.nd (mL lY xV (hB "list" jO) F6 kZ (ak (ao fU) aq)) Z (.inl Z))
  (aD (aY cR iU.nd (bx CZTake (hr.mono δ) jy cF (ak (ao mQ) (ak (aL aW (bO cU yP (hB "len" iK) CA iQ (ak (ao bF) aq)) aA) aq))) Z (.inl Z))
  (aD (aY eG iU.nd (bx CZTake (hr.mono δ) jy cF (ak (ao mQ) (ak aA aq))) Z (.inl Z))
  (aD (aY rH iU.nd (aU bK (bI (ak aA (ak aA (ak yJ (ak jB (ak (cD aq) (ak (uK (cB (QF hr.cY) (ao bF) (bI aq) (bJ _)) (aU bK (ao bF) (HD vh aA) (λ_ _=>rfl)) (HD vh aA)) aq))))))) (bx CZTake (hr.mono δ) jy cF (ak (ao mQ) (ak aA aq))) (λ_ _=>rfl)) Z (.inl Z))
  (aD (fu (cB Uq (ao eG) aA (bJ _)) (aN (aZ (bx CZAs (hr.mono δ) iD O5 (ak (ao fU) (ak (aL aW (bQ qU (ao bF) dw (bT (ao cR))) (bQ qU (ao bF) (bT (aL aW (ao cR) aA)) dw)) aq))))) cQ)
  (aD (fu (cB (jL hr.cY) (ao eG) aA (bJ _)) (aN (aZ (bx CZAs (hr.mono δ) iD O5 (ak (ao fU) (ak (aL aW (aL aW (bQ qU (ao bF) dw (bT (ao cR))) (bQ qU (ao bF) (bT (ao cR)) (bT (aL aW (ao cR) aA)))) (bQ qU (ao bF) (bT (ao cR)) dw)) aq))))) cQ)
  (aD (fu (cB (jL hr.cY) (ao eG) aA (bJ _)) (aN (aZ (bx CZAs (hr.mono δ) iD O5 (ak (ao fU) (ak (ae3 (ao bF)) aq))))) cQ)
  (aD (fu (cB (jL hr.cY) (ao eG) aA (bJ _)) (aN (aZ (uK (iH (bO dj ou (hB "isinstance" bA) B7 bB (ak (ao fU) (ak (jK "tuple" mR (hB "tuple" jh) F2 jj) aq))) (λ_=>rfl)) (ao bF) (mL gM mR (hB "tuple" jh) F2 jj (ak (ao bF) aq))))) cQ)
  (aD (fu (cB Uq (ao eG) aA (bJ _)) (aN (aZ (bx CZAs (hr.mono δ) iD O5 (ak (ao fU) (ak (aL aW (aL aW (bQ qU (ao bF) dw (bT (ao cR))) (bI (ak (ao rH) aq))) (bQ qU (ao bF) (bT (ao cR)) dw)) aq))))) cQ)
  (aN (aZ (aU bK (bI (ak (cD aq) (ak yJ aq))) (aL eX (ao eG) aA) (λ_ _=>rfl))))))))))))),?_⟩
 replace UN:=UN rfl;obtain⟨th,ay,ds,rfl,oo,esq,z,ts,sL,rh,ny⟩:∃(th:IN)(ay:List V)(ds:List AF),v=.ref th/\ok th/\(H th=ID (.lst ay)\/H th=ID (.tup ay))/\ay.length<=1000000/\aF ok H ay ds/\(ds.length<=210*5^a/\qu a ds)/\nodes d=1+aK ds/\d.depth=AF.depthAll ds+1:=by
  cases t with
  | lst oo e z ts=>exact⟨_,_,_,rfl,oo,.inl e,z,ts,sz,rfl,AF.depth.eq_1 _⟩
  | tup oo e z ts=>exact⟨_,_,_,rfl,oo,.inr e,z,ts,sz,rfl,AF.depth.eq_2 _⟩
  | _=>cases UN
 have hlx:=ts.length;have pw:=Zv ha;have l1:=sL.1;have bP:=gJ.mp sL.2;refine aM λk hk=>?_;push_cast;refine⟨ay,esq.imp SqL.of SqT.of,λli QP=>?_⟩;have s1:=au (o:=BY ay) QP;have e1:upd H li (BY ay) li=ID (BY ay):=aB;have sj:=fr.new QP;have MA:aJ ok (upd H li (BY ay)) (.ref li) (.list ds):=.lst sj aB z (ts.same s1);have OY:upd H li (BY ay) th=ID (.lst ay)\/upd H li (BY ay) th=ID (.tup ay):=esq.imp (s1 _ _) (s1 _ _);have k9:=tp.same s1;have NR:=fr.same s1;generalize upd H li (BY ay)=H1 at s1 e1 MA OY k9 NR |-;subst hk;refine aM λk hk=>?_;push_cast[e1];refine⟨p,(ay.length:Int)+1,B,rfl,k9,by show B+2<=1000100;omega,ω,ω,δ,λz=>absurd z ω,λat0 H2 a0 a1 s2 cz=>?_⟩;push_cast;subst hk;refine aM λk hk=>?_;push_cast;refine⟨p,9,B+2,rfl,cz,by show B+2+2<=1000100;omega,δ,δ,δ,λz=>absurd z δ,λkf H3 w0 w1 s3 cw=>?_⟩;push_cast;subst hk;have hU:aR p H H3:=(s1.x.trans s2).trans s3;have My:=(MA.nj hok s2).nj hok s3;have NO:=(NR.gY s2 cz).gY s3 cw;have XI:H3 th=ID (.lst ay)\/H3 th=ID (.tup ay):=OY.imp (λe=>s3 _ _ (hok _ oo) (s2 _ _ (hok _ oo) e)) (λe=>s3 _ _ (hok _ oo) (s2 _ _ (hok _ oo) e))
 -- the one put in
 refine aM λk hk=>?_;obtain⟨dl,i5,gl⟩:=WT (ok:=ok) (i:=2) (σ:=[ID (.ref p),ID (.ref th),ID (.ref li),ID (.int at0),ID (.int kf),IF]) NO Z My;refine U3 (ok:=ok) (.list [.int 0,.int 1,.none,.bool true,.tuple [],dl]) Z ?_ λpo xso H4 s4 e4 po4 t4=>?_
 ·exact eY NO (aG jx (aG jx (aG vQ (aG zR (aG (jw NO bC (by show 0<=1000000;decide)) (aG gl bC)))))) (by show 6<=1000000;decide)
 have dk:=cw.same s4;push_cast;refine⟨p,6,B+2+2,rfl,dk,by show B+2+2+2<=1000100;omega,δ,δ,δ,λz=>absurd z δ,λr5 H5 r50 r51 s5 fF=>?_⟩;have e5:=s5 _ _ (hok _ po4) e4;obtain⟨xo,od,UA,hod,uC⟩:=(t4.nj hok s5).at r50 (show r5<6 by omega);push_cast[e5,UA];subst hk;have Zp:szD (a+1) od/\od.depth<=AF.depthAll ds+2/\nodes od<=aK ds+4:=by
  have odd:∀{d:AF},Bm d->szD (a+1) d/\d.depth<=AF.depthAll ds+2/\nodes d<=aK ds+4:=λh=>⟨Jp h.sz,by have:=h.dp;omega,by have:=h.nd;omega⟩;rcases AX.mp hod with rfl|hod
  ·exact odd (pB δ)
  rcases AX.mp hod with rfl|hod
  ·exact odd (pB δ)
  rcases AX.mp hod with rfl|hod
  ·exact odd wV
  rcases AX.mp hod with rfl|hod
  ·exact odd CV
  rcases AX.mp hod with rfl|hod
  ·exact odd Bs.2
  rw[AL.mp hod];rcases i5 with rfl|hm
  ·exact odd (pB δ)
  exact⟨vo (bP _ hm),by have:=dN hm;omega,by have:=jM hm;omega⟩
 have kl:aR p H H5:=(hU.trans s4.x).trans s5;have SB:=(My.same s4).nj hok s5;have hn:=(NO.same s4).gY s5 fF;have og:H5 th=ID (.lst ay)\/H5 th=ID (.tup ay):=XI.imp (λe=>s5 _ _ (hok _ oo) (s4 _ _ e)) (λe=>s5 _ _ (hok _ oo) (s4 _ _ e));have ip:aP H5 p (B+10):=fF.le (by show B+2+2+2<=B+10;omega);have c0:=tE ds IF (ID at0);have n0:=lU ds IF (ID at0);have c1:=tE ds (ID (at0+1)) IF;have n1:=lU ds (ID (at0+1)) IF;have c3:=tE ds (ID at0) IF;have n3:=lU ds (ID at0) IF;have c5:=tE ds (ID at0) (ID (at0+1));have n5:=lU ds (ID at0) (ID (at0+1));have up:∀x∈ds,szD (a+1) x/\x.depth<=AF.depthAll ds+2:=λx hx=>⟨vo (bP x hx),by have:=dN hx;omega⟩;have ue:∀{lo hi:Option Int},∀x∈cutD ds lo hi,szD (a+1) x/\x.depth<=AF.depthAll ds+2:=λx hx=>up x (Ew hx);have se:∀{A1 A2:List AF},(∀x∈A1,szD (a+1) x/\x.depth<=AF.depthAll ds+2)->(∀x∈A2,szD (a+1) x/\x.depth<=AF.depthAll ds+2)->∀x∈A1++A2,szD (a+1) x/\x.depth<=AF.depthAll ds+2:=λh1 h2 x hx=>(BG.mp hx).elim (h1 x) (h2 x);have Lh:∀{cy:List AF},(∀x∈cy,szD (a+1) x/\x.depth<=AF.depthAll ds+2)->cy.length<=4*ds.length+1->aK cy<=4*aK ds+10->zu a d (.list cy)/\zu a d (.tuple cy):=λhx hl hn=>ad9 rh ny (λx h=>(hx x h).1) ω hn (λx h=>(hx x h).2);have go:∀{cy:List AF}(v':V)(d':AF)(H':Hp),Same H5 H'->aJ ok H' v' d'->(d'=.list cy\/d'=.tuple cy)->(∀x∈cy,szD (a+1) x/\x.depth<=AF.depthAll ds+2)->cy.length<=4*ds.length+1->aK cy<=4*aK ds+10->Q v' H':=λv' d' H' sH t' gI hx hl hn=>by
  have b:=Lh hx hl hn;refine q v' d' H' (kl.trans sH.x) (ip.same sH) t' ?_;rcases gI with rfl|rfl
  ·exact b.1
  exact b.2
 have g2:Gv ok (tV 2) [ID (.ref p),ID (.ref th),ID (.ref li),ID (.int at0),ID (.int kf),ID xo] H5 (.list ds):=Ao Z SB;refine aM λk hk=>?_;refine jY λkt ke hkt hke=>?_;push_cast;split
 ·subst hkt;refine Lj hn Z og (sE hn (ji hn g2 (λH Q q=>q) (λH Q q=>⟨at0,rfl,q⟩)) (ji hn g2 (λH Q q=>⟨at0+1,rfl,q⟩) (λH Q q=>q)) ω) λv' d' H' sH t' gI=>?_;exact go v' d' H' sH t' gI (se ue ue) (by rw[AQ];omega) (by rw[cg];omega)
 subst hke;push_cast;subst hk;refine aM λk hk=>?_;refine jY λkt ke hkt hke=>?_;push_cast;split
 ·subst hkt;refine Lj hn Z og (sE hn (sE hn (ji hn g2 (λH Q q=>q) (λH Q q=>⟨at0,rfl,q⟩)) (ji hn g2 (λH Q q=>⟨at0,rfl,q⟩) (λH Q q=>⟨at0+1,rfl,q⟩)) ω) (ji hn g2 (λH Q q=>⟨at0,rfl,q⟩) (λH Q q=>q)) (by rw[AQ];omega)) λv' d' H' sH t' gI=>?_;exact go v' d' H' sH t' gI (se (se ue ue) ue) (by rw[AQ,AQ];omega) (by rw[cg,cg];omega)
 subst hke;push_cast;subst hk;refine aM λk hk=>?_;refine jY λkt ke hkt hke=>?_;push_cast;split
 ·subst hkt;refine Lj hn Z og (af8 hn g2) λv' d' H' sH t' gI=>?_;exact go v' d' H' sH t' gI (λx hx=>up x (List.mem_reverse.mp hx)) (by rw[IE];omega) (by rw[nU];omega)
 subst hke;push_cast;subst hk;refine aM λk hk=>?_;refine jY λkt ke hkt hke=>?_;push_cast;split
 ·subst hkt;have bt:=Lh up ω ω;rcases og with e|e
  ·push_cast[e];cases SB with
   | lst o' e' z' Sr=>
    rename_i ys;refine⟨_,.inl ⟨SqL.of e',λl9 hl9=>?_⟩⟩;have s9:=au (o:=Do ys) hl9;exact q _ _ _ (kl.trans s9.x) (ip.same s9) (.tup (hn.new hl9) aB z' (Sr.same s9)) bt.2
  push_cast[e];exact q _ _ _ kl ip SB bt.1
 subst hke;push_cast;subst hk;refine aM λk hk=>?_;refine jY λkt ke hkt hke=>?_;push_cast;split
 ·subst hkt;refine Lj hn Z og (sE hn (sE hn (ji hn g2 (λH Q q=>q) (λH Q q=>⟨at0,rfl,q⟩)) (eY hn (aG (Ao (i:=5) Z uC) bC) (by show 1<=1000000;decide)) (by rw[BS];omega)) (ji hn g2 (λH Q q=>⟨at0,rfl,q⟩) (λH Q q=>q)) (by rw[AQ,BS];omega)) λv' d' H' sH t' gI=>?_;exact go v' d' H' sH t' gI (se (se ue (λx hx=>by rw[AL.mp hx];exact⟨Zp.1,Zp.2.1⟩)) ue) (by rw[AQ,AQ,BS];omega) (by rw[cg,cg,aK,aK];omega)
 subst hke;push_cast;subst hk;refine U3 (ok:=ok) (.list [.tuple [],.none]) Z ?_ λp6 xs6 H6 s6 e6 po6 t6=>?_
 ·exact eY hn (aG (jw hn bC (by show 0<=1000000;decide)) (aG vQ bC)) (by show 2<=1000000;decide)
 obtain⟨x7,d7,vv,hd7,t7⟩:=t6.at (show 0<=kf-7 by omega) (show kf-7<2 by omega);push_cast[e6,vv];have o7:Bm d7:=by
  rcases AX.mp hd7 with rfl|hd7
  ·exact Bs.2
  rw[AL.mp hd7];exact wV
 exact q _ _ _ (kl.trans s6.x) (ip.same s6) t7 o7.Lh
theorem ac9(hB:∀x:Str,x∈BLs->mg x=IF)(CZTake:Cal P w K mg base "_law_take" 2 q0_ (mH 2))(CZStepOfMany:Cal P w K mg base "_law_step_of_many" 3 q6_ (wF true))(F:Fun K "_law_step" "_law_step" gZ f fd):c7 P w K mg base CX0 4 f fd q6_ (wF false):=by
 refine F.okz wK λaw A outer s H vs Q E hr h=>?_;obtain⟨p,B,v,d,a,ok,rfl,tp,kw,ja,fr,hok,t,sz,ha,_,q⟩:=h;refine⟨_,(aD (fu (iH (bO Jb gR (hB "isinstance" bA) B7 bB (ak (ao b7) (ak (cD (ak (jK "list" N8 (hB "list" jO) F6 kZ) (ak (jK "tuple" Kr (hB "tuple" jh) F2 jj) aq))) aq))) (λ_=>rfl)) (aN (aZ (bx CZStepOfMany (hr.mono δ) vR GR (ak (ao Dd) (ak (ao b7) aq))))) cQ)
  (aD (aY wY wK.nd (bx CZTake (hr.mono δ) xU cF (ak (ao Dd) (ak aA aq))) Z (.inl Z))
  (aD (fu (iH (bO dj gR (hB "isinstance" bA) B7 bB (ak (ao b7) (ak (jK "str" DN (hB "str" aao) boot_str abn) aq))) (λ_=>rfl)) (aD (aY iu wK.nd (bx CZTake (hr.mono δ) xU cF (ak (ao Dd) (ak (aL fM (bO Xh RK (hB "len" iK) CA iQ (ak (ao b7) aq)) aA) aq))) Z (.inl Z))
  (aD (aY wX wK.nd (bI (ak (aL fM (aL fM (bQ FW (ao b7) dw (bT (ao iu))) gm) (bQ FW (ao b7) (bT (aL fM (ao iu) aA)) dw)) (ak (aL fM (aL fM (bQ FW (ao b7) dw (bT (ao iu))) gm) (bQ FW (ao b7) (bT (aL fM (ao iu) aA)) dw)) (ak (aL fM (aL fM (bQ FW (ao b7) dw (bT (ao iu))) gm) (bQ FW (ao b7) (bT (ao iu)) dw)) aq)))) Z (.inl Z))
  (aD (aY wX wK.nd (aL fM (ao wX) (bI (ak (aL fM (bQ FW (ao b7) dw (bT (ao iu))) (bQ FW (ao b7) (bT (aL fM (ao iu) aA)) dw)) (ak (aL fM (aL fM (bQ FW (ao b7) dw (bT (ao iu))) gm) (bQ FW (ao b7) (bT (aL fM (ao iu) aA)) dw)) (ak gm (ak yJ (ak aA (ak (cD (ak (ao b7) aq)) aq)))))))) Z (.inl Z))
  (aN (aZ (aU af0 (ao wX) (ao wY) (λ_ _=>rfl))))))) cQ)
  (aD (fu (JS (JR (iH (bO dj gR (hB "isinstance" bA) B7 bB (ak (ao b7) (ak (jK "int" RL (hB "int" vP) L0 v7) aq))) (λ_=>rfl)) (Bp (rm (iH (bO dj gR (hB "isinstance" bA) B7 bB (ak (ao b7) (ak (jK "bool" Oa (hB "bool" xJ) boot_bool yh) aq))) (λ_=>rfl)))))) (aN (aZ (aU af0 (bI (ak (aL fM (ao b7) aA) (ak (aL eX (ao b7) aA) (ak (aL eX aA (ao b7)) (ak (aL dz aA (ao b7)) (ak jB (ak yJ (ak (mL K5 DN (hB "str" aao) boot_str abn (ak (ao b7) aq)) (ak (bI (ak (ao b7) aq)) (ak jB aq)))))))))) (ao wY) (λ_ _=>rfl)))) cQ)
  (aN (aZ (aU af0 (bI (ak aA (ak aA (ak (cD aq) (ak gm (ak yJ (ak jB (ak jB (ak (bI aq) (ak aA aq)))))))))) (ao wY) (λ_ _=>rfl)))))))),?_⟩
 have p2:=afh ha;refine aM λk hk=>?_;refine jY λkt ke hkt hke=>?_;have tt:=t;have PF:∀d∈([.int 0,.int 1,.tuple [],.str "",.none,.bool true,.bool false,.list [],.int 2]:List AF),Sm3 a d:=cA (pB δ).sm3 (cA (pB δ).sm3 (cA Bs.2.sm3 (cA (Ut "" δ).sm3 (cA wV.sm3 (cA CV.sm3 (cA CV.sm3 (cA Bs.1.sm3 (cA (pB δ).sm3 Qt))))))));cases t with
 | lst o e z ts=>
  push_cast;refine⟨aQ δ,λt2 cr=>?_⟩;have s2:=au (o:=Do [By "list",By "tuple"]) cr;have e2:=s2 _ _ e;push_cast[e2];subst hkt;push_cast;exact⟨p,B,_,_,a,ok,rfl,tp.same s2,kw,ja,fr.same s2,hok,tt.same s2,sz,ha,λ_=>rfl,λv' d' H' sx tp' t' b'=>q v' d' H' (s2.x.trans sx) tp' t' b'⟩
 | tup o e z ts=>
  push_cast;refine⟨aQ δ,λt2 cr=>?_⟩;have s2:=au (o:=Do [By "list",By "tuple"]) cr;have e2:=s2 _ _ e;push_cast[e2];subst hkt;push_cast;exact⟨p,B,_,_,a,ok,rfl,tp.same s2,kw,ja,fr.same s2,hok,tt.same s2,sz,ha,λ_=>rfl,λv' d' H' sx tp' t' b'=>q v' d' H' (s2.x.trans sx) tp' t' b'⟩
 | str x=>
  push_cast;refine⟨aQ δ,λt2 cr=>?_⟩;have s2:=au (o:=Do [By "list",By "tuple"]) cr;have cz:=tp.same s2;generalize upd H t2 (Do [By "list",By "tuple"])=H2 at s2 cz |-;subst hke;push_cast;subst hk;refine aM λk hk=>?_;push_cast;refine⟨p,9,B,rfl,cz,by show B+2<=1000100;omega,δ,δ,δ,λz=>absurd z δ,λkf H3 w0 w1 s3 cw=>?_⟩;push_cast;subst hk;have iq:aP H3 p (B+2):=cw;have hU:aR p H H3:=s2.x.trans s3;have hn:=(fr.same s2).gY s3 cw;refine aM λk hk=>?_;refine jY λkt ke hkt hke=>?_;push_cast;subst hkt;have hx:okS a x:=sz;have g7:=hx.1;have NA:x.length<=AJ:=aQ ω;refine aM λk2 av=>?_;push_cast[rdX];refine⟨NA,p,(x.length:Int)+1,B+2,rfl,iq,by show B+2+2<=1000100;omega,ω,ω,δ,λz=>absurd z ω,λat0 H4 a0 a1 s4 dk=>?_⟩;push_cast;subst av;have iE:aR p H H4:=hU.trans s4;have hn4:=hn.gY s4 dk;have tx:∀{H5:Hp},aJ ok H5 (.str x) (.str x):=.str x;refine aM λk2 av=>?_;have iX:x.length<=1000:=ω;refine abz (ok:=ok) (d:=.list [.str (A4 x IF (ID at0)++("0" : Str)++A4 x (ID (at0+1)) IF),.str (A4 x IF (ID at0)++("1" : Str)++A4 x (ID (at0+1)) IF),.str (A4 x IF (ID at0)++("1" : Str)++A4 x (ID (at0)) IF)]) ?_ λv5 H5 s5 t5=>?_
  ·exact eY hn4 (aG (BJ (xQ Z Z iX) (xO Z Z iX) iX δ) (aG (BJ (xQ Z Z iX) (xO Z Z iX) iX δ) (aG (BJ (xQ Z Z iX) (aaN Z Z iX) iX δ) bC))) (by show 3<=1000000;decide)
  show k2 _ _;simp only[FE,EO];subst av;have sQ:=hn4.same s5;refine aM λk2 av=>?_;refine abz (ok:=ok) (d:=.list ([.str (A4 x IF (ID at0)++("0" : Str)++A4 x (ID (at0+1)) IF),.str (A4 x IF (ID at0)++("1" : Str)++A4 x (ID (at0+1)) IF),.str (A4 x IF (ID at0)++("1" : Str)++A4 x (ID (at0)) IF)]++[.str (A4 x IF (ID at0)++A4 x (ID (at0+1)) IF),.str (A4 x IF (ID at0)++("2" : Str)++A4 x (ID (at0+1)) IF),.str "",.none,.int 0,.tuple [.str x]])) ?_ λv6 H6 s6 t6=>?_
  ·exact adN sQ (Ao Z t5) (eY sQ (aG (aaO (xQ Z Z iX) (xO Z Z iX) iX) (aG (BJ (xQ Z Z iX) (xO Z Z iX) iX δ) (aG pX (aG vQ (aG jx (aG (jw sQ (aG (Ao Z (.str x)) bC) (by show 1<=1000000;decide)) bC)))))) (by show 6<=1000000;decide)) (by show 3+6<=1000000;decide)
  show k2 _ _;simp only[FE,EO];subst av;refine Kh (ok:=ok) (.list [.str (A4 x IF (ID at0)++("0" : Str)++A4 x (ID (at0+1)) IF),.str (A4 x IF (ID at0)++("1" : Str)++A4 x (ID (at0+1)) IF),.str (A4 x IF (ID at0)++("1" : Str)++A4 x (ID (at0)) IF),.str (A4 x IF (ID at0)++A4 x (ID (at0+1)) IF),.str (A4 x IF (ID at0)++("2" : Str)++A4 x (ID (at0+1)) IF),.str "",.none,.int 0,.tuple [.str x]]) Z (Ao Z t6) λp7 xs7 H7 s7 e7 po7 t7=>?_;obtain⟨x8,d8,hx8,hd8,t8⟩:=t7.at w0 (show kf<9 by omega);push_cast[rdX,e7,hx8];have b1:∀(m:Str),okS 0 m->m.length<=1->okS (a+1) (A4 x IF (ID at0)++m++A4 x (ID (at0+1)) IF):=λm hm hl=>(CT hx a0 ω hm hl).1;have b0:okS (a+1) (A4 x IF (ID at0)++("1" : Str)++A4 x (ID at0) IF):=(CT hx a0 ω (vC "1" 0 δ) ψ).1;have b2:okS (a+1) (A4 x IF (ID at0)++A4 x (ID (at0+1)) IF):=(CT (m := "1") hx a0 ω (vC "1" 0 δ) ψ).2;have pw:=Zv ha;have st:Sm3 a (.tuple [.str x]):=⟨⟨by show 1<=210*5^(a+1);omega,(vo sz:szD (a+1) (.str x)),trivial⟩,by show 2<=20;decide,by show max 0 0+1<=2;decide⟩;have YY:∀d∈([.str (A4 x IF (ID at0)++("0" : Str)++A4 x (ID (at0+1)) IF),.str (A4 x IF (ID at0)++("1" : Str)++A4 x (ID (at0+1)) IF),.str (A4 x IF (ID at0)++("1" : Str)++A4 x (ID (at0)) IF),.str (A4 x IF (ID at0)++A4 x (ID (at0+1)) IF),.str (A4 x IF (ID at0)++("2" : Str)++A4 x (ID (at0+1)) IF),.str "",.none,.int 0,.tuple [.str x]]:List AF),Sm3 a d:=cA (yC (b1 "0" (vC "0" 0 δ) ψ)) (cA (yC (b1 "1" (vC "1" 0 δ) ψ)) (cA (yC b0) (cA (yC b2) (cA (yC (b1 "2" (vC "2" 0 δ) ψ)) (cA (Ut "" δ).sm3 (cA wV.sm3 (cA (pB δ).sm3 (cA st Qt))))))));exact q _ _ _ (((iE.trans s5.x).trans s6.x).trans s7.x) ((((dk.same s5).same s6).same s7).le (by show B+2+2<=B+10;omega)) t8 (YY d8 hd8).Lh
 | int i=>
  push_cast;refine⟨aQ δ,λt2 cr=>?_⟩;have s2:=au (o:=Do [By "list",By "tuple"]) cr;have cz:=tp.same s2;generalize upd H t2 (Do [By "list",By "tuple"])=H2 at s2 cz |-;subst hke;push_cast;subst hk;refine aM λk hk=>?_;push_cast;refine⟨p,9,B,rfl,cz,by show B+2<=1000100;omega,δ,δ,δ,λz=>absurd z δ,λkf H3 w0 w1 s3 cw=>?_⟩;push_cast;subst hk;have iq:aP H3 p (B+2):=cw;have hU:aR p H H3:=s2.x.trans s3;have hn:=(fr.same s2).gY s3 cw;refine aM λk hk=>?_;refine jY λkt ke hkt hke=>?_;push_cast;subst hke;push_cast;subst hk;refine aM λk hk=>?_;refine jY λkt ke hkt hke=>?_;push_cast;subst hkt;have hi:i.natAbs<=10^20*2^a:=sz;have VM:i.natAbs.log2<1920:=by
   by_cases z:i.natAbs=0
   ·rw[z];decide
   have:=(log2_lt (k:=70) z).mpr ω;omega
  have hts:okS (a+1) (EA (toString i)):=vC _ _ (by have:=PySem.int_text_length_le10 (a:=i) (k:=21) δ ω;omega);have gi:Gv ok (tV 1) [ID (.ref p),ID (.int i),ID (.int kf),IF,IF] H3 (.int i):=Ao Z (.int i);refine Kh (ok:=ok) (.list [.int (i+1),.int (i-1),.int (0-i),.int (2*i),.bool true,.none,.str (toString i),.list [.int i],.bool false]) Z ?_ λp6 xs6 H6 s6 e6 po6 t6=>?_
  ·exact eY hn (aG (Ko gi jx (λH Q q=>q)) (aG (Ko gi jx (λH Q q=>⟨_,_,rfl,rfl,q⟩)) (aG (Ko jx gi (λH Q q=>⟨_,_,rfl,rfl,q⟩)) (aG (Ko jx gi (λH Q q=>⟨_,_,rfl,rfl,.inl ⟨δ,δ⟩,q⟩)) (aG zR (aG vQ (aG (WR gi VM) (aG (eY hn (aG gi bC) (by show 1<=1000000;decide)) (aG zR bC))))))))) (by show 9<=1000000;decide)
  obtain⟨x7,d7,vv,hd7,t7⟩:=t6.at w0 (show kf<9 by omega);push_cast[rdX,e6,vv];have Y1:∀d∈([.int (i+1),.int (i-1),.int (0-i),.int (2*i),.bool true,.none,.str (toString i),.list [.int i],.bool false]:List AF),Sm3 a d:=cA (Jt ω) (cA (Jt ω) (cA (Jt ω) (cA (Jt ω) (cA CV.sm3 (cA wV.sm3 (cA (yC hts) (cA (abX ω).1 (cA CV.sm3 Qt))))))));exact q _ _ _ (hU.trans s6.x) ((iq.same s6).le ω) t7 (Y1 d7 hd7).Lh
 | non=>
  push_cast;refine⟨aQ δ,λt2 cr=>?_⟩;have s2:=au (o:=Do [By "list",By "tuple"]) cr;have cz:=tp.same s2;generalize upd H t2 (Do [By "list",By "tuple"])=H2 at s2 cz |-;subst hke;push_cast;subst hk;refine aM λk hk=>?_;push_cast;refine⟨p,9,B,rfl,cz,by show B+2<=1000100;omega,δ,δ,δ,λz=>absurd z δ,λkf H3 w0 w1 s3 cw=>?_⟩;push_cast;subst hk;have iq:aP H3 p (B+2):=cw;have hU:aR p H H3:=s2.x.trans s3;have hn:=(fr.same s2).gY s3 cw;refine aM λk hk=>?_;refine jY λkt ke hkt hke=>?_;push_cast;subst hke;push_cast;subst hk;refine aM λk hk=>?_;refine jY λkt ke hkt hke=>?_;push_cast;subst hke;push_cast;subst hk;refine Kh (ok:=ok) (.list [.int 0,.int 1,.tuple [],.str "",.none,.bool true,.bool false,.list [],.int 2]) Z ?_ λp6 xs6 H6 s6 e6 po6 t6=>?_
  ·exact eY hn (aG jx (aG jx (aG (jw hn bC (by show 0<=1000000;decide)) (aG pX (aG vQ (aG zR (aG zR (aG (eY hn bC (by show 0<=1000000;decide)) (aG jx bC))))))))) (by show 9<=1000000;decide)
  obtain⟨x7,d7,vv,hd7,t7⟩:=t6.at w0 (show kf<9 by omega);push_cast[rdX,e6,vv];exact q _ _ _ (hU.trans s6.x) ((iq.same s6).le ω) t7 (PF d7 hd7).Lh
 | bl b=>
  push_cast;refine⟨aQ δ,λt2 cr=>?_⟩;have s2:=au (o:=Do [By "list",By "tuple"]) cr;have cz:=tp.same s2;generalize upd H t2 (Do [By "list",By "tuple"])=H2 at s2 cz |-;subst hke;push_cast;subst hk;refine aM λk hk=>?_;push_cast;refine⟨p,9,B,rfl,cz,by show B+2<=1000100;omega,δ,δ,δ,λz=>absurd z δ,λkf H3 w0 w1 s3 cw=>?_⟩;push_cast;subst hk;have iq:aP H3 p (B+2):=cw;have hU:aR p H H3:=s2.x.trans s3;have hn:=(fr.same s2).gY s3 cw;refine aM λk hk=>?_;refine jY λkt ke hkt hke=>?_;push_cast;subst hke;push_cast;subst hk;refine aM λk hk=>?_;refine jY λkt ke hkt hke=>?_;push_cast;subst hke;push_cast;subst hk;refine Kh (ok:=ok) (.list [.int 0,.int 1,.tuple [],.str "",.none,.bool true,.bool false,.list [],.int 2]) Z ?_ λp6 xs6 H6 s6 e6 po6 t6=>?_
  ·exact eY hn (aG jx (aG jx (aG (jw hn bC (by show 0<=1000000;decide)) (aG pX (aG vQ (aG zR (aG zR (aG (eY hn bC (by show 0<=1000000;decide)) (aG jx bC))))))))) (by show 9<=1000000;decide)
  obtain⟨x7,d7,vv,hd7,t7⟩:=t6.at w0 (show kf<9 by omega);push_cast[rdX,e6,vv];exact q _ _ _ (hU.trans s6.x) ((iq.same s6).le ω) t7 (PF d7 hd7).Lh
end
abbrev mz:List Str:=["_law_tape_here","_law_ask","_law_due","_law_handed","_law_turn","_law_some","_law_before","_law_found"]
abbrev eZ:Stmt:=top 43
def qW:bw mz q8_ (aj eZ):=⟨rfl,rfl,rfl,ψ,rfl,ψ,ψ⟩
def Wq:NM_ mz eZ 0 "_law_tape_here":=.of ψ
def Wo:NM_ mz eZ 1 "_law_ask":=.of ψ
def Wn:NM_ mz eZ 2 "_law_due":=.of ψ
def Ie:NM_ mz eZ 3 "_law_handed":=.of ψ
def Ib:NM_ mz eZ 4 "_law_turn":=.of ψ
def nY:NM_ mz eZ 5 "_law_some":=.of ψ
def Ia:NM_ mz eZ 6 "_law_before":=.of ψ
def yK:NM_ mz eZ 7 "_law_found":=.of ψ
def Gy:GI_ eZ "_law_bent":=ψ
def Kv:GI_ eZ "bool":=ψ
def vW:GI_ eZ "isinstance":=ψ
def Ku:GI_ eZ "list":=ψ
def Gx:GI_ eZ "range":=ψ
def xY:GI_ eZ "repr":=ψ
def abq:Bn "_law_right" := ⟨ψ,ψ⟩
def PJ(p:IN)(H:Hp)(tr:AF->Bool)(s:V->Hp->VK->Prop):Prop:=∀(H':Hp)(B:Int)(l:IN)(d:AF)(Q:VK),aR p H H'->aP H' p B->aJ (·≠p) H' (.ref l) (.list [d])->nodes d<=7000->d.depth<80->(∀H'',Same H' H''->Q (.bl (tr d)) H'')->s (.ref l) H' Q
def Tz(P:AO)(w:Bi)(K:AA)(mg:Str->Option Ap)(base:Heap):Sp:=λvs H Q _=>∃(p fa fd h:IN)(B:Int)(v0:V)(d0:AF)(tr:AF->Bool)(sa sd:V->Hp->VK->Prop),vs=[.ref p,.ref fa,.ref fd,.ref h]/\aP H p B/\0<=B/\B<=700000/\h≠p/\H h=ID (.lst [v0])/\aJ (·≠p) H v0 d0/\szD 0 d0/\(AF.list [d0]).depth<=70/\nodes (.list [d0])<=400 /\
 vd H fa/\vd H fd/\zZ P w K mg base 83 fa sa/\zZ P w K mg base 83 fd sd/\PJ p H tr sa/\PJ p H tr sd/\∀H',aR p H H'->aP H' p (B+400)->Q (.bl true) H'
def uq(h:vd H f)(tp:aP H p B)(s:aR p H H'):vd H' f:=by
 obtain⟨a,b,c,d,e⟩:=h;refine⟨a,b,c,d,s _ _ (λz=>?_) e⟩;obtain⟨_,_,_,e2,_⟩:=tp.ex;rw[z,e2] at e;cases e
section
variable{bs:List Str}
def Z4(hB:∀x:Str,x∈BLs->mg x=IF)(CZBent:Cal P w K mg base "_law_bent" 86 q16_ TQ)(F:Fun K "_law_right" "_law_right" eZ f fd):c7 P w K mg base CX0 87 f fd q8_ (Tz P w K mg base):=by
 refine F.okz qW λaw A outer s H vs Q E hr h=>?_;obtain⟨p,fa,fd,h,B,v0,d0,tr,sa,sd,rfl,tp,kw,ja,nh,eh,t0,PU,yT,i3,ha,hd,La,Ld,Aa,Ad,q⟩:=h;refine⟨_,(aD (gh BN Z (iB Gx (hB "range" eO) (ak aA aq)) (dF Ib qW.nd (.inl Z))
  (aD (aY nY qW.nd (uK (cB (jL hr.cY) (ao Ib) aA (bJ _)) (mL lY Ku (hB "list" jO) F6 kZ (ak (ao Ie) aq)) (bx CZBent (hr.mono δ) Gy ad7 (ak (ao Wq) (ak (ao Ie) aq)))) Z (.inl Z))
  (aD (aY Ia qW.nd (bO (Fb hr.gd hr.aef) xY (hB "repr" Uy) boot_repr Vk (ak (ao nY) aq)) Z (.inl Z))
  (aD (aY yK qW.nd (MJ (k:=83) (hr.mono δ) Wo (ak (ao nY) aq)) Z (.inl Z))
  (aN (fu (JS (Hz (rm (iH (bO dj vW (hB "isinstance" bA) B7 bB (ak (ao yK) (ak (jK "bool" Kv (hB "bool" xJ) boot_bool yh) aq))) (λ_=>rfl))) (Hz (cB (pA hr.cY) (ao yK) (MJ (k:=83) (hr.mono δ) Wn (ak (ao nY) aq)) (bJ _)) (Cz (cB (pA hr.cY) (bO (Fb hr.gd hr.aef) xY (hB "repr" Uy) boot_repr Vk (ak (ao nY) aq)) (ao Ia) (bJ _)))))) (aN (aZ jB)) cQ))))) (λ_=>rfl))
  (aN (aZ jB))),?_⟩
 refine aM λk hk=>?_;refine jE λR hR=>?_;push_cast[sy];refine⟨δ,δ,?_⟩;obtain⟨Pv,ap⟩:∃Pv:Nat->L2.St->Hp->Prop,Pv=λ(i:Nat) σ H'=>aR p H H'/\aP H' p (B+42*(i:Int))/\∃o4 o5 o6 o7,σ=[ID (.ref p),ID (.ref fa),ID (.ref fd),ID (.ref h),o4,o5,o6,o7]:=⟨_,rfl⟩;refine zT hR Pv (by rw[ap];exact⟨aR.refl _ _,tp.le ω,_,_,_,_,rfl⟩) ?_ ?_
 ·intro i σ H1 hi pv;rw[ap] at pv;obtain⟨s1,k9,o4,o5,o6,o7,rfl⟩:=pv;have hi9:i<9:=hi;refine aM λk2 av=>?_;have zo:=s1 _ _ nh eh;have t1:=t0.gY s1;have nl:∀d:AF,nodes (.list [d])=1+(nodes d+0):=λd=>rfl;have dl:∀d:AF,(AF.list [d]).depth=d.depth+1:=λd=>by rw[AF.depth.eq_1,AF.depthAll.eq_2,AF.depthAll.eq_1];simp
  have go:∀(l:IN)(d:AF)(H2:Hp),aR p H1 H2->aP H2 p (B+42*(i:Int)+40)->aJ (·≠p) H2 (.ref l) (.list [d])->szD 2 (.list [d])->nodes (.list [d])<=7000->(AF.list [d]).depth<=80->k2 [ID (.ref p),ID (.ref fa),ID (.ref fd),ID (.ref h),ID (.int (0+(i:Int))),ID (.ref l),o6,o7] H2:=by
   intro l d H2 s2 cz t2 SE wn dL;have hs:Shw (.list [d]):=aeN SE ω ω;rw[dl] at dL;rw[nl] at wn;have PY:=s1.trans s2;subst av;refine aM λk3 rn=>?_;push_cast;refine⟨.ref l,_,_,rfl,t2,hs,?_⟩;push_cast;subst rn;refine aM λk3 rn=>?_;push_cast[Jo];refine⟨uq ha tp PY,uq ha tp PY,sa,La,?_⟩;refine Aa H2 _ l d _ PY cz t2 ω ω λH3 s3=>?_;push_cast;subst rn;have PV:=PY.trans s3.x;push_cast[Jo];refine⟨uq hd tp PV,uq hd tp PV,sd,Ld,?_⟩;refine Ad H3 _ l d _ PV (cz.same s3) (t2.same s3) ω ω λH4 s4=>?_;push_cast;refine⟨.ref l,_,_,rfl,(t2.same s3).same s4,hs,?_⟩;push_cast;rw[ap];exact⟨PV.trans s4.x,((cz.same s3).same s4).le ω,_,_,_,_,rfl⟩
  push_cast;split
  ·refine⟨_,.inl (SqL.of zo),λl hl=>?_⟩;have s2:=au (o:=BY [v0]) hl;refine go l d0 _ s2.x ((k9.same s2).le ω) (.lst (k9.ne hl) aB (by show 1<=1000000;decide) (.cons (t1.same s2) .nil)) ⟨by show 1<=210*5^2;decide,Jp PU,trivial⟩ ω ω
  refine⟨p,h,_,v0,d0,rfl,k9,ω,ω,nh,zo,t1,PU,yT,ω,λl d j H2 s2 cz t2 j1 j2 bn=>?_⟩;have NN:=bn.nd;have hdp2:=bn.dp;have j12:j=1\/j=2:=ω;have SE:szD 2 (.list [d]):=by
   rcases j12 with rfl|rfl
   ·exact vo bn.sz
   exact bn.sz
  have wn:nodes (.list [d])<=7000:=by
   rcases j12 with rfl|rfl
   ·simp only[pow_one] at NN;omega
   rw[show(4:Nat)^2=16 from rfl,show(5:Nat)^2=25 from rfl] at NN;omega
  exact go l d H2 s2 cz t2 SE wn ω
 intro σ H3 pv;rw[ap] at pv;obtain⟨s3,cw,o4,o5,o6,o7,rfl⟩:=pv;show k _ _;subst hk;push_cast;exact q H3 s3 (cw.le ω)
end
abbrev oH:List Str:=["_law_script","_law_k","_law_tape_here","_law_great","_law_stretches_here","_law_many","_law_weights_here","_law_prices_here","_law_paper","_law_ask","_law_due","_law_odd","_law_deep","_law_turn","_law_thing","_law_found","_law_right_here"]
abbrev cX:Stmt:=top 44
def lz:bw oH ["_law_script"] (aj cX):=⟨rfl,rfl,rfl,ψ,rfl,ψ,ψ⟩
def aam:NM_ oH cX 0 "_law_script":=.of ψ
def Rq:NM_ oH cX 1 "_law_k":=.of ψ
def pR:NM_ oH cX 2 "_law_tape_here":=.of ψ
def aal:NM_ oH cX 3 "_law_great":=.of ψ
def Rp:NM_ oH cX 4 "_law_stretches_here":=.of ψ
def aak:NM_ oH cX 5 "_law_many":=.of ψ
def aaj:NM_ oH cX 6 "_law_weights_here":=.of ψ
def aai:NM_ oH cX 7 "_law_prices_here":=.of ψ
def vM:NM_ oH cX 8 "_law_paper":=.of ψ
def Ro:NM_ oH cX 9 "_law_ask":=.of ψ
def Kc:NM_ oH cX 10 "_law_due":=.of ψ
def Ux:NM_ oH cX 11 "_law_odd":=.of ψ
def ud:NM_ oH cX 12 "_law_deep":=.of ψ
def adv:NM_ oH cX 13 "_law_turn":=.of ψ
def Ka:NM_ oH cX 14 "_law_thing":=.of ψ
def Uw:NM_ oH cX 15 "_law_found":=.of ψ
def adu:NM_ oH cX 16 "_law_right_here":=.of ψ
def KH:GI_ cX "_law_prices":=ψ
def Od:GI_ cX "_law_right":=ψ
def Bg:GI_ cX "_law_stretches":=ψ
def qd:GI_ cX "_law_take":=ψ
def RQ:GI_ cX "_law_tape":=ψ
def GF:GI_ cX "_law_weights":=ψ
def WX:GI_ cX "bool":=ψ
def Bf:GI_ cX "isinstance":=ψ
def Oc:GI_ cX "len":=ψ
def aaQ:GI_ cX "min":=ψ
def El:GI_ cX "range":=ψ
def GJ:GI_ cX "run_paper":=ψ
def RP:GI_ cX "tuple":=ψ
def ahh:Stmt->List Stmt
 | .For _ _ b _ _=>b
 | _=>[]
def su:Stmt->C8
 | .Assign _ (.Lambda _ _ sc _) _=>sc
 | st=>aj st
def afR:Stmt->GO
 | .Assign _ (.Lambda a _ _ _) _=>a
 | st=>fJ st
def afQ:Stmt->Expr
 | .Assign _ (.Lambda _ b _ _) _=>b
 | _=>.Name "" ⟨0,0,0,0⟩
def lamP:Stmt->Pos
 | .Assign _ (.Lambda _ _ _ p) _=>p
 | _=>⟨0,0,0,0⟩
def Kg:Stmt:=(ahh ((cZ cX).getD 0 cX)).getD 6 cX
def Kf:Stmt:=(ahh ((cZ cX).getD 0 cX)).getD 7 cX
def quL:Str := "law.<locals>.<lambda>"
def xW:Str := "_law_weights_here"
def xS:Str := "_law_stretches_here"
def xP:Str := "_law_prices_here"
def cl1(n:IN):List (Str×IN):=[(xW,n+2),(xS,n+1),(xP,n)]
def yZ(n:Nat):E9 n (aj cX).names []=cl1 n:=rfl
def yM{x y:Str}{l:List (Str×IN)}(h:(x == y)=false):((y,c)::l).lookup x=l.lookup x:=by rw[DZ,h]
def UG(n:IN):(cl1 n).lookup xW=ID (n+2)/\(cl1 n).lookup xS=ID (n+1)/\(cl1 n).lookup xP=ID n:=
 ⟨Lm,(yM ψ).trans Lm,(yM ψ).trans ((yM ψ).trans Lm)⟩
def clos{st:Stmt}{g:Str}(hn:(su st).names=([("_law_some",.local),(xP,.free),(xS,.free),(xW,.free),(g,.globalImplicit)]:List (Str×BQ))){n:IN}(h:env.cells=cl1 n):FS (su st) env=pure (cl1 n):=by
 obtain⟨l1,l2,l4⟩:=UG n;have hW:LA env xW=pure (n+2):=by unfold LA;rw[h,l1]
 have hS:LA env xS=pure (n+1):=by unfold LA;rw[h,l2]
 have hP:LA env xP=pure n:=by unfold LA;rw[h,l4]
 unfold FS;rw[hn];simp only[E4,forIn_nil,hS,hW,hP];rfl
def gl1:(su Kg).names.lookup ("shows_runs" : Str)=ID .globalImplicit:=by decide +kernel
def gl2:(su Kf).names.lookup ("_law_shows_runs" : Str)=ID .globalImplicit:=by decide +kernel
def R5{n:IN}{y:Str}(h:(cl1 n).lookup y=ID c):(y=xW/\c=n+2)\/(y=xS/\c=n+1)\/(y=xP/\c=n):=by
 have m:=BC h;rcases AX.mp m with z|m
 ·cases z;exact .inl ⟨rfl,rfl⟩
 rcases AX.mp m with z|m
 ·cases z;exact .inr (.inl ⟨rfl,rfl⟩)
 cases AL.mp m;exact .inr (.inr ⟨rfl,rfl⟩)
def afG(n:Nat):n+2≠n+1/\n+2≠n/\n+1≠n:=by omega
def csc{st:Stmt}{g:Str}(hn:(su st).names=([("_law_some",.local),(xP,.free),(xS,.free),(xW,.free),(g,.globalImplicit)]:List (Str×BQ)))(hk:(su st).kind=.function)(h1:(su st).isCoroutine=false)(h2:(su st).isGenerator=false)(hp:(su st).names.lookup ("_law_some" : Str)=ID BQ.local)(hf:∀y∈[xS,xW,xP],(su st).names.lookup y=ID .free)(n:IN):BL "_law_some" [xS,xW,xP] (cl1 n) (su st):=by
 obtain⟨l1,l2,l3⟩:=UG n;obtain⟨n1,n2,n3⟩:=afG n;refine⟨hk,h1,h2,hp,λy h=>?_,hf,λy h=>?_,λy z c h1 h2=>?_⟩
 ·rw[hn] at h;simp only[AX,BB,or_false] at h;rcases h with rfl|rfl|rfl|rfl|rfl <;> exact λz=>by cases z
 ·have m:=BC h;rw[hn] at m;simp only[AX,BB,or_false] at m;rcases m with e|e|e|e|e <;> cases e
  ·exact⟨_,l3⟩
  ·exact⟨_,l2⟩
  exact⟨_,l1⟩
 rcases R5 h1 with⟨e1,f1⟩|⟨e1,f1⟩|⟨e1,f1⟩ <;> rcases R5 h2 with⟨e2,f2⟩|⟨e2,f2⟩|⟨e2,f2⟩ <;>
  first|exact e1.trans e2.symm|(rw[f1] at f2;exact absurd f2 n1)|(rw[f1] at f2;exact absurd f2 n2)|(rw[f1] at f2;exact absurd f2 n3)|(rw[f1] at f2;exact absurd f2.symm n1)|(rw[f1] at f2;exact absurd f2.symm n2)|(rw[f1] at f2;exact absurd f2.symm n3)
def N5{b:IN}(hc:∀c∈cs,∃φ,H c=ID (.ext φ))(e:H b=ID o)(no:∀φ,o≠.ext φ):hidC cs H b=ID o:=(if_neg λhb=>by
 obtain⟨φ,h⟩:=hc b hb;rw[e] at h;exact no φ (A7 h)).trans e
def trD(ss:Sts)(ws zs:List Int)(d:AF):Bool:=@decide (SX ss ws zs ss.length d) (D1 _)
theorem ask{st:Stmt}{ss:Sts}{H:Hp}{f c' n p l wa za:IN}{pm ctv uS uW uP:Ap}{B:Int}{ws zs:List Int}(cs:BL "_law_some" [xS,xW,xP] (cl1 n) (su st))(bd:∀(pm cd ct:Ap)(u:Ap),JO (PySem.W.kla_fn "<lambda>" quL (afR st) (afQ st) (su st) (cl1 n) pm cd ct) ⟨[u],[]⟩=pure [(("_law_some" : Str),u)])
  (hp:∀(A:Bz)(outer:List Env)(s:AB)(H:Hp)(E:XK),gw (82+1) A->QE (aa7 P w K mg base ["_law_some",xS,xW,xP] quL (su st) (cl1 n) f (.ref c') A outer s H E) (afQ st) (uJ qT [] E0 (jX (tV 1) (jX (tV 2) (jX (tV 3) (jX (tOp uy (tV 0) (tC (.int 0))) wD))))))
  (hf:H f=ID (uE f (Dx "<lambda>" quL (afR st) (afQ st) (su st) (cl1 n) pm c' ctv)))(hc:H c'=ID (uZ c' quL))
  (cS:kI H (n+1) uS)(rS:RelV (.ref l) uS)(cW:kI H (n+2) uW)(rW:RelV (.ref wa) uW)(cP:kI H n uP)(rP:RelV (.ref za) uP)(nf:∀c∈(cl1 n).map (·.2),f≠c/\c'≠c)(tp:aP H p B)(ts:aJ (·≠p) H (.ref l) (.list (ss.map stD)))(df:1<=ss.length/\ss.length<=60)(nw:wa≠p)(ew:H wa=ID (.lst (ws.map At)))(ee:ws.length=ss.length)(nz:za≠p)(ez:H za=ID (.tup (zs.map At)))(h5:zs.length=5)(me:∀z∈zs,1<=z/\z<=99)(wm:∀x∈ws,0<=x) :
  ∃s,zZ P w K mg base 83 f s/\PJ p H (trD ss ws zs) s:=by
 obtain⟨l1,l2,l3⟩:=UG n;refine⟨_,adB (name := "<lambda>") (qual:=quL) (params:=afR st) (pm:=pm) (ctv:=ctv) (k:=82) (vs:=[.ref l,.ref wa,.ref za]) cs (λu=>bd _ _ _ u) Z (λA outer s H E hr=>(hp A outer s H E hr).h),?_⟩;intro H' B' l' d Q s' tp' t' hn hd q;have e1:=s' _ _ (qi tp hf) hf;have e2:=s' _ _ (qi tp hc) hc;have cc:∀{c:IN}{u:Ap},kI H c u->kI H' c u:=λ⟨o,e,r⟩=>⟨o,s' _ _ (qi tp e) e,r⟩;have c1:=cc cS;have c2:=cc cW;have c3:=cc cP;have fw:∀c∈(cl1 n).map (·.2),∃u,kI H' c u:=λc hc=>by
  rcases AX.mp hc with rfl|hc
  ·exact⟨_,c2⟩
  rcases AX.mp hc with rfl|hc
  ·exact⟨_,c1⟩
  rw[AL.mp hc];exact⟨_,c3⟩
 have ij:∀c∈(cl1 n).map (·.2),∃φ,H' c=ID (.ext φ):=λc hc=>by
  obtain⟨u,h⟩:=fw c hc;exact h.ext
 refine⟨e1,e2,λy c e=>?_,λi y z e3 e4=>?_,fw,λz=>(nf f z).1 rfl,λz=>(nf c' z).2 rfl,?_⟩
 ·rcases R5 e with⟨_,rfl⟩|⟨_,rfl⟩|⟨_,rfl⟩
  ·exact⟨_,c2⟩
  ·exact⟨_,c1⟩
  exact⟨_,c3⟩
 ·match i,e3,e4 with
  | 0,e3,e4=>cases e3;cases e4;exact⟨uS,n+1,rS,l2,c1⟩
  | 1,e3,e4=>cases e3;cases e4;exact⟨uW,n+2,rW,l1,c2⟩
  | 2,e3,e4=>cases e3;cases e4;exact⟨uP,n,rP,l3,c3⟩
  | i+3,e3,e4=>cases e3
 have Sr:=((ts.gY s').hid ij);have tpH:=tp'.hid ij;have tH:=t'.hid ij;cases tH with
 | lst o e z tt=>
  cases tt with
  | cons td r=>
   cases r;cases Sr with
   | lst ol el zl gu=>
    push_cast[e];exact⟨l,wa,za,_,_,_,_,ss,ws,zs,d,rfl,el,gu,df.1,df.2,N5 ij (s' _ _ nw ew) (λφ z=>by cases z),ee,⟨N5 ij (s' _ _ nz ez) (λφ z=>by cases z),h5,me⟩,wm,tpH.newOk,td,λH2 s2=>q _ (VJ s2)⟩
def TF(K:AA)(T:IN):Sp:=λvs H Q _=>∃(a:IN)(ns:List Int),vs=[.ref a]/\SqL K H a (ns.map At)/\ns.length<=63/\a≠T/\jW H T (lamP Kg) quL/\jW H T (lamP Kf) quL/\∀H',Q (.bl true) H'
def pne:(lamP Kf).line≠(lamP Kg).line\/(lamP Kf).col≠(lamP Kg).col:=by decide +kernel
def ahD:(lamP Kg).line≠(lamP Kf).line\/(lamP Kg).col≠(lamP Kf).col:=by decide +kernel
section
variable{bs:List Str}
theorem afF(hB:∀x:Str,x∈BLs->mg x=IF)(CZTape:Cal P w K mg base "_law_tape" 2 q11_ (Yo K))(CZTake:Cal P w K mg base "_law_take" 2 q0_ (mH 2))(CZStretches:Cal P w K mg base "_law_stretches" 3 q0_ Qj)(CZWeights:Cal P w K mg base "_law_weights" 3 q0_ G9)(CZPrices:Cal P w K mg base "_law_prices" 3 q0_ Ho)
  (CRunPaper:Cal P w K mg base "run_paper" 8 q7_ Cd)(CShowsRuns:Cal P w K mg base "shows_runs" 6 q12_ qT)(CZShowsRuns:Cal P w K mg base "_law_shows_runs" 6 q5_ qT)(CZRight:Cal P w K mg base "_law_right" 87 q8_ (Tz P w K mg base))
  {c T:IN}(CD:Fk base c T)(QR:base.BuiltinsAt mg T){oc kV di pm ct:Ap}{od an:Option IN}{kH:Array (Option Ap)}
  (lk:K.lookup f=ID ⟨oc,od,.func (fnOf "law" "law" (fJ cX) (cZ cX) (aj cX) .none kV di pm an (.ref c) ct),kH⟩)(hcd:codeIn K (.ref c) "law" = true) :
  c7 P w K mg base CX0 88 f (fnOf "law" "law" (fJ cX) (cZ cX) (aj cX) .none kV di pm an (.ref c) ct) ["_law_script"] (TF K T):=by
 refine agg lk hcd lz (λvs H Q E h=>?_) (λA outer s H vs Q E hr h=>?_)
 ·obtain⟨a,ns,rfl,_⟩:=h;rfl
 obtain⟨a,ns,rfl,hS,h63,TJ,y6,y4,q⟩:=h;have OG:FS (su Kg) (F9 "law" (aj cX) s.heap.objs.size f (.ref c))=pure (cl1 (s.heap.objs.size+1)):=clos (g := "shows_runs") Z (yZ _);have OF:FS (su Kf) (F9 "law" (aj cX) s.heap.objs.size f (.ref c))=pure (cl1 (s.heap.objs.size+1)):=clos (g := "_law_shows_runs") Z (yZ _);have hqL:(F9 "law" (aj cX) s.heap.objs.size f (.ref c)).qual ++ "<lambda>" = quL:=by
  show("law" ++ ".<locals>." : Str) ++ "<lambda>" = quL;decide +kernel
 generalize hn:s.heap.objs.size+1=n at OG OF;obtain⟨R',gN⟩:∃R':List (Nat×IN),R'=[(4,n+1),(6,n+2),(7,n)]:=⟨_,rfl⟩;have wv:∀i c',(i,c')∈R'->∃y,oH[i]?=ID y/\(F9 "law" (aj cX) s.heap.objs.size f (.ref c)).kindOf y=ID .cell/\(F9 "law" (aj cX) s.heap.objs.size f (.ref c)).cells.lookup y=ID c'/\true=true:=λi c' hm=>by
  rw[gN] at hm;have OH:(F9 "law" (aj cX) s.heap.objs.size f (.ref c)).cells=cl1 n:=by rw[<- hn];exact yZ _
  obtain⟨l1,l2,l4⟩:=UG n;rcases AX.mp hm with z|hm
  ·cases z;exact⟨xS,rfl,show(aj cX).names.lookup _=_ by decide +kernel,by rw[OH];exact l2,rfl⟩
  rcases AX.mp hm with z|hm
  ·cases z;exact⟨xW,rfl,show(aj cX).names.lookup _=_ by decide +kernel,by rw[OH];exact l1,rfl⟩
  cases AL.mp hm;exact⟨xP,rfl,show(aj cX).names.lookup _=_ by decide +kernel,by rw[OH];exact l4,rfl⟩
 refine⟨_,(aD (gh BN Z (iB El (hB "range" eO) (ak (aL aW aA (bO (Ja Z) aaQ (hB "min" Dw) boot_min Fd (ak aA (ak (bO lZ Oc (hB "len" iK) CA iQ (ak (ao aam) aq)) aq)))) aq)) (dF Rq lz.nd (.inl Z))
  (aD (aY pR lz.nd (bx CZTape (hr.mono δ) RQ ad5 (ak (ao aam) (ak (ao Rq) aq))) Z (.inl Z))
  (aD (aY aal lz.nd (CN (rz (jL hr.cY) (bx CZTake (hr.mono δ) qd cF (ak (ao pR) (ak aA aq))) aA (bJ _)) (CJ (rz (jL hr.cY) (ao Rq) aA (bJ _)))) Z (.inl Z))
  (aD (aY Rp lz.nd (bx CZStretches (hr.mono δ) Bg K7 (ak (ao pR) (ak (uK (iH (ao aal) (λ_=>rfl)) (aL aW aA (bx CZTake (hr.mono δ) qd cF (ak (ao pR) (ak aA aq)))) (aL aW aA (bx CZTake (hr.mono δ) qd cF (ak (ao pR) (ak aA aq))))) aq))) Z (.inl Z))
  (aD (aY aak lz.nd (bO cU Oc (hB "len" iK) CA iQ (ak (ao Rp) aq)) Z (.inl Z))
  (aD (oZ (cD (ak (bx CZWeights (hr.mono δ) GF Sd (ak (ao pR) (ak (ao aak) aq))) (ak (bx CZPrices (hr.mono δ) KH Xq (ak (ao pR) (ak aA aq))) aq))) (gj (n:=2) Z (aV (dF aaj lz.nd (.inl Z)) (aV (dF aai lz.nd (.inl Z)) dM))))
  (aD (aY vM lz.nd (bx CRunPaper (hr.mono δ) GJ Sq (ak (ao Rp) (ak (ao aaj) (ak (ao aai) aq)))) Z (.inl Z))
  (aD (aY Ro lz.nd (Ud OG Z Z CD QR hqL) Z (.inl Z))
  (aD (aY Kc lz.nd (Ud OF Z Z CD QR hqL) Z (.inl Z))
  (aD (fu (rm (iH (ae4 CZRight (hr.mono δ) Od abq wv (ak (ao pR) (ak (ao Ro) (ak (ao Kc) (ak (bI (ak (ao vM) aq)) aq))))) (λ_=>rfl))) (aN (aZ jB)) cQ)
  (aD (aY Ux lz.nd (aU bK (bI (ak yJ (ak aA (ak jB (ak gm (ak (cD aq) (ak (bI aq) (ak (bI (ak (bI aq) aq)) (ak (bI (ak aA aq)) (ak (mL gM RP (hB "tuple" jh) F2 jj (ak (ao vM) aq)) (ak (cO (NX:=oH) (kX:=(aj cX).names) ["_law_row"] [IF] Z Z ⟨rfl,ψ,ψ,ψ,ψ⟩ Z (cJ (ao vM)) (λ_ _ _ _ _=>(bD 0 (show BH (["_law_row"]:List Str) from by decide +kernel) Z (C3 Z))) (λ_ _ _ _ _=>eE) (λ_ _ _ _ _=>(mL (abi (K:=K) Z) Z (hB "tuple" jh) F2 jj (ak (bh 0) aq)))) aq))))))))))) (bx CZTake (hr.mono δ) qd cF (ak (ao pR) (ak aA aq))) (λ_ _=>rfl)) Z (.inl Z))
  (aD (aY ud lz.nd aA Z (.inl Z))
  (aD (gh BN Z (iB El (hB "range" eO) (ak aA aq)) (dF adv lz.nd (.inl Z))
  (aN (aY ud lz.nd (bI (ak (ao ud) aq)) Z (.inl Z))) (λ_=>rfl))
  (aN (gh BN Z (cJ (cD (ak (ao Ux) (ak (ao ud) (ak (aL aW (bI (ak (ao ud) aq)) (bQ qU (ao vM) (bT aA) dw)) (ak (aL aW (bI (ak (aL aW (bI (ak (ao ud) aq)) (bQ qU (aU bK (ao vM) aA (λ_ _=>rfl)) (bT aA) dw)) aq)) (bQ qU (ao vM) (bT aA) dw)) aq)))))) (dF Ka lz.nd (.inl Z))
  (aD (Qw (i:=15) (j:=16) Z lz.nd Z Z δ Z Z (ak (HF (k:=83) (hr.mono δ) wv Ro (ak (bI (ak (ao Ka) aq)) aq)) (ak (HF (k:=83) (hr.mono δ) wv Kc (ak (bI (ak (ao Ka) aq)) aq)) aq)) (by rfl))
  (aN (fu (JS (Hz (rm (iH (bO dj Bf (hB "isinstance" bA) B7 bB (ak (ao Uw) (ak (jK "bool" WX (hB "bool" xJ) boot_bool yh) aq))) (λ_=>rfl))) (Cz (cB (pA hr.cY) (ao Uw) (ao adu) (bJ _))))) (aN (aZ jB)) cQ))) (λ_=>rfl))))))))))))))) (λ_=>rfl))
  (aN (aZ jB))),?_⟩
 refine aM λk hk=>?_;refine jE λR hR=>?_;push_cast[sy];refine⟨_,.inl hS,?_⟩;rw[AG];have m6:(0:Int)<=1+(if (ns.length:Int)<3 then (ns.length:Int) else 3)/\1+(if (ns.length:Int)<3 then (ns.length:Int) else 3)<=4:=by
  split <;> omega
 refine⟨ω,ω,?_⟩;obtain⟨Pv,ap⟩:∃Pv:Nat->L2.St->Hp->Prop,Pv=λ(i:Nat) σ H'=>aR T H H'/\jW H' T (lamP Kg) quL/\jW H' T (lamP Kf) quL/\∃o1 o2 o3 o4 o5 o6 o7 o8 o9 g6 fA eI ya qv qr qo,σ=[ID (.ref a),o1,o2,o3,o4,o5,o6,o7,o8,o9,g6,fA,eI,ya,qv,qr,qo]:=⟨_,rfl⟩;refine zT hR Pv (by rw[ap];exact⟨aR.refl _ _,y6,y4,IF,IF,IF,IF,IF,IF,IF,IF,IF,IF,IF,IF,IF,IF,IF,IF,rfl⟩) ?_ ?_
 ·intro i σ H1 hi pv;rw[ap] at pv;obtain⟨s1,hA1,ja,o1,o2,o3,o4,o5,o6,o7,o8,o9,g6,fA,eI,ya,qv,qr,qo,rfl⟩:=pv;refine aM λk2 av=>?_;push_cast;refine⟨a,ns,(0:Int)+(i:Int),rfl,s1.seq TJ hS,ω,ω,λp H2 hp s2 cz=>?_⟩;push_cast;subst av;refine aM λk2 av=>?_;push_cast;refine⟨p,8,0,rfl,cz,δ,δ,δ,δ,λz=>absurd z δ,λr3 H3 r30 r31 s3 cw=>?_⟩;push_cast;have cont:∀gb:Bool,k2 [ID (.ref a),ID (.int (0+(i:Int))),ID (.ref p),ID (.bl gb),o4,o5,o6,o7,o8,o9,g6,fA,eI,ya,qv,qr,qo] H3:=by
   intro gb;subst av;refine aM λk2 av=>?_;have sk:∀(m2:Int)(H4:Hp),1<=m2->m2<=16->aR p H3 H4->aP H4 p 10->Qj [AT p,At m2] H4 (λx H1=>k2 [ID (.ref a),ID (.int (0+(i:Int))),ID (.ref p),ID (.bl gb),ID x,o5,o6,o7,o8,o9,g6,fA,eI,ya,qv,qr,qo] H1) E0:=by
    intro m2 H4 mE yv s4 dk;refine⟨p,m2,10,rfl,dk,δ,δ,ω,ω,λl ss H5 s5 fF tr5 vS ia mT=>?_⟩;have kl:aR p H1 H5:=((s2.x.trans s3).trans s4).trans s5;obtain⟨nn,wm⟩:∃nn,nn=ss.length:=⟨_,rfl⟩;have sQ:1<=nn/\nn<=16:=ω;have P4:nn<=60:=ω;subst av;refine aM λk2 av=>?_;have K':=tr5;cases tr5 with
    | lst sj j5 zl4 trs4=>
     rename_i xs;have g7:=trs4.length;rw[AG,<- wm] at g7;push_cast[j5];rw[g7];subst av;refine aM λk2 av=>?_;push_cast;refine⟨p,nn,2010,rfl,fF.le δ,δ,δ,ω,λwa ws H5' s5' ip nwa hwa ewa ee hwb=>?_⟩;push_cast;refine⟨p,2010+130,rfl,ip,δ,δ,λza zs H6 s6 jv nza hza eza P6 me=>?_⟩;push_cast;refine⟨aQ δ,λt7 ht7=>?_⟩;have s7:=au (o:=Do [AT wa,AT za]) ht7;have u7:aR p H1 H6:=(kl.trans s5').trans s6;have oq:=jv.same s7;have PP:=((K'.gY s5').gY s6).same s7;have RU:=s7 _ _ (s6 _ _ nwa ewa);have RS:=s7 _ _ eza;have ki:=u7.trans s7.x (p:=p);generalize upd H6 t7 (Do [AT wa,AT za])=H7 at s7 oq PP RU RS ki |-;clear s7 s6 s5 s5' u7 jv fF ip dk cw s2 s3 s4 j5 trs4 K' ewa eza hza hwa ia mT;have NM:∀w∈ws,0<=w:=λw hw=>(hwb w hw).1;have P9:1<=ss.length/\ss.length<=60:=⟨ω,ω⟩;have vw:ws.length=ss.length:=ω;subst av;refine aM λk2 av=>?_;push_cast;have Su:=PP;cases Su with
     | lst okl7 io zl7 J'=>
     refine⟨l,wa,za,_,_,ss,ws,zs,rfl,io,J',P9.1,P9.2,RU,vw,⟨RS,P6,me⟩,λr rs N H8 s8 hr0 er NG rb al=>?_⟩;rw[<- wm] at NG rb al;have nr:r≠p:=oq.ne hr0;have Mm:aJ (·≠p) H8 (.ref r) (pq nn N):=ZP (ok:=(·≠p)) P4 nr er NG λj x hj=>⟨oq.ne (rb j x hj).1,(rb j x hj).2⟩;have hbd:∀a b,a<b->b<=nn->(N a b).natAbs<=10^20:=λa b h1 h2=>by
      have:=al.bd P4 hwb me P6 _ a b Z h1 h2;omega
     have SR:Same H1 H8:=T5 (ki.trans s8.x) hp;have y9:=hA1.same SR;have hB8:=ja.same SR;have Mn:=oq.same s8;have ZB:=PP.same s8;have ew8:=s8 _ _ RU;have ez8:=s8 _ _ RS;clear s8 ki oq PP RU RS er NG rb io J' hr0 kl;subst av;refine aM λk2 av=>?_;refine Pq y9 λf1 c1 ct1 pm1 H10 dA hf1 ef1 ec1 nX oth10=>?_;have rX:=oth10 _ _ pne hB8;show k2 _ _;simp only[FE,EO];subst av;refine aM λk2 av=>?_;refine Pq rX λf2 c2 ct2 pm2 H11 eD hf2 ef2 ec2 WU oth11=>?_;have WV:=oth11 _ _ ahD nX;show k2 _ _;simp only[FE,EO];have tbl:∀{x:V}{d:AF},aJ (·≠p) H8 x d->aJ (·≠p) H11 x d:=λt=>(t.tbl y9 dA).tbl rX eD;have keep:∀{b:IN}{o:HO},(∀ps,o≠.tbl ps)->H8 b=ID o->H11 b=ID o:=λh e=>eD _ _ (nX.ne (dA _ _ (y9.ne e h) e) h) (dA _ _ (y9.ne e h) e);have eJ:=aP.tbl rX eD (aP.tbl y9 dA Mn);have L':=tbl ZB;have kS:=tbl Mm;have OX:=keep (λps z=>by cases z) ew8;have OW:=keep (λps z=>by cases z) ez8;have kc:=eD _ _ (nX.ne ef1 λps z=>by cases z) ef1;have tP:=eD _ _ (nX.ne ec1 λps z=>by cases z) ec1;have SO:aR T H H11:=((s1.trans SR.x).trans dA).trans eD;clear dA eD Mn ZB ew8 ez8 y9 hB8 nX rX oth10 oth11 ef1 ec1 Mm
     -- both made functions tell the paper's truth
     have xI:∀{Hx:Hp}{B:Int}{σ:L2.St}{g:IN->Option Obj},aR p H11 Hx->aP Hx p B->σ[4]?=ID (ID (AT l))->σ[6]?=ID (ID (AT wa))->σ[7]?=ID (ID (AT za))->Bo R' σ Hx g->∃sa sd,zZ P w K mg base 83 f1 sa/\zZ P w K mg base 83 f2 sd/\PJ p (qm g Hx) (trD ss ws zs) sa/\PJ p (qm g Hx) (trD ss ws zs) sd:=by
      intro Hx B σ g sx ZE e4 e6 e7 G;have sG:=G.same;obtain⟨uS,rS,cS,fS⟩:=G.at (i:=4) (c:=n+1) (v:=.ref l) (by rw[gN];simp) e4;obtain⟨uW,rW,cW,fW⟩:=G.at (i:=6) (c:=n+2) (v:=.ref wa) (by rw[gN];simp) e6;obtain⟨uP,rP,cP,fP⟩:=G.at (i:=7) (c:=n) (v:=.ref za) (by rw[gN];simp) e7;have ex1:=sx _ _ (qi eJ kc) kc;have ze:=sx _ _ (qi eJ tP) tP;have ex3:=sx _ _ (qi eJ ef2) ef2;have ex4:=sx _ _ (qi eJ ec2) ec2;have nf:∀{fx cx:IN}{φ φ2:Heap->Prop},Hx fx=ID (.ext φ)->Hx cx=ID (.ext φ2)->∀c∈(cl1 n).map (·.2),fx≠c/\cx≠c:=λh1 h2 c hc=>by
       rcases AX.mp hc with z|hc
       ·rw[z];exact⟨aH h1 fW,aH h2 fW⟩
       rcases AX.mp hc with z|hc
       ·rw[z];exact⟨aH h1 fS,aH h2 fS⟩
       rw[AL.mp hc];exact⟨aH h1 fP,aH h2 fP⟩
      obtain⟨sa,La,Aa⟩:=ask (st:=Kg) (csc (g := "shows_runs") Z Z Z Z ψ ψ n) (λ_ _ _ _=>rfl) (λA outer s H E hr=>bx CShowsRuns ((hr.deeper _).mono δ) gl1 O7 (ak (bh 1) (ak (bh 2) (ak (bh 3) (ak (aU bK (bh 0) aA (λ_ _=>rfl)) aq)))) Z Z) (sG _ _ ex1) (sG _ _ ze) cS rS cW rW cP rP (nf ex1 ze) (ZE.same sG) ((L'.gY sx).same sG) P9 nwa (sG _ _ (sx _ _ nwa OX)) vw nza (sG _ _ (sx _ _ nza OW)) P6 me NM;obtain⟨sd,Ld,Ad⟩:=ask (st:=Kf) (csc (g := "_law_shows_runs") Z Z Z Z ψ ψ n) (λ_ _ _ _=>rfl) (λA outer s H E hr=>bx CZShowsRuns ((hr.deeper _).mono δ) gl2 K8 (ak (bh 1) (ak (bh 2) (ak (bh 3) (ak (aU bK (bh 0) aA (λ_ _=>rfl)) aq)))) Z Z) (sG _ _ ex3) (sG _ _ ex4) cS rS cW rW cP rP (nf ex3 ex4) (ZE.same sG) ((L'.gY sx).same sG) P9 nwa (sG _ _ (sx _ _ nwa OX)) vw nza (sG _ _ (sx _ _ nza OW)) P6 me NM;exact⟨sa,sd,La,Ld,Aa,Ad⟩
     have kz:∀{Hx:Hp},aR p H11 Hx->vd Hx f1/\vd Hx f2:=λsx=>⟨⟨_,_,_,_,sx _ _ (qi eJ kc) kc⟩,⟨_,_,_,_,sx _ _ (qi eJ ef2) ef2⟩⟩;subst av;refine aM λk2 av=>?_;push_cast[Qh];refine⟨aQ δ,λy' hh12=>?_⟩;have db:=au (o:=BY [AT r]) hh12;have xA:upd H11 y' (BY [AT r]) y'=ID (BY [AT r]):=aB;have TD:=eJ.ne hh12;generalize upd H11 y' (BY [AT r])=H12 at db xA |-;have ix:=eJ.same db;intro g G;have sG:=G.same;obtain⟨sa,sd,La,Ld,Aa,Ad⟩:=xI db.x ix Z Z Z G;have dp:=ac4 sQ.2 N;refine⟨p,f1,f2,y',2170,.ref r,pq nn N,_,sa,sd,rfl,(ix.same sG).le δ,δ,δ,TD,sG _ _ xA,(kS.same db).same sG,afv P4 hbd,by rw[Iw];omega,by show 1+(nodes (pq nn N)+0)<=400;omega,(kz (db.trans sG).x).1,(kz (db.trans sG).x).2,La,Ld,Aa,Ad,λH13 ly k8=>?_⟩;obtain⟨gk,pS⟩:=G.back ix ly;refine⟨gk,true,rfl,?_⟩;rw[if_neg δ];have k7:=aP.drop G ix k8;generalize lH g H13=H14 at pS k7 |-;have lI:=db.x.trans pS;have kR:=kS.gY lI;clear G sG gk ly k8 La Ld Aa Ad xA;subst av;refine aM λk2 av=>?_;have qA:=k7.newOk;obtain⟨Rw,Q4⟩:∃Rw,Rw=ac3 nn N:=⟨_,rfl⟩;have WF:Rw.length=nn:=by rw[Q4];unfold ac3;rw[AG,Cf]
     have Re:∀d∈Rw,d.depth<=1/\nodes d<=17:=by rw[Q4];exact Ul sQ.2 N
     have ZO:aJ (·≠p) H14 (.ref r) (.list Rw):=by rw[Q4];exact kR
     have gp:Gv (·≠p) (tV 8) [ID (AT a),ID (At (0+(i:Int))),ID (AT p),ID (As gb),ID (AT l),ID (At (nn:Int)),ID (AT wa),ID (AT za),ID (AT r),ID (AT f1),ID (AT f2),fA,eI,ya,qv,qr,qo] H14 (.list Rw):=Ao Z ZO;refine U3 (ok:=(·≠p)) (.list [.none,.int 0,.bool true,.str "",.tuple [],.list [],.list [.list []],.list [.int 0],.tuple Rw,Tc nn N]) Z ?_ λpo xso H15 iO PC po15 PR=>?_
     ·exact eY qA (aG vQ (aG jx (aG zR (aG pX (aG (jw qA bC (by show 0<=1000000;decide)) (aG (eY qA bC (by show 0<=1000000;decide)) (aG (eY qA (aG (eY qA bC (by show 0<=1000000;decide)) bC) (by show 1<=1000000;decide)) (aG (eY qA (aG jx bC) (by show 1<=1000000;decide)) (aG (aaM qA gp) (aG (adL (K:=K) (j:=8) Z Z P4 qA kR) bC)))))))))) (by show 10<=1000000;decide)
     have pz:=k7.same iO;push_cast;refine⟨p,10,_,rfl,pz,δ,δ,δ,δ,λz=>absurd z δ,λr5 H16 r50 r51 lw fg=>?_⟩;have kQ:=lw _ _ po15 PC;obtain⟨xo,od,UA,hod,uC⟩:=(PR.nj (λa h=>h) lw).at r50 (show r5<10 by omega);have hodd:od.depth<=2/\nodes od<=400:=by
      have td:=X5 sQ.2 N;have tr1:=(yg λd hd=>(Re d hd).1).2;have tr2:=rE λd hd=>(Re d hd).2;rw[WF] at tr2;have tr3:nn*17<=16*17:=LZ _ sQ.2;have tr4:nodes (.tuple Rw)=1+aK Rw:=rfl;simp only[AX,BB,or_false] at hod;rcases hod with rfl|rfl|rfl|rfl|rfl|rfl|rfl|rfl|rfl|rfl
      ·decide
      ·decide
      ·decide
      ·exact⟨DC _,by show 1<=400;decide⟩
      ·decide
      ·decide
      ·decide
      ·decide
      ·exact⟨tr1,by rw[tr4];omega⟩
      exact td
     push_cast[kQ,UA];have M0:=(iO.x (p:=p)).trans lw;clear PC kQ PR gp iO lw pz qA;subst av;refine aM λk2 av=>?_;push_cast;subst av;refine aM λk2 av=>?_;refine jE λR2 hR2=>?_;push_cast[sy];refine⟨δ,δ,?_⟩;obtain⟨Pd,ik⟩:∃Pv:Nat->L2.St->Hp->Prop,Pv=λ(j:Nat) σ H'=>∃(v:V)(x6:Option V),Same H16 H'/\aJ (·≠p) H' v (mV j)/\σ=[ID (AT a),ID (At (0+(i:Int))),ID (AT p),ID (As gb),ID (AT l),ID (At (nn:Int)),ID (AT wa),ID (AT za),ID (AT r),ID (AT f1),ID (AT f2),ID xo,ID v,x6,qv,qr,qo]:=⟨_,rfl⟩;refine zT (n:=77) hR2 Pd (by rw[ik];exact⟨_,_,Same.refl _,.int 0,rfl⟩) ?_ ?_
     ·intro j σ H17 hj pd;rw[ik] at pd;obtain⟨v,x6,hZ,x4,rfl⟩:=pd;push_cast;refine⟨aQ δ,λl7 hl7=>?_⟩;rw[ik];have MZ:=au (o:=BY [v]) hl7;exact⟨_,_,hZ.trans MZ,.lst ((fg.same hZ).ne hl7) aB (by show 1<=1000000;decide) (.cons (x4.same MZ) .nil),rfl⟩
     intro σ H17 pd;rw[ik] at pd;obtain⟨v,x6,hZ,x4,rfl⟩:=pd;show k2 _ _;subst av;refine jE λR3 hR3=>?_;have sg:=M0.trans hZ.x;have md:=(fg.same hZ).newOk;have ir:=fg.same hZ;have sf:=uC.same hZ;have jI:=ZO.gY sg;obtain⟨Rs,eRs⟩:∃Rs,Rw=.list ((iY nn N 0).map AF.int)::Rs:=by
      rw[Q4];unfold ac3;rw[show nn=(nn-1)+1 by omega,IU];exact⟨_,rfl⟩
     have gx:∀{j:Nat}{x:V}{d:AF},[ID (AT a),ID (At (0+(i:Int))),ID (AT p),ID (As gb),ID (AT l),ID (At (nn:Int)),ID (AT wa),ID (AT za),ID (AT r),ID (AT f1),ID (AT f2),ID xo,ID v,x6,qv,qr,qo][j]?=ID (ID x)->aJ (·≠p) H17 x d->Gv (·≠p) (tV j) [ID (AT a),ID (At (0+(i:Int))),ID (AT p),ID (As gb),ID (AT l),ID (At (nn:Int)),ID (AT wa),ID (AT za),ID (AT r),ID (AT f1),ID (AT f2),ID xo,ID v,x6,qv,qr,qo] H17 d:=λh t=>Ao h t;have cl:∀(D:List AF) lo hi,D.length<=16->(cutD D lo hi).length<=16:=λD lo hi h=>BU (tE _ _ _) h;have UV:((iY nn N 0).map AF.int).length<=16:=by rw[AG,iW];omega
     refine aaF (ok:=(·≠p)) (ds:=[od,mV 77,.list ([mV 77]++cutD Rw (ID 1) IF),.list ([.list ([mV 77]++cutD ((iY nn N 0).map AF.int) (ID 1) IF)]++cutD Rw (ID 1) IF)]) ?_ λpt xt H18 MZ Pt t18=>?_
     ·exact jw md (aG (gx Z sf) (aG (gx Z x4) (aG (sE md (eY md (aG (gx Z x4) bC) (by show 1<=1000000;decide)) (ji md (gx Z jI) (λH Q q=>⟨_,rfl,q⟩) (λH Q q=>q)) (by have:=cl Rw (ID 1) IF ω;show 1+_<=1000000;omega)) (aG (sE md (eY md (aG (sE md (eY md (aG (gx Z x4) bC) (by show 1<=1000000;decide)) (ji md (agb (ds:=Rs) (gx Z (eRs ▸ jI))) (λH Q q=>⟨_,rfl,q⟩) (λH Q q=>q)) (by have:=cl _ (ID 1) IF UV;show 1+_<=1000000;omega)) bC) (by show 1<=1000000;decide)) (ji md (gx Z jI) (λH Q q=>⟨_,rfl,q⟩) (λH Q q=>q)) (by have:=cl Rw (ID 1) IF ω;show 1+_<=1000000;omega)) bC)))) (by show 4<=1000000;decide)
     have yB:∀d∈[od,mV 77,.list ([mV 77]++cutD Rw (ID 1) IF),.list ([.list ([mV 77]++cutD ((iY nn N 0).map AF.int) (ID 1) IF)]++cutD Rw (ID 1) IF)],nodes d<=7000/\d.depth<80:=by
      have i5:=Ox 77;have one:∀(d0:AF)(D:List AF)(k m:Nat),d0.depth<=k->nodes d0<=m->(∀d∈D,d.depth<=1/\nodes d<=17)->1<=k->17<=m->D.length<=16->(AF.list ([d0]++cutD D (ID 1) IF)).depth<=k+1/\nodes (.list ([d0]++cutD D (ID 1) IF))<=1+17*m:=by
       intro d0 D k m h1 h2 h3 h4 h5 h6;have e:∀d∈[d0]++cutD D (ID 1) IF,d.depth<=k/\nodes d<=m:=λd hd=>by
        rcases BG.mp hd with hd|hd
        ·rw[AL.mp hd];exact⟨h1,h2⟩
        have:=h3 d (Ew hd);omega
       have g1:=(yg λd hd=>(e d hd).1).1;have g2:=rE λd hd=>(e d hd).2;have g3:=cl D (ID 1) IF h6;have g4:([d0]++cutD D (ID 1) IF).length*m<=17*m:=LZ _ (by rw[AQ];show 1+_<=17;omega);exact⟨g1,by show 1+aK _<=_;omega⟩
      have a1:=one (mV 77) Rw 77 78 ω ω Re δ δ ω;have a2:=one (mV 77) ((iY nn N 0).map AF.int) 77 78 ω ω (λd hd=>by
       obtain⟨z,_,rfl⟩:=Ch.mp hd;exact⟨DC _,by show 1<=17;decide⟩) δ δ UV
      have b1:nodes (.list ([mV 77]++cutD ((iY nn N 0).map AF.int) (ID 1) IF))<=400:=by
       have h1:aK (cutD ((iY nn N 0).map AF.int) (ID 1) IF)<=(cutD ((iY nn N 0).map AF.int) (ID 1) IF).length*1:=rE λd hd=>by
        obtain⟨z,_,rfl⟩:=Ch.mp (Ew hd);show 1<=1;decide
       have h2:=cl _ (ID 1) IF UV;show 1+(nodes (mV 77)+aK (cutD ((iY nn N 0).map AF.int) (ID 1) IF))<=400;omega
      have a3:=one _ Rw 78 400 a2.1 b1 Re δ δ ω;intro d hd;simp only[AX,BB,or_false] at hd;rcases hd with rfl|rfl|rfl|rfl
      ·omega
      ·omega
      ·omega
      omega
     have k6:=ir.same MZ;have lj:=sg.trans MZ.x;clear gx md ir sf jI x4 cl;obtain⟨Px,ku⟩:∃Pv:Nat->L2.St->Hp->Prop,Pv=λ(j:Nat) σ H'=>∃(M' M3 SZ:Option V)(B:Int),aR p H18 H'/\aP H' p B/\σ=[ID (AT a),ID (At (0+(i:Int))),ID (AT p),ID (As gb),ID (AT l),ID (At (nn:Int)),ID (AT wa),ID (AT za),ID (AT r),ID (AT f1),ID (AT f2),ID xo,ID v,x6,M',M3,SZ]:=⟨_,rfl⟩;refine ahf hR3 (xs:=xt) Px (by rw[ku];exact⟨_,_,_,_,aR.refl _ _,k6,rfl⟩) (λj σ H' px=>?_) ?_ ?_
     ·rw[ku] at px;obtain⟨_,_,_,_,s',_⟩:=px;exact s' _ _ (k6.net Pt) Pt
     ·intro j2 y σ H20 hy px;rw[ku] at px;obtain⟨M',M3,SZ,B,MY,uB,rfl⟩:=px;obtain⟨d,hd,td⟩:=(t18.nj (λa h=>h) MY).get hy;obtain⟨i3,yT⟩:=yB d (AY hd);have iF:aR p H11 H20:=lI.trans (lj.trans MY);push_cast[Jm];refine⟨(kz iF).1,aQ δ,λh1 hh1=>?_⟩;have u1:=au (o:=BY [y]) hh1;have zo:upd H20 h1 (BY [y]) h1=ID (BY [y]):=aB;have nh1:=uB.ne hh1;generalize upd H20 h1 (BY [y])=H21 at u1 zo |-;have u8:=iF.trans u1.x;have kg:=uB.same u1;refine⟨(kz u8).1,λg G=>?_⟩;obtain⟨sa,sd,La,Ld,Aa,Ad⟩:=xI u8 kg Z Z Z G;refine⟨sa,La,Aa _ _ h1 d _ (aR.refl _ _) (kg.same G.same) (.lst nh1 (G.same _ _ zo) (by show 1<=1000000;decide) (.cons ((td.same u1).same G.same) .nil)) i3 yT λH22 s22=>?_⟩;obtain⟨gk,lr⟩:=G.back kg s22.x;refine⟨gk,?_⟩;have uA:=aP.drop G kg ((kg.same G.same).same s22);generalize lH g H22=H23 at lr uA |-;have lv:=(u1.x (p:=p)).trans lr;have MM:=iF.trans lv;clear G gk s22 La Ld Aa Ad u8 kg zo u1;refine⟨(kz MM).2,aQ δ,λh2 hh2=>?_⟩;have u2:=au (o:=BY [y]) hh2;have eh2:upd H23 h2 (BY [y]) h2=ID (BY [y]):=aB;have nh2:=uA.ne hh2;generalize upd H23 h2 (BY [y])=H24 at u2 eh2 |-;have ML:=MM.trans u2.x;have kU:=uA.same u2;refine⟨(kz ML).2,λg G=>?_⟩;obtain⟨sa,sd,La,Ld,Aa,Ad⟩:=xI ML kU Z Z Z G;refine⟨sd,Ld,Ad _ _ h2 d _ (aR.refl _ _) (kU.same G.same) (.lst nh2 (G.same _ _ eh2) (by show 1<=1000000;decide) (.cons (((td.nj (λa h=>h) lv).same u2).same G.same) .nil)) i3 yT λH25 s25=>?_⟩;obtain⟨gk,s26⟩:=G.back kU s25.x;refine⟨gk,?_⟩;have Mo:=aP.drop G kU ((kU.same G.same).same s25);generalize lH g H25=H26 at s26 Mo |-;refine⟨"bool",rfl,?_⟩;rw[if_neg (show ¬(!fY "bool" "bool")=true by decide +kernel)];push_cast;rw[ku];exact⟨_,_,_,_,MY.trans (lv.trans ((u2.x (p:=p)).trans s26)),Mo,rfl⟩
     intro σ H20 px;rw[ku] at px;obtain⟨M',M3,SZ,B,MY,uB,rfl⟩:=px;show Pv _ _ _;rw[ap];have nap:∀b o,b≠T->H b=ID o->b≠p:=λb o nb e=>aH (s1 _ _ nb e) hp;have iF:aR p H11 H20:=lI.trans (lj.trans MY);exact⟨λb o nb e=>iF _ _ (nap b o nb e) (SO _ _ nb e),WV.abP eJ iF,WU.abP eJ iF,_,_,_,_,_,_,_,_,_,_,_,_,_,_,_,_,rfl⟩
   push_cast;cases gb with
   | true=>
    push_cast;refine⟨p,7,2,rfl,cw,δ,δ,δ,δ,λz=>absurd z δ,λr4 H4 r40 r41 s4 dk=>?_⟩;push_cast;exact sk _ H4 ω ω s4 (dk.le δ)
   | false=>
    push_cast;refine⟨p,9,2,rfl,cw,δ,δ,δ,δ,λz=>absurd z δ,λr4 H4 r40 r41 s4 dk=>?_⟩;push_cast;exact sk _ H4 ω ω s4 (dk.le δ)
  split
  ·exact cont _
  exact cont _
 intro σ H1 pv;rw[ap] at pv;obtain⟨s1,hA1,ja,o1,o2,o3,o4,o5,o6,o7,o8,o9,g6,fA,eI,ya,qv,qr,qo,rfl⟩:=pv;show k _ _;subst hk;push_cast;exact q _
end
theorem all_mk{l:PySem.W.OpenLaw}{w:Bi}{K:AA}{h:Heap}{mg:Str->Option Ap}{fa cb T:IN}{cp:Tok}{bX:Tok}{be:IN}{vn:Nat}{pM:Array (Option Ap)}{qE kTests1 kTests2 kTests3 kTests4:Tok}(X:K.In h)(G:h.Ns B8 mg)(hfa:mg "law" = ID (.ref fa))
  (d1:DB K "is_number" j7)
  (d2:DB K "numbers_across" ig)
  (d3:DB K "labels_left" lB)
  (d4:DB K "step_costs" dI)
  (d5:DB K "word_of_test" lA)
  (d6:DB K "tests_in_order" bM)
  (d7:DB K "row_by" nq)
  (d8:DB K "row_cost" dY)
  (d9:DB K "rows_for" fQ)
  (d10:DB K "runs_of_row" jr)
  (d11:DB K "ways_of_run" bf)
  (d12:DB K "bounds_of" nR)
  (d13:DB K "is_list_of_numbers" bV)
  (d14:DB K "is_run_paper" dB)
  (d15:DB K "shows_runs" bY)
  (d16:DB K "least_by" fj)
  (d17:DB K "leasts_of_runs" bN)
  (d18:DB K "run_paper" dU)
  (d19:DB K "_law_cell_at" nQ)
  (d20:DB K "_law_tape" oW)
  (d21:DB K "_law_take" oX)
  (d22:DB K "_law_stretches" bZ)
  (d23:DB K "_law_weights" iy)
  (d24:DB K "_law_prices" iV)
  (d25:DB K "_law_run_ways" bU)
  (d26:DB K "_law_row_cost" cu)
  (d27:DB K "_law_shows_runs" aX)
  (d28:DB K "_law_spots" iz)
  (d29:DB K "_law_as" Qs)
  (d30:DB K "_law_step_of_many" bR)
  (d31:DB K "_law_step" gZ)
  (d32:DB K "_law_bent_at" g8)
  (d33:DB K "_law_bent" jq)
  (d34:DB K "_law_right" eZ)
  (d35:DBc K "law" cX cb)
  (z:NS K BLs)
  (w1:nsIn K B8 "MOST_IN_MASK" = ID (ID (.int 64 cp)))
  (w2:nsIn K B8 "MOST_IN_TABLE" = ID (ID (.int 200 bX)))
  (t1:nsIn K B8 "TESTS" = ID (ID (.ref be)))(u1:K.lookup be=ID ⟨.type "tuple",IF,.seq #[.str "is" qE,.str "within" kTests1,.str "below" kTests2,.str "mask" kTests3,.str "table" kTests4] vn,pM⟩)(hd37:PySem.W.codeHdIn K cb T=true) :
  ∃fd:CU,(∀(s:AB)(v:Ap),BindsTo s fd ⟨[v],[]⟩ [("_law_script",v)])/\∀base:Heap,K.In base->base.Ns B8 mg->base.BuiltinsAt mg T->c7 l.prog w K mg base CX0 88 fa fd ["_law_script"] (TF K T):=by
 obtain⟨fl,odl,anl,sll,ocl,kVl,dcl,pml,ctl,dl⟩:=d35;have e:=hfa.symm.trans (mg_of X G dl.a);cases e;obtain⟨_,_,DIsNumber⟩:=d1.d ["thing"] X G;obtain⟨_,_,DNumbersAcross⟩:=d2.d q13_ X G;obtain⟨_,_,DLabelsLeft⟩:=d3.d q13_ X G;obtain⟨_,_,DStepCosts⟩:=d4.d q18_ X G;obtain⟨_,_,DWordOfTest⟩:=d5.d q22_ X G;obtain⟨_,_,DTestsInOrder⟩:=d6.d q2_ X G;obtain⟨_,_,DRowBy⟩:=d7.d q17_ X G;obtain⟨_,_,DRowCost⟩:=d8.d q9_ X G;obtain⟨_,_,DRowsFor⟩:=d9.d q2_ X G;obtain⟨_,_,DRunsOfRow⟩:=d10.d ["many"] X G;obtain⟨_,_,DWaysOfRun⟩:=d11.d q10_ X G;obtain⟨_,_,DBoundsOf⟩:=d12.d q21_ X G;obtain⟨_,_,DIsListOfNumbers⟩:=d13.d q15_ X G;obtain⟨_,_,DIsRunPaper⟩:=d14.d q15_ X G;obtain⟨_,_,DShowsRuns⟩:=d15.d q12_ X G;obtain⟨_,_,DLeastBy⟩:=d16.d q19_ X G;obtain⟨_,_,DLeastsOfRuns⟩:=d17.d q7_ X G;obtain⟨_,_,DRunPaper⟩:=d18.d q7_ X G;obtain⟨_,_,DZCellAt⟩:=d19.d q11_ X G;obtain⟨_,_,DZTape⟩:=d20.d q11_ X G;obtain⟨_,_,DZTake⟩:=d21.d q0_ X G;obtain⟨_,_,DZStretches⟩:=d22.d q0_ X G;obtain⟨_,_,DZWeights⟩:=d23.d q0_ X G;obtain⟨_,_,DZPrices⟩:=d24.d q0_ X G;obtain⟨_,_,DZRunWays⟩:=d25.d q1_ X G;obtain⟨_,_,DZRowCost⟩:=d26.d q4_ X G;obtain⟨_,_,DZShowsRuns⟩:=d27.d q5_ X G;obtain⟨_,_,DZSpots⟩:=d28.d q20_ X G;obtain⟨_,_,DZAs⟩:=d29.d q14_ X G;obtain⟨_,_,DZStepOfMany⟩:=d30.d q6_ X G;obtain⟨_,_,DZStep⟩:=d31.d q6_ X G;obtain⟨_,_,DZBentAt⟩:=d32.d q3_ X G;obtain⟨_,_,DZBent⟩:=d33.d q16_ X G;obtain⟨_,_,DZRight⟩:=d34.d q8_ X G;have DLaw:=dl.d ["_law_script"] X G λ_ _ _ _ _ _ us hl=>by obtain⟨z0,rfl⟩:=ln1 hl;rfl
 have cq:mg "MOST_IN_MASK" = ID (.int 64 cp):=mg_of X G w1;have ca:mg "MOST_IN_TABLE" = ID (.int 200 bX):=mg_of X G w2;have da:mg "TESTS" = ID (.ref be):=mg_of X G t1;have bv:KTup K be ([("is" : Str),("within" : Str),("below" : Str),("mask" : Str),("table" : Str)].map AS):=⟨_,_,_,u1,rfl,rfl,rfl,aQ (show 5<=1000000 by decide),(.cons ⟨_,rfl⟩ (.cons ⟨_,rfl⟩ (.cons ⟨_,rfl⟩ (.cons ⟨_,rfl⟩ (.cons ⟨_,rfl⟩ .nil)))))⟩;have hB:∀x:Str,x∈BLs->mg x=IF:=λx hx=>PySem.W.mg_none_of X G (z.all x hx);refine⟨fnOf "law" "law" (fJ cX) (cZ cX) (aj cX) .none kVl dcl pml anl (.ref cb) ctl,λs v=>.of_eq rfl,λbase kb nb QR=>?_⟩;have CCell:=DZCellAt.cal (ade (P:=l.prog) (w:=w) (base:=base) hB DZCellAt.fn);have CTape:=DZTape.cal (ac8 hB CCell DZTape.fn);have CTake0:=DZTake.cal (Vx (P:=l.prog) (w:=w) (mg:=mg) (base:=base));have CTake1:=DZTake.cal (Us (n:=0) hB δ CTake0 DZTake.fn);have CTake2:=DZTake.cal (Us (n:=1) hB δ CTake1 DZTake.fn);have CSts:=DZStretches.cal (afE hB CTake2 DZStretches.fn);have CWts:=DZWeights.cal (QM hB CTake2 DZWeights.fn);have CPrs:=DZPrices.cal (Wh hB CTake2 DZPrices.fn);have CAcross:=DNumbersAcross.cal (Wj (P:=l.prog) (w:=w) (base:=base) hB DNumbersAcross.fn);have CLabs:=DLabelsLeft.cal (ada (P:=l.prog) (w:=w) (base:=base) hB DLabelsLeft.fn);have CNum:=DIsNumber.cal (Z6 (P:=l.prog) (w:=w) (base:=base) hB DIsNumber.fn);have CWordT:=DWordOfTest.cal (ZV (P:=l.prog) (w:=w) (mg:=mg) (base:=base) DWordOfTest.fn);have CTestsO:=DTestsInOrder.cal (Wd hB CWordT DTestsInOrder.fn);have CRowBy:=DRowBy.cal (Z2 (P:=l.prog) (w:=w) (base:=base) hB DRowBy.fn);have CRowCost:=DRowCost.cal (QZ (P:=l.prog) (w:=w) (base:=base) hB da bv DRowCost.fn);have CRows:=DRowsFor.cal (QX hB CTestsO CRowCost CRowBy DRowsFor.fn);have CStepC:=DStepCosts.cal (ZX (P:=l.prog) (w:=w) (base:=base) hB da bv DStepCosts.fn);have CRunsOf:=DRunsOfRow.cal (Er λn=>Wg (n:=n) (P:=l.prog) (w:=w) (base:=base) hB DRunsOfRow.fn);have CWaysR:=DWaysOfRun.cal (ZW hB cq ca CAcross CLabs CStepC CRows DWaysOfRun.fn);have CLeastBy:=DLeastBy.cal (Er λn:(Nat->Nat->Int)×(Nat->Nat->AF)=>Q5 (N:=n.1) (T:=n.2) hB (DBoundsOf.cal (HS (N:=n.1) (P:=l.prog) (w:=w) (base:=base) hB DBoundsOf.fn)) DLeastBy.fn);have CLeasts:=DLeastsOfRuns.cal (Q0 hB CRunsOf CWaysR CLeastBy DLeastsOfRuns.fn);have CListN:=DIsListOfNumbers.cal (Z5 hB CNum DIsListOfNumbers.fn);have CIsRP:=DIsRunPaper.cal (adb hB CListN DIsRunPaper.fn);have CBoundsE:=DBoundsOf.cal (Er λn=>HS (N:=n) (P:=l.prog) (w:=w) (base:=base) hB DBoundsOf.fn);have CShows:=DShowsRuns.cal (Wf hB CIsRP CRunsOf CBoundsE CWaysR DShowsRuns.fn);have CRunP:=DRunPaper.cal (M7 hB CLeasts DRunPaper.fn);have CZRowCost:=DZRowCost.cal (M6 (P:=l.prog) (w:=w) (base:=base) hB DZRowCost.fn);have CZRunWays:=DZRunWays.cal (QV hB CZRowCost DZRunWays.fn);have CZShows:=DZShowsRuns.cal (QL hB CZRunWays DZShowsRuns.fn)
 have CAs:=DZAs.cal (ag6 (P:=l.prog) (w:=w) (base:=base) hB DZAs.fn);have CSMany:=DZStepOfMany.cal (Z1 hB CTake2 CAs DZStepOfMany.fn);have CStp:∀n,Cal l.prog w K mg base "_law_step" (n+4) q6_ (wF false):=λn=>DZStep.cal ((ac9 hB CTake2 CSMany DZStep.fn).mono ω);have CSp:∀n,n<=100->Cal l.prog w K mg base "_law_spots" n q20_ (nO n):=by
  intro n
  induction n with
  | zero=>exact λ_=>DZSpots.cal (Qi (P:=l.prog) (w:=w) (mg:=mg) (base:=base))
  | succ n ih=>exact λh=>DZSpots.cal (Z0 ω hB (ih ω) DZSpots.fn)
 have CBt:∀n,Cal l.prog w K mg base "_law_bent_at" (n+4) q3_ (mC n):=by
  intro n
  induction n with
  | zero=>exact DZBentAt.cal (O9 (P:=l.prog) (w:=w) (mg:=mg) (base:=base))
  | succ n ih=>exact DZBentAt.cal (Wi hB (CStp n) CAs ih DZBentAt.fn)
 have CBent:=DZBent.cal (adf hB CTake2 (CSp 81 δ) (CBt 81) DZBent.fn);have CRight:=DZRight.cal (Z4 hB CBent DZRight.fn);exact afF hB CTape CTake2 CSts CWts CPrs CRunP CShows CZShows CRight (PySem.W.codeHd_of_K kb hd37) QR dl.l dl.c
theorem walk{l:PySem.W.OpenLaw}{q:AO}{h8:List Str}{XP:(Str->Option Ap)->Heap->Prop}{YP:Bi->Heap->Prop}{d:DefRec}{K:Params->AA}(cb T:IN)(hn:l.most=ID 63)(OE:d.params.defaults=[])
  (hY:∀(w:Bi)(h:Heap),YP w h->(K w.params).In h/\h.get? T=ID (LX #[])/\(K w.params).lookup T=IF/\Fk h cb T)
   (F:∀(w:Bi)(mg:Str->Option Ap)(fa:IN)(h:Heap),(K w.params).In h->h.Ns B8 mg->mg d.name=ID (.ref fa) ->
   ∃fd:CU,(∀(s:AB)(u:Ap),BindsTo s fd ⟨[u],[]⟩ [("_law_script",u)])/\∀base:Heap,(K w.params).In base->base.Ns B8 mg->base.BuiltinsAt mg T->c7 l.prog w (K w.params) mg base CX0 88 fa fd ["_law_script"] (TF (K w.params) T))
  (OR:∀w:Bi,(K w.params).lookup T=IF) :
  PySem.W.WalkO q h8 XP YP l.row.toRowW d [] (λf vs=>PySem.call f vs):=
 L2.XF (n:=63) (k:=88) (x := "_law_script") (c:=cb) (T:=T) (CX:=λ_=>CX0) (sp:=λw=>TF (K w.params) T) hn δ OE ⟨rfl,δ,δ,rfl⟩ hY F (λw H a ns hl hT hS=>⟨a,ns,rfl,hS,hl,(λz=>by
  subst z;rcases hS with h|⟨o,vs,e,h,_⟩
  ·rcases h with h|⟨o,h⟩
   ·rw[hT] at h;cases h
   rw[hT] at h;cases h
  rw[OR] at h;cases h),⟨#[],hT,trivial,.inl rfl⟩,⟨#[],hT,trivial,.inl rfl⟩,λ_=>rfl⟩) λ_ _ _ _ _ z=>z
end K32
namespace PySem.W.Fast
theorem tw10453067796227341086:True:=⟨⟩
theorem tw10740748589377180291:True:=⟨⟩
theorem tw10846450618182696552:True:=⟨⟩
theorem tw11542396003849917822:True:=⟨⟩
theorem tw11795169796092687503:True:=⟨⟩
theorem tw12716174661245067125:True:=⟨⟩
theorem tw13342773904794259402:True:=⟨⟩
theorem tw13362649104968893359:True:=⟨⟩
theorem tw13404998423716856701:True:=⟨⟩
theorem tw14288023062396130901:True:=⟨⟩
theorem tw14351946723326937260:True:=⟨⟩
theorem tw15636491694143021918:True:=⟨⟩
theorem tw15784412835493194819:True:=⟨⟩
theorem tw16120398447914654494:True:=⟨⟩
theorem tw16363812885000495963:True:=⟨⟩
theorem tw1652410307430241365:True:=⟨⟩
theorem tw16570583292428917926:True:=⟨⟩
theorem tw16707942556980985052:True:=⟨⟩
theorem tw17136228445474757606:True:=⟨⟩
theorem tw17172227103380973475:True:=⟨⟩
theorem tw17275500292923340666:True:=⟨⟩
theorem tw17814259261965356910:True:=⟨⟩
theorem tw17857295199697189428:True:=⟨⟩
theorem tw17893700096848269478:True:=⟨⟩
theorem tw17990636327560175366:True:=⟨⟩
theorem tw18014587773002640853:True:=⟨⟩
theorem tw18247910573915546550:True:=⟨⟩
theorem tw18258185729972440429:True:=⟨⟩
theorem tw18394634978546434197:True:=⟨⟩
theorem tw1859839441185036845:True:=⟨⟩
theorem tw1895703894602225130:True:=⟨⟩
theorem tw1900025642756168145:True:=⟨⟩
theorem tw1909735290852646698:True:=⟨⟩
theorem tw2277512038513753240:True:=⟨⟩
theorem tw2310281579985978742:True:=⟨⟩
theorem tw2780096787231678922:True:=⟨⟩
theorem tw2801123371152780832:True:=⟨⟩
theorem tw2998549052835053866:True:=⟨⟩
theorem tw3160075371249817336:True:=⟨⟩
theorem tw3242610007925711204:True:=⟨⟩
theorem tw3633592790778781334:True:=⟨⟩
theorem tw3778092615829622176:True:=⟨⟩
theorem tw4616315501761984129:True:=⟨⟩
theorem tw5066716099146640263:True:=⟨⟩
theorem tw5363803821418408661:True:=⟨⟩
theorem tw5657836678395458414:True:=⟨⟩
theorem tw5683153024459050896:True:=⟨⟩
theorem tw5788456230287670982:True:=⟨⟩
theorem tw5816508630023251142:True:=⟨⟩
theorem tw6071435716360168033:True:=⟨⟩
theorem tw6533218863854850704:True:=⟨⟩
theorem tw7305876366046292014:True:=⟨⟩
theorem tw7721125467675207944:True:=⟨⟩
theorem tw7749254992232365476:True:=⟨⟩
theorem tw8079771183386808759:True:=⟨⟩
theorem tw8176024376565631900:True:=⟨⟩
theorem tw8555510313759086961:True:=⟨⟩
theorem tw8773223934762810397:True:=⟨⟩
theorem tw87831102907026595:True:=⟨⟩
theorem tw9465115956333774867:True:=⟨⟩
theorem tw10021578117360475358:True:=⟨⟩
theorem tw10143833312525915009:True:=⟨⟩
theorem tw10147395532565955412:True:=⟨⟩
theorem tw10322578882450018975:True:=⟨⟩
theorem tw10433367625282943817:True:=⟨⟩
theorem tw10524696572177935072:True:=⟨⟩
theorem tw10993978331872302245:True:=⟨⟩
theorem tw11303260271657286220:True:=⟨⟩
theorem tw11327914056760627758:True:=⟨⟩
theorem tw11483879263947032511:True:=⟨⟩
theorem tw11497758758458017746:True:=⟨⟩
theorem tw11771134175984430601:True:=⟨⟩
theorem tw1184417883297793712:True:=⟨⟩
theorem tw12032736562515831404:True:=⟨⟩
theorem tw1208200963126338974:True:=⟨⟩
theorem tw12334305096684246759:True:=⟨⟩
theorem tw12358679469215457935:True:=⟨⟩
theorem tw1312958977665791871:True:=⟨⟩
theorem tw13137887116339523702:True:=⟨⟩
theorem tw13237392833338336524:True:=⟨⟩
theorem tw13429848551744618262:True:=⟨⟩
theorem tw13456814032341986684:True:=⟨⟩
theorem tw1369381279090355287:True:=⟨⟩
theorem tw14011870802871863141:True:=⟨⟩
theorem tw14527281124632427364:True:=⟨⟩
theorem tw14818522548088055946:True:=⟨⟩
theorem tw14840338561260150487:True:=⟨⟩
theorem tw14885607157908545423:True:=⟨⟩
theorem tw14992732480914380331:True:=⟨⟩
theorem tw15217225543712744844:True:=⟨⟩
theorem tw1587398278878715191:True:=⟨⟩
theorem tw16230426070001820832:True:=⟨⟩
theorem tw16382648246723755807:True:=⟨⟩
theorem tw16702504622796192772:True:=⟨⟩
theorem tw17042273423509194488:True:=⟨⟩
theorem tw17099661827176539435:True:=⟨⟩
theorem tw17562478999222504533:True:=⟨⟩
theorem tw1777076338561385642:True:=⟨⟩
theorem tw18224688400884092758:True:=⟨⟩
theorem tw2356986666708758124:True:=⟨⟩
theorem tw2635909318059453433:True:=⟨⟩
theorem tw2708598951072272131:True:=⟨⟩
theorem tw2727894564783399485:True:=⟨⟩
theorem tw2783283346265525302:True:=⟨⟩
theorem tw3394198375722343894:True:=⟨⟩
theorem tw3412931736421691305:True:=⟨⟩
theorem tw3430700351570359385:True:=⟨⟩
theorem tw3508321650145530877:True:=⟨⟩
theorem tw3692230799350190631:True:=⟨⟩
theorem tw3791632552854802734:True:=⟨⟩
theorem tw4103365702654740171:True:=⟨⟩
theorem tw4142207243040326365:True:=⟨⟩
theorem tw4506266473666620563:True:=⟨⟩
theorem tw5118484792986212057:True:=⟨⟩
theorem tw5275684191786295942:True:=⟨⟩
theorem tw5345382433383573709:True:=⟨⟩
theorem tw5531851195460573553:True:=⟨⟩
theorem tw5533618957866670178:True:=⟨⟩
theorem tw605646203181349195:True:=⟨⟩
theorem tw6128549086219523468:True:=⟨⟩
theorem tw6156569332519931095:True:=⟨⟩
theorem tw6188099869382505280:True:=⟨⟩
theorem tw641814112191073068:True:=⟨⟩
theorem tw6716120260908033272:True:=⟨⟩
theorem tw6800177273059701643:True:=⟨⟩
theorem tw7088073056181743888:True:=⟨⟩
theorem tw7203836522790166406:True:=⟨⟩
theorem tw7405358023824076382:True:=⟨⟩
theorem tw741515399567353799:True:=⟨⟩
theorem tw753438777227210883:True:=⟨⟩
theorem tw8046343835556605179:True:=⟨⟩
theorem tw8290113411689194398:True:=⟨⟩
theorem tw8375714842306874271:True:=⟨⟩
theorem tw8790213314314784764:True:=⟨⟩
theorem tw8983890268398311139:True:=⟨⟩
theorem tw9233607721963965971:True:=⟨⟩
theorem tw9272107521253911528:True:=⟨⟩
theorem tw9291095625856127809:True:=⟨⟩
theorem tw9326990619628253991:True:=⟨⟩
theorem tw9608745332917686717:True:=⟨⟩
theorem tw9621662729384542171:True:=⟨⟩
theorem tw9667919424288056821:True:=⟨⟩
theorem tw9863353955621948735:True:=⟨⟩
theorem tw9975062390097879193:True:=⟨⟩
end PySem.W.Fast
open PySem PySem.W PyProof.Rows
set_option maxRecDepth 100000 in
set_option maxHeartbeats 0 in
theorem PySem.Challenge.cw_caseways_k32_papers_for_runs_spoilt_holds : PySem.Challenge.rw_caseways_k32_papers_for_runs_spoilt.Holds := by
 w_on; o_law; k_head; (case hw=>w_witness2)
 k_fill
 refine K32.walk 221 219 (l:=PySem.Challenge.rw_caseways_k32_papers_for_runs_spoilt) rfl rfl (fun w h Y=>⟨PySem.W.km_in_of Y,PySem.W.km_tabs_of Y 219 (by k_mem),by kernel_rfl,PySem.W.codeHd_of_K (PySem.W.km_in_of Y) (by kernel_rfl)⟩) ?F (fun w=>by kernel_rfl)
 case F=>
  intro w mg fa h KX G hmg
  refine' K32.all_mk (cb:=221) KX G hmg ?d1 ?d2 ?d3 ?d4 ?d5 ?d6 ?d7 ?d8 ?d9 ?d10 ?d11 ?d12 ?d13 ?d14 ?d15 ?d16 ?d17 ?d18 ?d19 ?d20 ?d21 ?d22 ?d23 ?d24 ?d25 ?d26 ?d27 ?d28 ?d29 ?d30 ?d31 ?d32 ?d33 ?d34 ?d35 ?z ?w1 ?w2 ?t1 ?u1 ?hd37
  case d1|d2|d3|d4|d5|d6|d7|d8|d9|d10|d11|d12|d13|d14|d15|d16|d17|d18|d19|d20|d21|d22|d23|d24|d25|d26|d27|d28|d29|d30|d31|d32|d33|d34=>(refine' ⟨_,_,_,_,_,_,_,_,_,_,?a,?l,?c,?k⟩; (case a=>k_is); (case l=>k_is); (case c=>k_is); (case k=>k_is))
  case d35=>(refine' ⟨_,_,_,_,_,_,_,_,_,?a,?l,?c,?k⟩; (case a=>k_is); (case l=>k_is); (case c=>k_is); (case k=>k_is))
  case z=>(refine' ⟨?_,?_,?_,?_,?_,?_,?_,?_,?_,?_,?_,?_,?_,?_,?_,?_,?_,?_,?_,?_,trivial⟩ <;> k_is)
  case w1|w2|t1|u1=>k_is
  case hd37=>kernel_rfl
#print axioms PySem.Challenge.cw_caseways_k32_papers_for_runs_spoilt_holds
