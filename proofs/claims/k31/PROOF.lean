import PyProof.Rows.All
import Wide.All
import OpenK.AllK
import Wide.FinOn
import Lean
import PyProof.EqAt
import PyProof.EqKinds
import PyProof.TupleCall
import PyProof.NeData
import PySem.Challenge.RW_caseways_k31_papers_for_runs
local macro_rules | `(tactic| omega) => `(tactic| first | with_reducible assumption | lia | omega +splitDisjunctions)
open Lean in
local macro_rules | `(command|def $d:declId $s:optDeclSig $v:declVal) => `(command|noncomputable def $d:declId $s:optDeclSig $v:declVal) | `(command|abbrev $d:declId $s:optDeclSig $v:declVal) => `(command|noncomputable abbrev $d:declId $s:optDeclSig $v:declVal)
set_option Elab.async false
set_option linter.all false
set_option maxRecDepth 100000
theorem Z{α:Sort u}{a:α}:a=a:=rfl
theorem ζ{p:Prop}(h:p:=by simp):p:=h
theorem ω{p : Prop}(h : p := by omega) : p := h
theorem δ{p : Prop}(h : p := by decide) : p := h
theorem ψ{p : Prop}(h : p := by decide +kernel) : p := h
open List (all_cons all_map any_cons any_map cons_append ext_getElem filterMap_map filter_append flatten_cons forIn_nil getElem?_drop getElem?_take length_nil map_drop map_nil map_take nil_append nodup_append nodup_nil of_mem_zip range'_succ range_succ set_cons_succ sum_cons take_add_one take_zero)
open PySem.Heap (size_update)
open Option (getD_none isSome_some map_some)
open PySem.W (codeIn fnOf keepIn kitOne mg_of nsIn)
open Array (toList_map toList_push)
open Nat (le_of_eq le_succ lt_trans mod_lt not_lt_zero sub_self zero_add)
open Int (add_zero mul_nonneg neg_mul not_lt)
open Bool (eq_false_iff or_eq_true)
open PySem renaming wpAny_bind → An, Value → Ap, wpAny_pure → Au, Shared → AA, wpAny → AH, starEach → AK, model → AM, sizeLine → AN, Builtin → AR, PyData → AU, SetTable → AW, Program → A1, wpAny_newObj_type → A6, wpAny_mono → A7, Around → BA, foldedSetIterable → BC, World → BD, mem_of_lookup → BH, NameKind → B2, wpAny_call_entry → B3, wpAny_callSpecial?_slot → B5, boot_len → B9, mainGlobals → Co, wpAny_field → Cs, wpAny_holding → Ct, wpAny_standAt → CA, wpAny_setField_rec → CB, assignEach → CI, compEnvC → CO, wpAny_comprehension_free → CS, wpAny_of_eq → CU, backTo → CY, assign → C7, wpAny_rule → Da, rawInt → Db, wpAny_seqItems → DC, letOwnedTupleGo → DD, codeAny → DF, sysModules → DI, swapsWithSole → DS, Spec → DV, Scope → D0, codeAny_builtin → D2, FuncData → D3, wpAny_askSetting → D4, bootBuiltins → D5, wpAny_truthy_bool → Ee, compareOp → Ev, pyNext → EF, notedBy → EG, attributeBase → EI, call_meets → EK, IsPair → EL, Keyword → EN, builtinLookup_eq_fast → EO, again → ER, binaryOp → ET, wpAny_newFunctionEnv → EW, wpAny_attempt → E3, isSubtype_type → E8, keywordEach → Fc, wpAny_Call_Name_kw → Ff, codeAny_compStart_list → Fm, wpAny_Call_method_late → Fn, wpAny_passesOwn → Fs, wpAny_ite_false → FA, tupleKind → FD, cellsFrom → FE, scanBound → FG, intKind → FH, list_append → FI, wpAny_pyIter_list → FK, cLine → FO, codeAny_call_builtin → FY, standAt → F4, codeAny_of_tree → F5, typeLookup_type → F6, pushCells → F8, wpAny_pyIter_tuple → F9, holding → GB, wpAny_assign_Name → GG, setField → GM, pushCells_keeps → GW, wpAny_pyIter_zip → G1, wpAny_isInstance → G2, behindInMarks → Hb, plainId_quiet → Hn, sliceBounds → Ic, backToKw → Ix, exec_Assign_arm → IA, theTreesLotGoes → IB, codeAny_mono → IE, assignAll → IH, pickOrder → II, pyIter → IJ, wpAny_newTuple → IQ, IsRangeIter → IZ, wpAny_pyIter_enum → JE, wpAny_onRaise → JO, argsOk → JP, wpAny_eqBool_int → JY, swapsWith → Kb, compTurn → Kj, noteFrame → Kk, compPost → Kn, ZipApart → Kt, entryFor_of_tree → KE, wpAny_pyIter_rangeiter → KL, codeAny_loop → KO, wpAny_execs_nil → Lc, wpAny_loadPart' → Lo, weight_type_call_type → Lu, sizeLine_eq → Lv, wpAny_noted → LA, wpAny_updateSeq_pair → LB, isSubtype_stop → LD, wpAny_runValue → LI, entryFor → LJ, firstArgMember → LL, wpAny_fieldsOf → LM, getItem → LX, swappedStores → L7
open PySem.Heap renaming get?_push_of_some → AB, get?_push_size → AO, lt_size → AQ, get?_update_other → BQ, SameBut → B0, size_push → Cb, get?_update_self → G0
open List renaming length_map → AC, getElem?_eq_getElem → AD, mem_append_right → AG, getElem?_eq_some_iff → AI, mem_singleton → AJ, getElem?_map → AL, getD_eq_getElem?_getD → AY, size_toArray → AZ, length_append → A0, mem_cons → A3, map_append → A4, mem_cons_self → A5, mem_of_getElem? → A8, Nodup → A9, mem_cons_of_mem → Bi, not_mem_nil → Bz, replicate → BF, getElem?_eq_none → BM, range → BN, length_singleton → B4, mem_append → Cf, toArray → Ch, length_take_le → CD, take_length → C5, length_range → C8, mem_map → C9, getElem?_append_right → Dx, map_cons → DJ, pairwise_cons → DU, map_congr_left → DZ, lookup_cons → D1, getElem_mem → D7, getElem?_range → D8, mem_range → D9, take_of_length_le → Ex, mem_append_left → EB, append_nil → ED, mem_filter → EJ, getElem?_append_left → EU, length_cons → EX, Perm → E7, mem_map_of_mem → E9, mem_iff_getElem? → Fa, forIn_cons → Fk, mem_iff_getElem → FB, nodup_cons → FR, length_take → FS, append_assoc → F1, map_map → F7, length_drop → Gc, all_eq_true → Go, replicate_succ → GI, pairwise_lt_range → GO, getElem?_toArray → Ha, set_cons_zero → Hm, idxOf_lt_length_of_mem → IG, map → IM, getElem?_cons_zero → IR, pairwise_singleton → IT, pairwise_iff_getElem → IX, drop_eq_getElem_cons → IY, any_eq_true → JI, filter_eq_nil_iff → JJ, getElem?_cons_succ → Kx, length_eq_zero_iff → KB, find?_cons → KP, pairwise_map → KS, ext_getElem? → K0, append_eq_nil_iff → K2, length_eraseIdx → Lm, pairwise_append → LH, filter_cons → LP, map_eq_nil_iff → LV, filterMap_cons → L0, getElem_of_mem → L1, length_pos_iff → L3, filter_eq_self → L4
open And renaming intro → AE
open PySem.W renaming Frag → AF, kia_one → DE, findIn → IL, kitx_list → Jn, kitx_dict → JA
open Nat renaming le_refl → AV, lt_of_lt_of_le → BB, ne_of_lt → B1, le_trans → CM, lt_succ_self → C3, zero_le → De, lt_succ_of_lt → DT, lt_irrefl → ES, lt_or_ge → FU, zero_lt_succ → GN, lt_of_sub_pos → Hd, le_of_lt → HH, ne_of_gt → Ki, max_eq_right → KW, lt_of_le_of_lt → LF
open Bool renaming false_ne_true → AX, and_eq_true → CH, eq_iff_iff → Fu, not_true → He, not_false → LG, false_eq_true → L8
open Option.some renaming inj → Be
open PyProof.Rows renaming callWith_type1 → BE, boot_isinstance → BI, arrOf → Cc, pendingOf → Cn, wpS_bind → CC, Keyed → CF, wpS_pure → DL, SortSt → DM, IntsAre → E5, firstMet → FC, boot_list → FF, pairsOf → FL, seqObj → F0, listItems_at → GS, wpS_forRange → GU, slot_tuple_getitem → GV, callWith_builtin1 → GY, boot_sorted → JU, failedOf → KF, boot_sum → KG, AllBare → KI, envOfC → KM, setPending → KU, wpS_mono → LN, boot_int → LS, boot_min → LU, boot_bool → LZ
open Option renaming map_eq_some_iff → BG
open PySem.Obj renaming mapSeq → BO
open Ne renaming symm → BS
open PySem.PassesOwn renaming never → BU
open Int renaming toNat → B6, emod_lt_of_pos → EM, emod_nonneg → FV, le_refl → GA, toNat_natCast → Hc, mul_comm → IU, mul_assoc → LY
open PySem.SeqAt renaming EqAt → B7
open Or renaming inl → B8, inr → IP
open PySem.Calls renaming spliced_cons → CL, spliced_nil → C0, callWith_builtin → EH, evalArgs_plain → EZ
open PySem.Data renaming fields → C4, seq → Iq
open ForInStep renaming yield → C6
open Array renaming getElem?_toList → DH, length_toList → D6
open Classical renaming propDecidable → EA
open True renaming intro → EC
open Sum renaming inr → EE, inl → IC
open PySem.F renaming args_list_append_2 → EV, entry_list_append → E4, plainAttrs_list → E6, slot_list_append → Fh, slot_tuple_iterator_next → FX, called_set → F3, slot_list_reversed → Iy, slot_zip_next → Ll
open False renaming elim → FM
open PySem.IsL renaming update → F2
open PySem.Str renaming ofString → GH
open List.Pairwise renaming nil → GL
open PyProof.Rows.F renaming plain_set_update_loop → KA
open PySem.Manifest renaming find? → LO
open PySem.Paired renaming length → L6
open PySem.Value renaming ref → DO,int → EQ,type → GE,bool → GT
open Option renaming some → ID
open Option renaming none → IF
open PySem renaming Addr → IN
namespace L2
open PySem PySem.Spec PyProof.Rows
abbrev Key:=Sum Int Str
def Ep:Key->Ap->Bool
 | .inl k,v=>Ap.isInt k v
 | .inr x,v=>Ap.isStrOf x v
def ad9(w:BD):Key->Int
 | .inl k=>hashInt k
 | .inr x=>hashStr w x
theorem eO:∀{k:Key}{v:Ap},Ep k v=true->(∃i t,k=IC i/\v=EQ i t)\/(∃x t,k=EE x/\v=Ap.str x t)
 | .inl i,v,h=>by
  obtain⟨t,e⟩:=Ap.isInt_shape (k:=i) (v:=v) h;exact .inl ⟨i,t,rfl,e⟩
 | .inr x,v,h=>by
  obtain⟨t,e⟩:=Ap.isStrOf_shape (x:=x) (v:=v) h;exact .inr ⟨x,t,rfl,e⟩
theorem Sq(i:Int)(t:Tok):Ep (.inl i) (.int i t)=true:=by simp[Ep,Ap.isInt]
theorem Sh(x:Str)(t:Tok):Ep (.inr x) (.str x t)=true:=by simp[Ep,Ap.isStrOf]
theorem acn(a b:Int):decide ((IC a:Key)=IC b)=(a == b):=by
 by_cases e:a=b
 ·subst e;simp
 have h:¬(IC a:Key)=IC b:=λq=>e (IC.inj q);rw[decide_eq_false h];exact(beq_eq_false_iff_ne.mpr e).symm
theorem aci(a b:Str):decide ((EE a:Key)=EE b)=decide (a=b):=by
 by_cases e:a=b
 ·subst e;simp
 have h:¬(EE a:Key)=EE b:=λq=>e (EE.inj q);rw[decide_eq_false h,decide_eq_false e]
theorem ack(a:Int)(b:Str):decide ((IC a:Key)=EE b)=false:=decide_eq_false (λq=>nomatch q)
theorem acj(a:Str)(b:Int):decide ((EE a:Key)=IC b)=false:=decide_eq_false (λq=>nomatch q)
def cF(prog:A1)(w:BD):PySem.KeyKind prog w Key where
 is:=Ep
 hash:=ad9 w
 inj:=λv a b ha hb=>by
  rcases eO ha with⟨i,t,rfl,rfl⟩|⟨x,t,rfl,rfl⟩
  ·rcases eO hb with⟨j,u,rfl,e⟩|⟨y,u,rfl,e⟩
   ·injection e with e1 _;rw[e1]
   exact nomatch e
  rcases eO hb with⟨j,u,rfl,e⟩|⟨y,u,rfl,e⟩
  ·exact nomatch e
  injection e with e1 _;rw[e1]
 byValue:=λk v h=>by
  rcases eO h with⟨i,t,rfl,rfl⟩|⟨x,t,rfl,rfl⟩ <;> rfl
 pyHash:=λhv h=>by
  rcases eO hv with⟨i,t,rfl,rfl⟩|⟨x,t,rfl,rfl⟩
  ·exact wpAny_pyHash_int h
  exact wpAny_pyHash_str h
 eqBool:=λhu hv h=>by
  rcases eO hu with⟨i,t,rfl,rfl⟩|⟨x,t,rfl,rfl⟩
  ·rcases eO hv with⟨j,u,rfl,rfl⟩|⟨y,u,rfl,rfl⟩
   ·rw[acn] at h;exact JY h
   rw[ack] at h;exact B7.int_str i t y u _ _ _ _ h
  rcases eO hv with⟨j,u,rfl,rfl⟩|⟨y,u,rfl,rfl⟩
  ·rw[acj] at h;exact B7.str_int x t j u _ _ _ _ h
  rw[aci] at h;exact wpAny_eqBool_str h
 «strs»:=λk x t v h=>by
  rcases eO h with⟨i,u,rfl,e⟩|⟨y,u,rfl,e⟩
  ·exact nomatch e
  injection e with e1 _;subst e1;cases v <;> rfl
theorem JV(prog:A1)(w:BD)(i:Int)(t:Tok):(cF prog w).is (.inl i) (.int i t)=true:=Sq i t
theorem JT(prog:A1)(w:BD)(x:Str)(t:Tok):(cF prog w).is (.inr x) (.str x t)=true:=Sh x t
inductive V where
 | non|bl (b:Bool)|int (i:Int)|str (x:Str)|byt (b:Array UInt8)|flt (b:UInt64)|ref (a:IN)|ty (n:String)
 deriving DecidableEq
def RelV:V->Ap->Prop
 | .non,u=>u=Ap.none
 | .bl b,u=>u=GT b
 | .int i,u=>∃t,u=EQ i t
 | .str x,u=>∃t,u=Ap.str x t
 | .byt b,u=>∃t,u=Ap.bytes b t
 | .flt b,u=>∃t,u=Ap.float b t
 | .ref a,u=>u=DO a
 | .ty n,u=>u=GE n
abbrev Vals:List V->List Ap->Prop:=Paired RelV
theorem Vals.length{xs:List V}{us:List Ap}(r:Vals xs us):xs.length=us.length:=L6 r
theorem Vals.get:∀{xs:List V}{us:List Ap}{i:Nat}{x:V},Vals xs us->xs[i]?=ID x->∃u,us[i]?=ID u/\RelV x u
 | _,_,_,_,.nil,e=>by simp at e
 | _,_,0,_,.cons r _,e=>by simp at e;subst e;exact⟨_,rfl,r⟩
 | _,_,i+1,x,.cons _ t,e=>by
  obtain⟨u,h1,h2⟩:=Vals.get (i:=i) (x:=x) t (by simpa using e);exact⟨u,by simpa using h1,h2⟩
theorem Vals.set{x:V}{u:Ap}(r:RelV x u):∀{xs:List V}{us:List Ap}(i:Nat),Vals xs us->Vals (xs.set i x) (us.set i u)
 | _,_,_,.nil=>.nil
 | _,_,0,.cons _ t=>.cons r t
 | _,_,i+1,.cons q t=>.cons q (Vals.set r i t)
theorem Vals.append:∀{xs ys:List V}{us ws:List Ap},Vals xs us->Vals ys ws->Vals (xs++ys) (us++ws)
 | _,_,_,_,.nil,s=>s
 | _,_,_,_,.cons r t,s=>.cons r (Vals.append t s)
theorem Vals.take:∀{xs:List V}{us:List Ap}(n:Nat),Vals xs us->Vals (xs.take n) (us.take n)
 | _,_,0,_=>.nil
 | _,_,_+1,.nil=>.nil
 | _,_,n+1,.cons r t=>.cons r (Vals.take n t)
theorem Vals.drop:∀{xs:List V}{us:List Ap}(n:Nat),Vals xs us->Vals (xs.drop n) (us.drop n)
 | _,_,0,r=>r
 | _,_,_+1,.nil=>.nil
 | _,_,n+1,.cons _ t=>Vals.drop n t
theorem Vals.none_of:∀{xs:List V}{us:List Ap}{i:Nat},Vals xs us->xs[i]?=IF->us[i]?=IF:=λ{xs us i} r e=>by
 have h1:=r.length;have h2:xs.length<=i:=List.getElem?_eq_none_iff.mp e;exact List.getElem?_eq_none_iff.mpr ω
def Ck:Option V->Option Ap->Prop
 | some v,ID u=>RelV v u
 | none,IF=>True
 | _,_=>False
def KV{κ:Type}:List (κ×V)->List (κ×Ap)->Prop:=Paired λ(p:κ×V)(q:κ×Ap)=>p.1=q.1/\RelV p.2 q.2
def kV:Key->V
 | .inl i=>.int i
 | .inr x=>.str x
inductive HO where
 | lst (xs:List V)
 | tup (xs:List V)
 | dK (kvs:List (Key×V))|dT (kvs:List (List Key×V))
 | set (S:Int->Bool) (n:Nat)
 | ins (C dx:IN) (fs:List (Str×V))
 | own (x:IN)
 | xd (fs:List (Str×V))
 | met (f x:IN)
 | rng (lo hi:Int)
 | frz (o:Obj) (u:HO)
 | tbl (ps:Array Ap)
 | ext (φ:Heap->Prop)
abbrev Hp:=IN->Option HO
def upd(H:Hp)(a:IN)(o:HO):Hp:=λb=>if b=a then ID o else H b
theorem aD{H:Hp}{a:IN}{o:HO}:upd H a o a=ID o:=by unfold upd;rw[if_pos rfl]
theorem aH{H:Hp}{a b:IN}{o:HO}(h:b≠a):upd H a o b=H b:=by unfold upd;rw[if_neg h]
theorem Yp{H:Hp}{a:IN}{o u:HO}:upd (upd H a o) a u=upd H a u:=by
 funext b;unfold upd;split <;> rfl
theorem PK{H:Hp}{a b:IN}{o u:HO}(h:H a=ID o)(h':H b=ID u)(d:o≠u):a≠b:=by
 intro e;subst e;rw[h] at h';exact d (Be h')
theorem aB{H:Hp}{a b:IN}{o:HO}(h:H a=ID o)(h':H b=IF):a≠b:=by
 intro e;subst e;rw[h] at h';cases h'
section
variable (P:A1)(w:BD)
def cu(H:Hp)(h:Heap)(a:IN):HO->Prop
 | .lst xs=>xs.length<=AN/\∃(its:List Ap)(n:Nat),Vals xs its/\h.get? a=ID { cls:=.type "list",data:=.seq its.toArray n }
 | .tup xs=>xs.length<=AN/\∃its:List Ap,Vals xs its/\IsTup h a its.toArray
 | .dK kvs=>kvs.length<=AN/\(a == DI)=false/\∃vs,KV kvs vs/\h.DictOf (cF P w) a vs
 | .dT kvs=>kvs.length<=AN/\(a == DI)=false/\∃xs:List (List Key×IN×Ap),
   Paired (λ(p:List Key×V)(q:List Key×IN×Ap)=>p.1=q.1/\H q.2.1=ID (.tup (p.1.map kV))/\RelV p.2 q.2.2) kvs xs /\
   ∃o es ep,h.get? a=ID o/\o.ExactDict/\o.data=.dict es ep/\es.toList=xs.map (entryOfKey (FD (cF P w)))/\(xs.map (·.1)).Nodup
 | .set S n=>h.SetOf (FH P w) a S n
 | .ins C dx fs=>H dx=ID (.own a)/\fs.length<=1000/\dx≠a/\h.get? a=ID (PySem.W.instObj C dx) /\
   ∃mA,h.Ns1 dx mA/\(∀f,Ck (fs.lookup f) (mA f))/\PySem.Within mA (fs.map (·.1))
 | .own _=>∃o,h.get? a=ID o
 | .xd fs=>∃mA,h.Ns1 a mA/\∀f,Ck (fs.lookup f) (mA f)
 | .rng lo hi=>∃t u v,h.get? a=ID { cls:=.type "range",data:=.fields #[.int lo t,.int hi u,.int 1 v] }
 | .frz o u=>h.get? a=ID o/\cu H h a u
 | .tbl ps=>h.get? a=ID { cls:=.none,data:=.fields ps }
 | .met f x=>h.get? a=ID (PySem.W.methodObj (.ref f) (.ref x))
 | .ext φ=>φ h/\(∃o,h.get? a=ID o)/\∀h1 h2:Heap,φ h1->(∀o,h1.get? a=ID o->h2.get? a=ID o)->φ h2
def HOk(H:Hp)(h:Heap):Prop:=∀a o,H a=ID o->cu P w H h a o
end
section
variable {P:A1}{w:BD}{H H':Hp}{h h':Heap}{a:IN}{o:HO}
theorem cu.lt(x:cu P w H h a o):a<h.objs.size:=by
 cases o with
 | lst xs=>obtain⟨_,_,_,_,e⟩:=x;exact AQ e
 | tup xs=>obtain⟨_,_,_,p⟩:=x;exact p.lt
 | dK kvs=>obtain⟨_,_,_,_,o,_,_,e,_⟩:=x;exact AQ e
 | dT kvs=>obtain⟨_,_,_,_,o,_,_,e,_⟩:=x;exact AQ e
 | set S n=>obtain⟨o,_,_,_,e,_⟩:=x;exact AQ e
 | ins C dx fs=>obtain⟨_,_,_,e,_⟩:=x;exact AQ e
 | own y=>obtain⟨_,e⟩:=x;exact AQ e
 | xd fs=>obtain⟨_,⟨_,_,_,e,_⟩,_⟩:=x;exact AQ e
 | rng lo hi=>obtain⟨_,_,_,e⟩:=x;exact AQ e
 | frz ob u=>obtain⟨e,_⟩:=x;exact AQ e
 | tbl ps=>exact AQ (show h.get? a=ID _ from x)
 | met f y=>exact AQ (show h.get? a=ID _ from x)
 | ext φ=>obtain⟨_,⟨_,e⟩,_⟩:=x;exact AQ e
theorem Paired.ab7{α β:Type}{F G:α->β->Prop}:∀{l₁:List α}{l₂:List β},Paired F l₁ l₂->(∀a b,F a b->G a b)->Paired G l₁ l₂
 | _,_,.nil,_=>.nil
 | _,_,.cons r t,f=>.cons (f _ _ r) (Paired.ab7 t f)
theorem cu.stay(x:cu P w H h a o)(k:∀b u,(b=a\/H b=ID (.own a))->h.get? b=ID u->h'.get? b=ID u)
  (ho:∀b,H b=ID (.own a)->H' b=ID (.own a))(ht:∀b xs,H b=ID (.tup xs)->H' b=ID (.tup xs)):cu P w H' h' a o:=by
 induction o with
 | lst xs=>obtain⟨z,its,n,r,e⟩:=x;exact⟨z,its,n,r,k _ _ (.inl rfl) e⟩
 | tup xs=>obtain⟨z,its,r,ob,e,c⟩:=x;exact⟨z,its,r,ob,k _ _ (.inl rfl) e,c⟩
 | dK kvs=>obtain⟨z,y,vs,r,ob,es,ep,e,c⟩:=x;exact⟨z,y,vs,r,ob,es,ep,k _ _ (.inl rfl) e,c⟩
 | dT kvs=>
  obtain⟨z,y,xs,r,ob,es,ep,e,c⟩:=x;exact⟨z,y,xs,Paired.ab7 r λp q z=>⟨z.1,ht _ _ z.2.1,z.2.2⟩,ob,es,ep,k _ _ (.inl Z) e,c⟩
 | set S n=>obtain⟨ob,es,ep,t,e,c⟩:=x;exact⟨ob,es,ep,t,k _ _ (.inl rfl) e,c⟩
 | ins C dx fs=>
  obtain⟨d,z,ne,e,mA,⟨od,es,ep,e2,c⟩,r⟩:=x;exact⟨ho _ d,z,ne,k _ _ (.inl Z) e,mA,⟨od,es,ep,k _ _ (.inr d) e2,c⟩,r⟩
 | own y=>obtain⟨ob,e⟩:=x;exact⟨ob,k _ _ (.inl rfl) e⟩
 | xd fs=>obtain⟨mA,⟨od,es,ep,e,c⟩,r⟩:=x;exact⟨mA,⟨od,es,ep,k _ _ (.inl rfl) e,c⟩,r⟩
 | rng lo hi=>obtain⟨t,u,v,e⟩:=x;exact⟨t,u,v,k _ _ (.inl rfl) e⟩
 | frz ob u ih=>obtain⟨e,q⟩:=x;exact⟨k _ _ (.inl rfl) e,ih q⟩
 | tbl ps=>
  have e:h.get? a=ID { cls:=.none,data:=.fields ps }:=x;show h'.get? a=ID { cls:=.none,data:=.fields ps };exact k a _ (.inl Z) e
 | met f y=>
  have e:h.get? a=ID (PySem.W.methodObj (.ref f) (.ref y)):=x;show h'.get? a=ID (PySem.W.methodObj (.ref f) (.ref y));exact k a _ (.inl Z) e
 | ext φ=>obtain⟨p,⟨o,e⟩,st⟩:=x;exact⟨st _ _ p λo q=>k _ _ (.inl rfl) q,⟨o,k _ _ (.inl rfl) e⟩,st⟩
theorem HOk.lt(x:HOk P w H h)(e:H a=ID o):a<h.objs.size:=(x a o e).lt
theorem HOk.fresh(x:HOk P w H h)(e:h.objs.size<=a):H a=IF:=by
 cases q:H a with
 | none=>rfl
 | some u=>exact absurd (BB (x.lt q) e) (ES _)
theorem HOk.kept(x:HOk P w H h)(k:∀b u,h.get? b=ID u->h'.get? b=ID u):HOk P w H h':=λa o e=>
 (x a o e).stay (λb u _ q=>k b u q) (λ_ q=>q) λ_ _ q=>q
theorem HOk.laid(x:HOk P w H h)(k:∀b u,h.get? b=ID u->h'.get? b=ID u)(hp:h.objs.size<=a)(new:cu P w (upd H a o) h' a o):HOk P w (upd H a o) h':=λb u e=>by
 have hn:=x.fresh hp;by_cases hb:b=a
 ·subst hb;rw[aD] at e;cases e;exact new
 rw[aH hb] at e;exact(x b u e).stay (λc v _ q=>k c v q) (λc q=>by rw[aH (aB q hn)];exact q) λc xs q=>by rw[aH (aB q hn)];exact q
end
def Rd(H:Hp)(a:IN)(u:HO):Prop:=H a=ID u\/∃o,H a=ID (.frz o u)
theorem Rd.ok{P:A1}{w:BD}{H:Hp}{h:Heap}{a:IN}{u:HO}(r:Rd H a u)(x:HOk P w H h):cu P w H h a u:=by
 rcases r with r|⟨o,r⟩
 ·exact x a u r
 obtain⟨_,q⟩:=x a _ r;exact q
def Mut:Option HO->Prop
 | some (.lst _)=>True
 | some (.dK _)=>True
 | some (.dT _)=>True
 | some (.set _ _)=>True
 | some (.ins _ _ _)=>True
 | some (.ext _)=>True
 | _=>False
section
variable {P:A1}{w:BD}{H:Hp}{h h':Heap}{x e:IN}{o':HO}
theorem HOk.write(ok:HOk P w H h)(mu:Mut (H x))(he:e=x\/H e=ID (.own x))(k:∀b u,b≠e->h.get? b=ID u->h'.get? b=ID u)(heo:∃u,h'.get? e=ID u)
  (new:cu P w (upd H x o') h' x o'):HOk P w (upd H x o') h':=λb u q=>by
 have nown:∀c y,H c=ID (.own y)->c≠x:=λc y r z=>by subst z;rw[r] at mu;exact mu
 have ntup:∀c xs,H c=ID (.tup xs)->c≠x:=λc xs r z=>by subst z;rw[r] at mu;exact mu
 by_cases hb:b=x
 ·subst hb;rw[aD] at q;cases q;exact new
 rw[aH hb] at q;by_cases hbe:b=e
 ·have q':H b=ID (.own x):=by
   rcases he with z|z
   ·exact absurd (hbe.trans z) hb
   rw[hbe];exact z
  rw[q] at q';cases q';obtain⟨v,hv⟩:=heo;exact⟨v,by rw[hbe];exact hv⟩
 refine(ok b u q).stay (λc v hc r=>k c v ?_ r) (λc r=>by rw[aH (nown c b r)];exact r) λc xs r=>by rw[aH (ntup c xs r)];exact r
 rcases hc with rfl|hc
 ·exact hbe
 rintro rfl;rcases he with z|z
 ·exact nown c b hc z
 rw[hc] at z;cases z;exact hb rfl
end
structure Un(fs ex:List IN)(H H':Hp)(h h':Heap):Prop where
 keep:∀b o,h.get? b=ID o->H b=IF->b∉fs->b∉ex->h'.get? b=ID o
 slot:∀b o,h.get? b=ID o->H b=IF->b∈fs->b∉ex->∃sl,h'.get? b=ID { o with slots:=sl }
 free:∀b o,h.get? b=ID o->H b=IF->b∉ex->H' b=IF
 there:∀b o,h.get? b=ID o->b∉ex->∃o',h'.get? b=ID o'
 tups:∀b xs,H b=ID (.tup xs)->H' b=ID (.tup xs)
 frzs:∀b o u,H b=ID (.frz o u)->H' b=ID (.frz o u)
 tbls:∀b ps,H b=ID (.tbl ps)->∃more,H' b=ID (.tbl (ps++more))
section
variable {fs fs' ex ex':List IN}{H H1 H2:Hp}{h h1 h2 h':Heap}{a x e:IN}{o:HO}
theorem Un.any(u:Un fs ex H H1 h h1){b:IN}{ob:Obj}(q:h.get? b=ID ob)(n:H b=IF)(hx:b∉ex):∃sl,h1.get? b=ID { ob with slots:=sl }:=by
 by_cases hb:b∈fs
 ·exact u.slot b ob q n hb hx
 exact⟨ob.slots,u.keep b ob q n hb hx⟩
theorem Un.kept(k:∀b u,h.get? b=ID u->h'.get? b=ID u):Un fs ex H H h h':=
 ⟨λb ob q _ _ _=>k b ob q,λb ob q _ _ _=>⟨ob.slots,k b ob q⟩,λ_ _ _ n _=>n,λb ob q _=>⟨ob,k b ob q⟩,λ_ _ q=>q,λ_ _ _ q=>q,λ_ ps q=>⟨#[],by rw[q];simp⟩⟩
theorem Un.refl:Un fs ex H H h h:=Un.kept λ_ _ q=>q
theorem Un.laid(k:∀b u,h.get? b=ID u->h'.get? b=ID u)(hp:h.objs.size<=a)(hn:H a=IF):Un fs ex H (upd H a o) h h' where
 keep:=λb u q _ _ _=>k b u q
 slot:=λb u q _ _ _=>⟨u.slots,k b u q⟩
 free:=λb u q n _=>by rw[aH (B1 (BB (AQ q) hp))];exact n
 there:=λb u q _=>⟨u,k b u q⟩
 tups:=λb xs q=>by rw[aH (aB q hn)];exact q
 frzs:=λb u xs q=>by rw[aH (aB q hn)];exact q
 tbls:=λb ps q=>⟨#[],by rw[aH (aB q hn),q];simp⟩
theorem Un.write(mu:Mut (H x))(he:e=x\/H e=ID (.own x))(k:∀b u,b≠e->h.get? b=ID u->h'.get? b=ID u)(heo:∃u,h'.get? e=ID u):Un fs ex H (upd H x o) h h':=by
 have hx:∀b,H b=IF->b≠x:=λb n z=>by subst z;rw[n] at mu;exact mu
 have hb:∀b,H b=IF->b≠e:=λb n z=>by
  subst z;rcases he with r|r
  ·exact hx b n r
  rw[n] at r;cases r
 have hm:∀b u,H b=ID u->¬Mut (ID u)->b≠x:=λb u q nm z=>by subst z;rw[q] at mu;exact nm mu
 refine⟨λb u q n _ _=>k b u (hb b n) q,λb u q n _ _=>⟨u.slots,k b u (hb b n) q⟩,λb u q n _=>by rw[aH (hx b n)];exact n,λb u q _=>?_,
  λb xs q=>by rw[aH (hm b _ q λz=>z)];exact q,λb u xs q=>by rw[aH (hm b _ q λz=>z)];exact q,λb ps q=>⟨#[],by rw[aH (hm b _ q λz=>z),q];simp⟩⟩
 by_cases hbe:b=e
 ·subst hbe;exact heo
 exact⟨u,k b u hbe q⟩
end
def trk(h:Heap)(H:Hp):List IN:=(BN h.objs.size).filter λa=>(H a).isSome
def Hj(h:Heap)(H:Hp):Heap:=PySem.W.hideAll h (trk h H)
theorem SM(h:Heap)(H:Hp):(Hj h H).objs.size=h.objs.size:=PySem.W.hideAll_size _ _
theorem Xk{h:Heap}{H:Hp}{b:IN}{o:Obj}(e:h.get? b=ID o)(n:H b=IF):(Hj h H).get? b=ID o:=
 PySem.W.hideAll_get _ e λhm=>by
  have q:(H b).isSome=true:=(EJ.mp hm).2;rw[n] at q;simp at q
theorem aad{h:Heap}{H:Hp}{b:IN}{o:Obj}(e:(Hj h H).get? b=ID o):h.get? b=ID o/\H b=IF:=by
 have e':h.get? b=ID o:=PySem.W.of_hideAll (trk h H) e;refine⟨e',?_⟩;cases q:H b with
 | none=>rfl
 | some x=>
  have hm:b∈trk h H:=EJ.mpr ⟨D9.mpr (AQ e'),by simp[q]⟩;have z:(Hj h H).get? b=IF:=PySem.W.hideAll_none (trk h H) hm;rw[z] at e;cases e
structure Mod(K:AF)(mg:Str->Option Ap)(base:Heap):Prop where
 kin:K.In base
 glob:base.Ns Co mg
 blt:∃mb,base.Ns builtinsNs mb/\∀x:Str,x ≠ "__name__" -> mb x=D5 x
 nolimit:base.NoLimit
structure Cx where
 prog:A1
 w:BD
 K:AF
 mg:Str->Option Ap
 base:Heap
 A:BA
 N:List Str
 s₀:AA
 H₀:Hp
 env:Env
 outer:List Env
 stack:List Env
 ex:List IN
 fn:Str->Bool
 calm:Bool
 pn:List (IN×Obj)
 xe:Ap->AA->Prop
def frs(l:List Env):List IN:=l.filterMap (·.frame)
abbrev Cx.fs(X:Cx):List IN:=frs X.outer
def Vis(sc:D0)(x:Str):Prop:=sc.names.lookup x=ID .local\/sc.names.lookup x=ID .cell\/sc.names.lookup x=ID .free
def Loc(sc:D0)(x:Str):Prop:=sc.names.lookup x=ID .local\/sc.names.lookup x=ID .cell
def Look(env:Env)(h:Heap)(m:Str->Option Ap)(x:Str)(u:Ap):Prop:=
 (env.kindOf x=ID .local/\m x=ID u)\/((env.kindOf x=ID .cell\/env.kindOf x=ID .free)/\∃c,env.cells.lookup x=ID c/\h.IsCell c (ID u))
structure Cx.Ok(X:Cx):Prop where
 mod:Mod X.K X.mg X.base
 kind:X.env.scope.kind=.function
 glob:X.env.globals=Co
 blt:X.env.builtins=builtinsNs
 above:X.s₀.heap.objs.size<=X.env.locals
 inj:∀x y c,X.env.cells.lookup x=ID c->X.env.cells.lookup y=ID c->x=y
 has:∀x,(X.env.kindOf x=ID .cell\/X.env.kindOf x=ID .free)->∃c,X.env.cells.lookup x=ID c
 cab:∀x c,X.fn x=true->X.env.cells.lookup x=ID c->X.s₀.heap.objs.size<=c
 hd:X.calm=true->X.A.handled=IF
 frames:X.A.frames=ID X.stack
 stk:X.stack=X.outer\/(X.stack=X.env::X.outer/\X.env.frame=ID X.env.locals)
 exf:∀b∈X.ex,b≠X.env.locals/\∀x c,X.env.cells.lookup x=ID c->c≠b
 bs:∀b o,X.base.get? b=ID o->X.s₀.heap.get? b=ID o/\X.H₀ b=IF
 bsz:X.base.objs.size<=X.s₀.heap.objs.size
 noex:∀b o,X.base.get? b=ID o->b∉X.ex
 exfs:∀b∈X.ex,b∉X.fs
 wW:X.s₀.heap.FunFrames X.base X.outer
 frf:∀b∈X.fs,X.H₀ b=IF
structure Inv(X:Cx)(pins:List (IN×Obj))(σ:List (Option V))(H:Hp)(s:AA):Prop where
 ok:X.Ok
 os:s.os=X.s₀.os
 bare:KI s.gens
 base:Un X.fs X.ex X.H₀ H X.s₀.heap s.heap
 loc:∃m,s.heap.Ns X.env.locals m/\∀(i:Nat)(x:Str)(v:V),X.N[i]?=ID x->σ[i]?=ID (ID v)->Vis X.env.scope x->∃u,RelV v u/\Look X.env s.heap m x u
 cell:∀x c,X.env.cells.lookup x=ID c->∃v,s.heap.IsCell c v
 free:H X.env.locals=IF
 freeC:∀x c,X.env.cells.lookup x=ID c->H c=IF
 pin:∀p∈X.pn++pins,s.heap.get? p.1=ID p.2/\H p.1=IF/\p.1≠X.env.locals/\p.1∉X.fs/\∀v,p.2.data≠.cell v
 hok:HOk X.prog X.w H s.heap
 len:σ.length=X.N.length
section
variable {X:Cx}{pins:List (IN×Obj)}{σ:List (Option V)}{H H':Hp}{s:AA}{h':Heap}
theorem Cx.Ok.ad5(ok:X.Ok){b:IN}{o:Obj}(e:X.base.get? b=ID o):b∉X.fs:=λhb=>by
 have:=(ok.wW.mem hb).1;rw[e] at this;cases this
theorem Inv.bs(I:Inv X pins σ H s):∀b o,X.base.get? b=ID o->s.heap.get? b=ID o/\H b=IF:=λb o e=>
 ⟨I.base.keep b o (I.ok.bs b o e).1 (I.ok.bs b o e).2 (I.ok.ad5 e) (I.ok.noex b o e),I.base.free b o (I.ok.bs b o e).1 (I.ok.bs b o e).2 (I.ok.noex b o e)⟩
theorem Inv.bk(I:Inv X pins σ H s):∀b o,X.base.get? b=ID o->s.heap.get? b=ID o:=λb o e=>(I.bs b o e).1
theorem Inv.mod(I:Inv X pins σ H s):Mod X.K X.mg X.base:=I.ok.mod
theorem Inv.kIn(I:Inv X pins σ H s):X.K.In s.heap:=I.ok.mod.kin.keeps I.bk
theorem Inv.lt(I:Inv X pins σ H s):X.env.locals<s.heap.objs.size:=let ⟨_,hn,_⟩:=I.loc;hn.lt
theorem Inv.sz(I:Inv X pins σ H s):X.s₀.heap.objs.size<=s.heap.objs.size:=CM I.ok.above (HH I.lt)
theorem Inv.Gy(I:Inv X pins σ H s){a:IN}(h:s.heap.objs.size<=a):a∉X.fs:=λhb=>by
 obtain⟨_,o,ho,_⟩:=I.ok.wW.mem hb;exact absurd (BB (AQ ho) (CM I.sz h)) (ES _)
theorem Inv.cne(I:Inv X pins σ H s):∀x c,X.env.cells.lookup x=ID c->c≠X.env.locals:=λx c e z=>by
 obtain⟨v,o,ho,hd⟩:=I.cell x c e;obtain⟨m,⟨o',es,ep,ho',hd',_⟩,_⟩:=I.loc;rw[z,ho'] at ho;cases ho;rw[hd'] at hd;cases hd
theorem Inv.wW(I:Inv X pins σ H s):s.heap.FunFrames X.base X.outer:=by
 have all:∀(l:List Env),(∀b∈frs l,b∈X.fs)->X.s₀.heap.FunFrames X.base l->s.heap.FunFrames X.base l:=by
  intro l
  induction l with
  | nil=>intro _ _;trivial
  | cons env r ih=>
   intro hs hl;obtain⟨hk,⟨L,o,hf,hn,ho,hd⟩,hr⟩:=hl;have hL:L∈X.fs:=hs L (by unfold frs;rw[L0,hf];exact A5);obtain⟨sl,e⟩:=I.base.slot L o ho (I.ok.frf L hL) hL λz=>I.ok.exfs L z hL;exact⟨hk,⟨L,_,hf,hn,e,hd⟩,ih (λb hb=>hs b (by unfold frs;rw[L0,hf];exact Bi _ hb)) hr⟩
 exact all X.outer (λ_ hb=>hb) I.ok.wW
theorem Inv.stack(I:Inv X pins σ H s):s.heap.FunFrames X.base X.stack:=by
 rcases I.ok.stk with e|⟨e,hf⟩
 ·rw[e];exact I.wW
 rw[e];obtain⟨m,hn,_⟩:=I.loc;refine .cons (by rw[I.ok.kind];decide) hf hn ?_ I.wW;exact Heap.get?_none_of_le (CM I.ok.bsz I.ok.above)
theorem Inv.jR(I:Inv X pins σ H s):∀b∈frs X.stack,b∈X.env.locals::X.fs:=λb hb=>by
 rcases I.ok.stk with e|⟨e,hf⟩
 ·rw[e] at hb;exact Bi _ hb
 rw[e] at hb;unfold frs at hb;rw[L0,hf] at hb;exact hb
theorem Inv.Fz(I:Inv X pins σ H s):∀b∈frs X.stack,H b=IF:=λb hb=>by
 rcases A3.mp (I.jR b hb) with e|hb
 ·rw[e];exact I.free
 obtain⟨_,o,ho,_⟩:=I.ok.wW.mem hb;exact I.base.free b o ho (I.ok.frf b hb) λz=>I.ok.exfs b z hb
theorem Inv.step{g':Array GenState}{t':Nat}{d':Drawn}{ch:List IN}(I:Inv X pins σ H s)
  (hch:∀b∈ch,(b∈X.ex\/X.s₀.heap.objs.size<=b)/\b≠X.env.locals/\(∀x c,X.env.cells.lookup x=ID c->c≠b)/\∀p∈X.pn++pins,p.1≠b)
  (keep:∀b o,b≠X.env.locals->b∉X.fs->b∉ch->s.heap.get? b=ID o->H b=IF->h'.get? b=ID o)
  (slot:∀b o,b≠X.env.locals->b∈X.fs->b∉ch->s.heap.get? b=ID o->H b=IF->∃sl,h'.get? b=ID { o with slots:=sl })(free:∀b o,b∉ch->s.heap.get? b=ID o->H b=IF->H' b=IF)
  (there:∀b o,b∉ch->s.heap.get? b=ID o->∃o',h'.get? b=ID o')
  (tups:∀b xs,H b=ID (.tup xs)->H' b=ID (.tup xs))(frzs:∀b o u,H b=ID (.frz o u)->H' b=ID (.frz o u))(tbls:∀b ps,H b=ID (.tbl ps)->∃more,H' b=ID (.tbl (ps++more)))
  (ns:∀m,s.heap.Ns X.env.locals m->h'.Ns X.env.locals m)(hok:HOk X.prog X.w H' h')(hg:KI g') :
  Inv X pins σ H' { s with heap:=h',gens:=g',drawn:=d',toks:=t' }:=by
 have neL:∀b o,X.s₀.heap.get? b=ID o->b≠X.env.locals:=λb o e=>B1 (BB (AQ e) I.ok.above);have neC:∀b o,X.s₀.heap.get? b=ID o->b∉X.ex->b∉ch:=λb o e hx hb=>by
  rcases(hch b hb).1 with z|z
  ·exact hx z
  exact absurd (BB (AQ e) z) (ES _)
 have cellK:∀x c,X.env.cells.lookup x=ID c->∀v,s.heap.IsCell c v->h'.IsCell c v:=λx c e v ⟨o,ho,hd⟩=>by
  have nch:c∉ch:=λz=>(hch c z).2.2.1 x c e rfl;by_cases hc:c∈X.fs
  ·obtain⟨sl,q⟩:=slot c o (I.cne x c e) hc nch ho (I.freeC x c e);exact⟨_,q,hd⟩
  exact⟨o,keep c o (I.cne x c e) hc nch ho (I.freeC x c e),hd⟩
 refine⟨I.ok,I.os,hg,⟨λb o e n hb hx=>?_,λb o e n hb hx=>?_,λb o e n hx=>?_,λb o e hx=>?_,λb xs e=>tups b xs (I.base.tups b xs e),λb o xs e=>frzs b o xs (I.base.frzs b o xs e),λb ps e=>?_⟩,?_,λx c e=>?_,?_,λx c e=>?_,λp hp=>?_,hok,I.len⟩
 ·exact keep b o (neL b o e) hb (neC b o e hx) (I.base.keep b o e n hb hx) (I.base.free b o e n hx)
 ·obtain⟨sl,e1⟩:=I.base.slot b o e n hb hx;obtain⟨sl',e2⟩:=slot b _ (neL b o e) hb (neC b o e hx) e1 (I.base.free b o e n hx);exact⟨sl',e2⟩
 ·obtain⟨o',e1⟩:=I.base.there b o e hx;exact free b o' (neC b o e hx) e1 (I.base.free b o e n hx)
 ·obtain⟨o',e1⟩:=I.base.there b o e hx;exact there b o' (neC b o e hx) e1
 ·obtain⟨m1,e1⟩:=I.base.tbls b ps e;obtain⟨m2,e2⟩:=tbls b _ e1;exact⟨m1++m2,by rw[e2,Array.append_assoc]⟩
 ·obtain⟨m,hn,hl⟩:=I.loc;refine⟨m,ns m hn,λi x v e1 e2 e3=>?_⟩;obtain⟨u,r,l⟩:=hl i x v e1 e2 e3;refine⟨u,r,?_⟩;rcases l with l|⟨k,c,e,z⟩
  ·exact .inl l
  exact .inr ⟨k,c,e,cellK x c e _ z⟩
 ·obtain⟨v,z⟩:=I.cell x c e;exact⟨v,cellK x c e v z⟩
 ·obtain⟨m,⟨o,_,_,ho,_⟩,_⟩:=I.loc;exact free _ o (λz=>(hch _ z).2.1 Z) ho I.free
 ·obtain⟨v,o,ho,hd⟩:=I.cell x c e;exact free c o (λz=>(hch c z).2.2.1 x c e Z) ho (I.freeC x c e)
 obtain⟨e,n,ne,nf,d⟩:=I.pin p hp;have nch:p.1∉ch:=λz=>(hch p.1 z).2.2.2 p hp rfl;exact⟨keep p.1 p.2 ne nf nch e n,free p.1 p.2 nch e n,ne,nf,d⟩
theorem Inv.un{t':Nat}(I:Inv X pins σ H s)(u:Un X.fs [] H H' s.heap h')(hok:HOk X.prog X.w H' h'):Inv X pins σ H' { s with heap:=h',toks:=t' }:=by
 obtain⟨m,⟨o,es,ep,ho,r⟩,_⟩:=id I.loc;obtain⟨sl,hL⟩:=u.any ho I.free ζ;exact I.step (g':=s.gens) (d':=s.drawn) (ch:=[]) (λ_ z=>nomatch z) (λb o _ hb _ e n=>u.keep b o e n hb ζ) (λb o _ hb _ e n=>u.slot b o e n hb ζ) (λb o _ e n=>u.free b o e n ζ) (λb o _ e=>u.there b o e ζ) u.tups u.frzs u.tbls (λm' hm=>by
  obtain⟨o',es',ep',ho',r'⟩:=hm;rw[ho] at ho';cases ho';exact⟨_,es',ep',hL,r'⟩) hok I.bare
theorem Inv.call{g':Array GenState}{t':Nat}{d':Drawn}{ch:List IN}(I:Inv X pins σ H s)(u:Un (frs X.stack) ch H H' s.heap h')(hok:HOk X.prog X.w H' h')(hg:KI g')
  (hch:∀b∈ch,(b∈X.ex\/X.s₀.heap.objs.size<=b)/\b≠X.env.locals/\(∀x c,X.env.cells.lookup x=ID c->c≠b)/\∀p∈X.pn++pins,p.1≠b) :
  Inv X pins σ H' { s with heap:=h',gens:=g',drawn:=d',toks:=t' }:=by
 obtain⟨m,⟨o,es,ep,ho,r⟩,_⟩:=id I.loc;obtain⟨sl,hL⟩:=u.any ho I.free λz=>(hch _ z).2.1 rfl;exact I.step (ch:=ch) hch (λb o hL hb hc e n=>u.keep b o e n (λz=>(A3.mp (I.jR b z)).elim hL hb) hc) (λb o _ _ hc e n=>u.any e n hc) (λb o hc e n=>u.free b o e n hc) (λb o hc e=>u.there b o e hc) u.tups u.frzs u.tbls (λm' hm=>by
  obtain⟨o',es',ep',ho',r'⟩:=hm;rw[ho] at ho';cases ho';exact⟨_,es',ep',hL,r'⟩) hok hg
theorem Inv.turned{t':Nat}{it:IN}(I:Inv X pins σ H s)(k:∀b o,b≠it->s.heap.get? b=ID o->h'.get? b=ID o)(hn:H it=IF)(hL:it≠X.env.locals)
  (h1:it∈X.ex\/X.s₀.heap.objs.size<=it)(h2:∀x c,X.env.cells.lookup x=ID c->c≠it)(h3:∀p∈X.pn++pins,p.1≠it):Inv X pins σ H { s with heap:=h',toks:=t' }:=by
 have nit:∀b u,H b=ID u->b≠it:=λb u e z=>by rw[z,hn] at e;cases e
 refine I.step (g':=s.gens) (d':=s.drawn) (ch:=[it]) (λb hb=>?_) (λb o _ _ hc e _=>k b o (λz=>hc (by simp[z])) e) (λb o _ _ hc e _=>⟨o.slots,k b o (λz=>hc (by simp[z])) e⟩) (λ_ _ _ _ n=>n)
  (λb o hc e=>⟨o,k b o (λz=>hc (by simp[z])) e⟩) (λ_ _ e=>e) (λ_ _ _ e=>e) (λb ps e=>⟨#[],by rw[e];simp⟩) (λm hm=>?_) (λb u e=>?_) I.bare
 ·have e:b=it:=by simpa using hb
  subst e;exact⟨h1,hL,h2,h3⟩
 ·obtain⟨o,es,ep,ho,r⟩:=hm;exact⟨o,es,ep,k _ o (BS hL) ho,r⟩
 refine(I.hok b u e).stay (λc v hc q=>k c v ?_ q) (λ_ q=>q) λ_ _ q=>q;rcases hc with z|z
 ·rw[z];exact nit b u e
 exact nit c _ z
theorem Inv.tok(I:Inv X pins σ H s)(t:Nat):Inv X pins σ H { s with toks:=t }:=I.un (h':=s.heap) (t':=t) Un.refl I.hok
theorem Inv.kept{t':Nat}(I:Inv X pins σ H s)(k:∀b u,s.heap.get? b=ID u->h'.get? b=ID u):Inv X pins σ H { s with heap:=h',toks:=t' }:=I.un (Un.kept k) (I.hok.kept k)
theorem Inv.laid{a:IN}{o:HO}{t':Nat}(I:Inv X pins σ H s)(k:∀b u,s.heap.get? b=ID u->h'.get? b=ID u)(hp:s.heap.objs.size<=a)(new:cu X.prog X.w (upd H a o) h' a o) :
  Inv X pins σ (upd H a o) { s with heap:=h',toks:=t' }:=I.un (Un.laid k hp (I.hok.fresh hp)) (I.hok.laid k hp new)
theorem Inv.write{x e:IN}{o:HO}{t':Nat}(I:Inv X pins σ H s)(mu:Mut (H x))(he:e=x\/H e=ID (.own x))(k:∀b u,b≠e->s.heap.get? b=ID u->h'.get? b=ID u)(heo:∃u,h'.get? e=ID u)
  (new:cu X.prog X.w (upd H x o) h' x o):Inv X pins σ (upd H x o) { s with heap:=h',toks:=t' }:=I.un (Un.write mu he k heo) (I.hok.write mu he k heo new)
theorem Inv.dW{pins':List (IN×Obj)}(I:Inv X pins σ H s)(h:∀p∈pins',s.heap.get? p.1=ID p.2/\H p.1=IF/\p.1≠X.env.locals/\p.1∉X.fs/\∀v,p.2.data≠.cell v):Inv X pins' σ H s:=
 ⟨I.ok,I.os,I.bare,I.base,I.loc,I.cell,I.free,I.freeC,λp hp=>(Cf.mp hp).elim (λz=>I.pin p (EB _ z)) (h p),I.hok,I.len⟩
theorem Jy{N:List Str}(hN:N.Nodup){i j:Nat}{x:Str}(a:N[i]?=ID x)(b:N[j]?=ID x):i=j:=by
 obtain⟨h1,e1⟩:=AI.mp a;obtain⟨h2,e2⟩:=AI.mp b;exact(List.getElem_inj hN).mp (e1.trans e2.symm)
theorem mD{M:Model}{A:BA}{E:Ap->AA->Prop}{i:Nat}{x:Str}{v:V}{u:Ap}{Q:Unit->AA->Prop}(I:Inv X pins σ H s)(hN:X.N.Nodup)(hi:X.N[i]?=ID x)(hx:Loc X.env.scope x)(r:RelV v u)
  (h:∀s',Inv X pins (σ.set i (ID v)) H s'->(∃a,B0 a s.heap s'.heap/\(a=X.env.locals\/X.env.cells.lookup x=ID a))->Q () s')(hf:X.fn x=true\/X.env.scope.names.lookup x=ID .local:=by first|exact .inl rfl|exact .inr rfl|assumption):AH M A (storeName X.env x u) Q E s:=by
 obtain⟨m,hn,hl⟩:=id I.loc;have hcls:(X.env.scope.kind == .class||(X.env.scope.kind == .module&&X.env.locals != X.env.globals))=false:=by rw[I.ok.kind];rfl
 have hiσ:i<σ.length:=by rw[I.len];exact(AI.mp hi).1
 have cne:=I.cne;have tracked:∀{a:IN}{h':Heap},(∃o,s.heap.get? a=ID o/\H a=IF)->B0 a s.heap h'->HOk X.prog X.w H h':=λ{a h'} ha hs b ob e=>by
  obtain⟨_,_,hfree⟩:=ha;refine(I.hok b ob e).stay (λc w' hc q=>(hs.2 c ?_).trans q) (λ_ q=>q) λ_ _ q=>q;rintro rfl;rcases hc with rfl|hc
  ·rw[hfree] at e;cases e
  rw[hfree] at hc;cases hc
 rcases hx with hk|hk
 ·refine wpAny_storeName_local hk hn (λh' hn' hs=>?_) hcls;obtain⟨oL,_,_,hoL,_⟩:=id hn;refine h _ ⟨I.ok,I.os,I.bare,⟨λb o e n hb hx=>?_,λb o e n hb hx=>?_,I.base.free,λb o e hx=>?_,I.base.tups,I.base.frzs,I.base.tbls⟩,⟨_,hn',λj y v' e1 e2 e3=>?_⟩,λy c e=>?_,I.free,I.freeC,λp hp=>?_,tracked ⟨oL,hoL,I.free⟩ hs,by simpa using I.len⟩ ⟨_,hs,.inl rfl⟩
  ·exact(hs.2 b (B1 (BB (AQ e) I.ok.above))).trans (I.base.keep b o e n hb hx)
  ·obtain⟨sl,e1⟩:=I.base.slot b o e n hb hx;exact⟨sl,(hs.2 b (B1 (BB (AQ e) I.ok.above))).trans e1⟩
  ·obtain⟨o',e1⟩:=I.base.there b o e hx;exact⟨o',(hs.2 b (B1 (BB (AQ e) I.ok.above))).trans e1⟩
  ·by_cases hj:j=i
   ·subst hj;rw[hi] at e1;cases e1;rw[List.getElem?_set_self hiσ] at e2;cases e2;exact⟨u,r,.inl ⟨hk,by simp⟩⟩
   rw[List.getElem?_set_ne (BS hj)] at e2;obtain⟨u',r',q⟩:=hl j y v' e1 e2 e3;refine⟨u',r',?_⟩;rcases q with⟨k,e⟩|⟨k,c,e,z⟩
   ·refine .inl ⟨k,?_⟩;have:y≠x:=λe=>hj (Jy hN e1 (e ▸ hi));simp[this,e]
   exact .inr ⟨k,c,e,z.sameBut hs (cne y c e)⟩
  ·obtain⟨w',z⟩:=I.cell y c e;exact⟨w',z.sameBut hs (cne y c e)⟩
  obtain⟨e,n,ne,nf,d⟩:=I.pin p hp;exact⟨(hs.2 p.1 ne).trans e,n,ne,nf,d⟩
 have hfn:X.fn x=true:=by
  rcases hf with z|z
  ·exact z
  rw[z] at hk;cases hk
 obtain⟨c,hc⟩:=I.ok.has x (.inl hk);obtain⟨w',z⟩:=I.cell x c hc;refine wpAny_storeName_cell I.ok.kind hk hc z (λh' hc' hs=>?_);obtain⟨oc,hoc,hocd⟩:=id z;refine h { s with heap:=h' } ⟨I.ok,I.os,I.bare,⟨λb o e n hb hx=>?_,λb o e n hb hx=>?_,I.base.free,λb o e hx=>?_,I.base.tups,I.base.frzs,I.base.tbls⟩,⟨m,hn.sameBut hs (BS (cne x c hc)),λj y v' e1 e2 e3=>?_⟩,λy c' e=>?_,I.free,I.freeC,λp hp=>?_,tracked ⟨oc,hoc,I.freeC x c hc⟩ hs,by simpa using I.len⟩ ⟨c,hs,.inr hc⟩
 ·exact(hs.2 b (B1 (BB (AQ e) (I.ok.cab x c hfn hc)))).trans (I.base.keep b o e n hb hx)
 ·obtain⟨sl,e1⟩:=I.base.slot b o e n hb hx;exact⟨sl,(hs.2 b (B1 (BB (AQ e) (I.ok.cab x c hfn hc)))).trans e1⟩
 ·obtain⟨o',e1⟩:=I.base.there b o e hx;exact⟨o',(hs.2 b (B1 (BB (AQ e) (I.ok.cab x c hfn hc)))).trans e1⟩
 ·by_cases hj:j=i
  ·subst hj;rw[hi] at e1;cases e1;rw[List.getElem?_set_self hiσ] at e2;cases e2;exact⟨u,r,.inr ⟨.inl hk,c,hc,hc'⟩⟩
  rw[List.getElem?_set_ne (BS hj)] at e2;obtain⟨u',r',q⟩:=hl j y v' e1 e2 e3;refine⟨u',r',?_⟩;rcases q with q|⟨k,c',e,z'⟩
  ·exact .inl q
  refine .inr ⟨k,c',e,z'.sameBut hs ?_⟩;rintro rfl;exact hj (Jy hN e1 (I.ok.inj _ _ _ e hc ▸ hi))
 ·by_cases hcc:c'=c
  ·subst hcc;exact⟨_,hc'⟩
  obtain⟨w2,z2⟩:=I.cell y c' e;exact⟨w2,z2.sameBut hs hcc⟩
 obtain⟨e,n,ne,nf,d⟩:=I.pin p hp;refine⟨(hs.2 p.1 ?_).trans e,n,ne,nf,d⟩;intro q;rw[q,hoc] at e;have q':oc=p.2:=Be e;exact d w' (by rw[<- q'];exact hocd)
theorem pH{M:Model}{A:BA}{E:Ap->AA->Prop}{i:Nat}{x:Str}{v:V}{u:Ap}{Q:Unit->AA->Prop}(I:Inv X pins σ H s)(hN:X.N.Nodup)(hi:X.N[i]?=ID x)(hx:Loc X.env.scope x)(r:RelV v u)
  (h:∀s',Inv X pins (σ.set i (ID v)) H s'->Q () s')(hf:X.fn x=true\/X.env.scope.names.lookup x=ID .local:=by first|exact .inl rfl|exact .inr rfl|assumption):AH M A (storeName X.env x u) Q E s:=
 mD I hN hi hx r (λs' I' _=>h s' I') hf
theorem Inv.call'{s':AA}{ch:List IN}(I:Inv X pins σ H s)(ho:s'.os=s.os)(u:Un (frs X.stack) ch H H' s.heap s'.heap)(hok:HOk X.prog X.w H' s'.heap)(hg:KI s'.gens)
  (hch:∀b∈ch,(b∈X.ex\/X.s₀.heap.objs.size<=b)/\b≠X.env.locals/\(∀x c,X.env.cells.lookup x=ID c->c≠b)/\∀p∈X.pn++pins,p.1≠b):Inv X pins σ H' s':=by
 obtain⟨h',g',d',t',o'⟩:=s';have e:o'=s.os:=ho;subst e;exact I.call (g':=g') (t':=t') (d':=d') u hok hg hch
end
abbrev XK:=Ap->Option IN->Hp->Prop
abbrev St:=List (Option V)
abbrev VK:=V->Hp->Prop
abbrev TE:=St->Hp->VK->Prop
abbrev TT:=St->Hp->(Bool->Hp->Prop)->Prop
abbrev TA:=St->Hp->(List V->Hp->Prop)->Prop
structure Ends where
 nx:St->Hp->Prop
 rt:VK
 bk:St->Hp->Prop:=λ_ _=>False
 ct:St->Hp->Prop:=λ_ _=>False
abbrev TS:=Ends->St->Hp->Prop
def EP(X:Cx)(pins:List (IN×Obj))(σ:St)(Q:VK)(u:Ap)(s':AA):Prop:=∃v H',Inv X pins σ H' s'/\RelV v u/\Q v H'
def TP(X:Cx)(pins:List (IN×Obj))(σ:St)(Q:Bool->Hp->Prop)(b:Bool)(s':AA):Prop:=∃H',Inv X pins σ H' s'/\Q b H'
def AP(X:Cx)(pins:List (IN×Obj))(σ:St)(Q:List V->Hp->Prop)(us:List Ap)(s':AA):Prop:=∃vs H',Inv X pins σ H' s'/\Vals vs us/\Q vs H'
def SP(X:Cx)(pins:List (IN×Obj))(D:Ends)(f:Flow)(s':AA):Prop:=
 match f with
 | .next=>∃σ' H',Inv X pins σ' H' s'/\D.nx σ' H'
 | .brk=>∃σ' H',Inv X pins σ' H' s'/\D.bk σ' H'
 | .cont=>∃σ' H',Inv X pins σ' H' s'/\D.ct σ' H'
 | .ret u=>∃v σ' H',Inv X pins σ' H' s'/\RelV v u/\D.rt v H'
def PE(X:Cx)(e:Expr)(t:TE):Prop:=
 ∀(pins:List (IN×Obj)) (s:AA) (σ:St) (H:Hp) (Q:VK),Inv X pins σ H s->t σ H Q->AH (AM X.prog X.w) X.A (eval e X.env) (EP X pins σ Q) X.xe s
def PT(X:Cx)(e:Expr)(t:TT):Prop:=
 ∀(pins:List (IN×Obj)) (s:AA) (σ:St) (H:Hp) (Q:Bool->Hp->Prop),Inv X pins σ H s->t σ H Q->AH (AM X.prog X.w) X.A (isTrue e X.env (eval e X.env)) (TP X pins σ Q) X.xe s
def PW(X:Cx)(e:Expr)(t:TT):Prop:=
 ∀(whole:Sem Ap)(pins:List (IN×Obj)) (s:AA) (σ:St) (H:Hp) (Q:Bool->Hp->Prop),Inv X pins σ H s->t σ H Q->AH (AM X.prog X.w) X.A (isTrue e X.env whole) (TP X pins σ Q) X.xe s
theorem PW.pt{X:Cx}{e:Expr}{t:TT}(h:PW X e t):PT X e t:=h _
def PA(X:Cx)(es:List Expr)(t:TA):Prop:=
 ∀(pos:Pos)(pins:List (IN×Obj)) (s:AA) (σ:St) (H:Hp) (Q:List V->Hp->Prop),Inv X pins σ H s->t σ H Q->AH (AM X.prog X.w) X.A (spliced (CY pos (AK es X.env))) (AP X pins σ Q) X.xe s
def PS(X:Cx)(st:Stmt)(t:TS):Prop:=
 ∀(pins:List (IN×Obj)) (s:AA) (σ:St) (H:Hp) (D:Ends),Inv X pins σ H s->t D σ H->AH (AM X.prog X.w) X.A (exec st X.env) (SP X pins D) X.xe s
def PSs(X:Cx)(st:List Stmt)(t:TS):Prop:=
 ∀(pins:List (IN×Obj)) (s:AA) (σ:St) (H:Hp) (D:Ends),Inv X pins σ H s->t D σ H->AH (AM X.prog X.w) X.A (execs st X.env) (SP X pins D) X.xe s
theorem thn{α:Type}{t:Sem α}{Q Q':α->AA->Prop}{M:Model}{A:BA}{E:Ap->AA->Prop}{s:AA}(h:AH M A t Q E s)(hQ:∀a s,Q a s->Q' a s):AH M A t Q' E s:=A7 h hQ λ_ _ x=>x
theorem thE{t:Sem Ap}{X:Cx}{pins:List (IN×Obj)}{σ:St}{Q:VK}{Q':Ap->AA->Prop}{M:Model}{A:BA}{E:Ap->AA->Prop}{s:AA}(h:AH M A t (EP X pins σ Q) E s)(hQ:∀u s x H,Inv X pins σ H s->RelV x u->Q x H->Q' u s):AH M A t Q' E s:=thn h λu s z=>by
 obtain⟨x,H,I,r,q⟩:=z;exact hQ u s x H I r q
theorem thA{t:Sem (List Ap)}{X:Cx}{pins:List (IN×Obj)}{σ:St}{Q:List V->Hp->Prop}{Q':List Ap->AA->Prop}{M:Model}{A:BA}{E:Ap->AA->Prop}{s:AA}(h:AH M A t (AP X pins σ Q) E s)(hQ:∀u s x H,Inv X pins σ H s->Vals x u->Q x H->Q' u s):AH M A t Q' E s:=thn h λu s z=>by
 obtain⟨x,H,I,r,q⟩:=z;exact hQ u s x H I r q
theorem thT{t:Sem Bool}{X:Cx}{pins:List (IN×Obj)}{σ:St}{Q:Bool->Hp->Prop}{Q':Bool->AA->Prop}{M:Model}{A:BA}{E:Ap->AA->Prop}{s:AA}(h:AH M A t (TP X pins σ Q) E s)(hQ:∀u s H,Inv X pins σ H s->Q u H->Q' u s):AH M A t Q' E s:=thn h λu s z=>by
 obtain⟨H,I,q⟩:=z;exact hQ u s H I q
section
variable {X:Cx}
def Uo(i:Nat):TE:=λσ H Q=>∃v,σ[i]?=ID (ID v)/\Q v H
def tC(v:V):TE:=λ_ H Q=>Q v H
theorem Wg{i:Nat}{x:Str}{pos:Pos}(hN:X.N[i]?=ID x)(hv:Vis X.env.scope x)(hd:(x == ("__debug__" : Str))=false:=by decide)(hcd:(x == ("__classdict__" : Str))=false:=by decide):PE X (.Name x pos) (Uo i):=by
 intro pins s σ H Q I h;obtain⟨v,e,h⟩:=h;obtain⟨m,hn,hl⟩:=I.loc;obtain⟨u,r,l⟩:=hl i x v hN e hv;have fin:EP X pins σ Q u s:=⟨v,H,I,r,h⟩;rcases l with⟨hk,hm⟩|⟨hk,c,hc,hcell⟩
 ·exact wpAny_Name (wpAny_loadName_local I.ok.kind hk hn hm fin) hd
 rcases hk with hk|hk
 ·exact wpAny_Name (wpAny_loadName_cell I.ok.kind hk hc hcell fin) hd
 exact wpAny_Name (wpAny_loadName_free I.ok.kind hk hc hcell fin hcd) hd
theorem abU{i j pos}:PE X (.Constant (.int i) j pos) (tC (.int i)):=λ_ _ _ H _ I h=>wpAny_Constant_int ⟨.int i,H,I.tok _,⟨_,rfl⟩,h⟩
theorem adp{b j pos}:PE X (.Constant (.bool b) j pos) (tC (.bl b)):=λ_ _ _ H _ I h=>Constant_bool ⟨.bl b,H,I,rfl,h⟩
theorem abS{j pos}:PE X (.Constant .none j pos) (tC .non):=λ_ _ _ H _ I h=>Constant_none ⟨.non,H,I,rfl,h⟩
theorem abO{x j pos}:PE X (.Constant (.str x) j pos) (tC (.str x)):=λ_ _ _ H _ I h=>Calls.Constant_str ⟨.str x,H,I.tok _,⟨_,rfl⟩,h⟩
def Gl(X:Cx)(x:Str):Prop:=X.env.kindOf x=ID .globalImplicit
theorem Qd{E:Ap->AA->Prop}{pins:List (IN×Obj)}{s:AA}{σ:St}{H:Hp}{x:Str}{u:Ap}{pos:Pos}{Q:Ap->AA->Prop}(I:Inv X pins σ H s)(hg:Gl X x)(hm:X.mg x=ID u)(h:Q u s)
  (hd:(x == ("__debug__" : Str))=false:=by decide):AH (AM X.prog X.w) X.A (eval (.Name x pos) X.env) Q E s:=
 Calls.Name_function_global I.ok.kind hg (Calls.loadGlobal_global (by rw[I.ok.glob];exact I.mod.glob.keeps I.bk) hm h) hd
theorem gA{E:Ap->AA->Prop}{pins:List (IN×Obj)}{s:AA}{σ:St}{H:Hp}{x:Str}{u:Ap}{pos:Pos}{Q:Ap->AA->Prop}(I:Inv X pins σ H s)(hg:Gl X x)(hm:X.mg x=IF)(hv:D5 x=ID u)(h:Q u s)
  (hn:x ≠ "__name__" := by decide)(hd:(x == ("__debug__" : Str))=false:=by decide):AH (AM X.prog X.w) X.A (eval (.Name x pos) X.env) Q E s:=by
 obtain⟨mb,h1,h2⟩:=I.mod.blt;exact Calls.Name_function_global I.ok.kind hg (Calls.loadGlobal_builtin (by rw[I.ok.glob];exact I.mod.glob.keeps I.bk) hm (by rw[I.ok.blt];exact h1.keeps I.bk) ((h2 x hn).trans hv) h) hd
theorem ZM{x:Str}{v:V}{u:Ap}{pos:Pos}(hg:Gl X x)(hm:X.mg x=ID u)(r:RelV v u)(hd:(x == ("__debug__" : Str))=false:=by decide):PE X (.Name x pos) (tC v):=
 λ_ _ _ H _ I h=>Qd I hg hm ⟨v,H,I,r,h⟩ hd
theorem ZW{x:Str}{v:V}{u:Ap}{pos:Pos}(hg:Gl X x)(hm:X.mg x=IF)(hv:D5 x=ID u)(r:RelV v u)(hn:x ≠ "__name__" := by decide)(hd:(x == ("__debug__" : Str))=false:=by decide):PE X (.Name x pos) (tC v):=
 λ_ _ _ H _ I h=>gA I hg hm hv ⟨v,H,I,r,h⟩ hn hd
variable {a b:Expr}{ta tb:TE}{pos:Pos}
def tB(t:TE):TT:=λσ H Q=>t σ H λx H1=>∃c,x=.bl c/\Q c H1
theorem abB{e:Expr}{t:TE}(h:PE X e t)(he:∀whole,isTrue e X.env whole=(do let v <- whole;F4 e.pos;GB [v] (truthy v)):=by intro _;rfl):PT X e (tB t):=by
 intro pins s σ H Q I hw;refine isTrue_plain (thE (h pins s σ H _ I hw) λv s1 x H1 I1 r1 q1=>?_) (he _);obtain⟨d,rfl,q⟩:=q1;cases r1;exact Ee ⟨H1,I1,q⟩
variable {tA tB':TT}{rest:List Expr}
def Yu(t u:TT):TT:=λσ H Q=>t σ H λc H1=>if c=true then u σ H1 Q else Q false H1
def tOr(t u:TT):TT:=λσ H Q=>t σ H λc H1=>if c=true then Q true H1 else u σ H1 Q
def Yt(t:TT):TT:=λσ H Q=>t σ H λc H1=>Q (!c) H1
theorem Zi(ha:PT X a tA):PW X (.BoolOp .And [a] pos) tA:=by
 intro wh pins s σ H Q I h;refine isTrue_and (thn (ha pins s σ H Q I h) λc s1 e=>?_);cases c with
 | true=>exact isTrue_and_nil e
 | false=>exact e
theorem abz(ha:PT X a tA):PW X (.BoolOp .Or [a] pos) tA:=by
 intro wh pins s σ H Q I h;refine isTrue_or (thn (ha pins s σ H Q I h) λc s1 e=>?_);cases c with
 | false=>exact isTrue_or_nil e
 | true=>exact e
theorem abA(ha:PT X a tA)(hb:PW X (.BoolOp .And (b::rest) pos) tB'):PW X (.BoolOp .And (a::b::rest) pos) (Yu tA tB'):=by
 intro wh pins s σ H Q I h;refine isTrue_and (thT (ha pins s σ H _ I h) λc s1 H1 I1 q1=>?_);cases c with
 | true=>exact hb wh pins s1 σ H1 Q I1 q1
 | false=>exact⟨H1,I1,q1⟩
theorem ac9(ha:PT X a tA)(hb:PW X (.BoolOp .Or (b::rest) pos) tB'):PW X (.BoolOp .Or (a::b::rest) pos) (tOr tA tB'):=by
 intro wh pins s σ H Q I h;refine isTrue_or (thT (ha pins s σ H _ I h) λc s1 H1 I1 q1=>?_);cases c with
 | true=>exact⟨H1,I1,q1⟩
 | false=>exact hb wh pins s1 σ H1 Q I1 q1
theorem abC(ha:PT X a tA):PT X (.UnaryOp .Not a pos) (Yt tA):=by
 intro pins s σ H Q I h;exact isTrue_not (ha pins s σ H (λc H1=>Q (!c) H1) I h)
def UJ(ta tb:TE):TE:=λσ H Q=>ta σ H λx H1=>∃c,x=.bl c/\if c=true then tb σ H1 Q else Q (.bl false) H1
def abe(ta tb:TE):TE:=λσ H Q=>ta σ H λx H1=>∃c,x=.bl c/\if c=true then Q (.bl true) H1 else tb σ H1 Q
def Ut(ta:TE):TE:=λσ H Q=>ta σ H λx H1=>∃c,x=.bl c/\Q (.bl (!c)) H1
theorem abQ{op}{t:TE}(h:PE X a t):PE X (.BoolOp op [a] pos) t:=λpins s σ H Q I hw=>BoolOp_one (h pins s σ H Q I hw)
theorem abW(ha:PE X a ta)(hb:PE X (.BoolOp .And (b::rest) pos) tb):PE X (.BoolOp .And (a::b::rest) pos) (UJ ta tb):=by
 intro pins s σ H Q I h;refine BoolOp_and (thE (ha pins s σ H _ I h) λv s1 x H1 I1 r1 q1=>?_);obtain⟨c,rfl,q1⟩:=q1;cases r1;refine Ee ?_;cases c with
 | true=>exact hb pins s1 σ H1 Q I1 q1
 | false=>exact⟨.bl false,H1,I1,rfl,q1⟩
theorem adg(ha:PE X a ta)(hb:PE X (.BoolOp .Or (b::rest) pos) tb):PE X (.BoolOp .Or (a::b::rest) pos) (abe ta tb):=by
 intro pins s σ H Q I h;refine BoolOp_or (thE (ha pins s σ H _ I h) λv s1 x H1 I1 r1 q1=>?_);obtain⟨c,rfl,q1⟩:=q1;cases r1;refine Ee ?_;cases c with
 | false=>exact hb pins s1 σ H1 Q I1 q1
 | true=>exact⟨.bl true,H1,I1,rfl,q1⟩
theorem abR(ha:PE X a ta):PE X (.UnaryOp .Not a pos) (Ut ta):=by
 intro pins s σ H Q I h;refine UnaryOp_ (thE (ha pins s σ H _ I h) λv s1 x H1 I1 r1 q1=>?_);obtain⟨c,rfl,q1⟩:=q1;cases r1;exact not_of (Ee ⟨.bl (!c),H1,I1,rfl,q1⟩)
def tIf(t:TT)(ta tb:TE):TE:=λσ H Q=>t σ H λc H1=>if c=true then ta σ H1 Q else tb σ H1 Q
theorem Wi{c:Expr}(hc:PT X c tA)(ha:PE X a ta)(hb:PE X b tb):PE X (.IfExp c a b pos) (tIf tA ta tb):=by
 intro pins s σ H Q I h;refine wpAny_IfExp (thT (hc pins s σ H _ I h) λd s1 H1 I1 q1=>?_);cases d with
 | true=>exact ha pins s1 σ H1 Q I1 q1
 | false=>exact hb pins s1 σ H1 Q I1 q1
end
def SqL(K:AF)(H:Hp)(a:IN)(xs:List V):Prop:=
 Rd H a (.lst xs) \/
  ∃(o:Obj)(its:Array Ap)(n:Nat),K.lookup a=ID o/\o.cls=.type "list" /\ o.dict=IF/\o.data=.seq its n/\its.size<=AN/\Vals xs its.toList
def SqT(K:AF)(H:Hp)(a:IN)(xs:List V):Prop:=
 Rd H a (.tup xs) \/
  ∃(o:Obj)(its:Array Ap)(n:Nat),K.lookup a=ID o/\o.cls=.type "tuple" /\ o.data=.seq its n/\its.size<=AN/\Vals xs its.toList
def aee:Ap->Option V
 | .none=>ID .non
 | .bool b=>ID (.bl b)
 | .int i _=>ID (.int i)
 | .str x _=>ID (.str x)
 | .bytes b _=>ID (.byt b)
 | .float b _=>ID (.flt b)
 | .ref a=>ID (.ref a)
 | .type n=>ID (.ty n)
 | _=>IF
theorem RelV.abs{x:V}{u:Ap}(r:RelV x u):aee u=ID x:=by
 cases x with
 | non=>cases r;rfl
 | bl _=>cases r;rfl
 | int _=>obtain⟨t,rfl⟩:=r;rfl
 | str _=>obtain⟨t,rfl⟩:=r;rfl
 | byt _=>obtain⟨t,rfl⟩:=r;rfl
 | flt _=>obtain⟨t,rfl⟩:=r;rfl
 | ref _=>cases r;rfl
 | ty _=>cases r;rfl
theorem RelV.inj{x y:V}{u:Ap}(r:RelV x u)(q:RelV y u):x=y:=Be (r.abs.symm.trans q.abs)
theorem Vals.inj:∀{xs ys:List V}{us:List Ap},Vals xs us->Vals ys us->xs=ys
 | _,_,_,.nil,.nil=>rfl
 | _,_,_,.cons r t,.cons r' t'=>by rw[r.inj r',Vals.inj t t']
section
variable {X:Cx}{pins:List (IN×Obj)}{σ:St}{H:Hp}{s:AA}{a:IN}{xs ys:List V}
theorem SqL.of{K:AF}(h:H a=ID (.lst xs)):SqL K H a xs:=.inl (.inl h)
theorem SqT.of{K:AF}(h:H a=ID (.tup xs)):SqT K H a xs:=.inl (.inl h)
theorem Inv.list(I:Inv X pins σ H s)(h:SqL X.K H a xs):∃its:List Ap,Vals xs its/\PlainL s.heap a its.toArray/\xs.length<=AN:=by
 rcases h with h|⟨o,its,n,hk,hc,hd,hs,hz,r⟩
 ·obtain⟨z,its,n,r,e⟩:=h.ok I.hok;exact⟨its,r,⟨_,n,e,rfl,rfl,rfl⟩,z⟩
 refine⟨its.toList,r,⟨o,n,I.kIn a o hk,hc,hd,by simpa using hs⟩,?_⟩;have e:=r.length;simp only[D6] at e;omega
theorem Inv.tuple(I:Inv X pins σ H s)(h:SqT X.K H a xs):∃its:List Ap,Vals xs its/\IsTup s.heap a its.toArray/\xs.length<=AN:=by
 rcases h with h|⟨o,its,n,hk,hc,hs,hz,r⟩
 ·obtain⟨z,its,r,p⟩:=h.ok I.hok;exact⟨its,r,p,z⟩
 refine⟨its.toList,r,⟨o,I.kIn a o hk,hc,n,by simpa using hs⟩,?_⟩;have e:=r.length;simp only[D6] at e;omega
theorem Inv.qt(I:Inv X pins σ H s)(h:SqL X.K H a xs)(h':SqL X.K H a ys):xs=ys:=by
 obtain⟨its,r,⟨o,n,e,_,_,d⟩,_⟩:=I.list h;obtain⟨its',r',⟨o',n',e',_,_,d'⟩,_⟩:=I.list h';rw[e] at e';cases e';rw[d] at d';injection d' with d1 _;have:its=its':=by simpa using congrArg Array.toList d1
 subst this;exact r.inj r'
theorem Inv.qY(I:Inv X pins σ H s)(h:SqT X.K H a xs)(h':SqT X.K H a ys):xs=ys:=by
 obtain⟨its,r,⟨o,e,_,n,d⟩,_⟩:=I.tuple h;obtain⟨its',r',⟨o',e',_,n',d'⟩,_⟩:=I.tuple h';rw[e] at e';cases e';rw[d] at d';injection d' with d1 _;have:its=its':=by simpa using congrArg Array.toList d1
 subst this;exact r.inj r'
end
abbrev Cx.wish(X:Cx)(E:Ap->AA->Prop):Cx:={ X with xe:=E }
abbrev Cx.nox(X:Cx):Cx:=X.wish λ_ _=>False
theorem Cx.Ok.wish{X:Cx}(ok:X.Ok)(E:Ap->AA->Prop):(X.wish E).Ok:=
 ⟨ok.mod,ok.kind,ok.glob,ok.blt,ok.above,ok.inj,ok.has,ok.cab,ok.hd,ok.frames,ok.stk,ok.exf,ok.bs,ok.bsz,ok.noex,ok.exfs,ok.wW,ok.frf⟩
theorem Cx.Ok.pF{X:Cx}{E:Ap->AA->Prop}(ok:(X.wish E).Ok):X.Ok:=
 ⟨ok.mod,ok.kind,ok.glob,ok.blt,ok.above,ok.inj,ok.has,ok.cab,ok.hd,ok.frames,ok.stk,ok.exf,ok.bs,ok.bsz,ok.noex,ok.exfs,ok.wW,ok.frf⟩
section
variable {X:Cx}{pins:List (IN×Obj)}{σ:St}{H:Hp}{s:AA}{E:Ap->AA->Prop}
theorem Inv.wish(I:Inv X pins σ H s)(E:Ap->AA->Prop):Inv (X.wish E) pins σ H s:=⟨I.ok.wish E,I.os,I.bare,I.base,I.loc,I.cell,I.free,I.freeC,I.pin,I.hok,I.len⟩
theorem Inv.pF(I:Inv (X.wish E) pins σ H s):Inv X pins σ H s:=⟨I.ok.pF,I.os,I.bare,I.base,I.loc,I.cell,I.free,I.freeC,I.pin,I.hok,I.len⟩
theorem SP.pF{D:Ends}{f:Flow}{s':AA}(h:SP (X.wish E) pins D f s'):SP X pins D f s':=by
 cases f with
 | next=>obtain⟨σ',H',I,q⟩:=h;exact⟨σ',H',I.pF,q⟩
 | brk=>obtain⟨σ',H',I,q⟩:=h;exact⟨σ',H',I.pF,q⟩
 | cont=>obtain⟨σ',H',I,q⟩:=h;exact⟨σ',H',I.pF,q⟩
 | ret u=>obtain⟨v,σ',H',I,r,q⟩:=h;exact⟨v,σ',H',I.pF,r,q⟩
theorem PSs.nox{st:List Stmt}{t:TS}(h:PSs X.nox st t):PSs X st t:=λpins s σ H D I hw=>
 A7 (h pins s σ H D (I.wish _) hw) (λ_ _ q=>q.pF) λ_ _ z=>FM z
end
section
variable {X:Cx}{st:Stmt}{rest:List Stmt}{t u:TS}{e:Expr}{te:TE}{pos:Pos}
def Ou:TS:=λD σ H=>D.nx σ H
def Q9(t u:TS):TS:=λD σ H=>t { D with nx:=u D } σ H
theorem Zn:PSs X [] Ou:=λ_ _ σ H _ I h=>Lc ⟨σ,H,I,h⟩
theorem V5(h1:PS X st t)(h2:PSs X rest u):PSs X (st::rest) (Q9 t u):=by
 intro pins s σ H D I h;refine wpAny_execs_cons (thn (h1 pins s σ H { D with nx:=u D } I h) λf s1 q=>?_);cases f with
 | next=>
  obtain⟨σ',H',I',q⟩:=q;exact h2 pins s1 σ' H' D I' q
 | ret v=>exact q
 | brk=>exact q
 | cont=>exact q
theorem Zm(h1:PS X st t):PSs X [st] t:=by
 intro pins s σ H D I h;refine wpAny_execs_cons (thn (h1 pins s σ H D I h) λf s1 q=>?_);cases f with
 | next=>exact Lc q
 | ret v=>exact q
 | brk=>exact q
 | cont=>exact q
theorem Inv.quiet{pins:List (IN×Obj)}{σ:St}{H:Hp}{s:AA}(I:Inv X pins σ H s):interactive X.env=false:=by simp[interactive,I.ok.kind]
def Il(te:TE):TS:=λD σ H=>te σ H λ_ H1=>D.nx σ H1
theorem Zr(he:PE X e te)(hs:Kb e IF pos.line X.env=pure false:=by rfl):PS X (.Expr e pos) (Il te):=by
 intro pins s σ H D I h;exact wpAny_Expr_any (thE (he pins s σ H _ I h) λv s1 x H1 I1 r1 q1=>⟨σ,H1,I1,q1⟩) I.quiet hs
def Uq(te:TE):TS:=λD σ H=>te σ H D.rt
theorem abF(he:PE X e te):PS X (.Return (ID e) pos) (Uq te):=by
 intro pins s σ H D I h;exact wpAny_Return_some (thE (he pins s σ H _ I h) λv s1 x H1 I1 r1 q1=>⟨x,σ,H1,I1,r1,q1⟩)
def Uv(c:TT)(t u:TS):TS:=λD σ H=>c σ H λb H1=>if b=true then t D σ H1 else u D σ H1
theorem adb{c:Expr}{a b:List Stmt}{tc:TT}(hc:PT X c tc)(ha:PSs X a t)(hb:PSs X b u):PS X (.If c a b pos) (Uv tc t u):=by
 intro pins s σ H D I h;refine wpAny_If (thT (hc pins s σ H _ I h) λd s1 H1 I1 q1=>?_);cases d with
 | true=>exact ha pins s1 σ H1 D I1 q1
 | false=>exact hb pins s1 σ H1 D I1 q1
end
abbrev TG:=V->St->Hp->(St->Hp->Prop)->Prop
abbrev TGs:=List V->St->Hp->(St->Hp->Prop)->Prop
def PG(X:Cx)(target:Expr)(t:TG):Prop:=
 ∀(pins:List (IN×Obj)) (s:AA) (σ:St) (H:Hp) (v:V) (u:Ap) (Q:St->Hp->Prop),Inv X pins σ H s->RelV v u->t v σ H Q ->
  AH (AM X.prog X.w) X.A (C7 target X.env u) (λ_ s'=>∃σ' H',Inv X pins σ' H' s'/\Q σ' H') X.xe s
def PGs(X:Cx)(ts:List Expr)(t:TGs):Prop:=
 ∀(pins:List (IN×Obj)) (s:AA) (σ:St) (H:Hp) (vs:List V) (us:List Ap) (Q:St->Hp->Prop),Inv X pins σ H s->Vals vs us->t vs σ H Q ->
  AH (AM X.prog X.w) X.A (assignInOrder ((CI ts X.env).map (·.2)) us) (λ_ s'=>∃σ' H',Inv X pins σ' H' s'/\Q σ' H') X.xe s
abbrev T9:=V->V->V->Hp->(Hp->Prop)->Prop
def Ua(X:Cx)(t:T9):Prop:=
 ∀(pins:List (IN×Obj)) (s:AA) (σ:St) (H:Hp) (o i v:V) (ov iv u:Ap) (Q:Hp->Prop),Inv X pins σ H s->RelV o ov->RelV i iv->RelV v u->t o i v H Q ->
  AH (AM X.prog X.w) X.A (setItem ov iv u) (λ_ s'=>∃H',Inv X pins σ H' s'/\Q H') X.xe s
abbrev TIp:=V->V->Hp->VK->Prop
def PIp(X:Cx)(op:Operator)(t:TIp):Prop:=
 ∀(pins:List (IN×Obj)) (s:AA) (σ:St) (H:Hp) (x y:V) (v u:Ap) (Q:VK),Inv X pins σ H s->RelV x v->RelV y u->t x y H Q ->
  AH (AM X.prog X.w) X.A (inplaceOp op v u) (EP X pins σ Q) X.xe s
section
variable {X:Cx}{pos:Pos}
def gb(i:Nat):TG:=λv σ H Q=>Q (σ.set i (ID v)) H
theorem Py{i:Nat}{x:Str}(hN:X.N.Nodup)(hi:X.N[i]?=ID x)(hx:Loc X.env.scope x)(hf:X.fn x=true\/X.env.scope.names.lookup x=ID .local:=by first|exact .inl rfl|exact .inr rfl|assumption):PG X (.Name x pos) (gb i):=by
 intro pins s σ H v u Q I r h;exact GG (pH I hN hi hx r (λs' I'=>⟨_,H,I',h⟩) hf)
def acB:TGs:=λvs σ H Q=>vs=[]/\Q σ H
def Xl(t:TG)(u:TGs):TGs:=λvs σ H Q=>∃v r,vs=v::r/\t v σ H λσ' H'=>u r σ' H' Q
theorem ZD:PGs X [] acB:=by
 intro pins s σ H vs us Q I r h;obtain⟨e,h⟩:=h;subst e;cases r;exact assignInOrder_nil ⟨σ,H,I,h⟩
theorem Wc{e:Expr}{es:List Expr}{t:TG}{u:TGs}(h1:PG X e t)(h2:PGs X es u)
  (hs:(CI (e::es) X.env).map (·.2)=C7 e X.env::(CI es X.env).map (·.2):=by rfl):PGs X (e::es) (Xl t u):=by
 intro pins s σ H vs us Q I r h;obtain⟨v,vr,e1,h⟩:=h;subst e1;cases r with
 | cons r rr=>
  rw[hs];refine assignInOrder_cons (thn (h1 pins s σ H _ _ _ I r h) λ_ s1 ⟨σ1,H1,I1,q1⟩=>?_);exact h2 pins s1 σ1 H1 _ _ Q I1 rr q1
def aec(K:AF)(n:Nat)(t:TGs):TG:=λv σ H Q=>∃a xs,v=.ref a/\SqT K H a xs/\xs.length=n/\t xs σ H Q
theorem abM{es:List Expr}{k:Nat}{t:TGs}{n:Nat}(hc:X.calm=true)(h:PGs X es t)
  (hn:(CI es X.env).length=n:=by rfl)(hst:(CI es X.env).findIdx? (·.1)=IF:=by rfl):PG X (.Tuple es k pos) (aec X.K n t):=by
 intro pins s σ H v u Q I r hw;obtain⟨a,xs,e1,hq,hl,hw⟩:=hw;subst e1;cases r;obtain⟨its,rv,ht,hz⟩:=I.tuple hq;refine assign_Tuple_tuple (I.ok.hd hc) ht (by simp[hn,<- hl,rv.length]) hst λh' hx=>?_;have I1:Inv X pins σ H { s with heap:=h' }:=I.kept (t':=s.toks) λb o e=>hx b o (B1 (AQ e)) e;exact h pins _ σ H xs _ Q I1 (by simpa using rv) hw
def aax(to ti:TE)(t:T9):TG:=λv σ H Q=>to σ H λo H1=>ti σ H1 λi H2=>t o i v H2 λH3=>Q σ H3
theorem Wd{o i:Expr}{to ti:TE}{t:T9}(ho:PE X o to)(hi:PE X i ti)(hs:Ua X t)
   (ha:∀v,C7 (.Subscript o i pos) X.env v=(do
   let ov <- GB [v] (eval o X.env)
   let iv <- GB [v,ov] (eval i X.env)
   F4 pos
   GB [v,ov,iv] (setItem ov iv v)
   release [v,ov,iv] []):=by intro _;rfl):PG X (.Subscript o i pos) (aax to ti t):=by
 intro pins s σ H v u Q I r h;rw[ha];refine An (Ct (thE (ho pins s σ H _ I h) λov s1 x H1 I1 r1 q1=>?_));refine An (Ct (thE (hi pins s1 σ H1 _ I1 q1) λiv s2 y H2 I2 r2 q2=>?_));refine An (CA (An (Ct (thn (hs pins s2 σ H2 x y v ov iv u _ I2 r1 r2 r q2) λ_ s3 ⟨H3,I3,q3⟩=>?_))));exact wpAny_release ⟨σ,H3,I3,q3⟩
def rM(te:TE)(g:TG):TS:=λD σ H=>te σ H λx H1=>g x σ H1 D.nx
theorem abJ{tg e:Expr}{te:TE}{g:TG}(he:PE X e te)(hg:PG X tg g)(hs:DS [tg] e pos.line X.env=pure false:=by rfl)(hw:L7 [tg] e X.env=pure IF:=by rfl)
  (h1:(CI [tg] X.env).map (·.2)=[C7 tg X.env]:=by rfl):PS X (.Assign [tg] e pos) (rM te g):=by
 intro pins s σ H D I h;refine wpAny_Assign_stores (thE (he pins s σ H _ I h) λv s1 x H1 I1 r1 q1=>?_) hs hw;rw[h1];exact thn (hg pins s1 σ H1 x v _ I1 r1 q1) λ_ s2 q=>q
theorem abE{i:Nat}{x:Str}{e:Expr}{te:TE}{pos':Pos}(hN:X.N.Nodup)(hi:X.N[i]?=ID x)(hx:Loc X.env.scope x)(he:PE X e te)(hs:Kb e (ID (.Name x pos')) pos.line X.env=pure false:=by rfl)(hf:X.fn x=true\/X.env.scope.names.lookup x=ID .local:=by first|exact .inl rfl|exact .inr rfl|assumption) :
  PS X (.Assign [.Name x pos'] e pos) (rM te (gb i)):=by
 intro pins s σ H D I h;refine wpAny_Assign_Name (thE (he pins s σ H _ I h) λv s1 y H1 I1 r1 q1=>?_) hs;exact pH I1 hN hi hx r1 (λs2 I2=>⟨_,H1,I2,q1⟩) hf
def abd(i j:Nat)(ta:TA):TS:=λD σ H=>ta σ H λvs H1=>∃v w,vs=[v,w]/\D.nx ((σ.set i (ID v)).set j (ID w)) H1
theorem abG{i j:Nat}{x y:Str}{a b:Expr}{ta:TA}{px py pt:Pos}{kt k2 pt2}(hc:X.calm=true)(hN:X.N.Nodup)(hi:X.N[i]?=ID x)(hj:X.N[j]?=ID y)(hij:i≠j)
  (hx:X.env.scope.names.lookup x=ID .local)(hy:X.env.scope.names.lookup y=ID .local)(ha:PA X [a,b] ta)
  (hw:L7 [.Tuple [.Name x px,.Name y py] kt pt] (.Tuple [a,b] k2 pt2) X.env=pure (ID [x,y]))
  (hs:DS [.Tuple [.Name x px,.Name y py] kt pt] (.Tuple [a,b] k2 pt2) pos.line X.env=pure false:=by rfl) :
  PS X (.Assign [.Tuple [.Name x px,.Name y py] kt pt] (.Tuple [a,b] k2 pt2) pos) (abd i j ta):=by
 intro pins s σ H D I h;rw[IA];refine An (CA ?_);rw[hs];refine An (Au ?_);rw[if_neg δ];refine An (Tuple_ (thA (ha _ pins s σ H _ I h) λus s1 vs H1 I1 r1 q1=>?_));obtain⟨v,w,e1,q1⟩:=q1;subst e1;obtain⟨u1,u2,rfl,rv,rw'⟩:∃u1 u2,us=[u1,u2]/\RelV v u1/\RelV w u2:=by
  cases r1 with
  | cons p q=>
   cases q with
   | cons p' q'=>
    cases q';exact⟨_,_,rfl,p,p'⟩
 refine A6 ?_ (by show 2<=AN;decide);have I2:Inv X pins σ H1 { s1 with heap:=s1.heap.push { cls:=.type "tuple",data:=.seq [u1,u2].toArray } }:=I1.kept (t':=s1.toks) λb o e=>AB _ e;rw[hw];refine An (Au ?_);show AH (AM X.prog X.w) X.A (do rule "assign.swapped-stores";let items <- unpackItems (.ref s1.heap.objs.size) 2 IF;assignInOrder [λv=>bindName X.env y v,λv=>bindName X.env x v] items.reverse;pure Flow.next) _ _ _;refine An (Da (An (unpackItems_tuple (items:=#[u1,u2]) (I.ok.hd hc) (IsTup.new s1.heap _) λh' hx'=>?_)));have I3:=I2.kept (h':=h') (t':=s1.toks) λb o e=>hx' b o (B1 (AQ e)) e;show AH _ _ (assignInOrder [λv=>bindName X.env y v,λv=>bindName X.env x v] [u2,u1] >>= λ_=>pure Flow.next) _ _ _;refine An (assignInOrder_cons (wpAny_bindName (pH I3 hN hj (.inl hy) rw' (λs2 I4=>?_) (.inr hy))));refine assignInOrder_cons (wpAny_bindName (pH I4 hN hi (.inl hx) rv (λs3 I5=>assignInOrder_nil (Au ?_)) (.inr hx)));rw[List.set_comm _ _ (BS hij)] at I5;exact⟨_,H1,I5,q1⟩
def abh(i:Nat)(te:TE)(ti:TIp):TS:=λD σ H=>∃x,σ[i]?=ID (ID x)/\te σ H λy H1=>ti x y H1 λz H2=>D.nx (σ.set i (ID z)) H2
theorem abI{i:Nat}{x:Str}{e:Expr}{te:TE}{op:Operator}{ti:TIp}{pos':Pos}(hN:X.N.Nodup)(hi:X.N[i]?=ID x)(hx:Loc X.env.scope x)(he:PE X e te)(ho:PIp X op ti)(hf:X.fn x=true\/X.env.scope.names.lookup x=ID .local:=by first|exact .inl rfl|exact .inr rfl|assumption) :
  PS X (.AugAssign (.Name x pos') op e pos) (abh i te ti):=by
 intro pins s σ H D I h;obtain⟨v,e1,h⟩:=h;obtain⟨m,hn,hl⟩:=I.loc;have vis:Vis X.env.scope x:=by rcases hx with k|k;exact .inl k;exact .inr (.inl k)
 obtain⟨u,r,l⟩:=hl i x v hi e1 vis;refine wpAny_AugAssign_Name ?_;have go:AH (AM X.prog X.w) X.A (eval e X.env) (λw s₂=>AH (AM X.prog X.w) X.A (inplaceOp op u w) (λr s₃=>AH (AM X.prog X.w) X.A (storeName X.env x r) (λ_=>SP X pins D .next) X.xe s₃) X.xe s₂) X.xe s:=by
  refine thE (he pins s σ H _ I h) λw s1 y H1 I1 r1 q1=>?_;refine thE (ho pins s1 σ H1 v y u w _ I1 r r1 q1) λz s2 zv H2 I2 r2 q2=>?_;exact pH I2 hN hi hx r2 (λs3 I3=>⟨_,H2,I3,q2⟩) hf
 rcases l with⟨hk,hm⟩|⟨hk,c,hc,hcell⟩
 ·exact wpAny_loadName_local I.ok.kind hk hn hm go
 rcases hk with hk|hk
 ·exact wpAny_loadName_cell I.ok.kind hk hc hcell go
 rcases hx with k|k
 ·have:X.env.scope.names.lookup x=ID .free:=hk;rw[k] at this;cases this
 have:X.env.scope.names.lookup x=ID .free:=hk;rw[k] at this;cases this
def ipI(f:Int->Int->Int):TIp:=λx y H Q=>∃i j,x=.int i/\y=.int j/\Q (.int (f i j)) H
theorem acu:PIp X .Add (ipI λi j=>i+j):=by
 intro pins s σ H x y v u Q I r1 r2 h;obtain⟨i,j,e1,e2,q⟩:=h;subst e1;subst e2;obtain⟨t,rfl⟩:=r1;obtain⟨t',rfl⟩:=r2;exact iadd_int ⟨.int _,H,I.tok _,⟨_,rfl⟩,q⟩
theorem acs:PIp X .Sub (ipI λi j=>i-j):=by
 intro pins s σ H x y v u Q I r1 r2 h;obtain⟨i,j,e1,e2,q⟩:=h;subst e1;subst e2;obtain⟨t,rfl⟩:=r1;obtain⟨t',rfl⟩:=r2;exact isub_int ⟨.int _,H,I.tok _,⟨_,rfl⟩,q⟩
def K1(c:TT)(tb:TS):TS:=λD σ H=>∃W:Nat->St->Hp->Prop,(∃m,W m σ H)/\∀m σ H,W m σ H ->
 c σ H λb H1=>if b=true then ∃N:St->Hp->Prop,(∀σ' H',N σ' H'->∃m',m'<m/\W m' σ' H')/\tb { D with nx:=N,ct:=N,bk:=D.nx } σ H1 else D.nx σ H1
theorem V6{c:Expr}{body:List Stmt}{tc:TT}{tb:TS}(hp:PassesOwn (AM X.prog X.w) X.A X.env X.xe)(hc:PT X c tc)(hb:PSs X body tb):PS X (.While c body [] pos) (K1 tc tb):=by
 intro pins s σ H D I h;obtain⟨W,⟨m0,w0⟩,turn⟩:=h;refine wpAny_While (codeAny_whileLoop (λn s'=>∃σ' H',Inv X pins σ' H' s'/\W n σ' H') ?_ m0 ⟨σ,H,I,w0⟩);rintro n s1 ⟨σ1,H1,I1,w1⟩;refine Fs hp (thT (hc pins s1 σ1 H1 _ I1 (turn n σ1 H1 w1)) λb s2 H2 I2 q2=>?_);cases b with
 | true=>
  obtain⟨N,hN,q2⟩:=q2;rw[if_pos rfl];refine Fs hp (thn (hb pins s2 σ1 H2 _ I2 q2) λf s3 q3=>?_);cases f with
  | next=>
   obtain⟨σ3,H3,I3,n3⟩:=q3;obtain⟨m',hm,w3⟩:=hN σ3 H3 n3;exact⟨m',hm,σ3,H3,I3,w3⟩
  | cont=>
   obtain⟨σ3,H3,I3,n3⟩:=q3;obtain⟨m',hm,w3⟩:=hN σ3 H3 n3;exact⟨m',hm,σ3,H3,I3,w3⟩
  | brk=>exact q3
  | ret v=>exact q3
 | false=>
  rw[if_neg AX];exact Lc ⟨σ1,H2,I2,q2⟩
end
structure It where
 go:Nat->Hp->Prop
 yld:Nat->Hp->V->Hp->Prop
 stop:Nat->Hp->Prop
def lJ(X:Cx)(pins:List (IN×Obj))(H:Hp)(b:IN):Prop:=
 H b=IF/\b≠X.env.locals/\b∉X.fs/\(b∈X.ex\/X.s₀.heap.objs.size<=b)/\(∀x c,X.env.cells.lookup x=ID c->c≠b)/\∀p∈X.pn++pins,p.1≠b
theorem Inv.Dl{X:Cx}{pins:List (IN×Obj)}{σ:St}{H H':Hp}{s:AA}{b:IN}(I:Inv X pins σ H s)(hb:s.heap.objs.size<=b)(hn:H' b=IF):lJ X pins H' b:=by
 refine⟨hn,Ki (BB I.lt hb),I.Gy hb,.inr (CM I.sz hb),λx c e z=>?_,λp hp z=>?_⟩
 ·obtain⟨v,q⟩:=I.cell x c e;exact absurd (BB q.lt (by rw[z];exact hb)) (ES _)
 exact absurd (BB (AQ (I.pin p hp).1) (by rw[z];exact hb)) (ES _)
structure Turn(P:A1)(w:BD)(K:AF)(tg:Expr)(J:It)(fp:List IN)(it:IN)(tn:Nat->Heap->Prop):Prop where
 mem:it∈fp
 obj:∀i h,tn i h->∀b∈fp,∃o,h.get? b=ID o/\∀v,o.data≠.cell v
 keep:∀i h h',tn i h->(∀b∈fp,∀o,h.get? b=ID o->h'.get? b=ID o)->tn i h'
 item:∀(X:Cx),X.prog=P->X.w=w->X.K=K->X.calm=true->∀(i:Nat)(pins:List (IN×Obj)) (s:AA) (σ:St) (H:Hp) (E:Ap->AA->Prop),Inv X pins σ H s->(∀b∈fp,lJ X pins H b)->tn i s.heap->J.go i H ->
  AH (AM P w) X.A (EF (.ref it)) (λr s1=>∃u,r=ID u /\
   AH (AM P w) X.A (DD tg (.ref it) u) (λ_ s2=>∃x H',Inv X pins σ H' s2/\RelV x u/\J.yld i H x H'/\tn (i+1) s2.heap/\∀b∈fp,H' b=IF) E s1) E s
 done:∀(X:Cx),X.prog=P->X.w=w->X.K=K->X.calm=true->∀(i:Nat)(pins:List (IN×Obj)) (s:AA) (σ:St) (H:Hp) (E:Ap->AA->Prop),Inv X pins σ H s->(∀b∈fp,lJ X pins H b)->tn i s.heap->J.stop i H ->
  AH (AM P w) X.A (EF (.ref it)) (λr s1=>r=IF/\Inv X pins σ H s1) E s
 self:∀(A:BA)(i:Nat)(s:AA)(Q:Ap->AA->Prop)(E:Ap->AA->Prop),tn i s.heap->Q (.ref it) s->AH (AM P w) A (IJ (.ref it)) Q E s
abbrev TI:=St->Hp->(It->Hp->Prop)->Prop
def PIE(X:Cx)(pins:List (IN×Obj))(σ:St)(tg:Expr)(R:It->Hp->Prop)(itv:Ap)(s2:AA):Prop:=
 ∃(it:IN)(fp:List IN)(tn:Nat->Heap->Prop)(J:It)(H':Hp),itv=.ref it/\Inv X pins σ H' s2/\Turn X.prog X.w X.K tg J fp it tn/\tn 0 s2.heap/\(∀b∈fp,lJ X pins H' b)/\R J H'
def PI(X:Cx)(tg iter:Expr)(wi:TI):Prop:=
 ∀(pins:List (IN×Obj)) (s:AA) (σ:St) (H:Hp) (R:It->Hp->Prop),Inv X pins σ H s->wi σ H R ->
  AH (AM X.prog X.w) X.A (eval iter X.env) (λv s1=>AH (AM X.prog X.w) X.A (IJ v) (PIE X pins σ tg R) X.xe s1) X.xe s
theorem J1{M:Model}{A:BA}{E:Ap->AA->Prop}{s:AA}{tg:Expr}{it:IN}{u:Ap}{o:Obj}{n:String}{vs:Array Ap}{Q:Unit->AA->Prop}(ho:s.heap.get? it=ID o)(hc:o.cls=.type n)(hd:o.data=.fields vs)
  (hn:["enumerate","zip","dict_itemiterator","dict_reverseitemiterator","odict_iterator","itertools.zip_longest","itertools.pairwise"].contains n=false)(hQ:Q () s):AH M A (DD tg (.ref it) u) Q E s:=by
 unfold DD;cases tg <;> first
  | exact Au hQ
  | (cases u <;> first
    | exact Au hQ
    | (refine An (wpAny_load ho ?_)
       rw[hc,hd];show AH M A (if (["enumerate","zip","dict_itemiterator","dict_reverseitemiterator","odict_iterator","itertools.zip_longest","itertools.pairwise"].contains n&&vs[0]? == ID (Db _))=true then _ else _) Q E s;rw[if_neg (by intro h;rw[hn,Bool.false_and] at h;cases h)];exact Au hQ))
def Itl(K:AF)(a:IN):It:=
 ⟨λi H=>∃xs x,SqL K H a xs/\xs[i]?=ID x,λi H x H'=>H'=H/\∀xs,SqL K H a xs->xs[i]?=ID x,λi H=>∃xs,SqL K H a xs/\xs.length<=i⟩
def Itt(K:AF)(a:IN):It:=
 ⟨λi H=>∃xs x,SqT K H a xs/\xs[i]?=ID x,λi H x H'=>H'=H/\∀xs,SqT K H a xs->xs[i]?=ID x,λi H=>∃xs,SqT K H a xs/\xs.length<=i⟩
def Itr(lo:Int)(n:Nat):It:=⟨λi _=>i<n,λi H x H'=>H'=H/\x=.int (lo+i),λi _=>n<=i⟩
theorem QZ{P:A1}{w:BD}{K:AF}{tg:Expr}(a it:IN):Turn P w K tg (Itl K a) [it] it (λi h=>h.IsListIter it a i) where
 mem:=by simp
 obj:=λi h st b hb=>by
  have e:b=it:=by simpa using hb
  subst e;obtain⟨o,e,c,d⟩:=st;exact⟨o,e,λv z=>by rw[d] at z;cases z⟩
 keep:=λi h h' st k=>st.at λo e=>k it ζ o e
 item:=by
  intro X hP hw hK hc i pins s σ H E I hf st hg;subst hP hw hK;obtain⟨xs,x,hq,hx⟩:=hg;obtain⟨its,rv,p,hz⟩:=I.list hq;obtain⟨u,hu,ru⟩:=rv.get hx;obtain⟨f0,f1,f2,f3,f4,f5⟩:=hf it ζ;refine wpAny_pyNext_list_item st p.isList (x:=u) (by simpa using hu) λh' st' sb=>?_;have I1:Inv X pins σ H { s with heap:=h' }:=I.turned (t':=s.toks) (λb o hb e=>(sb.2 b hb).trans e) f0 f1 f3 f4 f5;obtain⟨o,e,c,d⟩:=id st';exact⟨u,rfl,J1 (s:={ s with heap:=h' }) e c d δ ⟨x,H,I1,ru,⟨rfl,λys hy=>by rw[I.qt hy hq];exact hx⟩,st',λb hb=>(hf b hb).1⟩⟩
 done:=by
  intro X hP hw hK hc i pins s σ H E I hf st hg;subst hP hw hK;obtain⟨xs,hq,hx⟩:=hg;obtain⟨its,rv,p,hz⟩:=I.list hq;obtain⟨f0,f1,f2,f3,f4,f5⟩:=hf it ζ;have hl:=rv.length;exact wpAny_pyNext_list_end (I.ok.hd hc) st p.isList (by simp;omega) λh' eb=>⟨rfl,I.turned (t':=s.toks) (λb o hb e=>eb b o hb e) f0 f1 f3 f4 f5⟩
 self:=λ_ _ _ _ _ st h=>wpAny_pyIter_listiter st h
theorem KN{P:A1}{w:BD}{K:AF}{tg:Expr}(a it:IN):Turn P w K tg (Itt K a) [it] it (λi h=>h.IsTupleIter it a i) where
 mem:=by simp
 obj:=λi h st b hb=>by
  have e:b=it:=by simpa using hb
  subst e;obtain⟨o,e,c,d⟩:=st;exact⟨o,e,λv z=>by rw[d] at z;cases z⟩
 keep:=λi h h' st k=>st.at λo e=>k it ζ o e
 item:=by
  intro X hP hw hK hc i pins s σ H E I hf st hg;subst hP hw hK;obtain⟨xs,x,hq,hx⟩:=hg;obtain⟨its,rv,p,hz⟩:=I.tuple hq;obtain⟨u,hu,ru⟩:=rv.get hx;obtain⟨f0,f1,f2,f3,f4,f5⟩:=hf it ζ;refine wpAny_pyNext_tuple_item st (show s.heap.IsTuple a its.toArray from p) (x:=u) (by simpa using hu) λh' st' sb=>?_;have I1:Inv X pins σ H { s with heap:=h' }:=I.turned (t':=s.toks) (λb o hb e=>(sb.2 b hb).trans e) f0 f1 f3 f4 f5;obtain⟨o,e,c,d⟩:=id st';exact⟨u,rfl,J1 (s:={ s with heap:=h' }) e c d δ ⟨x,H,I1,ru,⟨rfl,λys hy=>by rw[I.qY hy hq];exact hx⟩,st',λb hb=>(hf b hb).1⟩⟩
 done:=by
  intro X hP hw hK hc i pins s σ H E I hf st hg;subst hP hw hK;obtain⟨xs,hq,hx⟩:=hg;obtain⟨its,rv,p,hz⟩:=I.tuple hq;obtain⟨f0,f1,f2,f3,f4,f5⟩:=hf it ζ;have hl:=rv.length;exact wpAny_pyNext_tuple_end (I.ok.hd hc) st (show s.heap.IsTuple a its.toArray from p) (by simp;omega) λh' eb=>⟨rfl,I.turned (t':=s.toks) (λb o hb e=>eb b o hb e) f0 f1 f3 f4 f5⟩
 self:=λ_ _ _ _ _ st h=>wpAny_pyIter_tupleiter st h
theorem KQ{P:A1}{w:BD}{K:AF}{tg:Expr}(it:IN)(lo:Int)(n:Nat):Turn P w K tg (Itr lo n) [it] it (λi h=>IZ h it (lo+(i:Nat)*1) ((n:Int)-(i:Nat)) 1) where
 mem:=by simp
 obj:=λi h st b hb=>by
  have e:b=it:=by simpa using hb
  subst e;exact⟨_,st,λv z=>by
   have z':C4 _=Data.cell v:=z;cases z'⟩
 keep:=λi h h' st k=>k it ζ _ st
 item:=by
  intro X hP hw hK hc i pins s σ H E I hf st hg;subst hP hw hK;obtain⟨f0,f1,f2,f3,f4,f5⟩:=hf it ζ;have W:=Walks.range (prog:=X.prog) (w:=X.w) (I.ok.hd hc) it lo 1 n;refine W.item i s _ _ hg st λv h' tk hv st' kk=>?_;obtain⟨t,rfl⟩:=hv;have I1:Inv X pins σ H { s with heap:=h',toks:=tk }:=I.turned (λb o hb e=>kk b o (by simpa using hb) e) f0 f1 f3 f4 f5;refine⟨_,rfl,J1 (s:={ s with heap:=h',toks:=tk }) (n := "range_iterator") st' Z Z δ ⟨.int (lo+i),H,I1,⟨t,?_⟩,⟨rfl,rfl⟩,st',λb hb=>(hf b hb).1⟩⟩;rw[Int.mul_one]
 done:=by
  intro X hP hw hK hc i pins s σ H E I hf st hg;subst hP hw hK;obtain⟨f0,f1,f2,f3,f4,f5⟩:=hf it ζ;exact wpAny_pyNext_range_end (I.ok.hd hc) st (by have:n<=i:=hg;omega) λh' eb=>⟨rfl,I.turned (t':=s.toks) (λb o hb e=>eb b o hb e) f0 f1 f3 f4 f5⟩
 self:=λ_ _ _ _ _ st h=>KL st h
section
variable {X:Cx}{tg:Expr}
theorem Jl{pins:List (IN×Obj)}{σ:St}{H:Hp}{s:AA}{R:It->Hp->Prop}{E:Ap->AA->Prop}{lo hi:Int}{t u v:Tok}{tk:Nat}(I:Inv X pins σ H s)(h1:-(2^62)<=lo)(h2:lo<2^62)(h3:-(2^62)<=hi)(h4:hi<2^62)
  (q:R (Itr lo (hi-lo).toNat) H):AH (AM X.prog X.w) X.A (IJ (.ref s.heap.objs.size)) (PIE X pins σ tg R) E { s with heap:=s.heap.push { cls:=.type "range",data:=.fields #[.int lo t,.int hi u,.int 1 v] },toks:=tk }:=by
 refine wpAny_pyIter_range (IsRange.new ..) (small_one h1 h2 h3 h4) ?_;have I1:Inv X pins σ H { s with heap:=s.heap.push { cls:=.type "range",data:=.fields #[.int lo t,.int hi u,.int 1 v] },toks:=tk }:=I.kept λb o e=>AB _ e;refine⟨(s.heap.push { cls:=.type "range",data:=.fields #[.int lo t,.int hi u,.int 1 v] }).objs.size,[(s.heap.push { cls:=.type "range",data:=.fields #[.int lo t,.int hi u,.int 1 v] }).objs.size],_,_,H,rfl,
  I1.kept (t':=tk) λb o e=>AB _ e,KQ _ lo (hi-lo).toNat,?_,λb hb=>?_,q⟩
 ·have e1:lo+((0:Nat):Int)*1=lo:=by simp
  have e2:(((hi-lo).toNat:Nat):Int)-((0:Nat):Int)=AR.Range.rangeSize lo hi 1:=by rw[rangeSize_one];split <;> omega
  show IZ _ _ (lo+((0:Nat):Int)*1) ((((hi-lo).toNat:Nat):Int)-((0:Nat):Int)) 1;rw[e1,e2];exact AO _ rfl
 have e:b=(s.heap.push { cls:=.type "range",data:=.fields #[.int lo t,.int hi u,.int 1 v] }).objs.size:=by simpa using hb
 subst e;exact I1.Dl (AV _) (I1.hok.fresh (AV _))
def vO(ta:TA):TI:=λσ H R=>ta σ H λvs H1=>∃j:Int,vs=[.int j]/\-(2^62)<=j/\j<2^62/\R (Itr 0 j.toNat) H1
def vN(ta:TA):TI:=λσ H R=>ta σ H λvs H1=>∃i j:Int,vs=[.int i,.int j]/\(-(2^62)<=i/\i<2^62/\-(2^62)<=j/\j<2^62)/\R (Itr i (j-i).toNat) H1
theorem RG{a:Expr}{ta:TA}{p pos:Pos}(hg:Gl X "range")(hm:X.mg "range" = IF)(ha:PA X [a] ta)(hs:AK [a] X.env=[(false,eval a X.env)]:=by rfl):PI X tg (.Call (.Name "range" p) [a] [] pos) (vO ta):=by
 intro pins s σ H R I h;refine Call_ (gA I hg hm boot_range (BE (thA (ha pos pins s σ H _ I h) λus s1 vs H1 I1 r1 q1=>?_) hs Z));obtain⟨j,e,q1,q2,q⟩:=q1;subst e;cases r1 with
 | cons r rr=>
  cases rr;obtain⟨t,rfl⟩:=r;exact call_range_1 (Jl I1 ω ω q1 q2 (by simpa using q))
theorem RD{a b:Expr}{ta:TA}{p pos:Pos}(hg:Gl X "range")(hm:X.mg "range" = IF)(ha:PA X [a,b] ta)(hs:AK [a,b] X.env=[(false,eval a X.env),(false,eval b X.env)]:=by rfl)(hs2:AK [b] X.env=[(false,eval b X.env)]:=by rfl) :
  PI X tg (.Call (.Name "range" p) [a,b] [] pos) (vN ta):=by
 intro pins s σ H R I h;refine Call_ (gA I hg hm boot_range (BE (thA (ha pos pins s σ H _ I h) λus s1 vs H1 I1 r1 q1=>?_) (by rw[hs,hs2]) (by rw[hs2];rfl)));obtain⟨i,j,e,⟨q1,q2,q3,q4⟩,q⟩:=q1;subst e;cases r1 with
 | cons r rr=>
  cases rr with
  | cons r' rr=>
   cases rr;obtain⟨t,rfl⟩:=r;obtain⟨t',rfl⟩:=r';exact call_range_2 (Jl I1 q1 q2 q3 q4 q)
def abf(wi:TI)(g:TG)(tb:TS):TS:=λD σ H=>wi σ H λJ H1=>∃W:Nat->Nat->St->Hp->Prop,(∃m,W 0 m σ H1)/\∀i m σ H,W i m σ H ->
 (J.stop i H/\D.nx σ H)\/(J.go i H/\∃N:St->Hp->Prop,(∀σ' H',N σ' H'->∃m',m'<m/\W (i+1) m' σ' H')/\∀x H',J.yld i H x H'->g x σ H' λσ2 H2=>tb { D with nx:=N,ct:=N,bk:=D.nx } σ2 H2)
def cG(fp:List IN)(h:Heap):List (IN×Obj):=fp.filterMap λb=>(h.get? b).map λo=>(b,o)
theorem dM{fp:List IN}{h:Heap}{b:IN}{o:Obj}(hb:b∈fp)(e:h.get? b=ID o):(b,o)∈cG fp h:=List.mem_filterMap.mpr ⟨b,hb,by rw[e];rfl⟩
theorem gH{fp:List IN}{h:Heap}{p:IN×Obj}(hp:p∈cG fp h):p.1∈fp/\h.get? p.1=ID p.2:=by
 obtain⟨b,hb,e⟩:=List.mem_filterMap.mp hp;cases q:h.get? b with
 | none=>rw[q] at e;cases e
 | some o=>
  rw[q] at e;have e':(b,o)=p:=Be e;subst e';exact⟨hb,q⟩
theorem Inv.pinned{pins:List (IN×Obj)}{σ:St}{H:Hp}{s:AA}{fp:List IN}(I:Inv X pins σ H s)(hf:∀b∈fp,lJ X pins H b)(ho:∀b∈fp,∃o,s.heap.get? b=ID o/\∀v,o.data≠.cell v):Inv X (pins++cG fp s.heap) σ H s:=
 I.dW λp hp=>(Cf.mp hp).elim (λz=>I.pin p (AG _ z)) λz=>by
  obtain⟨hb,e⟩:=gH z;obtain⟨f0,f1,f2,_⟩:=hf p.1 hb;obtain⟨o,e',d⟩:=ho p.1 hb;rw[e] at e';cases e';exact⟨e,f0,f1,f2,d⟩
theorem Inv.fL{pins pl:List (IN×Obj)}{σ:St}{H:Hp}{s:AA}(I:Inv X (pins++pl) σ H s):Inv X pins σ H s:=I.dW λp hp=>I.pin p (AG _ (EB _ hp))
theorem abH{iter:Expr}{body:List Stmt}{wi:TI}{g:TG}{tb:TS}{pos:Pos}(hp:PassesOwn (AM X.prog X.w) X.A X.env X.xe)(hc:X.calm=true)(hi:PI X tg iter wi)(hg:PG X tg g)(hb:PSs X body tb)
  (hs:∀x,BC iter X.env x=pure x:=by intro _;rfl):PS X (.For tg iter body [] pos) (abf wi g tb):=by
 intro pins s σ H D I h;refine wpAny_For (thn (hi pins s σ H _ I h) λv s1 h1=>thn h1 λitv s2 h2=>?_) hs;obtain⟨it,fp,tn,J,H2,e,I2,T,st2,f2,W,⟨m0,w0⟩,turn⟩:=h2;subst e
 -- what stays true of the iterator's objects through the loop
 have stat:∀{H':Hp},(∀b∈fp,H' b=IF)->∀b∈fp,lJ X pins H' b:=λhn b hb=>⟨hn b hb,(f2 b hb).2⟩;refine codeAny_forLoop_any (λn s'=>∃i σ' H',Inv X pins σ' H' s'/\tn i s'.heap/\(∀b∈fp,H' b=IF)/\W i n σ' H') ?_ m0 ⟨0,σ,H2,I2,st2,λb hb=>(f2 b hb).1,w0⟩;rintro n s3 ⟨i,σ3,H3,I3,st3,fr3,w3⟩;rcases turn i n σ3 H3 w3 with⟨stop,qn⟩|⟨go,N,hN,step⟩
 ·refine Fs hp (thn (T.done X Z Z Z hc i pins s3 σ3 H3 X.xe I3 (stat fr3) st3 stop) λr s4 ⟨hr,I4⟩=>?_);subst hr;exact Lc ⟨σ3,H3,I4,qn⟩
 refine Fs hp (thn (T.item X Z Z Z hc i pins s3 σ3 H3 X.xe I3 (stat fr3) st3 go) λr s4 ⟨u,hr,h4⟩=>?_);subst hr;refine Fs hp (thn h4 λ_ s5 ⟨x,H5,I5,r5,y5,st5,fr5⟩=>?_);have I5':=I5.pinned (stat fr5) (T.obj _ _ st5);refine Fs hp (thn (hg _ s5 σ3 H5 x u _ I5' r5 (step x H5 y5)) λ_ s6 ⟨σ6,H6,I6,q6⟩=>?_);refine Fs hp (thn (hb _ s6 σ6 H6 _ I6 q6) λf s7 q7=>?_);have ER:∀{σ7:St}{H7:Hp},Inv X (pins++cG fp s5.heap) σ7 H7 s7->N σ7 H7->∃m,m<n/\∃i σ' H',Inv X pins σ' H' s7/\tn i s7.heap/\(∀b∈fp,H' b=IF)/\W i m σ' H':=λ{σ7 H7} I7 n7=>by
  obtain⟨m',hm,w7⟩:=hN σ7 H7 n7;refine⟨m',hm,i+1,σ7,H7,I7.fL,T.keep _ _ _ st5 λb hb o e=>(I7.pin (b,o) (AG _ (AG _ (dM hb e)))).1,λb hb=>?_,w7⟩;obtain⟨o,e,d⟩:=T.obj _ _ st5 b hb;exact(I7.pin (b,o) (AG _ (AG _ (dM hb e)))).2.1
 cases f with
 | next=>obtain⟨σ7,H7,I7,n7⟩:=q7;exact ER I7 n7
 | cont=>obtain⟨σ7,H7,I7,n7⟩:=q7;exact ER I7 n7
 | brk=>obtain⟨σ7,H7,I7,q7⟩:=q7;exact⟨σ7,H7,I7.fL,q7⟩
 | ret v=>obtain⟨x7,σ7,H7,I7,r7,q7⟩:=q7;exact⟨x7,σ7,H7,I7.fL,r7,q7⟩
end
theorem Xo{K:AF}{a:IN}{xs:List V}{g:TG}{tb:TS}{D:Ends}{σ:St}{H:Hp}(Pv:Nat->St->Hp->Prop)(h0:Pv 0 σ H)(hl:∀i σ H,i<=xs.length->Pv i σ H->SqL K H a xs)
  (hs:∀i x σ H,xs[i]?=ID x->Pv i σ H->g x σ H λσ2 H2=>tb { D with nx:=Pv (i+1),ct:=Pv (i+1),bk:=D.nx } σ2 H2)(hd:∀σ H,Pv xs.length σ H->D.nx σ H) :
  ∃W:Nat->Nat->St->Hp->Prop,(∃m,W 0 m σ H)/\∀i m σ H,W i m σ H ->
   ((Itl K a).stop i H/\D.nx σ H)\/((Itl K a).go i H/\∃N:St->Hp->Prop,(∀σ' H',N σ' H'->∃m',m'<m/\W (i+1) m' σ' H')/\∀x H',(Itl K a).yld i H x H'->g x σ H' λσ2 H2=>tb { D with nx:=N,ct:=N,bk:=D.nx } σ2 H2):=by
 refine⟨λi m σ H=>m=xs.length-i/\i<=xs.length/\Pv i σ H,⟨xs.length,by simp,De _,h0⟩,?_⟩;rintro i m σ H ⟨rfl,hi,p⟩;have q:=hl i σ H hi p;by_cases hlt:i<xs.length
 ·refine .inr ⟨⟨xs,xs[i],q,by simp[hlt]⟩,Pv (i+1),λσ' H' p'=>⟨xs.length-(i+1),ω,rfl,hlt,p'⟩,λx H' y=>?_⟩;obtain⟨e,y⟩:=y;subst e;exact hs i x σ _ (y xs q) p
 have e:i=xs.length:=ω;subst e;exact .inl ⟨⟨xs,q,AV _⟩,hd σ H p⟩
theorem SX{lo:Int}{n:Nat}{g:TG}{tb:TS}{D:Ends}{σ:St}{H:Hp}(Pv:Nat->St->Hp->Prop)(h0:Pv 0 σ H)
  (hs:∀i σ H,i<n->Pv i σ H->g (.int (lo+i)) σ H λσ2 H2=>tb { D with nx:=Pv (i+1),ct:=Pv (i+1),bk:=D.nx } σ2 H2)(hd:∀σ H,Pv n σ H->D.nx σ H) :
  ∃W:Nat->Nat->St->Hp->Prop,(∃m,W 0 m σ H)/\∀i m σ H,W i m σ H ->
   ((Itr lo n).stop i H/\D.nx σ H)\/((Itr lo n).go i H/\∃N:St->Hp->Prop,(∀σ' H',N σ' H'->∃m',m'<m/\W (i+1) m' σ' H')/\∀x H',(Itr lo n).yld i H x H'->g x σ H' λσ2 H2=>tb { D with nx:=N,ct:=N,bk:=D.nx } σ2 H2):=by
 refine⟨λi m σ H=>m=n-i/\i<=n/\Pv i σ H,⟨n,by simp,De _,h0⟩,?_⟩;rintro i m σ H ⟨rfl,hi,p⟩;by_cases hlt:i<n
 ·refine .inr ⟨hlt,Pv (i+1),λσ' H' p'=>⟨n-(i+1),ω,rfl,hlt,p'⟩,λx H' y=>?_⟩;obtain⟨e,y⟩:=y;subst e y;exact hs i σ _ hlt p
 have e:i=n:=ω;subst e;exact .inl ⟨AV _,hd σ H p⟩
abbrev R2:=V->V->Hp->VK->Prop
def OpR(X:Cx)(f:Ap->Ap->Sem Ap)(r:R2):Prop:=
 ∀(pins:List (IN×Obj)) (s:AA) (σ:St) (H:Hp) (x y:V) (v u:Ap) (Q:VK),Inv X pins σ H s->RelV x v->RelV y u->r x y H Q ->
  AH (AM X.prog X.w) X.A (f v u) (EP X pins σ Q) X.xe s
def UnR(X:Cx)(f:Ap->Sem Ap)(r:V->Hp->VK->Prop):Prop:=
 ∀(pins:List (IN×Obj)) (s:AA) (σ:St) (H:Hp) (x:V) (v:Ap) (Q:VK),Inv X pins σ H s->RelV x v->r x H Q ->
  AH (AM X.prog X.w) X.A (f v) (EP X pins σ Q) X.xe s
def dR(X:Cx)(f:Ap)(r:List V->Hp->VK->Prop):Prop:=
 ∀(pins:List (IN×Obj)) (s:AA) (σ:St) (H:Hp) (xs:List V) (us:List Ap) (Q:VK),Inv X pins σ H s->Vals xs us->r xs H Q ->
  AH (AM X.prog X.w) X.A (call f us) (EP X pins σ Q) X.xe s
def tOp(r:R2)(ta tb:TE):TE:=λσ H Q=>ta σ H λx H1=>tb σ H1 λy H2=>r x y H2 Q
def tUn(r:V->Hp->VK->Prop)(ta:TE):TE:=λσ H Q=>ta σ H λx H1=>r x H1 Q
def rI(C:Int->Int->Prop)(g:Int->Int->V):R2:=λx y H Q=>∃i j,x=.int i/\y=.int j/\C i j/\Q (g i j) H
def rI0(g:Int->Int->V):R2:=λx y H Q=>∃i j,x=.int i/\y=.int j/\Q (g i j) H
def rU(g:Int->V):V->Hp->VK->Prop:=λx H Q=>∃i,x=.int i/\Q (g i) H
section
variable {X:Cx}{a b c:Expr}{ta tb tc:TE}{pos:Pos}
theorem acM(ha:PE X a ta)(hb:PE X b tb){pins:List (IN×Obj)}{s:AA}{σ:St}{H:Hp}{R:V->V->Hp->Prop}(I:Inv X pins σ H s)
  (h:ta σ H λx H1=>tb σ H1 λy H2=>R x y H2){Q:Ap->AA->Prop}{f:Ap->Ap->Sem Ap}
  (hf:∀v u s2 x y H2,Inv X pins σ H2 s2->RelV x v->RelV y u->R x y H2->AH (AM X.prog X.w) X.A (f v u) Q X.xe s2) :
  AH (AM X.prog X.w) X.A (eval a X.env) (λv s₁=>AH (AM X.prog X.w) X.A (eval b X.env) (λu s₂=>AH (AM X.prog X.w) X.A (f v u) Q X.xe s₂) X.xe s₁) X.xe s:=by
 refine thE (ha pins s σ H _ I h) λv s1 x H1 I1 r1 q1=>?_;refine thE (hb pins s1 σ H1 _ I1 q1) λu s2 y H2 I2 r2 q2=>?_;exact hf v u s2 x y H2 I2 r1 r2 q2
theorem adh{op:Operator}{r:R2}(ho:OpR X (ET op) r)(ha:PE X a ta)(hb:PE X b tb):PE X (.BinOp a op b pos) (tOp r ta tb):=by
 intro pins s σ H Q I h;exact wpAny_BinOp (acM ha hb I h λv u s2 x y H2 I2 rx ry q=>ho pins s2 σ H2 x y v u Q I2 rx ry q)
theorem adf{op:UnaryOp}{r:V->Hp->VK->Prop}(ho:UnR X (unaryOp op) r)(ha:PE X a ta):PE X (.UnaryOp op a pos) (tUn r ta):=by
 intro pins s σ H Q I h;exact UnaryOp_ (thE (ha pins s σ H _ I h) λv s1 x H1 I1 r1 q1=>ho pins s1 σ H1 x v Q I1 r1 q1)
theorem opI{f:Ap->Ap->Sem Ap}{C:Int->Int->Prop}{g:Int->Int->Int}
  (rule:∀(i j:Int)(t u:Tok)(s:AA)(Q:Ap->AA->Prop)(E:Ap->AA->Prop),C i j->Q (.int (g i j) s.toks) { s with toks:=s.toks+1 }->AH (AM X.prog X.w) X.A (f (.int i t) (.int j u)) Q E s) :
  OpR X f (rI C λi j=>.int (g i j)):=by
 intro pins s σ H x y v u Q I rx ry h;obtain⟨i,j,rfl,rfl,hc,q⟩:=h;obtain⟨t,rfl⟩:=rx;obtain⟨t',rfl⟩:=ry;exact rule i j t t' s _ _ hc ⟨.int (g i j),H,I.tok _,⟨_,rfl⟩,q⟩
theorem adx{f:Ap->Ap->Sem Ap}{g:Int->Int->Int}
  (rule:∀(i j:Int)(t u:Tok)(s:AA)(Q:Ap->AA->Prop)(E:Ap->AA->Prop),Q (.int (g i j) s.toks) { s with toks:=s.toks+1 }->AH (AM X.prog X.w) X.A (f (.int i t) (.int j u)) Q E s) :
  OpR X f (rI0 λi j=>.int (g i j)):=by
 intro pins s σ H x y v u Q I rx ry h;obtain⟨i,j,rfl,rfl,q⟩:=h;obtain⟨t,rfl⟩:=rx;obtain⟨t',rfl⟩:=ry;exact rule i j t t' s _ _ ⟨.int (g i j),H,I.tok _,⟨_,rfl⟩,q⟩
theorem Z5{f:Ap->Ap->Sem Ap}{g:Int->Int->Bool}
  (rule:∀(i j:Int)(t u:Tok)(s:AA)(Q:Ap->AA->Prop)(E:Ap->AA->Prop),Q (.bool (g i j)) s->AH (AM X.prog X.w) X.A (f (.int i t) (.int j u)) Q E s) :
  OpR X f (rI0 λi j=>.bl (g i j)):=by
 intro pins s σ H x y v u Q I rx ry h;obtain⟨i,j,rfl,rfl,q⟩:=h;obtain⟨t,rfl⟩:=rx;obtain⟨t',rfl⟩:=ry;exact rule i j t t' s _ _ ⟨.bl (g i j),H,I,rfl,q⟩
def acS(i j:Int):Prop:=0<=j/\j<=1000000/\i.natAbs<2^64
def Uc(i j:Int):Prop:=(-(2^64)<i/\i<2^64)\/(-(2^64)<j/\j<2^64)
theorem Uc.ok{i j:Int}(h:Uc i j):IntMulOk i j:=by
 rcases h with⟨h1,h2⟩|⟨h1,h2⟩
 ·exact .of_left (intBits_le_64 h1 h2)
 exact .of_right (intBits_le_64 h1 h2)
theorem ab4:OpR X (ET .Add) (rI0 λi j=>.int (i+j)):=adx λ_ _ _ _ _ _ _ q=>add_int q
theorem dI:OpR X (ET .Sub) (rI0 λi j=>.int (i-j)):=adx λ_ _ _ _ _ _ _ q=>sub_int q
theorem ab1:OpR X (ET .Mult) (rI Uc λi j=>.int (i*j)):=opI λ_ _ _ _ _ _ _ hc q=>mul_int q hc.ok
theorem jV:OpR X (ET .Mod) (rI (λ_ j=>0<j) λi j=>.int (i%j)):=opI λi j _ _ _ _ _ hc q=>by
 have h1:(0:Int)<j:=hc;exact mod_int' ω (by rw[Int.fmod_eq_emod_of_nonneg i ω];exact q)
theorem uh:OpR X (ET .Pow) (rI acS λi j=>.int (i^j.toNat)):=opI λ_ _ _ _ _ _ _ hc q=>pow_int_small hc.1 hc.2.1 hc.2.2 q
theorem abZ:OpR X (ET .LShift) (rI acS λi j=>.int (i*2^j.toNat)):=opI λ_ _ _ _ _ _ _ hc q=>lshift_int_small hc.1 hc.2.1 hc.2.2 q
theorem unI{f:Ap->Sem Ap}{g:Int->Int}
  (rule:∀(i:Int)(t:Tok)(s:AA)(Q:Ap->AA->Prop)(E:Ap->AA->Prop),Q (.int (g i) s.toks) { s with toks:=s.toks+1 }->AH (AM X.prog X.w) X.A (f (.int i t)) Q E s) :
  UnR X f (rU λi=>.int (g i)):=by
 intro pins s σ H x v Q I rx h;obtain⟨i,rfl,q⟩:=h;obtain⟨t,rfl⟩:=rx;exact rule i t s _ _ ⟨.int (g i),H,I.tok _,⟨_,rfl⟩,q⟩
theorem pG:UnR X (unaryOp .USub) (rU λi=>.int (-i)):=unI λ_ _ _ _ _ q=>neg_int q
end
def Rh:V->V->Bool
 | .non,.non=>true | .non,.int _=>true | .int _,.non=>true | .non,.bl _=>true | .bl _,.non=>true | .non,.str _=>true | .str _,.non=>true
 | .int _,.int _=>true | .bl _,.bl _=>true | .str _,.str _=>true | .byt _,.byt _=>true
 | .int _,.str _=>true | .str _,.int _=>true | .bl _,.str _=>true | .str _,.bl _=>true
 | _,_=>false
def rEq:R2:=λx y H Q=>Rh x y=true/\Q (.bl (decide (x=y))) H
def rNe:R2:=λx y H Q=>Rh x y=true/\Q (.bl (!decide (x=y))) H
theorem Qx{i j:Int}:decide (V.int i=V.int j)=(i == j):=by
 rw[Fu];simp
theorem XD{i j:Bool}:decide (V.bl i=V.bl j)=(i == j):=by
 rw[Fu];simp
theorem Qw{i j:Str}:decide (V.str i=V.str j)=(i == j):=by
 rw[Fu];simp
theorem Qy{i j:Array UInt8}:decide (V.byt i=V.byt j)=(i.toList == j.toList):=by
 rw[Fu];cases i;cases j;simp
section
variable {X:Cx}{a b c:Expr}{ta tb tc:TE}{pos:Pos}
theorem cD{pins:List (IN×Obj)}{σ:St}{H:Hp}{s:AA}{Q:VK}{k k':Bool}(I:Inv X pins σ H s)(q:Q (.bl k) H)(e:k=k'):EP X pins σ Q (.bool k') s:=by
 subst e;exact⟨.bl k,H,I,rfl,q⟩
theorem adw:OpR X (Ev .Eq) rEq:=by
 intro pins s σ H x y v u Q I rx ry h;obtain⟨hs,q⟩:=h;cases x with
 | non=>
  cases rx;cases y with
  | non=>cases ry;exact PySem.EqNone.eq_none_none (cD I q ζ)
  | bl j=>cases ry;exact PySem.EqNone.eq_none_bool (cD I q ζ)
  | int j=>obtain⟨t',rfl⟩:=ry;exact PySem.EqNone.eq_none_int (cD I q ζ)
  | str j=>obtain⟨t',rfl⟩:=ry;exact PySem.EqNone.eq_none_str (cD I q ζ)
  | _=>exact absurd (show false=true from hs) AX
 | bl i=>
  cases rx;cases y with
  | non=>cases ry;exact PySem.EqNone.eq_bool_none (cD I q ζ)
  | bl j=>cases ry;exact eq_bool (cD I q XD)
  | str j=>obtain⟨t',rfl⟩:=ry;exact PySem.EqMixed.eq_bool_str (cD I q ζ)
  | _=>exact absurd (show false=true from hs) AX
 | int i=>
  obtain⟨t,rfl⟩:=rx;cases y with
  | non=>cases ry;exact PySem.EqNone.eq_int_none (cD I q ζ)
  | int j=>obtain⟨t',rfl⟩:=ry;exact eq_int (cD I q Qx)
  | str j=>obtain⟨t',rfl⟩:=ry;exact PySem.EqMixed.eq_int_str (cD I q ζ)
  | _=>exact absurd (show false=true from hs) AX
 | str i=>
  obtain⟨t,rfl⟩:=rx;cases y with
  | non=>cases ry;exact PySem.EqNone.eq_str_none (cD I q ζ)
  | bl j=>cases ry;exact PySem.EqMixed.eq_str_bool (cD I q ζ)
  | int j=>obtain⟨t',rfl⟩:=ry;exact PySem.EqMixed.eq_str_int (cD I q ζ)
  | str j=>obtain⟨t',rfl⟩:=ry;exact eq_str (cD I q Qw)
  | _=>exact absurd (show false=true from hs) AX
 | byt i=>
  obtain⟨t,rfl⟩:=rx;cases y with
  | byt j=>obtain⟨t',rfl⟩:=ry;exact PySem.W.eq_bytes (cD I q Qy)
  | _=>exact absurd (show false=true from hs) AX
 | _=>cases y <;> exact absurd (show false=true from hs) AX
theorem adu:OpR X (Ev .NotEq) rNe:=by
 intro pins s σ H x y v u Q I rx ry h;obtain⟨hs,q⟩:=h;cases x with
 | non=>
  cases rx;cases y with
  | non=>cases ry;exact PySem.EqNone.ne_none_none (cD I q ζ)
  | bl j=>cases ry;exact PySem.EqNone.ne_none_bool (cD I q ζ)
  | int j=>obtain⟨t',rfl⟩:=ry;exact PySem.EqNone.ne_none_int (cD I q ζ)
  | str j=>obtain⟨t',rfl⟩:=ry;exact PySem.EqNone.ne_none_str (cD I q ζ)
  | _=>exact absurd (show false=true from hs) AX
 | bl i=>
  cases rx;cases y with
  | non=>cases ry;exact PySem.EqNone.ne_bool_none (cD I q ζ)
  | bl j=>cases ry;exact ne_bool (cD I q (congrArg not XD))
  | str j=>obtain⟨t',rfl⟩:=ry;exact PySem.EqMixed.ne_bool_str (cD I q ζ)
  | _=>exact absurd (show false=true from hs) AX
 | int i=>
  obtain⟨t,rfl⟩:=rx;cases y with
  | non=>cases ry;exact PySem.EqNone.ne_int_none (cD I q ζ)
  | int j=>obtain⟨t',rfl⟩:=ry;exact ne_int (cD I q (congrArg not Qx))
  | str j=>obtain⟨t',rfl⟩:=ry;exact PySem.EqMixed.ne_int_str (cD I q ζ)
  | _=>exact absurd (show false=true from hs) AX
 | str i=>
  obtain⟨t,rfl⟩:=rx;cases y with
  | non=>cases ry;exact PySem.EqNone.ne_str_none (cD I q ζ)
  | bl j=>cases ry;exact PySem.EqMixed.ne_str_bool (cD I q ζ)
  | int j=>obtain⟨t',rfl⟩:=ry;exact PySem.EqMixed.ne_str_int (cD I q ζ)
  | str j=>obtain⟨t',rfl⟩:=ry;exact ne_str (cD I q (congrArg not Qw))
  | _=>exact absurd (show false=true from hs) AX
 | byt i=>
  obtain⟨t,rfl⟩:=rx;cases y with
  | byt j=>obtain⟨t',rfl⟩:=ry;exact PySem.W.ne_bytes (cD I q (congrArg not Qy))
  | _=>exact absurd (show false=true from hs) AX
 | _=>cases y <;> exact absurd (show false=true from hs) AX
theorem aaZ:OpR X (Ev .Lt) (rI0 λi j=>.bl (decide (i<j))):=Z5 λ_ _ _ _ _ _ _ q=>lt_int q
theorem Jr:OpR X (Ev .LtE) (rI0 λi j=>.bl (decide (i<=j))):=Z5 λ_ _ _ _ _ _ _ q=>le_int q
theorem Ej:OpR X (Ev .Gt) (rI0 λi j=>.bl (decide (j<i))):=Z5 λ_ _ _ _ _ _ _ q=>gt_int q
theorem adv:OpR X (Ev .GtE) (rI0 λi j=>.bl (decide (j<=i))):=Z5 λ_ _ _ _ _ _ _ q=>ge_int q
theorem ab2:OpR X (Ev .Is) (λx y H Q=>y=.non/\Q (.bl (decide (x=.non))) H):=by
 intro pins s σ H x y v u Q I rx ry h;obtain⟨rfl,q⟩:=h;cases ry;refine is_none_gen (cD I q ?_);cases x <;> first
  | (cases rx;rfl)
  | (obtain⟨t,rfl⟩:=rx;rfl)
theorem bC(b:Expr){op:CmpOp}(h:op≠.In:=by decide)(h2:op≠.NotIn:=by decide):Hb op b=false:=by
 have e1:(op == CmpOp.In)=false:=by cases op <;> first|rfl|exact absurd Z h
 have e2:(op == CmpOp.NotIn)=false:=by cases op <;> first|rfl|exact absurd Z h2
 cases b <;> simp[Hb,e1,e2]
theorem ZS{op:CmpOp}{r:R2}(ho:OpR X (Ev op) r)(ha:PE X a ta)(hb:PE X b tb)(hm:Hb op b=false):PE X (.Compare a [op] [b] pos) (tOp r ta tb):=by
 intro pins s σ H Q I h;exact wpAny_Compare1 (acM ha hb I h λv u s2 x y H2 I2 rx ry q=>ho pins s2 σ H2 x y v u Q I2 rx ry q) hm
def Ij(t:TE):TT:=λσ H Q=>t σ H λx H'=>∃k,x=.bl k/\Q k H'
theorem Zk{op:CmpOp}{r:R2}(ho:OpR X (Ev op) r)(ha:PE X a ta)(hb:PE X b tb)(hm:Hb op b=false):PT X (.Compare a [op] [b] pos) (Ij (tOp r ta tb)):=by
 intro pins s σ H Q I h;refine wpAny_isTrue_Compare1 (thE (ha pins s σ H _ I h) λv s1 x H1 I1 r1 q1=>thE (hb pins s1 σ H1 _ I1 q1) λu s2 y H2 I2 r2 q2=>
  thn (ho pins s2 σ H2 x y v u _ I2 r1 r2 q2) λc s3 ⟨z,H3,I3,r3,k,e,q3⟩=>?_) hm
 subst e;cases r3;exact Ee ⟨H3,I3,q3⟩
theorem G9:(AN:Nat)<2^63:=by rw[Lv];decide
theorem vals1{x:V}{us:List Ap}(r:Vals [x] us):∃u,us=[u]/\RelV x u:=by
 cases r with
 | cons r1 r2=>cases r2;exact⟨_,rfl,r1⟩
theorem vals2{x y:V}{us:List Ap}(r:Vals [x,y] us):∃u w',us=[u,w']/\RelV x u/\RelV y w':=by
 cases r with
 | cons r1 r2=>
  cases r2 with
  | cons r3 r4=>cases r4;exact⟨_,_,rfl,r1,r3⟩
theorem Kq:dR X (.builtin "abs") (λxs H Q=>∃i,xs=[.int i]/\Q (.int (if i<0 then -i else i)) H):=by
 intro pins s σ H xs us Q I r h;obtain⟨i,rfl,q⟩:=h;obtain⟨u,rfl,t,rfl⟩:=vals1 r;exact call_abs_int λu tk=>⟨.int (if i<0 then -i else i),H,I.tok _,⟨_,rfl⟩,q⟩
theorem Tt(hc:X.calm=true):dR X (.builtin "max") (λxs H Q=>∃i j,xs=[.int i,.int j]/\Q (.int (if j>i then j else i)) H):=by
 intro pins s σ H xs us Q I r h;obtain⟨i,j,rfl,q⟩:=h;obtain⟨u,w',rfl,⟨t,rfl⟩,⟨t',rfl⟩⟩:=vals2 r;refine max_two_ints (I.ok.hd hc) λh' tk k=>⟨_,H,I.kept k,?_,q⟩;by_cases hj:j>i
 ·rw[if_pos hj,if_pos hj];exact⟨_,rfl⟩
 rw[if_neg hj,if_neg hj];exact⟨_,rfl⟩
theorem Tp(hc:X.calm=true):dR X (.builtin "min") (λxs H Q=>∃i j,xs=[.int i,.int j]/\Q (.int (if j<i then j else i)) H):=by
 intro pins s σ H xs us Q I r h;obtain⟨i,j,rfl,q⟩:=h;obtain⟨u,w',rfl,⟨t,rfl⟩,⟨t',rfl⟩⟩:=vals2 r;refine min_two_ints (I.ok.hd hc) λh' tk k=>⟨_,H,I.kept k,?_,q⟩;by_cases hj:j<i
 ·rw[if_pos hj,if_pos hj];exact⟨_,rfl⟩
 rw[if_neg hj,if_neg hj];exact⟨_,rfl⟩
theorem Fg:dR X (.type "int") (λxs H Q=>(∃i,xs=[.int i]/\Q (.int i) H)\/∃k,xs=[.bl k]/\Q (.int (if k then 1 else 0)) H):=by
 intro pins s σ H xs us Q I r h;rcases h with⟨i,rfl,q⟩|⟨k,rfl,q⟩
 ·obtain⟨u,rfl,t,rfl⟩:=vals1 r;exact call_int_int ⟨.int i,H,I,⟨_,rfl⟩,q⟩
 obtain⟨u,rfl,r1⟩:=vals1 r;cases r1;exact call_int_bool ⟨.int (if k then 1 else 0),H,I.tok _,⟨_,rfl⟩,q⟩
end
structure acP(h:Heap)(x dx C:IN)(mA:Str->Option Ap):Prop where
 obj:h.get? x=ID (PySem.W.instObj C dx)
 ns:h.Ns1 dx mA
 ne:dx≠x
theorem R9{h:Heap}{dx:IN}{mA:Str->Option Ap}(n:h.Ns1 dx mA):∃od,h.get? dx=ID od/\∀name,PySem.W.lookIn name od=ID (mA name):=by
 obtain⟨o,es,ep,ho,hd,hk,_,hm⟩:=n;refine⟨o,ho,λname=>?_⟩;have e:=hm name;unfold nsFind findBy at e;rw[<- Array.find?_toList] at e;unfold PySem.W.lookIn;rw[hd];dsimp only;split
 ·rename_i y q;rw[q] at e;exact congrArg ID e
 rename_i q;rw[q] at e;have a:es.toList.any (·.refKey)=false:=by
  rw[List.any_eq_false];intro y hy;obtain⟨z,t,hkey⟩:=hk y (Array.mem_toList_iff.mp hy);simp[DictEntry.refKey,hkey]
 have a':¬es.toList.any (·.refKey)=true:=by rw[a];exact AX
 rw[if_neg a'];exact congrArg ID e
theorem acP.look{h:Heap}{x dx C:IN}{mA:Str->Option Ap}(I:acP h x dx C mA):∃od,PySem.W.InstAt h x (PySem.W.instObj C dx) C (ID od)/\∀name,PySem.W.lookIn name od=ID (mA name):=
 let ⟨od,ho,hl⟩:=R9 I.ns
 ⟨od,⟨I.obj,rfl,rfl,ho⟩,hl⟩
theorem Ck.some_of{v:V}{o:Option Ap}(r:Ck (ID v) o):∃u,o=ID u/\RelV v u:=by
 cases o with
 | none=>exact(show False from r).elim
 | some u=>exact⟨u,rfl,r⟩
section
variable {P:A1}{w:BD}{H H':Hp}{h h':Heap}{a C dx:IN}{fs fs':List (Str×V)}
theorem aau(hok:HOk P w H h)(e:H a=ID (.ins C dx fs)):∃mA,acP h a dx C mA/\(∀f,Ck (fs.lookup f) (mA f))/\PySem.Within mA (fs.map (·.1))/\fs.length<=1000/\H dx=ID (.own a):=by
 obtain⟨d,z,ne,ob,mA,n,r,q⟩:=(show cu P w H h a (.ins C dx fs) from hok a _ e);exact⟨mA,⟨ob,n,ne⟩,r,q,z,d⟩
end
structure Cls(K:AF)(C:IN):Prop where
 pg:PySem.W.plainGet K C Str.empty=true
 hd:PySem.W.hasDictIn K C=true
 po:PySem.W.plainOver K C=true
 sa:IL K (.ref C) "__setattr__" = ID (ID (.builtin "object.__setattr__"))
theorem Cls.get{K:AF}{C:IN}(c:Cls K C)(f:Str):PySem.W.plainGet K C f=true:=c.pg
section
variable {X:Cx}{pins:List (IN×Obj)}{σ:St}{H:Hp}{s:AA}{A:BA}{E:Ap->AA->Prop}{Q:Ap->AA->Prop}{c:Ap}{b:Bool}
inductive rR (K:AF)(H:Hp):V->Ap->Prop where
 | non:rR K H .non (.type "NoneType")
 | bl (x:Bool):rR K H (.bl x) (.type "bool")
 | int (i:Int):rR K H (.int i) (.type "int")
 | str (x:Str):rR K H (.str x) (.type "str")
 | flt (x:UInt64):rR K H (.flt x) (.type "float")
 | lst {a:IN} {xs:List V} (e:H a=ID (.lst xs)):rR K H (.ref a) (.type "list")
 | frz {a:IN} {o:Obj} {xs:List V} (e:H a=ID (.frz o (.lst xs))):rR K H (.ref a) (.type "list")
 | tup {a:IN} {xs:List V} (e:H a=ID (.tup xs)):rR K H (.ref a) (.type "tuple")
 | dK {a:IN} {kvs:List (Key×V)} (e:H a=ID (.dK kvs)):rR K H (.ref a) (.type "dict")
 | dT {a:IN} {kvs:List (List Key×V)} (e:H a=ID (.dT kvs)):rR K H (.ref a) (.type "dict")
 | ins {a C dx:IN} {fs:List (Str×V)} (e:H a=ID (.ins C dx fs)) (cl:Cls K C) (ha:IL K (.ref C) "__class__" = ID (ID (.builtin "object.__class__")))
   (hn:PySem.W.specialIn K (.builtin "object.__class__") "__get__" = ID (ID (.builtin "getset_descriptor.__get__"))) (htk:PySem.W.takesIn K (.builtin "object.__class__")=ID true)
   (hm:PySem.W.mroIn K C (.type "object")=ID true):rR K H (.ref a) (.ref C)
theorem Sv{x:V}{u t:Ap}(I:Inv X pins σ H s)(rx:RelV x u)(ty:rR X.K H x t)(e:kitOne X.K t c=ID b)(h:∀tk,Q (.bool b) { s with toks:=tk }) :
  AH (AM X.prog X.w) A (call (.builtin "isinstance") [u,c]) Q E s:=by
 cases ty with
 | non=>cases (show u=Ap.none from rx);exact DE PySem.W.kitx_none I.kIn EC e (λz=>nomatch z) h
 | bl y=>cases (show u=GT y from rx);exact DE PySem.W.kitx_bool I.kIn EC e (λz=>nomatch z) h
 | int i=>obtain⟨t,q⟩:=(show ∃t,u=EQ i t from rx);cases q;exact DE PySem.W.kitx_int I.kIn EC e (λz=>nomatch z) h
 | str y=>obtain⟨t,q⟩:=(show ∃t,u=Ap.str y t from rx);cases q;exact DE PySem.W.kitx_str I.kIn EC e (λz=>nomatch z) h
 | flt y=>obtain⟨t,q⟩:=(show ∃t,u=Ap.float y t from rx);cases q;exact DE PySem.W.kitx_float I.kIn EC e (λz=>nomatch z) h
 | @lst a xs ea=>
  cases (show u=DO a from rx);obtain⟨_,_,n,_,h1⟩:=(show cu X.prog X.w H s.heap a (.lst xs) from I.hok a _ ea);exact DE Jn I.kIn ⟨_,h1,rfl⟩ e (λz=>nomatch z) h
 | @frz a ob xs ea=>
  cases (show u=DO a from rx);obtain⟨_,_,_,n,_,h1⟩:=(show cu X.prog X.w H s.heap a (.frz ob (.lst xs)) from I.hok a _ ea);exact DE Jn I.kIn ⟨_,h1,rfl⟩ e (λz=>nomatch z) h
 | @tup a xs ea=>
  cases (show u=DO a from rx);obtain⟨_,_,_,p⟩:=(show cu X.prog X.w H s.heap a (.tup xs) from I.hok a _ ea);obtain⟨o,h1,h2,_⟩:=p;exact DE PySem.W.kitx_tuple I.kIn ⟨o,h1,h2⟩ e (λz=>nomatch z) h
 | @dK a kvs ea=>
  cases (show u=DO a from rx);obtain⟨_,_,vs,_,p⟩:=(show cu X.prog X.w H s.heap a (.dK kvs) from I.hok a _ ea);obtain⟨o,es,ep,h1,h2,_⟩:=p;exact DE JA I.kIn ⟨o,h1,h2.1⟩ e (λz=>nomatch z) h
 | @dT a kvs ea=>
  cases (show u=DO a from rx);obtain⟨_,_,xs,_,o,es,ep,h1,h2,_⟩:=(show cu X.prog X.w H s.heap a (.dT kvs) from I.hok a _ ea);exact DE JA I.kIn ⟨o,h1,h2.1⟩ e (λz=>nomatch z) h
 | @ins a C dx fs ea cl ha hn htk hm=>
  cases (show u=DO a from rx);obtain⟨mA,O,_⟩:=aau I.hok ea;obtain⟨od,J,_⟩:=O.look;exact DE (PySem.W.kitx_own (cl.get _) cl.hd ha hn htk hm) I.kIn J e (λz=>nomatch z) h
end
structure jn(k:Nat)(A:BA):Prop where
 hd:A.handled=IF
 dp:A.depth+3*k+5<recursionLimit
 un:A.units+16*k+200<FO
 gd:A.guards=ID []
theorem jn.mono{j k:Nat}{A:BA}(r:jn k A)(h:j<=k):jn j A:=⟨r.hd,by have:=r.dp;omega,by have:=r.un;omega,r.gd⟩
theorem jn.deeper{k:Nat}{A:BA}(r:jn (k+1) A)(env:Env):jn k (A.deeper env):=
 ⟨r.hd,by have:=r.dp;show A.depth+1+3*k+5<_;omega,by have:=r.un;show A.units+3+16*k+200<_;omega,r.gd⟩
theorem jn.depth{k:Nat}{A:BA}(r:jn k A):A.depth<recursionLimit:=by have:=r.dp;omega
theorem jn.cM{k:Nat}{A:BA}(r:jn k A):A.units<FO:=by have:=r.un;omega
def K4:TA:=λ_ H Q=>Q [] H
def xu(ta:TE)(tr:TA):TA:=λσ H Q=>ta σ H λx H1=>tr σ H1 λxs H2=>Q (x::xs) H2
section
variable {X:Cx}{e:Expr}{es:List Expr}{te:TE}{t:TA}{pos:Pos}
theorem abX:PA X [] K4:=λ_ _ _ _ H Q I h=>C0 ⟨[],H,I,.nil,h⟩
theorem Z0(ha:PE X e te)(hr:PA X es t)(hs:AK (e::es) X.env=(false,eval e X.env)::AK es X.env:=by rfl):PA X (e::es) (xu te t):=by
 intro pos pins s σ H Q I h;rw[hs];show AH _ _ (spliced ((false,eval e X.env)::CY pos (AK es X.env))) _ _ s;refine CL (thE (ha pins s σ H _ I h) λu s1 x H1 I1 r1 q1=>?_);exact thA (hr pos pins s1 σ H1 _ I1 q1) λus s2 xs H2 I2 r2 q2=>⟨x::xs,H2,I2,.cons r1 r2,q2⟩
def K3(t:TA):TE:=λσ H Q=>t σ H λxs H1=>xs.length<=AN/\∀p,H1 p=IF->Q (.ref p) (upd H1 p (.tup xs))
def Ra(t:TA):TE:=λσ H Q=>t σ H λxs H1=>xs.length<=AN/\∀p,H1 p=IF->Q (.ref p) (upd H1 p (.lst xs))
theorem abN{x1}(h:PA X es t):PE X (.Tuple es x1 pos) (K3 t):=by
 intro pins s σ H Q I hq;refine wpAny_Tuple_spliced (thn (h pos pins s σ H _ I hq) λus s1 ⟨xs,H1,I1,r,z,q⟩=>⟨by rw[<- r.length];exact z,?_⟩);have hf:H1 s1.heap.objs.size=IF:=I1.hok.fresh (AV _);refine⟨.ref s1.heap.objs.size,upd H1 s1.heap.objs.size (.tup xs),I1.laid (t':=s1.toks) (λb u e=>AB _ e) (AV _) ?_,rfl,q _ hf⟩;exact⟨z,us,r,⟨_,AO _ rfl,rfl,_,rfl⟩⟩
theorem abT(h:PA X es t):PE X (.List es pos) (Ra t):=by
 intro pins s σ H Q I hq;refine wpAny_List_spliced (thn (h pos pins s σ H _ I hq) λus s1 ⟨xs,H1,I1,r,z,q⟩=>⟨by rw[<- r.length];exact z,?_⟩);have hf:H1 s1.heap.objs.size=IF:=I1.hok.fresh (AV _);refine⟨.ref s1.heap.objs.size,upd H1 s1.heap.objs.size (.lst xs),I1.laid (t':=s1.toks) (λb u e=>AB _ e) (AV _) ?_,rfl,q _ hf⟩;exact⟨z,us,0,r,AO _ rfl⟩
end
abbrev Sp:=List V->Hp->VK->XK->Prop
abbrev CXT:=List Env->Hp->AA->XK->Ap->AA->Prop
structure aaR(P:A1)(w:BD)(K:AF)(mg:Str->Option Ap)(base:Heap)(A:BA)(outer:List Env)(s:AA)(H:Hp):Prop where
 frames:A.frames=ID outer
 mod:Mod K mg base
 bs:∀b o,base.get? b=ID o->s.heap.get? b=ID o/\H b=IF
 bsz:base.objs.size<=s.heap.objs.size
 wW:s.heap.FunFrames base outer
 frf:∀b∈frs outer,H b=IF
 hok:HOk P w H s.heap
 bare:KI s.gens
def CE(outer:List Env)(P:A1)(w:BD)(H:Hp)(s:AA)(Q:VK)(u:Ap)(s':AA):Prop:=
 ∃v H',s'.os=s.os/\KI s'.gens/\Un (frs outer) [] H H' s.heap s'.heap/\HOk P w H' s'.heap/\RelV v u/\Q v H'
def CR(CX:CXT)(outer:List Env)(P:A1)(w:BD)(H:Hp)(s:AA)(Q:VK)(E:XK)(r:Result)(s':AA):Prop:=
 match r with
 | .ok (.ret u)=>CE outer P w H s Q u s'
 | .ok _=>False
 | .error e=>CX outer H s E e s'
structure dw(P:A1)(w:BD)(K:AF)(mg:Str->Option Ap)(base:Heap)(CX:CXT)(k:Nat)(f:IN)(fd:D3)(ps:List Str)(sp:Sp):Prop where
 len:∀vs H Q E,sp vs H Q E->vs.length=ps.length
 run:∀(A:BA)(outer:List Env)(s:AA)(H:Hp)(args:Args)(us:List Ap)(vs:List V)(Q:VK)(E:XK),jn k A->aaR P w K mg base A outer s H->BindsTo s fd args (ps.zip us)->Vals vs us->sp vs H Q E ->
  DF (AM P w) A (.call (.ref f) args) (CR CX outer P w H s Q E) s
section
variable {X:Cx}{pins:List (IN×Obj)}{σ:St}{H:Hp}{s s':AA}
theorem Inv.env0(I:Inv X pins σ H s):aaR X.prog X.w X.K X.mg X.base X.A X.stack s H:=
 ⟨I.ok.frames,I.ok.mod,I.bs,CM I.ok.bsz I.sz,I.stack,I.Fz,I.hok,I.bare⟩
theorem Inv.after{Q:VK}{u:Ap}(I:Inv X pins σ H s)(h:CE X.stack X.prog X.w H s Q u s'):EP X pins σ Q u s':=by
 obtain⟨v,H',os,bare,un,hok,r,q⟩:=h;obtain⟨hh,g,d,t,os'⟩:=s';obtain rfl:os'=s.os:=os;exact⟨v,H',I.call (h':=hh) (g':=g) (d':=d) (t':=t) (ch:=[]) un hok bare (λb z=>absurd z ζ),r,q⟩
end
def zJ(sp:Sp)(dvs:List V)(E:XK)(t:TA):TE:=λσ H Q=>t σ H λvs H1=>sp (vs++dvs) H1 Q E
def Binds(K:AF)(fd:D3)(ps:List Str)(ds:List Ap):Prop:=
 ∀(s:AA)(us:List Ap),K.In s.heap->(us++ds).length=ps.length->BindsTo s fd ⟨us,[]⟩ (ps.zip (us++ds))
theorem Binds.all{K:AF}{fd:D3}{ps:List Str}(h:∀us:List Ap,us.length=ps.length->bindArgs fd ⟨us,[]⟩=pure (ps.zip us)):Binds K fd ps []:=λs us _ hl=>by
 rw[ED] at hl |-;exact .of_eq (h us hl)
def Oi(CX:CXT)(X:Cx)(E:XK):Prop:=∀(pins:List (IN×Obj)) (σ:St) (H:Hp) (s:AA) (e:Ap) (s':AA),Inv X pins σ H s->CX X.stack H s E e s'->X.xe e s'
section
variable {X:Cx}{CX:CXT}{k:Nat}{f C:IN}{fd:D3}{ps:List Str}{sp:Sp}{dvs:List V}{ds:List Ap}{E:XK}{x m:Str}{p pos apos:Pos}{e o:Expr}{es:List Expr}{ta:TE}{t:TA}
theorem abn{pins:List (IN×Obj)}{σ:St}{H:Hp}{s:AA}{Q:VK}{us:List Ap}{vs:List V}(F:dw X.prog X.w X.K X.mg X.base CX k f fd ps sp)(hr:jn k X.A)(hb:Binds X.K fd ps ds)(hd:Vals dvs ds)(hx:Oi CX X E)
  (I:Inv X pins σ H s)(r:Vals vs us)(h:sp (vs++dvs) H Q E):AH (AM X.prog X.w) X.A (call (.ref f) us) (EP X pins σ Q) X.xe s:=by
 have r2:Vals (vs++dvs) (us++ds):=r.append hd;have hl:(us++ds).length=ps.length:=by rw[<- r2.length];exact F.len _ _ _ _ h
 refine wpAny_call (IE (F.run X.A X.stack s H ⟨us,[]⟩ (us++ds) (vs++dvs) Q E hr I.env0 (hb s us I.kIn hl) r2 h) λr s' hq=>?_);cases r with
 | error e=>exact hx pins σ H s e s' I hq
 | ok fl=>
  cases fl with
  | ret u=>exact I.after hq
  | next=>exact FM hq
  | brk=>exact FM hq
  | cont=>exact FM hq
theorem ZV(F:dw X.prog X.w X.K X.mg X.base CX k f fd ps sp)(hr:jn k X.A)(hg:Gl X x)(hm:X.mg x=ID (.ref f))(hk:keepIn X.K (.ref f)=true)(hb:Binds X.K fd ps ds)(hd:Vals dvs ds)(hx:Oi CX X E)
  (ha:PA X (e::es) t)(hdb:(x == ("__debug__" : Str))=false:=by decide)(he:AK (e::es) X.env=(false,eval e X.env)::AK es X.env:=by rfl)(hpl:(CY pos (AK es X.env)).any (·.1)=false:=by rfl) :
  PE X (.Call (.Name x p) (e::es) [] pos) (zJ sp dvs E t):=by
 intro pins s σ H Q I h;refine Ff (Qd I hg hm ?_ hdb);refine PySem.W.callWith_K (h₀:=X.base) I.ok.mod.kin hk (thA (ha pos pins s σ H _ I h) λus s1 vs H1 I1 r q=>⟨I1.kIn,?_⟩) he hpl;exact abn F hr hb hd hx I1 r q
end
structure bA(N P:List Str)(sc:D0):Prop where
 kind:sc.kind=.function
 co:sc.isCoroutine=false
 gen:sc.isGenerator=false
 nd:N.Nodup
 pre:N.take P.length=P
 par:∀x∈P,sc.names.lookup x=ID .local\/sc.names.lookup x=ID .cell
 nofree:∀y∈sc.names,y.2≠.free
theorem Fj{kindOf:Str->Option B2}{x:Str}:∀{binds:List (Str×Ap)}{m:Str->Option Ap},(∀v,(x,v)∉binds)->bindL kindOf binds m x=m x
 | [],_,_=>rfl
 | (n,v)::r,m,h=>by
  unfold bindL;rw[Fj λw hw=>h w (Bi _ hw)];split
  ·have:x≠n:=by rintro rfl;exact h v A5
   simp[this]
  rfl
theorem Fo{kindOf:Str->Option B2}{x:Str}:∀{binds:List (Str×Ap)}{m:Str->Option Ap},(∀v,(x,v)∉binds)->bindC kindOf binds m x=m x
 | [],_,_=>rfl
 | (n,v)::r,m,h=>by
  unfold bindC;rw[Fo λw hw=>h w (Bi _ hw)];split
  ·rfl
  have:x≠n:=by rintro rfl;exact h v A5
  simp[this]
theorem Fl{kindOf:Str->Option B2}{x:Str}{v:Ap}:∀{P:List Str}{vs:List Ap}{i:Nat}{m:Str->Option Ap},P.Nodup->P[i]?=ID x->vs[i]?=ID v->kindOf x=ID .local ->
  bindL kindOf (P.zip vs) m x=ID v
 | [],_,_,_,_,h,_,_=>by simp at h
 | _::_,[],_,_,_,_,h,_=>by simp at h
 | p::P,w::vs,0,m,nd,h1,h2,hk=>by
  simp at h1 h2;subst h1;subst h2;show bindL kindOf ((p,w)::P.zip vs) m p=_;unfold bindL;rw[Fj λv hv=>(FR.mp nd).1 (of_mem_zip hv).1,if_pos hk];simp
 | p::P,w::vs,i+1,m,nd,h1,h2,hk=>by
  show bindL kindOf ((p,w)::P.zip vs) m x=_;unfold bindL;exact Fl (i:=i) (FR.mp nd).2 (by simpa using h1) (by simpa using h2) hk
theorem Fp{kindOf:Str->Option B2}{x:Str}{v:Ap}:∀{P:List Str}{vs:List Ap}{i:Nat}{m:Str->Option Ap},P.Nodup->P[i]?=ID x->vs[i]?=ID v->kindOf x≠ID .local ->
  bindC kindOf (P.zip vs) m x=ID v
 | [],_,_,_,_,h,_,_=>by simp at h
 | _::_,[],_,_,_,_,h,_=>by simp at h
 | p::P,w::vs,0,m,nd,h1,h2,hk=>by
  simp at h1 h2;subst h1;subst h2;show bindC kindOf ((p,w)::P.zip vs) m p=_;unfold bindC;rw[Fo λv hv=>(FR.mp nd).1 (of_mem_zip hv).1,if_neg hk];simp
 | p::P,w::vs,i+1,m,nd,h1,h2,hk=>by
  show bindC kindOf ((p,w)::P.zip vs) m x=_;unfold bindC;exact Fp (i:=i) (FR.mp nd).2 (by simpa using h1) (by simpa using h2) hk
def start(N:List Str)(vs:List V):St:=vs.map ID++BF (N.length-vs.length) IF
def Kh(CX:CXT)(P:A1)(w:BD)(K:AF)(mg:Str->Option Ap)(base:Heap)(N:List Str)(qual:Str)(scope:D0)(f:IN)(cd:Ap)(A:BA)(outer:List Env)(s:AA)(H:Hp)(E:XK):Cx where
 prog:=P
 w:=w
 K:=K
 mg:=mg
 base:=base
 A:=A.deeper (KM qual scope s.heap.objs.size f cd)
 N:=N
 s₀:=s
 H₀:=H
 env:=KM qual scope s.heap.objs.size f cd
 outer:=outer
 stack:=KM qual scope s.heap.objs.size f cd::outer
 ex:=[]
 calm:=true
 fn:=λ_=>true
 pn:=[]
 xe:=λe s'=>AH (AM P w) (A.deeper (KM qual scope s.heap.objs.size f cd)) (leaving (KM qual scope s.heap.objs.size f cd) e) (λ_ s''=>CX outer H s E e s'') (λe' s''=>CX outer H s E e' s'') s'
theorem Ko{sc:D0}{n:Nat}{x:Str}(h:sc.names.lookup x=ID .cell):∃c,(FE n sc.names []).lookup x=ID c:=by
 have q:=PySem.W.cellsFrom_some sc.names n [] (.inl h);exact Option.isSome_iff_exists.mp q
theorem Sx{CX:CXT}{P:A1}{w:BD}{K:AF}{mg:Str->Option Ap}{base:Heap}{N ps:List Str}{qual:Str}{scope:D0}{f:IN}{cd:Ap}{A:BA}{outer:List Env}{s s1:AA}{H:Hp}{E:XK}{us:List Ap}{vs:List V}
  (S:bA N ps scope)(hd:A.handled=IF)(e0:aaR P w K mg base A outer s H)(hl:vs.length=ps.length)(r:Vals vs us)
  (x:InCallC s s.heap.objs.size (bindL (KM qual scope s.heap.objs.size f cd).kindOf (ps.zip us) λ_=>IF) (FE (s.heap.objs.size+1) scope.names []) (bindC (KM qual scope s.heap.objs.size f cd).kindOf (ps.zip us) λ_=>IF) s1) :
  Inv (Kh CX P w K mg base N qual scope f cd A outer s H E) [] (start N vs) H s1:=by
 have hpl:ps.length<=N.length:=by have:=congrArg List.length S.pre;rw[FS] at this;omega
 obtain⟨h1,tk,rfl,hk⟩:=x.done;have noA:∀b:IN,b∉(Kh CX P w K mg base N qual scope f cd A outer s H E).ex:=λb z=>absurd (show b∈([]:List IN) from z) ζ;refine⟨⟨e0.mod,S.kind,rfl,rfl,AV _,λy z c h1 h2=>?_,λy hy=>?_,λy c _ h=>?_,λ_=>hd,BA.frames_deeper e0.frames,.inr ⟨rfl,rfl⟩,λb z=>absurd z (noA b),e0.bs,e0.bsz,λb _ _=>noA b,λb z=>absurd z (noA b),e0.wW,e0.frf⟩,
  rfl,e0.bare,Un.kept hk,⟨_,x.toInCall.ns,λi y v h1 h2 h3=>?_⟩,λy c h=>⟨_,x.cell y c h⟩,e0.hok.fresh (AV _),λy c h=>?_,λp hp=>absurd (show p∈([]:List (IN×Obj)) from hp) ζ,e0.hok.kept hk,?_⟩
 ·exact name_of_addr x.apart (BH h1) (BH h2)
 ·have hy:scope.names.lookup y=ID .cell\/scope.names.lookup y=ID .free:=hy;rcases hy with hy|hy
  ·exact Ko hy
  exact absurd Z (S.nofree _ (BH hy))
 ·exact HH (x.above y c (BH h))
 ·have hi:i<vs.length:=by
   unfold start at h2;by_cases hi:i<vs.length
   ·exact hi
   rw[Dx (by simpa using hi)] at h2;rw[List.getElem?_replicate] at h2;split at h2 <;> cases h2
  have ha:vs[i]?=ID v:=by
   unfold start at h2;rw[EU (by simpa using hi),AL] at h2;cases e:vs[i]? with
   | none=>rw[e] at h2;cases h2
   | some a=>rw[e] at h2;cases h2;rfl
  obtain⟨u,hu,rv⟩:=r.get ha;have hp:ps[i]?=ID y:=by
   rw[<- S.pre,List.getElem?_take_of_lt ω];exact h1
  have ndP:ps.Nodup:=by rw[<- S.pre];exact S.nd.sublist (List.take_sublist _ _)
  refine⟨u,rv,?_⟩;rcases S.par y (A8 hp) with k|k
  ·exact .inl ⟨k,Fl ndP hp hu k⟩
  obtain⟨c,e⟩:=Ko (n:=s.heap.objs.size+1) k;refine .inr ⟨.inl k,c,e,?_⟩;have q:=x.cell y c e;rw[Fp ndP hp hu (by show scope.names.lookup y≠_;rw[k];decide)] at q;exact q
 ·exact e0.hok.fresh (HH (x.above y c (BH h)))
 unfold start;show _=N.length;rw[A0,AC,List.length_replicate];omega
theorem adI{CX:CXT}{P:A1}{w:BD}{K:AF}{mg:Str->Option Ap}{base:Heap}{k:Nat}{f:IN}{name qual:Str}{params:Arguments}{body:List Stmt}{scope:D0}{dV kV doc pm cdv ct oc:Ap}{an od:Option IN}
  {osl:Array (Option Ap)}{N ps:List Str}{sp:Sp}(lk:K.lookup f=ID ⟨oc,od,.func (fnOf name qual params body scope dV kV doc pm an cdv ct),osl⟩)(hcd:codeIn K cdv qual=true)(S:bA N ps scope)
  (len:∀vs H Q E,sp vs H Q E->vs.length=ps.length)
   (hbody:∀(A:BA)(outer:List Env)(s:AA)(H:Hp)(vs:List V)(Q:VK)(E:XK),jn k (A.deeper (KM qual scope s.heap.objs.size f cdv))->sp vs H Q E ->
   ∃t,PSs (Kh CX P w K mg base N qual scope f cdv A outer s H E) body t/\t { nx:=λ_ H'=>Q .non H',rt:=Q } (start N vs) H) :
  dw P w K mg base CX (k+1) f (fnOf name qual params body scope dV kV doc pm an cdv ct) ps sp:=by
 refine⟨len,λA outer s H args us vs Q E hr e0 hb r hsp=>?_⟩;have hl:=len _ _ _ _ hsp;have KX:K.In s.heap:=e0.mod.kin.keeps λb o e=>(e0.bs b o e).1;have lim:s.heap.NoLimit:=e0.mod.nolimit.keeps λb o e=>(e0.bs b o e).1;have hkind:∀y∈ps.zip us,scope.names.lookup y.1=ID .local\/(scope.names.lookup y.1=ID .cell/\((FE (s.heap.objs.size+1) scope.names []).lookup y.1).isSome=true):=λ⟨n,v⟩ hy=>by
  rcases S.par n (of_mem_zip hy).1 with q|q
  ·exact .inl q
  exact .inr ⟨q,PySem.W.cellsFrom_some _ _ _ (.inl q)⟩
 refine codeAny_call_function hr.depth (KX _ _ lk) Z S.co S.gen Z (PySem.W.codeRec_of KX hcd) (hb _ _ _ _ ?_);refine wpAny_newFunctionEnv_cells S.kind hkind λenv he s1 x=>?_;subst he;refine⟨lim.keeps x.toInCall.keep,codeAny_func ?_⟩;obtain⟨t,ht,hq⟩:=hbody A outer s H vs Q E (hr.deeper _) hsp;have I:Inv (Kh CX P w K mg base N qual scope f cdv A outer s H E) [] (start N vs) H s1:=Sx S hr.hd e0 hl r x;refine A7 (ht [] s1 (start N vs) H _ I hq) (λfl s' hs=>?_) λe s' hs=>hs;have fin:∀{σ':St}{H':Hp}{v:V}{u:Ap},Inv (Kh CX P w K mg base N qual scope f cdv A outer s H E) [] σ' H' s'->RelV v u->Q v H'->CE outer P w H s Q u s':=
  λ{σ' H' v u} J rv q=>⟨v,H',J.os,J.bare,J.base,J.hok,rv,q⟩
 cases fl with
 | ret u=>
  obtain⟨v,σ',H',J,rv,q⟩:=hs;exact fin J rv q
 | next=>
  obtain⟨σ',H',J,q⟩:=hs;exact fin (v:=V.non) (u:=Ap.none) J Z q
 | brk=>
  obtain⟨_,_,_,q⟩:=hs;exact FM q
 | cont=>
  obtain⟨_,_,_,q⟩:=hs;exact FM q
section
variable {X:Cx}{x:Str}{p pos:Pos}{e:Expr}{es:List Expr}{t:TA}{id T:String}{r:List V->Hp->VK->Prop}
def tCB(r:List V->Hp->VK->Prop)(t:TA):TE:=λσ H Q=>t σ H λvs H1=>r vs H1 Q
theorem Wm(hc:dR X (.builtin id) r)(hg:Gl X x)(hm:X.mg x=IF)(hv:D5 x=ID (.builtin id))(ha:PA X (e::es) t)(hn:x ≠ "__name__" := by decide)(hdb:(x == ("__debug__" : Str))=false:=by decide)
  (he:AK (e::es) X.env=(false,eval e X.env)::AK es X.env:=by rfl) (hpl:(CY pos (AK es X.env)).any (·.1)=false:=by rfl):PE X (.Call (.Name x p) (e::es) [] pos) (tCB r t):=by
 intro pins s σ H Q I h;refine Ff (gA I hg hm hv ?_ hn hdb);exact GY (thA (ha pos pins s σ H _ I h) λus s1 vs H1 I1 r1 q1=>hc pins s1 σ H1 vs us Q I1 r1 q1) he hpl
theorem RK(hc:dR X (.type T) r)(hg:Gl X x)(hm:X.mg x=IF)(hv:D5 x=ID (.type T))(ha:PA X (e::es) t)(hn:x ≠ "__name__" := by decide)(hdb:(x == ("__debug__" : Str))=false:=by decide)
  (he:AK (e::es) X.env=(false,eval e X.env)::AK es X.env:=by rfl) (hpl:(CY pos (AK es X.env)).any (·.1)=false:=by rfl):PE X (.Call (.Name x p) (e::es) [] pos) (tCB r t):=by
 intro pins s σ H Q I h;refine Ff (gA I hg hm hv ?_ hn hdb);exact BE (thA (ha pos pins s σ H _ I h) λus s1 vs H1 I1 r1 q1=>hc pins s1 σ H1 vs us Q I1 r1 q1) he hpl
end
end L2
open L2.HO renaming lst → By,tup → BY,dT → Do
open L2.V renaming bl → As,int → At,str → AS,ref → AT
namespace HT
open PySem PyProof.Rows
section
variable {prog:A1}{w:BD}{A:BA}{E:Ap->AA->Prop}{s:AA}
theorem aaM{t b:IN}{vs ws:List Ap}{Q:Ap->AA->Prop}(ht:IsTup s.heap t vs.toArray)(hb:IsTup s.heap b ws.toArray)(hv:vs≠[])
  (h1:ws=[]->Q (.ref t) s)(h2:ws≠[]->Q (.ref s.heap.objs.size) { s with heap:=s.heap.push { cls:=.type "tuple",data:=.seq (vs++ws).toArray } })
  (hsz:vs.length+ws.length<=AN):AH (AM prog w) A (ET .Add (.ref t) (.ref b)) Q E s:=by
 obtain⟨⟨cls,dd,data,sl⟩,ho,hc,n,hd⟩:=id ht;obtain⟨⟨cls2,dd2,data2,sl2⟩,ho2,hc2,n2,hd2⟩:=id hb;simp only at hc hd hc2 hd2;subst hc hd hc2 hd2;have e:vs.toArray++ws.toArray=(vs++ws).toArray:=by simp
 by_cases hw:ws=[]
 ·exact concat_meets ⟨_,ho,rfl⟩ ⟨_,ho2,rfl⟩ noFill_tuple_add seq_tuple_add PySem.F.slot_tuple_add PySem.F.entry_tuple_add (PySem.F.args_tuple_add_2 _ _)
   (tuple_addW1 t b vs.toArray ws.toArray n n2 dd dd2 sl sl2 (by simpa using hv) (by simp[hw])) ⟨ho,ho2,h1 hw⟩
 refine concat_meets ⟨_,ho,rfl⟩ ⟨_,ho2,rfl⟩ noFill_tuple_add seq_tuple_add PySem.F.slot_tuple_add PySem.F.entry_tuple_add (PySem.F.args_tuple_add_2 _ _)
  (tuple_addW2 t b vs.toArray ws.toArray n n2 dd dd2 sl sl2 (by simpa using hv) (by simpa using hw) (by rw[AZ,AZ];exact hsz)) ⟨ho,ho2,?_⟩
 rw[e];exact h2 hw
def sIx(n d:Nat):Option Int->Nat
 | none=>d
 | some v=>if v<0 then (v+(n:Int)).toNat else min v.toNat n
theorem abl(n d:Nat)(hd:d<=n)(o:Option Int):sIx n d o<=n:=by
 cases o with
 | none=>exact hd
 | some v=>
  show(if v<0 then (v+(n:Int)).toNat else min v.toNat n)<=n;by_cases hv:v<0
  ·rw[if_pos hv];omega
  rw[if_neg hv];exact Nat.min_le_right _ _
theorem QD(v:Int)(n d:Nat):(if v<0 then max (v+(n:Int)) 0 else min v (n:Int))=((sIx n d (ID v):Nat):Int):=by
 show(if v<0 then max (v+(n:Int)) 0 else min v (n:Int))=(((if v<0 then (v+(n:Int)).toNat else min v.toNat n):Nat):Int);by_cases hv:v<0
 ·simp only[if_pos hv];omega
 simp only[if_neg hv];omega
theorem Oe(lo hi:Option Int)(n:Nat):AR.Slice.sliceAdjust lo hi 1 (n:Int)=(((sIx n 0 lo:Nat):Int),((sIx n n hi:Nat):Int)):=by
 have h1:¬((1:Int)<0):=ω;unfold AR.Slice.sliceAdjust;simp only[h1,if_false];refine Prod.ext ?_ ?_
 ·cases lo with
  | none=>rfl
  | some v=>exact QD v n 0
 cases hi with
 | none=>rfl
 | some v=>exact QD v n n
theorem Lw(i j:Nat):AR.Slice.slicePlaces (i:Int) (j:Int) 1=j-i:=by
 unfold AR.Slice.slicePlaces;have h1:(1:Int)>0:=ω;simp only[h1,if_true,Int.ediv_one];split <;> omega
theorem zR{v:Ap}{o:Option Int}{Q:Option Int->AA->Prop}(p:IsPart v o)(h:Q o s):AH (AM prog w) A (AR.Slice.slicePartIndex v) Q E s:=by
 cases p with
 | none=>exact slicePart_none h
 | int i t=>exact slicePart_int h
theorem wB{sl:IN}{vl vu:Ap}{lo hi:Option Int}{n:Nat}{Q:Int×Int×Nat->AA->Prop}(hs:s.heap.IsSliceOf sl vl vu .none)(pl:IsPart vl lo)(pu:IsPart vu hi)
  (h:Q (((sIx n 0 lo:Nat):Int),1,sIx n n hi-sIx n 0 lo) s):AH (AM prog w) A (AR.Slice.sliceApplied (.ref sl) (pure (n:Int))) Q E s:=by
 obtain⟨os,hos,hcs,hds⟩:=id hs;unfold AR.Slice.sliceApplied AR.Slice.sliceFields;refine An (An (Cs hos hds (x:=vl) Z (An (Cs hos hds (x:=vu) Z (An (Cs hos hds (x:=.none) Z (Au ?_)))))));refine An (slicePart_none ?_);show AH _ _ (if ((1:Int) == 0)=true then _ else _) _ _ s;rw[if_neg δ];refine An (zR pl (An (zR pu (An (Au ?_)))));show AH _ _ (match AR.Slice.sliceAdjust lo hi 1 (n:Int) with|(lo,hi)=>pure (lo,(1:Int),AR.Slice.slicePlaces lo hi 1)) _ _ s
 rw[Oe lo hi n];show AH _ _ (pure (((sIx n 0 lo:Nat):Int),(1:Int),AR.Slice.slicePlaces ((sIx n 0 lo:Nat):Int) ((sIx n n hi:Nat):Int) 1)) _ _ s;rw[Lw];exact Au h
theorem Wa(xs:Array Ap)(i k:Nat):((BN k).filterMap λ(m:Nat)=>xs[((i:Int)+(m:Int)*1).toNat]?).toArray=((xs.toList.drop i).take k).toArray:=by
 have e:(λ(m:Nat)=>xs[((i:Int)+(m:Int)*1).toNat]?)=λm=>xs[i+m]?:=by
  funext m;have:((i:Int)+(m:Int)*1).toNat=i+m:=by omega
  rw[this]
 rw[e];have:=pick_run xs i k;rw[filterMap_map] at this;have e2:((λx=>xs[x]?)∘λx=>i+x)=λm=>xs[i+m]?:=rfl;rw[e2] at this;rw[this]
theorem vP{t sl:IN}{items:Array Ap}{vl vu:Ap}{lo hi:Option Int}{Q:Ap->AA->Prop}(ht:IsTup s.heap t items)(hs:s.heap.IsSliceOf sl vl vu .none)(pl:IsPart vl lo)(pu:IsPart vu hi)
  (hw:¬(sIx items.size 0 lo=0/\sIx items.size items.size hi=items.size))
  (h:Q (.ref s.heap.objs.size) { s with heap:=s.heap.push { cls:=.type "tuple",data:=.seq ((items.toList.drop (sIx items.size 0 lo)).take (sIx items.size items.size hi-sIx items.size 0 lo)).toArray } })
  (hsz:items.size<=AN):AH (AM prog w) A (LX (.ref t) (.ref sl)) Q E s:=by
 have htake:sizeOk (.seq ((items.toList.drop (sIx items.size 0 lo)).take (sIx items.size items.size hi-sIx items.size 0 lo)).toArray):=by
  show((items.toList.drop (sIx items.size 0 lo)).take (sIx items.size items.size hi-sIx items.size 0 lo)).toArray.size<=AN;rw[AZ,FS,Gc,D6];omega
 have hj:sIx items.size items.size hi<=items.size:=abl _ _ (AV _) hi;obtain⟨os,hos,hcs,hds⟩:=id hs;have hTs:s.TypeIs (.ref sl) "slice" := ⟨os,hos,hcs⟩;unfold LX
 try with_reducible refine Ct ?_
 first|refine An (Au ?_)|skip
 refine An (wpAny_sequenceKey ht.typeIs δ ?_);refine An (B5 (name:=GH "__getitem__") ht.typeIs GV
  (B3 GV ht.typeIs entry_tuple_getitem ?_ (args_tuple_getitem _ _)))
 show AH _ _ (AR.Tuple.tupleItemsOf (.ref t) >>= _) _ _ s;refine An (tupleItemsOf_ ht ?_);refine An (wpAny_typeOf hTs ?_);rw[if_pos δ];refine An (wB hs pl pu ?_);have hno:¬((((sIx items.size 0 lo:Nat):Int) == 0&&(1:Int) == 1&&(sIx items.size items.size hi-sIx items.size 0 lo) == items.size)=true):=by
  intro q;rw[CH,CH] at q;have q1:((sIx items.size 0 lo:Nat):Int)=0:=eq_of_beq q.1.1;have q2:sIx items.size items.size hi-sIx items.size 0 lo=items.size:=eq_of_beq q.2;exact hw ⟨ω,ω⟩
 show AH _ _ (if (((sIx items.size 0 lo:Nat):Int) == 0&&(1:Int) == 1&&(sIx items.size items.size hi-sIx items.size 0 lo) == items.size)=true then _ else _) _ _ s;rw[if_neg hno,Wa]
 first
  | exact An (m:=AR.Tuple.tupleExact _) (A6 (Au ⟨_,rfl,Au h⟩) htake)
  | exact An (m:=AR.Tuple.tupleExact _) (A6 (An (Au (Au ⟨_,rfl,Au h⟩))) htake)
  | exact An (An (m:=AR.Tuple.tupleExact _) (A6 (Au (Au ⟨_,rfl,Au h⟩)) htake))
  | exact An (An (m:=AR.Tuple.tupleExact _) (A6 (Au ⟨_,rfl,Au h⟩) htake))
end
end HT
namespace L2
open PySem PySem.Spec PyProof.Rows
abbrev TO:=St->Hp->(Option Int->Hp->Prop)->Prop
def PO(X:Cx)(e:Option Expr)(t:TO):Prop:=
 ∀(pins:List (IN×Obj)) (s:AA) (σ:St) (H:Hp) (Q:Option Int->Hp->Prop),Inv X pins σ H s->t σ H Q ->
  AH (AM X.prog X.w) X.A (evalPart e X.env) (λu s'=>∃o H',Inv X pins σ H' s'/\IsPart u o/\Q o H') X.xe s
def Fx:TO:=λ_ H Q=>Q IF H
def Us(t:TE):TO:=λσ H Q=>t σ H λx H1=>∃i,x=.int i/\Q (ID i) H1
section
variable {X:Cx}{e:Expr}{te:TE}{lo hi:Option Expr}{tl th:TO}{pos p2:Pos}
theorem Zv:PO X IF Fx:=by
 intro pins s σ H Q I h;rw[evalPart_none];exact Au ⟨IF,H,I,.none,h⟩
theorem Zu(h:PE X e te):PO X (ID e) (Us te):=by
 intro pins s σ H Q I hw;rw[evalPart_some];refine thE (h pins s σ H _ I hw) λu s1 x H1 I1 r1 q1=>?_;obtain⟨i,rfl,q⟩:=q1;obtain⟨t,rfl⟩:=r1;exact⟨ID i,H1,I1,.int i t,q⟩
def SlR(X:Cx)(r:V->Option Int->Option Int->Hp->VK->Prop):Prop:=
 ∀(pins:List (IN×Obj)) (s:AA) (σ:St) (H:Hp) (x:V) (v vl vu:Ap) (lo hi:Option Int) (sl:IN) (Q:VK),Inv X pins σ H s->RelV x v->s.heap.IsSliceOf sl vl vu .none->IsPart vl lo->IsPart vu hi->r x lo hi H Q ->
  ∃T id,typeLookup (.type T) "__getitem__" = pure (ID (.builtin id))/\s.TypeIs v T/\AH (AM X.prog X.w) X.A (LX v (.ref sl)) (EP X pins σ Q) X.xe s
def tSl(r:V->Option Int->Option Int->Hp->VK->Prop)(te:TE)(tl th:TO):TE:=λσ H Q=>te σ H λx H1=>tl σ H1 λl H2=>th σ H2 λu H3=>r x l u H3 Q
theorem Wh{r:V->Option Int->Option Int->Hp->VK->Prop}(hr:SlR X r)(he:PE X e te)(hl:PO X lo tl)(hu:PO X hi th):PE X (.Subscript e (.Slice lo hi IF p2) pos) (tSl r te tl th):=by
 intro pins s σ H Q I h;refine Subscript_ (thE (he pins s σ H _ I h) λv s1 x H1 I1 r1 q1=>?_);refine wpAny_Slice (thn (hl pins s1 σ H1 _ I1 q1) λvl s2 ⟨l,H2,I2,pl,q2⟩=>thn (hu pins s2 σ H2 _ I2 q2) λvu s3 ⟨u,H3,I3,pu,q3⟩=>?_);rw[evalPart_none];refine Au ?_;have I4:Inv X pins σ H3 { s3 with heap:=s3.heap.push { cls:=.type "slice",data:=.fields #[vl,vu,.none] } }:=I3.kept (t':=s3.toks) λb ob q=>AB _ q;obtain⟨T,id,hT,ht,hg⟩:=hr pins { s3 with heap:=s3.heap.push { cls:=.type "slice",data:=.fields #[vl,vu,.none] } } σ H3 x v vl vu l u s3.heap.objs.size Q I4 r1 (Heap.IsSliceOf.new ..) pl pu q3;show AH (AM X.prog X.w) X.A (subscriptTail e (.Slice lo hi IF p2) v (.ref s3.heap.objs.size)) (EP X pins σ Q) X.xe { s3 with heap:=s3.heap.push { cls:=.type "slice",data:=.fields #[vl,vu,.none] } };exact tail_any (ops:=[.ref s3.heap.objs.size,v]) ht hT hg (by with_unfolding_all rfl)
def oE(xs:List V)(lo hi:Option Int):List V:=(xs.drop (HT.sIx xs.length 0 lo)).take (HT.sIx xs.length xs.length hi-HT.sIx xs.length 0 lo)
theorem yj(xs:List V)(lo hi:Option Int):(oE xs lo hi).length<=xs.length:=by
 unfold oE;rw[FS,Gc];omega
def adU(K:AF):V->Option Int->Option Int->Hp->VK->Prop:=λx lo hi H Q=>∃a xs,x=.ref a/\SqT K H a xs /\
 ¬(HT.sIx xs.length 0 lo=0/\HT.sIx xs.length xs.length hi=xs.length)/\∀p,H p=IF->Q (.ref p) (upd H p (.tup (oE xs lo hi)))
theorem abk:SlR X (adU X.K):=by
 intro pins s σ H x v vl vu lo hi sl Q I rx hs pl pu h;obtain⟨a,xs,rfl,hx,hw,q⟩:=h;cases rx;obtain⟨its,r,ht,hz⟩:=I.tuple hx;have hlen:its.toArray.size=xs.length:=by rw[AZ];exact r.length.symm
 refine⟨"tuple",_,GV.lookup,ht.typeIs,?_⟩;refine HT.vP ht hs pl pu (by rw[hlen];exact hw) ?_ (by rw[hlen];exact hz);rw[hlen];refine⟨.ref s.heap.objs.size,_,I.laid (t':=s.toks) (o:=.tup (oE xs lo hi)) (λb ob q=>AB _ q) (AV _) ?_,rfl,q _ (I.hok.fresh (AV _))⟩;exact⟨CM (yj xs lo hi) hz,_,(r.drop (HT.sIx xs.length 0 lo)).take (HT.sIx xs.length xs.length hi-HT.sIx xs.length 0 lo),IsTup.new _ _⟩
def ac7(K:AF):R2:=λx y H Q=>∃a b xs ys,x=.ref a/\y=.ref b/\SqT K H a xs/\SqT K H b ys/\xs≠[]/\xs.length+ys.length<=AN /\
 (ys=[]->Q (.ref a) H)/\(ys≠[]->∀p,H p=IF->Q (.ref p) (upd H p (.tup (xs++ys))))
theorem Vals.Gz{xs:List V}{us:List Ap}(r:Vals xs us):us=[]↔xs=[]:=by
 cases r with
 | nil=>simp
 | cons _ _=>simp
theorem Z2:OpR X (ET .Add) (ac7 X.K):=by
 intro pins s σ H x y v u Q I rx ry h;obtain⟨a,b,xs,ys,rfl,rfl,ha,hb,hx,hz,q1,q2⟩:=h;cases rx;cases ry;obtain⟨its,r1,p1,_⟩:=I.tuple ha;obtain⟨its2,r2,p2,_⟩:=I.tuple hb;refine HT.aaM p1 p2 (λz=>hx (r1.Gz.mp z)) (λz=>⟨.ref a,H,I,rfl,q1 (r2.Gz.mp z)⟩) (λz=>?_) (by rw[<- r1.length,<- r2.length];exact hz);refine⟨.ref s.heap.objs.size,_,I.laid (t':=s.toks) (o:=.tup (xs++ys)) (λb ob q=>AB _ q) (AV _) ?_,rfl,q2 (λw=>z (r2.Gz.mpr w)) _ (I.hok.fresh (AV _))⟩;exact⟨by rw[A0];exact hz,_,r1.append r2,IsTup.new _ _⟩
end
def ixN(n:Nat)(i:Int):Option Nat:=if 0<=i then (if i<n then ID i.toNat else IF) else if -(n:Int)<=i then ID (i+n).toNat else IF
def atI{α:Type}(xs:List α)(i:Int):Option α:=(ixN xs.length i).bind λj=>xs[j]?
theorem Qj{n:Nat}{i:Int}{j:Nat}(h:ixN n i=ID j):seqIndex? i n=ID j/\j<n/\-(n:Int)<=i/\i<n:=by
 unfold ixN at h;by_cases h0:0<=i
 ·rw[if_pos h0] at h;by_cases h1:i<n
  ·rw[if_pos h1] at h;have e:i.toNat=j:=Be h;exact⟨by rw[seqIndex_of h0 h1,e],ω,ω,h1⟩
  rw[if_neg h1] at h;cases h
 rw[if_neg h0] at h;by_cases h1:-(n:Int)<=i
 ·rw[if_pos h1] at h;have e:(i+n).toNat=j:=Be h;exact⟨by rw[seqIndex_neg ω h1,e],ω,h1,ω⟩
 rw[if_neg h1] at h;cases h
theorem QL{α:Type}{xs:List α}{i:Int}{v:α}(h:atI xs i=ID v):∃j,seqIndex? i xs.length=ID j/\xs[j]?=ID v/\j<xs.length/\-(xs.length:Int)<=i/\i<xs.length:=by
 unfold atI at h;cases e:ixN xs.length i with
 | none=>rw[e] at h;cases h
 | some j=>
  rw[e] at h;obtain⟨h1,h2,h3,h4⟩:=Qj e;exact⟨j,h1,h,h2,h3,h4⟩
theorem bZ{α:Type}{xs:List α}{j:Nat}{v:α}(h:xs[j]?=ID v):atI xs (j:Int)=ID v:=by
 have hj:j<xs.length:=(AI.mp h).1;have e:ixN xs.length (j:Int)=ID j:=by
  unfold ixN;rw[if_pos ω,if_pos ω];simp
 unfold atI;rw[e];exact h
def QM(b:Expr):Prop:=∀o i,subscripted b false o i=operate [o,i] (LX o i)
def IxR(X:Cx)(r:R2):Prop:=
 ∀(value slice:Expr)(pins:List (IN×Obj)) (s:AA) (σ:St) (H:Hp) (x y:V) (v u:Ap) (Q:VK),Inv X pins σ H s->RelV x v->RelV y u->r x y H Q ->
  subscripted slice false v u=operate [v,u] (LX v u)->AH (AM X.prog X.w) X.A (subscriptTail value slice v u) (EP X pins σ Q) X.xe s
section
variable {X:Cx}{a b:Expr}{ta tb:TE}{pos:Pos}
theorem adi{r:R2}(hr:IxR X r)(ha:PE X a ta)(hb:PE X b tb)(hs:QM b):PE X (.Subscript a b pos) (tOp r ta tb):=by
 intro pins s σ H Q I h;exact Subscript_ (acM ha hb I h λv u s2 x y H2 I2 rx ry q=>hr a b pins s2 σ H2 x y v u Q I2 rx ry q (hs _ _))
def ac5(K:AF):R2:=λx y H Q=>∃p xs i v,x=.ref p/\y=.int i/\SqL K H p xs/\atI xs i=ID v/\Q v H
def adY(K:AF):R2:=λx y H Q=>∃p xs i v,x=.ref p/\y=.int i/\SqT K H p xs/\atI xs i=ID v/\Q v H
theorem Qi:IxR X (ac5 X.K):=by
 intro value slice pins s σ H x y v u Q I rx ry h hs;obtain⟨p,xs,i,z,rfl,rfl,hq,he,q⟩:=h;cases rx;obtain⟨t,rfl⟩:=ry;obtain⟨its,r,pl,hz⟩:=I.list hq;obtain⟨j,h1,h2,h3,h4,h5⟩:=QL he;obtain⟨w,ew,rw'⟩:=r.get h2;have hl:=r.length;have hn:=G9;have fin:EP X pins σ Q w s:=⟨z,H,I,rw',q⟩;by_cases h0:0<=i
 ·have hj:i.toNat=j:=by
   rw[seqIndex_of h0 h5] at h1;exact Be h1
  exact item_listR pl.isList h0 ω (by rw[hj];simpa using ew) fin hs
 have hj:(i+(its.toArray.size:Int)).toNat=j:=by
  rw[seqIndex_neg ω h4] at h1;rw[AZ,<- hl];exact Be h1
 exact subscriptTail_builtinR (x:=w) pl.isList.typeIs slot_list_getitem.lookup
  (wpAny_getItem_list_neg (Q:=λr s'=>r=w/\EP X pins σ Q r s') pl.isList ω (by rw[AZ] <;> omega) ω (by rw[hj];simpa using ew) ⟨rfl,fin⟩) hs
theorem acq:IxR X (adY X.K):=by
 intro value slice pins s σ H x y v u Q I rx ry h hs;obtain⟨p,xs,i,z,rfl,rfl,hq,he,q⟩:=h;cases rx;obtain⟨t,rfl⟩:=ry;obtain⟨its,r,pl,hz⟩:=I.tuple hq;obtain⟨j,h1,h2,h3,h4,h5⟩:=QL he;obtain⟨w,ew,rw'⟩:=r.get h2;have hl:=r.length;have hn:=G9;have fin:EP X pins σ Q w s:=⟨z,H,I,rw',q⟩;exact subscriptTail_builtinR (x:=w) pl.typeIs slot_tuple_getitem.lookup
  (getItem_tuple (j:=j) (Q:=λr s'=>r=w/\EP X pins σ Q r s') pl ω ω (by rw[AZ,<- hl];exact h1) (by simpa using ew) ⟨rfl,fin⟩) hs
theorem M8(its:List Ap)(n j:Nat)(u:Ap):BO (·.setIfInBounds j u) { cls:=.type "list",data:=.seq its.toArray n }={ cls:=.type "list",data:=.seq (its.set j u).toArray n }:=by
 simp[BO]
theorem Inv.lst{pins:List (IN×Obj)}{σ:St}{H:Hp}{s:AA}{p:IN}{xs:List V}(I:Inv X pins σ H s)(h:H p=ID (.lst xs)) :
  ∃(its:List Ap)(n:Nat),Vals xs its/\s.heap.get? p=ID { cls:=.type "list",data:=.seq its.toArray n }/\xs.length<=AN:=by
 obtain⟨z,its,n,r,e⟩:=I.hok p _ h;exact⟨its,n,r,e,z⟩
theorem Inv.acd{pins:List (IN×Obj)}{σ:St}{H:Hp}{s:AA}{p:IN}{xs ys:List V}{its its':List Ap}{n n':Nat}{f:Obj->Obj}(I:Inv X pins σ H s)(h:H p=ID (.lst xs))
  (ho:s.heap.get? p=ID { cls:=.type "list",data:=.seq its.toArray n })(hf:f { cls:=.type "list",data:=.seq its.toArray n }={ cls:=.type "list",data:=.seq its'.toArray n' })(r:Vals ys its')(hz:ys.length<=AN)(t:Nat) :
  Inv X pins σ (upd H p (.lst ys)) { s with heap:=s.heap.update p f,toks:=t }:=by
 have e:(s.heap.update p f).get? p=ID { cls:=.type "list",data:=.seq its'.toArray n' }:=by
  rw[G0 f ho (by rw[hf] <;> rfl),hf]
 refine I.write (x:=p) (e:=p) (by rw[h];trivial) (.inl Z) (λb u hb q=>(BQ _ _ (BS hb)).trans q) ⟨_,e⟩ ?_;exact⟨hz,its',n',r,e⟩
def ac3:V->V->V->Hp->(Hp->Prop)->Prop:=λo i v H Q=>∃p xs k j,o=.ref p/\i=.int k/\H p=ID (.lst xs)/\ixN xs.length k=ID j/\Q (upd H p (.lst (xs.set j v)))
theorem set_list:Ua X ac3:=by
 intro pins s σ H o i v ov iv u Q I ro ri rv h;obtain⟨p,xs,k,j,rfl,rfl,hp,hj,q⟩:=h;cases ro;obtain⟨t,rfl⟩:=ri;obtain⟨its,n,r,ho,hz⟩:=I.lst hp;obtain⟨h1,h2,h3,h4⟩:=Qj hj;have hl:=r.length;have hn:=G9;have I':Inv X pins σ (upd H p (.lst (xs.set j v))) { s with heap:=s.heap.update p (BO (·.setIfInBounds j u)) }:=
  I.acd hp ho (M8 its n j u) (r.set rv j) (by rw[List.length_set];exact hz) s.toks
 by_cases h0:0<=k
 ·have hk:k.toNat=j:=by
   rw[seqIndex_of h0 h4] at h1;exact Be h1
  exact PySem.W.ki_setAt ho h0 ω (by rw[AZ,<- hl];exact h4) (by rw[hk];exact⟨_,I',q⟩)
 have hk:(k+(its.toArray.size:Int)).toNat=j:=by
  rw[seqIndex_neg ω h3] at h1;rw[AZ,<- hl];exact Be h1
 exact PySem.W.ki_setBack ho ω (by rw[AZ,<- hl];exact h3) ω (by rw[hk];exact⟨_,I',q⟩)
theorem FQ(lo hi:Option Int)(n:Nat):(Ic lo hi IF n).1=((HT.sIx n 0 lo:Nat):Int)/\(Ic lo hi IF n).2.1=((HT.sIx n n hi:Nat):Int)/\(Ic lo hi IF n).2.2=1:=by
 refine⟨?_,?_,rfl⟩
 ·cases lo with
  | none=>simp[Ic,HT.sIx]
  | some i=>
   simp only[Ic,HT.sIx,getD_none,show(1:Int)>0 by decide,if_true];by_cases h:i<0
   ·simp only[h,if_true] <;> omega
   simp only[h,if_false] <;> omega
 cases hi with
 | none=>simp[Ic,HT.sIx]
 | some i=>
  simp only[Ic,HT.sIx,getD_none,show(1:Int)>0 by decide,if_true];by_cases h:i<0
  ·simp only[h,if_true] <;> omega
  simp only[h,if_false] <;> omega
theorem Cw(its:List Ap)(lo hi:Option Int):slicePick its.toArray lo hi IF=((its.drop (HT.sIx its.length 0 lo)).take (HT.sIx its.length its.length hi-HT.sIx its.length 0 lo)).toArray:=by
 obtain⟨h1,h2,h3⟩:=FQ lo hi its.toArray.size;unfold slicePick;rw[h1,h2,h3];simp only[sliceRange_one,pick_run,AZ] <;> rfl
def adV(K:AF):V->Option Int->Option Int->Hp->VK->Prop:=λx lo hi H Q=>∃a xs,x=.ref a/\SqL K H a xs/\∀p,H p=IF->Q (.ref p) (upd H p (.lst (oE xs lo hi)))
theorem YD:SlR X (adV X.K):=by
 intro pins s σ H x v vl vu lo hi sl Q I rx hs pl pu h;obtain⟨a,xs,rfl,hx,q⟩:=h;cases rx;obtain⟨its,r,ht,hz⟩:=I.list hx;have hlen:=r.length;refine⟨"list",_,slot_list_getitem.lookup,ht.isList.typeIs,?_⟩;refine wpAny_getItem_list_slice ht.isList hs pl pu .none ζ ?_ (by rw[AZ] <;> omega)
 rw[Cw,<- hlen];refine⟨.ref s.heap.objs.size,_,I.laid (t':=s.toks) (o:=.lst (oE xs lo hi)) (λb ob q=>AB _ q) (AV _) ?_,rfl,q _ (I.hok.fresh (AV _))⟩;exact⟨CM (yj xs lo hi) hz,_,0,(r.drop (HT.sIx xs.length 0 lo)).take (HT.sIx xs.length xs.length hi-HT.sIx xs.length 0 lo),AO _ rfl⟩
def Qo:V->Bool
 | .non=>true
 | .bl _=>true
 | .int _=>true
 | .str _=>true
 | _=>false
def eqV:V->V->Bool
 | .non,.non=>true
 | .bl a,.bl b=>a == b
 | .bl a,.int b=>(if a then 1 else 0) == b
 | .int a,.bl b=>a == (if b then 1 else 0)
 | .int a,.int b=>a == b
 | .str a,.str b=>a == b
 | _,_=>false
theorem acF{A:BA}{s:AA}{y x:V}{u v:Ap}(ry:RelV y u)(rx:RelV x v)(fy:Qo y=true)(fx:Qo x=true):B7 A s u v (eqV y x):=by
 cases y with
 | non=>
  cases ry;cases x with
  | non=>cases rx;exact B7.same _
  | bl b=>cases rx;exact B7.none_bool b
  | int b=>obtain⟨t,rfl⟩:=rx;exact B7.none_int b t
  | str b=>obtain⟨t,rfl⟩:=rx;exact B7.none_str b t
  | _=>exact absurd (show false=true from fx) AX
 | bl a=>
  cases ry;cases x with
  | non=>cases rx;exact B7.bool_none a
  | bl b=>cases rx;exact B7.bool_bool a b
  | int b=>obtain⟨t,rfl⟩:=rx;exact B7.bool_int a b t
  | str b=>obtain⟨t,rfl⟩:=rx;exact B7.bool_str a b t
  | _=>exact absurd (show false=true from fx) AX
 | int a=>
  obtain⟨t',rfl⟩:=ry;cases x with
  | non=>cases rx;exact B7.int_none a t'
  | bl b=>cases rx;exact B7.int_bool a t' b
  | int b=>obtain⟨t,rfl⟩:=rx;exact B7.int_int a t' b t
  | str b=>obtain⟨t,rfl⟩:=rx;exact B7.int_str a t' b t
  | _=>exact absurd (show false=true from fx) AX
 | str a=>
  obtain⟨t',rfl⟩:=ry;cases x with
  | non=>cases rx;exact B7.str_none a t'
  | bl b=>cases rx;exact B7.str_bool a t' b
  | int b=>obtain⟨t,rfl⟩:=rx;exact B7.str_int a t' b t
  | str b=>obtain⟨t,rfl⟩:=rx;exact B7.str_str a t' b t
  | _=>exact absurd (show false=true from fx) AX
 | _=>exact absurd (show false=true from fy) AX
theorem kJ:dR X (.builtin "len") (λxs H Q=>∃p ys,xs=[.ref p]/\(SqL X.K H p ys\/SqT X.K H p ys)/\Q (.int ys.length) H):=by
 intro pins s σ H xs us Q I r h;obtain⟨p,ys,rfl,hq,q⟩:=h;obtain⟨u,rfl,rx⟩:=vals1 r;cases rx;have hn:=G9;rcases hq with hq|hq
 ·obtain⟨its,r',pl,hz⟩:=I.list hq;have hlen:=r'.length;exact Calls.call_len_list pl.isList (by simp only[AZ] <;> omega) ⟨.int ys.length,H,I.tok _,⟨s.toks+1,by rw[AZ,hlen]⟩,q⟩
 obtain⟨its,r',pl,hz⟩:=I.tuple hq;have hlen:=r'.length;exact len_tuple pl (by simp only[AZ] <;> omega) ⟨.int ys.length,H,I.tok _,⟨s.toks+1,by rw[AZ,hlen]⟩,q⟩
theorem oF:dR X (.type "list") (λxs H Q=>∃p ys,xs=[.ref p]/\(SqL X.K H p ys\/SqT X.K H p ys)/\∀l,H l=IF->Q (.ref l) (upd H l (.lst ys))):=by
 intro pins s σ H xs us Q I r h;obtain⟨p,ys,rfl,hq,q⟩:=h;obtain⟨u,rfl,rx⟩:=vals1 r;cases rx;have fin:∀(its:List Ap),Vals ys its->ys.length<=AN->∀(h':Heap)(c':Nat),(∀b o',s.heap.get? b=ID o'->h'.get? b=ID o') ->
   h'.get? s.heap.objs.size=ID { cls:=.type "list",dict:=IF,data:=.seq its.toArray c',slots:=#[] }->EP X pins σ Q (.ref s.heap.objs.size) { s with heap:=h' }:=λits r' hz h' c' kp e=>
  ⟨.ref s.heap.objs.size,_,I.laid (t':=s.toks) kp (AV _) (show cu X.prog X.w _ h' _ (.lst ys) from⟨hz,its,c',r',e⟩),rfl,q _ (I.hok.fresh (AV _))⟩
 rcases hq with hq|hq
 ·obtain⟨its,r',pl,hz⟩:=I.list hq;have hlen:=r'.length;obtain⟨o,ho,hc,n,hd⟩:=pl.isList;exact call_list_seq p (.inl Z) ho hc hd (λh' c' kp e=>fin its r' hz h' c' kp e) (by simp only[AZ] <;> omega)
 obtain⟨its,r',pl,hz⟩:=I.tuple hq;have hlen:=r'.length;obtain⟨o,ho,hc,n,hd⟩:=pl;exact call_list_seq p (.inr Z) ho hc hd (λh' c' kp e=>fin its r' hz h' c' kp e) (by simp only[AZ] <;> omega)
theorem tM:dR X (.type "tuple") (λxs H Q=>∃p ys,xs=[.ref p]/\((SqL X.K H p ys/\∀l,H l=IF->Q (.ref l) (upd H l (.tup ys)))\/(SqT X.K H p ys/\Q (.ref p) H))):=by
 intro pins s σ H xs us Q I r h;obtain⟨p,ys,rfl,h⟩:=h;obtain⟨u,rfl,rx⟩:=vals1 r;cases rx;rcases h with⟨hq,q⟩|⟨hq,q⟩
 ·obtain⟨its,r',pl,hz⟩:=I.list hq;have hlen:=r'.length;refine call_tuple_list pl.isList (λh' kp=>?_) (by simp only[AZ] <;> omega)
  have I1:Inv X pins σ H { s with heap:=h' }:=I.kept (t':=s.toks) kp;have I2:Inv X pins σ (upd H h'.objs.size (.tup ys)) { s with heap:=h'.push { cls:=.type "tuple",data:=.seq its.toArray } }:=
   I1.laid (t':=s.toks) (λb o e=>AB _ e) (AV _) (show cu X.prog X.w _ _ _ (.tup ys) from⟨hz,its,r',IsTup.new _ _⟩)
  exact⟨.ref h'.objs.size,_,I2,rfl,q _ (I1.hok.fresh (AV _))⟩
 obtain⟨its,r',pl,hz⟩:=I.tuple hq;exact call_tuple_same pl ⟨.ref p,H,I,rfl,q⟩
def tyV(K:AF)(T:String)(x:V)(H:Hp):Prop:=match x with
 | .str _=>T = "str"
 | .int _=>T = "int"
 | .ref p=>(T = "list" /\ ∃xs,SqL K H p xs)\/(T = "tuple" /\ ∃o,K.lookup p=ID o/\o.cls=.type "tuple" /\ o.dict=IF) \/
   (T = "dict" /\ ((∃kvs,H p=ID (.dK kvs))\/∃kvs,H p=ID (.dT kvs)))\/(T = "set" /\ ∃S n,H p=ID (.set S n))
 | _=>False
theorem wk{pins:List (IN×Obj)}{σ:St}{H:Hp}{s:AA}{T:String}{x:V}{v:Ap}(I:Inv X pins σ H s)(r:RelV x v)(ty:tyV X.K T x H) :
  s.TypeIs v T/\∀a,v=.ref a->∃ob,s.heap.get? a=ID ob/\ob.dict=IF:=by
 cases x with
 | str z=>
  obtain⟨t,rfl⟩:=r;cases (show T = "str" from ty);exact⟨typeIs_str s z t,λ_ e=>nomatch e⟩
 | int i=>
  obtain⟨t,rfl⟩:=r;cases (show T = "int" from ty);exact⟨typeIs_int s i t,λ_ e=>nomatch e⟩
 | ref p=>
  cases r;rcases ty with⟨rfl,xs,hq⟩|⟨rfl,o,hk,hc,hd⟩|⟨rfl,hk⟩|⟨rfl,S,n,hk⟩
  ·obtain⟨its,_,pl,_⟩:=I.list hq;refine⟨pl.isList.typeIs,λa e=>?_⟩;cases e;obtain⟨o,n,e,c,hd,_⟩:=pl;exact⟨o,e,hd⟩
  ·refine⟨⟨o,I.kIn p o hk,hc⟩,λa e=>?_⟩;cases e;exact⟨o,I.kIn _ o hk,hd⟩
  ·have z:∃o,s.heap.get? p=ID o/\o.ExactDict:=by
    rcases hk with⟨kvs,hk⟩|⟨kvs,hk⟩
    ·obtain⟨_,_,_,_,o,_,_,e,ex,_⟩:=I.hok p _ hk;exact⟨o,e,ex⟩
    obtain⟨_,_,_,_,o,_,_,e,ex,_⟩:=I.hok p _ hk;exact⟨o,e,ex⟩
   obtain⟨o,e,ex⟩:=z;refine⟨⟨o,e,ex.1⟩,λa e2=>?_⟩;cases e2;exact⟨o,e,ex.2.1⟩
  obtain⟨o,_,_,_,e,ex,_⟩:=I.hok p _ hk;refine⟨⟨o,e,ex.1⟩,λa e2=>?_⟩;cases e2;exact⟨o,e,ex.2.1⟩
 | _=>exact FM ty
variable {o e:Expr}{es:List Expr}{to:TE}{t:TA}{name:Str}{apos cpos:Pos}{T id:String}{r:V->List V->Hp->VK->Prop}
end
def MtM(X:Cx)(id:String)(r:V->List V->Hp->VK->Prop):Prop:=
 ∀(pins:List (IN×Obj)) (s:AA) (σ:St) (H:Hp) (x:V) (xs:List V) (v:Ap) (us:List Ap) (Q:VK),Inv X pins σ H s->RelV x v->Vals xs us->r x xs H Q ->
  AH (AM X.prog X.w) X.A (call (.builtin id) (v::us)) (EP X pins σ Q) X.xe s
theorem Vals.one:∀{x:V}{us:List Ap},Vals [x] us->∃u,us=[u]/\RelV x u:=λh=>by
 cases h with
 | cons r h=>
  cases h;exact⟨_,rfl,r⟩
theorem Vals.eraseIdx:∀{xs:List V}{us:List Ap}(i:Nat),Vals xs us->Vals (xs.eraseIdx i) (us.eraseIdx i)
 | _,_,_,.nil=>.nil
 | _,_,0,.cons _ t=>t
 | _,_,i+1,.cons r t=>.cons r (Vals.eraseIdx i t)
theorem Vals.rep{xs:List V}{us:List Ap}(h:Vals xs us):∀k:Nat,Vals (BF k xs).flatten (BF k us).flatten
 | 0=>.nil
 | k+1=>by
  rw[GI,GI,flatten_cons,flatten_cons];exact Vals.append h (Vals.rep h k)
theorem foldl_rep(its:List Ap):∀(k:Nat)(acc:List Ap),
  List.foldl (λx1 x2=>x1++x2) acc.toArray (BF k its.toArray)=(acc++(BF k its).flatten).toArray
 | 0,acc=>by simp
 | k+1,acc=>by
  have e:acc.toArray++its.toArray=(acc++its).toArray:=by simp
  have e2:(acc++its)++(BF k its).flatten=acc++(BF (k+1) its).flatten:=by
   rw[GI,flatten_cons,F1]
  rw[<- e2,<- foldl_rep its k (acc++its),<- e,GI,List.foldl_cons]
section
variable {X:Cx}{pins:List (IN×Obj)}{σ:St}{H:Hp}{s:AA}{l b:IN}{xs ys zs:List V}
theorem Inv.acf{its its':List Ap}{n:Nat}{f:Array Ap->Array Ap}{t':Nat}(I:Inv X pins σ H s)(hH:H l=ID (.lst xs))
  (e:s.heap.get? l=ID { cls:=.type "list",data:=.seq its.toArray n })(hf:f its.toArray=its'.toArray)(hv:Vals ys its')(hz:ys.length<=AN) :
  Inv X pins σ (upd H l (.lst ys)) { s with heap:=s.heap.update l (BO f),toks:=t' }:=by
 have q:=F2 e f;rw[hf] at q;refine I.write (x:=l) (e:=l) (by rw[hH];exact trivial) (.inl Z) (λb' u hb hu=>(BQ s.heap (BO f) (BS hb)).trans hu) ⟨_,q⟩ ?_;exact⟨hz,its',_,hv,q⟩
theorem Inv.adC{its:List Ap}{t':Nat}(I:Inv X pins σ H s)(hv:Vals ys its)(hz:ys.length<=AN) :
  Inv X pins σ (upd H s.heap.objs.size (.lst ys)) { s with heap:=s.heap.push { cls:=.type "list",data:=.seq its.toArray },toks:=t' }:=
 I.laid (λ_ _ q=>AB _ q) (AV _) ⟨hz,its,0,hv,AO _ rfl⟩
theorem Inv.fresh(I:Inv X pins σ H s):H s.heap.objs.size=IF:=I.hok.fresh (AV _)
theorem Inv.Ng(I:Inv X pins σ H s)(hH:H l=ID (.lst xs)):xs.length<=AN/\∃(its:List Ap)(n:Nat),Vals xs its/\xs.length=its.length/\s.heap.get? l=ID { cls:=.type "list",data:=.seq its.toArray n }:=by
 obtain⟨z,its,n,r,e⟩:=I.hok l _ hH;exact⟨z,its,n,r,r.length,e⟩
theorem Jx{n:Nat}(h:n<=AN):AR.List.listTooLong n=false:=by
 unfold AR.List.listTooLong;exact decide_eq_false ω
end
section
variable {X:Cx}
def Y6:V->List V->Hp->VK->Prop:=λx vs H Q=>∃l xs y,x=.ref l/\vs=[y]/\H l=ID (.lst xs)/\xs.length<AN/\Q .non (upd H l (.lst (xs++[y])))
theorem R0:MtM X "list.append" Y6:=by
 intro pins s σ H x vs v us Q I rx rv h;obtain⟨l,xs,y,rfl,rfl,hH,hz,q⟩:=h;cases rx;obtain⟨u,rfl,ru⟩:=rv.one;obtain⟨z,its,n,r,hl,e⟩:=I.Ng hH;refine EK Fh ⟨_,e,rfl⟩ E4 (EV _ _) (FI l its.toArray n u (by rw[AZ];omega)) ⟨e,?_⟩;refine⟨.non,_,I.acf (its':=its++[u]) hH e ζ (r.append (.cons ru .nil)) ?_,rfl,q⟩;rw[A0,B4];omega
def YW:V->List V->Hp->VK->Prop:=λx vs H Q=>∃l b xs zs,x=.ref l/\vs=[.ref b]/\H l=ID (.lst xs)/\H b=ID (.lst zs)/\xs.length+zs.length<=AN/\Q .non (upd H l (.lst (xs++zs)))
theorem RZ:MtM X "list.extend" YW:=by
 intro pins s σ H x vs v us Q I rx rv h;obtain⟨l,b,xs,zs,rfl,rfl,hH,hB,hz,q⟩:=h;cases rx;obtain⟨u,rfl,ru⟩:=rv.one;cases ru;obtain⟨z,its,n,r,hl,e⟩:=I.Ng hH;obtain⟨z2,its2,n2,r2,hl2,e2⟩:=I.Ng hB;have hsz:its.toArray.size+its2.toArray.size<=AN:=by rw[AZ,AZ];omega
 have hlong:¬(!its.toArray.isEmpty&&AR.List.listTooLong (its.toArray.size+its2.toArray.size))=true:=by
  rw[Jx hsz,Bool.and_false];exact AX
 refine EK F.slot_list_extend ⟨_,e,rfl⟩ F.entry_list_extend (F.args_list_extend_2 _ _)
  (AutoSeq1.list_extend_list_list_0 l its.toArray n b its2.toArray n2 hlong (by rw[AZ];omega) ω) ⟨e,e2,?_⟩
 refine⟨.non,_,I.acf (its':=its++its2) hH e ζ (r.append r2) ?_,rfl,q⟩;rw[A0];omega
def ad0:R2:=λx y H Q=>∃l b xs zs,x=.ref l/\y=.ref b/\H l=ID (.lst xs)/\H b=ID (.lst zs)/\xs.length+zs.length<=AN/\∀p,H p=IF->Q (.ref p) (upd H p (.lst (xs++zs)))
theorem ab3:OpR X (ET .Add) ad0:=by
 intro pins s σ H x y v u Q I rx ry h;obtain⟨l,b,xs,zs,rfl,rfl,hH,hB,hz,q⟩:=h;cases rx;cases ry;obtain⟨z,its,n,r,hl,e⟩:=I.Ng hH;obtain⟨z2,its2,n2,r2,hl2,e2⟩:=I.Ng hB;refine PySem.P.add_list e e2 ?_ (by rw[AZ,AZ];omega);have ea:its.toArray++its2.toArray=(its++its2).toArray:=by simp
 rw[ea];exact⟨.ref _,_,I.adC (t':=s.toks) (r.append r2) (by rw[A0];omega),rfl,q _ I.fresh⟩
def adW:R2:=λx y H Q=>∃l k xs,x=.ref l/\y=.int k/\H l=ID (.lst xs)/\-(2^63)<=k/\k<2^63/\xs.length*k.toNat<=AN /\
 ∀p,H p=IF->Q (.ref p) (upd H p (.lst (BF k.toNat xs).flatten))
theorem len_rep{α:Type}(xs:List α)(k:Nat):(BF k xs).flatten.length=k*xs.length:=by
 induction k with
 | zero=>simp
 | succ k ih=>rw[GI,flatten_cons,A0,ih,Nat.succ_mul,Nat.add_comm]
theorem ab0:OpR X (ET .Mult) adW:=by
 intro pins s σ H x y v u Q I rx ry h;obtain⟨l,k,xs,rfl,rfl,hH,h1,h2,hz,q⟩:=h;cases rx;obtain⟨t,rfl⟩:=ry;obtain⟨z,its,n,r,hl,e⟩:=I.Ng hH;have hlen:its.toArray.size*k.toNat<=AN:=by rw[AZ,<- hl];exact hz
 have hcap:¬its.toArray.size*k.toNat>(2^63-1)/8:=by
  have:(AN:Nat)<=(2^63-1)/8:=by decide
  omega
 have hfit:¬(!Builtin.List.listFitsIndex k)=true:=by
  rw[fitsIndex_both h1 h2];exact AX
 have hlong:¬AR.List.listTooLong (its.toArray.size*k.toNat)=true:=by
  rw[Jx hlen];exact AX
 have hnew:List.foldl (λx1 x2=>x1++x2) #[] (BF (if its.toArray.isEmpty=true then 0 else k.toNat) its.toArray)=(BF k.toNat its).flatten.toArray:=by
  have f0:∀m:Nat,List.foldl (λx1 x2=>x1++x2) #[] (BF m its.toArray)=(BF m its).flatten.toArray:=λm=>by
   have:=foldl_rep its m [];rw[nil_append] at this;exact this
  rw[f0];cases its with
  | nil=>simp
  | cons a r'=>rw[if_neg ζ]
 refine wpAny_binaryOp_repeat_ref (T := "list") (U := "int") δ ⟨_,e,rfl⟩ (λs'=>typeIs_int s' k t) noFill_list_mul F.fills_int_mul F.slot_int_rmul repeat_list F.slot_int_index.lookup
  (EK F.slot_int_rmul (typeIs_int s k t) F.entry_int_rmul (F.args_int_rmul_2 _ _) (int___rmul___int_list k t l its.toArray n)
   ⟨e,rfl,⟨_,e,rfl⟩,EK F.slot_list_mul ⟨_,e,rfl⟩ F.entry_list_mul (F.args_list_mul_2 _ _) (AutoListH.list___mul___list_int_3 l its.toArray n k t hfit hcap hlong) ⟨e,?_⟩⟩)
 rw[hnew];exact⟨.ref _,_,I.adC (t':=s.toks) (r.rep k.toNat) (by rw[len_rep,Nat.mul_comm];exact hz),rfl,q _ I.fresh⟩
end
end L2
namespace Att
open PySem PySem.W PySem.Calls PyProof.Rows
theorem yM{P:Params}{h:Heap}:∀(ns:List Int)(vs:List Ap),WellAll P h vs (ns.map WData.int)->E5 vs ns:=by
 intro ns
 induction ns with
 | nil=>
  intro vs w;rw[map_nil] at w;cases w;exact .nil
 | cons n ns ih=>
  intro vs w;rw[DJ] at w;cases w with
  | cons a b=>
   cases a;exact .cons _ _ (ih _ b)
theorem Rg{l:OpenLaw}{n:Nat}(hn:l.most=ID n){P:Params}{h:Heap}{args:List WData}{vals:List Ap}
  (hpre:l.row.toRowW.claim.pre args=true)(hwl:WellAll P h vals args) :
  ∃a vs ns,vals=[DO a]/\args=[WData.list (ns.map WData.int)]/\h.get? a=ID { cls:=.type "list",data:=.seq vs.toArray }/\E5 vs ns/\ns.length<=n:=by
 have hsh:WShape.hasAll [] args [.list .int]=true:=(pre_splitW hpre).1;have hc:l.pre.holds [] { args:=args }=true:=(pre_splitW hpre).2;obtain⟨d,r,rfl,h1,h2⟩:=hasAllW_cons hsh;obtain rfl:=hasAllW_nil h2;obtain⟨xs,rfl,h3⟩:=hasW_list h1;obtain⟨ns,rfl⟩:=items_int h3;have hlen:ns.length<=n:=by
  unfold OpenLaw.pre at hc;have h4:(WTm.not (.lt (.lit (.int (n:Int))) (.len (.arg 0)))).holds [] { args:=[.list (ns.map .int)] }=true:=by
   have h4:=(holds_andW hc).1;rw[hn] at h4;exact h4
  have h5:=condW_of h4 (w_not (w_lt w_lit (w_len_list (w_arg Z))));rw[AC] at h5;refine Nat.le_of_not_lt λq=>?_;have q':(n:Int)<((ns.length:Nat):Int):=ω
  first
   | (rw[decide_eq_true q'] at h5;exact absurd h5 δ)
   | (simp at h5;omega)
 cases hwl with
 | cons w1 w2=>
  cases w2;cases w1 with
  | list ho hall=>exact⟨_,_,ns,rfl,rfl,ho,yM ns _ hall,hlen⟩
theorem Rx(l:OpenLaw)(args:List WData):l.row.toRowW.claim.post args (.bool true) args=true:=
 postW_of (r:=l.row.toRowW) (X:=(true == true))
  (show WShape.has [] (.bool true) .bool=true by first|rfl|decide|simp[WShape.has,WShape.arms,WShape.armsAll])
  (show(WTm.eq .res (.lit (.bool true))).value [] { args:=args,res:=ID (.bool true),after:=args }=ID (.bool (true == true)) from w_eq_bool (w_res Z) w_lit) rfl
theorem Kw{l:OpenLaw}{n:Nat}{q:A1}{loose:List Str}{XP:(Str->Option Ap)->Heap->Prop}{YP:BD->Heap->Prop}{d:DefRec}
  (hn:l.most=ID n)(hdf:d.params.defaults=[])
   (call:∀(w:BD)(s₀ s₁:AA)(mg mb:Str->Option Ap)(fa:IN)(o:Obj)(pm cd doc:Ap)(a:IN)(vs:List Ap)(ns:List Int),
   Ground q loose [] XP w s₀ mg mb s₁.heap->YP w s₁.heap ->
   s₁.heap.get? fa=ID o->o.data=.func (docDef d.name d.params d.body d.scope pm cd doc)->s₁.heap.CodeRec cd d.name->mg d.name=ID (.ref fa) ->
   s₁.heap.get? a=ID { cls:=.type "list",data:=.seq vs.toArray }->E5 vs ns->ns.length<=n->s₁.gens=#[] ->
   DF (AM l.prog w) callerA (.call (.ref fa) ⟨[.ref a],[]⟩) (λr s'=>r=.ok (.ret (.bool true))/\OldK s₁.heap s'.heap/\s'.os=s₁.os/\KI s'.gens) s₁) :
  WalkO q loose XP YP l.row.toRowW d [] (λf vs=>PySem.call f vs):=by
 intro w s₀ s₁ mg mb G Y fa o pm cd doc dV kV ho hd hcd hD hmg hg args vals as hpre hlay hrd hwl hlo;obtain rfl:dV=.none:=Dflts.none hD hdf;obtain rfl:kV=.none:=Dflts.noKw hD;obtain⟨a,vs,ns,rfl,rfl,hobj,hints,hlen⟩:=Rg hn hpre hwl;refine enter_call (IE (call w s₀ s₁ mg mb fa o pm cd doc a vs ns G Y ho (fd_plain hd) hcd hmg hobj hints hlen hg) λr s' hq=>?_);obtain⟨rfl,h2,h3,h4⟩:=hq;exact⟨.inl ⟨.bool true,.bool true,[],rfl,λ_=>rfl,.bool true,Rx l _,λ_=>⟨GL,λ_ hm=>(nomatch hm)⟩⟩,h2,h3,h4⟩
end Att
namespace L2
open PySem PySem.Spec PyProof.Rows
theorem Ds:∀{vs:List Ap}{ns:List Int},E5 vs ns->Vals (ns.map At) vs
 | _,_,.nil=>.nil
 | _,_,.cons n t h=>.cons ⟨t,rfl⟩ (Ds h)
def Only(H:Hp):Prop:=∀b,H b=IF\/∃o xs,H b=ID (.frz o (.lst xs))
theorem W4{P:A1}{w:BD}{K:AF}{mg mb:Str->Option Ap}{CX:CXT}{k:Nat}{fa a:IN}{fd:D3}{x:Str}{sp:Sp}{s₁:AA}{vs:List Ap}{ns:List Int}
  (KX:K.In s₁.heap)(hns:s₁.heap.Ns Co mg)(hb:s₁.heap.Ns builtinsNs mb)(hbb:∀x:Str,x ≠ "__name__" -> mb x=D5 x)(hlim:s₁.heap.NoLimit)(hg:s₁.gens=#[])
  (ha:s₁.heap.get? a=ID { cls:=.type "list",data:=.seq vs.toArray })(hi:E5 vs ns)(hl:ns.length<=AN)(hr:jn k callerA)
  (F:∀base:Heap,K.In base->base.Ns Co mg->dw P w K mg base CX k fa fd [x] sp)(hbind:∀(s:AA)(u:Ap),BindsTo s fd ⟨[u],[]⟩ [(x,u)])
  (hsp:∀H:Hp,Only H->SqL K H a (ns.map At)->sp [.ref a] H (λv _=>v=.bl true) λ_ _ _=>False)
  (hCX:∀H e s',CX [] H s₁ (λ_ _ _=>False) e s'->False) :
  DF (AM P w) callerA (.call (.ref fa) ⟨[.ref a],[]⟩) (λr s'=>r=.ok (.ret (.bool true))/\OldK s₁.heap s'.heap/\s'.os=s₁.os/\KI s'.gens) s₁:=by
 have rv:=Ds hi;have lenV:=hi.length
 -- from an abstract heap in which nothing but the script may be tracked
 have core:∀H:Hp,Only H->SqL K H a (ns.map At)->HOk P w H s₁.heap->(∀b,H b≠IF->b=a)->(H a≠IF->K.lookup a=IF) ->
   DF (AM P w) callerA (.call (.ref fa) ⟨[.ref a],[]⟩) (λr s'=>r=.ok (.ret (.bool true))/\OldK s₁.heap s'.heap/\s'.os=s₁.os/\KI s'.gens) s₁:=by
  intro H hO hS hok hA hK;have base_of:∀{b:IN}{o:Obj},s₁.heap.get? b=ID o->H b=IF->(Hj s₁.heap H).get? b=ID o:=λe n=>Xk e n;have noA:∀{b:IN}{o:Obj}{es:Array DictEntry}{ep:Nat},s₁.heap.get? b=ID o->o.data=.dict es ep->H b=IF:=λ{b o es ep} e d=>by
   cases q:H b with
   | none=>rfl
   | some u=>
    have e':b=a:=hA b (by rw[q];simp);subst e';rw[ha] at e;cases e;have d':Iq vs.toArray _=Data.dict es ep:=d;cases d'
  have nsK:∀{b:IN}{m:Str->Option Ap},s₁.heap.Ns b m->(Hj s₁.heap H).Ns b m:=λ{b m} ⟨o,es,ep,e,d,r⟩=>⟨o,es,ep,base_of e (noA e d),d,r⟩;have hKb:K.In (Hj s₁.heap H):=λb o e=>base_of (KX b o e) (by
   cases q:H b with
   | none=>rfl
   | some u=>
    have e':b=a:=hA b (by rw[q];simp);subst e';rw[hK (by rw[q];simp)] at e;cases e)
  have hM:Mod K mg (Hj s₁.heap H):=⟨hKb,nsK hns,⟨mb,nsK hb,hbb⟩,let ⟨mc,h1,h2⟩:=hlim;⟨mc,nsK h1,h2⟩⟩;have e0:aaR P w K mg (Hj s₁.heap H) callerA [] s₁ H:=⟨rfl,hM,λb o e=>aad e,le_of_eq (SM _ _),trivial,λb hb=>absurd (show b∈([]:List IN) from hb) ζ,hok,.of_eq hg⟩;refine IE ((F _ hKb (nsK hns)).run callerA [] s₁ H ⟨[.ref a],[]⟩ [.ref a] [.ref a] _ _ hr e0 (hbind s₁ (.ref a)) (.cons Z .nil) (hsp H hO hS)) λr s' h=>?_;cases r with
  | error e=>exact(hCX H e s' h).elim
  | ok fl=>
   cases fl with
   | next=>exact FM h
   | brk=>exact FM h
   | cont=>exact FM h
   | ret u=>
    obtain⟨v,H',os,bare,un,hok',r',q⟩:=h;have q':v=.bl true:=q;subst q';obtain rfl:u=GT true:=r';refine⟨rfl,OldK.of_keep λb o e=>?_,os,bare⟩;cases q:H b with
    | none=>exact un.keep b o e q (by intro z;exact absurd (show b∈([]:List IN) from z) ζ) ζ
    | some u=>
     rcases hO b with z|⟨ob,xs,z⟩
     ·rw[q] at z;cases z
     have z2:=un.frzs b ob _ z;obtain⟨e1,_⟩:=hok b _ z;obtain⟨e2,_⟩:=hok' b _ z2;rw[e] at e1;cases e1;exact e2
 cases hk:K.lookup a with
 | some o=>
  -- the script is one of the module's own objects
  have e:=KX a o hk;rw[ha] at e;cases e;refine core (λ_=>IF) (λ_=>.inl Z) (.inr ⟨_,vs.toArray,_,hk,rfl,rfl,rfl,by rw[AZ,lenV];exact hl,by simpa using rv⟩) (λb u z=>by have z':(IF:Option HO)=ID u:=z;cases z') (λb z=>absurd Z z) λz=>absurd Z z
 | none=>
  refine core (λb=>if b=a then ID (.frz { cls:=.type "list",data:=.seq vs.toArray } (.lst (ns.map At))) else IF) (λb=>?_) (.inl (.inr ⟨{ cls:=.type "list",data:=.seq vs.toArray },if_pos rfl⟩)) (λb u z=>?_) (λb z=>?_) λ_=>hk
  ·by_cases hb:b=a
   ·exact .inr ⟨_,_,if_pos hb⟩
   exact .inl (if_neg hb)
  ·by_cases hb:b=a
   ·have z':=(if_pos hb).symm.trans z;cases z';subst hb;exact⟨ha,by rw[AC];exact hl,vs,_,rv,ha⟩
   have z':=(if_neg hb).symm.trans z;cases z'
  by_cases hb:b=a
  ·exact hb
  exact absurd (if_neg hb) z
theorem Yo{l:PySem.W.OpenLaw}{n k:Nat}{q:A1}{loose:List Str}{XP:(Str->Option Ap)->Heap->Prop}{YP:BD->Heap->Prop}{d:DefRec}{K:Params->AF}{CX:BD->CXT}{sp:BD->Sp}{x:Str}
  (hn:l.most=ID n)(hn2:n<=AN)(hdf:d.params.defaults=[])(hr:jn k callerA)
  (hY:∀(w:BD)(h:Heap),YP w h->(K w.params).In h)
   (F:∀(w:BD)(mg:Str->Option Ap)(fa:IN)(h:Heap),(K w.params).In h->h.Ns Co mg->mg d.name=ID (.ref fa) ->
   ∃fd:D3,(∀(s:AA)(u:Ap),BindsTo s fd ⟨[u],[]⟩ [(x,u)]) /\
    ∀base:Heap,(K w.params).In base->base.Ns Co mg->dw l.prog w (K w.params) mg base (CX w) k fa fd [x] (sp w))
  (hsp:∀(w:BD)(H:Hp)(a:IN)(ns:List Int),ns.length<=n->Only H->SqL (K w.params) H a (ns.map At)->sp w [.ref a] H (λv _=>v=.bl true) λ_ _ _=>False)
  (hCX:∀(w:BD)(H:Hp)(s:AA)(e:Ap)(s':AA),CX w [] H s (λ_ _ _=>False) e s'->False) :
  PySem.W.WalkO q loose XP YP l.row.toRowW d [] (λf vs=>PySem.call f vs):=by
 refine Att.Kw hn hdf λw s₀ s₁ mg mb fa o pm cd doc a vs ns G Y ho hd hcd hmg hobj hints hlen hg=>?_;have KX:=hY w _ Y;obtain⟨fd,hb,hF⟩:=F w mg fa _ KX G.T.g hmg;exact W4 KX G.T.g G.T.b G.T.builtins G.T.nolimit hg hobj hints (CM hlen hn2) hr hF hb (λH hO hS=>hsp w H a ns hlen hO hS) λH e s'=>hCX w H s₁ e s'
def iD(s:Stmt):Arguments:=match s with
 | .FunctionDef _ a _ _ _ _ _ _ _ _=>a
 | _=>{ posonlyargs:=[],args:=[],vararg:=IF,kwonlyargs:=[],kw_defaults:=[],kwarg:=IF,defaults:=[] }
def fG(s:Stmt):List Stmt:=match s with
 | .FunctionDef _ _ b _ _ _ _ _ _ _=>b
 | _=>[]
def aj(s:Stmt):D0:=match s with
 | .FunctionDef _ _ _ _ _ _ sc _ _ _=>sc
 | _=>{ kind:=.function,names:=[],isGenerator:=false,isCoroutine:=false }
abbrev CX0:CXT:=λ_ _ _ _ _ _=>False
abbrev E0:XK:=λ_ _ _=>False
theorem adt{X:Cx}:Oi CX0 X E0:=λ_ _ _ _ _ _ _ h=>h.elim
structure Fun(K:AF)(x qual:Str)(st:Stmt)(f:IN)(fd:D3):Prop where
 ex:∃(oc:Ap)(od:Option IN)(kV doc pm:Ap)(an:Option IN)(cdv ct:Ap)(osl:Array (Option Ap)),
  fd=fnOf x qual (iD st) (fG st) (aj st) .none kV doc pm an cdv ct/\K.lookup f=ID ⟨oc,od,.func fd,osl⟩/\codeIn K cdv qual=true
 kp:keepIn K (.ref f)=true
section
variable {P:A1}{w:BD}{K:AF}{mg:Str->Option Ap}{base:Heap}
theorem Fun.ok{x qual:Str}{st:Stmt}{f:IN}{fd:D3}{N ps:List Str}{k:Nat}{sp:Sp}(F:Fun K x qual st f fd)(S:bA N ps (aj st))(len:∀vs H Q E,sp vs H Q E->vs.length=ps.length)
   (hbody:∀(cdv:Ap)(A:BA)(outer:List Env)(s:AA)(H:Hp)(vs:List V)(Q:VK)(E:XK),jn k (A.deeper (KM qual (aj st) s.heap.objs.size f cdv))->sp vs H Q E ->
   ∃t,PSs (Kh CX0 P w K mg base N qual (aj st) f cdv A outer s H E).nox (fG st) t/\t { nx:=λ_ H'=>Q .non H',rt:=Q } (start N vs) H):dw P w K mg base CX0 (k+1) f fd ps sp:=by
 obtain⟨oc,od,kV,doc,pm,an,cdv,ct,osl,rfl,lk,hcd⟩:=F.ex;refine adI lk hcd S len λA outer s H vs Q E hr hsp=>?_;obtain⟨t,h,q⟩:=hbody cdv A outer s H vs Q E hr hsp;exact⟨t,h.nox,q⟩
theorem Fun.binds{x qual:Str}{st:Stmt}{f:IN}{fd:D3}{ps:List Str}(F:Fun K x qual st f fd)
  (h:∀(kV doc pm:Ap)(an:Option IN)(cdv ct:Ap)(us:List Ap),us.length=ps.length->bindArgs (fnOf x qual (iD st) (fG st) (aj st) .none kV doc pm an cdv ct) ⟨us,[]⟩=pure (ps.zip us)):Binds K fd ps []:=by
 obtain⟨oc,od,kV,doc,pm,an,cdv,ct,osl,rfl,lk,hcd⟩:=F.ex;exact .all (h kV doc pm an cdv ct)
theorem Xm{x qual:Str}{st:Stmt}{f:IN}{oc:Ap}{od an:Option IN}{osl:Array (Option Ap)}{kV doc pm cdv ct:Ap}(l:K.lookup f=ID ⟨oc,od,.func (fnOf x qual (iD st) (fG st) (aj st) .none kV doc pm an cdv ct),osl⟩)
  (c:codeIn K cdv qual=true)(k:keepIn K (.ref f)=true):Fun K x qual st f (fnOf x qual (iD st) (fG st) (aj st) .none kV doc pm an cdv ct):=⟨⟨oc,od,kV,doc,pm,an,cdv,ct,osl,rfl,l,c⟩,k⟩
end
def Same(H H':Hp):Prop:=∀b o,H b=ID o->H' b=ID o
theorem Same.refl(H:Hp):Same H H:=λ_ _ h=>h
theorem Same.trans{H H1 H2:Hp}(a:Same H H1)(b:Same H1 H2):Same H H2:=λc o h=>b c o (a c o h)
theorem Same.seq{K:AF}{H H':Hp}{a:IN}{xs:List V}(e:Same H H')(h:SqL K H a xs):SqL K H' a xs:=by
 rcases h with(h|⟨o,h⟩)|h
 ·exact .inl (.inl (e _ _ h))
 ·exact .inl (.inr ⟨o,e _ _ h⟩)
 exact .inr h
end L2
set_option maxHeartbeats 4000000
namespace L2
open PySem PySem.Spec PyProof.Rows
theorem BW{env:Env}:∀(names:List (Str×B2)) (acc:List (Str×IN)),
  (∀y∈names,y.2=.free->∃c,env.cells.lookup y.1=ID c)->(∀x c,acc.lookup x=ID c->env.cells.lookup x=ID c) ->
  ∃cl,(forIn names acc λ(y:Str×B2)(r:List (Str×IN))=>(match y with
   | (name,kind)=>if (kind == .free)=true then (do let a <- cellOf env name;pure (C6 ((name,a)::r))) else pure (C6 r):Sem (ForInStep (List (Str×IN)))))=pure cl /\
   (∀x c,cl.lookup x=ID c->env.cells.lookup x=ID c)/\(∀y∈names,y.2=.free->∃c,cl.lookup y.1=ID c)/\(∀x c,acc.lookup x=ID c->∃c',cl.lookup x=ID c')
 | [],acc,_,ha=>⟨acc,rfl,ha,λ_ h=>(nomatch h),λx c h=>⟨c,h⟩⟩
 | (n,k)::r,acc,hf,ha=>by
  have hf':∀y∈r,y.2=.free->∃c,env.cells.lookup y.1=ID c:=λy hy=>hf y (Bi _ hy);by_cases hk:k=.free
  ·subst hk;obtain⟨c0,e0⟩:=hf (n,.free) A5 rfl;have hce:cellOf env n=pure c0:=by unfold cellOf;rw[e0]
   have ha2:∀x c,((n,c0)::acc).lookup x=ID c->env.cells.lookup x=ID c:=λx c h=>by
    rw[D1] at h;cases hx:x == n with
    | true=>
     rw[hx] at h;have e1:x=n:=by simpa using hx
     rw[e1,e0];exact h
    | false=>
     rw[hx] at h;exact ha x c h
   obtain⟨cl,e,h1,h2,h3⟩:=BW r ((n,c0)::acc) hf' ha2;refine⟨cl,?_,h1,λy hy hz=>?_,λx c h=>?_⟩
   ·rw[Fk];simp only[beq_self_eq_true,if_true,hce];exact e
   ·rcases A3.mp hy with q|q
    ·subst q;exact h3 n c0 ζ
    exact h2 y q hz
   cases hx:x == n with
   | true=>exact h3 x c0 (by rw[D1,hx])
   | false=>exact h3 x c (by rw[D1,hx];exact h)
  have hb:(k == B2.free)=false:=by simpa using hk
  obtain⟨cl,e,h1,h2,h3⟩:=BW r acc hf' ha;refine⟨cl,?_,h1,λy hy hz=>?_,h3⟩
  ·rw[Fk];simp only[hb,L8,if_false];exact e
  rcases A3.mp hy with q|q
  ·subst q;exact absurd hz hk
  exact h2 y q hz
theorem lO{env:Env}{scope:D0}(hf:∀y∈scope.names,y.2=.free->∃c,env.cells.lookup y.1=ID c) :
  ∃cl,closureFor scope env=pure cl/\(∀x c,cl.lookup x=ID c->env.cells.lookup x=ID c)/\(∀y∈scope.names,y.2=.free->∃c,cl.lookup y.1=ID c):=by
 obtain⟨cl,e,h1,h2,_⟩:=BW (env:=env) scope.names [] hf (λx c h=>by simp at h);refine⟨cl,?_,h1,h2⟩;unfold closureFor;show(forIn scope.names [] _ >>= λr=>pure r)=_;rw[show(forIn scope.names ([]:List (Str×IN)) λ(y:Str×B2)(r:List (Str×IN))=>(match y with
   | (name,kind)=>if (kind == .free)=true then (do let a <- cellOf env name;pure (C6 ((name,a)::r))) else pure (C6 r):Sem (ForInStep (List (Str×IN)))))=pure cl from e]
 rfl
section
variable {prog:A1}{w:BD}{A:BA}{R:Result->AA->Prop}{s:AA}
theorem rE{elt tg iter:Expr}{ifs:List Expr}{scope:D0}{pos:Pos}{it acc:Ap}{env:Env}(J:Nat->AA->Prop)
   (turn:∀n s,J n s->AH (AM prog w) A (EF it) (λr s1=>match r with
   | none=>R (.ok .next) s1
   | some v=>AH (AM prog w) A (DD tg it v) (λ_ s1'=>AH (AM prog w) A (C7 tg env v) (λ_ s2=>
     AH (AM prog w) A (forIn ifs true λc r=>if r=true then do let ok <- isTrue c env (eval c env);pure (C6 ok) else pure (C6 r)) (λok s3=>
      if ok=true then AH (AM prog w) A (eval elt env) (λx s4=>
       AH (AM prog w) A (call (.builtin "list.append") [acc,x]) (λ_ s5=>∃m,m<n/\J m s5) (EG (AM prog w) A env λe z=>R (.error e) z) s4) (EG (AM prog w) A env λe z=>R (.error e) z) s3
      else ∃m,m<n/\J m s3) (EG (AM prog w) A env λe z=>R (.error e) z) s2) (EG (AM prog w) A env λe z=>R (.error e) z) s1') (EG (AM prog w) A env λe z=>R (.error e) z) s1) (EG (AM prog w) A env λe z=>R (.error e) z) s)
  (n:Nat) (h:J n s):DF (AM prog w) A (.compLoop (.ListComp elt [⟨tg,iter,ifs,0⟩] scope pos) 0 it acc env) R s:=by
 refine KO Z J (λn z hJ=>?_) n h;show AH _ A ((Kj (.ListComp elt [⟨tg,iter,ifs,0⟩] scope pos) 0 it acc env).onRaise (λy=>do Kk y env;IB y)) _ _ z;refine LA ?_;rw[compTurn_list];refine An (CA (An (A7 (turn n z hJ) (λr s1 h1=>?_) λ_ _ q=>q)));cases r with
 | none=>exact Au h1
 | some v=>
  refine An (A7 h1 (λ_ s1' h1'=>?_) λ_ _ q=>q);refine An (A7 h1' (λ_ s2 h2=>An (A7 h2 (λok s3 h3=>?_) λ_ _ q=>q)) λ_ _ q=>q);cases ok with
  | false=>exact Au ⟨rfl,h3⟩
  | true=>
   exact An (An (A7 h3 (λx s4 h4=>An (A7 h4 (λ_ s5 h5=>Au (Au ⟨rfl,h5⟩)) λ_ _ q=>q)) λ_ _ q=>q))
end
def cZ(mp:List (Option Nat))(σ:St):St:=mp.map λo=>match o with
 | some j=>(σ[j]?).join
 | none=>IF
def aK(X:Cx)(N:List Str)(scope:D0)(cl:List (Str×IN))(C:IN)(s:AA)(H:Hp)(fp:List IN):Cx:=
 { X with N:=N,s₀:=s,H₀:=H,env:=CO scope cl C X.env,outer:=X.stack,stack:=X.stack,ex:=fp,fn:=λ_=>false,pn:=[],xe:=λ_ _=>False }
def tE(NX:List Str)(names:List (Str×B2)):List Str->List (Option Nat)->Bool
 | [],[]=>true
 | x::r,o::q=>(match o with
   | none=>names.lookup x == ID .local
   | some j=>NX[j]? == ID x&&names.lookup x == ID .free)&&tE NX names r q
 | _,_=>false
theorem En{NX:List Str}{names:List (Str×B2)}:∀{N:List Str}{mp:List (Option Nat)}{i j:Nat}{x:Str},tE NX names N mp=true->N[i]?=ID x->mp[i]?=ID (ID j)->NX[j]?=ID x/\names.lookup x=ID .free
 | [],_,i,_,_,_,h,_=>by simp at h
 | _::_,[],_,_,_,h,_,_=>by simp[tE] at h
 | y::r,o::q,0,j,x,h,h1,h2=>by
  simp at h1 h2;subst h1 h2;unfold tE at h;simp only[CH,beq_iff_eq] at h;exact h.1
 | y::r,o::q,i+1,j,x,h,h1,h2=>by
  unfold tE at h;rw[CH] at h;exact En (i:=i) h.2 (by simpa using h1) (by simpa using h2)
theorem Em{NX:List Str}{names:List (Str×B2)}:∀{N:List Str}{mp:List (Option Nat)},tE NX names N mp=true->mp.length=N.length
 | [],[],_=>rfl
 | [],_::_,h=>by simp[tE] at h
 | _::_,[],h=>by simp[tE] at h
 | _::r,_::q,h=>by
  unfold tE at h;rw[CH] at h;simp[Em h.2]
structure lU(NX:List Str)(kX:List (Str×B2))(N:List Str)(mp:List (Option Nat))(scope:D0):Prop where
 kind:scope.kind=.function
 nocell:∀y∈scope.names,y.2≠.cell
 locs:∀y∈scope.names,y.2=.local->scope.names.lookup y.1=ID .local
 fre:∀y∈scope.names,y.2=.free->kX.lookup y.1=ID .cell\/kX.lookup y.1=ID .free
 map:tE NX scope.names N mp=true
def PTs(X:Cx)(cs:List Expr)(t:TT):Prop:=
 ∀(pins:List (IN×Obj)) (s:AA) (σ:St) (H:Hp) (Q:Bool->Hp->Prop),Inv X pins σ H s->t σ H Q ->
  AH (AM X.prog X.w) X.A (forIn cs true λc r=>if r=true then do let ok <- isTrue c X.env (eval c X.env);pure (C6 ok) else pure (C6 r)) (TP X pins σ Q) X.xe s
def Fw:TT:=λ_ H Q=>Q true H
theorem Zj{X:Cx}:PTs X [] Fw:=λ_ _ _ H _ I h=>wpAny_tests_nil ⟨H,I,h⟩
def oK(mp:List (Option Nat))(wi:TI)(g:TG)(tc:TT)(te:TE):TE:=λσ H Q=>wi σ H λJ H1=>
 ∃W:Nat->Nat->List V->St->Hp->Prop,(∃m,W 0 m [] (cZ mp σ) H1)/\∀i m acc τ H2,W i m acc τ H2 ->
  (J.stop i H2/\∀d,H2 d=IF->Q (.ref d) (upd H2 d (.lst acc))) \/
  (J.go i H2/\acc.length<AN/\∃N:List V->St->Hp->Prop,(∀acc' τ' H',N acc' τ' H'->∃m',m'<m/\W (i+1) m' acc' τ' H')/\∀x H3,J.yld i H2 x H3->g x τ H3 λτ1 H4=>tc τ1 H4 λb H5=>
   if b=true then te τ1 H5 λv H6=>N (acc++[v]) τ1 H6 else N acc τ1 H5)
theorem dN{env:Env}:∀{names:List (Str×B2)}{x:Str}{k:B2},(names.map λ(n,k)=>if (k == B2.free&&env.scope.kind == .function&&env.kindOf n == ID .cell) then (n,B2.cell) else (n,k)).lookup x=ID k ->
  names.lookup x=ID k\/(k=.cell/\names.lookup x=ID .free)
 | [],_,_,h=>by simp at h
 | (n,k0)::r,x,k,h=>by
  have ih:=@dN env r x k;rw[DJ] at h;by_cases hc:(k0 == B2.free&&env.scope.kind == .function&&env.kindOf n == ID .cell)=true
  ·simp only[hc,if_true] at h;cases hx:x == n with
   | true=>
    rw[D1,hx] at h;have hk:k0=.free:=by
     rw[CH,CH] at hc;simpa using hc.1.1
    right;refine⟨(Be h).symm,?_⟩;rw[D1,hx,hk]
   | false=>
    rw[D1,hx] at h;rw[D1,hx];exact ih h
  simp only[hc,if_false] at h;cases hx:x == n with
  | true=>
   rw[if_neg ζ,D1,hx] at h;rw[D1,hx];exact .inl h
  | false=>
   rw[if_neg ζ,D1,hx] at h;rw[D1,hx];exact ih h
theorem na0{b D E:Nat}(h:b<E)(hD:E=D):b≠D:=by omega
theorem na1{b D E C:Nat}(h:b<E)(hD:E=D)(hC:C=D+1):b≠C:=by omega
theorem na2{C D:Nat}(hC:C=D+1):D≠C:=by omega
theorem na3{C D E:Nat}(hD:E=D)(hC:C=D+1):E<=C:=by omega
theorem na4{D E:Nat}(hD:E=D):E<=D:=by omega
section
variable {X:Cx}{NX N:List Str}{kX:List (Str×B2)}{mp:List (Option Nat)}{scope:D0}{pins:List (IN×Obj)}{σ:St}{s s':AA}{H:Hp}{fp:List IN}{cl:List (Str×IN)}{C:IN}
theorem uI(hkX:X.env.scope.names=kX)(S:lU NX kX N mp scope)(I:Inv X pins σ H s)(hfp:∀b∈fp,lJ X pins H b)(hold:∀b∈fp,b<s.heap.objs.size)(hC:s.heap.objs.size<=C)
  (hsub:∀x c,cl.lookup x=ID c->X.env.cells.lookup x=ID c)(hhas:∀y∈scope.names,y.2=.free->∃c,cl.lookup y.1=ID c):(aK X N scope cl C s H fp).Ok where
 mod:=I.ok.mod
 kind:=S.kind
 glob:=I.ok.glob
 blt:=I.ok.blt
 above:=hC
 inj:=λx y c h1 h2=>I.ok.inj x y c (hsub x c h1) (hsub y c h2)
 has:=λx h=>by
  have key:scope.names.lookup x=ID .free:=by
   rcases h with h|h
   ·rcases dN (env:=X.env) (names:=scope.names) h with q|⟨_,q⟩
    ·exact absurd Z (S.nocell _ (BH q))
    exact q
   rcases dN (env:=X.env) (names:=scope.names) h with q|⟨q,_⟩
   ·exact q
   cases q
  exact hhas _ (BH key) rfl
 cab:=λx c h=>by cases h
 hd:=I.ok.hd
 frames:=I.ok.frames
 stk:=.inl rfl
 exf:=λb hb=>⟨B1 (BB (hold b hb) hC),λx c e=>(hfp b hb).2.2.2.2.1 x c (hsub x c e)⟩
 bs:=I.bs
 bsz:=CM I.ok.bsz I.sz
 noex:=λb o e hb=>by
  rcases(hfp b hb).2.2.2.1 with q|q
  ·exact I.ok.noex b o e q
  exact absurd (BB (BB (AQ e) I.ok.bsz) q) (ES _)
 exfs:=λb hb hz=>by
  obtain⟨_,h1,h2,_⟩:=hfp b hb;rcases A3.mp (I.jR b hz) with q|q
  ·exact h1 q
  exact h2 q
 wW:=I.stack
 frf:=I.Fz
theorem rF(hNX:X.N=NX)(hkX:X.env.scope.names=kX)(S:lU NX kX N mp scope)(I:Inv X pins σ H s)(hfp:∀b∈fp,lJ X pins H b)(hold:∀b∈fp,b<s.heap.objs.size)(hC:s.heap.objs.size<=C)
  (hsub:∀x c,cl.lookup x=ID c->X.env.cells.lookup x=ID c)(hhas:∀y∈scope.names,y.2=.free->∃c,cl.lookup y.1=ID c)
  (ho:s'.os=s.os)(hg:s'.gens=s.gens)(hn:∃m,s'.heap.Ns C m)(hk:∀b o,s.heap.get? b=ID o->s'.heap.get? b=ID o){pl:List (IN×Obj)}
  (hp:∀p∈pl,s'.heap.get? p.1=ID p.2/\H p.1=IF/\p.1≠C/\p.1∉frs X.stack/\∀v,p.2.data≠.cell v) :
  Inv (aK X N scope cl C s H fp) pl (cZ mp σ) H s' where
 ok:=uI hkX S I hfp hold hC hsub hhas
 os:=ho
 bare:=by rw[hg];exact I.bare
 base:=Un.kept hk
 loc:=by
  obtain⟨m,hm⟩:=hn;refine⟨m,hm,λi x v h1 h2 h3=>?_⟩;have h2':(mp.map λo=>match o with|some j=>(σ[j]?).join|none=>IF)[i]?=ID (ID v):=h2
  rw[AL] at h2';cases e:mp[i]? with
  | none=>rw[e] at h2';cases h2'
  | some o=>
   rw[e] at h2';cases o with
   | none=>cases h2'
   | some j=>
    have h4:(σ[j]?).join=ID v:=by simpa using h2'
    have h5:σ[j]?=ID (ID v):=by
     cases q:σ[j]? with
     | none=>rw[q] at h4;cases h4
     | some z=>rw[q] at h4;rw[show z=ID v from h4]
    obtain⟨g1,g2⟩:=En S.map h1 e;have fk:=S.fre _ (BH g2) rfl;obtain⟨m0,_,hl⟩:=I.loc;have vis:Vis X.env.scope x:=by
     rcases fk with q|q
     ·exact .inr (.inl (by rw[hkX];exact q))
     exact .inr (.inr (by rw[hkX];exact q))
    obtain⟨u,r,l⟩:=hl j x v (by rw[hNX];exact g1) h5 vis;refine⟨u,r,.inr ?_⟩;have l':∃c,X.env.cells.lookup x=ID c/\s.heap.IsCell c (ID u):=by
     rcases l with⟨q,_⟩|⟨_,q⟩
     ·have q':X.env.scope.names.lookup x=ID .local:=q;rw[hkX] at q';rcases fk with z|z
      ·rw[q'] at z;cases z
      rw[q'] at z;cases z
     exact q
    obtain⟨c,hc,oc,hoc,hd⟩:=l';obtain⟨c',hc'⟩:=hhas _ (BH g2) rfl;have ec:c'=c:=by
     have:=hsub x c' hc';rw[hc] at this;exact(Be this).symm
    subst ec;refine⟨?_,c',hc',oc,hk _ _ hoc,hd⟩;rcases h3 with q|q|q
    ·rcases dN (env:=X.env) (names:=scope.names) q with z|⟨z,_⟩
     ·rw[g2] at z;cases z
     cases z
    ·exact .inl q
    exact .inr q
 cell:=λx c e=>by
  obtain⟨v,o,h1,h2⟩:=I.cell x c (hsub x c e);exact⟨v,o,hk _ _ h1,h2⟩
 free:=I.hok.fresh hC
 freeC:=λx c e=>I.freeC x c (hsub x c e)
 pin:=λp hpp=>hp p (by simpa [aK] using hpp)
 hok:=I.hok.kept hk
 len:=by
  show(mp.map _).length=N.length;rw[AC];exact Em S.map
set_option maxHeartbeats 8000000 in
theorem ZR{tg iter elt:Expr}{ifs:List Expr}{pos:Pos}{wi:TI}{g:TG}{tc:TT}{te:TE}(N:List Str)(mp:List (Option Nat))(hNX:X.N=NX)(hkX:X.env.scope.names=kX)(S:lU NX kX N mp scope)(hc:X.calm=true)
  (hi:PI X tg iter wi)(hg:∀cl C s H fp,PG (aK X N scope cl C s H fp) tg g)(ht:∀cl C s H fp,PTs (aK X N scope cl C s H fp) ifs tc)(he:∀cl C s H fp,PE (aK X N scope cl C s H fp) elt te)
  (hs:∀x,BC iter X.env x=pure x:=by intro _;rfl):PE X (.ListComp elt [⟨tg,iter,ifs,0⟩] scope pos) (oK mp wi g tc te):=by
 intro pins s σ H Q I h;obtain⟨cl,hcl,hsub,hhas⟩:=lO (env:=X.env) (scope:=scope) λy hy hf=>I.ok.has y.1 (by
  rcases S.fre y hy hf with q|q
  ·exact .inl (show X.env.scope.names.lookup y.1=_ by rw[hkX];exact q)
  exact .inr (show X.env.scope.names.lookup y.1=_ by rw[hkX];exact q))
 rw[eval_ListComp];refine CS (use:=IF) Z hs hcl S.kind S.locs ?_;refine thn (hi pins s σ H _ I h) λv s1 h1=>thn h1 λitv s2 h2=>?_;obtain⟨it,fp,tn,J,H2,e,I2,T,st2,f2,W,⟨m0,w0⟩,turn⟩:=h2;subst e;refine A6 (EW S.nocell (by intro y hy;simp at hy) (λh3 hns hsb=>?_) S.kind);dsimp only at hns hsb |-;have hold:∀b∈fp,b<s2.heap.objs.size:=λb hb=>by
  obtain⟨o,q,_⟩:=T.obj _ _ st2 b hb;exact AQ q
 generalize hD:s2.heap.objs.size=D at hns hsb;generalize hH2:s2.heap.push { cls:=.type "list",dict:=IF,data:=.seq ([]:List Ap).toArray }=P2 at hns hsb |-;have hC:P2.objs.size=D+1:=by rw[<- hH2,Cb,hD]
 generalize hC':P2.objs.size=C at hns hsb |-;rw[hC'] at hC;have old:∀b o,s2.heap.get? b=ID o->h3.get? b=ID o:=λb o q=>by
  have hb:=AQ q;exact hsb.extBut b o (na1 hb hD hC) (AB _ (hH2 ▸ AB _ q))
 have accD:h3.get? D=ID { cls:=.type "list",data:=.seq ([]:List Ap).toArray }:=
  hsb.extBut _ _ (na2 hC) (AB _ (by rw[<- hH2,<- hD];exact AO _ Z))
 have hfr:D∉frs X.stack:=λz=>by
  rcases A3.mp (I2.jR D z) with q|q
  ·exact na0 I2.lt hD q.symm
  exact I2.Gy (na4 hD) q
 have I0:Inv (aK X N scope cl C s2 H2 fp) [(D,{ cls:=.type "list",data:=.seq ([]:List Ap).toArray })] (cZ mp σ) H2 { s2 with heap:=h3,toks:=s2.toks+([]:List (Str×Ap)).length }:=
  rF (s':={ s2 with heap:=h3,toks:=s2.toks+([]:List (Str×Ap)).length }) hNX hkX S I2 f2 hold (na3 hD hC) hsub hhas Z Z ⟨_,hns⟩ old λp hp=>by
   have ep:=AJ.mp hp;subst ep;exact⟨accD,I2.hok.fresh (na4 hD),na2 hC,hfr,λv z=>by cases z⟩
 have T0:tn 0 h3:=T.keep _ _ _ st2 λb _ o q=>old b o q;have loop:∀z:AA,z={ s2 with heap:=h3,toks:=s2.toks+([]:List (Str×Ap)).length } ->
   DF (AM X.prog X.w) X.A (.compLoop (.ListComp elt [⟨tg,iter,ifs,0⟩] scope pos) 0 (.ref it) (.ref D) (CO scope cl C X.env))
    (Kn (AM X.prog X.w) X.A X.xe IF (EP X pins σ Q) (.ref D) C) z:=by
  rintro z rfl;have stat:∀{H':Hp}{pl:List (IN×Obj)},(∀b∈fp,H' b=IF)->(∀p∈pl,p.1=D)->∀b∈fp,lJ (aK X N scope cl C s2 H2 fp) pl H' b:=λhn hp b hb=>by
   have hb2:=hold b hb;refine⟨hn b hb,na1 hb2 hD hC,(uI hkX S I2 f2 hold (na3 hD hC) hsub hhas).exfs b hb,.inl hb,λx c q=>(f2 b hb).2.2.2.2.1 x c (hsub x c q),λp hpp=>?_⟩;have hpD:=hp p (by simpa [aK] using hpp);rw[hpD];exact(na0 hb2 hD).symm
  refine rE (env:=CO scope cl C X.env) (λn z=>∃i acc τ H' its k,Inv (aK X N scope cl C s2 H2 fp) [(D,{ cls:=.type "list",data:=.seq (Ch its) k })] τ H' z/\tn i z.heap/\(∀b∈fp,H' b=IF)/\Vals acc its/\acc.length<=AN/\W i n acc τ H')
   ?_ m0 ⟨0,[],_,H2,[],0,I0,T0,λb hb=>(f2 b hb).1,.nil,De _,w0⟩
  rintro n s5 ⟨i,acc,τ,H5,its,k,I5,st5,fr5,va,hz,w5⟩;rcases turn i n acc τ H5 w5 with⟨stop,qn⟩|⟨go,hz2,N9,hN9,step⟩
  ·refine thn (T.done (aK X N scope cl C s2 H2 fp) Z Z Z hc i _ s5 τ H5 _ I5 (stat fr5 ζ) st5 stop) λr s6 ⟨hr,I6⟩=>?_;subst hr;obtain⟨m6,hn6,_⟩:=I6.loc;refine⟨m6,hn6,λh' sb=>?_⟩;obtain⟨dD,nD,_,_,_⟩:=I6.pin (D,_) (AG _ (AJ.mpr Z));have U:=I6.base;have nC:H5 C=IF:=I6.free;have ne:∀b o,s2.heap.get? b=ID o->b≠C/\b≠D:=λb o q=>by
    exact⟨na1 (AQ q) hD hC,na0 (AQ q) hD⟩
   have keepC:∀b o,b≠C->s6.heap.get? b=ID o->h'.get? b=ID o:=λb o hb q=>(sb.2 b hb).trans q;have U':Un (frs X.stack) fp H2 (upd H5 D (.lst acc)) s2.heap h':=by
    refine⟨λb o q n1 hb hx=>keepC b o (ne b o q).1 (U.keep b o q n1 hb hx),λb o q n1 hb hx=>?_,λb o q n1 hx=>?_,λb o q hx=>?_,λb xs q=>?_,λb o xs q=>?_,λb ps q=>?_⟩
    ·obtain⟨sl,z⟩:=U.slot b o q n1 hb hx;exact⟨sl,keepC b _ (ne b o q).1 z⟩
    ·rw[aH (ne b o q).2];exact U.free b o q n1 hx
    ·obtain⟨o',z⟩:=U.there b o q hx;exact⟨o',keepC b _ (ne b o q).1 z⟩
    ·have z:=U.tups b xs q;rw[aH (aB z nD)];exact z
    ·have z:=U.frzs b o xs q;rw[aH (aB z nD)];exact z
    obtain⟨more,z⟩:=U.tbls b ps q;exact⟨more,by rw[aH (aB z nD)];exact z⟩
   have hok:HOk X.prog X.w (upd H5 D (.lst acc)) h':=λb u q=>by
    by_cases hb:b=D
    ·subst hb;rw[aD] at q;cases q;exact⟨hz,its,k,va,keepC _ _ (na2 hC) dD⟩
    rw[aH hb] at q;refine(I6.hok b u q).stay (λc v hcc z=>keepC c v ?_ z) (λc z=>by rw[aH (aB z nD)];exact z) λc xs z=>by rw[aH (aB z nD)];exact z
    rcases hcc with z1|z1
    ·subst z1;exact aB q nC
    exact aB z1 nC
   have I7:Inv X pins σ (upd H5 D (.lst acc)) { s6 with heap:=h' }:=I2.call' (s':={ s6 with heap:=h' }) (ch:=fp) I6.os U' hok I6.bare λb hb=>by
    obtain⟨_,a2,_,a4,a5,a6⟩:=f2 b hb;exact⟨a4,a2,a5,a6⟩
   exact⟨.ref D,_,I7,rfl,qn D nD⟩
  refine thn (T.item (aK X N scope cl C s2 H2 fp) Z Z Z hc i _ s5 τ H5 _ I5 (stat fr5 ζ) st5 go) λr s6 ⟨u,hr,h6⟩=>?_;subst hr;refine thn h6 λ_ s7 ⟨x,H7,I7,r7,y7,st7,fr7⟩=>?_;have I7':=I7.pinned (stat fr7 ζ) (T.obj _ _ st7);have no:∀{α:Type}{t:Sem α}{Q1 Q2:α->AA->Prop}{E:Ap->AA->Prop}{z:AA},AH (AM X.prog X.w) X.A t Q1 (λ_ _=>False) z->(∀a z,Q1 a z->Q2 a z)->AH (AM X.prog X.w) X.A t Q2 E z:=
   λq f=>A7 q f λ_ _ z=>z.elim
  refine no (hg cl C s2 H2 fp _ s7 τ H7 x u _ I7' r7 (step x H7 y7)) λ_ s8 ⟨τ1,H8,I8,q8⟩=>?_;refine no (ht cl C s2 H2 fp _ s8 τ1 H8 _ I8 q8) λok s9 ⟨H9,I9,q9⟩=>?_;have ER:∀{H':Hp}{z:AA}{its':List Ap}{k':Nat},Inv (aK X N scope cl C s2 H2 fp) ([(D,{ cls:=.type "list",data:=.seq (Ch its') k' })]++cG fp s7.heap) τ1 H' z ->
    tn (i+1) z.heap/\(∀b∈fp,H' b=IF)/\Inv (aK X N scope cl C s2 H2 fp) [(D,{ cls:=.type "list",data:=.seq (Ch its') k' })] τ1 H' z:=λ{H' z its' k'} Iz=>by
   have get:∀b∈fp,∀o,s7.heap.get? b=ID o->z.heap.get? b=ID o/\H' b=IF:=λb hb o q=>by
    obtain⟨a1,a2,_⟩:=Iz.pin (b,o) (AG _ (AG _ (dM hb q)));exact⟨a1,a2⟩
   refine⟨T.keep _ _ _ st7 λb hb o q=>(get b hb o q).1,λb hb=>?_,Iz.fL⟩;obtain⟨o,q,_⟩:=T.obj _ _ st7 b hb;exact(get b hb o q).2
  cases ok with
  | false=>
   rw[if_neg AX] at q9 |-;obtain⟨m',hm,w9⟩:=hN9 _ _ _ q9;obtain⟨a1,a2,a3⟩:=ER I9;exact⟨m',hm,i+1,acc,τ1,H9,its,k,a3,a1,a2,va,hz,w9⟩
  | true=>
   rw[if_pos rfl] at q9 |-;refine no (he cl C s2 H2 fp _ s9 τ1 H9 _ I9 q9) λy s10 ⟨v,H10,I10,rv,q10⟩=>?_;obtain⟨m',hm,w10⟩:=hN9 _ _ _ q10;obtain⟨a1,a2,a3⟩:=ER I10;obtain⟨dD,nD,_,_,_⟩:=a3.pin (D,_) (AG _ (AJ.mpr Z));have hlen:=va.length;refine EK Fh ⟨_,dD,rfl⟩ E4 (EV _ _) (FI D its.toArray k y (by rw[AZ];omega)) ⟨dD,?_⟩;obtain⟨k',q⟩:∃k',(s10.heap.update D (BO λa=>a.push y)).get? D=ID { cls:=.type "list",data:=.seq (its++[y]).toArray k' }:=by
    have q:=F2 dD (λa=>a.push y);rw[show its.toArray.push y=(its++[y]).toArray by simp] at q;exact⟨_,q⟩
   have a4:Inv (aK X N scope cl C s2 H2 fp) (cG fp s7.heap) τ1 H10 s10:=I10.dW λp hp=>I10.pin p (AG _ (AG _ hp));have a5:Inv (aK X N scope cl C s2 H2 fp) (cG fp s7.heap) τ1 H10 { s10 with heap:=s10.heap.update D (BO λa=>a.push y),toks:=s10.toks }:=
    a4.turned (it:=D) (λb o hb z=>(BQ _ _ (BS hb)).trans z) nD (na2 hC) (.inr (na4 hD))
     (λx c z=>by
      obtain⟨_,o,h1,_⟩:=I2.cell x c (hsub x c z);exact na0 (AQ h1) hD) λp hp=>by
      have hb:=(gH (by simpa [aK] using hp)).1;exact na0 (hold _ hb) hD
   obtain⟨b1,b2,b3⟩:=(show tn (i+1) (s10.heap.update D (BO λa=>a.push y))/\(∀b∈fp,H10 b=IF)/\True from
    ⟨T.keep _ _ _ a1 λb hb o z=>(BQ _ _ (na0 (hold b hb) hD).symm).trans z,a2,trivial⟩)
   refine⟨m',hm,i+1,acc++[v],τ1,H10,its++[y],k',a5.dW λp hp=>?_,b1,b2,va.append (.cons rv .nil),by rw[A0,B4];omega,w10⟩;have ep:=AJ.mp hp;subst ep;exact⟨q,nD,na2 hC,hfr,λv z=>by cases z⟩
 have e1:{ newEnv scope C X.env.globals cl X.env.qual IF .none (ID X.env) X.env.builtins with scope:=relabel scope X.env }=CO scope cl C X.env:=rfl;exact Fm (loop _ Z) (T.self _ 0 _ _ _ T0 (loop _ Z))
end
section
variable {X:Cx}{pins:List (IN×Obj)}{σ:St}{H:Hp}{s:AA}
theorem Inv.Oo{ch:List IN}{h':Heap}{t':Nat}(I:Inv X pins σ H s)(hf:∀b∈ch,lJ X pins H b)(k:∀b o,b∉ch->s.heap.get? b=ID o->h'.get? b=ID o):Inv X pins σ H { s with heap:=h',toks:=t' }:=by
 have nit:∀b u,H b=ID u->b∉ch:=λb u e z=>by rw[(hf b z).1] at e;cases e
 refine I.step (g':=s.gens) (d':=s.drawn) (ch:=ch) (λb hb=>?_) (λb o _ _ hc e _=>k b o hc e) (λb o _ _ hc e _=>⟨o.slots,k b o hc e⟩) (λ_ _ _ _ n=>n)
  (λb o hc e=>⟨o,k b o hc e⟩) (λ_ _ e=>e) (λ_ _ _ e=>e) (λb ps e=>⟨#[],by rw[e];simp⟩) (λm hm=>?_) (λb u e=>?_) I.bare
 ·obtain⟨_,a2,_,a4,a5,a6⟩:=hf b hb;exact⟨a4,a2,a5,a6⟩
 ·obtain⟨o,es,ep,ho,r⟩:=hm;exact⟨o,es,ep,k _ o (λz=>(hf _ z).2.1 Z) ho,r⟩
 refine(I.hok b u e).stay (λc v hc q=>k c v ?_ q) (λ_ q=>q) λ_ _ q=>q;rcases hc with z|z
 ·rw[z];exact nit b u e
 exact nit c _ z
theorem Inv.Om{ch:List IN}{h':Heap}{t':Nat}{p:IN}{o:HO}(I:Inv X pins σ H s)(hf:∀b∈ch,lJ X pins H b)(k:∀b o,b∉ch->s.heap.get? b=ID o->h'.get? b=ID o)(hp:s.heap.objs.size<=p)
  (new:cu X.prog X.w (upd H p o) h' p o):Inv X pins σ (upd H p o) { s with heap:=h',toks:=t' }:=by
 have hn:H p=IF:=I.hok.fresh hp;have nit:∀b u,H b=ID u->b∉ch:=λb u e z=>by rw[(hf b z).1] at e;cases e
 have lt:∀b u,s.heap.get? b=ID u->b≠p:=λb u e=>B1 (BB (AQ e) hp);refine I.step (g':=s.gens) (d':=s.drawn) (ch:=ch) (λb hb=>?_) (λb o _ _ hc e _=>k b o hc e) (λb o _ _ hc e _=>⟨o.slots,k b o hc e⟩) (λb o _ e n=>by rw[aH (lt b o e)];exact n)
  (λb o hc e=>⟨o,k b o hc e⟩) (λb xs e=>by rw[aH (aB e hn)];exact e) (λb u xs e=>by rw[aH (aB e hn)];exact e) (λb ps e=>⟨#[],by rw[aH (aB e hn),e];simp⟩) (λm hm=>?_) (λb u e=>?_) I.bare
 ·obtain⟨_,a2,_,a4,a5,a6⟩:=hf b hb;exact⟨a4,a2,a5,a6⟩
 ·obtain⟨o,es,ep,ho,r⟩:=hm;exact⟨o,es,ep,k _ o (λz=>(hf _ z).2.1 Z) ho,r⟩
 by_cases hb:b=p
 ·subst hb;rw[aD] at e;cases e;exact new
 rw[aH hb] at e;refine(I.hok b u e).stay (λc v hc q=>k c v ?_ q) (λc q=>by rw[aH (aB q hn)];exact q) λc xs q=>by rw[aH (aB q hn)];exact q
 rcases hc with z|z
 ·rw[z];exact nit b u e
 exact nit c _ z
end
def Itz(K:AF)(a b:IN):It:=
 ⟨λi H=>∃xs ys x y,SqL K H a xs/\SqL K H b ys/\xs[i]?=ID x/\ys[i]?=ID y,
  λi H v H'=>∃p x y,v=.ref p/\H p=IF/\H'=upd H p (.tup [x,y])/\(∀xs,SqL K H a xs->xs[i]?=ID x)/\∀ys,SqL K H b ys->ys[i]?=ID y,
  λi H=>∃xs ys,SqL K H a xs/\SqL K H b ys/\(xs[i]?=IF\/ys[i]?=IF)⟩
theorem Uk{P:A1}{w:BD}{K:AF}{es:List Expr}{kk:Nat}{tpos:Pos}{z TI TO i1 i2 l1 l2:IN}(D:Kt z TI TO i1 i2 l1 l2) :
  Turn P w K (.Tuple es kk tpos) (Itz K l1 l2) [z,TI,TO,i1,i2] z (λi h=>IsZip h z TI TO .none/\EL h TI (.ref i1) (.ref i2)/\(∃a b,EL h TO a b)/\h.IsListIter i1 l1 i/\h.IsListIter i2 l2 i) where
 mem:=by simp
 obj:=λi h st b hb=>by
  obtain⟨hz,hTI,⟨a,b',hTO⟩,⟨o1,e1,c1,d1⟩,⟨o2,e2,c2,d2⟩⟩:=st;simp only[A3,Bz,or_false] at hb;rcases hb with rfl|rfl|rfl|rfl|rfl
  ·exact⟨_,hz,λv q=>by cases q⟩
  ·exact⟨_,hTI,λv q=>by cases q⟩
  ·exact⟨_,hTO,λv q=>by cases q⟩
  ·exact⟨o1,e1,λv q=>by rw[d1] at q;cases q⟩
  exact⟨o2,e2,λv q=>by rw[d2] at q;cases q⟩
 keep:=λi h h' st k=>by
  obtain⟨hz,hTI,⟨a,b',hTO⟩,h1,h2⟩:=st;exact⟨k z ζ _ hz,k TI ζ _ hTI,⟨a,b',k TO ζ _ hTO⟩,h1.at λo e=>k i1 ζ o e,h2.at λo e=>k i2 ζ o e⟩
 item:=by
  intro X hP hw hK hc i pins s σ H E I hf st hg;subst hP hw hK;obtain⟨xs,ys,x,y,q1,q2,hx,hy⟩:=hg;obtain⟨its1,rv1,p1,hz1⟩:=I.list q1;obtain⟨its2,rv2,p2,hz2⟩:=I.list q2;obtain⟨u1,hu1,ru1⟩:=rv1.get hx;obtain⟨u2,hu2,ru2⟩:=rv2.get hy;obtain⟨hz,hTI,⟨a,b',hTO⟩,h1,h2⟩:=st;refine wpAny_pyNext_zip_item D hz hTI hTO h1 h2 p1.isList p2.isList (x:=u1) (y:=u2) (by simpa using hu1) (by simpa using hu2) λh' a1 a2 a3 a4 a5 a6 hk=>?_;have new:cu X.prog X.w (upd H s.heap.objs.size (.tup [x,y])) h' s.heap.objs.size (.tup [x,y]):=⟨by show 2<=AN;decide,[u1,u2],.cons ru1 (.cons ru2 .nil),_,a5,rfl,_,rfl⟩;have I1:Inv X pins σ (upd H s.heap.objs.size (.tup [x,y])) { s with heap:=h' }:=I.Om (t':=s.toks) (ch:=[z,TO,i1,i2]) (λb hb=>hf b (by
   simp only[A3,Bz,or_false] at hb |-;rcases hb with r|r|r|r <;> simp[r]))
   (λb o hb e=>hk b o (λq=>hb (by simp[q])) (λq=>hb (by simp[q])) (λq=>hb (by simp[q])) (λq=>hb (by simp[q])) e) (AV _) new
  have hTI':EL h' TI (.ref i1) (.ref i2):=hk _ _ D.TIz D.TITO D.TIi1 D.TIi2 hTI;have hsz:∀b,b∈[z,TI,TO,i1,i2]->b≠s.heap.objs.size:=λb hb=>by
   obtain⟨_,_,hlt,_⟩:=hf b hb;have lt:∃o,s.heap.get? b=ID o:=by
    simp only[A3,Bz,or_false] at hb;rcases hb with rfl|rfl|rfl|rfl|rfl
    ·exact⟨_,hz⟩
    ·exact⟨_,hTI⟩
    ·exact⟨_,hTO⟩
    ·obtain⟨o,e,_⟩:=h1;exact⟨o,e⟩
    obtain⟨o,e,_⟩:=h2;exact⟨o,e⟩
   obtain⟨o,e⟩:=lt;exact B1 (AQ e)
  refine⟨_,rfl,wpAny_letOwnedTupleGo_zip (s:={ s with heap:=h' }) a1 λh'' z2 sb=>?_⟩;have fz:=hf z ζ;have I2:Inv X pins σ (upd H s.heap.objs.size (.tup [x,y])) { s with heap:=h'' }:=Inv.turned (s:={ s with heap:=h' }) (it:=z) (t':=s.toks) I1 (λb o hb e=>(sb.2 b hb).trans e) (by rw[aH (hsz z ζ)];exact fz.1) fz.2.1 fz.2.2.2.1 fz.2.2.2.2.1 fz.2.2.2.2.2;refine⟨.ref s.heap.objs.size,_,I2,rfl,⟨_,x,y,rfl,I.fresh,rfl,λxs' q=>by rw[I.qt q q1];exact hx,λys' q=>by rw[I.qt q q2];exact hy⟩,
   ⟨z2,(sb.2 _ D.TIz).trans hTI',⟨_,_,(sb.2 _ D.TOz).trans a2⟩,a3.extBut sb.extBut D.i1z,a4.extBut sb.extBut D.i2z⟩,λb hb=>by rw[aH (hsz b hb)];exact(hf b hb).1⟩
 done:=by
  intro X hP hw hK hc i pins s σ H E I hf st hg;subst hP hw hK;obtain⟨xs,ys,q1,q2,hx⟩:=hg;obtain⟨its1,rv1,p1,hz1⟩:=I.list q1;obtain⟨its2,rv2,p2,hz2⟩:=I.list q2;obtain⟨hz,hTI,⟨a,b',hTO⟩,h1,h2⟩:=st;have hend:its1.toArray[i]?=IF\/its2.toArray[i]?=IF:=by
   rcases hx with r|r
   ·exact .inl (by simpa using rv1.none_of r)
   exact .inr (by simpa using rv2.none_of r)
  refine wpAny_pyNext_zip_end (I.ok.hd hc) D hz hTI hTO h1 h2 p1.isList p2.isList hend λh' hk=>⟨rfl,?_⟩;exact I.Oo (t':=s.toks) (ch:=[z,TO,i1,i2]) (λb hb=>hf b (by
   simp only[A3,Bz,or_false] at hb |-;rcases hb with r|r|r|r <;> simp[r]))
   (λb o hb e=>hk b o (λq=>hb (by simp[q])) (λq=>hb (by simp[q])) (λq=>hb (by simp[q])) (λq=>hb (by simp[q])) e)
 self:=λ_ _ _ _ _ st h=>G1 st.1 h
def Ite(K:AF)(a:IN):It:=
 ⟨λi H=>∃xs x,SqL K H a xs/\xs[i]?=ID x,
  λi H v H'=>∃p x,v=.ref p/\H p=IF/\H'=upd H p (.tup [.int (i:Nat),x])/\∀xs,SqL K H a xs->xs[i]?=ID x,
  λi H=>∃xs,SqL K H a xs/\xs[i]?=IF⟩
theorem Q0{P:A1}{w:BD}{K:AF}{es:List Expr}{kk:Nat}{tpos:Pos}{e it l:IN}(hne:e≠it) :
  Turn P w K (.Tuple es kk tpos) (Ite K l) [e,it] e (λi h=>(∃old,IsEnum h e it ((i:Nat):Int) old)/\h.IsListIter it l i) where
 mem:=by simp
 obj:=λi h st b hb=>by
  obtain⟨⟨old,he⟩,⟨o1,e1,c1,d1⟩⟩:=st;simp only[A3,Bz,or_false] at hb;rcases hb with rfl|rfl
  ·exact⟨_,he,λv q=>by cases q⟩
  exact⟨o1,e1,λv q=>by rw[d1] at q;cases q⟩
 keep:=λi h h' st k=>by
  obtain⟨⟨old,he⟩,h1⟩:=st;exact⟨⟨old,k e ζ _ he⟩,h1.at λo q=>k it ζ o q⟩
 item:=by
  intro X hP hw hK hc i pins s σ H E I hf st hg;subst hP hw hK;obtain⟨xs,x,q1,hx⟩:=hg;obtain⟨its1,rv1,p1,hz1⟩:=I.list q1;obtain⟨u1,hu1,ru1⟩:=rv1.get hx;obtain⟨⟨old,he⟩,h1⟩:=st;refine wpAny_pyNext_enum_item he h1 p1.isList (x:=u1) (by simpa using hu1) hne λh' a1 a2 a3 a4 hk=>?_;have new:cu X.prog X.w (upd H s.heap.objs.size (.tup [.int (i:Nat),x])) h' s.heap.objs.size (.tup [.int (i:Nat),x]):=⟨by show 2<=AN;decide,[.int (i:Nat) s.toks,u1],.cons ⟨_,rfl⟩ (.cons ru1 .nil),_,a3,rfl,_,rfl⟩;have I1:Inv X pins σ (upd H s.heap.objs.size (.tup [.int (i:Nat),x])) { s with heap:=h',toks:=s.toks+1 }:=I.Om (ch:=[e,it]) hf
   (λb o hb q=>hk b o (λz=>hb (by simp[z])) (λz=>hb (by simp[z])) q) (AV _) new
  have hsz:∀b,b∈[e,it]->b≠s.heap.objs.size:=λb hb=>by
   have lt:∃o,s.heap.get? b=ID o:=by
    simp only[A3,Bz,or_false] at hb;rcases hb with rfl|rfl
    ·exact⟨_,he⟩
    obtain⟨o,q,_⟩:=h1;exact⟨o,q⟩
   obtain⟨o,q⟩:=lt;exact B1 (AQ q)
  refine⟨_,rfl,wpAny_letOwnedTupleGo_enum (s:={ s with heap:=h',toks:=s.toks+1 }) a1 λh'' z2 sb=>?_⟩;have fz:=hf e ζ;have I2:Inv X pins σ (upd H s.heap.objs.size (.tup [.int (i:Nat),x])) { s with heap:=h'',toks:=s.toks+1 }:=Inv.turned (s:={ s with heap:=h',toks:=s.toks+1 }) (it:=e) I1 (λb o hb q=>(sb.2 b hb).trans q) (by rw[aH (hsz e ζ)];exact fz.1) fz.2.1 fz.2.2.2.1 fz.2.2.2.2.1 fz.2.2.2.2.2;refine⟨.ref s.heap.objs.size,_,I2,rfl,⟨_,x,rfl,I.fresh,rfl,λxs' q=>by rw[I.qt q q1];exact hx⟩,
   ⟨⟨_,by simpa using z2⟩,a2.extBut sb.extBut hne.symm⟩,λb hb=>by rw[aH (hsz b hb)];exact(hf b hb).1⟩
 done:=by
  intro X hP hw hK hc i pins s σ H E I hf st hg;subst hP hw hK;obtain⟨xs,q1,hx⟩:=hg;obtain⟨its1,rv1,p1,hz1⟩:=I.list q1;obtain⟨⟨old,he⟩,h1⟩:=st;refine wpAny_pyNext_enum_end (I.ok.hd hc) he h1 p1.isList (by simpa using rv1.none_of hx) λh' hk=>⟨rfl,?_⟩;exact I.Oo (t':=s.toks) (ch:=[e,it]) hf (λb o hb q=>hk b o (λz=>hb (by simp[z])) q)
 self:=λ_ _ _ _ _ st h=>by
  obtain⟨⟨old,he⟩,_⟩:=st;exact JE he h
theorem Vals.bools:∀{bs:List Bool}{us:List Ap},Vals (bs.map As) us->us=bs.map GT
 | [],_,.nil=>rfl
 | _::_,_,.cons r t=>by rw[Vals.bools t,(show _=GT _ from r)];rfl
section
variable {X:Cx}
theorem TY(bs:List Bool):((BN bs.length).all λi=>(bs[i]?).getD true)=bs.all id:=by
 rw[Fu,Go,Go];constructor
 ·intro h b hb;obtain⟨i,hi,rfl⟩:=L1 hb;have:=h i (D9.mpr hi);rw[AD hi] at this;exact this
 intro h i hi;have hi':=D9.mp hi;rw[AD hi'];exact h _ (D7 hi')
theorem TX(bs:List Bool):((BN bs.length).any λi=>(bs[i]?).getD false)=bs.any id:=by
 rw[Fu,JI,JI];constructor
 ·intro⟨i,hi,h⟩;have hi':=D9.mp hi;rw[AD hi'] at h;exact⟨_,D7 hi',h⟩
 intro⟨b,hb,h⟩;obtain⟨i,hi,rfl⟩:=L1 hb;exact⟨i,D9.mpr hi,by rw[AD hi];exact h⟩
def Vu(K:AF)(f:List Bool->Bool):List V->Hp->VK->Prop:=λxs H Q=>∃p bs,xs=[.ref p]/\SqL K H p (IM As bs)/\Q (.bl (f bs)) H
theorem X6(hc:X.calm=true):dR X (.builtin "all") (Vu X.K λbs=>bs.all id):=by
 intro pins s σ H xs us Q I r h;obtain⟨p,bs,rfl,hq,q⟩:=h;cases r with
 | cons r rr=>
  cases rr;cases r;obtain⟨its,rv,pl,hz⟩:=I.list hq;have e:=rv.bools;subst e;have lt:p<s.heap.objs.size:=by obtain⟨_,e,_⟩:=pl.isList;exact AQ e
  refine call_all_walk (FK pl.isList ?_);refine⟨s.heap.objs.size,[s.heap.objs.size,p],[s.heap.objs.size],(bs.map GT).toArray.size,_,_,λi=>(bs[i]?).getD true,rfl,Walks.list (A:=X.A.in1) (I.ok.hd hc) _ p (B1 lt) _,
   ⟨⟨_,AO _ rfl,rfl,rfl⟩,pl.isList.push _⟩,λi v s' Q' E' hP hQ=>?_,λh' tk hk=>?_⟩
  ·have e:(bs.map GT)[i]?=ID v:=by simpa using hP
   rw[AL] at e;cases z:bs[i]? with
   | none=>rw[z] at e;cases e
   | some b=>
    rw[z] at e;have e':GT b=v:=Be e;subst e';dsimp only at hQ;rw[z] at hQ;exact Ee hQ
  rw[AZ,AC,TY];refine⟨.bl _,H,I.kept λb o e=>hk b o (λhm=>?_) (AB _ e),rfl,q⟩;rw[AJ.mp hm] at e;exact ES _ (AQ e)
theorem X5(hc:X.calm=true):dR X (.builtin "any") (Vu X.K λbs=>bs.any id):=by
 intro pins s σ H xs us Q I r h;obtain⟨p,bs,rfl,hq,q⟩:=h;cases r with
 | cons r rr=>
  cases rr;cases r;obtain⟨its,rv,pl,hz⟩:=I.list hq;have e:=rv.bools;subst e;have lt:p<s.heap.objs.size:=by obtain⟨_,e,_⟩:=pl.isList;exact AQ e
  refine call_any_walk (FK pl.isList ?_);refine⟨s.heap.objs.size,[s.heap.objs.size,p],[s.heap.objs.size],(bs.map GT).toArray.size,_,_,λi=>(bs[i]?).getD false,rfl,Walks.list (A:=X.A.in1) (I.ok.hd hc) _ p (B1 lt) _,
   ⟨⟨_,AO _ rfl,rfl,rfl⟩,pl.isList.push _⟩,λi v s' Q' E' hP hQ=>?_,λh' tk hk=>?_⟩
  ·have e:(bs.map GT)[i]?=ID v:=by simpa using hP
   rw[AL] at e;cases z:bs[i]? with
   | none=>rw[z] at e;cases e
   | some b=>
    rw[z] at e;have e':GT b=v:=Be e;subst e';dsimp only at hQ;rw[z] at hQ;exact Ee hQ
  rw[AZ,AC,TX];refine⟨.bl _,H,I.kept λb o e=>hk b o (λhm=>?_) (AB _ e),rfl,q⟩;rw[AJ.mp hm] at e;exact ES _ (AQ e)
def adZ(K:AF):List V->Hp->VK->Prop:=λxs H Q=>∃x T t b,xs=[x,.ty T]/\rR K H x t/\kitOne K t (.type T)=ID b/\Q (.bl b) H
theorem X4:dR X (.builtin "isinstance") (adZ X.K):=by
 intro pins s σ H xs us Q I r h;obtain⟨x,T,t,b,rfl,ty,e,q⟩:=h;cases r with
 | cons r rr=>
  cases rr with
  | cons r' rr=>
   cases rr;cases (show _=GE T from r');exact Sv I r ty e λtk=>⟨.bl b,H,I.tok tk,rfl,q⟩
def ac6(K:AF):List V->Hp->VK->Prop:=λxs H Q=>∃x p Ts t b,xs=[x,.ref p]/\SqT K H p (IM V.ty Ts)/\rR K H x t/\PySem.W.kitAny K t (Ts.map GE)=ID b/\Q (.bl b) H
theorem Vals.types:∀{bs:List String}{us:List Ap},Vals (bs.map V.ty) us->us=bs.map GE
 | [],_,.nil=>rfl
 | _::_,_,.cons r t=>by rw[Vals.types t,(show _=GE _ from r)];rfl
theorem ad8{x:V}{u t:Ap}{pins:List (IN×Obj)}{σ:St}{H:Hp}{s:AA}(I:Inv X pins σ H s)(rx:RelV x u)(ty:rR X.K H x t)(hl:∀a C dx fs,H a=ID (.ins C dx fs)->x≠.ref a) :
  ∃Hh:Heap->Prop,PySem.W.KitX X.K u t Hh/\Hh s.heap/\u≠.builtin "__main__.__loader__#opaque" := by
 cases ty with
 | non=>cases (show u=Ap.none from rx);exact⟨_,PySem.W.kitx_none,EC,λz=>nomatch z⟩
 | bl y=>cases (show u=GT y from rx);exact⟨_,PySem.W.kitx_bool,EC,λz=>nomatch z⟩
 | int i=>obtain⟨t,q⟩:=(show ∃t,u=EQ i t from rx);cases q;exact⟨_,PySem.W.kitx_int,EC,λz=>nomatch z⟩
 | str y=>obtain⟨t,q⟩:=(show ∃t,u=Ap.str y t from rx);cases q;exact⟨_,PySem.W.kitx_str,EC,λz=>nomatch z⟩
 | flt y=>obtain⟨t,q⟩:=(show ∃t,u=Ap.float y t from rx);cases q;exact⟨_,PySem.W.kitx_float,EC,λz=>nomatch z⟩
 | @lst a xs ea=>
  cases (show u=DO a from rx);obtain⟨_,_,n,_,h1⟩:=(show cu X.prog X.w H s.heap a (.lst xs) from I.hok a _ ea);exact⟨_,Jn,⟨_,h1,rfl⟩,λz=>nomatch z⟩
 | @frz a ob xs ea=>
  cases (show u=DO a from rx);obtain⟨_,_,_,n,_,h1⟩:=(show cu X.prog X.w H s.heap a (.frz ob (.lst xs)) from I.hok a _ ea);exact⟨_,Jn,⟨_,h1,rfl⟩,λz=>nomatch z⟩
 | @tup a xs ea=>
  cases (show u=DO a from rx);obtain⟨_,_,_,p⟩:=(show cu X.prog X.w H s.heap a (.tup xs) from I.hok a _ ea);obtain⟨o,h1,h2,_⟩:=p;exact⟨_,PySem.W.kitx_tuple,⟨o,h1,h2⟩,λz=>nomatch z⟩
 | @dK a kvs ea=>
  cases (show u=DO a from rx);obtain⟨_,_,vs,_,p⟩:=(show cu X.prog X.w H s.heap a (.dK kvs) from I.hok a _ ea);obtain⟨o,es,ep,h1,h2,_⟩:=p;exact⟨_,JA,⟨o,h1,h2.1⟩,λz=>nomatch z⟩
 | @dT a kvs ea=>
  cases (show u=DO a from rx);obtain⟨_,_,xs,_,o,es,ep,h1,h2,_⟩:=(show cu X.prog X.w H s.heap a (.dT kvs) from I.hok a _ ea);exact⟨_,JA,⟨o,h1,h2.1⟩,λz=>nomatch z⟩
 | @ins a C dx fs ea cl ha hn htk hm=>exact absurd rfl (hl a C dx fs ea)
theorem Tv:dR X (.builtin "isinstance") (λxs H Q=>ac6 X.K xs H Q/\∀a C dx fs,H a=ID (.ins C dx fs)->xs.head?≠ID (.ref a)):=by
 intro pins s σ H xs us Q I r h;obtain⟨⟨x,p,Ts,t,b,rfl,hq,ty,e,q⟩,hl⟩:=h;cases r with
 | cons r rr=>
  cases rr with
  | cons r' rr=>
   cases rr;cases r';obtain⟨Hh,Z,hh,ne⟩:=ad8 I r ty λa C dx fs z w'=>hl a C dx fs z (by rw[w'];rfl);obtain⟨its,rv,⟨o,ho,hcl,n,hd⟩,hz⟩:=I.tuple hq;have ei:=rv.types;subst ei;obtain⟨c0,d0,dt0,sl0⟩:=o;cases (show c0=GE "tuple" from hcl);cases (show dt0=Iq (IM GE Ts).toArray n from hd);exact PySem.W.kia_tup Z I.kIn hh ho e ne λtk=>⟨.bl b,H,I.tok tk,rfl,q⟩
end
inductive Tn (H:Hp):V->String->Prop where
 | non:Tn H .non "NoneType"
 | bl (b:Bool):Tn H (.bl b) "bool"
 | int (i:Int):Tn H (.int i) "int"
 | str (x:Str):Tn H (.str x) "str"
 | lst {a:IN} {xs:List V} (e:H a=ID (.lst xs)):Tn H (.ref a) "list"
 | tup {a:IN} {xs:List V} (e:H a=ID (.tup xs)):Tn H (.ref a) "tuple"
theorem Tn.ty{K:AF}{H:Hp}{x:V}{t:String}(h:Tn H x t):rR K H x (.type t):=by
 cases h with
 | non=>exact .non
 | bl b=>exact .bl b
 | int i=>exact .int i
 | str x=>exact .str x
 | lst e=>exact .lst e
 | tup e=>exact .tup e
def fB(t T:String):Bool:=t == T||(t == "bool" && T == "int")
def fD:List String:=["NoneType","bool","int","str","list","tuple"]
theorem Qe(K:AF):∀t∈fD,∀T∈fD,kitOne K (.type t) (.type T)=ID (fB t T):=by
 intro t ht T hT;simp only[fD,A3,Bz,or_false] at ht hT;rcases ht with rfl|rfl|rfl|rfl|rfl|rfl <;> rcases hT with rfl|rfl|rfl|rfl|rfl|rfl <;> first|rfl|kernel_rfl
theorem Tn.known{H:Hp}{x:V}{t:String}(h:Tn H x t):t∈fD:=by cases h <;> decide
section
variable {X:Cx}
theorem TF:dR X (.builtin "isinstance") (λxs H Q=>∃x T t,xs=[x,.ty T]/\Tn H x t/\T∈fD/\Q (.bl (fB t T)) H):=by
 intro pins s σ H xs us Q I r h;obtain⟨x,T,t,rfl,ty,hT,q⟩:=h;exact X4 pins s σ H _ us Q I r ⟨x,T,_,_,rfl,ty.ty,Qe X.K t ty.known T hT,q⟩
theorem Qf(K:AF){t:String}(ht:t∈fD):∀Ts:List String,(∀T∈Ts,T∈fD)->PySem.W.kitAny K (.type t) (Ts.map GE)=ID (Ts.any λT=>fB t T)
 | [],_=>rfl
 | T::r,h=>by
  have e:=Qe K t ht T (h T A5);have ih:=Qf K ht r λT' h'=>h T' (Bi _ h');show(match kitOne K (.type t) (.type T) with|some true=>ID true|some false=>PySem.W.kitAny K (.type t) (r.map GE)|none=>IF)=_
  rw[e,any_cons];cases fB t T with
  | true=>rfl
  | false=>exact ih
theorem Tz:dR X (.builtin "isinstance") (λxs H Q=>∃x p Ts t,xs=[x,.ref p]/\H p=ID (.tup (IM V.ty Ts))/\Tn H x t/\(∀T∈Ts,T∈fD)/\Q (.bl (Ts.any λT=>fB t T)) H):=by
 intro pins s σ H xs us Q I r h;obtain⟨x,p,Ts,t,rfl,hp,ty,hT,q⟩:=h;refine Tv pins s σ H _ us Q I r ⟨⟨x,p,Ts,_,_,rfl,SqT.of hp,ty.ty,Qf X.K ty.known Ts hT,q⟩,λa C dx fs e z=>?_⟩;have z':x=.ref a:=by simpa using z
 subst z';cases ty with
 | lst e'=>rw[e] at e';cases e'
 | tup e'=>rw[e] at e';cases e'
def aa4(i j:Int):Prop:=0<j/\j<2^70
theorem Js:OpR X (ET .FloorDiv) (rI aa4 λi j=>.int (i/j)):=opI λi j _ _ _ _ _ hc q=>by
 have h1:(0:Int)<j:=hc.1;have h2:j<2^70:=hc.2;refine floordiv_int ω (by rw[Int.fdiv_eq_ediv_of_nonneg i ω];exact q) (.inl (PyProof.noPylong_of_log2 ?_));have h3:j.natAbs≠0:=ω;have h4:j.natAbs.log2<70:=(Nat.log2_lt h3).mpr ω;omega
end
def bG(p:IN)(H H':Hp):Prop:=∀b o,b≠p->H b=ID o->H' b=ID o
theorem bG.refl(p:IN)(H:Hp):bG p H H:=λ_ _ _ h=>h
theorem bG.trans{p:IN}{H H1 H2:Hp}(a:bG p H H1)(b:bG p H1 H2):bG p H H2:=λc o n h=>b c o n (a c o n h)
theorem bG.upd{p:IN}{H:Hp}{o:HO}:bG p H (upd H p o):=λb u n h=>by rw[aH n];exact h
theorem Same.x{p:IN}{H H':Hp}(h:Same H H'):bG p H H':=λb o _ q=>h b o q
theorem au{H:Hp}{p:IN}{o:HO}(h:H p=IF):Same H (upd H p o):=λb u q=>by rw[aH (aB q h)];exact q
structure Cal(P:A1)(w:BD)(K:AF)(mg:Str->Option Ap)(base:Heap)(x:Str)(k:Nat)(ps:List Str)(sp:Sp):Prop where
 ex:∃(f:IN)(fd:D3),dw P w K mg base CX0 k f fd ps sp/\Binds K fd ps []/\keepIn K (.ref f)=true/\mg x=ID (.ref f)
section
variable {X:Cx}{k:Nat}{ps:List Str}{sp:Sp}{x:Str}{p pos:Pos}{e:Expr}{es:List Expr}{t:TA}
theorem abV(C:Cal X.prog X.w X.K X.mg X.base x k ps sp)(hr:jn k X.A)(hg:Gl X x)(ha:PA X (e::es) t)(hdb:(x == ("__debug__" : Str))=false:=by decide)
  (he:AK (e::es) X.env=(false,eval e X.env)::AK es X.env:=by rfl) (hpl:(CY pos (AK es X.env)).any (·.1)=false:=by rfl):PE X (.Call (.Name x p) (e::es) [] pos) (zJ sp [] E0 t):=by
 obtain⟨f,fd,F,b,kp,hm⟩:=C.ex;exact ZV F hr hg hm kp b .nil adt ha hdb he hpl
end
structure Yk(K:AF)(mg:Str->Option Ap)(x:Str)(st:Stmt)(ps:List Str)(f:IN)(fd:D3):Prop where
 fn:Fun K x x st f fd
 bd:Binds K fd ps []
 nm:mg x=ID (.ref f)
theorem Yk.cal{P:A1}{w:BD}{K:AF}{mg:Str->Option Ap}{base:Heap}{x:Str}{st:Stmt}{ps:List Str}{f:IN}{fd:D3}{k:Nat}{sp:Sp}(D:Yk K mg x st ps f fd)(F:dw P w K mg base CX0 k f fd ps sp):Cal P w K mg base x k ps sp:=
 ⟨f,fd,F,D.bd,D.fn.kp,D.nm⟩
theorem Vd(i j:Int):Rh (.int i) (.int j)=true:=rfl
theorem YF(i j:Bool):Rh (.bl i) (.bl j)=true:=rfl
theorem Vb(i j:Str):Rh (.str i) (.str j)=true:=rfl
theorem Vc:Rh .non .non=true:=rfl
theorem adP{α:Type}(a:α)(r:List α):atI (a::r) 0=ID a:=bZ (j:=0) rfl
theorem adO{α:Type}(a b:α)(r:List α):atI (a::b::r) 1=ID b:=bZ (j:=1) rfl
theorem adN{α:Type}(a b c:α)(r:List α):atI (a::b::c::r) 2=ID c:=bZ (j:=2) rfl
theorem Xb:ixN 3 0=ID 0/\ixN 3 1=ID 1/\ixN 3 2=ID 2:=⟨δ,δ,δ⟩
theorem aO{n:Nat}(h:n<=1000000):n<=AN:=CM h δ
def ixq(o:Option HO)(i:Int)(H:Hp)(Q:VK):Prop:=match o with
 | some (.lst xs)=>∃v,atI xs i=ID v/\Q v H
 | some (.tup xs)=>∃v,atI xs i=ID v/\Q v H
 | _=>False
def stq(o:Option HO)(p:IN)(k:Int)(v:V)(H:Hp)(Q:Hp->Prop):Prop:=match o with
 | some (.lst xs)=>∃j,ixN xs.length k=ID j/\Q (upd H p (.lst (xs.set j v)))
 | _=>False
def lnq(o:Option HO)(H:Hp)(Q:VK):Prop:=match o with
 | some (.lst ys)=>Q (.int ys.length) H
 | some (.tup ys)=>Q (.int ys.length) H
 | _=>False
def Li:R2:=λx y H Q=>match x,y with
 | .ref p,.int i=>ixq (H p) i H Q
 | _,_=>False
def Vs:V->V->V->Hp->(Hp->Prop)->Prop:=λo i v H Q=>match o,i with
 | .ref p,.int k=>stq (H p) p k v H Q
 | _,_=>False
def Vz:List V->Hp->VK->Prop:=λxs H Q=>match xs with
 | [.ref p]=>lnq (H p) H Q
 | _=>False
theorem zZ(p:IN)(i:Int)(H:Hp)(Q:VK):Li (.ref p) (.int i) H Q=ixq (H p) i H Q:=rfl
theorem Rr(p:IN)(k:Int)(v:V)(H:Hp)(Q:Hp->Prop):Vs (.ref p) (.int k) v H Q=stq (H p) p k v H Q:=rfl
theorem Rt(p:IN)(H:Hp)(Q:VK):Vz [.ref p] H Q=lnq (H p) H Q:=rfl
theorem Qh(xs:List V)(i:Int)(H:Hp)(Q:VK):ixq (ID (.lst xs)) i H Q=∃v,atI xs i=ID v/\Q v H:=rfl
theorem Yw(xs:List V)(p:IN)(k:Int)(v:V)(H:Hp)(Q:Hp->Prop):stq (ID (.lst xs)) p k v H Q=∃j,ixN xs.length k=ID j/\Q (upd H p (.lst (xs.set j v))):=rfl
theorem aan(xs:List V)(H:Hp)(Q:VK):lnq (ID (.lst xs)) H Q=Q (.int xs.length) H:=rfl
theorem aam(xs:List V)(H:Hp)(Q:VK):lnq (ID (.tup xs)) H Q=Q (.int xs.length) H:=rfl
section
variable {X:Cx}
theorem bJ:IxR X Li:=by
 intro value slice pins s σ H x y v u Q I rx ry h hs;unfold Li at h;split at h
 ·rename_i p i;unfold ixq at h;split at h
  ·rename_i xs e;obtain⟨z,hz,q⟩:=h;exact Qi value slice pins s σ H _ _ v u Q I rx ry ⟨p,xs,i,z,rfl,rfl,SqL.of e,hz,q⟩ hs
  ·rename_i xs e;obtain⟨z,hz,q⟩:=h;exact acq value slice pins s σ H _ _ v u Q I rx ry ⟨p,xs,i,z,rfl,rfl,SqT.of e,hz,q⟩ hs
  exact h.elim
 exact h.elim
theorem O5:Ua X Vs:=by
 intro pins s σ H o i v ov iv u Q I ro ri rv h;unfold Vs at h;split at h
 ·rename_i p k;unfold stq at h;split at h
  ·rename_i xs e;obtain⟨j,hj,q⟩:=h;exact set_list pins s σ H _ _ v ov iv u Q I ro ri rv ⟨p,xs,k,j,rfl,rfl,e,hj,q⟩
  exact h.elim
 exact h.elim
theorem b8:dR X (.builtin "len") Vz:=by
 intro pins s σ H xs us Q I r h;unfold Vz at h;split at h
 ·rename_i p;unfold lnq at h;split at h
  ·rename_i ys e;exact kJ pins s σ H _ us Q I r ⟨p,ys,rfl,.inl (SqL.of e),h⟩
  ·rename_i ys e;exact kJ pins s σ H _ us Q I r ⟨p,ys,rfl,.inr (SqT.of e),h⟩
  exact h.elim
 exact h.elim
end
def VH:List V->Hp->VK->Prop:=λxs H Q=>match xs with
 | [.int i]=>Q (.int i) H
 | [.bl k]=>Q (.int (if k then 1 else 0)) H
 | _=>False
theorem YT(k:Bool)(H:Hp)(Q:VK):VH [.bl k] H Q=Q (.int (if k then 1 else 0)) H:=rfl
theorem oG{X:Cx}:dR X (.type "int") VH:=by
 intro pins s σ H xs us Q I r h;unfold VH at h;split at h
 ·exact Fg pins s σ H _ us Q I r (.inl ⟨_,rfl,h⟩)
 ·exact Fg pins s σ H _ us Q I r (.inr ⟨_,rfl,h⟩)
 exact h.elim
theorem aM{t u:TS}{D:Ends}{σ:St}{H:Hp}(h:∀k,k=u D->t { D with nx:=k } σ H):Q9 t u D σ H:=h _ rfl
theorem jo{wi:TI}{g:TG}{tb:TS}{D:Ends}{σ:St}{H:Hp}(h:∀R:It->Hp->Prop,R=(λJ H1=>∃W:Nat->Nat->St->Hp->Prop,(∃m,W 0 m σ H1)/\∀i m σ H,W i m σ H ->
  (J.stop i H/\D.nx σ H)\/(J.go i H/\∃N:St->Hp->Prop,(∀σ' H',N σ' H'->∃m',m'<m/\W (i+1) m' σ' H')/\∀x H',J.yld i H x H'->g x σ H' λσ2 H2=>tb { D with nx:=N,ct:=N,bk:=D.nx } σ2 H2))->wi σ H R):abf wi g tb D σ H:=h _ rfl
theorem Eu{lo:Int}{n:Nat}{g:TG}{tb:TS}{D:Ends}{σ:St}{H:Hp}{R:It->Hp->Prop}(hR:R=(λJ H1=>∃W:Nat->Nat->St->Hp->Prop,(∃m,W 0 m σ H1)/\∀i m σ H,W i m σ H ->
  (J.stop i H/\D.nx σ H)\/(J.go i H/\∃N:St->Hp->Prop,(∀σ' H',N σ' H'->∃m',m'<m/\W (i+1) m' σ' H')/\∀x H',J.yld i H x H'->g x σ H' λσ2 H2=>tb { D with nx:=N,ct:=N,bk:=D.nx } σ2 H2)))
  (Pv:Nat->St->Hp->Prop)(h0:Pv 0 σ H)(hs:∀i σ H,i<n->Pv i σ H->g (.int (lo+i)) σ H λσ2 H2=>tb { D with nx:=Pv (i+1),ct:=Pv (i+1),bk:=D.nx } σ2 H2)(hd:∀σ H,Pv n σ H->D.nx σ H):R (Itr lo n) H:=by
 subst hR;exact SX Pv h0 hs hd
theorem Bw{K:AF}{a:IN}{xs:List V}{g:TG}{tb:TS}{D:Ends}{σ:St}{H:Hp}{R:It->Hp->Prop}(hR:R=(λJ H1=>∃W:Nat->Nat->St->Hp->Prop,(∃m,W 0 m σ H1)/\∀i m σ H,W i m σ H ->
  (J.stop i H/\D.nx σ H)\/(J.go i H/\∃N:St->Hp->Prop,(∀σ' H',N σ' H'->∃m',m'<m/\W (i+1) m' σ' H')/\∀x H',J.yld i H x H'->g x σ H' λσ2 H2=>tb { D with nx:=N,ct:=N,bk:=D.nx } σ2 H2)))
  (Pv:Nat->St->Hp->Prop)(h0:Pv 0 σ H)(hl:∀i σ H,i<=xs.length->Pv i σ H->SqL K H a xs)(hs:∀i x σ H,xs[i]?=ID x->Pv i σ H->g x σ H λσ2 H2=>tb { D with nx:=Pv (i+1),ct:=Pv (i+1),bk:=D.nx } σ2 H2)(hd:∀σ H,Pv xs.length σ H->D.nx σ H):R (Itl K a) H:=by
 subst hR;exact Xo Pv h0 hl hs hd
def Dq(mp:List (Option Nat))(g:TG)(tc:TT)(te:TE)(σ:St)(Q:VK)(J:It)(H1:Hp):Prop:=∃W:Nat->Nat->List V->St->Hp->Prop,(∃m,W 0 m [] (cZ mp σ) H1)/\∀i m acc τ H2,W i m acc τ H2 ->
  (J.stop i H2/\∀d,H2 d=IF->Q (.ref d) (upd H2 d (.lst acc))) \/
  (J.go i H2/\acc.length<AN/\∃N:List V->St->Hp->Prop,(∀acc' τ' H',N acc' τ' H'->∃m',m'<m/\W (i+1) m' acc' τ' H')/\∀x H3,J.yld i H2 x H3->g x τ H3 λτ1 H4=>tc τ1 H4 λb H5=>
   if b=true then te τ1 H5 λv H6=>N (acc++[v]) τ1 H6 else N acc τ1 H5)
theorem cN{mp:List (Option Nat)}{wi:TI}{g:TG}{tc:TT}{te:TE}{σ:St}{H:Hp}{Q:VK}(h:∀R:It->Hp->Prop,R=Dq mp g tc te σ Q->wi σ H R):oK mp wi g tc te σ H Q:=h _ rfl
theorem vZ{J:It}{mp:List (Option Nat)}{g:TG}{tc:TT}{te:TE}{σ:St}{H:Hp}{Q:VK}{R:It->Hp->Prop}(hR:R=Dq mp g tc te σ Q)(n:Nat)(hz:n<=AN)(Pv:Nat->List V->St->Hp->Prop)(h0:Pv 0 [] (cZ mp σ) H)
  (hl:∀i acc τ H,Pv i acc τ H->acc.length<=i)(hgo:∀i acc τ H,i<n->Pv i acc τ H->J.go i H)(hst:∀acc τ H,Pv n acc τ H->J.stop n H)
  (hs:∀i acc τ H x H3,i<n->Pv i acc τ H->J.yld i H x H3->g x τ H3 λτ1 H4=>tc τ1 H4 λb H5=>if b=true then te τ1 H5 λv H6=>Pv (i+1) (acc++[v]) τ1 H6 else Pv (i+1) acc τ1 H5)
  (hd:∀acc τ H d,Pv n acc τ H->H d=IF->Q (.ref d) (upd H d (.lst acc))):R J H:=by
 subst hR;refine⟨λi m acc τ H2=>m=n-i/\i<=n/\Pv i acc τ H2,⟨_,rfl,De _,h0⟩,?_⟩;rintro i m acc τ H2 ⟨rfl,hi,p⟩;have q3:=hl i acc τ H2 p;by_cases hlt:i<n
 ·exact .inr ⟨hgo i acc τ H2 hlt p,ω,Pv (i+1),λacc' τ' H' q=>⟨_,ω,rfl,hlt,q⟩,λx H3 y=>hs i acc τ H2 x H3 hlt p y⟩
 have e:i=n:=ω;subst e;exact .inl ⟨hst acc τ H2 p,λd hd'=>hd acc τ H2 d p hd'⟩
structure Nm(N:List Str)(sc:D0)(i:Nat)(x:Str):Prop where
 hN:N[i]?=ID x
 hv:Loc sc x
 hd:(x == ("__debug__" : Str))=false
 hcd:(x == ("__classdict__" : Str))=false
def adA(N:List Str)(sc:D0)(i:Nat)(x:Str):Bool:=decide (N[i]?=ID x)&&(decide (sc.names.lookup x=ID .local)||decide (sc.names.lookup x=ID .cell)) && !(x == ("__debug__" : Str)) && !(x == ("__classdict__" : Str))
theorem Nm.of{N:List Str}{sc:D0}{i:Nat}{x:Str}(h:adA N sc i x=true):Nm N sc i x:=by
 unfold adA at h;rw[CH,CH,CH,or_eq_true] at h;obtain⟨⟨⟨h1,h2⟩,h3⟩,h4⟩:=h;exact⟨of_decide_eq_true h1,h2.elim (λz=>.inl (of_decide_eq_true z)) (λz=>.inr (of_decide_eq_true z)),by simpa using h3,by simpa using h4⟩
structure Bn(x:Str):Prop where
 hn:x ≠ "__name__"
 hd:(x == ("__debug__" : Str))=false
section
variable {X:Cx}{i:Nat}{x:Str}{pos pos' p:Pos}{e:Expr}{es:List Expr}{te:TE}{t:TA}{k:Nat}{ps:List Str}{sp:Sp}{id T:String}{r:List V->Hp->VK->Prop}
theorem pn(n:Nm X.N X.env.scope i x):PE X (.Name x pos) (Uo i):=Wg n.hN (n.hv.elim .inl λz=>.inr (.inl z)) n.hd n.hcd
theorem ada(n:Nm X.N X.env.scope i x)(hN:X.N.Nodup)(he:PE X e te)(hs:Kb e (ID (.Name x pos')) pos.line X.env=pure false:=by rfl)(hf:X.fn x=true\/X.env.scope.names.lookup x=ID .local:=by exact .inl Z) :
  PS X (.Assign [.Name x pos'] e pos) (rM te (gb i)):=abE hN n.hN n.hv he hs hf
theorem ade(n:Nm X.N X.env.scope i x)(hN:X.N.Nodup)(hf:X.fn x=true\/X.env.scope.names.lookup x=ID .local:=by exact .inl Z):PG X (.Name x pos) (gb i):=Py hN n.hN n.hv hf
theorem adl(C:Cal X.prog X.w X.K X.mg X.base x k ps sp)(hr:jn k X.A)(hg:Gl X x)(hdb:Bn x)(ha:PA X (e::es) t)
  (he:AK (e::es) X.env=(false,eval e X.env)::AK es X.env:=by rfl)(hpl:(CY pos (AK es X.env)).any (·.1)=false:=by rfl):PE X (.Call (.Name x p) (e::es) [] pos) (zJ sp [] E0 t):=
 abV C hr hg ha hdb.hd he hpl
theorem adn(hc:dR X (.builtin id) r)(hg:Gl X x)(hm:X.mg x=IF)(hv:D5 x=ID (.builtin id))(b:Bn x)(ha:PA X (e::es) t)
  (he:AK (e::es) X.env=(false,eval e X.env)::AK es X.env:=by rfl)(hpl:(CY pos (AK es X.env)).any (·.1)=false:=by rfl):PE X (.Call (.Name x p) (e::es) [] pos) (tCB r t):=Wm hc hg hm hv ha b.hn b.hd he hpl
theorem adk(hc:dR X (.type T) r)(hg:Gl X x)(hm:X.mg x=IF)(hv:D5 x=ID (.type T))(b:Bn x)(ha:PA X (e::es) t)
  (he:AK (e::es) X.env=(false,eval e X.env)::AK es X.env:=by rfl)(hpl:(CY pos (AK es X.env)).any (·.1)=false:=by rfl):PE X (.Call (.Name x p) (e::es) [] pos) (tCB r t):=RK hc hg hm hv ha b.hn b.hd he hpl
theorem ado(n:String)(hg:Gl X x)(hm:X.mg x=IF)(hv:D5 x=ID (.type n))(b:Bn x):PE X (.Name x pos) (tC (.ty n)):=ZW hg hm hv Z b.hn b.hd
end
theorem fY:Bn "len" := ⟨ψ,ψ⟩
theorem X7:Bn "abs" := ⟨ψ,ψ⟩
theorem uJ:Bn "min" := ⟨ψ,ψ⟩
theorem acK:Bn "max" := ⟨ψ,ψ⟩
theorem N5:Bn "all" := ⟨ψ,ψ⟩
theorem acL:Bn "any" := ⟨ψ,ψ⟩
theorem aW:Bn "isinstance" := ⟨ψ,ψ⟩
theorem uK:Bn "int" := ⟨ψ,ψ⟩
theorem qQ:Bn "sum" := ⟨ψ,ψ⟩
theorem ji:Bn "list" := ⟨ψ,ψ⟩
theorem qP:Bn "tuple" := ⟨ψ,ψ⟩
theorem NZ:Bn "str" := ⟨ψ,ψ⟩
theorem rH:Bn "bool" := ⟨ψ,ψ⟩
theorem T3:Bn "sorted" := ⟨ψ,ψ⟩
def tyO:Option HO->Option String
 | some (.lst _)=>ID "list"
 | some (.tup _)=>ID "tuple"
 | _=>IF
def tyN(x:V)(H:Hp):Option String:=match x with
 | .non=>ID "NoneType"
 | .bl _=>ID "bool"
 | .int _=>ID "int"
 | .str _=>ID "str"
 | .ref a=>tyO (H a)
 | _=>IF
theorem Tn.of{x:V}{H:Hp}{t:String}(h:tyN x H=ID t):Tn H x t:=by
 cases x with
 | non=>cases h;exact .non
 | bl b=>cases h;exact .bl b
 | int i=>cases h;exact .int i
 | str s=>cases h;exact .str s
 | ref a=>
  have h':tyO (H a)=ID t:=h;cases e:H a with
  | none=>rw[e] at h';cases h'
  | some o=>
   rw[e] at h';cases o with
   | lst xs=>cases h';exact .lst e
   | tup xs=>cases h';exact .tup e
   | _=>cases h'
 | _=>cases h
def VG:List V->Hp->VK->Prop:=λxs H Q=>match xs with
 | [x,.ty T]=>∃t,tyN x H=ID t/\fD.contains T=true/\Q (.bl (fB t T)) H
 | _=>False
def i2q(o:Option HO)(x:V)(H:Hp)(Q:VK):Prop:=match o with
 | some (.tup [.ty T,.ty U])=>∃t,tyN x H=ID t/\fD.contains T=true/\fD.contains U=true/\Q (.bl (fB t T||fB t U)) H
 | _=>False
def VD:List V->Hp->VK->Prop:=λxs H Q=>match xs with
 | [x,.ref p]=>i2q (H p) x H Q
 | _=>False
theorem bQ{X:Cx}:dR X (.builtin "isinstance") VG:=by
 intro pins s σ H xs us Q I r h;unfold VG at h;split at h
 ·obtain⟨t,e,k,q⟩:=h;exact TF pins s σ H _ us Q I r ⟨_,_,t,rfl,Tn.of e,by simpa using k,q⟩
 exact h.elim
theorem Tw{X:Cx}:dR X (.builtin "isinstance") VD:=by
 intro pins s σ H xs us Q I r h;unfold VD at h;split at h
 ·rename_i x p;unfold i2q at h;split at h
  ·rename_i T U e;obtain⟨t,e1,k1,k2,q⟩:=h;refine Tz pins s σ H _ us Q I r ⟨x,p,[T,U],t,rfl,e,Tn.of e1,λz hz=>?_,by simpa using q⟩;rcases A3.mp hz with rfl|hz
   ·simpa using k1
   obtain rfl:=AJ.mp hz;simpa using k2
  exact h.elim
 exact h.elim
theorem VF(x:V)(T:String)(H:Hp)(Q:VK):VG [x,.ty T] H Q=∃t,tyN x H=ID t/\fD.contains T=true/\Q (.bl (fB t T)) H:=rfl
theorem VB(x:V)(p:IN)(H:Hp)(Q:VK):VD [x,.ref p] H Q=i2q (H p) x H Q:=rfl
theorem acw(x:V)(T U:String)(H:Hp)(Q:VK):i2q (ID (.tup [.ty T,.ty U])) x H Q=∃t,tyN x H=ID t/\fD.contains T=true/\fD.contains U=true/\Q (.bl (fB t T||fB t U)) H:=rfl
theorem aaq:fD.contains "list" = true:=by decide
theorem W7:fD.contains "tuple" = true:=by decide
theorem acp:fD.contains "int" = true:=by decide
theorem aco:fD.contains "str" = true:=by decide
theorem kc_bool:fD.contains "bool" = true:=by decide
theorem ty_int(i:Int)(H:Hp):tyN (.int i) H=ID "int" := rfl
theorem acV(i:Bool)(H:Hp):tyN (.bl i) H=ID "bool" := rfl
theorem ty_str(i:Str)(H:Hp):tyN (.str i) H=ID "str" := rfl
theorem aa9(H:Hp):tyN .non H=ID "NoneType" := rfl
theorem aa8(p:IN)(H:Hp):tyN (.ref p) H=tyO (H p):=rfl
theorem Yr(xs:List V):tyO (ID (.lst xs))=ID "list" := rfl
theorem Yq(xs:List V):tyO (ID (.tup xs))=ID "tuple" := rfl
theorem wF:fB "NoneType" "bool" = false:=by decide
theorem yE:fB "NoneType" "int" = false:=by decide
theorem yD:fB "NoneType" "str" = false:=by decide
theorem wD:fB "NoneType" "list" = false:=by decide
theorem vf:fB "NoneType" "tuple" = false:=by decide
theorem Gi:fB "bool" "bool" = true:=by decide
theorem Je:fB "bool" "int" = true:=by decide
theorem Jd:fB "bool" "str" = false:=by decide
theorem Gh:fB "bool" "list" = false:=by decide
theorem CJ:fB "bool" "tuple" = false:=by decide
theorem Jc:fB "int" "bool" = false:=by decide
theorem Le:fB "int" "int" = true:=by decide
theorem Ld:fB "int" "str" = false:=by decide
theorem Jb:fB "int" "list" = false:=by decide
theorem Gg:fB "int" "tuple" = false:=by decide
theorem IW:fB "str" "bool" = false:=by decide
theorem Lb:fB "str" "int" = false:=by decide
theorem La:fB "str" "str" = true:=by decide
theorem IV:fB "str" "list" = false:=by decide
theorem Gd:fB "str" "tuple" = false:=by decide
theorem Gf:fB "list" "bool" = false:=by decide
theorem Ja:fB "list" "int" = false:=by decide
theorem Ge:fB "list" "list" = true:=by decide
theorem CG:fB "list" "tuple" = false:=by decide
theorem Cz:fB "tuple" "bool" = false:=by decide
theorem Gb:fB "tuple" "int" = false:=by decide
theorem Cy:fB "tuple" "list" = false:=by decide
theorem zV:fB "tuple" "tuple" = true:=by decide
def gtq(o:Option HO)(n:Nat)(t:TGs)(σ:St)(H:Hp)(Q:St->Hp->Prop):Prop:=match o with
 | some (.tup xs)=>xs.length=n/\t xs σ H Q
 | _=>False
def Qn(n:Nat)(t:TGs):TG:=λv σ H Q=>match v with
 | .ref a=>gtq (H a) n t σ H Q
 | _=>False
theorem SN(n:Nat)(t:TGs)(a:IN)(σ:St)(H:Hp)(Q:St->Hp->Prop):Qn n t (.ref a) σ H Q=gtq (H a) n t σ H Q:=rfl
theorem aav(xs:List V)(n:Nat)(t:TGs)(σ:St)(H:Hp)(Q:St->Hp->Prop):gtq (ID (.tup xs)) n t σ H Q=(xs.length=n/\t xs σ H Q):=rfl
def qtq(o:Option HO)(f:List Bool->Bool)(H:Hp)(Q:VK):Prop:=match o with
 | some (.lst xs)=>∃bs,xs=IM As bs/\Q (.bl (f bs)) H
 | _=>False
def vg(f:List Bool->Bool):List V->Hp->VK->Prop:=λxs H Q=>match xs with
 | [.ref p]=>qtq (H p) f H Q
 | _=>False
theorem Jm(f:List Bool->Bool)(p:IN)(H:Hp)(Q:VK):vg f [.ref p] H Q=qtq (H p) f H Q:=rfl
theorem Y9(f:List Bool->Bool)(xs:List V)(H:Hp)(Q:VK):qtq (ID (.lst xs)) f H Q=∃bs,xs=IM As bs/\Q (.bl (f bs)) H:=rfl
section
variable {X:Cx}{es:List Expr}{k:Nat}{t:TGs}{n:Nat}{pos:Pos}
theorem ZF(hc:X.calm=true)(h:PGs X es t)(hn:(CI es X.env).length=n:=by rfl)(hst:(CI es X.env).findIdx? (·.1)=IF:=by rfl):PG X (.Tuple es k pos) (Qn n t):=by
 intro pins s σ H v u Q I r hw;unfold Qn at hw;split at hw
 ·rename_i a;unfold gtq at hw;split at hw
  ·rename_i xs e;exact abM hc h hn hst pins s σ H _ u Q I r ⟨a,xs,rfl,SqT.of e,hw.1,hw.2⟩
  exact hw.elim
 exact hw.elim
theorem wZ(hc:X.calm=true):dR X (.builtin "all") (vg λbs=>bs.all id):=by
 intro pins s σ H xs us Q I r h;unfold vg at h;split at h
 ·rename_i p;unfold qtq at h;split at h
  ·rename_i ys e;obtain⟨bs,rfl,q⟩:=h;exact X6 hc pins s σ H _ us Q I r ⟨p,bs,rfl,SqL.of e,q⟩
  exact h.elim
 exact h.elim
theorem TQ(hc:X.calm=true):dR X (.builtin "any") (vg λbs=>bs.any id):=by
 intro pins s σ H xs us Q I r h;unfold vg at h;split at h
 ·rename_i p;unfold qtq at h;split at h
  ·rename_i ys e;obtain⟨bs,rfl,q⟩:=h;exact X5 hc pins s σ H _ us Q I r ⟨p,bs,rfl,SqL.of e,q⟩
  exact h.elim
 exact h.elim
end
def Vw:List V->Hp->VK->Prop:=λxs H Q=>match xs with
 | [.int i,.int j]=>Q (.int (if j<i then j else i)) H
 | _=>False
def Vy:List V->Hp->VK->Prop:=λxs H Q=>match xs with
 | [.int i,.int j]=>Q (.int (if j>i then j else i)) H
 | _=>False
theorem Vv(i j:Int)(H:Hp)(Q:VK):Vw [.int i,.int j] H Q=Q (.int (if j<i then j else i)) H:=rfl
theorem Vx(i j:Int)(H:Hp)(Q:VK):Vy [.int i,.int j] H Q=Q (.int (if j>i then j else i)) H:=rfl
theorem wY{X:Cx}(hc:X.calm=true):dR X (.builtin "min") Vw:=by
 intro pins s σ H xs us Q I r h;unfold Vw at h;split at h
 ·exact Tp hc pins s σ H _ us Q I r ⟨_,_,rfl,h⟩
 exact h.elim
theorem Tq{X:Cx}(hc:X.calm=true):dR X (.builtin "max") Vy:=by
 intro pins s σ H xs us Q I r h;unfold Vy at h;split at h
 ·exact Tt hc pins s σ H _ us Q I r ⟨_,_,rfl,h⟩
 exact h.elim
structure QE(X:Cx)(e:Expr)(t:TE):Prop where
 h:PE X e t
structure QT(X:Cx)(e:Expr)(t:TT):Prop where
 h:PT X e t
structure QW(X:Cx)(e:Expr)(t:TT):Prop where
 h:PW X e t
structure QA(X:Cx)(es:List Expr)(t:TA):Prop where
 h:PA X es t
structure QS(X:Cx)(st:Stmt)(t:TS):Prop where
 h:PS X st t
structure QB(X:Cx)(st:List Stmt)(t:TS):Prop where
 h:PSs X st t
structure QG(X:Cx)(e:Expr)(t:TG):Prop where
 h:PG X e t
structure QGs(X:Cx)(es:List Expr)(t:TGs):Prop where
 h:PGs X es t
structure QI(X:Cx)(tg e:Expr)(t:TI):Prop where
 h:PI X tg e t
structure QC(X:Cx)(cs:List Expr)(t:TT):Prop where
 h:PTs X cs t
section
variable {X:Cx}{i:Nat}{x:Str}{pos pos' p tpos:Pos}{e a b c o:Expr}{es rest:List Expr}{te ta tb tc to ti:TE}{tA tB':TT}{t:TA}{k n kk:Nat}{ps:List Str}{sp:Sp}{id T:String}{r:List V->Hp->VK->Prop}{st:Stmt}{sts:List Stmt}{ts us:TS}{tg iter:Expr}{wi:TI}{g:TG}{gs:TGs}
theorem ad2(h:Nm X.N X.env.scope i x):QE X (.Name x pos) (Uo i):=⟨pn h⟩
theorem ad1(i:Nat){x:Str}{pos:Pos}(hN:X.N[i]?=ID x:=by rfl)(hv:Vis X.env.scope x:=by first|exact B8 rfl|exact IP (B8 Z)|exact IP (IP Z))(hd:(x == ("__debug__" : Str))=false:=by decide)
  (hcd:(x == ("__classdict__" : Str))=false:=by decide):QE X (.Name x pos) (Uo i):=⟨Wg hN hv hd hcd⟩
theorem aA{i j pos}:QE X (.Constant (.int i) j pos) (tC (.int i)):=⟨abU⟩
theorem jb{b j pos}:QE X (.Constant (.bool b) j pos) (tC (.bl b)):=⟨adp⟩
theorem V2{j pos}:QE X (.Constant .none j pos) (tC .non):=⟨abS⟩
theorem jT{x j pos}:QE X (.Constant (.str x) j pos) (tC (.str x)):=⟨abO⟩
theorem aL{op:Operator}{r:R2}(ho:OpR X (ET op) r)(ha:QE X a ta)(hb:QE X b tb):QE X (.BinOp a op b pos) (tOp r ta tb):=⟨adh ho ha.h hb.h⟩
theorem xJ{op:UnaryOp}{r:V->Hp->VK->Prop}(ho:UnR X (unaryOp op) r)(ha:QE X a ta):QE X (.UnaryOp op a pos) (tUn r ta):=⟨adf ho ha.h⟩
theorem Lk(ha:QE X a ta):QE X (.UnaryOp .Not a pos) (Ut ta):=⟨abR ha.h⟩
theorem lA{op:CmpOp}{r:R2}(ho:OpR X (Ev op) r)(ha:QE X a ta)(hb:QE X b tb)(hm:Hb op b=false):QE X (.Compare a [op] [b] pos) (tOp r ta tb):=⟨ZS ho ha.h hb.h hm⟩
theorem b7{op:CmpOp}{r:R2}(ho:OpR X (Ev op) r)(ha:QE X a ta)(hb:QE X b tb)(hm:Hb op b=false):QT X (.Compare a [op] [b] pos) (Ij (tOp r ta tb)):=⟨Zk ho ha.h hb.h hm⟩
theorem uc{op}(h:QE X a ta):QE X (.BoolOp op [a] pos) ta:=⟨abQ h.h⟩
theorem pO(ha:QE X a ta)(hb:QE X (.BoolOp .And (b::rest) pos) tb):QE X (.BoolOp .And (a::b::rest) pos) (UJ ta tb):=⟨abW ha.h hb.h⟩
theorem ac8(ha:QE X a ta)(hb:QE X (.BoolOp .Or (b::rest) pos) tb):QE X (.BoolOp .Or (a::b::rest) pos) (abe ta tb):=⟨adg ha.h hb.h⟩
theorem z7(hc:QT X c tA)(ha:QE X a ta)(hb:QE X b tb):QE X (.IfExp c a b pos) (tIf tA ta tb):=⟨Wi hc.h ha.h hb.h⟩
theorem aR{r:R2}(hr:IxR X r)(ha:QE X a ta)(hb:QE X b tb)(hs:QM b):QE X (.Subscript a b pos) (tOp r ta tb):=⟨adi hr ha.h hb.h hs⟩
theorem eY(h:QA X es t):QE X (.List es pos) (Ra t):=⟨abT h.h⟩
theorem bY{x1}(h:QA X es t):QE X (.Tuple es x1 pos) (K3 t):=⟨abN h.h⟩
theorem aq:QA X [] K4:=⟨abX⟩
theorem ak(ha:QE X e te)(hr:QA X es t)(hs:AK (e::es) X.env=(false,eval e X.env)::AK es X.env:=by rfl):QA X (e::es) (xu te t):=⟨Z0 ha.h hr.h hs⟩
theorem bw(C:Cal X.prog X.w X.K X.mg X.base x k ps sp)(hr:jn k X.A)(hg:Gl X x)(hdb:Bn x)(ha:QA X (e::es) t)
  (he:AK (e::es) X.env=(false,eval e X.env)::AK es X.env:=by rfl)(hpl:(CY pos (AK es X.env)).any (·.1)=false:=by rfl):QE X (.Call (.Name x p) (e::es) [] pos) (zJ sp [] E0 t):=⟨adl C hr hg hdb ha.h he hpl⟩
theorem bB(hc:dR X (.builtin id) r)(hg:Gl X x)(hm:X.mg x=IF)(hv:D5 x=ID (.builtin id))(b:Bn x)(ha:QA X (e::es) t)
  (he:AK (e::es) X.env=(false,eval e X.env)::AK es X.env:=by rfl)(hpl:(CY pos (AK es X.env)).any (·.1)=false:=by rfl):QE X (.Call (.Name x p) (e::es) [] pos) (tCB r t):=⟨adn hc hg hm hv b ha.h he hpl⟩
theorem rZ(hc:dR X (.type T) r)(hg:Gl X x)(hm:X.mg x=IF)(hv:D5 x=ID (.type T))(b:Bn x)(ha:QA X (e::es) t)
  (he:AK (e::es) X.env=(false,eval e X.env)::AK es X.env:=by rfl)(hpl:(CY pos (AK es X.env)).any (·.1)=false:=by rfl):QE X (.Call (.Name x p) (e::es) [] pos) (tCB r t):=⟨adk hc hg hm hv b ha.h he hpl⟩
theorem gM(n:String)(hg:Gl X x)(hm:X.mg x=IF)(hv:D5 x=ID (.type n))(b:Bn x):QE X (.Name x pos) (tC (.ty n)):=⟨ado n hg hm hv b⟩
theorem pK(ha:QT X a tA):QT X (.UnaryOp .Not a pos) (Yt tA):=⟨abC ha.h⟩
theorem jt(h:QE X e te)(he:∀whole,isTrue e X.env whole=(do let v <- whole;F4 e.pos;GB [v] (truthy v)):=by intro _;rfl):QT X e (tB te):=⟨abB h.h he⟩
theorem Gn(ha:QT X a tA):QW X (.BoolOp .And [a] pos) tA:=⟨Zi ha.h⟩
theorem tZ(ha:QT X a tA):QW X (.BoolOp .Or [a] pos) tA:=⟨abz ha.h⟩
theorem Lj(ha:QT X a tA)(hb:QW X (.BoolOp .And (b::rest) pos) tB'):QW X (.BoolOp .And (a::b::rest) pos) (Yu tA tB'):=⟨abA ha.h hb.h⟩
theorem xH(ha:QT X a tA)(hb:QW X (.BoolOp .Or (b::rest) pos) tB'):QW X (.BoolOp .Or (a::b::rest) pos) (tOr tA tB'):=⟨ac9 ha.h hb.h⟩
theorem CN(h:QW X e tA):QT X e tA:=⟨h.h.pt⟩
theorem cP:QB X [] Ou:=⟨Zn⟩
theorem aN(h:QS X st ts):QB X [st] ts:=⟨Zm h.h⟩
theorem aF(h:QS X st ts)(h2:QB X sts us):QB X (st::sts) (Q9 ts us):=⟨V5 h.h h2.h⟩
theorem bf(he:QE X e te):QS X (.Return (ID e) pos) (Uq te):=⟨abF he.h⟩
theorem eX{c:Expr}{a b:List Stmt}{tc:TT}(hc:QT X c tc)(ha:QB X a ts)(hb:QB X b us):QS X (.If c a b pos) (Uv tc ts us):=⟨adb hc.h ha.h hb.h⟩
theorem iY(he:QE X e te)(hs:Kb e IF pos.line X.env=pure false:=by rfl):QS X (.Expr e pos) (Il te):=⟨Zr he.h hs⟩
theorem bh(h:Nm X.N X.env.scope i x)(hN:X.N.Nodup)(he:QE X e te)(hs:Kb e (ID (.Name x pos')) pos.line X.env=pure false:=by rfl)(hf:X.fn x=true\/X.env.scope.names.lookup x=ID .local:=by exact .inl Z) :
  QS X (.Assign [.Name x pos'] e pos) (rM te (gb i)):=⟨ada h hN he.h hs hf⟩
theorem pN(he:QE X e te)(hg:QG X tg g)(hs:DS [tg] e pos.line X.env=pure false:=by rfl)(hw:L7 [tg] e X.env=pure IF:=by rfl)
  (h1:(CI [tg] X.env).map (·.2)=[C7 tg X.env]:=by rfl):QS X (.Assign [tg] e pos) (rM te g):=⟨abJ he.h hg.h hs hw h1⟩
theorem Gp{i j:Nat}{x y:Str}{a b:Expr}{ta:TA}{px py pt:Pos}{kt k2 pt2}(hc:X.calm=true)(hN:X.N.Nodup)(hi:X.N[i]?=ID x)(hj:X.N[j]?=ID y)(hij:i≠j)
  (hx:X.env.scope.names.lookup x=ID .local)(hy:X.env.scope.names.lookup y=ID .local)(ha:QA X [a,b] ta)
  (hw:L7 [.Tuple [.Name x px,.Name y py] kt pt] (.Tuple [a,b] k2 pt2) X.env=pure (ID [x,y]))
  (hs:DS [.Tuple [.Name x px,.Name y py] kt pt] (.Tuple [a,b] k2 pt2) pos.line X.env=pure false:=by rfl) :
  QS X (.Assign [.Tuple [.Name x px,.Name y py] kt pt] (.Tuple [a,b] k2 pt2) pos) (abd i j ta):=⟨abG hc hN hi hj hij hx hy ha.h hw hs⟩
theorem VN{c:Expr}{body:List Stmt}{tc:TT}(hp:PassesOwn (AM X.prog X.w) X.A X.env X.xe)(hc:QT X c tc)(hb:QB X body ts):QS X (.While c body [] pos) (K1 tc ts):=⟨V6 hp hc.h hb.h⟩
theorem fV{body:List Stmt}(hp:PassesOwn (AM X.prog X.w) X.A X.env X.xe)(hc:X.calm=true)(hi:QI X tg iter wi)(hg:QG X tg g)(hb:QB X body ts)
  (hs:∀x,BC iter X.env x=pure x:=by intro _;rfl):QS X (.For tg iter body [] pos) (abf wi g ts):=⟨abH hp hc hi.h hg.h hb.h hs⟩
theorem dG(h:Nm X.N X.env.scope i x)(hN:X.N.Nodup)(hf:X.fn x=true\/X.env.scope.names.lookup x=ID .local:=by exact .inl Z):QG X (.Name x pos) (gb i):=⟨ade h hN hf⟩
theorem aY(i:Nat)(hN:X.N.Nodup)(hi:X.N[i]?=ID x)(hx:Loc X.env.scope x)(hf:X.fn x=true\/X.env.scope.names.lookup x=ID .local:=by first|exact .inl rfl|exact .inr Z):QG X (.Name x pos) (gb i):=⟨Py hN hi hx hf⟩
theorem dU:QGs X [] acB:=⟨ZD⟩
theorem aP(h1:QG X e g)(h2:QGs X es gs)(hs:(CI (e::es) X.env).map (·.2)=C7 e X.env::(CI es X.env).map (·.2):=by rfl):QGs X (e::es) (Xl g gs):=⟨Wc h1.h h2.h hs⟩
theorem fW{n:Nat}(hc:X.calm=true)(h:QGs X es gs)(hn:(CI es X.env).length=n:=by rfl)(hst:(CI es X.env).findIdx? (·.1)=IF:=by rfl):QG X (.Tuple es k pos) (Qn n gs):=⟨ZF hc h.h hn hst⟩
theorem Yc(o:Expr)(c j)(p pos:Pos)(env:Env)(v:Ap):C7 (.Subscript o (.Constant c j p) pos) env v=(do
   let ov <- GB [v] (eval o env)
   let iv <- GB [v,ov] (eval (.Constant c j p) env)
   F4 pos
   GB [v,ov,iv] (setItem ov iv v)
   release [v,ov,iv] []):=rfl
theorem Yb(o:Expr)(y)(p pos:Pos)(env:Env)(v:Ap):C7 (.Subscript o (.Name y p) pos) env v=(do
   let ov <- GB [v] (eval o env)
   let iv <- GB [v,ov] (eval (.Name y p) env)
   F4 pos
   GB [v,ov,iv] (setItem ov iv v)
   release [v,ov,iv] []):=rfl
theorem Gs{c j}{t:T9}(ho:QE X o to)(hi:QE X (.Constant c j p) ti)(hs:Ua X t):QG X (.Subscript o (.Constant c j p) pos) (aax to ti t):=⟨Wd ho.h hi.h hs (λv=>Yc o c j p pos X.env v)⟩
theorem Gr{y}{t:T9}(ho:QE X o to)(hi:QE X (.Name y p) ti)(hs:Ua X t):QG X (.Subscript o (.Name y p) pos) (aax to ti t):=⟨Wd ho.h hi.h hs (λv=>Yb o y p pos X.env v)⟩
theorem jw(hg:Gl X "range")(hm:X.mg "range" = IF)(ha:QA X [a] t)(hs:AK [a] X.env=[(false,eval a X.env)]:=by rfl):QI X tg (.Call (.Name "range" p) [a] [] pos) (vO t):=⟨RG hg hm ha.h hs⟩
theorem ju(hg:Gl X "range")(hm:X.mg "range" = IF)(ha:QA X [a,b] t)(hs:AK [a,b] X.env=[(false,eval a X.env),(false,eval b X.env)]:=by rfl)(hs2:AK [b] X.env=[(false,eval b X.env)]:=by rfl):QI X tg (.Call (.Name "range" p) [a,b] [] pos) (vN t):=⟨RD hg hm ha.h hs hs2⟩
theorem cB:QC X [] Fw:=⟨Zj⟩
theorem cR{NX:List Str}{kX:List (Str×B2)}{scope:D0}{elt:Expr}{ifs:List Expr}{tc:TT}(N:List Str)(mp:List (Option Nat))(hNX:X.N=NX)(hkX:X.env.scope.names=kX)(S:lU NX kX N mp scope)(hc:X.calm=true)
  (hi:QI X tg iter wi)(hg:∀cl C s H fp,QG (aK X N scope cl C s H fp) tg g)(ht:∀cl C s H fp,QC (aK X N scope cl C s H fp) ifs tc)(he:∀cl C s H fp,QE (aK X N scope cl C s H fp) elt te)
  (hs:∀x,BC iter X.env x=pure x:=by intro _;rfl):QE X (.ListComp elt [⟨tg,iter,ifs,0⟩] scope pos) (oK mp wi g tc te):=
 ⟨ZR N mp hNX hkX S hc hi.h (λcl C s H fp=>(hg cl C s H fp).h) (λcl C s H fp=>(ht cl C s H fp).h) (λcl C s H fp=>(he cl C s H fp).h) hs⟩
end
section
variable {P:A1}{w:BD}{K:AF}{mg:Str->Option Ap}{base:Heap}
theorem Fun.okq{x qual:Str}{st:Stmt}{f:IN}{fd:D3}{N ps:List Str}{k:Nat}{sp:Sp}(F:Fun K x qual st f fd)(S:bA N ps (aj st))(len:∀vs H Q E,sp vs H Q E->vs.length=ps.length)
   (hbody:∀(cdv:Ap)(A:BA)(outer:List Env)(s:AA)(H:Hp)(vs:List V)(Q:VK)(E:XK),jn k (A.deeper (KM qual (aj st) s.heap.objs.size f cdv))->sp vs H Q E ->
   ∃t,QB (Kh CX0 P w K mg base N qual (aj st) f cdv A outer s H E).nox (fG st) t/\t { nx:=λ_ H'=>Q .non H',rt:=Q } (L2.start N vs) H):dw P w K mg base CX0 (k+1) f fd ps sp:=
 F.ok S len λcdv A outer s H vs Q E hr hsp=>by
  obtain⟨t,h,q⟩:=hbody cdv A outer s H vs Q E hr hsp;exact⟨t,h.h,q⟩
end
theorem Ls:∀(ns:List Int),preSum (λi=>(ns[i]?).getD 0) ns.length=ns.sum:=by
 have key:∀(f:Nat->Int)(n:Nat),preSum f (n+1)=preSum f n+f n:=λf n=>rfl;have key2:∀(n:Nat)(f g:Nat->Int),(∀i,i<n->f i=g i)->preSum f n=preSum g n:=by
  intro n
  induction n with
  | zero=>intros;rfl
  | succ n ih=>intro f g h;rw[key,key,ih f g λi hi=>h i (DT hi),h n (C3 n)]
 have key3:∀(n:Nat)(f:Nat->Int),preSum f (n+1)=f 0+preSum (λi=>f (i+1)) n:=by
  intro n
  induction n with
  | zero=>intro f;show(0:Int)+f 0=f 0+0;omega
  | succ n ih=>intro f;rw[key,ih,key];omega
 intro ns
 induction ns with
 | nil=>rfl
 | cons a r ih=>
  rw[EX,key3,sum_cons,<- ih];rfl
def smq(o:Option HO)(H:Hp)(Q:VK):Prop:=match o with
 | some (.lst xs)=>∃ns:List Int,xs=ns.map At/\Q (.int ns.sum) H
 | _=>False
def Vq:List V->Hp->VK->Prop:=λxs H Q=>match xs with
 | [.ref p]=>smq (H p) H Q
 | _=>False
theorem Rq(p:IN)(H:Hp)(Q:VK):Vq [.ref p] H Q=smq (H p) H Q:=rfl
theorem Yz(xs:List V)(H:Hp)(Q:VK):smq (ID (.lst xs)) H Q=∃ns:List Int,xs=ns.map At/\Q (.int ns.sum) H:=rfl
section
variable {X:Cx}
theorem iU(hc:X.calm=true):dR X (.builtin "sum") Vq:=by
 intro pins s σ H xs us Q I r h;unfold Vq at h;split at h
 ·rename_i p;unfold smq at h;split at h
  ·rename_i ys e;obtain⟨ns,rfl,q⟩:=h;cases r with
   | cons r rr=>
    cases rr;cases r;obtain⟨its,rv,pl,hz⟩:=I.list (SqL.of e);have hl:=rv.length;have lt:p<s.heap.objs.size:=by obtain⟨_,e,_⟩:=pl.isList;exact AQ e
    refine call_sum_walkG (FK pl.isList ?_);refine⟨s.heap.objs.size,[s.heap.objs.size,p],[s.heap.objs.size],its.toArray.size,_,_,λi=>(ns[i]?).getD 0,rfl,Walks.list (A:=X.A.in1) (I.ok.hd hc) _ p (B1 lt) _,
     ⟨⟨_,AO _ rfl,rfl,rfl⟩,pl.isList.push _⟩,?_,λi v hP=>?_,λh' tk t' hk=>?_⟩
    ·intro b hb;rw[Cb];simp only[A3,Bz,or_false] at hb;rcases hb with rfl|rfl
     ·exact C3 _
     exact DT lt
    ·have e1:its[i]?=ID v:=by simpa using hP
     have hi:i<its.length:=by
      rcases FU i its.length with z|z
      ·exact z
      rw[BM z] at e1;cases e1
     have hi2:i<ns.length:=by rw[<- hl,AC] at hi;exact hi
     obtain⟨u,hu,ru⟩:=rv.get (i:=i) (x:=.int ns[i]) (by rw[AL,AD hi2];rfl);rw[e1] at hu;cases hu;obtain⟨t,rfl⟩:=ru;exact⟨t,by show _=EQ ((ns[i]?).getD 0) t;rw[AD hi2];rfl⟩
    have e2:its.toArray.size=ns.length:=by rw[AZ,<- hl,AC]
    rw[e2,Ls];refine⟨.int _,H,I.kept λb o e=>hk b o (λhm=>?_) (AB _ e),⟨t',rfl⟩,q⟩;rw[AJ.mp hm] at e;exact ES _ (AQ e)
  exact h.elim
 exact h.elim
def Lg(i:Int)(n:Nat):List V:=(BN n).map λk=>At (i+(k:Nat))
def Uu(ta:TA):TE:=λσ H Q=>ta σ H λvs H1=>∃i j:Int,vs=[.int i,.int j]/\(-(2^62)<=i/\i<2^62/\-(2^62)<=j/\j<2^62)/\(j-i).toNat<=AN/\∀p,H1 p=IF->Q (.ref p) (upd H1 p (.lst (Lg i (j-i).toNat)))
theorem Ol:∀{xs:List V}{us:List Ap},xs.length=us.length->(∀(i:Nat) x u,xs[i]?=ID x->us[i]?=ID u->RelV x u)->Vals xs us
 | [],[],_,_=>.nil
 | [],_::_,h,_=>by cases h
 | _::_,[],h,_=>by cases h
 | x::xs,u::us,h,f=>.cons (f 0 x u rfl rfl) (Ol (by simpa using h) λi y v h1 h2=>f (i+1) y v h1 h2)
theorem acg:AN<=2^24:=by decide
theorem ZJ{a b:Expr}{ta:TA}{p p2 pos pos2:Pos}(hc:X.calm=true)(hgl:Gl X "list")(hml:X.mg "list" = IF)(hg:Gl X "range")(hm:X.mg "range" = IF)(ha:PA X [a,b] ta)
  (hs:AK [a,b] X.env=[(false,eval a X.env),(false,eval b X.env)]:=by rfl)(hs2:AK [b] X.env=[(false,eval b X.env)]:=by rfl)
  (he:AK [.Call (.Name "range" p2) [a,b] [] pos2] X.env=[(false,eval (.Call (.Name "range" p2) [a,b] [] pos2) X.env)]:=by rfl) :
  PE X (.Call (.Name "list" p) [.Call (.Name "range" p2) [a,b] [] pos2] [] pos) (Uu ta):=by
 intro pins s σ H Q I h;refine Ff (gA I hgl hml FF ?_ δ δ);refine BE ?_ he rfl;rw[he];show AH _ _ (spliced ((false,eval (.Call (.Name "range" p2) [a,b] [] pos2) X.env)::[])) _ _ s;refine CL ?_;refine Call_ (gA I hg hm boot_range (BE (thA (ha pos2 pins s σ H _ I h) λus s1 vs H1 I1 r1 q1=>?_) (by rw[hs,hs2]) (by rw[hs2];rfl)));obtain⟨i,j,e,⟨q1,q2,q3,q4⟩,hz,q⟩:=q1;subst e;cases r1 with
 | cons r rr=>
  cases rr with
  | cons r' rr=>
   cases rr;obtain⟨t,rfl⟩:=r;obtain⟨t',rfl⟩:=r';refine call_range_2 (C0 ?_);refine call_list_range (n:=(j-i).toNat) (I1.ok.hd hc) (IsRange.new ..) (small_one q1 q2 q3 q4) (by rw[rangeSize_one];split <;> omega) (CM hz acg) λh' tk acc' c' kp e it=>?_
   have I2:Inv X pins σ H1 { s1 with heap:=s1.heap.push { cls:=.type "range",data:=.fields #[.int i t,.int j t',.int 1 s1.toks] },toks:=s1.toks+1 }:=I1.kept λb o e=>AB _ e;have hf:H1 (s1.heap.push { cls:=.type "range",data:=.fields #[.int i t,.int j t',.int 1 s1.toks] }).objs.size=IF:=I2.hok.fresh (AV _);refine⟨.ref _,_,I2.laid (t':=tk) kp (AV _) (show cu X.prog X.w _ h' _ (.lst (Lg i (j-i).toNat)) from⟨?_,acc'.toList,c',?_,by simpa using e⟩),rfl,q _ hf⟩
   ·simpa [Lg] using hz
   obtain⟨it1,it2⟩:=it;refine Ol (by simp[Lg,it1]) λk x u h1 h2=>?_;have h2':acc'[k]?=ID u:=by simpa using h2
   obtain⟨t9,rfl⟩:=it2 k u h2';unfold Lg at h1;rw[AL] at h1;have hk:k<(j-i).toNat:=by
    rcases FU k (j-i).toNat with z|z
    ·exact z
    rw[BM (by simpa using z)] at h1;cases h1
   rw[D8 hk] at h1;cases h1;exact⟨t9,by rw[Int.mul_one]⟩
theorem Zf{a b:Expr}{ta:TA}{p p2 pos pos2:Pos}(hc:X.calm=true)(hgl:Gl X "list")(hml:X.mg "list" = IF)(hg:Gl X "range")(hm:X.mg "range" = IF)(ha:QA X [a,b] ta)
  (hs:AK [a,b] X.env=[(false,eval a X.env),(false,eval b X.env)]:=by rfl)(hs2:AK [b] X.env=[(false,eval b X.env)]:=by rfl)
  (he:AK [.Call (.Name "range" p2) [a,b] [] pos2] X.env=[(false,eval (.Call (.Name "range" p2) [a,b] [] pos2) X.env)]:=by rfl) :
  QE X (.Call (.Name "list" p) [.Call (.Name "range" p2) [a,b] [] pos2] [] pos) (Uu ta):=⟨ZJ hc hgl hml hg hm ha.h hs hs2 he⟩
def adq(a b:Option HO)(H:Hp)(Q:VK):Prop:=match a,b with
 | some (.lst xs),ID (.lst zs)=>xs.length+zs.length<=AN/\∀p,H p=IF->Q (.ref p) (upd H p (.lst (xs++zs)))
 | _,_=>False
def Pa:R2:=λx y H Q=>match x,y with
 | .int i,.int j=>Q (.int (i+j)) H
 | .ref p,.ref q=>adq (H p) (H q) H Q
 | _,_=>False
theorem Y8(i j:Int)(H:Hp)(Q:VK):Pa (.int i) (.int j) H Q=Q (.int (i+j)) H:=rfl
theorem Y7(p q:IN)(H:Hp)(Q:VK):Pa (.ref p) (.ref q) H Q=adq (H p) (H q) H Q:=rfl
theorem acN(xs zs:List V)(H:Hp)(Q:VK):adq (ID (.lst xs)) (ID (.lst zs)) H Q=(xs.length+zs.length<=AN/\∀p,H p=IF->Q (.ref p) (upd H p (.lst (xs++zs)))):=rfl
theorem aX:OpR X (ET .Add) Pa:=by
 intro pins s σ H x y v u Q I rx ry h;unfold Pa at h;split at h
 ·exact ab4 pins s σ H _ _ v u Q I rx ry ⟨_,_,rfl,rfl,h⟩
 ·rename_i p q;unfold adq at h;split at h
  ·rename_i xs zs e1 e2;exact ab3 pins s σ H _ _ v u Q I rx ry ⟨p,q,xs,zs,rfl,rfl,e1,e2,h.1,h.2⟩
  exact h.elim
 exact h.elim
def eqL:List V->List V->Bool
 | [],[]=>true
 | x::xs,y::ys=>eqV x y&&eqL xs ys
 | _,_=>false
def adB(a b:Option HO)(H:Hp)(Q:VK):Prop:=match a,b with
 | some (.lst xs),ID (.lst zs)=>xs.all Qo=true/\zs.all Qo=true/\Q (.bl (!eqL xs zs)) H
 | _,_=>False
def YM:R2:=λx y H Q=>match x,y with
 | .ref p,.ref q=>adB (H p) (H q) H Q
 | x,y=>rNe x y H Q
theorem abu(i j:Int)(H:Hp)(Q:VK):YM (.int i) (.int j) H Q=rNe (.int i) (.int j) H Q:=rfl
theorem abv(i j:Bool)(H:Hp)(Q:VK):YM (.bl i) (.bl j) H Q=rNe (.bl i) (.bl j) H Q:=rfl
theorem Qt:∀(xs zs:List V),xs.length=zs.length->((BN xs.length).all λj=>match xs[j]?,zs[j]? with|some a,ID b=>eqV a b|_,_=>true)=eqL xs zs
 | [],[],_=>rfl
 | [],_::_,h=>by cases h
 | _::_,[],h=>by cases h
 | x::xs,z::zs,h=>by
  have ih:=Qt xs zs (by simpa using h);rw[EX,List.range_succ_eq_map,all_cons,all_map];show(eqV x z&&_)=(eqV x z&&eqL xs zs);rw[<- ih];rfl
theorem Qs:∀(xs zs:List V),xs.length≠zs.length->eqL xs zs=false
 | [],[],h=>absurd rfl h
 | [],_::_,_=>rfl
 | _::_,[],_=>rfl
 | x::xs,z::zs,h=>by
  show(eqV x z&&eqL xs zs)=false;rw[Qs xs zs (by simpa using h),Bool.and_false]
theorem jU(hu:X.A.units<FO):OpR X (Ev .NotEq) YM:=by
 intro pins s σ H x y v u Q I rx ry h;unfold YM at h;split at h
 ·rename_i p q;unfold adB at h;split at h
  ·rename_i xs zs e1 e2;obtain⟨f1,f2,q⟩:=h;cases rx;cases ry;obtain⟨its1,r1,pl1,hz1⟩:=I.list (SqL.of e1);obtain⟨its2,r2,pl2,hz2⟩:=I.list (SqL.of e2);have l1:=r1.length;have l2:=r2.length;by_cases hl:xs.length=zs.length
   ·refine SeqAt.RcNeAt.lists (e:=λj=>match xs[j]?,zs[j]? with|some a,ID b=>eqV a b|_,_=>true) pl1.isList pl2.isList (by simp only[AZ];omega) hu (λj h1 h2=>?_) X.prog X.w X.xe (EP X pins σ Q) ?_
    ·have j1:j<xs.length:=by simp only[AZ] at h1;omega
     have j2:j<zs.length:=ω;have g1:xs[j]?=ID xs[j]:=AD j1;have g2:zs[j]?=ID zs[j]:=AD j2;obtain⟨u1,hu1,ru1⟩:=r1.get g1;obtain⟨u2,hu2,ru2⟩:=r2.get g2;have k1:its1.toArray[j]=u1:=by
      have:=AI.mp hu1;obtain⟨_,z⟩:=this;simpa using z
     have k2:its2.toArray[j]=u2:=by
      have:=AI.mp hu2;obtain⟨_,z⟩:=this;simpa using z
     rw[k1,k2,g1,g2];exact acF ru1 ru2 (Go.mp f1 _ (D7 j1)) (Go.mp f2 _ (D7 j2))
    rw[show its1.toArray.size=xs.length by simp only[AZ];omega,Qt xs zs hl];exact⟨.bl _,H,I,rfl,q⟩
   rw[Qs xs zs hl] at q;refine SeqAt.RcNeAt.lists_lengths pl1.isList pl2.isList (by simp only[AZ,bne_iff_ne,ne_eq];omega) hu X.prog X.w X.xe (EP X pins σ Q) ⟨.bl _,H,I,rfl,q⟩
  exact h.elim
 exact adu pins s σ H _ _ v u Q I rx ry h
end
structure bF(H:Hp)(p:IN)(B:Int):Prop where
 ex:∃a b c:Int,H p=ID (.lst [.int a,.int b,.int c])/\0<=a/\0<=b/\b<2147483629/\0<=c/\c<=B
theorem bF.same{H H':Hp}{p:IN}{B:Int}(h:bF H p B)(s:Same H H'):bF H' p B:=by
 obtain⟨a,b,c,e,r⟩:=h;exact⟨a,b,c,s _ _ e,r⟩
theorem bF.le{H:Hp}{p:IN}{B B':Int}(h:bF H p B)(l:B<=B'):bF H p B':=by
 obtain⟨a,b,c,e,r1,r2,r3,r4,r5⟩:=h;exact⟨a,b,c,e,r1,r2,r3,r4,ω⟩
theorem bF.ne{H:Hp}{p q:IN}{B:Int}(h:bF H p B)(n:H q=IF):q≠p:=by
 obtain⟨a,b,c,e,_⟩:=h;exact(aB e n).symm
def U7(K:AF):Sp:=λvs H Q _=>∃(a:IN)(ns:List Int)(k:Int),vs=[.ref a,.int k]/\SqL K H a (ns.map At)/\0<=k/\∀v:Int,Q (.int v) H
def U4(K:AF):Sp:=λvs H Q _=>∃(a:IN)(ns:List Int)(k:Int),vs=[.ref a,.int k]/\SqL K H a (ns.map At)/\0<=k/\k<=100/\∀p H',H p=IF->Same H H'->bF H' p 0->Q (.ref p) H'
def lV(n:Nat):Sp:=λvs H Q _=>∃(p:IN)(m B:Int),vs=[.ref p,.int m]/\bF H p B/\B+(n:Int)<=1000100/\0<m/\m<2^70/\1<=n/\(1000000<=m->2<=n) /\
 ∀r H',0<=r->r<m->bG p H H'->bF H' p (B+n)->Q (.int r) H'
theorem abK(c:Int):∃v:Int,atI [At 2147483587,At 2147483579,At 2147483563,At 2147483549,At 2147483543,At 2147483497,At 2147483489] (c%7)=ID (.int v)/\0<v:=by
 have h1:0<=c%7:=FV _ δ;have h2:c%7<7:=EM _ δ;generalize c%7=d at h1 h2;have h3:d=0\/d=1\/d=2\/d=3\/d=4\/d=5\/d=6:=ω;rcases h3 with rfl|rfl|rfl|rfl|rfl|rfl|rfl
 ·exact⟨_,bZ (j:=0) rfl,δ⟩
 ·exact⟨_,bZ (j:=1) rfl,δ⟩
 ·exact⟨_,bZ (j:=2) rfl,δ⟩
 ·exact⟨_,bZ (j:=3) rfl,δ⟩
 ·exact⟨_,bZ (j:=4) rfl,δ⟩
 ·exact⟨_,bZ (j:=5) rfl,δ⟩
 exact⟨_,bZ (j:=6) rfl,δ⟩
def wl(w s:Int):Int:=0-2^(w-1).toNat*s
inductive It1 where
 | one (a:Int)
 | rng (a b:Int)
 | bits (m v:Nat)
def itV:It1->List V
 | .one a=>[.str "is",.int a]
 | .rng a b=>[.str "from",.int a,.int b]
 | .bits m v=>[.str "bits",.int m,.int v]
structure ItemAt(H:Hp)(t:IN)(it:It1):Prop where
 h:H t=ID (.tup (itV it))
section
variable {mp:List (Option Nat)}{g:TG}{tc:TT}{te:TE}{σ:St}{H:Hp}{Q:VK}{R:It->Hp->Prop}{K:AF}
theorem uH{lo:Int}{n:Nat}(hR:R=Dq mp g tc te σ Q)(hz:n<=AN)(Pv:Nat->List V->St->Hp->Prop)(h0:Pv 0 [] (cZ mp σ) H)(hl:∀i acc τ H,Pv i acc τ H->acc.length<=i)
  (hs:∀i acc τ H,i<n->Pv i acc τ H->g (.int (lo+i)) τ H λτ1 H4=>tc τ1 H4 λb H5=>if b=true then te τ1 H5 λv H6=>Pv (i+1) (acc++[v]) τ1 H6 else Pv (i+1) acc τ1 H5)
  (hd:∀acc τ H d,Pv n acc τ H->H d=IF->Q (.ref d) (upd H d (.lst acc))):R (Itr lo n) H:=by
 refine vZ hR n hz Pv h0 hl (λi acc τ H hi _=>hi) (λacc τ H _=>AV n) (λi acc τ H x H3 hi p y=>?_) hd;obtain⟨rfl,rfl⟩:=y;exact hs i acc τ _ hi p
theorem iQ{a:IN}{xs:List V}(hR:R=Dq mp g tc te σ Q)(hz:xs.length<=AN)(Pv:Nat->List V->St->Hp->Prop)(h0:Pv 0 [] (cZ mp σ) H)(hl:∀i acc τ H,Pv i acc τ H->acc.length<=i)
  (hq:∀i acc τ H,Pv i acc τ H->SqL K H a xs)
  (hs:∀i x acc τ H,xs[i]?=ID x->Pv i acc τ H->g x τ H λτ1 H4=>tc τ1 H4 λb H5=>if b=true then te τ1 H5 λv H6=>Pv (i+1) (acc++[v]) τ1 H6 else Pv (i+1) acc τ1 H5)
  (hd:∀acc τ H d,Pv xs.length acc τ H->H d=IF->Q (.ref d) (upd H d (.lst acc))):R (Itl K a) H:=by
 refine vZ hR xs.length hz Pv h0 hl (λi acc τ H hi p=>⟨xs,xs[i],hq i acc τ H p,AD hi⟩) (λacc τ H p=>⟨xs,hq _ acc τ H p,AV _⟩) (λi acc τ H x H3 hi p y=>?_) hd;obtain⟨rfl,hx⟩:=y;exact hs i x acc τ _ (hx xs (hq i acc τ _ p)) p
theorem acJ{a:IN}{xs:List V}(hR:R=Dq mp g tc te σ Q)(hz:xs.length<=AN)(Pv:Nat->List V->St->Hp->Prop)(h0:Pv 0 [] (cZ mp σ) H)(hl:∀i acc τ H,Pv i acc τ H->acc.length<=i)
  (hq:∀i acc τ H,Pv i acc τ H->SqL K H a xs)
  (hs:∀(i:Nat) x acc τ H p,xs[i]?=ID x->Pv i acc τ H->H p=IF->g (.ref p) τ (upd H p (.tup [.int (i:Nat),x])) λτ1 H4=>tc τ1 H4 λb H5=>if b=true then te τ1 H5 λv H6=>Pv (i+1) (acc++[v]) τ1 H6 else Pv (i+1) acc τ1 H5)
  (hd:∀acc τ H d,Pv xs.length acc τ H->H d=IF->Q (.ref d) (upd H d (.lst acc))):R (Ite K a) H:=by
 refine vZ hR xs.length hz Pv h0 hl (λi acc τ H hi p=>⟨xs,xs[i],hq i acc τ H p,AD hi⟩) (λacc τ H p=>⟨xs,hq _ acc τ H p,BM (AV _)⟩) (λi acc τ H x H3 hi p y=>?_) hd;obtain⟨q,x1,rfl,hq1,rfl,hx⟩:=y;exact hs i x1 acc τ _ q (hx xs (hq i acc τ _ p)) p hq1
end
def ad7(l:List Nat):List V:=l.map λk=>At (k:Nat)
theorem aay(g:TG)(gs:TGs)(x:V)(xs:List V)(σ:St)(H:Hp)(Q:St->Hp->Prop):Xl g gs (x::xs) σ H Q=g x σ H λσ1 H1=>gs xs σ1 H1 Q:=
 propext ⟨λ⟨_,_,e,h⟩=>by cases e;exact h,λh=>⟨x,xs,rfl,h⟩⟩
theorem acA(σ:St)(H:Hp)(Q:St->Hp->Prop):acB [] σ H Q=Q σ H:=propext ⟨λh=>h.2,λh=>⟨rfl,h⟩⟩
theorem Xu{a b:Int}{P:Int->Int->Prop}:(∃v w,(a=v/\b=w)/\P v w)=P a b:=propext ⟨λ⟨_,_,⟨h1,h2⟩,h⟩=>h1 ▸ h2 ▸ h,λh=>⟨a,b,⟨rfl,rfl⟩,h⟩⟩
theorem Xd{tc:TT}{ts us:TS}{D:Ends}{σ:St}{H:Hp}(h:∀kt ke,kt=ts D->ke=us D->tc σ H λb H1=>if b=true then kt σ H1 else ke σ H1):Uv tc ts us D σ H:=h _ _ Z rfl
theorem O8{p:IN}{H H':Hp}(h:bG p H H')(e:H p=IF):Same H H':=λb o hb=>h b o (aB hb e) hb
section
variable {X:Cx}{e o:Expr}{te to:TE}{pos:Pos}
def apq(ob:Option HO)(l:IN)(y:V)(H:Hp)(Q:VK):Prop:=match ob with
 | some (.lst xs)=>xs.length<AN/\Q .non (upd H l (.lst (xs++[y])))
 | _=>False
def isq(ob:Option HO):Prop:=match ob with
 | some (.lst _)=>True
 | _=>False
theorem Hi(xs:List V):isq (ID (.lst xs))=True:=rfl
theorem wg(xs:List V)(l:IN)(y:V)(H:Hp)(Q:VK):apq (ID (.lst xs)) l y H Q=(xs.length<AN/\Q .non (upd H l (.lst (xs++[y])))):=rfl
def aaQ(x:V)(te:TE)(σ:St)(H1:Hp)(Q:VK):Prop:=match x with
 | .ref l=>isq (H1 l)/\te σ H1 λy H2=>apq (H2 l) l y H2 Q
 | _=>False
def Im(to te:TE):TE:=λσ H Q=>to σ H λx H1=>aaQ x te σ H1 Q
theorem UG(to te:TE)(σ:St)(H:Hp)(Q:VK):Im to te σ H Q=to σ H λx H1=>aaQ x te σ H1 Q:=rfl
theorem Kz(l:IN)(te:TE)(σ:St)(H1:Hp)(Q:VK):aaQ (.ref l) te σ H1 Q=(isq (H1 l)/\te σ H1 λy H2=>apq (H2 l) l y H2 Q):=rfl
theorem ZX{apos cpos:Pos}(ho:PE X o to)(he:PE X e te)
  (hbase:EI o "append" X.env (eval o X.env)=eval o X.env:=by rfl)
   (hfew:((CY cpos (AK [e] X.env)).all (λx=>!x.1)&&(Ix cpos (Fc [] X.env)).all (λx=>x.1.isSome)
   && decide ([e].length+([]:List EN).length+(if ([]:List EN).isEmpty then 0 else 1)<30))=true:=by rfl)
  (hline:(apos.endLine == cpos.line)=true:=by rfl) (hs:AK [e] X.env=(false,eval e X.env)::AK [] X.env:=by rfl) (hplain:(CY cpos (AK [] X.env)).any (·.1)=false:=by rfl) :
  PE X (.Call (.Attribute o "append" apos) [e] [] cpos) (Im to te):=by
 intro pins s σ H Q I h;refine Fn hbase hfew hline Z (thE (ho pins s σ H _ I h) λv s1 x H1 I1 r1 q=>?_);cases x with
 | ref l=>
  obtain⟨q1,q2⟩:=q;cases el:H1 l with
  | none=>rw[el] at q1;exact q1.elim
  | some ob=>
   cases ob with
   | lst xs=>
    obtain⟨h1,h2⟩:=wk (T := "list") I1 r1 (.inl ⟨rfl,xs,SqL.of el⟩);refine⟨"list","list.append",E6,PySem.F.slot_list_append,PySem.F.type_list_append,h1,h2,?_⟩;rw[hs];refine EH (by show(false||(CY cpos (AK [] X.env)).any (·.1))=false;rw[hplain] <;> rfl) (EZ ?_)
    refine CL (thE (he pins s1 σ H1 _ I1 q2) λu s2 y H2 I2 r2 q3=>C0 ?_);replace q3:apq (H2 l) l y H2 Q:=q3;cases el2:H2 l with
    | none=>rw[el2] at q3;exact q3.elim
    | some ob2=>
     cases ob2 with
     | lst ys=>
      rw[el2] at q3;exact R0 pins s2 σ H2 (.ref l) [y] v [u] Q I2 r1 (.cons r2 .nil) ⟨l,ys,y,rfl,rfl,el2,q3.1,q3.2⟩
     | _=>rw[el2] at q3;exact q3.elim
   | _=>rw[el] at q1;exact q1.elim
 | _=>exact q.elim
theorem lM{apos cpos:Pos}(ho:QE X o to)(he:QE X e te)
  (hbase:EI o "append" X.env (eval o X.env)=eval o X.env:=by rfl)
   (hfew:((CY cpos (AK [e] X.env)).all (λx=>!x.1)&&(Ix cpos (Fc [] X.env)).all (λx=>x.1.isSome)
   && decide ([e].length+([]:List EN).length+(if ([]:List EN).isEmpty then 0 else 1)<30))=true:=by rfl)
  (hline:(apos.endLine == cpos.line)=true:=by rfl) (hs:AK [e] X.env=(false,eval e X.env)::AK [] X.env:=by rfl) (hplain:(CY cpos (AK [] X.env)).any (·.1)=false:=by rfl) :
  QE X (.Call (.Attribute o "append" apos) [e] [] cpos) (Im to te):=⟨ZX ho.h he.h hbase hfew hline hs hplain⟩
def slq(ob:Option HO)(lo hi:Option Int)(H:Hp)(Q:VK):Prop:=match ob with
 | some (.lst xs)=>∀p,H p=IF->Q (.ref p) (upd H p (.lst (oE xs lo hi)))
 | some (.tup xs)=>¬(HT.sIx xs.length 0 lo=0/\HT.sIx xs.length xs.length hi=xs.length)/\∀p,H p=IF->Q (.ref p) (upd H p (.tup (oE xs lo hi)))
 | _=>False
def abr:V->Option Int->Option Int->Hp->VK->Prop:=λx lo hi H Q=>match x with
 | .ref p=>slq (H p) lo hi H Q
 | _=>False
theorem Vr(p:IN)(lo hi:Option Int)(H:Hp)(Q:VK):abr (.ref p) lo hi H Q=slq (H p) lo hi H Q:=rfl
theorem YC(xs:List V)(lo hi:Option Int)(H:Hp)(Q:VK):slq (ID (.lst xs)) lo hi H Q=∀p,H p=IF->Q (.ref p) (upd H p (.lst (oE xs lo hi))):=rfl
theorem Rf:SlR X abr:=by
 intro pins s σ H x v vl vu lo hi sl Q I rx hs pl pu h;unfold abr at h;split at h
 ·rename_i p;unfold slq at h;split at h
  ·rename_i xs e;exact YD pins s σ H _ v vl vu lo hi sl Q I rx hs pl pu ⟨p,xs,rfl,SqL.of e,h⟩
  ·rename_i xs e;exact abk pins s σ H _ v vl vu lo hi sl Q I rx hs pl pu ⟨p,xs,rfl,SqT.of e,h.1,h.2⟩
  exact h.elim
 exact h.elim
structure QO(X:Cx)(e:Option Expr)(t:TO):Prop where
 h:PO X e t
theorem Zb:QO X IF Fx:=⟨Zv⟩
theorem iZ(h:QE X e te):QO X (ID e) (Us te):=⟨Zu h.h⟩
theorem mJ{r:V->Option Int->Option Int->Hp->VK->Prop}{lo hi:Option Expr}{tl th:TO}{p2:Pos}(hr:SlR X r)(he:QE X e te)(hl:QO X lo tl)(hu:QO X hi th):QE X (.Subscript e (.Slice lo hi IF p2) pos) (tSl r te tl th):=⟨Wh hr he.h hl.h hu.h⟩
def rpq(ob:Option HO)(k:Int)(H:Hp)(Q:VK):Prop:=match ob with
 | some (.lst xs)=>-(2^63)<=k/\k<2^63/\xs.length*k.toNat<=AN/\∀p,H p=IF->Q (.ref p) (upd H p (.lst (BF k.toNat xs).flatten))
 | _=>False
def O9:R2:=λx y H Q=>match x,y with
 | .ref p,.int k=>rpq (H p) k H Q
 | x,y=>rI Uc (λi j=>.int (i*j)) x y H Q
theorem YQ(p:IN)(k:Int)(H:Hp)(Q:VK):O9 (.ref p) (.int k) H Q=rpq (H p) k H Q:=rfl
theorem YS(i j:Int)(H:Hp)(Q:VK):O9 (.int i) (.int j) H Q=rI Uc (λi j=>.int (i*j)) (.int i) (.int j) H Q:=rfl
theorem YH(xs:List V)(k:Int)(H:Hp)(Q:VK):rpq (ID (.lst xs)) k H Q=(-(2^63)<=k/\k<2^63/\xs.length*k.toNat<=AN/\∀p,H p=IF->Q (.ref p) (upd H p (.lst (BF k.toNat xs).flatten))):=rfl
theorem cO:OpR X (ET .Mult) O9:=by
 intro pins s σ H x y v u Q I rx ry h;unfold O9 at h;split at h
 ·rename_i p k;unfold rpq at h;split at h
  ·rename_i xs e;exact ab0 pins s σ H _ _ v u Q I rx ry ⟨p,k,xs,rfl,rfl,e,h.1,h.2.1,h.2.2.1,h.2.2.2⟩
  exact h.elim
 exact ab1 pins s σ H _ _ v u Q I rx ry h
def eqo(ob:Option HO)(H:Hp)(Q:VK):Prop:=match ob with
 | some (.lst _)=>Q (.bl false) H
 | some (.tup _)=>Q (.bl false) H
 | _=>False
def Ru:R2:=λx y H Q=>match x,y with
 | .ref p,.str _=>eqo (H p) H Q
 | x,y=>rEq x y H Q
theorem Y0(i j:Int)(H:Hp)(Q:VK):Ru (.int i) (.int j) H Q=rEq (.int i) (.int j) H Q:=rfl
theorem Y4(i j:Bool)(H:Hp)(Q:VK):Ru (.bl i) (.bl j) H Q=rEq (.bl i) (.bl j) H Q:=rfl
theorem YX(i j:Str)(H:Hp)(Q:VK):Ru (.str i) (.str j) H Q=rEq (.str i) (.str j) H Q:=rfl
theorem YZ(H:Hp)(Q:VK):Ru .non .non H Q=rEq .non .non H Q:=rfl
theorem jy(hu:X.A.units<FO):OpR X (Ev .Eq) Ru:=by
 intro pins s σ H x y v u Q I rx ry h;unfold Ru at h;split at h
 ·rename_i p z;cases rx;obtain⟨t,rfl⟩:=ry;unfold eqo at h;split at h
  ·rename_i xs e;obtain⟨its,r,pl,hz⟩:=I.list (SqL.of e);exact SeqAt.RcAt.list_str z t pl.isList hu X.prog X.w X.xe (EP X pins σ Q) ⟨.bl false,H,I,rfl,h⟩
  ·rename_i xs e;obtain⟨its,r,pl,hz⟩:=I.tuple (SqT.of e);exact SeqAt.RcAt.tuple_str z t pl hu X.prog X.w X.xe (EP X pins σ Q) ⟨.bl false,H,I,rfl,h⟩
  exact h.elim
 exact adw pins s σ H _ _ v u Q I rx ry h
theorem zx{x:Str}{v:V}{u:Ap}(hg:Gl X x)(hm:X.mg x=ID u)(r:RelV v u)(b:Bn x):QE X (.Name x pos) (tC v):=⟨ZM hg hm r b.hd⟩
end
mutual
inductive aJ (ok:IN->Prop)(H:Hp):V->AU->Prop
 | non:aJ ok H .non .none
 | bl (b:Bool):aJ ok H (.bl b) (.bool b)
 | int (i:Int):aJ ok H (.int i) (.int i)
 | str (x:Str):aJ ok H (.str x) (.str x)
 | lst {p:IN} {xs:List V} {ds:List AU}:ok p->H p=ID (.lst xs)->xs.length<=1000000->aG ok H xs ds->aJ ok H (.ref p) (.list ds)
 | tup {p:IN} {xs:List V} {ds:List AU}:ok p->H p=ID (.tup xs)->xs.length<=1000000->aG ok H xs ds->aJ ok H (.ref p) (.tuple ds)
inductive aG (ok:IN->Prop)(H:Hp):List V->List AU->Prop
 | nil:aG ok H [] []
 | cons {x:V} {d:AU} {xs:List V} {ds:List AU}:aJ ok H x d->aG ok H xs ds->aG ok H (x::xs) (d::ds)
end
mutual
theorem aJ.keep{ok ok':IN->Prop}{H H':Hp}(k:∀a o,ok a->H a=ID o->ok' a/\H' a=ID o):∀{v:V}{d:AU},aJ ok H v d->aJ ok' H' v d
 | _,_,.non=>.non
 | _,_,.bl b=>.bl b
 | _,_,.int i=>.int i
 | _,_,.str x=>.str x
 | _,_,.lst o e z t=>.lst (k _ _ o e).1 (k _ _ o e).2 z (aG.keep k t)
 | _,_,.tup o e z t=>.tup (k _ _ o e).1 (k _ _ o e).2 z (aG.keep k t)
theorem aG.keep{ok ok':IN->Prop}{H H':Hp}(k:∀a o,ok a->H a=ID o->ok' a/\H' a=ID o):∀{vs:List V}{ds:List AU},aG ok H vs ds->aG ok' H' vs ds
 | _,_,.nil=>.nil
 | _,_,.cons t r=>.cons (aJ.keep k t) (aG.keep k r)
end
theorem aJ.same{ok:IN->Prop}{H H':Hp}{v:V}{d:AU}(t:aJ ok H v d)(s:Same H H'):aJ ok H' v d:=t.keep λa o h e=>⟨h,s a o e⟩
theorem aG.same{ok:IN->Prop}{H H':Hp}{v:List V}{d:List AU}(t:aG ok H v d)(s:Same H H'):aG ok H' v d:=t.keep λa o h e=>⟨h,s a o e⟩
theorem aJ.j8{p:IN}{H H':Hp}{v:V}{d:AU}(t:aJ (·≠p) H v d)(s:bG p H H'):aJ (·≠p) H' v d:=t.keep λa o h e=>⟨h,s a o h e⟩
theorem aG.j8{p:IN}{H H':Hp}{v:List V}{d:List AU}(t:aG (·≠p) H v d)(s:bG p H H'):aG (·≠p) H' v d:=t.keep λa o h e=>⟨h,s a o h e⟩
theorem aG.length{ok:IN->Prop}{H:Hp}:∀{vs:List V}{ds:List AU},aG ok H vs ds->vs.length=ds.length
 | _,_,.nil=>rfl
 | _,_,.cons _ r=>by rw[EX,EX,r.length]
theorem aG.append{ok:IN->Prop}{H:Hp}:∀{vs ws:List V}{ds es:List AU},aG ok H vs ds->aG ok H ws es->aG ok H (vs++ws) (ds++es)
 | _,_,_,_,.nil,t=>t
 | _,_,_,_,.cons h r,t=>.cons h (r.append t)
theorem aG.get{ok:IN->Prop}{H:Hp}:∀{vs:List V}{ds:List AU}{i:Nat}{v:V},aG ok H vs ds->vs[i]?=ID v->∃d,ds[i]?=ID d/\aJ ok H v d
 | _,_,0,_,.cons h _,e=>by cases e;exact⟨_,rfl,h⟩
 | _,_,i+1,_,.cons _ r,e=>aG.get r (i:=i) e
section
variable {X:Cx}{pins:List (IN×Obj)}{σ:St}{H:Hp}{s:AA}{ok:IN->Prop}
mutual
theorem aJ.reads(I:Inv X pins σ H s):∀{v:V}{d:AU}{u:Ap},aJ ok H v d->RelV v u->∃as,Reads s.heap u d as
 | _,_,_,.non,r=>by cases r;exact⟨_,.none⟩
 | _,_,_,.bl b,r=>by cases r;exact⟨_,.bool b⟩
 | _,_,_,.int i,r=>by obtain⟨t,rfl⟩:=r;exact⟨_,.int i t⟩
 | _,_,_,.str x,r=>by obtain⟨t,rfl⟩:=r;exact⟨_,.str x t⟩
 | _,_,_,.lst o e z t,r=>by
  cases r;obtain⟨its,rv,pl,hz⟩:=I.list (SqL.of e);obtain⟨ob,h1,h2,n,h3⟩:=pl.isList;obtain⟨as,h4⟩:=aG.reads I t rv;exact⟨_,.list h1 h2 h3 (by simpa using h4)⟩
 | _,_,_,.tup o e z t,r=>by
  cases r;obtain⟨its,rv,pl,hz⟩:=I.tuple (SqT.of e);obtain⟨ob,h1,h2,n,h3⟩:=pl;obtain⟨as,h4⟩:=aG.reads I t rv;exact⟨_,.tuple h1 h2 h3 (by simpa using h4)⟩
theorem aG.reads(I:Inv X pins σ H s):∀{vs:List V}{ds:List AU}{us:List Ap},aG ok H vs ds->Vals vs us->∃as,ReadsAll s.heap us ds as
 | _,_,_,.nil,r=>by cases r;exact⟨_,.nil⟩
 | _,_,_,.cons h t,r=>by
  cases r with
  | cons r1 r2=>
   obtain⟨as,h1⟩:=aJ.reads I h r1;obtain⟨bs,h2⟩:=aG.reads I t r2;exact⟨_,.cons h1 h2⟩
end
end
mutual
def nodes:AU->Nat
 | .list ds=>1+Ab ds
 | .tuple ds=>1+Ab ds
 | _=>1
def Ab:List AU->Nat
 | []=>0
 | d::ds=>nodes d+Ab ds
end
mutual
def smD:AU->Bool
 | .none=>true
 | .bool _=>true
 | .int i=>decide (i.natAbs<2^50\/i.natAbs=10^20\/i.natAbs<2^55)
 | .str x=>decide ((reprText x).length<=50)
 | .list ds=>U8 ds
 | .tuple ds=>U8 ds
 | .dict _=>false
def U8:List AU->Bool
 | []=>true
 | d::ds=>smD d&&U8 ds
end
section
variable {X:Cx}{tg l:Expr}{tl:TE}
def itq(K:AF)(ob:Option HO)(a:IN)(H:Hp)(R:It->Hp->Prop):Prop:=match ob with
 | some (.lst _)=>R (Itl K a) H
 | some (.tup _)=>R (Itt K a) H
 | _=>False
def itK(K:AF)(x:V)(H:Hp)(R:It->Hp->Prop):Prop:=match x with
 | .ref a=>itq K (H a) a H R
 | _=>False
def J0(K:AF)(tl:TE):TI:=λσ H R=>tl σ H λx H1=>itK K x H1 R
theorem JZ(K:AF)(tl:TE)(σ:St)(H:Hp)(R:It->Hp->Prop):J0 K tl σ H R=tl σ H λx H1=>itK K x H1 R:=rfl
theorem Hg(K:AF)(a:IN)(H:Hp)(R:It->Hp->Prop):itK K (.ref a) H R=itq K (H a) a H R:=rfl
theorem Hf(K:AF)(xs:List V)(a:IN)(H:Hp)(R:It->Hp->Prop):itq K (ID (.lst xs)) a H R=R (Itl K a) H:=rfl
theorem aas(K:AF)(xs:List V)(a:IN)(H:Hp)(R:It->Hp->Prop):itq K (ID (.tup xs)) a H R=R (Itt K a) H:=rfl
theorem Zz(hl:PE X l tl):PI X tg l (J0 X.K tl):=by
 intro pins s σ H R I h;refine thn (hl pins s σ H _ I h) λv s1 ⟨x,H1,I1,r1,q1⟩=>?_;cases x with
 | ref a=>
  replace q1:itq X.K (H1 a) a H1 R:=q1;cases r1;unfold itq at q1;split at q1
  ·rename_i xs e;obtain⟨its,rv,p,hz⟩:=I1.list (SqL.of e);refine FK p.isList ?_;refine⟨s1.heap.objs.size,[s1.heap.objs.size],_,_,H1,rfl,I1.kept (t':=s1.toks) λb o e=>AB _ e,QZ a _,⟨_,AO _ rfl,rfl,rfl⟩,λb hb=>?_,q1⟩;have e:b=s1.heap.objs.size:=by simpa using hb
   subst e;exact I1.Dl (AV _) (I1.hok.fresh (AV _))
  ·rename_i xs e;obtain⟨its,rv,p,hz⟩:=I1.tuple (SqT.of e);refine F9 (show s1.heap.IsTuple a its.toArray from p) ?_;refine⟨s1.heap.objs.size,[s1.heap.objs.size],_,_,H1,rfl,I1.kept (t':=s1.toks) λb o e=>AB _ e,KN a _,⟨_,AO _ rfl,rfl,rfl⟩,λb hb=>?_,q1⟩;have e:b=s1.heap.objs.size:=by simpa using hb
   subst e;exact I1.Dl (AV _) (I1.hok.fresh (AV _))
  exact q1.elim
 | _=>exact q1.elim
theorem bW(hl:QE X l tl):QI X tg l (J0 X.K tl):=⟨Zz hl.h⟩
end
def Gv(ok:IN->Prop)(t:TE)(σ:St)(H0:Hp)(d:AU):Prop:=∀H,Same H0 H->∀Q:VK,(∀v H',Same H H'->aJ ok H' v d->Q v H')->t σ H Q
def GvA(ok:IN->Prop)(t:TA)(σ:St)(H0:Hp)(ds:List AU):Prop:=∀H,Same H0 H->∀Q:List V->Hp->Prop,(∀vs H',Same H H'->aG ok H' vs ds->Q vs H')->t σ H Q
def j9(ok:IN->Prop)(H0:Hp):Prop:=∀H p,Same H0 H->H p=IF->ok p
theorem WK{H0:Hp}{p:IN}{o:HO}(h:H0 p=ID o):j9 (·≠p) H0:=λH q s hq=>(aB (s _ _ h) hq).symm
theorem j9.same{ok:IN->Prop}{H0 H1:Hp}(n:j9 ok H0)(s:Same H0 H1):j9 ok H1:=λH p s2 h=>n H p (s.trans s2) h
section
variable {ok:IN->Prop}{σ:St}{H0:Hp}{ta tb:TE}{tr:TA}{d e:AU}{ds es:List AU}
theorem Ho{x:Str}:Gv ok (tC (.str x)) σ H0 (.str x):=λH _ Q q=>q _ _ (Same.refl _) (.str x)
theorem jf:GvA ok K4 σ H0 []:=λH _ Q q=>q _ _ (Same.refl _) .nil
theorem cj(h:Gv ok ta σ H0 d)(h2:GvA ok tr σ H0 ds):GvA ok (xu ta tr) σ H0 (d::ds):=λH s Q q=>
 h H s _ λv H1 s1 t1=>h2 H1 (s.trans s1) _ λvs H2 s2 t2=>q _ _ (s1.trans s2) (.cons (t1.same s2) t2)
theorem qw(n:j9 ok H0)(h:GvA ok tr σ H0 ds)(hl:ds.length<=1000000):Gv ok (K3 tr) σ H0 (.tuple ds):=λH s Q q=>
 h H s _ λvs H1 s1 t1=>⟨aO (by rw[t1.length];exact hl),λp hp=>q _ _ (s1.trans (au hp)) (.tup (n H1 p (s.trans s1) hp) aD (by rw[t1.length];exact hl) (t1.same (au hp)))⟩
theorem Nk(n:j9 ok H0)(h:GvA ok tr σ H0 ds)(hl:ds.length<=1000000):Gv ok (Ra tr) σ H0 (.list ds):=λH s Q q=>
 h H s _ λvs H1 s1 t1=>⟨aO (by rw[t1.length];exact hl),λp hp=>q _ _ (s1.trans (au hp)) (.lst (n H1 p (s.trans s1) hp) aD (by rw[t1.length];exact hl) (t1.same (au hp)))⟩
end
def fj:AU->Bool
 | .int _=>true
 | _=>false
def inB(w s a:Int):Bool:=decide (wl w s<=a)&&decide (a<wl w s+2^w.toNat)
def U5:Sp:=λvs H Q _=>∃v ok d,vs=[v]/\aJ ok H v d/\Q (.bl (fj d)) H
section
variable {X:Cx}{NX N:List Str}{kX:List (Str×B2)}{mp:List (Option Nat)}{scope:D0}
set_option maxHeartbeats 8000000 in
theorem Zq{tg iter elt:Expr}{ifs:List Expr}{pos pos' pos2:Pos}{wi:TI}{g:TG}{tc:TT}{te:TE}{i:Nat}{x:Str}(N:List Str)(mp:List (Option Nat))(hn:Nm X.N X.env.scope i x)(hNd:X.N.Nodup)(hNX:X.N=NX)(hkX:X.env.scope.names=kX)(S:lU NX kX N mp scope)(hc:X.calm=true)
  (hi:PI X tg iter wi)(hg:∀cl C s H fp,PG (aK X N scope cl C s H fp) tg g)(ht:∀cl C s H fp,PTs (aK X N scope cl C s H fp) ifs tc)(he:∀cl C s H fp,PE (aK X N scope cl C s H fp) elt te)
  (hf:X.fn x=true\/X.env.scope.names.lookup x=ID .local:=by exact .inl Z)
  (hsw:DS [.Name x pos'] (.ListComp elt [⟨tg,iter,ifs,0⟩] scope pos) pos2.line X.env=pure true:=by rfl)
  (h1:(CI [.Name x pos'] X.env).map (·.2)=[C7 (.Name x pos') X.env]:=by rfl)
  (hs:∀x,BC iter X.env x=pure x:=by intro _;rfl):PS X (.Assign [.Name x pos'] (.ListComp elt [⟨tg,iter,ifs,0⟩] scope pos) pos2) (rM (oK mp wi g tc te) (gb i)):=by
 intro pins s σ H Dn I h;rw[IA];refine An (CA ?_);rw[hsw];refine An (Au ?_);rw[if_pos rfl,h1];replace h:oK mp wi g tc te σ H (λv H1=>Dn.nx (σ.set i (ID v)) H1):=h;obtain⟨cl,hcl,hsub,hhas⟩:=lO (env:=X.env) (scope:=scope) λy hy hf=>I.ok.has y.1 (by
  rcases S.fre y hy hf with q|q
  ·exact .inl (show X.env.scope.names.lookup y.1=_ by rw[hkX];exact q)
  exact .inr (show X.env.scope.names.lookup y.1=_ by rw[hkX];exact q))
 generalize hQ:(λ(v:V)(H1:Hp)=>Dn.nx (σ.set i (ID v)) H1)=Q at h
 let QQ:Ap->AA->Prop:=λ_ s'=>∃τ H',Inv X pins τ H' s'/\Dn.nx τ H'
 refine An (An (thn (Q:=QQ) (CS (e:=.ListComp elt [⟨tg,iter,ifs,0⟩] scope pos) (use:=ID λv=>IH v [C7 (.Name x pos') X.env]) Z hs hcl S.kind S.locs ?_) λ_ s' ⟨τ,H',I',q'⟩=>Au (Au ⟨τ,H',I',q'⟩)));refine thn (hi pins s σ H _ I h) λv s1 h1=>thn h1 λitv s2 h2=>?_;obtain⟨it,fp,tn,J,H2,e,I2,T,st2,f2,W,⟨m0,w0⟩,turn⟩:=h2;subst e;refine A6 (EW S.nocell (by intro y hy;simp at hy) (λh3 hns hsb=>?_) S.kind);dsimp only at hns hsb |-;have hold:∀b∈fp,b<s2.heap.objs.size:=λb hb=>by
  obtain⟨o,q,_⟩:=T.obj _ _ st2 b hb;exact AQ q
 generalize hD:s2.heap.objs.size=D at hns hsb;generalize hH2:s2.heap.push { cls:=.type "list",dict:=IF,data:=.seq ([]:List Ap).toArray }=P2 at hns hsb |-;have hC:P2.objs.size=D+1:=by rw[<- hH2,Cb,hD]
 generalize hC':P2.objs.size=C at hns hsb |-;rw[hC'] at hC;have old:∀b o,s2.heap.get? b=ID o->h3.get? b=ID o:=λb o q=>by
  have hb:=AQ q;exact hsb.extBut b o (na1 hb hD hC) (AB _ (hH2 ▸ AB _ q))
 have accD:h3.get? D=ID { cls:=.type "list",data:=.seq ([]:List Ap).toArray }:=
  hsb.extBut _ _ (na2 hC) (AB _ (by rw[<- hH2,<- hD];exact AO _ Z))
 have hfr:D∉frs X.stack:=λz=>by
  rcases A3.mp (I2.jR D z) with q|q
  ·exact na0 I2.lt hD q.symm
  exact I2.Gy (na4 hD) q
 have I0:Inv (aK X N scope cl C s2 H2 fp) [(D,{ cls:=.type "list",data:=.seq ([]:List Ap).toArray })] (cZ mp σ) H2 { s2 with heap:=h3,toks:=s2.toks+([]:List (Str×Ap)).length }:=
  rF (s':={ s2 with heap:=h3,toks:=s2.toks+([]:List (Str×Ap)).length }) hNX hkX S I2 f2 hold (na3 hD hC) hsub hhas Z Z ⟨_,hns⟩ old λp hp=>by
   have ep:=AJ.mp hp;subst ep;exact⟨accD,I2.hok.fresh (na4 hD),na2 hC,hfr,λv z=>by cases z⟩
 have T0:tn 0 h3:=T.keep _ _ _ st2 λb _ o q=>old b o q;have loop:∀z:AA,z={ s2 with heap:=h3,toks:=s2.toks+([]:List (Str×Ap)).length } ->
   DF (AM X.prog X.w) X.A (.compLoop (.ListComp elt [⟨tg,iter,ifs,0⟩] scope pos) 0 (.ref it) (.ref D) (CO scope cl C X.env))
    (Kn (AM X.prog X.w) X.A X.xe (ID λv=>IH v [C7 (.Name x pos') X.env]) QQ (.ref D) C) z:=by
  rintro z rfl;have stat:∀{H':Hp}{pl:List (IN×Obj)},(∀b∈fp,H' b=IF)->(∀p∈pl,p.1=D)->∀b∈fp,lJ (aK X N scope cl C s2 H2 fp) pl H' b:=λhn hp b hb=>by
   have hb2:=hold b hb;refine⟨hn b hb,na1 hb2 hD hC,(uI hkX S I2 f2 hold (na3 hD hC) hsub hhas).exfs b hb,.inl hb,λx c q=>(f2 b hb).2.2.2.2.1 x c (hsub x c q),λp hpp=>?_⟩;have hpD:=hp p (by simpa [aK] using hpp);rw[hpD];exact(na0 hb2 hD).symm
  refine rE (env:=CO scope cl C X.env) (λn z=>∃i acc τ H' its k,Inv (aK X N scope cl C s2 H2 fp) [(D,{ cls:=.type "list",data:=.seq (Ch its) k })] τ H' z/\tn i z.heap/\(∀b∈fp,H' b=IF)/\Vals acc its/\acc.length<=AN/\W i n acc τ H')
   ?_ m0 ⟨0,[],_,H2,[],0,I0,T0,λb hb=>(f2 b hb).1,.nil,De _,w0⟩
  rintro n s5 ⟨i,acc,τ,H5,its,k,I5,st5,fr5,va,hz,w5⟩;rcases turn i n acc τ H5 w5 with⟨stop,qn⟩|⟨go,hz2,N9,hN9,step⟩
  ·refine thn (T.done (aK X N scope cl C s2 H2 fp) Z Z Z hc i _ s5 τ H5 _ I5 (stat fr5 ζ) st5 stop) λr s6 ⟨hr,I6⟩=>?_;subst hr;obtain⟨m6,hn6,_⟩:=I6.loc;obtain⟨dD,nD,_,_,_⟩:=I6.pin (D,_) (AG _ (AJ.mpr Z));have U:=I6.base;have nC:H5 C=IF:=I6.free;have ne:∀b o,s2.heap.get? b=ID o->b≠C/\b≠D:=λb o q=>by
    exact⟨na1 (AQ q) hD hC,na0 (AQ q) hD⟩
   have key:∀h',B0 C s6.heap h'->Inv X pins σ (upd H5 D (.lst acc)) { s6 with heap:=h' }:=λh' sb=>by
    have keepC:∀b o,b≠C->s6.heap.get? b=ID o->h'.get? b=ID o:=λb o hb q=>(sb.2 b hb).trans q;have U':Un (frs X.stack) fp H2 (upd H5 D (.lst acc)) s2.heap h':=by
     refine⟨λb o q n1 hb hx=>keepC b o (ne b o q).1 (U.keep b o q n1 hb hx),λb o q n1 hb hx=>?_,λb o q n1 hx=>?_,λb o q hx=>?_,λb xs q=>?_,λb o xs q=>?_,λb ps q=>?_⟩
     ·obtain⟨sl,z⟩:=U.slot b o q n1 hb hx;exact⟨sl,keepC b _ (ne b o q).1 z⟩
     ·rw[aH (ne b o q).2];exact U.free b o q n1 hx
     ·obtain⟨o',z⟩:=U.there b o q hx;exact⟨o',keepC b _ (ne b o q).1 z⟩
     ·have z:=U.tups b xs q;rw[aH (aB z nD)];exact z
     ·have z:=U.frzs b o xs q;rw[aH (aB z nD)];exact z
     obtain⟨more,z⟩:=U.tbls b ps q;exact⟨more,by rw[aH (aB z nD)];exact z⟩
    have hok:HOk X.prog X.w (upd H5 D (.lst acc)) h':=λb u q=>by
     by_cases hb:b=D
     ·subst hb;rw[aD] at q;cases q;exact⟨hz,its,k,va,keepC _ _ (na2 hC) dD⟩
     rw[aH hb] at q;refine(I6.hok b u q).stay (λc v hcc z=>keepC c v ?_ z) (λc z=>by rw[aH (aB z nD)];exact z) λc xs z=>by rw[aH (aB z nD)];exact z
     rcases hcc with z1|z1
     ·subst z1;exact aB q nC
     exact aB z1 nC
    have I7:Inv X pins σ (upd H5 D (.lst acc)) { s6 with heap:=h' }:=I2.call' (s':={ s6 with heap:=h' }) (ch:=fp) I6.os U' hok I6.bare λb hb=>by
     obtain⟨_,a2,_,a4,a5,a6⟩:=f2 b hb;exact⟨a4,a2,a5,a6⟩
    exact I7
   have I7:Inv X pins σ (upd H5 D (.lst acc)) s6:=key s6.heap (B0.refl _ _);have lC:X.env.locals≠C:=na1 I2.lt hD hC;have cC:∀y c,X.env.cells.lookup y=ID c->c≠C:=λy c z=>by
    obtain⟨_,o,h1,_⟩:=I2.cell y c z;exact na1 (AQ h1) hD hC
   show AH _ _ (C7 (.Name x pos') X.env (.ref D)) _ _ s6;refine GG (mD (v:=.ref D) I7 hNd hn.hN hn.hv Z (λs7 I8 ⟨a,sa,ha⟩=>?_) hf);have aC:a≠C:=by
    rcases ha with rfl|ha
    ·exact lC
    exact cC _ _ ha
   obtain⟨o6,es6,ep6,g1,g2,g3,g4⟩:=hn6;refine⟨m6,⟨o6,es6,ep6,(sa.2 C (BS aC)).trans g1,g2,g3,g4⟩,λh' sb=>?_⟩;have q9:=qn D nD;rw[<- hQ] at q9;refine⟨_,_,I8.turned (it:=C) (t':=s7.toks) (λb o hb q=>(sb.2 b hb).trans q) ?_ (BS lC) (.inr (CM I2.sz (na3 hD hC))) cC (λp hp=>?_),q9⟩
   ·rw[aH (BS (na2 hC))];exact nC
   obtain⟨h1,_⟩:=I2.pin p hp;exact na1 (AQ h1) hD hC
  refine thn (T.item (aK X N scope cl C s2 H2 fp) Z Z Z hc i _ s5 τ H5 _ I5 (stat fr5 ζ) st5 go) λr s6 ⟨u,hr,h6⟩=>?_;subst hr;refine thn h6 λ_ s7 ⟨x,H7,I7,r7,y7,st7,fr7⟩=>?_;have I7':=I7.pinned (stat fr7 ζ) (T.obj _ _ st7);have no:∀{α:Type}{t:Sem α}{Q1 Q2:α->AA->Prop}{E:Ap->AA->Prop}{z:AA},AH (AM X.prog X.w) X.A t Q1 (λ_ _=>False) z->(∀a z,Q1 a z->Q2 a z)->AH (AM X.prog X.w) X.A t Q2 E z:=
   λq f=>A7 q f λ_ _ z=>z.elim
  refine no (hg cl C s2 H2 fp _ s7 τ H7 x u _ I7' r7 (step x H7 y7)) λ_ s8 ⟨τ1,H8,I8,q8⟩=>?_;refine no (ht cl C s2 H2 fp _ s8 τ1 H8 _ I8 q8) λok s9 ⟨H9,I9,q9⟩=>?_;have ER:∀{H':Hp}{z:AA}{its':List Ap}{k':Nat},Inv (aK X N scope cl C s2 H2 fp) ([(D,{ cls:=.type "list",data:=.seq (Ch its') k' })]++cG fp s7.heap) τ1 H' z ->
    tn (i+1) z.heap/\(∀b∈fp,H' b=IF)/\Inv (aK X N scope cl C s2 H2 fp) [(D,{ cls:=.type "list",data:=.seq (Ch its') k' })] τ1 H' z:=λ{H' z its' k'} Iz=>by
   have get:∀b∈fp,∀o,s7.heap.get? b=ID o->z.heap.get? b=ID o/\H' b=IF:=λb hb o q=>by
    obtain⟨a1,a2,_⟩:=Iz.pin (b,o) (AG _ (AG _ (dM hb q)));exact⟨a1,a2⟩
   refine⟨T.keep _ _ _ st7 λb hb o q=>(get b hb o q).1,λb hb=>?_,Iz.fL⟩;obtain⟨o,q,_⟩:=T.obj _ _ st7 b hb;exact(get b hb o q).2
  cases ok with
  | false=>
   rw[if_neg AX] at q9 |-;obtain⟨m',hm,w9⟩:=hN9 _ _ _ q9;obtain⟨a1,a2,a3⟩:=ER I9;exact⟨m',hm,i+1,acc,τ1,H9,its,k,a3,a1,a2,va,hz,w9⟩
  | true=>
   rw[if_pos rfl] at q9 |-;refine no (he cl C s2 H2 fp _ s9 τ1 H9 _ I9 q9) λy s10 ⟨v,H10,I10,rv,q10⟩=>?_;obtain⟨m',hm,w10⟩:=hN9 _ _ _ q10;obtain⟨a1,a2,a3⟩:=ER I10;obtain⟨dD,nD,_,_,_⟩:=a3.pin (D,_) (AG _ (AJ.mpr Z));have hlen:=va.length;refine EK Fh ⟨_,dD,rfl⟩ E4 (EV _ _) (FI D its.toArray k y (by rw[AZ];omega)) ⟨dD,?_⟩;obtain⟨k',q⟩:∃k',(s10.heap.update D (BO λa=>a.push y)).get? D=ID { cls:=.type "list",data:=.seq (its++[y]).toArray k' }:=by
    have q:=F2 dD (λa=>a.push y);rw[show its.toArray.push y=(its++[y]).toArray by simp] at q;exact⟨_,q⟩
   have a4:Inv (aK X N scope cl C s2 H2 fp) (cG fp s7.heap) τ1 H10 s10:=I10.dW λp hp=>I10.pin p (AG _ (AG _ hp));have a5:Inv (aK X N scope cl C s2 H2 fp) (cG fp s7.heap) τ1 H10 { s10 with heap:=s10.heap.update D (BO λa=>a.push y),toks:=s10.toks }:=
    a4.turned (it:=D) (λb o hb z=>(BQ _ _ (BS hb)).trans z) nD (na2 hC) (.inr (na4 hD))
     (λx c z=>by
      obtain⟨_,o,h1,_⟩:=I2.cell x c (hsub x c z);exact na0 (AQ h1) hD) λp hp=>by
      have hb:=(gH (by simpa [aK] using hp)).1;exact na0 (hold _ hb) hD
   obtain⟨b1,b2,b3⟩:=(show tn (i+1) (s10.heap.update D (BO λa=>a.push y))/\(∀b∈fp,H10 b=IF)/\True from
    ⟨T.keep _ _ _ a1 λb hb o z=>(BQ _ _ (na0 (hold b hb) hD).symm).trans z,a2,trivial⟩)
   refine⟨m',hm,i+1,acc++[v],τ1,H10,its++[y],k',a5.dW λp hp=>?_,b1,b2,va.append (.cons rv .nil),by rw[A0,B4];omega,w10⟩;have ep:=AJ.mp hp;subst ep;exact⟨q,nD,na2 hC,hfr,λv z=>by cases z⟩
 have e1:{ newEnv scope C X.env.globals cl X.env.qual IF .none (ID X.env) X.env.builtins with scope:=relabel scope X.env }=CO scope cl C X.env:=rfl;exact Fm (loop _ Z) (T.self _ 0 _ _ _ T0 (loop _ Z))
theorem vh{tg iter elt:Expr}{ifs:List Expr}{pos pos' pos2:Pos}{wi:TI}{g:TG}{tc:TT}{te:TE}{i:Nat}{x:Str}(N:List Str)(mp:List (Option Nat))(hn:Nm X.N X.env.scope i x)(hNd:X.N.Nodup)(hNX:X.N=NX)(hkX:X.env.scope.names=kX)(S:lU NX kX N mp scope)(hc:X.calm=true)
  (hi:QI X tg iter wi)(hg:∀cl C s H fp,QG (aK X N scope cl C s H fp) tg g)(ht:∀cl C s H fp,QC (aK X N scope cl C s H fp) ifs tc)(he:∀cl C s H fp,QE (aK X N scope cl C s H fp) elt te)
  (hf:X.fn x=true\/X.env.scope.names.lookup x=ID .local:=by exact .inl Z)
  (hsw:DS [.Name x pos'] (.ListComp elt [⟨tg,iter,ifs,0⟩] scope pos) pos2.line X.env=pure true:=by rfl)
  (h1:(CI [.Name x pos'] X.env).map (·.2)=[C7 (.Name x pos') X.env]:=by rfl)
  (hs:∀x,BC iter X.env x=pure x:=by intro _;rfl):QS X (.Assign [.Name x pos'] (.ListComp elt [⟨tg,iter,ifs,0⟩] scope pos) pos2) (rM (oK mp wi g tc te) (gb i)):=
 ⟨Zq N mp hn hNd hNX hkX S hc hi.h (λcl C s H fp=>(hg cl C s H fp).h) (λcl C s H fp=>(ht cl C s H fp).h) (λcl C s H fp=>(he cl C s H fp).h) hf hsw h1 hs⟩
end
section
variable {mp:List (Option Nat)}{g:TG}{te:TE}{σ:St}{H:Hp}{Q:VK}{R:It->Hp->Prop}{K:AF}{a:IN}{xs:List V}{ds:List AU}{ok:IN->Prop}
theorem take_snoc{α:Type}{l:List α}{i:Nat}{x:α}(h:l[i]?=ID x):l.take (i+1)=l.take i++[x]:=by
 rw[take_add_one,h];rfl
end
def inD(w s:Int):AU->Bool
 | .int a=>inB w s a
 | _=>false
theorem Bv{p c:IN}{H Hk:Hp}{B:Int}(s:bG p H Hk)(t:bF Hk p B)(h:Hk c=IF):c≠p/\H c=IF:=by
 have n:=t.ne h;refine⟨n,?_⟩;cases e:H c with
 | none=>rfl
 | some o=>rw[s _ _ n e] at h;cases h
theorem Rj{p c:IN}{H H':Hp}{o:HO}(s:bG p H H')(h:H c=IF):bG p H (upd H' c o):=λb u n e=>by
 rw[aH (aB e h)];exact s b u n e
theorem bF.upd{H:Hp}{p c:IN}{B:Int}{o:HO}(t:bF H p B)(n:c≠p):bF (upd H c o) p B:=by
 obtain⟨a,b,c',e,r⟩:=t;exact⟨a,b,c',by rw[aH (BS n)];exact e,r⟩
theorem jn.acU{k:Nat}{A:BA}(r:jn k A):A.units+200<FO:=by have:=r.un;omega
theorem Sd{α:Type}(l:List α)(h:0<l.length):∃a b,l=a++[b]:=by
 induction l with
 | nil=>cases h
 | cons x r ih=>
  cases r with
  | nil=>exact⟨[],x,rfl⟩
  | cons y r=>
   obtain⟨a,b,e⟩:=ih ζ;exact⟨x::a,b,by rw[e];rfl⟩
theorem aar{n:Nat}{i:Int}(h0:0<=i)(h:i<n):ixN n i=ID i.toNat:=by
 unfold ixN;rw[if_pos h0,if_pos h]
theorem bF.newOk{H:Hp}{p:IN}{B:Int}(t:bF H p B):j9 (·≠p) H:=by
 obtain⟨a,b,c,e,_⟩:=t;exact WK e
theorem S6(t:IN)(items:Array Ap):Meets (AR.«enumerate.__new__» { pos:=[GE "enumerate",DO t] }) λ_ R s=>
  s.heap.IsTuple t items/\R (.ok (.ret (.ref (s.heap.objs.size+1)))) { s with heap:=(s.heap.push { cls:=.type "tuple_iterator",data:=.fields #[.ref t,.int 0 0] }).push { cls:=.type "enumerate",data:=.fields #[.none,.bool false,.ref s.heap.objs.size,Db 0,.none,.none] } }:=by
 refine Meets.of_wp λprog w A R s h=>?_;obtain⟨ht,hR⟩:=h;unfold AR.«enumerate.__new__» AR.SmallTypes.newClass;refine An (An (Au (FA Z (An (CU sub_enumerate (FA Z (Au (wpAny_ite_true Z (An ?_)))))))));unfold AR.SmallTypes.calledThroughType;refine An (wpAny_stack_any λst=>Au ?_);have fin:AH (AM prog w) A.in1 (do
   let it <- IJ (DO t)
   let r <- AR.SmallTypes.newRecord (GE "enumerate") (AR.SmallTypes.ownedTupleFields++[it,Db 0,Ap.none,Ap.none])
   ret r) (λfin s'=>∃v,fin=Fin.done (Flow.ret v)/\R (Except.ok (Flow.ret v)) s') (λe s'=>R (Except.error e) s') s:=by
  refine An (F9 ht ?_);show AH _ _ (newObj (.type "enumerate") (.fields #[.none,.bool false,.ref s.heap.objs.size,Db 0,.none,.none]) >>= λr=>ret r) _ _ _;refine An (A6 ?_);refine Au ⟨_,rfl,?_⟩;have e:(s.heap.push { cls:=GE "tuple_iterator",data:=C4 #[DO t,EQ 0 0] }).objs.size=s.heap.objs.size+1:=Cb ..;rw[e];exact hR
 dsimp only;split
 ·split
  ·exact An (Au fin)
  exact An (Au fin)
 split
 ·exact An (Au fin)
 exact An (Au fin)
theorem f9{prog:A1}{w:BD}{A:BA}{E:Ap->AA->Prop}{s:AA}{it t:IN}{i:Nat}{items:Array Ap}{x:Ap}{Q:Ap->AA->Prop}(hit:s.heap.IsTupleIter it t i)(ht:s.heap.IsTuple t items)(hx:items[i]?=ID x)
  (hQ:∀h',h'.IsTupleIter it t (i+1)->B0 it s.heap h'->Q x { s with heap:=h' }):AH (AM prog w) A (AR.SmallTypes.nextOf (DO it)) Q E s:=by
 obtain⟨o,ho,hc,hd⟩:=id hit;obtain⟨ol,hol,hcl,nl,hdl⟩:=ht;unfold AR.SmallTypes.nextOf;refine An (B5 hit.typeIs FX (B3 FX hit.typeIs F.entry_tuple_iterator_next ?_ (F.args_tuple_iterator_next_1 _)));refine An (Au (An (Cs ho hd (i:=0) Z ?_)));refine FA Z (An (Cs ho hd (i:=1) Z ?_));refine An (DC hol hdl ?_);show AH _ _ (match items[(i:Int).toNat]? with
  | some x=>(do GM (.ref it) 1 (Db ((i:Int)+1));ret x)
  | none=>_) _ _ _
 rw[Hc,hx];refine An (wpAny_setField ho hd (C3 1) (Au ⟨x,rfl,Au (hQ _ ?_ ?_)⟩))
 ·refine⟨_,G0 _ ho (Obj.isFreed_of_fields (Obj.data_mapFields hd _)),(Obj.cls_mapFields o _).trans hc,?_⟩;rw[Obj.data_mapFields hd];rfl
 exact B0.update s.heap it _
theorem jz{prog:A1}{w:BD}{A:BA}{E:Ap->AA->Prop}{s:AA}{it t:IN}{i:Nat}{items:Array Ap}{Q:Ap->AA->Prop}(hh:A.handled=IF)(hit:s.heap.IsTupleIter it t i)(ht:s.heap.IsTuple t items)(hx:items[i]?=IF)
  (hE:∀h' e,Heap.ExtBut it s.heap h'->(∃o,h'.get? e=ID o/\o.cls=GE "StopIteration")->E (.ref e) { s with heap:=h' }):AH (AM prog w) A (AR.SmallTypes.nextOf (DO it)) Q E s:=by
 obtain⟨o,ho,hc,hd⟩:=id hit;obtain⟨ol,hol,hcl,nl,hdl⟩:=ht;unfold AR.SmallTypes.nextOf;refine An (B5 hit.typeIs FX (B3 FX hit.typeIs F.entry_tuple_iterator_next ?_ (F.args_tuple_iterator_next_1 _)));refine An (Au (An (Cs ho hd (i:=0) Z ?_)));refine FA Z (An (Cs ho hd (i:=1) Z ?_));refine An (DC hol hdl ?_);show AH _ _ (match items[(i:Int).toNat]? with
  | some x=>_
  | none=>(do rule (toString "tuple_iterator.__next__" ++ toString ".end");GM (.ref it) 0 .none;AR.SmallTypes.stopIteration)) _ _ _
 rw[Hc,hx];refine An (Da (An (wpAny_setField ho hd (GN 1) ?_)));unfold AR.SmallTypes.stopIteration newExc;refine An (An (A6 ?_));refine An (CU (a:=.none) Z ?_);refine A6 ?_;refine wpAny_raiseNew_none hh (hE _ _ ?_ ?_)
 ·exact λb ob hb e=>AB _ (AB _ ((BQ _ _ (BS hb)).trans e))
 exact⟨_,AO _ rfl,rfl⟩
theorem yh{prog:A1}{w:BD}{A:BA}(hh:A.handled=IF)(it t:IN)(hne:t≠it)(items:Array Ap):Draws prog w A it [it,t] items.size (λi v=>items[i]?=ID v) λi h=>h.IsTupleIter it t i/\h.IsTuple t items where
 live:=λ_ _ st=>by
  obtain⟨⟨o,ho,_⟩,_⟩:=st;exact⟨o,ho⟩
 frame:=λ_ _ _ st hk=>by
  obtain⟨h1,⟨o,e,r⟩⟩:=st;exact⟨h1.at λo e=>hk it ζ o e,o,hk t ζ o e,r⟩
 item:=λi s Q E hi st hQ=>by
  have e:items[i]?=ID items[i]:=by simp[hi]
  refine f9 st.1 st.2 e λh' h1 sb=>hQ _ _ s.toks e ⟨h1,?_⟩ sb;obtain⟨o,g,r⟩:=st.2;exact⟨o,(sb.2 t hne).trans g,r⟩
 done:=λs Q E st hE=>jz hh st.1 st.2 ζ hE
def Iet(K:AF)(a:IN):It:=
 ⟨λi H=>∃xs x,SqT K H a xs/\xs[i]?=ID x,
  λi H v H'=>∃p x,v=.ref p/\H p=IF/\H'=upd H p (.tup [.int (i:Nat),x])/\∀xs,SqT K H a xs->xs[i]?=ID x,
  λi H=>∃xs,SqT K H a xs/\xs.length=i⟩
theorem KR{P:A1}{w:BD}{K:AF}{es:List Expr}{kk:Nat}{tpos:Pos}{e it l:IN}(hne:e≠it) :
  Turn P w K (.Tuple es kk tpos) (Iet K l) [e,it] e (λi h=>(∃old,IsEnum h e it ((i:Nat):Int) old)/\h.IsTupleIter it l i) where
 mem:=by simp
 obj:=λi h st b hb=>by
  obtain⟨⟨old,he⟩,⟨o1,e1,c1,d1⟩⟩:=st;simp only[A3,Bz,or_false] at hb;rcases hb with rfl|rfl
  ·exact⟨_,he,λv q=>by cases q⟩
  exact⟨o1,e1,λv q=>by rw[d1] at q;cases q⟩
 keep:=λi h h' st k=>by
  obtain⟨⟨old,he⟩,h1⟩:=st;exact⟨⟨old,k e ζ _ he⟩,h1.at λo q=>k it ζ o q⟩
 item:=by
  intro X hP hw hK hc i pins s σ H E I hf st hg;subst hP hw hK;obtain⟨xs,x,q1,hx⟩:=hg;obtain⟨its1,rv1,p1,hz1⟩:=I.tuple q1;obtain⟨u1,hu1,ru1⟩:=rv1.get hx;obtain⟨⟨old,he⟩,h1⟩:=st;have hel:e≠l:=λz=>by
   obtain⟨ol,g1,g2,_⟩:=p1;rw[<- z,he] at g1;cases g1;injection g2 with g2;exact absurd g2 δ
  have hil:l≠it:=λz=>by
   obtain⟨ol,g1,g2,_⟩:=p1;obtain⟨oi,g3,g4,_⟩:=h1;rw[z,g3] at g1;cases g1;rw[g4] at g2;injection g2 with g2;exact absurd g2 δ
  have hsz1:i<its1.toArray.size:=by
   obtain⟨z,_⟩:=AI.mp hu1;simpa using z
  refine wpAny_pyNext_enum_itemD (yh (A:=X.A.in1) (I.ok.hd hc) it l hil its1.toArray) he ⟨h1,p1⟩ hsz1 hne (by simp[hne,hel]) λx1 h' tk hP a1 a2 a3 a4 hk=>?_;have ex:x1=u1:=by
   have hP':its1[i]?=ID x1:=by simpa using hP
   rw[hu1] at hP';exact(Be hP').symm
  subst ex;obtain⟨a2,_⟩:=a2;have new:cu X.prog X.w (upd H s.heap.objs.size (.tup [.int (i:Nat),x])) h' s.heap.objs.size (.tup [.int (i:Nat),x]):=⟨by show 2<=AN;decide,[.int (i:Nat) tk,x1],.cons ⟨_,rfl⟩ (.cons ru1 .nil),_,a3,rfl,_,rfl⟩;have I1:Inv X pins σ (upd H s.heap.objs.size (.tup [.int (i:Nat),x])) { s with heap:=h',toks:=tk+1 }:=I.Om (ch:=[e,it]) hf
   (λb o hb q=>hk b o (λz=>hb (by simp[z])) (λz=>hb (by simp[z])) q) (AV _) new
  have hsz:∀b,b∈[e,it]->b≠s.heap.objs.size:=λb hb=>by
   have lt:∃o,s.heap.get? b=ID o:=by
    simp only[A3,Bz,or_false] at hb;rcases hb with rfl|rfl
    ·exact⟨_,he⟩
    obtain⟨o,q,_⟩:=h1;exact⟨o,q⟩
   obtain⟨o,q⟩:=lt;exact B1 (AQ q)
  refine⟨_,rfl,wpAny_letOwnedTupleGo_enum (s:={ s with heap:=h',toks:=tk+1 }) a1 λh'' z2 sb=>?_⟩;have fz:=hf e ζ;have I2:Inv X pins σ (upd H s.heap.objs.size (.tup [.int (i:Nat),x])) { s with heap:=h'',toks:=tk+1 }:=Inv.turned (s:={ s with heap:=h',toks:=tk+1 }) (it:=e) I1 (λb o hb q=>(sb.2 b hb).trans q) (by rw[aH (hsz e ζ)];exact fz.1) fz.2.1 fz.2.2.2.1 fz.2.2.2.2.1 fz.2.2.2.2.2;refine⟨.ref s.heap.objs.size,_,I2,rfl,⟨_,x,rfl,I.fresh,rfl,λxs' q=>by rw[I.qY q q1];exact hx⟩,
   ⟨⟨_,by simpa using z2⟩,a2.extBut sb.extBut hne.symm⟩,λb hb=>by rw[aH (hsz b hb)];exact(hf b hb).1⟩
 done:=by
  intro X hP hw hK hc i pins s σ H E I hf st hg;subst hP hw hK;obtain⟨xs,q1,hx⟩:=hg;obtain⟨its1,rv1,p1,hz1⟩:=I.tuple q1;obtain⟨⟨old,he⟩,h1⟩:=st;have hil:l≠it:=λz=>by
   obtain⟨ol,g1,g2,_⟩:=p1;obtain⟨oi,g3,g4,_⟩:=h1;rw[z,g3] at g1;cases g1;rw[g4] at g2;injection g2 with g2;exact absurd g2 δ
  have hl1:=rv1.length;have hsi:its1.toArray.size=i:=by rw[AZ];omega
  refine wpAny_pyNext_enum_endD (yh (A:=X.A.in1) (I.ok.hd hc) it l hil its1.toArray) he (by rw[hsi];exact⟨h1,p1⟩) λh' hk=>⟨rfl,?_⟩;exact I.Oo (t':=s.toks) (ch:=[e,it]) hf (λb o hb q=>hk b o (λz=>hb (by simp[z])) q)
 self:=λ_ _ _ _ _ st h=>by
  obtain⟨⟨old,he⟩,_⟩:=st;exact JE he h
def ieq(K:AF)(ob:Option HO)(a:IN)(H:Hp)(R:It->Hp->Prop):Prop:=match ob with
 | some (.lst _)=>R (Ite K a) H
 | some (.tup _)=>R (Iet K a) H
 | _=>False
def ieK(K:AF)(vs:List V)(H:Hp)(R:It->Hp->Prop):Prop:=match vs with
 | [.ref a]=>ieq K (H a) a H R
 | _=>False
def Nj(K:AF)(ta:TA):TI:=λσ H R=>ta σ H λvs H1=>ieK K vs H1 R
theorem Es(K:AF)(ta:TA)(σ:St)(H:Hp)(R:It->Hp->Prop):Nj K ta σ H R=ta σ H λvs H1=>ieK K vs H1 R:=rfl
theorem Qm(K:AF)(a:IN)(H:Hp)(R:It->Hp->Prop):ieK K [.ref a] H R=ieq K (H a) a H R:=rfl
theorem Ql(K:AF)(xs:List V)(a:IN)(H:Hp)(R:It->Hp->Prop):ieq K (ID (.lst xs)) a H R=R (Ite K a) H:=rfl
section
variable {X:Cx}
theorem Wb{es:List Expr}{kk:Nat}{tpos:Pos}{a:Expr}{ta:TA}{p pos:Pos}(hg:Gl X "enumerate")(hm:X.mg "enumerate" = IF)(ha:PA X [a] ta)(hs:AK [a] X.env=[(false,eval a X.env)]:=by rfl) :
  PI X (.Tuple es kk tpos) (.Call (.Name "enumerate" p) [a] [] pos) (Nj X.K ta):=by
 intro pins s σ H R I h;refine Call_ (gA I hg hm PyProof.Rows.Boot.«enumerate» (BE (thA (ha pos pins s σ H _ I h) λus s1 vs H1 I1 r1 q1=>?_) hs Z));replace q1:ieK X.K vs H1 R:=q1;unfold ieK at q1;split at q1
 ·rename_i l1;cases r1 with
  | cons r rr=>
   cases rr;cases r;unfold ieq at q1;split at q1
   ·rename_i xs e;obtain⟨its1,rv1,p1,hz1⟩:=I1.list (SqL.of e);refine call_enumerate_list p1.isList λh' b1 b2 b3 hk=>?_;refine JE (s:={ s1 with heap:=h' }) b1 ?_;have I2:Inv X pins σ H1 { s1 with heap:=h' }:=I1.kept (t':=s1.toks) hk;refine⟨_,_,_,_,H1,rfl,I2,Q0 (Ki (C3 _)),⟨⟨_,b1⟩,b2⟩,λb hb=>?_,q1⟩;have hle:s1.heap.objs.size<=b:=by
     simp only[A3,Bz,or_false] at hb;rcases hb with rfl|rfl <;> simp
    exact I1.Dl hle (I1.hok.fresh hle)
   ·rename_i xs e;obtain⟨its1,rv1,p1,hz1⟩:=I1.tuple (SqT.of e);refine callType_new F.called_enumerate δ (F.typeCall_enumerate_1 _) (F.newCall_enumerate_1 _) (λobj=>F.args_object_init_2 obj _) F.entry_enumerate_new (S6 l1 its1.toArray) ⟨p1,?_⟩;have hz:(s1.heap.push { cls:=GE "tuple_iterator",data:=C4 #[DO l1,EQ 0 0] }).objs.size=s1.heap.objs.size+1:=Cb ..;have b1:((s1.heap.push { cls:=GE "tuple_iterator",data:=C4 #[DO l1,EQ 0 0] }).push { cls:=GE "enumerate",data:=C4 #[Ap.none,GT false,DO s1.heap.objs.size,Db 0,Ap.none,Ap.none] }).get? (s1.heap.objs.size+1)=ID { cls:=GE "enumerate",data:=C4 #[Ap.none,GT false,DO s1.heap.objs.size,Db 0,Ap.none,Ap.none] }:=by
     rw[<- hz];exact AO _ rfl
    have b2:((s1.heap.push { cls:=GE "tuple_iterator",data:=C4 #[DO l1,EQ 0 0] }).push { cls:=GE "enumerate",data:=C4 #[Ap.none,GT false,DO s1.heap.objs.size,Db 0,Ap.none,Ap.none] }).IsTupleIter s1.heap.objs.size l1 0:=
     ⟨_,AB _ (AO _ Z),rfl,rfl⟩
    have hk:∀b o,s1.heap.get? b=ID o->((s1.heap.push { cls:=GE "tuple_iterator",data:=C4 #[DO l1,EQ 0 0] }).push { cls:=GE "enumerate",data:=C4 #[Ap.none,GT false,DO s1.heap.objs.size,Db 0,Ap.none,Ap.none] }).get? b=ID o:=λb o z=>AB _ (AB _ z);refine⟨⟨_,b1,rfl⟩,?_⟩;generalize (s1.heap.push { cls:=GE "tuple_iterator",data:=C4 #[DO l1,EQ 0 0] }).push { cls:=GE "enumerate",data:=C4 #[Ap.none,GT false,DO s1.heap.objs.size,Db 0,Ap.none,Ap.none] }=h' at b1 b2 hk;refine JE (s:={ s1 with heap:=h' }) b1 ?_;have I2:Inv X pins σ H1 { s1 with heap:=h' }:=I1.kept (t':=s1.toks) hk;refine⟨_,_,_,_,H1,rfl,I2,KR (Ki (C3 _)),⟨⟨_,b1⟩,b2⟩,λb hb=>?_,q1⟩;have hle:s1.heap.objs.size<=b:=by
     simp only[A3,Bz,or_false] at hb;rcases hb with rfl|rfl <;> simp
    exact I1.Dl hle (I1.hok.fresh hle)
   exact q1.elim
 exact q1.elim
theorem Jo{es:List Expr}{kk:Nat}{tpos:Pos}{a:Expr}{ta:TA}{p pos:Pos}(hg:Gl X "enumerate")(hm:X.mg "enumerate" = IF)(ha:QA X [a] ta)(hs:AK [a] X.env=[(false,eval a X.env)]:=by rfl) :
  QI X (.Tuple es kk tpos) (.Call (.Name "enumerate" p) [a] [] pos) (Nj X.K ta):=⟨Wb hg hm ha.h hs⟩
end
theorem Nz{J:It}{g:TG}{tb:TS}{D:Ends}{σ:St}{H:Hp}{R:It->Hp->Prop}(hR:R=(λJ H1=>∃W:Nat->Nat->St->Hp->Prop,(∃m,W 0 m σ H1)/\∀i m σ H,W i m σ H ->
  (J.stop i H/\D.nx σ H)\/(J.go i H/\∃N:St->Hp->Prop,(∀σ' H',N σ' H'->∃m',m'<m/\W (i+1) m' σ' H')/\∀x H',J.yld i H x H'->g x σ H' λσ2 H2=>tb { D with nx:=N,ct:=N,bk:=D.nx } σ2 H2)))
  (n:Nat)(Pv:Nat->St->Hp->Prop)(h0:Pv 0 σ H)(hgo:∀i σ H,i<n->Pv i σ H->J.go i H)(hst:∀σ H,Pv n σ H->J.stop n H)
  (hs:∀i σ H x H3,i<n->Pv i σ H->J.yld i H x H3->g x σ H3 λσ2 H2=>tb { D with nx:=Pv (i+1),ct:=Pv (i+1),bk:=D.nx } σ2 H2)(hd:∀σ H,Pv n σ H->D.nx σ H):R J H:=by
 subst hR;refine⟨λi m σ H2=>m=n-i/\i<=n/\Pv i σ H2,⟨_,rfl,De _,h0⟩,?_⟩;rintro i m σ H2 ⟨rfl,hi,p⟩;by_cases hlt:i<n
 ·exact .inr ⟨hgo i σ H2 hlt p,Pv (i+1),λσ' H' q=>⟨_,ω,rfl,hlt,q⟩,λx H3 y=>hs i σ H2 x H3 hlt p y⟩
 have e:i=n:=ω;subst e;exact .inl ⟨hst σ H2 p,hd σ H2 p⟩
section
variable {X:Cx}{e o:Expr}{te to:TE}{pos:Pos}
def exq(ob oc:Option HO)(l:IN)(H:Hp)(Q:VK):Prop:=match ob,oc with
 | some (.lst xs),ID (.lst zs)=>xs.length+zs.length<=AN/\Q .non (upd H l (.lst (xs++zs)))
 | _,_=>False
def Xv(l:IN)(y:V)(H:Hp)(Q:VK):Prop:=match y with
 | .ref b=>exq (H l) (H b) l H Q
 | _=>False
def exK(x:V)(te:TE)(σ:St)(H1:Hp)(Q:VK):Prop:=match x with
 | .ref l=>isq (H1 l)/\te σ H1 λy H2=>Xv l y H2 Q
 | _=>False
def Uy(to te:TE):TE:=λσ H Q=>to σ H λx H1=>exK x te σ H1 Q
theorem Ik(to te:TE)(σ:St)(H:Hp)(Q:VK):Uy to te σ H Q=to σ H λx H1=>exK x te σ H1 Q:=rfl
theorem Qq(l:IN)(te:TE)(σ:St)(H1:Hp)(Q:VK):exK (.ref l) te σ H1 Q=(isq (H1 l)/\te σ H1 λy H2=>Xv l y H2 Q):=rfl
theorem J8(l b:IN)(H:Hp)(Q:VK):Xv l (.ref b) H Q=exq (H l) (H b) l H Q:=rfl
theorem Xr(xs zs:List V)(l:IN)(H:Hp)(Q:VK):exq (ID (.lst xs)) (ID (.lst zs)) l H Q=(xs.length+zs.length<=AN/\Q .non (upd H l (.lst (xs++zs)))):=rfl
theorem ZP{apos cpos:Pos}(ho:PE X o to)(he:PE X e te)
  (hbase:EI o "extend" X.env (eval o X.env)=eval o X.env:=by rfl)
   (hfew:((CY cpos (AK [e] X.env)).all (λx=>!x.1)&&(Ix cpos (Fc [] X.env)).all (λx=>x.1.isSome)
   && decide ([e].length+([]:List EN).length+(if ([]:List EN).isEmpty then 0 else 1)<30))=true:=by rfl)
  (hline:(apos.endLine == cpos.line)=true:=by rfl) (hs:AK [e] X.env=(false,eval e X.env)::AK [] X.env:=by rfl) (hplain:(CY cpos (AK [] X.env)).any (·.1)=false:=by rfl) :
  PE X (.Call (.Attribute o "extend" apos) [e] [] cpos) (Uy to te):=by
 intro pins s σ H Q I h;refine Fn hbase hfew hline Z (thE (ho pins s σ H _ I h) λv s1 x H1 I1 r1 q=>?_);cases x with
 | ref l=>
  obtain⟨q1,q2⟩:=q;cases el:H1 l with
  | none=>rw[el] at q1;exact q1.elim
  | some ob=>
   cases ob with
   | lst xs=>
    obtain⟨h1,h2⟩:=wk (T := "list") I1 r1 (.inl ⟨rfl,xs,SqL.of el⟩);refine⟨"list","list.extend",E6,PySem.F.slot_list_extend,PySem.F.type_list_extend,h1,h2,?_⟩;rw[hs];refine EH (by show(false||(CY cpos (AK [] X.env)).any (·.1))=false;rw[hplain] <;> rfl) (EZ ?_)
    refine CL (thE (he pins s1 σ H1 _ I1 q2) λu s2 y H2 I2 r2 q3=>C0 ?_);replace q3:Xv l y H2 Q:=q3;unfold Xv at q3;split at q3
    ·rename_i b;unfold exq at q3;split at q3
     ·rename_i ys zs e1 e2;exact RZ pins s2 σ H2 (.ref l) [.ref b] v [u] Q I2 r1 (.cons r2 .nil) ⟨l,b,ys,zs,rfl,rfl,e1,e2,q3.1,q3.2⟩
     exact q3.elim
    exact q3.elim
   | _=>rw[el] at q1;exact q1.elim
 | _=>exact q.elim
theorem Pj{apos cpos:Pos}(ho:QE X o to)(he:QE X e te)
  (hbase:EI o "extend" X.env (eval o X.env)=eval o X.env:=by rfl)
   (hfew:((CY cpos (AK [e] X.env)).all (λx=>!x.1)&&(Ix cpos (Fc [] X.env)).all (λx=>x.1.isSome)
   && decide ([e].length+([]:List EN).length+(if ([]:List EN).isEmpty then 0 else 1)<30))=true:=by rfl)
  (hline:(apos.endLine == cpos.line)=true:=by rfl) (hs:AK [e] X.env=(false,eval e X.env)::AK [] X.env:=by rfl) (hplain:(CY cpos (AK [] X.env)).any (·.1)=false:=by rfl) :
  QE X (.Call (.Attribute o "extend" apos) [e] [] cpos) (Uy to te):=⟨ZP ho.h he.h hbase hfew hline hs hplain⟩
end
mutual
def szD(a:Nat):AU->Prop
 | .none=>True
 | .bool _=>True
 | .int i=>i.natAbs<=10^20*2^a
 | .str x=>x.length<=30+a/\∀c∈x.cps.toList,c<16^8
 | .list ds=>ds.length<=210*5^a/\UL a ds
 | .tuple ds=>ds.length<=210*5^a/\UL a ds
 | .dict _=>False
def UL(a:Nat):List AU->Prop
 | []=>True
 | d::ds=>szD a d/\UL a ds
end
theorem vY{x:AU}:∀{ds:List AU},x∈ds->x.depth<=AU.depthAll ds
 | y::ds,h=>by
  rw[AU.depthAll.eq_2];rcases A3.mp h with rfl|z
  ·omega
  have:=vY z;omega
theorem jO{k:Nat}:∀{ds:List AU},(∀d∈ds,d.depth<=k)->AU.depthAll ds<=k
 | [],_=>De _
 | x::ds,h=>by
  rw[AU.depthAll.eq_2];have h1:=h x A5;have h2:=jO λd hd=>h d (Bi _ hd);omega
def ctq(a b:Option HO)(pa:IN)(H:Hp)(Q:VK):Prop:=match a,b with
 | some (.tup xs),ID (.tup ys)=>xs≠[]/\xs.length+ys.length<=AN/\(ys=[]->Q (.ref pa) H)/\(ys≠[]->∀p,H p=IF->Q (.ref p) (upd H p (.tup (xs++ys))))
 | _,_=>False
def VJ:R2:=λx y H Q=>match x,y with
 | .ref p,.ref q=>ctq (H p) (H q) p H Q
 | _,_=>False
theorem Y5(p q:IN)(H:Hp)(Q:VK):VJ (.ref p) (.ref q) H Q=ctq (H p) (H q) p H Q:=rfl
theorem acH(xs ys:List V)(pa:IN)(H:Hp)(Q:VK):ctq (ID (.tup xs)) (ID (.tup ys)) pa H Q=(xs≠[]/\xs.length+ys.length<=AN/\(ys=[]->Q (.ref pa) H)/\(ys≠[]->∀p,H p=IF->Q (.ref p) (upd H p (.tup (xs++ys))))):=rfl
theorem Z4{X:Cx}:OpR X (ET .Add) VJ:=by
 intro pins s σ H x y v u Q I rx ry h;unfold VJ at h;split at h
 ·rename_i p q;unfold ctq at h;split at h
  ·rename_i xs ys e1 e2;exact Z2 pins s σ H _ _ v u Q I rx ry ⟨p,q,xs,ys,rfl,rfl,SqT.of e1,SqT.of e2,h.1,h.2.1,h.2.2.1,h.2.2.2⟩
  exact h.elim
 exact h.elim
inductive Ie (H:Hp):List V->List (List Nat)->Prop
 | nil:Ie H [] []
 | cons {t:IN} {p:List Nat} {vs:List V} {ps:List (List Nat)}:H t=ID (.tup (ad7 p))->Ie H vs ps->Ie H (.ref t::vs) (p::ps)
theorem wG{H H':Hp}{l:IN}{o:HO}(s:Same H H')(h:H l=IF):Same H (upd H' l o):=λb u e=>by
 rw[aH (aB e h)];exact s b u e
theorem j9.new{ok:IN->Prop}{H:Hp}(n:j9 ok H){q:IN}(h:H q=IF):ok q:=n H q (Same.refl _) h
theorem aao{α:Type}(xs:List α)(h:1<=xs.length):∃(i:Nat)(x:α),xs[i]?=ID x/\atI xs (-1)=ID x:=by
 have h1:xs.length-1<xs.length:=ω;refine⟨xs.length-1,xs[xs.length-1],AD h1,?_⟩;unfold atI ixN;rw[if_neg δ,if_pos ω];show xs[_]?=_;rw[show(-1+(xs.length:Int)).toNat=xs.length-1 by omega];exact AD h1
section
variable {X:Cx}{a:Expr}{ta:TE}
def adX:R2:=λx y H Q=>∃p q xs,x=.ref p/\y=.ref q/\H p=ID (.lst xs)/\H q=ID (.lst [])/\Q (.bl (!xs.isEmpty)) H
theorem Wq(hu:X.A.units<FO):OpR X (Ev .NotEq) adX:=by
 intro pins s σ H x y v u Q I rx ry h;obtain⟨p,q,xs,rfl,rfl,e1,e2,qq⟩:=h;cases rx;cases ry;obtain⟨its1,r1,pl1,hz1⟩:=I.list (SqL.of e1);obtain⟨its2,r2,pl2,hz2⟩:=I.list (SqL.of e2);cases r2;cases xs with
 | nil=>
  cases r1;exact SeqAt.RcNeAt.lists (e:=λ_=>true) pl1.isList pl2.isList Z hu (λj h1 h2=>absurd h2 (not_lt_zero _)) X.prog X.w X.xe (EP X pins σ Q) ⟨.bl false,H,I,rfl,qq⟩
 | cons a b=>
  cases r1;exact SeqAt.RcNeAt.lists_lengths pl1.isList pl2.isList ζ hu X.prog X.w X.xe (EP X pins σ Q) ⟨.bl true,H,I,rfl,qq⟩
end
theorem adE{K:AF}{a b:IN}{xs ys:List V}{g:TG}{tb:TS}{D:Ends}{σ:St}{H:Hp}{R:It->Hp->Prop}(hR:R=(λJ H1=>∃W:Nat->Nat->St->Hp->Prop,(∃m,W 0 m σ H1)/\∀i m σ H,W i m σ H ->
  (J.stop i H/\D.nx σ H)\/(J.go i H/\∃N:St->Hp->Prop,(∀σ' H',N σ' H'->∃m',m'<m/\W (i+1) m' σ' H')/\∀x H',J.yld i H x H'->g x σ H' λσ2 H2=>tb { D with nx:=N,ct:=N,bk:=D.nx } σ2 H2)))
  (hyx:ys.length<=xs.length)(Pv:Nat->St->Hp->Prop)(h0:Pv 0 σ H)(hl:∀i σ H,Pv i σ H->H a=ID (.lst xs)/\H b=ID (.lst ys))
  (hs:∀i x y σ H p,xs[i]?=ID x->ys[i]?=ID y->Pv i σ H->H p=IF->g (.ref p) σ (upd H p (.tup [x,y])) λσ2 H2=>tb { D with nx:=Pv (i+1),ct:=Pv (i+1),bk:=D.nx } σ2 H2)(hd:∀σ H,Pv ys.length σ H->D.nx σ H):R (Itz K a b) H:=by
 refine Nz hR ys.length Pv h0 (λi σ H hi p=>?_) (λσ H p=>?_) (λi σ H x H3 hi p y=>?_) hd
 ·obtain⟨e1,e2⟩:=hl i σ H p;exact⟨xs,ys,_,_,SqL.of e1,SqL.of e2,AD ω,AD hi⟩
 ·obtain⟨e1,e2⟩:=hl _ σ H p;exact⟨xs,ys,SqL.of e1,SqL.of e2,.inr (BM (AV _))⟩
 obtain⟨e1,e2⟩:=hl i σ H p;obtain⟨q,x1,y1,rfl,hq,rfl,hx,hy⟩:=y;exact hs i x1 y1 σ H q (hx _ (SqL.of e1)) (hy _ (SqL.of e2)) p hq
def stD(s:Int×Int×Int):AU:=.tuple [.int s.1,.int s.2.1,.int s.2.2]
theorem aJ.st{ok:IN->Prop}{H:Hp}{x:V}{s:Int×Int×Int}(t:aJ ok H x (stD s)):∃a,x=.ref a/\ok a/\H a=ID (.tup [.int s.1,.int s.2.1,.int s.2.2]):=by
 cases t with
 | tup o e z ts=>
  rename_i p xs;refine⟨p,rfl,o,?_⟩;cases ts with
  | cons t1 ts=>
   cases t1;cases ts with
   | cons t2 ts=>
    cases t2;cases ts with
    | cons t3 ts=>
     cases t3;cases ts;exact e
theorem aG.st{ok:IN->Prop}{H:Hp}{xs:List V}{ss:List (Int×Int×Int)}{i:Nat}{x:V}(t:aG ok H xs (ss.map stD))(h:xs[i]?=ID x):∃a s,x=.ref a/\ok a/\ss[i]?=ID s/\H a=ID (.tup [.int s.1,.int s.2.1,.int s.2.2]):=by
 obtain⟨d,hd,td⟩:=t.get h;rw[AL] at hd;cases hs:ss[i]? with
 | none=>rw[hs] at hd;cases hd
 | some s=>
  rw[hs] at hd;cases hd;obtain⟨a,h1,h2,h3⟩:=td.st;exact⟨a,s,h1,h2,rfl,h3⟩
theorem pP{is:List Int}{r:Int}(h0:0<=r)(h:r<is.length):∃i,i∈is/\atI (is.map At) r=ID (.int i):=by
 have h1:r.toNat<is.length:=ω;refine⟨is[r.toNat],D7 h1,?_⟩;unfold atI;rw[aar h0 (by rw[AC];omega)];show(is.map At)[r.toNat]?=_;rw[AL,AD h1];rfl
structure KD(ss:List (Int×Int×Int)):Prop where
 lh:∀(i:Nat) s,ss[i]?=ID s->s.1<=s.2.1/\0<=s.2.2/\s.2.2<=9
 nx:∀(i:Nat) s t,ss[i]?=ID s->ss[i+1]?=ID t->t.1=s.2.1+1
 bd:∀(i:Nat) s,ss[i]?=ID s->-(10^12)<=s.1/\s.2.1<=10^9+(10^12+10)*(i+1)
theorem KD.nil:KD []:=⟨λi s h=>(by cases h),λi s t h=>(by cases h),λi s h=>(by cases h)⟩
theorem KD.snoc{ss:List (Int×Int×Int)}(h:KD ss){lo hi b:Int}(h1:lo<=hi)(h2:0<=b/\b<=9)(h3:-(10^12)<=lo/\hi<=10^9+(10^12+10)*(ss.length+1))(h4:∀s,ss[ss.length-1]?=ID s->lo=s.2.1+1):KD (ss++[(lo,hi,b)]):=by
 have get:∀(i:Nat) s,(ss++[(lo,hi,b)])[i]?=ID s->(i<ss.length/\ss[i]?=ID s)\/(i=ss.length/\s=(lo,hi,b)):=λi s e=>by
  rcases FU i ss.length with z|z
  ·rw[EU z] at e;exact .inl ⟨z,e⟩
  rw[Dx z] at e;cases hk:i-ss.length with
  | zero=>rw[hk] at e;cases e;exact .inr ⟨ω,rfl⟩
  | succ k=>rw[hk] at e;cases e
 refine⟨λi s e=>?_,λi s t e1 e2=>?_,λi s e=>?_⟩
 ·rcases get i s e with⟨z,e⟩|⟨z,rfl⟩
  ·exact h.lh i s e
  exact⟨h1,h2.1,h2.2⟩
 ·rcases get i s e1 with⟨z,e1⟩|⟨z,rfl⟩
  ·rcases get (i+1) t e2 with⟨z2,e2⟩|⟨z2,rfl⟩
   ·exact h.nx i s t e1 e2
   exact h4 s (by rw[show ss.length-1=i by omega];exact e1)
  rcases get (i+1) t e2 with⟨z2,e2⟩|⟨z2,rfl⟩ <;> omega
 rcases get i s e with⟨z,e⟩|⟨z,rfl⟩
 ·exact h.bd i s e
 rw[z];exact h3
section
variable {κ:Type}[DecidableEq κ]
def gF(kvs:List (κ×V))(k:κ):Option V:=(kvs.find? λkv=>decide (kv.1=k)).map (·.2)
def putK(kvs:List (κ×V))(k:κ)(v:V):List (κ×V):=
 if (kvs.any λkv=>decide (kv.1=k))=true then kvs.map (λkv=>if kv.1=k then (kv.1,v) else kv) else kvs++[(k,v)]
theorem Ug{k:κ}:gF ([]:List (κ×V)) k=IF:=rfl
theorem fJ{p:κ×V}{r:List (κ×V)}{k:κ}(e:p.1=k):gF (p::r) k=ID p.2:=by simp[gF,KP,e]
theorem fK{p:κ×V}{r:List (κ×V)}{k:κ}(e:¬p.1=k):gF (p::r) k=gF r k:=by simp[gF,KP,e]
theorem uV(k:κ):∀kvs:List (κ×V),(kvs.any λkv=>decide (kv.1=k))=(gF kvs k).isSome
 | []=>rfl
 | p::r=>by
  rw[any_cons];by_cases e:p.1=k
  ·simp only[fJ e,decide_eq_true e,Bool.true_or,isSome_some]
  rw[fK e,decide_eq_false e,Bool.false_or];exact uV k r
theorem Ii(k j:κ)(y:V):∀kvs:List (κ×V),gF (kvs.map λkv=>if kv.1=k then (kv.1,y) else kv) j=(gF kvs j).map λx=>if j=k then y else x
 | []=>rfl
 | p::r=>by
  have ih:=Ii k j y r;rw[DJ];by_cases h:p.1=k
  ·rw[if_pos h];by_cases e:p.1=j
   ·rw[fJ (p:=(p.1,y)) e,fJ e,map_some,if_pos (e.symm.trans h)]
   rw[fK (p:=(p.1,y)) e,fK e,ih]
  rw[if_neg h];by_cases e:p.1=j
  ·rw[fJ (p:=p) e,fJ e,map_some,if_neg (λz=>h (e.trans z))]
  rw[fK (p:=p) e,fK e,ih]
theorem Dt(k j:κ)(y:V):∀kvs:List (κ×V),gF kvs k=IF->gF (kvs++[(k,y)]) j=if j=k then ID y else gF kvs j
 | [],_=>by
  by_cases e:k=j
  ·rw[if_pos e.symm];exact fJ (p:=(k,y)) e
  rw[if_neg (λz=>e z.symm)];exact fK (p:=(k,y)) e
 | p::r,hn=>by
  rw[cons_append];have hk:¬p.1=k:=λz=>by rw[fJ z] at hn;cases hn
  rw[fK hk] at hn;have ih:=Dt k j y r hn;by_cases e:p.1=j
  ·rw[fJ e,fJ e,if_neg (λz=>hk (e.trans z))]
  rw[fK e,fK e,ih]
theorem lg(kvs:List (κ×V))(k j:κ)(y:V):gF (putK kvs k y) j=if j=k then ID y else gF kvs j:=by
 unfold putK;by_cases a:(kvs.any λkv=>decide (kv.1=k))=true
 ·rw[if_pos a,Ii];rw[uV] at a;by_cases e:j=k
  ·obtain⟨x,hx⟩:=Option.isSome_iff_exists.mp a;rw[if_pos e,e,hx,map_some,if_pos rfl]
  rw[if_neg e];cases gF kvs j with
  | none=>rfl
  | some x=>rw[map_some,if_neg e]
 rw[if_neg a];refine Dt k j y kvs ?_;rw[uV] at a;cases q:gF kvs k with
 | none=>rfl
 | some x=>rw[q] at a;exact(a rfl).elim
theorem gw(kvs:List (κ×V))(k:κ)(v:V):(putK kvs k v).length<=kvs.length+1:=by
 unfold putK;split
 ·rw[AC];omega
 rw[A0,EX,length_nil];omega
theorem Ck.Sw{o:Option V}{u:Option Ap}(r:Ck o u):o.isSome=u.isSome:=by
 cases o with
 | none=>cases u with
  | none=>rfl
  | some _=>exact(show False from r).elim
 | some _=>cases u with
  | none=>exact(show False from r).elim
  | some _=>rfl
theorem KV.val{kvs:List (κ×V)}{vs:List (κ×Ap)}(r:KV kvs vs)(k:κ):Ck (gF kvs k) (valueAt vs k):=by
 unfold KV at r
 induction r with
 | nil=>exact EC
 | @cons p q ps qs h t ih=>
  obtain⟨h1,h2⟩:=h;by_cases e:p.1=k
  ·have e':q.1=k:=h1.symm.trans e;have b:valueAt (q::qs) k=ID q.2:=by simp[valueAt,KP,e']
   rw[fJ e,b];exact h2
  have e':¬q.1=k:=λz=>e (h1.trans z);have b:valueAt (q::qs) k=valueAt qs k:=by simp[valueAt,KP,e']
  rw[fK e,b];exact ih
theorem KV.any{kvs:List (κ×V)}{vs:List (κ×Ap)}(r:KV kvs vs)(k:κ):(kvs.any λkv=>decide (kv.1=k))=vs.any λkv=>decide (kv.1=k):=by
 unfold KV at r
 induction r with
 | nil=>rfl
 | cons h t ih=>rw[any_cons,any_cons,ih,h.1]
theorem KV.repl{kvs:List (κ×V)}{vs:List (κ×Ap)}(r:KV kvs vs)(k:κ){y:V}{u:Ap}(ry:RelV y u) :
  KV (kvs.map λkv=>if kv.1=k then (kv.1,y) else kv) (vs.map λkv=>if kv.1=k then (kv.1,u) else kv):=by
 unfold KV at r |-
 induction r with
 | nil=>exact .nil
 | @cons p q ps qs h t ih=>
  rw[DJ,DJ];refine .cons ?_ ih;obtain⟨h1,h2⟩:=h;by_cases e:p.1=k
  ·rw[if_pos e,if_pos (h1.symm.trans e)];exact⟨h1,ry⟩
  rw[if_neg e,if_neg (λz=>e (h1.trans z))];exact⟨h1,h2⟩
theorem KV.put{kvs:List (κ×V)}{vs:List (κ×Ap)}(r:KV kvs vs)(k:κ){y:V}{u:Ap}(ry:RelV y u):KV (putK kvs k y) (stored vs k u):=by
 unfold putK stored;rw[r.any k];by_cases e:(vs.any λkv=>decide (kv.1=k))=true
 ·rw[if_pos e,if_pos e];exact r.repl k ry
 rw[if_neg e,if_neg e];exact Paired.snoc r ⟨rfl,ry⟩
theorem KV.length{kvs:List (κ×V)}{vs:List (κ×Ap)}(r:KV kvs vs):kvs.length=vs.length:=L6 r
end
theorem Qg{P:A1}{w:BD}{k:Key}{u:Ap}(r:RelV (kV k) u):(cF P w).is k u=true:=by
 cases k with
 | inl i=>obtain⟨t,e⟩:=(show ∃t,u=EQ i t from r);subst e;exact JV P w i t
 | inr x=>obtain⟨t,e⟩:=(show ∃t,u=Ap.str x t from r);subst e;exact JT P w x t
theorem Er{P:A1}{w:BD}:∀{ks:List Key}{us:List Ap},Vals (ks.map kV) us->ItemsAre (cF P w) ks us
 | [],_,r=>by rw[map_nil] at r;cases r;exact .nil
 | k::ks,_,r=>by
  rw[DJ] at r;cases r with
  | cons h t=>exact .cons (Qg h) (Er t)
abbrev KT(H:Hp):List (List Key×V)->List (List Key×IN×Ap)->Prop:=Paired λp q=>p.1=q.1/\H q.2.1=ID (.tup (p.1.map kV))/\RelV p.2 q.2.2
theorem KT.val{H:Hp}{kvs:List (List Key×V)}{xs:List (List Key×IN×Ap)}(r:KT H kvs xs)(k:List Key):Ck (gF kvs k) ((atKey xs k).map (·.2)):=by
 induction r with
 | nil=>exact EC
 | @cons p q ps qs h t ih=>
  obtain⟨h1,_,h2⟩:=h;by_cases e:p.1=k
  ·have e':q.1=k:=h1.symm.trans e;have b:atKey (q::qs) k=ID q.2:=by simp[atKey,KP,e']
   rw[fJ e,b];exact h2
  have e':¬q.1=k:=λz=>e (h1.trans z);have b:atKey (q::qs) k=atKey qs k:=by simp[atKey,KP,e']
  rw[fK e,b];exact ih
theorem KT.repl{H:Hp}{kvs:List (List Key×V)}{xs:List (List Key×IN×Ap)}(r:KT H kvs xs)(k:List Key){y:V}{u:Ap}(ry:RelV y u) :
  KT H (kvs.map λkv=>if kv.1=k then (kv.1,y) else kv) (xs.map (putAt k u)):=by
 induction r with
 | nil=>exact .nil
 | @cons p q ps qs h t ih=>
  rw[DJ,DJ];refine .cons ?_ ih;obtain⟨h1,h2,h3⟩:=h;unfold putAt;by_cases e:p.1=k
  ·rw[if_pos e,if_pos (h1.symm.trans e)];exact⟨h1,h2,ry⟩
  rw[if_neg e,if_neg (λz=>e (h1.trans z))];exact⟨h1,h2,h3⟩
theorem KT.put{H:Hp}{kvs:List (List Key×V)}{xs:List (List Key×IN×Ap)}(r:KT H kvs xs)(k:List Key){b:IN}{y:V}{u:Ap}(hb:H b=ID (.tup (k.map kV)))(ry:RelV y u) :
  KT H (putK kvs k y) (storedH xs k b u):=by
 have e:(kvs.any λkv=>decide (kv.1=k))=(atKey xs k).isSome:=by
  rw[uV,(r.val k).Sw,Option.isSome_map]
 unfold putK storedH;rw[e];by_cases q:(atKey xs k).isSome=true
 ·rw[if_pos q,if_pos q];exact r.repl k ry
 rw[if_neg q,if_neg q];exact Paired.snoc r ⟨rfl,hb,ry⟩
theorem KT.keeps{H H':Hp}{kvs:List (List Key×V)}{xs:List (List Key×IN×Ap)}(r:KT H kvs xs)(ht:∀b ys,H b=ID (.tup ys)->H' b=ID (.tup ys)):KT H' kvs xs:=
 Paired.ab7 r λ_ _ z=>⟨z.1,ht _ _ z.2.1,z.2.2⟩
section
variable {P:A1}{w:BD}{H:Hp}{h:Heap}{a:IN}
theorem aaW{u:HO}(ok:HOk P w H h)(e:Rd H a u):cu P w H h a u:=e.ok ok
theorem Xy{kvs:List (Key×V)}(ok:HOk P w H h)(e:Rd H a (.dK kvs)):kvs.length<=AN/\(a == DI)=false/\∃vs,KV kvs vs/\h.DictOf (cF P w) a vs:=
 show cu P w H h a (.dK kvs) from aaW ok e
theorem adL{kvs:List (Key×V)}(ok:HOk P w H h)(e:H a=ID (.dK kvs)):kvs.length<=AN/\(a == DI)=false/\∃vs,KV kvs vs/\h.DictOf (cF P w) a vs:=Xy ok (.inl e)
theorem Aw{ks:List Key}(ok:HOk P w H h)(e:H a=ID (.tup (ks.map kV))):(FD (cF P w)).is h ks a:=by
 obtain⟨_,its,r,o,h1,h2,n,h3⟩:=(show cu P w H h a (.tup (ks.map kV)) from ok a _ e);exact⟨o,its.toArray,n,h1,h2,h3,by simpa using Er r⟩
theorem Xw{kvs:List (List Key×V)}(ok:HOk P w H h)(e:Rd H a (.dT kvs)):kvs.length<=AN/\(a == DI)=false /\
  ∃xs,KT H kvs xs/\h.DictOfH (FD (cF P w)) a xs:=by
 obtain⟨z,y,xs,r,o,es,ep,h1,h2,h3,h4,h5⟩:=(show cu P w H h a (.dT kvs) from aaW ok e);refine⟨z,y,xs,r,o,es,ep,h1,h2,h3,h4,λx hx=>?_,h5⟩;have all:∀{l:List (List Key×V)}{m:List (List Key×IN×Ap)},KT H l m->∀x∈m,(FD (cF P w)).is h x.1 x.2.1:=by
  intro l m q
  induction q with
  | nil=>intro x hx;exact nomatch hx
  | @cons p q ps qs hq t ih=>
   intro x hx;rcases A3.mp hx with e|hx
   ·subst e;exact Aw ok (by rw[<- hq.1];exact hq.2.1)
   exact ih x hx
 exact all r x hx
theorem adK{kvs:List (List Key×V)}(ok:HOk P w H h)(e:H a=ID (.dT kvs)):kvs.length<=AN/\(a == DI)=false /\
  ∃xs,KT H kvs xs/\h.DictOfH (FD (cF P w)) a xs:=Xw ok (.inl e)
end
def j7(H:Hp)(a:IN)(y:V)(r:Option V):Prop:=
 (∃kvs k,Rd H a (.dK kvs)/\y=kV k/\r=gF kvs k)\/∃kvs k b,Rd H a (.dT kvs)/\y=.ref b/\H b=ID (.tup (k.map kV))/\r=gF kvs k
def rT(H:Hp)(a:IN)(y v:V)(H':Hp):Prop:=
 (∃kvs k,H a=ID (.dK kvs)/\y=kV k/\kvs.length<AN/\H'=upd H a (.dK (putK kvs k v))) \/
 ∃kvs k b,H a=ID (.dT kvs)/\y=.ref b/\H b=ID (.tup (k.map kV))/\kvs.length<AN/\H'=upd H a (.dT (putK kvs k v))
theorem j7.k{H:Hp}{a:IN}{kvs:List (Key×V)}{k:Key}(e:H a=ID (.dK kvs)):j7 H a (kV k) (gF kvs k):=.inl ⟨kvs,k,.inl e,rfl,rfl⟩
theorem j7.t{H:Hp}{a b:IN}{kvs:List (List Key×V)}{k:List Key}(e:H a=ID (.dT kvs))(eb:H b=ID (.tup (k.map kV))):j7 H a (.ref b) (gF kvs k):=.inr ⟨kvs,k,b,.inl e,rfl,eb,rfl⟩
theorem rT.k{H:Hp}{a:IN}{kvs:List (Key×V)}{k:Key}{v:V}(e:H a=ID (.dK kvs))(hl:kvs.length<AN):rT H a (kV k) v (upd H a (.dK (putK kvs k v))):=.inl ⟨kvs,k,e,rfl,hl,rfl⟩
theorem rT.t{H:Hp}{a b:IN}{kvs:List (List Key×V)}{k:List Key}{v:V}(e:H a=ID (.dT kvs))(eb:H b=ID (.tup (k.map kV)))(hl:kvs.length<AN) :
  rT H a (.ref b) v (upd H a (.dT (putK kvs k v))):=.inr ⟨kvs,k,b,e,rfl,eb,hl,rfl⟩
section
variable {X:Cx}{pins:List (IN×Obj)}{σ:St}{H:Hp}{s:AA}{a:IN}{y v:V}{u r:Ap}{o:Option V}{A:BA}{E:Ap->AA->Prop}
theorem Inv.big(I:Inv X pins σ H s):DI<s.heap.objs.size:=by
 have h:Co<s.heap.objs.size:=(I.mod.glob.keeps I.bk).lt;exact lt_trans δ h
theorem Tc{Q:Ap->AA->Prop}(hu:A.units+1<FO)(I:Inv X pins σ H s)(g:j7 H a y (ID v))(ry:RelV y u)(h:∀w' s',Inv X pins σ H s'->RelV v w'->Q w' s') :
  AH (AM X.prog X.w) A (LX (.ref a) u) Q E s:=by
 rcases g with⟨kvs,k,e,ey,l⟩|⟨kvs,k,b,e,ey,eb,l⟩
 ·subst ey;obtain⟨z,hd,vs,rel,dd⟩:=Xy I.hok e;obtain⟨w',hw,rw'⟩:=Ck.some_of (v:=v) (o:=valueAt vs k) (by rw[l];exact rel.val k);exact wpAny_getItem_of (Qg ry) dd.mapOf hw (h w' _ (I.tok _) rw')
 subst ey;cases (show u=DO b from ry);obtain⟨z,hd,xs,rel,dd⟩:=Xw I.hok e;obtain⟨w',hw,rw'⟩:=Ck.some_of (v:=v) (o:=(atKey xs k).map (·.2)) (by rw[l];exact rel.val k);obtain⟨p,hp,hp2⟩:=BG.mp hw;refine wpAny_getItem_heap (tupleKind_room_in1 hu) (Aw I.hok eb) dd hp ?_;rw[hp2];exact h w' _ (I.tok _) rw'
theorem Qz{h':Heap}{t':Nat}{ob:HO}(I:Inv X pins σ H s)(mu:Mut (H a))(hs:B0 a s.heap h')(he:∃q,h'.get? a=ID q)(new:cu X.prog X.w (upd H a ob) h' a ob) :
  Inv X pins σ (upd H a ob) { s with heap:=h',toks:=t' }:=
 I.write (x:=a) (e:=a) mu (.inl Z) (λb q hb z=>(hs.2 b hb).trans z) he new
theorem Xz{P:A1}{w:BD}{H':Hp}{h':Heap}{kvs:List (Key×V)}{vs:List (Key×Ap)}(z:kvs.length<=AN)(hd:(a == DI)=false)(rel:KV kvs vs)(dd:h'.DictOf (cF P w) a vs) :
  cu P w H' h' a (.dK kvs):=⟨z,hd,vs,rel,dd⟩
theorem EY{H':Hp}{Q:Unit->AA->Prop}(hu:A.units+1<FO)(I:Inv X pins σ H s)(g:rT H a y v H')(ry:RelV y u)(rv:RelV v r)(h:∀s',Inv X pins σ H' s'->Q () s') :
  AH (AM X.prog X.w) A (setItem (.ref a) u r) Q E s:=by
 rcases g with⟨kvs,k,e,ey,l,eH⟩|⟨kvs,k,b,e,ey,eb,l,eH⟩
 ·subst ey eH;obtain⟨z,hd,vs,rel,dd⟩:=adL I.hok e;have hz:vs.length<=AN:=by rw[<- rel.length];exact z
  have hl:(putK kvs k v).length<=AN:=by have:=gw kvs k v;omega
  refine wpAny_setItem_pairs (hsz:=hz) (Qg ry) dd λh' dd' hs=>h _ ?_;have he:∃q,h'.get? a=ID q:=let ⟨q,_,_,hq,_⟩:=dd';⟨q,hq⟩;exact Qz I (by rw[e];exact EC) hs he (Xz hl hd (rel.put k rv) dd')
 subst ey eH;cases (show u=DO b from ry);obtain⟨z,hd,xs,rel,dd⟩:=adK I.hok e;have hz:xs.length<=AN:=by rw[<- L6 rel];exact z
 have hl:(putK kvs k v).length<=AN:=by have:=gw kvs k v;omega
 refine wpAny_setItem_heap (hsz:=hz) (tupleKind_room_in1 hu) (Aw I.hok eb) dd λh' dd' hs=>h _ ?_;obtain⟨q,es,ep,hq,h2,h3,h4,_,h5⟩:=dd';refine Qz I (by rw[e];exact EC) hs ⟨q,hq⟩ ⟨hl,hd,_,(rel.put k eb rv).keeps λc ys ec=>?_,q,es,ep,hq,h2,h3,h4,h5⟩;rw[aH (PK ec e (λz=>nomatch z))];exact ec
end
def acQ(i:Expr):Prop:=∀ov iv,subscripted i false ov iv=operate [ov,iv] (LX ov iv)
theorem Yv{prog:A1}{w:BD}{A:BA}{E:Ap->AA->Prop}{s:AA}{env:Env}{value slice:Expr}{pos:Pos}{T id:String}{Q:Ap->AA->Prop}
  (hl:typeLookup (.type T) "__getitem__" = pure (ID (.builtin id)))(hs:acQ slice)
  (h:AH (AM prog w) A (eval value env) (λo s₁=>AH (AM prog w) A (eval slice env) (λi s₂=>s₂.TypeIs o T/\AH (AM prog w) A (LX o i) Q E s₂) E s₁) E s) :
  AH (AM prog w) A (eval (.Subscript value slice pos) env) Q E s:=by
 refine Subscript_ (A7 h (λo s₁ h₁=>A7 h₁ (λi s₂ h₂=>?_) λ_ _ x=>x) λ_ _ x=>x);obtain⟨hT,h₂⟩:=h₂;unfold subscriptTail;refine An ?_;rw[getitemInPython_of_ne hT.not_modules];refine An (wpAny_specialOf hT hl ?_);have fin:AH (AM prog w) A (subscripted slice false o i) (λr s₃=>AH (AM prog w) A (letTemporaryGo value o r >>= λ_=>pure r) Q E s₃) E s₂:=by
  rw[hs o i];exact wpAny_operating (A7 h₂ (λr s₃ h₃=>An (wpAny_letTemporaryGo (Au h₃))) λ_ _ x=>x)
 first
  | exact Au (An fin)
  | exact An (Au (An fin))
  | exact An fin
theorem Kg{X:Cx}{pins:List (IN×Obj)}{σ:St}{H:Hp}{s:AA}{a:IN}{y:V}{o:Option V}(I:Inv X pins σ H s)(g:j7 H a y o):s.TypeIs (.ref a) "dict" := by
 rcases g with⟨kvs,k,e,_,_⟩|⟨kvs,k,b,e,_,_,_⟩
 ·obtain⟨_,_,vs,_,dd⟩:=Xy I.hok e;exact dd.typeIs
 obtain⟨_,_,xs,_,dd⟩:=Xw I.hok e;exact dd.typeIs
def acW(td ty:TE):TE:=λσ H Q=>td σ H λx H1=>ty σ H1 λy H2=>∃a v,x=.ref a/\j7 H2 a y (ID v)/\Q v H2
def ac0(td ty tv:TE):TS:=λD σ H=>tv σ H λv H1=>td σ H1 λx H2=>ty σ H2 λy H3=>∃a H4,x=.ref a/\rT H3 a y v H4/\D.nx σ H4
section
variable {X:Cx}{o i e value:Expr}{pos pos' tpos:Pos}{td ty tv:TE}
theorem ZQ(hu:X.A.units+1<FO)(ho:PE X o td)(hi:PE X i ty)(hs:acQ i):PE X (.Subscript o i pos) (acW td ty):=by
 intro pins s σ H Q I h;refine Yv PySem.F.slot_dict_getitem.lookup hs (thE (ho pins s σ H _ I h) λu s1 x H1 I1 rx q1=>thn (hi pins s1 σ H1 _ I1 q1) λiv s2 ⟨y,H2,I2,ry,a,v,ex,g,q2⟩=>?_);subst ex;obtain rfl:u=DO a:=rx;exact⟨Kg I2 g,Tc hu I2 g ry λw' s3 I3 rw'=>⟨v,H2,I3,rw',q2⟩⟩
theorem Zt(hu:X.A.units+1<FO)(ho:PE X o td)(hi:PE X i ty)(hv:PE X value tv)(hs:Kb value (ID (.Subscript o i pos')) pos.line X.env=pure false) :
  PS X (.Assign [.Subscript o i pos'] value pos) (ac0 td ty tv):=by
 intro pins s σ H D I h;refine wpAny_Assign_Subscript (thE (hv pins s σ H _ I h) λr s1 v H1 I1 rv q1=>thE (ho pins s1 σ H1 _ I1 q1) λu s2 x H2 I2 rx q2=>thn (hi pins s2 σ H2 _ I2 q2) λiv s3 ⟨y,H3,I3,ry,a,H4,ex,g,q3⟩=>?_) hs;subst ex;obtain rfl:u=DO a:=rx;exact EY hu I3 g ry rv λs4 I4=>⟨σ,H4,I4,q3⟩
end
theorem XC{P:A1}{w:BD}{H:Hp}(h:Heap)(hb:DI<h.objs.size):cu P w H (h.push { cls:=.type "dict",data:=.dict #[] }) h.objs.size (.dK []):=
 ⟨De _,beq_eq_false_iff_ne.mpr (BS (B1 hb)),[],.nil,Heap.DictOf.new h⟩
theorem Kf{P:A1}{w:BD}{H:Hp}(h:Heap)(hb:DI<h.objs.size):cu P w H (h.push { cls:=.type "dict",data:=.dict #[] }) h.objs.size (.dT []):=
 ⟨De _,beq_eq_false_iff_ne.mpr (BS (B1 hb)),[],.nil,_,#[],0,AO _ rfl,⟨rfl,rfl,rfl⟩,rfl,rfl,nodup_nil⟩
def Uz:TE:=λ_ H Q=>∀p,H p=IF->Q (.ref p) (upd H p (.dT []))
section
variable {X:Cx}{pos:Pos}
theorem Wj:PE X (.Dict [] [] pos) Uz:=λpins s σ H Q I h=>
 wpAny_Dict_empty ⟨.ref s.heap.objs.size,_,I.laid (a:=s.heap.objs.size) (o:=.dT []) (t':=s.toks) (λ_ _ q=>AB _ q) (AV _) (Kf s.heap I.big),rfl,h _ (I.hok.fresh (AV _))⟩
end
def gO(kvs more:List (Key×V)):List (Key×V):=more.foldl (λacc kv=>putK acc kv.1 kv.2) kvs
theorem lZ:∀(more kvs:List (Key×V)),(gO kvs more).length<=kvs.length+more.length
 | [],kvs=>by show kvs.length<=kvs.length+0;omega
 | p::r,kvs=>by
  have h1:=lZ r (putK kvs p.1 p.2);have h2:=gw kvs p.1 p.2;show(gO (putK kvs p.1 p.2) r).length<=_;rw[EX];omega
structure M2(X:Cx)(o:Expr)(m:Str)(apos:Pos)(e f:Expr)(cpos:Pos):Prop where
 base:EI o m X.env (eval o X.env)=eval o X.env
 few:((CY cpos (AK [e,f] X.env)).all (λx=>!x.1)&&(Ix cpos (Fc [] X.env)).all (λx=>x.1.isSome)
  && decide (([e,f]:List Expr).length+([]:List EN).length+(if ([]:List EN).isEmpty then 0 else 1)<30))=true
 line:(apos.endLine == cpos.line)=true
 trees:CY cpos (AK [e,f] X.env)=[(false,eval e X.env),(false,eval f X.env)]
theorem jn.fU{k:Nat}{A:BA}(r:jn k A):A.units+1<FO:=by have:=r.un;omega
theorem jn.un1{k:Nat}{A:BA}(r:jn k A):A.in1.units<FO:=by
 have:=r.un;show A.units+1<FO;omega
theorem aG.ints{ok:IN->Prop}{H:Hp}:∀{xs:List V}{is:List Int},aG ok H xs (is.map AU.int)->xs=is.map At
 | _,[],.nil=>rfl
 | _,i::is,.cons h r=>by
  cases h;rw[r.ints];rfl
theorem adH{K:AF}{a:IN}{xs:List V}{g:TG}{tb:TS}{D:Ends}{σ:St}{H:Hp}{R:It->Hp->Prop}(hR:R=(λJ H1=>∃W:Nat->Nat->St->Hp->Prop,(∃m,W 0 m σ H1)/\∀i m σ H,W i m σ H ->
  (J.stop i H/\D.nx σ H)\/(J.go i H/\∃N:St->Hp->Prop,(∀σ' H',N σ' H'->∃m',m'<m/\W (i+1) m' σ' H')/\∀x H',J.yld i H x H'->g x σ H' λσ2 H2=>tb { D with nx:=N,ct:=N,bk:=D.nx } σ2 H2)))
  (Pv:Nat->St->Hp->Prop)(h0:Pv 0 σ H)(hl:∀i σ H,Pv i σ H->H a=ID (.lst xs))
  (hs:∀(i:Nat) x σ H p,xs[i]?=ID x->Pv i σ H->H p=IF->g (.ref p) σ (upd H p (.tup [.int (i:Nat),x])) λσ2 H2=>tb { D with nx:=Pv (i+1),ct:=Pv (i+1),bk:=D.nx } σ2 H2)(hd:∀σ H,Pv xs.length σ H->D.nx σ H):R (Ite K a) H:=by
 refine Nz hR xs.length Pv h0 (λi σ H hi p=>?_) (λσ H p=>?_) (λi σ H x H3 hi p y=>?_) hd
 ·exact⟨xs,_,SqL.of (hl i σ H p),AD hi⟩
 ·exact⟨xs,SqL.of (hl _ σ H p),BM (AV _)⟩
 obtain⟨q,x1,rfl,hq,rfl,hx⟩:=y;exact hs i x1 σ H q (hx _ (SqL.of (hl i σ H p))) p hq
theorem Same.none{H H':Hp}(s:Same H H'){p:IN}(h:H' p=IF):H p=IF:=by
 cases e:H p with
 | none=>rfl
 | some o=>rw[s _ _ e] at h;cases h
mutual
def szB:AU->Bool
 | .none=>true
 | .bool _=>true
 | .int i=>decide (i.natAbs<=10^20)
 | .str x=>decide (x.length<=30)&&x.cps.toList.all λc=>decide (c<16^8)
 | .list ds=>decide (ds.length<=210)&&abi ds
 | .tuple ds=>decide (ds.length<=210)&&abi ds
 | .dict _=>false
def abi:List AU->Bool
 | []=>true
 | d::ds=>szB d&&abi ds
end
theorem adG{K:AF}{a:IN}{xs:List V}{g:TG}{tb:TS}{D:Ends}{σ:St}{H:Hp}{R:It->Hp->Prop}(hR:R=(λJ H1=>∃W:Nat->Nat->St->Hp->Prop,(∃m,W 0 m σ H1)/\∀i m σ H,W i m σ H ->
  (J.stop i H/\D.nx σ H)\/(J.go i H/\∃N:St->Hp->Prop,(∀σ' H',N σ' H'->∃m',m'<m/\W (i+1) m' σ' H')/\∀x H',J.yld i H x H'->g x σ H' λσ2 H2=>tb { D with nx:=N,ct:=N,bk:=D.nx } σ2 H2)))
  (Pv:Nat->St->Hp->Prop)(h0:Pv 0 σ H)(hl:∀i σ H,Pv i σ H->H a=ID (.tup xs))
  (hs:∀i x σ H,xs[i]?=ID x->Pv i σ H->g x σ H λσ2 H2=>tb { D with nx:=Pv (i+1),ct:=Pv (i+1),bk:=D.nx } σ2 H2)(hd:∀σ H,Pv xs.length σ H->D.nx σ H):R (Itt K a) H:=by
 refine Nz hR xs.length Pv h0 (λi σ H hi p=>?_) (λσ H p=>?_) (λi σ H x H3 hi p y=>?_) hd
 ·exact⟨xs,_,SqT.of (hl i σ H p),AD hi⟩
 ·exact⟨xs,SqT.of (hl _ σ H p),AV _⟩
 obtain⟨rfl,hx⟩:=y;exact hs i x σ _ (hx _ (SqT.of (hl i σ _ p))) p
theorem zB{prog:A1}{w:BD}{A:BA}{E:Ap->AA->Prop}{s:AA}{z TI TO i1 i2 l1 l2:IN}{k1 k2:Nat}{xs ys:Array Ap}{x y a b:Ap}{Q:Ap->AA->Prop}(D:Kt z TI TO i1 i2 l1 l2)(hz:IsZip s.heap z TI TO Ap.none)(hTI:EL s.heap TI (DO i1) (DO i2))(hTO:EL s.heap TO a b)
  (h1:s.heap.IsTupleIter i1 l1 k1)(h2:s.heap.IsTupleIter i2 l2 k2)(hl1:s.heap.IsTuple l1 xs)(hl2:s.heap.IsTuple l2 ys)(hx:xs[k1]?=ID x)(hy:ys[k2]?=ID y)
  (hQ:∀h':Heap,IsZip h' z TI TO (Db s.heap.objs.size)->EL h' TO x y->h'.IsTupleIter i1 l1 (k1+1)->h'.IsTupleIter i2 l2 (k2+1)->EL h' s.heap.objs.size x y->h'.objs.size=s.heap.objs.size+1->(∀c o,c≠z->c≠TO->c≠i1->c≠i2->s.heap.get? c=ID o->h'.get? c=ID o)->Q (DO s.heap.objs.size) { s with heap:=h' }) :
  AH (AM prog w) A (AR.«zip.__next__» { pos:=[DO z] }) (λfin s'=>∃v,fin=Fin.done (Flow.ret v)/\Q v s') E s:=by
 show AH _ _ (field (DO z) 2 >>= _) _ _ _;refine An (Cs hz Z Z ?_);show AH _ _ (field (DO z) 3 >>= _) _ _ _;refine An (Cs hz Z Z ?_);refine An (DC hTI Z ?_);show AH _ _ (AR.SmallTypes.ownedTupleIsFree (DO z) >>= _) _ _ _;refine An ?_;show AH _ _ (field (DO z) 0 >>= _) _ _ _;refine An (Cs hz Z Z (Au ?_));show AH _ _ (rule _ >>= _) _ _ _;refine An (Da (An (Cs hz Z Z ?_)));show AH _ _ (GM (DO z) 0 Ap.ellipsis >>= _) _ _ _;refine An (CB hz (Hd (GN 4)) λh₁ hz₁ hs₁=>?_);have old1:∀c o,c≠z->s.heap.get? c=ID o->h₁.get? c=ID o:=λc o hc e=>(hs₁.2 c hc).trans e;have h1a:h₁.IsTupleIter i1 l1 k1:=h1.at λo e=>old1 i1 o D.i1z e;have h2a:h₁.IsTupleIter i2 l2 k2:=h2.at λo e=>old1 i2 o D.i2z e;have tup:∀{h:Heap}{l:IN}{vs:Array Ap},s.heap.IsTuple l vs->(∀o,s.heap.get? l=ID o->h.get? l=ID o)->h.IsTuple l vs:=λ⟨o,e,r⟩ k=>⟨o,k o e,r⟩;refine An ?_;show AH _ _ (forIn [(DO i1,0),(DO i2,1)] (IF,()) _) _ _ _;rw[Fk];refine An ?_;show AH _ _ ((Sem.onRaise (AR.SmallTypes.nextOf (DO i1) >>= λv=>pure (ID v)) (λ_=>GM (DO z) 0 Ap.none)) >>= _) _ _ _;refine An (JO (An (f9 (s:={ s with heap:=h₁ }) h1a (tup hl1 λo e=>old1 l1 o D.l1z e) hx λh₂ h1b sb₂=>Au ?_)));have old2:∀c o,c≠z->c≠i1->s.heap.get? c=ID o->h₂.get? c=ID o:=λc o hc hc1 e=>(sb₂.2 c hc1).trans (old1 c o hc e);have hTO2:EL h₂ TO a b:=old2 TO _ D.TOz D.TOi1 hTO;show AH _ _ (seqItems? (DO TO) >>= _) _ _ _;refine An (DC (s:={ s with heap:=h₂ }) hTO2 Z ?_);show AH _ _ (updateSeq TO _ >>= _) _ _ _;refine An (LB (s:={ s with heap:=h₂ }) hTO2 λh₃ g₃ sb₃=>?_);refine An (wpAny_letGo (Au ?_));show AH _ _ (forIn [(DO i2,1)] (IF,()) _) _ _ _;rw[Fk];refine An ?_;have old3:∀c o,c≠z->c≠i1->c≠TO->s.heap.get? c=ID o->h₃.get? c=ID o:=λc o hc hc1 hc2 e=>(sb₃.2 c hc2).trans (old2 c o hc hc1 e);have h2c:h₃.IsTupleIter i2 l2 k2:=h2.at λo e=>old3 i2 o D.i2z (BS D.i12) (BS D.TOi2) e;have g₃':EL h₃ TO x b:=g₃;show AH _ _ ((Sem.onRaise (AR.SmallTypes.nextOf (DO i2) >>= λv=>pure (ID v)) (λ_=>GM (DO z) 0 Ap.none)) >>= _) _ _ _;refine An (JO (An (f9 (s:={ s with heap:=h₃ }) h2c (tup hl2 λo e=>old3 l2 o D.l2z D.l2i1 D.l2TO e) hy λh₄ h2d sb₄=>Au ?_)));have hTO4:EL h₄ TO x b:=(sb₄.2 TO D.TOi2).trans g₃';show AH _ _ (seqItems? (DO TO) >>= _) _ _ _;refine An (DC (s:={ s with heap:=h₄ }) hTO4 Z ?_);show AH _ _ (updateSeq TO _ >>= _) _ _ _
 refine An (LB (s:={ s with heap:=h₄ }) hTO4 λh₅ g₅ sb₅=>?_);refine An (wpAny_letGo (Au ?_));have g₅':EL h₅ TO x y:=g₅;show AH _ _ (forIn [] (IF,()) _) _ _ _;rw[forIn_nil];refine Au ?_;show AH _ _ (seqItems? (DO TO) >>= _) _ _ _;refine An (DC (s:={ s with heap:=h₅ }) g₅' Z ?_);show AH _ _ (newTuple [x,y] >>= _) _ _ _;refine An (IQ ?_ (by show 2<=AN;decide));have sz:h₅.objs.size=s.heap.objs.size:=by
  rw[sb₅.1,sb₄.1,sb₃.1,sb₂.1,hs₁.1]
 have z5:h₅.get? z=_:=(sb₅.2 z (BS D.TOz)).trans ((sb₄.2 z (BS D.i2z)).trans ((sb₃.2 z (BS D.TOz)).trans ((sb₂.2 z (BS D.i1z)).trans hz₁)));have z6:(h₅.push { cls:=GE "tuple",data:=Iq #[x,y] }).get? z=_:=AB _ z5;refine An ?_;show AH _ _ (GM (DO z) 0 (Db h₅.objs.size) >>= λ_=>GM (DO z) 1 (GT false)) _ _ _;refine An (CB (s:={ s with heap:=h₅.push { cls:=GE "tuple",data:=Iq #[x,y] } }) z6 (Hd (GN 4)) λh₇ hz₇ hs₇=>?_);refine CB (s:={ s with heap:=h₇ }) hz₇ (Hd (GN 3)) λh₈ hz₈ hs₈=>?_;have nzs:s.heap.objs.size≠z:=λq=>by
  have:=AQ hz;rw[<- q] at this;exact ES _ this
 have old6:∀c o,h₅.get? c=ID o->(h₅.push { cls:=GE "tuple",data:=Iq #[x,y] }).get? c=ID o:=λc o e=>AB _ e;have old8:∀c o,c≠z->h₅.get? c=ID o->h₈.get? c=ID o:=λc o hc e=>(hs₈.2 c hc).trans ((hs₇.2 c hc).trans (old6 c o e));have new8:h₈.get? s.heap.objs.size=ID { cls:=GE "tuple",data:=Iq #[x,y] }:=by
  refine(hs₈.2 _ nzs).trans ((hs₇.2 _ nzs).trans ?_);show(h₅.push { cls:=GE "tuple",data:=Iq #[x,y] }).get? s.heap.objs.size=_;rw[<- sz];exact AO _ rfl
 refine Au ⟨_,rfl,?_⟩;rw[show(({ s with heap:=h₅ }:AA).heap.objs.size)=s.heap.objs.size from sz];refine hQ h₈ ?_ ?_ ?_ ?_ new8 ?_ ?_
 ·rw[sz] at hz₈;exact hz₈
 ·exact old8 TO _ D.TOz g₅'
 ·refine h1b.at λo e=>old8 i1 o D.i1z ?_;exact(sb₅.2 i1 (BS D.TOi1)).trans ((sb₄.2 i1 D.i12).trans ((sb₃.2 i1 (BS D.TOi1)).trans e))
 ·refine h2d.at λo e=>old8 i2 o D.i2z ?_;exact(sb₅.2 i2 (BS D.TOi2)).trans e
 ·rw[hs₈.1,hs₇.1];show(h₅.push { cls:=GE "tuple",data:=Iq #[x,y] }).objs.size=_;rw[Cb,sz]
 intro c o hc1 hc2 hc3 hc4 e;exact old8 c o hc1 ((sb₅.2 c hc2).trans ((sb₄.2 c hc4).trans (old3 c o hc1 hc3 hc2 e)))
theorem mX{prog:A1}{w:BD}{A:BA}{E:Ap->AA->Prop}{s:AA}{z TI TO i1 i2 l1 l2:IN}{k1 k2:Nat}{xs ys:Array Ap}{x y a b:Ap}{Q:Option Ap->AA->Prop}(D:Kt z TI TO i1 i2 l1 l2)(hz:IsZip s.heap z TI TO Ap.none)(hTI:EL s.heap TI (DO i1) (DO i2))(hTO:EL s.heap TO a b)
  (h1:s.heap.IsTupleIter i1 l1 k1)(h2:s.heap.IsTupleIter i2 l2 k2)(hl1:s.heap.IsTuple l1 xs)(hl2:s.heap.IsTuple l2 ys)(hx:xs[k1]?=ID x)(hy:ys[k2]?=ID y)
  (hQ:∀h':Heap,IsZip h' z TI TO (Db s.heap.objs.size)->EL h' TO x y->h'.IsTupleIter i1 l1 (k1+1)->h'.IsTupleIter i2 l2 (k2+1)->EL h' s.heap.objs.size x y->h'.objs.size=s.heap.objs.size+1->(∀c o,c≠z->c≠TO->c≠i1->c≠i2->s.heap.get? c=ID o->h'.get? c=ID o)->Q (ID (DO s.heap.objs.size)) { s with heap:=h' }) :
  AH (AM prog w) A (EF (DO z)) Q E s:=by
 have hT:∃o,s.heap.get? z=ID o/\o.cls=GE "zip" := ⟨_,hz,rfl⟩;exact An (E3 (B5 hT Ll (B3 Ll hT F.entry_zip_next
  (zB D hz hTI hTO h1 h2 hl1 hl2 hx hy λh' a1 a2 a3 a4 a5 a6 a7=>Au (hQ h' a1 a2 a3 a4 a5 a6 a7)) (F.args_zip_next_1 (DO z)))))
theorem Cu{prog:A1}{w:BD}{A:BA}{E:Ap->AA->Prop}{s:AA}{z TI TO i1 i2 l1 l2:IN}{k1 k2:Nat}{xs ys:Array Ap}{a b:Ap}{Q:PySem.Fin->AA->Prop}(hh:A.handled=IF)(D:Kt z TI TO i1 i2 l1 l2)(hz:IsZip s.heap z TI TO Ap.none)(hTI:EL s.heap TI (DO i1) (DO i2))(hTO:EL s.heap TO a b)
  (h1:s.heap.IsTupleIter i1 l1 k1)(h2:s.heap.IsTupleIter i2 l2 k2)(hl1:s.heap.IsTuple l1 xs)(hl2:s.heap.IsTuple l2 ys)(hend:xs[k1]?=IF\/ys[k2]?=IF)
  (hE:∀(h':Heap)(e:IN),(∀c o,c≠z->c≠TO->c≠i1->c≠i2->s.heap.get? c=ID o->h'.get? c=ID o)->(∃o,h'.get? e=ID o/\o.cls=GE "StopIteration")->E (DO e) { s with heap:=h' }) :
  AH (AM prog w) A (AR.«zip.__next__» { pos:=[DO z] }) Q E s:=by
 show AH _ _ (field (DO z) 2 >>= _) _ _ _;refine An (Cs hz Z Z ?_);show AH _ _ (field (DO z) 3 >>= _) _ _ _;refine An (Cs hz Z Z ?_);refine An (DC hTI Z ?_);show AH _ _ (AR.SmallTypes.ownedTupleIsFree (DO z) >>= _) _ _ _;refine An ?_;show AH _ _ (field (DO z) 0 >>= _) _ _ _;refine An (Cs hz Z Z (Au ?_));show AH _ _ (rule _ >>= _) _ _ _;refine An (Da (An (Cs hz Z Z ?_)));show AH _ _ (GM (DO z) 0 Ap.ellipsis >>= _) _ _ _;refine An (CB hz (Hd (GN 4)) λh₁ hz₁ hs₁=>?_);have old1:∀c o,c≠z->s.heap.get? c=ID o->h₁.get? c=ID o:=λc o hc e=>(hs₁.2 c hc).trans e;have h1a:h₁.IsTupleIter i1 l1 k1:=h1.at λo e=>old1 i1 o D.i1z e;have tup:∀{h:Heap}{l:IN}{vs:Array Ap},s.heap.IsTuple l vs->(∀o,s.heap.get? l=ID o->h.get? l=ID o)->h.IsTuple l vs:=λ⟨o,e,r⟩ k=>⟨o,k o e,r⟩;have out:∀{h:Heap}{e:IN}{vs:Array Ap},h.get? z=ID { cls:=GE "zip",data:=C4 vs }->0<vs.size->(∀c o,c≠z->c≠TO->c≠i1->c≠i2->s.heap.get? c=ID o->h.get? c=ID o)->(∃o,h.get? e=ID o/\o.cls=GE "StopIteration") ->
   AH (AM prog w) A (GM (DO z) 0 Ap.none) (λ_ s''=>E (DO e) s'') E { s with heap:=h }:=λ{h e vs} ez hv hk he=>by
  refine CB (s:={ s with heap:=h }) ez hv λh' _ hs=>hE h' e (λc o c1 c2 c3 c4 g=>(hs.2 c c1).trans (hk c o c1 c2 c3 c4 g)) ?_;obtain⟨o,ho,hc⟩:=he;refine⟨o,(hs.2 e λq=>?_).trans ho,hc⟩;rw[q,ez] at ho;cases ho;injection hc with hc;exact absurd hc δ
 refine An ?_;show AH _ _ (forIn [(DO i1,0),(DO i2,1)] (IF,()) _) _ _ _;rw[Fk];refine An ?_;show AH _ _ ((Sem.onRaise (AR.SmallTypes.nextOf (DO i1) >>= λv=>pure (ID v)) (λ_=>GM (DO z) 0 Ap.none)) >>= _) _ _ _;cases hx:xs[k1]? with
 | none=>
  refine An (JO (An (jz (s:={ s with heap:=h₁ }) hh h1a (tup hl1 λo e=>old1 l1 o D.l1z e) hx λh₂ e ext he=>?_)));exact out (h:=h₂) (ext z _ (BS D.i1z) hz₁) (Hd (GN 4)) (λc o c1 c2 c3 c4 g=>ext c o c3 (old1 c o c1 g)) he
 | some x=>
  have hy:ys[k2]?=IF:=by
   rcases hend with q|q
   ·rw[hx] at q;cases q
   exact q
  refine An (JO (An (f9 (s:={ s with heap:=h₁ }) h1a (tup hl1 λo e=>old1 l1 o D.l1z e) hx λh₂ h1b sb₂=>Au ?_)));have old2:∀c o,c≠z->c≠i1->s.heap.get? c=ID o->h₂.get? c=ID o:=λc o hc hc1 e=>(sb₂.2 c hc1).trans (old1 c o hc e);have hTO2:EL h₂ TO a b:=old2 TO _ D.TOz D.TOi1 hTO;show AH _ _ (seqItems? (DO TO) >>= _) _ _ _;refine An (DC (s:={ s with heap:=h₂ }) hTO2 Z ?_);show AH _ _ (updateSeq TO _ >>= _) _ _ _;refine An (LB (s:={ s with heap:=h₂ }) hTO2 λh₃ g₃ sb₃=>?_);refine An (wpAny_letGo (Au ?_));show AH _ _ (forIn [(DO i2,1)] (IF,()) _) _ _ _;rw[Fk];refine An ?_;have old3:∀c o,c≠z->c≠i1->c≠TO->s.heap.get? c=ID o->h₃.get? c=ID o:=λc o hc hc1 hc2 e=>(sb₃.2 c hc2).trans (old2 c o hc hc1 e);have h2c:h₃.IsTupleIter i2 l2 k2:=h2.at λo e=>old3 i2 o D.i2z (BS D.i12) (BS D.TOi2) e;have z3:h₃.get? z=_:=(sb₃.2 z (BS D.TOz)).trans ((sb₂.2 z (BS D.i1z)).trans hz₁);show AH _ _ ((Sem.onRaise (AR.SmallTypes.nextOf (DO i2) >>= λv=>pure (ID v)) (λ_=>GM (DO z) 0 Ap.none)) >>= _) _ _ _;refine An (JO (An (jz (s:={ s with heap:=h₃ }) hh h2c (tup hl2 λo e=>old3 l2 o D.l2z D.l2i1 D.l2TO e) hy λh₄ e ext he=>?_)));exact out (h:=h₄) (ext z _ (BS D.i2z) z3) (Hd (GN 4)) (λc o c1 c2 c3 c4 g=>ext c o c4 (old3 c o c1 c3 c2 g)) he
theorem oW{prog:A1}{w:BD}{A:BA}{E:Ap->AA->Prop}{s:AA}{z TI TO i1 i2 l1 l2:IN}{k1 k2:Nat}{xs ys:Array Ap}{a b:Ap}{Q:Option Ap->AA->Prop}(hh:A.handled=IF)(D:Kt z TI TO i1 i2 l1 l2)(hz:IsZip s.heap z TI TO Ap.none)(hTI:EL s.heap TI (DO i1) (DO i2))(hTO:EL s.heap TO a b)
  (h1:s.heap.IsTupleIter i1 l1 k1)(h2:s.heap.IsTupleIter i2 l2 k2)(hl1:s.heap.IsTuple l1 xs)(hl2:s.heap.IsTuple l2 ys)(hend:xs[k1]?=IF\/ys[k2]?=IF)
  (hQ:∀h':Heap,(∀c o,c≠z->c≠TO->c≠i1->c≠i2->s.heap.get? c=ID o->h'.get? c=ID o)->Q IF { s with heap:=h' }):AH (AM prog w) A (EF (DO z)) Q E s:=by
 have hT:∃o,s.heap.get? z=ID o/\o.cls=GE "zip" := ⟨_,hz,rfl⟩;exact An (E3 (B5 hT Ll (B3 Ll hT F.entry_zip_next
  (Cu hh D hz hTI hTO h1 h2 hl1 hl2 hend λh' e hk he=>by
   obtain⟨o,ho,hc⟩:=he;exact An (G2 ⟨o,ho,hc⟩ LD (Au (hQ h' hk)))) (F.args_zip_next_1 (DO z)))))
def tz1(h:Heap)(l1:IN):Heap:=h.push { cls:=GE "tuple_iterator",data:=C4 #[DO l1,EQ 0 0] }
def tz2(h:Heap)(l1 l2:IN):Heap:=(tz1 h l1).push { cls:=GE "tuple_iterator",data:=C4 #[DO l2,EQ 0 0] }
def tz3(h:Heap)(l1 l2:IN):Heap:=(tz2 h l1 l2).push { cls:=GE "tuple",data:=Iq #[DO h.objs.size,DO (tz1 h l1).objs.size] }
def tz4(h:Heap)(l1 l2:IN):Heap:=(tz3 h l1 l2).push { cls:=GE "tuple",data:=Iq #[Ap.none,Ap.none] }
def tz5(h:Heap)(l1 l2:IN):Heap:=(tz4 h l1 l2).push { cls:=GE "zip",data:=C4 #[Ap.none,GT false,GT false,DO (tz2 h l1 l2).objs.size,DO (tz3 h l1 l2).objs.size] }
theorem Ud(l1 l2:IN)(xs ys:Array Ap):Meets (AR.«zip.__new__» { pos:=[GE "zip",DO l1,DO l2] }) λ_ R s=>
  s.heap.IsTuple l1 xs/\s.heap.IsTuple l2 ys/\R (.ok (.ret (.ref (tz4 s.heap l1 l2).objs.size))) { s with heap:=tz5 s.heap l1 l2 }:=by
 refine Meets.of_wp λprog w A R s h=>?_;obtain⟨ht1,ht2,hR⟩:=h;unfold AR.«zip.__new__» AR.SmallTypes.newClass;refine An (An (Au (FA Z (An (CU sub_zip (FA Z (Au ?_)))))));show AH _ _ (AR.SmallTypes.iterAll [DO l1,DO l2] >>= _) _ _ _;refine An ?_;unfold AR.SmallTypes.iterAll;refine An ?_;rw[Fk];refine An (An (Ct (F9 ht1 (Au ?_))));show AH _ _ (forIn [DO l2] #[DO s.heap.objs.size] _) _ _ _;rw[Fk];have ht2':(tz1 s.heap l1).IsTuple l2 ys:=by
  obtain⟨o,e,r⟩:=ht2;exact⟨o,AB _ e,r⟩
 refine An (An (Ct (F9 (s:={ s with heap:=tz1 s.heap l1 }) ht2' (Au ?_))));show AH _ _ (forIn [] #[DO s.heap.objs.size,DO (tz1 s.heap l1).objs.size] _) _ _ _;rw[forIn_nil];refine Au (Au ?_);show AH _ _ (newTuple [DO s.heap.objs.size,DO (tz1 s.heap l1).objs.size] >>= _) _ _ { s with heap:=tz2 s.heap l1 l2 };refine An (IQ ?_ (by show 2<=AN;decide));show AH _ _ (newTuple [Ap.none,Ap.none] >>= _) _ _ { s with heap:=tz3 s.heap l1 l2 };refine An (IQ ?_ (by show 2<=AN;decide));show AH _ _ (newObj (.type "zip") (.fields #[.none,.bool false,.bool false,.ref (tz2 s.heap l1 l2).objs.size,.ref (tz3 s.heap l1 l2).objs.size]) >>= λr=>ret r) _ _ { s with heap:=tz4 s.heap l1 l2 };refine An (A6 ?_);exact Au ⟨_,rfl,hR⟩
theorem yo{prog:A1}{w:BD}{A:BA}{E:Ap->AA->Prop}{s:AA}{l1 l2:IN}{xs ys:Array Ap}{Q:Ap->AA->Prop}(hl1:s.heap.IsTuple l1 xs)(hl2:s.heap.IsTuple l2 ys)
   (h:∀h':Heap,IsZip h' (s.heap.objs.size+4) (s.heap.objs.size+2) (s.heap.objs.size+3) Ap.none->EL h' (s.heap.objs.size+2) (DO s.heap.objs.size) (DO (s.heap.objs.size+1))->EL h' (s.heap.objs.size+3) Ap.none Ap.none->h'.IsTupleIter s.heap.objs.size l1 0->h'.IsTupleIter (s.heap.objs.size+1) l2 0 ->
   h'.objs.size=s.heap.objs.size+5->(∀c o,s.heap.get? c=ID o->h'.get? c=ID o)->Q (DO (s.heap.objs.size+4)) { s with heap:=h' }):AH (AM prog w) A (call (GE "zip") [DO l1,DO l2]) Q E s:=by
 refine callType_new F.called_zip δ (F.typeCall_zip_2 _ _) (F.newCall_zip_2 _ _) (λobj=>F.args_object_init_3 obj _ _) F.entry_zip_new (Ud l1 l2 xs ys) ⟨hl1,hl2,?_⟩;have z1:(tz1 s.heap l1).objs.size=s.heap.objs.size+1:=Cb ..;have z2:(tz2 s.heap l1 l2).objs.size=s.heap.objs.size+2:=(Cb ..).trans (by rw[z1]);have z3:(tz3 s.heap l1 l2).objs.size=s.heap.objs.size+3:=(Cb ..).trans (by rw[z2]);have z4:(tz4 s.heap l1 l2).objs.size=s.heap.objs.size+4:=(Cb ..).trans (by rw[z3]);have z5:(tz5 s.heap l1 l2).objs.size=s.heap.objs.size+5:=(Cb ..).trans (by rw[z4]);have g5:(tz5 s.heap l1 l2).get? (tz4 s.heap l1 l2).objs.size=_:=AO _ rfl;have g4:(tz5 s.heap l1 l2).get? (tz3 s.heap l1 l2).objs.size=_:=AB _ (AO _ Z);have g3:(tz5 s.heap l1 l2).get? (tz2 s.heap l1 l2).objs.size=_:=AB _ (AB _ (AO _ Z));have g2:(tz5 s.heap l1 l2).get? (tz1 s.heap l1).objs.size=_:=AB _ (AB _ (AB _ (AO _ Z)));have g1:(tz5 s.heap l1 l2).get? s.heap.objs.size=_:=AB _ (AB _ (AB _ (AB _ (AO _ Z))));have hk:∀c o,s.heap.get? c=ID o->(tz5 s.heap l1 l2).get? c=ID o:=λc o e=>AB _ (AB _ (AB _ (AB _ (AB _ e))));rw[z4,z2,z3] at g5;rw[z3] at g4;rw[z2,z1] at g3;rw[z1] at g2;rw[z4];generalize tz5 s.heap l1 l2=h' at z5 g5 g4 g3 g2 g1 hk;exact⟨⟨_,g5,rfl⟩,h h' g5 g3 g4 ⟨_,g1,rfl,rfl⟩ ⟨_,g2,rfl,rfl⟩ z5 hk⟩
def Itu(K:AF)(a b:IN):It:=
 ⟨λi H=>∃xs ys x y,SqT K H a xs/\SqT K H b ys/\xs[i]?=ID x/\ys[i]?=ID y,
  λi H v H'=>∃p x y,v=.ref p/\H p=IF/\H'=upd H p (.tup [x,y])/\(∀xs,SqT K H a xs->xs[i]?=ID x)/\∀ys,SqT K H b ys->ys[i]?=ID y,
  λi H=>∃xs ys,SqT K H a xs/\SqT K H b ys/\(xs[i]?=IF\/ys[i]?=IF)⟩
theorem Du{P:A1}{w:BD}{K:AF}{es:List Expr}{kk:Nat}{tpos:Pos}{z TI TO i1 i2 l1 l2:IN}(D:Kt z TI TO i1 i2 l1 l2) :
  Turn P w K (.Tuple es kk tpos) (Itu K l1 l2) [z,TI,TO,i1,i2] z (λi h=>IsZip h z TI TO .none/\EL h TI (.ref i1) (.ref i2)/\(∃a b,EL h TO a b)/\h.IsTupleIter i1 l1 i/\h.IsTupleIter i2 l2 i) where
 mem:=by simp
 obj:=λi h st b hb=>by
  obtain⟨hz,hTI,⟨a,b',hTO⟩,⟨o1,e1,c1,d1⟩,⟨o2,e2,c2,d2⟩⟩:=st;simp only[A3,Bz,or_false] at hb;rcases hb with rfl|rfl|rfl|rfl|rfl
  ·exact⟨_,hz,λv q=>by cases q⟩
  ·exact⟨_,hTI,λv q=>by cases q⟩
  ·exact⟨_,hTO,λv q=>by cases q⟩
  ·exact⟨o1,e1,λv q=>by rw[d1] at q;cases q⟩
  exact⟨o2,e2,λv q=>by rw[d2] at q;cases q⟩
 keep:=λi h h' st k=>by
  obtain⟨hz,hTI,⟨a,b',hTO⟩,h1,h2⟩:=st;exact⟨k z ζ _ hz,k TI ζ _ hTI,⟨a,b',k TO ζ _ hTO⟩,h1.at λo e=>k i1 ζ o e,h2.at λo e=>k i2 ζ o e⟩
 item:=by
  intro X hP hw hK hc i pins s σ H E I hf st hg;subst hP hw hK;obtain⟨xs,ys,x,y,q1,q2,hx,hy⟩:=hg;obtain⟨its1,rv1,p1,hz1⟩:=I.tuple q1;obtain⟨its2,rv2,p2,hz2⟩:=I.tuple q2;obtain⟨u1,hu1,ru1⟩:=rv1.get hx;obtain⟨u2,hu2,ru2⟩:=rv2.get hy;obtain⟨hz,hTI,⟨a,b',hTO⟩,h1,h2⟩:=st;refine mX D hz hTI hTO h1 h2 p1 p2 (x:=u1) (y:=u2) (by simpa using hu1) (by simpa using hu2) λh' a1 a2 a3 a4 a5 a6 hk=>?_;have new:cu X.prog X.w (upd H s.heap.objs.size (.tup [x,y])) h' s.heap.objs.size (.tup [x,y]):=⟨by show 2<=AN;decide,[u1,u2],.cons ru1 (.cons ru2 .nil),_,a5,rfl,_,rfl⟩;have I1:Inv X pins σ (upd H s.heap.objs.size (.tup [x,y])) { s with heap:=h' }:=I.Om (t':=s.toks) (ch:=[z,TO,i1,i2]) (λb hb=>hf b (by
   simp only[A3,Bz,or_false] at hb |-;rcases hb with r|r|r|r <;> simp[r]))
   (λb o hb e=>hk b o (λq=>hb (by simp[q])) (λq=>hb (by simp[q])) (λq=>hb (by simp[q])) (λq=>hb (by simp[q])) e) (AV _) new
  have hTI':EL h' TI (.ref i1) (.ref i2):=hk _ _ D.TIz D.TITO D.TIi1 D.TIi2 hTI;have hsz:∀b,b∈[z,TI,TO,i1,i2]->b≠s.heap.objs.size:=λb hb=>by
   obtain⟨_,_,hlt,_⟩:=hf b hb;have lt:∃o,s.heap.get? b=ID o:=by
    simp only[A3,Bz,or_false] at hb;rcases hb with rfl|rfl|rfl|rfl|rfl
    ·exact⟨_,hz⟩
    ·exact⟨_,hTI⟩
    ·exact⟨_,hTO⟩
    ·obtain⟨o,e,_⟩:=h1;exact⟨o,e⟩
    obtain⟨o,e,_⟩:=h2;exact⟨o,e⟩
   obtain⟨o,e⟩:=lt;exact B1 (AQ e)
  refine⟨_,rfl,wpAny_letOwnedTupleGo_zip (s:={ s with heap:=h' }) a1 λh'' z2 sb=>?_⟩;have fz:=hf z ζ;have I2:Inv X pins σ (upd H s.heap.objs.size (.tup [x,y])) { s with heap:=h'' }:=Inv.turned (s:={ s with heap:=h' }) (it:=z) (t':=s.toks) I1 (λb o hb e=>(sb.2 b hb).trans e) (by rw[aH (hsz z ζ)];exact fz.1) fz.2.1 fz.2.2.2.1 fz.2.2.2.2.1 fz.2.2.2.2.2;refine⟨.ref s.heap.objs.size,_,I2,rfl,⟨_,x,y,rfl,I.fresh,rfl,λxs' q=>by rw[I.qY q q1];exact hx,λys' q=>by rw[I.qY q q2];exact hy⟩,
   ⟨z2,(sb.2 _ D.TIz).trans hTI',⟨_,_,(sb.2 _ D.TOz).trans a2⟩,a3.extBut sb.extBut D.i1z,a4.extBut sb.extBut D.i2z⟩,λb hb=>by rw[aH (hsz b hb)];exact(hf b hb).1⟩
 done:=by
  intro X hP hw hK hc i pins s σ H E I hf st hg;subst hP hw hK;obtain⟨xs,ys,q1,q2,hx⟩:=hg;obtain⟨its1,rv1,p1,hz1⟩:=I.tuple q1;obtain⟨its2,rv2,p2,hz2⟩:=I.tuple q2;obtain⟨hz,hTI,⟨a,b',hTO⟩,h1,h2⟩:=st;have hend:its1.toArray[i]?=IF\/its2.toArray[i]?=IF:=by
   rcases hx with r|r
   ·exact .inl (by simpa using rv1.none_of r)
   exact .inr (by simpa using rv2.none_of r)
  refine oW (I.ok.hd hc) D hz hTI hTO h1 h2 p1 p2 hend λh' hk=>⟨rfl,?_⟩;exact I.Oo (t':=s.toks) (ch:=[z,TO,i1,i2]) (λb hb=>hf b (by
   simp only[A3,Bz,or_false] at hb |-;rcases hb with r|r|r|r <;> simp[r]))
   (λb o hb e=>hk b o (λq=>hb (by simp[q])) (λq=>hb (by simp[q])) (λq=>hb (by simp[q])) (λq=>hb (by simp[q])) e)
 self:=λ_ _ _ _ _ st h=>G1 st.1 h
def zpq(K:AF)(o1 o2:Option HO)(a b:IN)(H:Hp)(R:It->Hp->Prop):Prop:=match o1,o2 with
 | some (.lst _),ID (.lst _)=>R (Itz K a b) H
 | some (.tup _),ID (.tup _)=>R (Itu K a b) H
 | _,_=>False
def zpK(K:AF)(vs:List V)(H:Hp)(R:It->Hp->Prop):Prop:=match vs with
 | [.ref a,.ref b]=>zpq K (H a) (H b) a b H R
 | _=>False
def Xh(K:AF)(ta:TA):TI:=λσ H R=>ta σ H λvs H1=>zpK K vs H1 R
theorem Xg(K:AF)(ta:TA)(σ:St)(H:Hp)(R:It->Hp->Prop):Xh K ta σ H R=ta σ H λvs H1=>zpK K vs H1 R:=rfl
theorem aa7(K:AF)(a b:IN)(H:Hp)(R:It->Hp->Prop):zpK K [.ref a,.ref b] H R=zpq K (H a) (H b) a b H R:=rfl
theorem aa6(K:AF)(xs ys:List V)(a b:IN)(H:Hp)(R:It->Hp->Prop):zpq K (ID (.lst xs)) (ID (.lst ys)) a b H R=R (Itz K a b) H:=rfl
theorem aa5(K:AF)(xs ys:List V)(a b:IN)(H:Hp)(R:It->Hp->Prop):zpq K (ID (.tup xs)) (ID (.tup ys)) a b H R=R (Itu K a b) H:=rfl
section
variable {X:Cx}
theorem Zy{es:List Expr}{kk:Nat}{tpos:Pos}{a b:Expr}{ta:TA}{p pos:Pos}(hg:Gl X "zip")(hm:X.mg "zip" = IF)(ha:PA X [a,b] ta)(hs:AK [a,b] X.env=[(false,eval a X.env),(false,eval b X.env)]:=by rfl)(hs2:AK [b] X.env=[(false,eval b X.env)]:=by rfl) :
  PI X (.Tuple es kk tpos) (.Call (.Name "zip" p) [a,b] [] pos) (Xh X.K ta):=by
 intro pins s σ H R I h;refine Call_ (gA I hg hm boot_zip (BE (thA (ha pos pins s σ H _ I h) λus s1 vs H1 I1 r1 q1=>?_) (by rw[hs,hs2]) (by rw[hs2];rfl)));replace q1:zpK X.K vs H1 R:=q1;unfold zpK at q1;split at q1
 ·rename_i l1 l2;unfold zpq at q1;cases r1 with
  | cons r rr=>
   cases rr with
   | cons r' rr=>
    cases rr;cases r;cases r';have apart:l1<s1.heap.objs.size->l2<s1.heap.objs.size->Kt (s1.heap.objs.size+4) (s1.heap.objs.size+2) (s1.heap.objs.size+3) s1.heap.objs.size (s1.heap.objs.size+1) l1 l2:=by
     generalize s1.heap.objs.size=n;intro lt1 lt2;have lt1':@LT.lt Nat _ l1 n:=lt1;have lt2':@LT.lt Nat _ l2 n:=lt2;constructor <;> (intro(z:@Eq Nat _ _);omega)
    have fp:∀b∈[s1.heap.objs.size+4,s1.heap.objs.size+2,s1.heap.objs.size+3,s1.heap.objs.size,s1.heap.objs.size+1],lJ X pins H1 b:=λb hb=>by
     have hle:s1.heap.objs.size<=b:=by
      simp only[A3,Bz,or_false] at hb;rcases hb with rfl|rfl|rfl|rfl|rfl <;> simp
     exact I1.Dl hle (I1.hok.fresh hle)
    split at q1
    ·rename_i xs ys e1 e2;obtain⟨its1,rv1,p1,hz1⟩:=I1.list (SqL.of e1);obtain⟨its2,rv2,p2,hz2⟩:=I1.list (SqL.of e2);have lt1:l1<s1.heap.objs.size:=by obtain⟨_,e,_⟩:=p1.isList;exact AQ e
     have lt2:l2<s1.heap.objs.size:=by obtain⟨_,e,_⟩:=p2.isList;exact AQ e
     refine call_zip_2 p1.isList p2.isList λh' b1 b2 b3 b4 b5 b6 hk=>?_;refine G1 (s:={ s1 with heap:=h' }) b1 ?_;exact⟨_,_,_,_,H1,rfl,I1.kept (t':=s1.toks) hk,Uk (apart lt1 lt2),⟨b1,b2,⟨_,_,b3⟩,b4,b5⟩,fp,q1⟩
    ·rename_i xs ys e1 e2;obtain⟨its1,rv1,p1,hz1⟩:=I1.tuple (SqT.of e1);obtain⟨its2,rv2,p2,hz2⟩:=I1.tuple (SqT.of e2);have lt1:l1<s1.heap.objs.size:=by obtain⟨_,e,_⟩:=p1;exact AQ e
     have lt2:l2<s1.heap.objs.size:=by obtain⟨_,e,_⟩:=p2;exact AQ e
     refine yo p1 p2 λh' b1 b2 b3 b4 b5 b6 hk=>?_;refine G1 (s:={ s1 with heap:=h' }) b1 ?_;exact⟨_,_,_,_,H1,rfl,I1.kept (t':=s1.toks) hk,Du (apart lt1 lt2),⟨b1,b2,⟨_,_,b3⟩,b4,b5⟩,fp,q1⟩
    exact q1.elim
 exact q1.elim
theorem Pb{es:List Expr}{kk:Nat}{tpos:Pos}{a b:Expr}{t:TA}{p pos:Pos}(hg:Gl X "zip")(hm:X.mg "zip" = IF)(ha:QA X [a,b] t)(hs:AK [a,b] X.env=[(false,eval a X.env),(false,eval b X.env)]:=by rfl)(hs2:AK [b] X.env=[(false,eval b X.env)]:=by rfl):QI X (.Tuple es kk tpos) (.Call (.Name "zip" p) [a,b] [] pos) (Xh X.K t):=⟨Zy hg hm ha.h hs hs2⟩
end
def qZ(n:Nat):Sp:=λvs H Q _=>∃x y ok d,vs=[x,y]/\aJ ok H x d/\aJ ok H y d/\d.depth<n/\∀H',Same H H'->Q (.bl true) H'
theorem Ez{d:AU}{ds:List AU}(h:d∈ds):d.depth<(AU.list ds).depth/\d.depth<(AU.tuple ds).depth:=by
 have:=vY h;rw[AU.depth.eq_1,AU.depth.eq_2];omega
section
variable {K:AF}{mp:List (Option Nat)}{g:TG}{tc:TT}{te:TE}{σ:St}{H:Hp}{Q:VK}{R:It->Hp->Prop}
theorem aaK{a b:IN}{xs ys:List V}(hR:R=Dq mp g tc te σ Q)(hz:xs.length<=AN)(hl2:xs.length=ys.length)(Pv:Nat->List V->St->Hp->Prop)(h0:Pv 0 [] (cZ mp σ) H)(hl:∀i acc τ H,Pv i acc τ H->acc.length<=i)
  (hq:∀i acc τ H,Pv i acc τ H->H a=ID (.lst xs)/\H b=ID (.lst ys))
  (hs:∀i x y acc τ H p,xs[i]?=ID x->ys[i]?=ID y->Pv i acc τ H->H p=IF->g (.ref p) τ (upd H p (.tup [x,y])) λτ1 H4=>tc τ1 H4 λb H5=>if b=true then te τ1 H5 λv H6=>Pv (i+1) (acc++[v]) τ1 H6 else Pv (i+1) acc τ1 H5)
  (hd:∀acc τ H d,Pv xs.length acc τ H->H d=IF->Q (.ref d) (upd H d (.lst acc))):R (Itz K a b) H:=by
 refine vZ hR xs.length hz Pv h0 hl (λi acc τ H hi p=>?_) (λacc τ H p=>?_) (λi acc τ H x H3 hi p y=>?_) hd
 ·obtain⟨e1,e2⟩:=hq i acc τ H p;exact⟨xs,ys,_,_,SqL.of e1,SqL.of e2,AD hi,AD ω⟩
 ·obtain⟨e1,e2⟩:=hq _ acc τ H p;exact⟨xs,ys,SqL.of e1,SqL.of e2,.inl (BM (AV _))⟩
 obtain⟨e1,e2⟩:=hq i acc τ H p;obtain⟨q,x1,y1,rfl,hq1,rfl,hx,hy⟩:=y;exact hs i x1 y1 acc τ H q (hx _ (SqL.of e1)) (hy _ (SqL.of e2)) p hq1
theorem aaJ{a b:IN}{xs ys:List V}(hR:R=Dq mp g tc te σ Q)(hz:xs.length<=AN)(hl2:xs.length=ys.length)(Pv:Nat->List V->St->Hp->Prop)(h0:Pv 0 [] (cZ mp σ) H)(hl:∀i acc τ H,Pv i acc τ H->acc.length<=i)
  (hq:∀i acc τ H,Pv i acc τ H->H a=ID (.tup xs)/\H b=ID (.tup ys))
  (hs:∀i x y acc τ H p,xs[i]?=ID x->ys[i]?=ID y->Pv i acc τ H->H p=IF->g (.ref p) τ (upd H p (.tup [x,y])) λτ1 H4=>tc τ1 H4 λb H5=>if b=true then te τ1 H5 λv H6=>Pv (i+1) (acc++[v]) τ1 H6 else Pv (i+1) acc τ1 H5)
  (hd:∀acc τ H d,Pv xs.length acc τ H->H d=IF->Q (.ref d) (upd H d (.lst acc))):R (Itu K a b) H:=by
 refine vZ hR xs.length hz Pv h0 hl (λi acc τ H hi p=>?_) (λacc τ H p=>?_) (λi acc τ H x H3 hi p y=>?_) hd
 ·obtain⟨e1,e2⟩:=hq i acc τ H p;exact⟨xs,ys,_,_,SqT.of e1,SqT.of e2,AD hi,AD ω⟩
 ·obtain⟨e1,e2⟩:=hq _ acc τ H p;exact⟨xs,ys,SqT.of e1,SqT.of e2,.inl (BM (AV _))⟩
 obtain⟨e1,e2⟩:=hq i acc τ H p;obtain⟨q,x1,y1,rfl,hq1,rfl,hx,hy⟩:=y;exact hs i x1 y1 acc τ H q (hx _ (SqT.of e1)) (hy _ (SqT.of e2)) p hq1
end
inductive RowC where
 | one (n t:Int)
 | rng (a b t:Int)
 | low (n t:Int)
 | msk (lo wd bits t:Int)
 | tab (lo:Int) (gs:List Int)
 | pik (l:Int)
def scV:AU->Option V
 | .int i=>ID (.int i)
 | .str z=>ID (.str z)
 | _=>IF
theorem aJ.sc{ok:IN->Prop}{H:Hp}{x v:V}{d:AU}(t:aJ ok H x d)(h:scV d=ID v):x=v:=by
 cases t with
 | int i=>exact Be h
 | str z=>exact Be h
 | _=>cases h
theorem aG.sc{ok:IN->Prop}{H:Hp}:∀{xs vs:List V}{ds:List AU},aG ok H xs ds->ds.map scV=vs.map ID->xs=vs
 | _,[],_,.nil,_=>rfl
 | _,v::vs,_,.nil,h=>by cases h
 | _,[],_,.cons _ _,h=>by cases h
 | _,v::vs,_,.cons t ts,h=>by
  rw[DJ,DJ] at h;injection h with h1 h2;rw[t.sc h1,ts.sc h2]
theorem aG.uncons{ok:IN->Prop}{H:Hp}{xs:List V}{d:AU}{ds:List AU}(t:aG ok H xs (d::ds)):∃x r,xs=x::r/\aJ ok H x d/\aG ok H r ds:=by
 cases t with
 | cons h r=>exact⟨_,_,rfl,h,r⟩
theorem aJ.tupOf{ok:IN->Prop}{H:Hp}{x:V}{ds:List AU}(t:aJ ok H x (.tuple ds)):∃p xs,x=.ref p/\H p=ID (.tup xs)/\aG ok H xs ds:=by
 cases t with
 | tup o e z ts=>exact⟨_,_,rfl,e,ts⟩
theorem Sg(pre:List Int)(j:Int):atI ((pre++[j]).map At) (-1)=ID (At j):=by
 unfold atI ixN;rw[if_neg δ,if_pos (by rw[AC,A0,B4];omega)];show((pre++[j]).map At)[_]?=_;rw[show(-1+(((pre++[j]).map At).length:Int)).toNat=pre.length by rw[AC,A0,B4];omega,AL,Dx (AV _),sub_self];rfl
section
variable {X:Cx}{e o:Expr}{te to:TE}{pos:Pos}
theorem V1{i:Nat}{x:Str}{op:Operator}{ti:TIp}{pos':Pos}(h:Nm X.N X.env.scope i x)(hN:X.N.Nodup)(he:QE X e te)(ho:PIp X op ti)(hf:X.fn x=true\/X.env.scope.names.lookup x=ID .local:=by exact .inl Z) :
  QS X (.AugAssign (.Name x pos') op e pos) (abh i te ti):=⟨abI hN h.hN h.hv he.h ho hf⟩
def ints1(H:Hp)(p:IN)(is:List Int):Prop:=H p=ID (.lst (is.map At))\/H p=ID (.tup (is.map At))
theorem mY{is:List Int}{its:List Ap}(r:Vals (is.map At) its)(i:Nat)(v:Ap)(h:its.toArray[i]?=ID v):∃t,v=EQ (is.getD i 0) t:=by
 have hl:=r.length;rw[AC] at hl;have hi:i<its.length:=by
  rcases FU i its.length with z|z
  ·exact z
  rw[Ha,BM z] at h;cases h
 have hx:(is.map At)[i]?=ID (At (is.getD i 0)):=by
  rw[AL,AD ω,AY,AD ω];rfl
 obtain⟨u,hu,ru⟩:=r.get hx;rw[Ha,hu] at h;cases h;exact ru
theorem rG(hc:X.calm=true):dR X (.builtin "min") (λxs H Q=>∃p is,xs=[.ref p]/\ints1 H p is/\is≠[]/\∀M,M∈is->(∀a∈is,M<=a)->Q (.int M) H):=by
 intro pins s σ H xs us Q I r h;obtain⟨p,is,rfl,hp,hne,q⟩:=h;obtain⟨u,rfl,rv⟩:=vals1 r;cases rv;have hpos:0<is.length:=L3.mpr hne;have fin:∀{its:List Ap}(rvs:Vals (is.map At) its) (v:Ap) (h':Heap) (tk:Nat),its.toArray[argBest (λi j=>decide (is.getD i 0<is.getD j 0)) (its.toArray.size-1)]?=ID v->Inv X pins σ H { s with heap:=h',toks:=tk }->EP X pins σ Q v { s with heap:=h',toks:=tk }:=λ{its} rvs v h' tk hv I3=>by
  have hl:=rvs.length;rw[AC] at hl;obtain⟨t,rfl⟩:=mY rvs _ v hv;have hb:=argBest_lt (λi=>is.getD i 0) (its.toArray.size-1);rw[AZ] at hb |-;refine⟨.int _,H,I3,⟨_,rfl⟩,q _ ?_ ?_⟩
  ·rw[AY,AD ω];exact D7 _
  intro a ha;obtain⟨j,hj,e⟩:=FB.mp ha;have:=hb.2 j ω;rw[show is.getD j 0=a by rw[AY,AD hj];exact e] at this;exact this
 have kept:∀{ob:Obj}{h':Heap}{tk:Nat},(∀(b:IN)(o:Obj),¬b∈[s.heap.objs.size]->(s.heap.push ob).get? b=ID o->h'.get? b=ID o)->Inv X pins σ H { s with heap:=h',toks:=tk }:=λ{ob h' tk} hk=>
  I.kept (t':=tk) λb o e=>hk b o (λz=>B1 (AQ e) (AJ.mp z)) (AB _ e)
 rcases hp with hp|hp
 ·obtain⟨its,rvs,pl,hz⟩:=I.list (SqL.of hp);have hl:=rvs.length;rw[AC] at hl;have pl':s.heap.IsList p its.toArray:=pl.isList;have hlt:p<s.heap.objs.size:=by obtain⟨_,e,_⟩:=pl';exact AQ e
  refine call_min_walk (FK pl' ?_);refine⟨s.heap.objs.size,_,_,_,_,_,_,rfl,Walks.list (A:=X.A.in1) (I.ok.hd hc) s.heap.objs.size p (B1 hlt) its.toArray,?_,λb hb=>?_,?_,CmpOf.ints_lt (λi=>is.getD i 0) λi v hv=>mY rvs i v hv,λv h' tk hv hk=>fin rvs v h' tk hv (kept hk)⟩
  ·obtain⟨ob,e,r⟩:=pl';exact⟨⟨_,AO _ rfl,rfl,rfl⟩,ob,AB _ e,r⟩
  ·rw[Cb];simp only[A3,Bz,or_false] at hb;rcases hb with rfl|rfl
   ·exact C3 _
   exact DT hlt
  rw[AZ];omega
 obtain⟨its,rvs,pl,hz⟩:=I.tuple (SqT.of hp);have hl:=rvs.length;rw[AC] at hl;have pl':s.heap.IsTuple p its.toArray:=pl;have hlt:p<s.heap.objs.size:=by obtain⟨_,e,_⟩:=pl';exact AQ e
 refine call_min_walk (F9 pl' ?_);refine⟨s.heap.objs.size,_,_,_,_,_,_,rfl,Walks.tuple (A:=X.A.in1) (I.ok.hd hc) s.heap.objs.size p (B1 hlt) its.toArray,?_,λb hb=>?_,?_,CmpOf.ints_lt (λi=>is.getD i 0) λi v hv=>mY rvs i v hv,λv h' tk hv hk=>fin rvs v h' tk hv (kept hk)⟩
 ·obtain⟨ob,e,r⟩:=pl';exact⟨⟨_,AO _ rfl,rfl,rfl⟩,ob,AB _ e,r⟩
 ·rw[Cb];simp only[A3,Bz,or_false] at hb;rcases hb with rfl|rfl
  ·exact C3 _
  exact DT hlt
 rw[AZ];omega
def Qp(ws:List Str)(w:Str)(j:Nat):Prop:=ws[j]?=ID w/\∀m,m<j->ws[m]?≠ID w
end
theorem Fv(l:IN)(items:Array Ap)(x:Ap)(e:Ap->Bool)(j:Nat)(hj:j<items.size)(h1:e items[j]=true)(h2:∀m (hm:m<items.size),m<j->e items[m]=false) :
  Meets (AR.«tuple.index» { pos:=[DO l,x] }) λA R s=>s.heap.IsTuple l items/\(∀y,y∈items->B7 A.in1 s y x (e y))/\R (.ok (.ret (.int j s.toks))) { s with toks:=s.toks+1 }:=by
 refine Meets.of_wp λprog w A R s h=>?_;obtain⟨⟨o,ho,hc,n,hd⟩,heq,hR⟩:=h;unfold AR.«tuple.index» selfAndSome;refine An (An (CU (a:=()) Z ?_));refine An (CU (a:=()) Z (Au ?_));unfold AR.Tuple.tupleItemsOf;refine An (An (DC ho hd (Au ?_)));refine An (Au ?_);refine An (Au ?_);refine An ?_;rw[Std.Legacy.Range.forIn_eq_forIn_range'];have hsz:[:min items.size items.size].size=items.size:=by simp[Std.Legacy.Range.size]
 rw[hsz];refine wpAny_forIn_list _ (λrest b s'=>b=(IF,())/\s'=s/\∃i,rest=List.range' i (items.size-i)/\i<=j) _ ?_ ?_ _ _ ⟨rfl,rfl,0,rfl,De _⟩
 ·rintro i rest b s' ⟨rfl,rfl,i0,hrest,hij⟩;obtain⟨k,hk⟩:∃k,items.size-i0=k+1:=⟨items.size-i0-1,ω⟩;rw[hk,range'_succ] at hrest;cases hrest;have hi:i<items.size:=ω;have he:items[i]?=ID items[i]:=Array.getElem?_eq_getElem hi;simp only[he];refine An (heq _ (Array.getElem_mem hi) _ _ _ _ ?_);by_cases hj2:i=j
  ·subst hj2;rw[h1,if_pos rfl];refine An ?_;unfold retInt;refine An (wpAny_mkInt ?_);exact Au (Au (Au ⟨_,rfl,hR⟩))
  rw[h2 i hi ω,if_neg δ];exact Au ⟨rfl,rfl,i+1,by rw[show items.size-(i+1)=k by omega],ω⟩
 rintro b s' ⟨rfl,rfl,i,hrest,hij⟩;obtain⟨k,hk⟩:∃k,items.size-i=k+1:=⟨items.size-i-1,ω⟩;rw[hk,range'_succ] at hrest;cases hrest
section
variable {X:Cx}{e o:Expr}{te to:TE}{pos:Pos}
def KTup(K:AF)(p:IN)(xs:List V):Prop:=∃(o:Obj)(its:Array Ap)(n:Nat),K.lookup p=ID o/\o.cls=.type "tuple" /\ o.dict=IF/\o.data=.seq its n/\its.size<=AN/\Vals xs its.toList
theorem KTup.sq{K:AF}{p:IN}{xs:List V}{H:Hp}(h:KTup K p xs):SqT K H p xs:=by
 obtain⟨o,its,n,h1,h2,_,h3,h4,h5⟩:=h;exact .inr ⟨o,its,n,h1,h2,h3,h4,h5⟩
def SqB(b:Bool)(K:AF)(H:Hp)(p:IN)(xs:List V):Prop:=match b with
 | true=>SqL K H p xs
 | false=>KTup K p xs
def Ux(K:AF)(to te:TE):TE:=λσ H Q=>to σ H λx H1=>∃(p:IN)(ws:List Str)(b:Bool),x=.ref p/\SqB b K H1 p (ws.map AS)/\te σ H1 λy H2=>∃w j,y=.str w/\SqB b K H2 p (ws.map AS)/\Qp ws w j/\Q (.int (j:Nat)) H2
theorem tU{ws:List Str}{its:List Ap}(r:Vals (ws.map AS) its){i:Nat}{v:Ap}(h:its[i]?=ID v):∃w t,ws[i]?=ID w/\v=Ap.str w t:=by
 have hl:=r.length;rw[AC] at hl;have hi:=(AI.mp h).1;have hx:(ws.map AS)[i]?=ID (AS ws[i]):=by rw[AL,AD ω];rfl
 obtain⟨u,hu,ru⟩:=r.get hx;rw[hu] at h;cases h;obtain⟨t,rfl⟩:=ru;exact⟨ws[i],t,AD ω,rfl⟩
theorem ZL{apos cpos:Pos}(hu:X.A.in1.units<FO)(ho:PE X o to)(he:PE X e te)
  (hbase:EI o "index" X.env (eval o X.env)=eval o X.env:=by rfl)
   (hfew:((CY cpos (AK [e] X.env)).all (λx=>!x.1)&&(Ix cpos (Fc [] X.env)).all (λx=>x.1.isSome)
   && decide ([e].length+([]:List EN).length+(if ([]:List EN).isEmpty then 0 else 1)<30))=true:=by rfl)
  (hline:(apos.endLine == cpos.line)=true:=by rfl) (hs:AK [e] X.env=(false,eval e X.env)::AK [] X.env:=by rfl) (hplain:(CY cpos (AK [] X.env)).any (·.1)=false:=by rfl) :
  PE X (.Call (.Attribute o "index" apos) [e] [] cpos) (Ux X.K to te):=by
 intro pins s σ H Q I h;refine Fn hbase hfew hline Z (thE (ho pins s σ H _ I h) λv s1 x H1 I1 r1 q=>?_);obtain⟨p,ws,b,rfl,hq,q⟩:=q;have key:∀{its:List Ap}{w:Str}{j:Nat}{u:Ap}{s2:AA},Vals (ws.map AS) its->Qp ws w j->RelV (.str w) u->∃(g:Ap->Bool)(hj:j<its.toArray.size),g its.toArray[j]=true/\(∀m (hm:m<its.toArray.size),m<j->g its.toArray[m]=false)/\∀y,y∈its.toArray->B7 X.A.in1 s2 y u (g y):=λ{its w j u s2} rv hf ru=>by
  obtain⟨t,rfl⟩:=ru;have hl:=rv.length;rw[AC] at hl;have hj:j<its.length:=by have:=(AI.mp hf.1).1;omega
  refine⟨λy=>match y with | .str z _=>z == w|_=>false,by simpa using hj,?_,λm hm hmj=>?_,λy hy=>?_⟩
  ·obtain⟨w',t',h1,h2⟩:=tU rv (AD hj);rw[hf.1] at h1;cases h1;have:its.toArray[j]=Ap.str w t':=by simpa using h2
   rw[this];simp
  ·have hm':m<its.length:=by simpa using hm
   obtain⟨w',t',h1,h2⟩:=tU rv (AD hm');have:its.toArray[m]=Ap.str w' t':=by simpa using h2
   rw[this];have hne:w'≠w:=λz=>hf.2 m hmj (by rw[h1,z]);simpa using hne
  have hy':y∈its:=by simpa using hy
  obtain⟨m,hm,em⟩:=FB.mp hy';obtain⟨w',t',h1,h2⟩:=tU rv (AD hm);rw[em] at h2;rw[h2];exact B7.str_str w' t' w t
 cases b with
 | true=>
  obtain⟨h1,h2⟩:=wk (T := "list") I1 r1 (.inl ⟨rfl,_,hq⟩);refine⟨"list","list.index",E6,PySem.F.slot_list_index,PySem.F.type_list_index,h1,h2,?_⟩;rw[hs];refine EH (by show(false||(CY cpos (AK [] X.env)).any (·.1))=false;rw[hplain] <;> rfl) (EZ ?_)
  refine CL (thn (he pins s1 σ H1 _ I1 q) λu s2 ⟨y,H2,I2,r2,w,j,ey,hq2,hf,q3⟩=>C0 ?_);subst ey;cases r1;obtain⟨its,rv,pl,hz⟩:=I2.list hq2;obtain⟨g,hj,g1,g2,g3⟩:=key (s2:=s2) rv hf r2;obtain⟨ob,n,eo,ec,ed,es⟩:=pl;cases ob with
  | mk cls dict data slots=>
   cases ec;cases es;have hj2:((j:Nat):Int)<2^63-1:=by
    rw[AZ] at hj;have hl:=rv.length;have:=Lv;omega
   refine EK F.slot_list_index ⟨_,eo,rfl⟩ F.entry_list_index (F.args_list_index_2 _ _) (SeqAt.list_indexAt p its.toArray n _ _ u g j hj hj2 g1 g2) ⟨eo,g3,?_⟩;exact⟨.int (j:Nat),H2,I2.tok _,⟨_,rfl⟩,q3⟩
 | false=>
  obtain⟨h1,h2⟩:=wk (T := "tuple") I1 r1 (.inr (.inl ⟨rfl,by obtain⟨o,_,_,k1,k2,k3,_⟩:=hq;exact⟨o,k1,k2,k3⟩⟩));refine⟨"tuple","tuple.index",PySem.F.plainAttrs_tuple,PySem.F.slot_tuple_index,PySem.F.type_tuple_index,h1,h2,?_⟩;rw[hs];refine EH (by show(false||(CY cpos (AK [] X.env)).any (·.1))=false;rw[hplain] <;> rfl) (EZ ?_)
  refine CL (thn (he pins s1 σ H1 _ I1 q) λu s2 ⟨y,H2,I2,r2,w,j,ey,hq2,hf,q3⟩=>C0 ?_);subst ey;cases r1;obtain⟨its,rv,pl,hz⟩:=I2.tuple (KTup.sq hq2);obtain⟨g,hj,g1,g2,g3⟩:=key (s2:=s2) rv hf r2;have pl':s2.heap.IsTuple p its.toArray:=pl;obtain⟨ob,eo,ec,n,ed⟩:=id pl';refine EK F.slot_tuple_index ⟨_,eo,ec⟩ F.entry_tuple_index (F.args_tuple_index_2 _ _) (Fv p its.toArray u g j hj g1 g2) ⟨pl',g3,?_⟩;exact⟨.int (j:Nat),H2,I2.tok _,⟨_,rfl⟩,q3⟩
theorem Zh{apos cpos:Pos}(hu:X.A.in1.units<FO)(ho:QE X o to)(he:QE X e te)
  (hbase:EI o "index" X.env (eval o X.env)=eval o X.env:=by rfl)
   (hfew:((CY cpos (AK [e] X.env)).all (λx=>!x.1)&&(Ix cpos (Fc [] X.env)).all (λx=>x.1.isSome)
   && decide ([e].length+([]:List EN).length+(if ([]:List EN).isEmpty then 0 else 1)<30))=true:=by rfl)
  (hline:(apos.endLine == cpos.line)=true:=by rfl) (hs:AK [e] X.env=(false,eval e X.env)::AK [] X.env:=by rfl) (hplain:(CY cpos (AK [] X.env)).any (·.1)=false:=by rfl) :
  QE X (.Call (.Attribute o "index" apos) [e] [] cpos) (Ux X.K to te):=⟨ZL hu ho.h he.h hbase hfew hline hs hplain⟩
end
inductive Pl where
 | pick (l:Int)
 | one (k:Nat) (r:Pl)
 | wit (k:Nat) (r:Pl)
 | low (k:Nat) (a b:Pl)
 | msk (l:Int) (r:Pl)
 | tab
def plD:Pl->AU
 | .pick l=>.tuple [.str "pick",.int l]
 | .one k r=>.tuple [.str "is",.int (k:Int),plD r]
 | .wit k r=>.tuple [.str "within",.int (k:Int),plD r]
 | .low k a b=>.tuple [.str "below",.int (k:Int),plD a,plD b]
 | .msk l r=>.tuple [.str "mask",.int l,plD r]
 | .tab=>.tuple [.str "table"]
def rN:Pl->Nat
 | .pick _=>1
 | .one _ r=>rN r+1
 | .wit _ r=>rN r+1
 | .low _ a b=>rN a+rN b+1
 | .msk _ r=>rN r+1
 | .tab=>1
abbrev Sts:=List (Int×Int×Int)
def fC(ss:Sts)(k:Nat):Int×Int×Int:=ss.getD k (0,0,0)
structure Lf(ss:Sts)(left:List Nat):Prop where
 ne:left≠[]
 lt:∀k∈left,k<ss.length
 up:left.Pairwise (· < ·)
def yx(ss:Sts)(f:List Nat->Pl->Int):Pl->List Nat->Int
 | .pick l,left=>f left (.pick l)
 | .tab,left=>f left .tab
 | .one k r,left=>f left (.one k r)+yx ss f r (left.filter (·≠k))
 | .wit k r,left=>f left (.wit k r)+yx ss f r (left.filter (·≠k))
 | .low k a b,left=>f left (.low k a b)+yx ss f a (left.filter (· < k))+yx ss f b (left.filter (k<=·))
 | .msk l r,left=>f left (.msk l r)+yx ss f r (left.filter λk=>(fC ss k).2.2≠l)
def Eo(left:List Nat):AU:=.list (left.map λ(k:Nat)=>.int (k:Int))
def fM(ss:Sts)(left:List Nat):Int:=(fC ss (left.getLast?.getD 0)).2.1-(fC ss (left.head?.getD 0)).1+1
def Ip:Sp:=λvs H Q _=>∃(s l:V)(ok:IN->Prop)(ss:Sts)(left:List Nat),vs=[s,l]/\aJ ok H s (.list (ss.map stD))/\aJ ok H l (Eo left)/\Lf ss left/\Q (.int (fM ss left)) H
theorem aaj{ok:IN->Prop}{H:Hp}(left:List Nat):aG ok H (left.map λ(k:Nat)=>At (k:Int)) (left.map λ(k:Nat)=>AU.int (k:Int)):=by
 induction left with
 | nil=>exact .nil
 | cons a l ih=>exact .cons (.int _) ih
theorem aG.nats{ok:IN->Prop}{H:Hp}:∀{xs:List V}{left:List Nat},aG ok H xs (left.map λ(k:Nat)=>AU.int (k:Int))->xs=left.map λ(k:Nat)=>At (k:Int)
 | _,[],.nil=>rfl
 | _,a::l,.cons h r=>by
  cases h;rw[r.nats];rfl
theorem aJ.left{ok:IN->Prop}{H:Hp}{x:V}{left:List Nat}(t:aJ ok H x (Eo left)):∃a,x=.ref a/\ok a/\H a=ID (.lst (left.map λ(k:Nat)=>At (k:Int)))/\left.length<=1000000:=by
 cases t with
 | lst o e z ts=>
  rw[ts.nats] at e z;rw[AC] at z;exact⟨_,rfl,o,e,z⟩
theorem FN{ss:Sts}{k:Nat}(h:k<ss.length):ss[k]?=ID (fC ss k):=by
 unfold fC;rw[AY,AD h];rfl
theorem aG.stN{ok:IN->Prop}{H:Hp}{xs:List V}{ss:Sts}(t:aG ok H xs (ss.map stD)){k:Nat}(h:k<ss.length):∃a,atI xs (k:Int)=ID (.ref a)/\H a=ID (.tup [.int (fC ss k).1,.int (fC ss k).2.1,.int (fC ss k).2.2]):=by
 have hl:=t.length;rw[AC] at hl;have hx:xs[k]?=ID xs[k]:=AD ω;obtain⟨a,s,h1,_,h2,h3⟩:=t.st hx;rw[FN h] at h2;cases h2;refine⟨a,?_,h3⟩;rw[<- h1];exact bZ hx
def nv(left:List Nat):List V:=left.map λ(k:Nat)=>At (k:Int)
theorem pR(left:List Nat):(nv left).length=left.length:=by unfold nv;rw[AC]
theorem Gw{left:List Nat}{i:Nat}{x:V}(h:(nv left)[i]?=ID x):∃k,left[i]?=ID k/\x=.int (k:Int):=by
 unfold nv at h;rw[AL] at h;cases e:left[i]? with
 | none=>rw[e] at h;cases h
 | some k=>rw[e] at h;cases h;exact⟨k,rfl,rfl⟩
theorem aae{left:List Nat}(h:left≠[]):∃k,left.getLast?=ID k/\k∈left/\atI (nv left) (-1)=ID (.int (k:Int)):=by
 obtain⟨a,b,rfl⟩:=Sd left (L3.mpr h);refine⟨b,by simp,by simp,?_⟩;have:=Sg (a.map λ(k:Nat)=>(k:Int)) (b:Int);unfold nv;rw[show((a++[b]).map λ(k:Nat)=>At (k:Int))=((a.map λ(k:Nat)=>(k:Int))++[(b:Int)]).map At by simp];exact this
theorem aaf{left:List Nat}(h:left≠[]):∃k,left.head?=ID k/\k∈left/\atI (nv left) 0=ID (.int (k:Int)):=by
 cases left with
 | nil=>exact absurd rfl h
 | cons a l=>exact⟨a,rfl,A5,bZ (j:=0) (show(nv (a::l))[0]?=_ from rfl)⟩
theorem Nh{ok:IN->Prop}{H:Hp}{a:IN}{left:List Nat}(h:ok a)(e:H a=ID (.lst (nv left)))(hl:left.length<=1000000):aJ ok H (.ref a) (Eo left):=.lst h e (by rw[pR];exact hl) (aaj left)
def zF:Pl->Str
 | .pick _ => "pick"
 | .one _ _ => "is"
 | .wit _ _ => "within"
 | .low _ _ _ => "below"
 | .msk _ _ => "mask"
 | .tab => "table"
def aeb:Pl->Nat
 | .pick _=>0
 | .one _ _=>0
 | .wit _ _=>1
 | .low _ _ _=>2
 | .msk _ _=>3
 | .tab=>4
def Q7:List Str:=["is","within","below","mask","table"]
theorem rW{zs:List Int}{i:Nat}(h:i<zs.length):atI (zs.map At) (i:Int)=ID (.int (zs.getD i 0)):=by
 refine bZ ?_;rw[AL,AD h,AY,AD h];rfl
theorem Fd{K:AF}{mp:List (Option Nat)}{g:TG}{tc:TT}{te:TE}{σ:St}{H:Hp}{Q:VK}{R:It->Hp->Prop}{a:IN}{left:List Nat}(fI:Nat->Int)(okT:St->Prop)(hR:R=Dq mp g tc te σ Q)(e:H a=ID (.lst (nv left)))(hz:left.length<=1000000)(h0:okT (cZ mp σ))
  (hs:∀(i k:Nat) τ (acc:List V) (Pn:List V->St->Hp->Prop),left[i]?=ID k->okT τ->(∀τ1,okT τ1->Pn (acc++[At (fI k)]) τ1 H)->g (.int (k:Int)) τ H λτ1 H4=>tc τ1 H4 λb H5=>if b=true then te τ1 H5 λv H6=>Pn (acc++[v]) τ1 H6 else Pn acc τ1 H5)
  (hd:∀d,H d=IF->Q (.ref d) (upd H d (.lst ((left.map fI).map At)))):R (Itl K a) H:=by
 refine iQ hR (xs:=nv left) (aO (by rw[pR];exact hz)) (λi acc τ H'=>H'=H/\acc=((left.take i).map fI).map At/\okT τ) ⟨rfl,rfl,h0⟩ ?_ ?_ ?_ ?_
 ·rintro i acc τ H' ⟨_,rfl,_⟩;rw[AC,AC];exact CD _ _
 ·rintro i acc τ H' ⟨rfl,_,_⟩;exact SqL.of e
 ·rintro i x acc τ H' hx ⟨rfl,rfl,ht⟩;obtain⟨k,hk,rfl⟩:=Gw hx;refine hs i k τ _ (λacc τ H1=>H1=H'/\acc=((left.take (i+1)).map fI).map At/\okT τ) hk ht (λτ1 h1=>⟨rfl,?_,h1⟩);rw[take_snoc hk,A4,A4];rfl
 rintro acc τ H' d ⟨rfl,rfl,_⟩ hdn;rw[Ex (by rw[pR];exact AV _)];exact hd d hdn
theorem Gq(K:AF){X:Cx}{tg l:Expr}{tl:TE}(hl:QE X l tl)(hK:X.K=K:=by rfl):QI X tg l (J0 K tl):=by
 subst hK;exact bW hl
def sumK(ws:List Int)(left:List Nat):Int:=(left.map λk=>ws.getD k 0).sum
def lB(ws zs:List Int)(left:List Nat):Pl->Int
 | .pick _=>0
 | p=>zs.getD (aeb p) 0*sumK ws left
def Few(zs:List Int):Prop:=∀z∈zs,-(2^40)<z/\z<2^40
def DW:Sp:=λvs H Q _=>∃(p:IN)(B:Int),vs=[.ref p,.int 5]/\bF H p B/\0<=B/\B<=900000 /\
 ∀(t:IN)(zs:List Int) H',bG p H H'->bF H' p (B+20)->t≠p->H t=IF->H' t=ID (.tup (zs.map At))->zs.length=5->(∀z∈zs,1<=z/\z<=99)->Q (.ref t) H'
def DK:Sp:=λvs H Q _=>∃(p:IN)(m:Nat)(B:Int),vs=[.ref p,.int (m:Int)]/\bF H p B/\0<=B/\B<=900000/\m<=60 /\
 ∀(l:IN)(ws:List Int) H',bG p H H'->bF H' p (B+130)->l≠p->H l=IF->H' l=ID (.lst (ws.map At))->ws.length=m->(∀z∈ws,0<=z/\z<=1000000)->Q (.ref l) H'
def lbl(ss:Sts)(k:Nat):Int:=(fC ss k).2.2
def wu(ss:Sts):Pl->List Nat->List (List Nat×Pl)
 | .pick l,left=>[(left,.pick l)]
 | .tab,left=>[(left,.tab)]
 | .one k r,left=>(left,.one k r)::wu ss r (left.filter (·≠k))
 | .wit k r,left=>(left,.wit k r)::wu ss r (left.filter (·≠k))
 | .low k a b,left=>(left,.low k a b)::(wu ss b (left.filter (k<=·))++wu ss a (left.filter (· < k)))
 | .msk l r,left=>(left,.msk l r)::wu ss r (left.filter λk=>(fC ss k).2.2≠l)
def VL(ss:Sts)(left:List Nat):Pl->Prop
 | .pick l=>∀k∈left,lbl ss k=l
 | .tab=>fM ss left<=200
 | .one k _=>k∈left/\(fC ss k).1=(fC ss k).2.1
 | .wit k _=>k∈left
 | .low k _ _=>k∈left
 | .msk l _=>fM ss left<=64/\∃k∈left,lbl ss k=l
def PlV(ss:Sts):Pl->List Nat->Prop
 | .pick l,left=>Lf ss left/\VL ss left (.pick l)
 | .tab,left=>Lf ss left/\VL ss left .tab
 | .one k r,left=>(Lf ss left/\VL ss left (.one k r))/\PlV ss r (left.filter (·≠k))
 | .wit k r,left=>(Lf ss left/\VL ss left (.wit k r))/\PlV ss r (left.filter (·≠k))
 | .low k a b,left=>(Lf ss left/\VL ss left (.low k a b))/\PlV ss a (left.filter (· < k))/\PlV ss b (left.filter (k<=·))
 | .msk l r,left=>(Lf ss left/\VL ss left (.msk l r))/\PlV ss r (left.filter λk=>(fC ss k).2.2≠l)
def rJ:Pl->Nat->List (Nat×Nat)
 | .pick _,_=>[]
 | .tab,_=>[]
 | .one _ r,p=>rJ r (p+1)
 | .wit _ r,p=>rJ r (p+1)
 | .msk _ r,p=>rJ r (p+1)
 | .low _ a b,p=>rJ b (p+1)++(p,p+1+rN b)::rJ a (p+1+rN b)
def acC:List Pl->List Nat->Nat->List (Nat×Nat)
 | [],_,_=>[]
 | c::rest,T,p=>rJ c p++(match T with | []=>[]|t::T'=>match rest with | []=>[]|_::_=>(t,p+rN c)::acC rest T' (p+rN c))
def dgQ(x y:V)(H:Hp)(Q:VK):Prop:=∃a v,x=.ref a/\j7 H a y (ID v)/\Q v H
def tDG(td ty:TE):TE:=λσ H Q=>td σ H λx H1=>ty σ H1 λy H2=>dgQ x y H2 Q
theorem abg(td ty:TE)(σ:St)(H:Hp)(Q:VK):tDG td ty σ H Q=td σ H λx H1=>ty σ H1 λy H2=>dgQ x y H2 Q:=rfl
def dpQ(x y v:V)(H:Hp)(R:Hp->Prop):Prop:=∃a H4,x=.ref a/\rT H a y v H4/\R H4
def sDP(td ty tv:TE):TS:=λD σ H=>tv σ H λv H1=>td σ H1 λx H2=>ty σ H2 λy H3=>dpQ x y v H3 λH4=>D.nx σ H4
theorem abm(td ty tv:TE)(D:Ends)(σ:St)(H:Hp):sDP td ty tv D σ H=tv σ H λv H1=>td σ H1 λx H2=>ty σ H2 λy H3=>dpQ x y v H3 λH4=>D.nx σ H4:=rfl
section
variable {X:Cx}{o i e value:Expr}{pos pos' tpos:Pos}{td ty tv:TE}
theorem mK(hu:X.A.units+1<FO)(ho:QE X o td)(hi:QE X i ty)(hs:acQ i):QE X (.Subscript o i pos) (tDG td ty):=⟨ZQ hu ho.h hi.h hs⟩
theorem V0(hu:X.A.units+1<FO)(ho:QE X o td)(hi:QE X i ty)(hv:QE X value tv)(hs:Kb value (ID (.Subscript o i pos')) pos.line X.env=pure false) :
  QS X (.Assign [.Subscript o i pos'] value pos) (sDP td ty tv):=⟨Zt hu ho.h hi.h hv.h hs⟩
end
def rdA:=AE @abg @abm
def oA(zs:List Int):List (Key×V):=[(EE "is",At (zs.getD 0 0)),(EE "within",At (zs.getD 1 0)),(EE "below",At (zs.getD 2 0)),(EE "mask",At (zs.getD 3 0)),(EE "table",At (zs.getD 4 0))]
theorem Xp(zs:List Int):(oA zs).length=5:=rfl
theorem aaA(zs:List Int):(gO [] (oA zs)).length<AN:=by
 have:=lZ (oA zs) [];rw[Xp,length_nil] at this;exact LF this δ
theorem kne{a b:Str}(h:a≠b):¬(EE a:Key)=EE b:=λe=>h (EE.inj e)
def aaS(P:A1)(w:BD)(o:Obj)(vs:List (Key×Ap)):Prop:=∃es ep,o.ExactDict/\o.data=Data.dict es ep/\PySem.KeysOf (cF P w) es/\Pairs (cF P w) es.toList vs/\(IM (λx=>x.fst) vs).Nodup
theorem aaS.at{P:A1}{w:BD}{o:Obj}{vs:List (Key×Ap)}{h:Heap}{a:IN}(d:aaS P w o vs)(e:h.get? a=ID o):h.DictOf (cF P w) a vs:=by
 obtain⟨es,ep,r⟩:=d;exact⟨o,es,ep,e,r⟩
theorem Xx{P:A1}{w:BD}{h:Heap}(hb:DI<h.objs.size):aaS P w { cls:=.type "dict",data:=.dict #[] } []:=by
 obtain⟨_,_,vs,kv,o,es,ep,e,r⟩:=XC (P:=P) (w:=w) (H:=λ_=>IF) h hb;cases kv;have e2:(h.push { cls:=.type "dict",data:=.dict #[] }).get? h.objs.size=ID { cls:=.type "dict",data:=.dict #[] }:=AO _ rfl;rw[e2] at e;cases e;exact⟨es,ep,r⟩
section
variable {prog:A1}{w:BD}{A:BA}{R:Result->AA->Prop}{s:AA}
theorem BV{kx vx tg iter:Expr}{ifs:List Expr}{scope:D0}{pos:Pos}{it:Ap}{D:IN}{env:Env}(J:Nat->AA->Prop)
   (turn:∀n s,J n s->AH (AM prog w) A (EF it) (λr s1=>match r with
   | none=>R (.ok .next) s1
   | some v=>AH (AM prog w) A (DD tg it v) (λ_ s1'=>AH (AM prog w) A (C7 tg env v) (λ_ s2=>
     AH (AM prog w) A (forIn ifs true λc r=>if r=true then do let ok <- isTrue c env (eval c env);pure (C6 ok) else pure (C6 r)) (λok s3=>
      if ok=true then AH (AM prog w) A (eval kx env) (λx s4=>AH (AM prog w) A (eval vx env) (λy s4'=>
       AH (AM prog w) A (dictSet D x y) (λ_ s5=>∃m,m<n/\J m s5) (EG (AM prog w) A env λe z=>R (.error e) z) s4') (EG (AM prog w) A env λe z=>R (.error e) z) s4) (EG (AM prog w) A env λe z=>R (.error e) z) s3
      else ∃m,m<n/\J m s3) (EG (AM prog w) A env λe z=>R (.error e) z) s2) (EG (AM prog w) A env λe z=>R (.error e) z) s1') (EG (AM prog w) A env λe z=>R (.error e) z) s1) (EG (AM prog w) A env λe z=>R (.error e) z) s)
  (n:Nat) (h:J n s):DF (AM prog w) A (.compLoop (.DictComp kx vx [⟨tg,iter,ifs,0⟩] scope pos) 0 it (.ref D) env) R s:=by
 refine KO Z J (λn z hJ=>?_) n h;show AH _ A ((Kj (.DictComp kx vx [⟨tg,iter,ifs,0⟩] scope pos) 0 it (.ref D) env).onRaise (λy=>do Kk y env;IB y)) _ _ z;refine LA ?_;rw[compTurn_dict];refine An (CA (An (A7 (turn n z hJ) (λr s1 h1=>?_) λ_ _ q=>q)));cases r with
 | none=>exact Au h1
 | some v=>
  refine An (A7 h1 (λ_ s1' h1'=>?_) λ_ _ q=>q);refine An (A7 h1' (λ_ s2 h2=>An (A7 h2 (λok s3 h3=>?_) λ_ _ q=>q)) λ_ _ q=>q);cases ok with
  | false=>exact Au ⟨rfl,h3⟩
  | true=>
   exact An (An (A7 h3 (λx s4 h4=>An (Ct (A7 h4 (λy s4' h4'=>An (CA (Ct (A7 h4' (λ_ s5 h5=>Au ⟨rfl,h5⟩) λ_ _ q=>q)))) λ_ _ q=>q))) λ_ _ q=>q))
end
def kvQ(kx:V)(R:Key->Prop):Prop:=∃k,kx=kV k/\R k
def Fy(mp:List (Option Nat))(wi:TI)(g:TG)(tc:TT)(tk tv:TE):TE:=λσ H Q=>wi σ H λJ H1=>
 ∃W:Nat->Nat->List (Key×V)->St->Hp->Prop,(∃m,W 0 m [] (cZ mp σ) H1)/\∀i m acc τ H2,W i m acc τ H2 ->
  (J.stop i H2/\∀d,H2 d=IF->Q (.ref d) (upd H2 d (.dK acc))) \/
  (J.go i H2/\acc.length<AN/\∃N:List (Key×V)->St->Hp->Prop,(∀acc' τ' H',N acc' τ' H'->∃m',m'<m/\W (i+1) m' acc' τ' H')/\∀x H3,J.yld i H2 x H3->g x τ H3 λτ1 H4=>tc τ1 H4 λb H5=>
   if b=true then tk τ1 H5 λkv H6=>tv τ1 H6 λv H7=>kvQ kv λk=>N (putK acc k v) τ1 H7 else N acc τ1 H5)
section
variable {X:Cx}{NX N:List Str}{kX:List (Str×B2)}{mp:List (Option Nat)}{scope:D0}
set_option maxHeartbeats 8000000 in
theorem Zo{tg iter kx vx:Expr}{ifs:List Expr}{pos pos' pos2:Pos}{wi:TI}{g:TG}{tc:TT}{tk tv:TE}{i:Nat}{x:Str}(N:List Str)(mp:List (Option Nat))(hn:Nm X.N X.env.scope i x)(hNd:X.N.Nodup)(hNX:X.N=NX)(hkX:X.env.scope.names=kX)(S:lU NX kX N mp scope)(hc:X.calm=true)
  (hi:PI X tg iter wi)(hg:∀cl C s H fp,PG (aK X N scope cl C s H fp) tg g)(ht:∀cl C s H fp,PTs (aK X N scope cl C s H fp) ifs tc)(hek:∀cl C s H fp,PE (aK X N scope cl C s H fp) kx tk)(hev:∀cl C s H fp,PE (aK X N scope cl C s H fp) vx tv)
  (hf:X.fn x=true\/X.env.scope.names.lookup x=ID .local:=by exact .inl Z)
  (hsw:DS [.Name x pos'] (.DictComp kx vx [⟨tg,iter,ifs,0⟩] scope pos) pos2.line X.env=pure true:=by rfl)
  (h1:(CI [.Name x pos'] X.env).map (·.2)=[C7 (.Name x pos') X.env]:=by rfl)
  (hs:∀x,BC iter X.env x=pure x:=by intro _;rfl):PS X (.Assign [.Name x pos'] (.DictComp kx vx [⟨tg,iter,ifs,0⟩] scope pos) pos2) (rM (Fy mp wi g tc tk tv) (gb i)):=by
 intro pins s σ H Dn I h;rw[IA];refine An (CA ?_);rw[hsw];refine An (Au ?_);rw[if_pos rfl,h1];replace h:Fy mp wi g tc tk tv σ H (λv H1=>Dn.nx (σ.set i (ID v)) H1):=h;obtain⟨cl,hcl,hsub,hhas⟩:=lO (env:=X.env) (scope:=scope) λy hy hf=>I.ok.has y.1 (by
  rcases S.fre y hy hf with q|q
  ·exact .inl (show X.env.scope.names.lookup y.1=_ by rw[hkX];exact q)
  exact .inr (show X.env.scope.names.lookup y.1=_ by rw[hkX];exact q))
 generalize hQ:(λ(v:V)(H1:Hp)=>Dn.nx (σ.set i (ID v)) H1)=Q at h
 let QQ:Ap->AA->Prop:=λ_ s'=>∃τ H',Inv X pins τ H' s'/\Dn.nx τ H'
 refine An (An (thn (Q:=QQ) (CS (e:=.DictComp kx vx [⟨tg,iter,ifs,0⟩] scope pos) (use:=ID λv=>IH v [C7 (.Name x pos') X.env]) Z hs hcl S.kind S.locs ?_) λ_ s' ⟨τ,H',I',q'⟩=>Au (Au ⟨τ,H',I',q'⟩)));refine thn (hi pins s σ H _ I h) λv s1 h1=>thn h1 λitv s2 h2=>?_;obtain⟨it,fp,tn,J,H2,e,I2,T,st2,f2,W,⟨m0,w0⟩,turn⟩:=h2;subst e;refine A6 (EW S.nocell (by intro y hy;simp at hy) (λh3 hns hsb=>?_) S.kind);dsimp only at hns hsb |-;have hold:∀b∈fp,b<s2.heap.objs.size:=λb hb=>by
  obtain⟨o,q,_⟩:=T.obj _ _ st2 b hb;exact AQ q
 generalize hD:s2.heap.objs.size=D at hns hsb;generalize hH2:s2.heap.push { cls:=.type "dict",dict:=IF,data:=.dict #[] }=P2 at hns hsb |-;have hC:P2.objs.size=D+1:=by rw[<- hH2,Cb,hD]
 generalize hC':P2.objs.size=C at hns hsb |-;rw[hC'] at hC;have old:∀b o,s2.heap.get? b=ID o->h3.get? b=ID o:=λb o q=>by
  have hb:=AQ q;exact hsb.extBut b o (na1 hb hD hC) (AB _ (hH2 ▸ AB _ q))
 have accD:h3.get? D=ID { cls:=.type "dict",data:=.dict #[] }:=
  hsb.extBut _ _ (na2 hC) (AB _ (by rw[<- hH2,<- hD];exact AO _ Z))
 have hfr:D∉frs X.stack:=λz=>by
  rcases A3.mp (I2.jR D z) with q|q
  ·exact na0 I2.lt hD q.symm
  exact I2.Gy (na4 hD) q
 have I0:Inv (aK X N scope cl C s2 H2 fp) [(D,{ cls:=.type "dict",data:=.dict #[] })] (cZ mp σ) H2 { s2 with heap:=h3,toks:=s2.toks+([]:List (Str×Ap)).length }:=
  rF (s':={ s2 with heap:=h3,toks:=s2.toks+([]:List (Str×Ap)).length }) hNX hkX S I2 f2 hold (na3 hD hC) hsub hhas Z Z ⟨_,hns⟩ old λp hp=>by
   have ep:=AJ.mp hp;subst ep;exact⟨accD,I2.hok.fresh (na4 hD),na2 hC,hfr,λv z=>by cases z⟩
 have hsys:(D == DI)=false:=by
  have t1:@LT.lt Nat _ DI s2.heap.objs.size:=I2.big;have t2:@Eq Nat s2.heap.objs.size D:=hD;exact beq_false_of_ne (by intro(z:@Eq Nat _ _);omega)
 have T0:tn 0 h3:=T.keep _ _ _ st2 λb _ o q=>old b o q;have loop:∀z:AA,z={ s2 with heap:=h3,toks:=s2.toks+([]:List (Str×Ap)).length } ->
   DF (AM X.prog X.w) X.A (.compLoop (.DictComp kx vx [⟨tg,iter,ifs,0⟩] scope pos) 0 (.ref it) (.ref D) (CO scope cl C X.env))
    (Kn (AM X.prog X.w) X.A X.xe (ID λv=>IH v [C7 (.Name x pos') X.env]) QQ (.ref D) C) z:=by
  rintro z rfl;have stat:∀{H':Hp}{pl:List (IN×Obj)},(∀b∈fp,H' b=IF)->(∀p∈pl,p.1=D)->∀b∈fp,lJ (aK X N scope cl C s2 H2 fp) pl H' b:=λhn hp b hb=>by
   have hb2:=hold b hb;refine⟨hn b hb,na1 hb2 hD hC,(uI hkX S I2 f2 hold (na3 hD hC) hsub hhas).exfs b hb,.inl hb,λx c q=>(f2 b hb).2.2.2.2.1 x c (hsub x c q),λp hpp=>?_⟩;have hpD:=hp p (by simpa [aK] using hpp);rw[hpD];exact(na0 hb2 hD).symm
  refine BV (env:=CO scope cl C X.env) (λn z=>∃i acc τ H' o vs,Inv (aK X N scope cl C s2 H2 fp) [(D,o)] τ H' z/\aaS X.prog X.w o vs/\tn i z.heap/\(∀b∈fp,H' b=IF)/\KV acc vs/\acc.length<=AN/\W i n acc τ H')
   ?_ m0 ⟨0,[],_,H2,_,[],I0,Xx I2.big,T0,λb hb=>(f2 b hb).1,.nil,De _,w0⟩
  rintro n s5 ⟨i,acc,τ,H5,ob,vs,I5,dob,st5,fr5,va,hz,w5⟩;rcases turn i n acc τ H5 w5 with⟨stop,qn⟩|⟨go,hz2,N9,hN9,step⟩
  ·refine thn (T.done (aK X N scope cl C s2 H2 fp) Z Z Z hc i _ s5 τ H5 _ I5 (stat fr5 ζ) st5 stop) λr s6 ⟨hr,I6⟩=>?_;subst hr;obtain⟨m6,hn6,_⟩:=I6.loc;obtain⟨dD,nD,_,_,_⟩:=I6.pin (D,_) (AG _ (AJ.mpr Z));have U:=I6.base;have nC:H5 C=IF:=I6.free;have ne:∀b o,s2.heap.get? b=ID o->b≠C/\b≠D:=λb o q=>by
    exact⟨na1 (AQ q) hD hC,na0 (AQ q) hD⟩
   have key:∀h',B0 C s6.heap h'->Inv X pins σ (upd H5 D (.dK acc)) { s6 with heap:=h' }:=λh' sb=>by
    have keepC:∀b o,b≠C->s6.heap.get? b=ID o->h'.get? b=ID o:=λb o hb q=>(sb.2 b hb).trans q;have U':Un (frs X.stack) fp H2 (upd H5 D (.dK acc)) s2.heap h':=by
     refine⟨λb o q n1 hb hx=>keepC b o (ne b o q).1 (U.keep b o q n1 hb hx),λb o q n1 hb hx=>?_,λb o q n1 hx=>?_,λb o q hx=>?_,λb xs q=>?_,λb o xs q=>?_,λb ps q=>?_⟩
     ·obtain⟨sl,z⟩:=U.slot b o q n1 hb hx;exact⟨sl,keepC b _ (ne b o q).1 z⟩
     ·rw[aH (ne b o q).2];exact U.free b o q n1 hx
     ·obtain⟨o',z⟩:=U.there b o q hx;exact⟨o',keepC b _ (ne b o q).1 z⟩
     ·have z:=U.tups b xs q;rw[aH (aB z nD)];exact z
     ·have z:=U.frzs b o xs q;rw[aH (aB z nD)];exact z
     obtain⟨more,z⟩:=U.tbls b ps q;exact⟨more,by rw[aH (aB z nD)];exact z⟩
    have hok:HOk X.prog X.w (upd H5 D (.dK acc)) h':=λb u q=>by
     by_cases hb:b=D
     ·subst hb;rw[aD] at q;cases q;exact Xz hz hsys va (dob.at (keepC _ _ (na2 hC) dD))
     rw[aH hb] at q;refine(I6.hok b u q).stay (λc v hcc z=>keepC c v ?_ z) (λc z=>by rw[aH (aB z nD)];exact z) λc xs z=>by rw[aH (aB z nD)];exact z
     rcases hcc with z1|z1
     ·subst z1;exact aB q nC
     exact aB z1 nC
    have I7:Inv X pins σ (upd H5 D (.dK acc)) { s6 with heap:=h' }:=I2.call' (s':={ s6 with heap:=h' }) (ch:=fp) I6.os U' hok I6.bare λb hb=>by
     obtain⟨_,a2,_,a4,a5,a6⟩:=f2 b hb;exact⟨a4,a2,a5,a6⟩
    exact I7
   have I7:Inv X pins σ (upd H5 D (.dK acc)) s6:=key s6.heap (B0.refl _ _);have lC:X.env.locals≠C:=na1 I2.lt hD hC;have cC:∀y c,X.env.cells.lookup y=ID c->c≠C:=λy c z=>by
    obtain⟨_,o,h1,_⟩:=I2.cell y c z;exact na1 (AQ h1) hD hC
   show AH _ _ (C7 (.Name x pos') X.env (.ref D)) _ _ s6;refine GG (mD (v:=.ref D) I7 hNd hn.hN hn.hv Z (λs7 I8 ⟨a,sa,ha⟩=>?_) hf);have aC:a≠C:=by
    rcases ha with rfl|ha
    ·exact lC
    exact cC _ _ ha
   obtain⟨o6,es6,ep6,g1,g2,g3,g4⟩:=hn6;refine⟨m6,⟨o6,es6,ep6,(sa.2 C (BS aC)).trans g1,g2,g3,g4⟩,λh' sb=>?_⟩;have q9:=qn D nD;rw[<- hQ] at q9;refine⟨_,_,I8.turned (it:=C) (t':=s7.toks) (λb o hb q=>(sb.2 b hb).trans q) ?_ (BS lC) (.inr (CM I2.sz (na3 hD hC))) cC (λp hp=>?_),q9⟩
   ·rw[aH (BS (na2 hC))];exact nC
   obtain⟨h1,_⟩:=I2.pin p hp;exact na1 (AQ h1) hD hC
  refine thn (T.item (aK X N scope cl C s2 H2 fp) Z Z Z hc i _ s5 τ H5 _ I5 (stat fr5 ζ) st5 go) λr s6 ⟨u,hr,h6⟩=>?_;subst hr;refine thn h6 λ_ s7 ⟨x,H7,I7,r7,y7,st7,fr7⟩=>?_;have I7':=I7.pinned (stat fr7 ζ) (T.obj _ _ st7);have no:∀{α:Type}{t:Sem α}{Q1 Q2:α->AA->Prop}{E:Ap->AA->Prop}{z:AA},AH (AM X.prog X.w) X.A t Q1 (λ_ _=>False) z->(∀a z,Q1 a z->Q2 a z)->AH (AM X.prog X.w) X.A t Q2 E z:=
   λq f=>A7 q f λ_ _ z=>z.elim
  refine no (hg cl C s2 H2 fp _ s7 τ H7 x u _ I7' r7 (step x H7 y7)) λ_ s8 ⟨τ1,H8,I8,q8⟩=>?_;refine no (ht cl C s2 H2 fp _ s8 τ1 H8 _ I8 q8) λok s9 ⟨H9,I9,q9⟩=>?_;have ER:∀{H':Hp}{z:AA}{o':Obj},Inv (aK X N scope cl C s2 H2 fp) ([(D,o')]++cG fp s7.heap) τ1 H' z ->
    tn (i+1) z.heap/\(∀b∈fp,H' b=IF)/\Inv (aK X N scope cl C s2 H2 fp) [(D,o')] τ1 H' z:=λ{H' z o'} Iz=>by
   have get:∀b∈fp,∀o,s7.heap.get? b=ID o->z.heap.get? b=ID o/\H' b=IF:=λb hb o q=>by
    obtain⟨a1,a2,_⟩:=Iz.pin (b,o) (AG _ (AG _ (dM hb q)));exact⟨a1,a2⟩
   refine⟨T.keep _ _ _ st7 λb hb o q=>(get b hb o q).1,λb hb=>?_,Iz.fL⟩;obtain⟨o,q,_⟩:=T.obj _ _ st7 b hb;exact(get b hb o q).2
  cases ok with
  | false=>
   rw[if_neg AX] at q9 |-;obtain⟨m',hm,w9⟩:=hN9 _ _ _ q9;obtain⟨a1,a2,a3⟩:=ER I9;exact⟨m',hm,i+1,acc,τ1,H9,ob,vs,a3,dob,a1,a2,va,hz,w9⟩
  | true=>
   rw[if_pos rfl] at q9 |-;refine no (hek cl C s2 H2 fp _ s9 τ1 H9 _ I9 q9) λuk s10 ⟨xk,H10,I10,rk,q10⟩=>?_;refine no (hev cl C s2 H2 fp _ s10 τ1 H10 _ I10 q10) λy s11 ⟨v,H11,I11,rv,kk,ek,q11⟩=>?_;subst ek;obtain⟨m',hm,w11⟩:=hN9 _ _ _ q11;obtain⟨a1,a2,a3⟩:=ER I11;obtain⟨dD,nD,_,_,_⟩:=a3.pin (D,_) (AG _ (AJ.mpr Z));have hlen:=va.length;refine wpAny_dictSet_pairs (knd:=cF X.prog X.w) (Qg rk) (dob.at dD) (λh' dd sb=>?_) (by rw[<- hlen];omega);obtain⟨o',es',ep',g1,g2⟩:=dd;have a4:Inv (aK X N scope cl C s2 H2 fp) (cG fp s7.heap) τ1 H11 s11:=I11.dW λp hp=>I11.pin p (AG _ (AG _ hp));have a5:Inv (aK X N scope cl C s2 H2 fp) (cG fp s7.heap) τ1 H11 { s11 with heap:=h',toks:=s11.toks+1 }:=
    a4.turned (it:=D) (λb o hb z=>(sb.2 b hb).trans z) nD (na2 hC) (.inr (na4 hD))
     (λx c z=>by
      obtain⟨_,o,h1,_⟩:=I2.cell x c (hsub x c z);exact na0 (AQ h1) hD) λp hp=>by
      have hb:=(gH (by simpa [aK] using hp)).1;exact na0 (hold _ hb) hD
   have b1:tn (i+1) h':=T.keep _ _ _ a1 λb hb o z=>(sb.2 b (na0 (hold b hb) hD)).trans z;have hpl:=gw acc kk v;refine⟨m',hm,i+1,putK acc kk v,τ1,H11,o',stored vs kk y,a5.dW λp hp=>?_,⟨es',ep',g2⟩,b1,a2,va.put kk rv,ω,w11⟩;have ep:=AJ.mp hp;subst ep;exact⟨g1,nD,na2 hC,hfr,λv z=>by rw[g2.2.1] at z;cases z⟩
 have e1:{ newEnv scope C X.env.globals cl X.env.qual IF .none (ID X.env) X.env.builtins with scope:=relabel scope X.env }=CO scope cl C X.env:=rfl;exact codeAny_compStart_dict (loop _ Z) (T.self _ 0 _ _ _ T0 (loop _ Z))
theorem Za{tg iter kx vx:Expr}{ifs:List Expr}{pos pos' pos2:Pos}{wi:TI}{g:TG}{tc:TT}{tk tv:TE}{i:Nat}{x:Str}(N:List Str)(mp:List (Option Nat))(hn:Nm X.N X.env.scope i x)(hNd:X.N.Nodup)(hNX:X.N=NX)(hkX:X.env.scope.names=kX)(S:lU NX kX N mp scope)(hc:X.calm=true)
  (hi:QI X tg iter wi)(hg:∀cl C s H fp,QG (aK X N scope cl C s H fp) tg g)(ht:∀cl C s H fp,QC (aK X N scope cl C s H fp) ifs tc)(hek:∀cl C s H fp,QE (aK X N scope cl C s H fp) kx tk)(hev:∀cl C s H fp,QE (aK X N scope cl C s H fp) vx tv)
  (hf:X.fn x=true\/X.env.scope.names.lookup x=ID .local:=by exact .inl Z)
  (hsw:DS [.Name x pos'] (.DictComp kx vx [⟨tg,iter,ifs,0⟩] scope pos) pos2.line X.env=pure true:=by rfl)
  (h1:(CI [.Name x pos'] X.env).map (·.2)=[C7 (.Name x pos') X.env]:=by rfl)
  (hs:∀x,BC iter X.env x=pure x:=by intro _;rfl):QS X (.Assign [.Name x pos'] (.DictComp kx vx [⟨tg,iter,ifs,0⟩] scope pos) pos2) (rM (Fy mp wi g tc tk tv) (gb i)):=
 ⟨Zo N mp hn hNd hNX hkX S hc hi.h (λcl C s H fp=>(hg cl C s H fp).h) (λcl C s H fp=>(ht cl C s H fp).h) (λcl C s H fp=>(hek cl C s H fp).h) (λcl C s H fp=>(hev cl C s H fp).h) hf hsw h1 hs⟩
end
def zsQ(K:AF)(vs:List V)(H:Hp)(R:It->Hp->Prop):Prop:=∃a b xs ys,vs=[.ref a,.ref b]/\SqT K H a xs/\SqT K H b ys/\R (Itu K a b) H
def Xf(K:AF)(ta:TA):TI:=λσ H R=>ta σ H λvs H1=>zsQ K vs H1 R
theorem Xe(K:AF)(ta:TA)(σ:St)(H:Hp)(R:It->Hp->Prop):Xf K ta σ H R=ta σ H λvs H1=>zsQ K vs H1 R:=rfl
section
variable {X:Cx}
theorem Zx{es:List Expr}{kk:Nat}{tpos:Pos}{a b:Expr}{ta:TA}{p pos:Pos}(hg:Gl X "zip")(hm:X.mg "zip" = IF)(ha:PA X [a,b] ta)(hs:AK [a,b] X.env=[(false,eval a X.env),(false,eval b X.env)]:=by rfl)(hs2:AK [b] X.env=[(false,eval b X.env)]:=by rfl) :
  PI X (.Tuple es kk tpos) (.Call (.Name "zip" p) [a,b] [] pos) (Xf X.K ta):=by
 intro pins s σ H R I h;refine Call_ (gA I hg hm boot_zip (BE (thA (ha pos pins s σ H _ I h) λus s1 vs H1 I1 r1 q1=>?_) (by rw[hs,hs2]) (by rw[hs2];rfl)));obtain⟨l1,l2,xs,ys,rfl,e1,e2,q⟩:=q1;cases r1 with
 | cons r rr=>
  cases rr with
  | cons r' rr=>
   cases rr;cases r;cases r';have apart:l1<s1.heap.objs.size->l2<s1.heap.objs.size->Kt (s1.heap.objs.size+4) (s1.heap.objs.size+2) (s1.heap.objs.size+3) s1.heap.objs.size (s1.heap.objs.size+1) l1 l2:=by
    generalize s1.heap.objs.size=n;intro lt1 lt2;have lt1':@LT.lt Nat _ l1 n:=lt1;have lt2':@LT.lt Nat _ l2 n:=lt2;constructor <;> (intro(z:@Eq Nat _ _);omega)
   have fp:∀b∈[s1.heap.objs.size+4,s1.heap.objs.size+2,s1.heap.objs.size+3,s1.heap.objs.size,s1.heap.objs.size+1],lJ X pins H1 b:=λb hb=>by
    have hle:s1.heap.objs.size<=b:=by
     simp only[A3,Bz,or_false] at hb;rcases hb with rfl|rfl|rfl|rfl|rfl <;> simp
    exact I1.Dl hle (I1.hok.fresh hle)
   obtain⟨its1,rv1,p1,hz1⟩:=I1.tuple e1;obtain⟨its2,rv2,p2,hz2⟩:=I1.tuple e2;have lt1:l1<s1.heap.objs.size:=by obtain⟨_,e,_⟩:=p1;exact AQ e
   have lt2:l2<s1.heap.objs.size:=by obtain⟨_,e,_⟩:=p2;exact AQ e
   refine yo p1 p2 λh' b1 b2 b3 b4 b5 b6 hk=>?_;refine G1 (s:={ s1 with heap:=h' }) b1 ?_;exact⟨_,_,_,_,H1,rfl,I1.kept (t':=s1.toks) hk,Du (apart lt1 lt2),⟨b1,b2,⟨_,_,b3⟩,b4,b5⟩,fp,q⟩
theorem Zc{es:List Expr}{kk:Nat}{tpos:Pos}{a b:Expr}{t:TA}{p pos:Pos}(hg:Gl X "zip")(hm:X.mg "zip" = IF)(ha:QA X [a,b] t)(hs:AK [a,b] X.env=[(false,eval a X.env),(false,eval b X.env)]:=by rfl)(hs2:AK [b] X.env=[(false,eval b X.env)]:=by rfl):QI X (.Tuple es kk tpos) (.Call (.Name "zip" p) [a,b] [] pos) (Xf X.K t):=⟨Zx hg hm ha.h hs hs2⟩
end
theorem SqT.same{K:AF}{H H':Hp}{a:IN}{xs:List V}(h:SqT K H a xs)(s:Same H H'):SqT K H' a xs:=by
 rcases h with h|h
 ·rcases h with h|⟨o,h⟩
  ·exact .inl (.inl (s _ _ h))
  exact .inl (.inr ⟨o,s _ _ h⟩)
 exact .inr h
def aa2(mp:List (Option Nat))(g:TG)(tc:TT)(tk tv:TE)(σ:St)(Q:VK)(J:It)(H1:Hp):Prop:=
 ∃W:Nat->Nat->List (Key×V)->St->Hp->Prop,(∃m,W 0 m [] (cZ mp σ) H1)/\∀i m acc τ H2,W i m acc τ H2 ->
  (J.stop i H2/\∀d,H2 d=IF->Q (.ref d) (upd H2 d (.dK acc))) \/
  (J.go i H2/\acc.length<AN/\∃N:List (Key×V)->St->Hp->Prop,(∀acc' τ' H',N acc' τ' H'->∃m',m'<m/\W (i+1) m' acc' τ' H')/\∀x H3,J.yld i H2 x H3->g x τ H3 λτ1 H4=>tc τ1 H4 λb H5=>
   if b=true then tk τ1 H5 λkv H6=>tv τ1 H6 λv H7=>kvQ kv λk=>N (putK acc k v) τ1 H7 else N acc τ1 H5)
theorem aaI{mp:List (Option Nat)}{wi:TI}{g:TG}{tc:TT}{tk tv:TE}{σ:St}{H:Hp}{Q:VK}(h:∀R:It->Hp->Prop,R=aa2 mp g tc tk tv σ Q->wi σ H R):Fy mp wi g tc tk tv σ H Q:=h _ rfl
theorem MT(kvs:List (Key×V))(kv:Key×V):gO [] (kvs++[kv])=putK (gO [] kvs) kv.1 kv.2:=by
 unfold gO;rw[List.foldl_append];rfl
theorem aaH{K:AF}{mp:List (Option Nat)}{g:TG}{tc:TT}{tk tv:TE}{σ:St}{H:Hp}{Q:VK}{R:It->Hp->Prop}{a b:IN}{ys:List V}{kvs:List (Key×V)}(okT:St->Prop)(hR:R=aa2 mp g tc tk tv σ Q)(ea:SqT K H a (kvs.map λkv=>kV kv.1))(eb:SqT K H b ys)(hl:kvs.length<=ys.length)(hz:kvs.length<=15)(h0:okT (cZ mp σ))
   (hs:∀(i:Nat) kv y τ H' p (Nx:List (Key×V)->St->Hp->Prop),kvs[i]?=ID kv->ys[i]?=ID y->Same H H'->okT τ->H' p=IF->(∀τ1 H1,Same H H1->okT τ1->Nx (putK (gO [] (kvs.take i)) kv.1 kv.2) τ1 H1) ->
   g (.ref p) τ (upd H' p (.tup [kV kv.1,y])) λτ1 H4=>tc τ1 H4 λbb H5=>if bb=true then tk τ1 H5 λkx H6=>tv τ1 H6 λv H7=>kvQ kx λk=>Nx (putK (gO [] (kvs.take i)) k v) τ1 H7 else Nx (gO [] (kvs.take i)) τ1 H5)
  (hd:∀d H',Same H H'->H' d=IF->Q (.ref d) (upd H' d (.dK (gO [] kvs)))):R (Itu K a b) H:=by
 rw[hR];refine⟨λi m acc τ H'=>m+i=kvs.length/\Same H H'/\okT τ/\acc=gO [] (kvs.take i),⟨kvs.length,ω,Same.refl _,h0,rfl⟩,?_⟩;rintro i m acc τ H2 ⟨hm,s2,ot,rfl⟩;cases m with
 | zero=>
  refine .inl ⟨⟨_,ys,ea.same s2,eb.same s2,.inl (BM (by rw[AC];omega))⟩,λd hd'=>?_⟩;rw[Ex ω];exact hd d H2 s2 hd'
 | succ m=>
  have hi:i<kvs.length:=ω;have hy:i<ys.length:=ω;have hk:kvs[i]?=ID kvs[i]:=AD hi;have hx:(kvs.map λkv=>kV kv.1)[i]?=ID (kV kvs[i].1):=by rw[AL,hk];rfl
  refine .inr ⟨⟨_,ys,_,_,ea.same s2,eb.same s2,hx,AD hy⟩,?_,λacc' τ' H'=>acc'=gO [] (kvs.take (i+1))/\Same H H'/\okT τ',λacc' τ' H' ⟨e,s',o'⟩=>⟨m,ω,ω,s',o',e⟩,?_⟩
  ·have:=lZ (kvs.take i) [];rw[length_nil] at this;have h2:(kvs.take i).length<=15:=by rw[FS];omega
   exact LF (by omega:_<=15) δ
  rintro x H3 ⟨p,x1,y1,rfl,hp,rfl,g1,g2⟩;have e1:=g1 _ (ea.same s2);rw[hx] at e1;cases e1;have e2:=g2 _ (eb.same s2);refine hs i kvs[i] y1 τ H2 p (λacc' τ' H'=>acc'=gO [] (kvs.take (i+1))/\Same H H'/\okT τ') hk e2 s2 ot hp λτ1 H1 s1 o1=>⟨?_,s1,o1⟩;rw[take_add_one,hk];exact(MT _ _).symm
def BR(zs:List Int)(t:Int):List (Key×V):=putK (gO [] (oA (zs.map (· * t)))) (EE "pick") (At 0)
theorem aaB{zs:List Int}{i:Nat}{kv:Key×V}(h:(oA zs)[i]?=ID kv):kv.2=At (zs.getD i 0):=by
 match i,h with
 | 0,h=>cases h;rfl
 | 1,h=>cases h;rfl
 | 2,h=>cases h;rfl
 | 3,h=>cases h;rfl
 | 4,h=>cases h;rfl
 | n+5,h=>simp[oA] at h
theorem J3(zs:List Int)(t:Int)(i:Nat):(zs.map (· * t)).getD i 0=zs.getD i 0*t:=by
 rw[AY,AY,AL];cases zs[i]? with
 | none=>simp
 | some z=>rfl
def Oz:Sp:=λvs H Q _=>∃(l:V)(wa z:IN)(ok:IN->Prop)(ws zs:List Int)(left:List Nat),vs=[.ref wa,.ref z,l]/\aJ ok H l (Eo left)/\(∀k∈left,k<ws.length)/\H wa=ID (.lst (ws.map At))/\H z=ID (.tup (zs.map At))/\zs.length=5/\Few zs /\
 ∀p H',Same H H'->H' p=ID (.dK (BR zs (sumK ws left)))->Q (.ref p) H'
theorem XQ(ws zs:List Int)(left:List Nat)(p:Pl):gF (BR zs (sumK ws left)) (EE (zF p))=ID (At (lB ws zs left p)):=by
 unfold BR gO oA;simp only[List.foldl_cons,List.foldl_nil,lg,Ug,J3];cases p with
 | pick l=>
  rw[show zF (.pick l)=("pick" : Str) from rfl];rw[if_pos rfl];rfl
 | one k r=>
  rw[show zF (.one k r)=("is" : Str) from rfl];rw[if_neg (kne (a := "is") (b := "pick") ψ),if_neg (kne (a := "is") (b := "table") ψ),if_neg (kne (a := "is") (b := "mask") ψ),if_neg (kne (a := "is") (b := "below") ψ),if_neg (kne (a := "is") (b := "within") ψ),if_pos rfl];rfl
 | wit k r=>
  rw[show zF (.wit k r)=("within" : Str) from rfl];rw[if_neg (kne (a := "within") (b := "pick") ψ),if_neg (kne (a := "within") (b := "table") ψ),if_neg (kne (a := "within") (b := "mask") ψ),if_neg (kne (a := "within") (b := "below") ψ),if_pos rfl];rfl
 | low k a b=>
  rw[show zF (.low k a b)=("below" : Str) from rfl];rw[if_neg (kne (a := "below") (b := "pick") ψ),if_neg (kne (a := "below") (b := "table") ψ),if_neg (kne (a := "below") (b := "mask") ψ),if_pos rfl];rfl
 | msk l r=>
  rw[show zF (.msk l r)=("mask" : Str) from rfl];rw[if_neg (kne (a := "mask") (b := "pick") ψ),if_neg (kne (a := "mask") (b := "table") ψ),if_pos rfl];rfl
 | tab=>
  rw[show zF .tab=("table" : Str) from rfl];rw[if_neg (kne (a := "table") (b := "pick") ψ),if_pos rfl];rfl
def pk(c:Int×Int):List Int:=[c.1,c.2]
def slc(ws:List Int)(i j:Nat):List Int:=(ws.drop i).take (j-i)
inductive Tr:List Int->Int->Prop
 | leaf (w:Int):Tr [w] 0
 | node {a b:List Int} {x y:Int}:Tr a x->Tr b y->Tr (a++b) ((a++b).sum+(x+y))
inductive PTr (ss:Sts)(ws:List Int):Nat->Nat->Pl->Int->Prop
 | leaf {i:Nat}:i<ss.length->PTr ss ws i (i+1) (.pick (fC ss i).2.2) 0
 | node {i k j:Nat} {a b:Pl} {x y:Int}:i<k->k<j->PTr ss ws i k a x->PTr ss ws k j b y->PTr ss ws i j (.low k a b) ((slc ws i j).sum+(x+y))
theorem BL(ws:List Int)(i j:Nat)(h1:i<=j)(h2:j<=ws.length):oE (ws.map At) (ID (i:Int)) (ID (j:Int))=(slc ws i j).map At:=by
 unfold oE slc;have e1:HT.sIx (ws.map At).length 0 (ID (i:Int))=i:=by
  rw[AC];simp only[HT.sIx];split <;> omega
 have e2:HT.sIx (ws.map At).length (ws.map At).length (ID (j:Int))=j:=by
  rw[AC];simp only[HT.sIx];split <;> omega
 rw[e1,e2,map_take,map_drop]
section
variable {X:Cx}
theorem Ln{pos:Pos}:QE X (.Dict [] [] pos) Uz:=⟨Wj⟩
end
def key2(a b:Int):List Key:=[IC a,IC b]
theorem W6{a b c d:Int}(h:key2 a b=key2 c d):a=c/\b=d:=by
 unfold key2 at h;simp only[List.cons.injEq,IC.injEq,and_true] at h;exact h
theorem j7.k2{H:Hp}{a t:IN}{kvs:List (List Key×V)}{x y:Int}{v:V}(e:H a=ID (.dT kvs))(eb:H t=ID (.tup [At x,At y]))(hv:gF kvs (key2 x y)=ID v):j7 H a (.ref t) (ID v):=by
 have:=j7.t (k:=key2 x y) e eb;rwa [hv] at this
theorem rT.k2{H:Hp}{a t:IN}{kvs:List (List Key×V)}{x y:Int}{v:V}(e:H a=ID (.dT kvs))(eb:H t=ID (.tup [At x,At y]))(hl:kvs.length<AN):rT H a (.ref t) v (upd H a (.dT (putK kvs (key2 x y) v))):=rT.t (k:=key2 x y) e eb hl
theorem rY{n:Nat}(h:n<=1000000):n<AN:=LF h δ
theorem mF{H H3:Hp}{bd:IN}{o:HO}(s:Same H H3)(hb:H bd=IF):Same H (upd H3 bd o):=λb u e=>by
 rw[aH (aB e hb)];exact s b u e
open PySem.W (Frag clsIn findIn takerIn InstAt looks_clsIn looks_findIn looks_takesIn Looks check_slot looks_mroIn mroIn set_plain osa_eq)
open Builtin Builtin.ObjectAttr
def vbm:List Ap:=[.type "ValueError",.type "Exception",.type "BaseException",.type "object"]
open PySem.W (Frag clsIn findIn takerIn InstAt looks_clsIn looks_findIn looks_takesIn Looks check_slot looks_mroIn mroIn handedIn handedOut_of)
structure XCls(K:AF)(C D N fI:IN):Prop where
 obj:∃nm q bs sn sub ab col dd k0 k1 k2 k3 k5,K.lookup C=ID (excClassObj nm q C N bs (.ref D::vbm) true sn sub ab col dd k0 k1 k2 k3 k5 "ValueError.__new__")
 tail:PySem.W.tailIn K vbm (.ref D::vbm)=true
 nsok:PySem.W.nsOkIn K N=true
 init:nsIn K N "__init__" = ID (ID (.ref fI))
 set:IL K (.ref C) "__setattr__" = ID (ID (.builtin "object.__setattr__"))
 ga:IL K (.ref C) "__getattribute__" = ID (ID (.builtin "BaseException.__getattribute__"))
 gk:IL K (.ref C) "__getattr__" = ID IF
abbrev TJ:=St->Hp->(Hp->Prop)->Prop
open PySem.W (Frag clsIn findIn takerIn InstAt looks_clsIn looks_findIn looks_takesIn looks_specialIn specialIn takesIn Looks check_slot looks_mroIn mroIn handedIn handedOut_of class_get KitX)
open Builtin
mutual
def noL:AU->Bool
 | .list _=>false
 | .tuple ds=>ady ds
 | _=>true
def ady:List AU->Bool
 | []=>true
 | d::ds=>noL d&&ady ds
end
theorem kO{ok:IN->Prop}{H:Hp}:∀gs:List Int,aG ok H (gs.map At) (gs.map AU.int)
 | []=>.nil
 | g::gs=>.cons (.int g) (kO gs)
theorem Xa{n j:Nat}(h:j<n):ixN n (j:Int)=ID j:=by
 unfold ixN;rw[if_pos ω,if_pos ω];rfl
def acr:Pl->Bool
 | .pick _=>true
 | .tab=>true
 | _=>false
def adJ(ss:Sts)(C:List (List Nat×Pl)):List (List Nat×Pl):=(C.map λx=>wu ss x.2 x.1).flatten
def W0(S:List (List Nat×Pl)):Nat->Bool
 | 0=>false
 | i+1=>match S[i]? with
  | some x=>acr x.2
  | none=>false
structure AhSt(ss:Sts)(S:List (List Nat×Pl))(tot:List (Nat×Nat))(i:Nat)(C:List (List Nat×Pl))(T:List Nat)(done:List (Nat×Nat)):Prop where
 fl:S.drop i=adJ ss C
 no:W0 S i=false->T.length+1=C.length/\tot=done++acC (C.map (·.2)) T i
 yes:W0 S i=true->T.length=C.length/\((C=[]/\tot=done)\/∃t T',T=t::T'/\tot=done++(t,i)::acC (C.map (·.2)) T' i)
theorem aJ.KY{ok:IN->Prop}{H:Hp}{x:V}{ds:List AU}(t:aJ ok H x (.tuple ds)):∃p xs,x=.ref p/\H p=ID (.tup xs)/\aG ok H xs ds:=by
 cases t with
 | tup o e z ts=>exact⟨_,_,rfl,e,ts⟩
def U6:Sp:=λvs H Q _=>∃(s l:V)(ok:IN->Prop)(ss:Sts)(left:List Nat),vs=[s,l]/\aJ ok H s (.list (ss.map stD))/\aJ ok H l (Eo left)/\Lf ss left /\
 ∀(a:IN),H a=IF->Q (.ref a) (upd H a (.lst ((left.map (lbl ss)).map At)))
def K6:Sp:=λvs H Q _=>∃(p:IN)(m B:Int),vs=[.ref p,.int m]/\bF H p B/\0<=B/\B<=900000/\1<=m/\m<=60 /\
 ∀(l:IN)(ss:Sts) H',bG p H H'->bF H' p (B+2000)->aJ (·≠p) H' (.ref l) (.list (ss.map stD))->(ss.length:Int)=m->KD ss->(∀s,ss[0]?=ID s->s.1<=10^9)->Q (.ref l) H'
section
variable {X:Cx}{e o:Expr}{te to:TE}{pos:Pos}
theorem Wo:OpR X (Ev .IsNot) (λx y H Q=>∃a b,x=.bl a/\y=.bl b/\Q (.bl (!decide (a=b))) H):=by
 intro pins s σ H x y v u Q I rx ry h;obtain⟨a,b,rfl,rfl,q⟩:=h;cases rx;cases ry;cases a <;> cases b <;> exact Au ⟨.bl _,H,I,rfl,q⟩
def ac4:R2:=λx y H Q=>∃(ok ok':IN->Prop)(d:AU),aJ ok H x d/\aJ ok' H y d/\d.canLay0=true/\d.depth<=100/\Q (.bl false) H
theorem Z1(hu:X.A.units+200<FO):OpR X (Ev .NotEq) ac4:=by
 intro pins s σ H x y v u Q I rx ry h;obtain⟨ok,ok',d,t1,t2,hc,hd,q⟩:=h;obtain⟨as,ra⟩:=t1.reads I rx;obtain⟨bs,rb⟩:=t2.reads I ry;refine SeqAt.rcNeAt_reads ra rb hc hc (by rw[Nat.min_self];omega) X.prog X.w X.xe (EP X pins σ Q) ⟨.bl false,H,I,?_,q⟩;rw[SeqAt.eqv_refl d hc];rfl
end
theorem j7.k'{H:Hp}{a:IN}{kvs:List (Key×V)}{k:Key}{v:V}(e:H a=ID (.dK kvs))(hv:gF kvs k=ID v):j7 H a (kV k) (ID v):=by
 rw[<- hv];exact j7.k e
theorem ln1{α:Type}{us:List α}(h:us.length=1):∃a,us=[a]:=by
 cases us with
 | nil=>cases h
 | cons a r=>
  cases r with
  | nil=>exact⟨a,rfl⟩
  | cons b r=>cases h
theorem ln2{α:Type}{us:List α}(h:us.length=2):∃a0 a1,us=[a0,a1]:=by
 cases us with
 | nil=>cases h
 | cons a0 r=>
  obtain⟨a1,rfl⟩:=ln1 (Nat.succ.inj h);exact⟨a0,a1,rfl⟩
theorem ln3{α:Type}{us:List α}(h:us.length=3):∃a0 a1 a2,us=[a0,a1,a2]:=by
 cases us with
 | nil=>cases h
 | cons a0 r=>
  obtain⟨a1,a2,rfl⟩:=ln2 (Nat.succ.inj h);exact⟨a0,a1,a2,rfl⟩
theorem ln4{α:Type}{us:List α}(h:us.length=4):∃a0 a1 a2 a3,us=[a0,a1,a2,a3]:=by
 cases us with
 | nil=>cases h
 | cons a0 r=>
  obtain⟨a1,a2,a3,rfl⟩:=ln3 (Nat.succ.inj h);exact⟨a0,a1,a2,a3,rfl⟩
theorem ln5{α:Type}{us:List α}(h:us.length=5):∃a0 a1 a2 a3 a4,us=[a0,a1,a2,a3,a4]:=by
 cases us with
 | nil=>cases h
 | cons a0 r=>
  obtain⟨a1,a2,a3,a4,rfl⟩:=ln4 (Nat.succ.inj h);exact⟨a0,a1,a2,a3,a4,rfl⟩
def tV(i:Nat):TE:=λσ H Q=>match σ[i]? with
 | some (ID x)=>Q x H
 | _=>False
theorem aaU{i:Nat}{σ:St}{H:Hp}{Q:VK}(h:tV i σ H Q):Uo i σ H Q:=by
 unfold tV at h;split at h
 ·rename_i x e;exact⟨x,e,h⟩
 exact h.elim
section
variable {X:Cx}{i:Nat}{x:Str}{pos:Pos}
theorem ao(h:Nm X.N X.env.scope i x):QE X (.Name x pos) (tV i):=⟨λpins s σ H Q I q=>(ad2 h).h pins s σ H Q I (aaU q)⟩
theorem aQ(i:Nat){x:Str}{pos:Pos}(hN:X.N[i]?=ID x:=by rfl)(hv:Vis X.env.scope x:=by first|exact B8 rfl|exact IP (B8 Z)|exact IP (IP Z))(hd:(x == ("__debug__" : Str))=false:=by decide)
  (hcd:(x == ("__classdict__" : Str))=false:=by decide):QE X (.Name x pos) (tV i):=⟨λpins s σ H Q I q=>(ad1 i hN hv hd hcd).h pins s σ H Q I (aaU q)⟩
end
def atq(o:Option V)(H:Hp)(Q:VK):Prop:=∃v,o=ID v/\Q v H
theorem X8(v:V)(H:Hp)(Q:VK):atq (ID v) H Q=Q v H:=propext ⟨λ⟨_,e,h⟩=>by cases e;exact h,λh=>⟨v,rfl,h⟩⟩
theorem W9(xs:List V)(i:Int)(H:Hp)(Q:VK):ixq (ID (.lst xs)) i H Q=atq (atI xs i) H Q:=rfl
theorem W8(xs:List V)(i:Int)(H:Hp)(Q:VK):ixq (ID (.tup xs)) i H Q=atq (atI xs i) H Q:=rfl
theorem acE{b:Bool}{P:Bool->Prop}:(∃k,As b=As k/\P k)=P b:=propext ⟨λ⟨_,e,h⟩=>by cases e;exact h,λh=>⟨b,rfl,h⟩⟩
theorem aaE{a:Int}{P:Int->Prop}:(∃k,At a=At k/\P k)=P a:=propext ⟨λ⟨_,e,h⟩=>by cases e;exact h,λh=>⟨a,rfl,h⟩⟩
theorem aaD{a b:Int}{P:Int->Int->Prop}:(∃i j,At a=At i/\At b=At j/\P i j)=P a b:=propext ⟨λ⟨_,_,e,f,h⟩=>by cases e;cases f;exact h,λh=>⟨a,b,rfl,rfl,h⟩⟩
theorem aaC{a b:V}{P:V->V->Prop}:(∃i j,[a,b]=[i,j]/\P i j)=P a b:=propext ⟨λ⟨_,_,e,h⟩=>by cases e;exact h,λh=>⟨a,b,rfl,h⟩⟩
def ry0:=AE @Q9.eq_1 (AE @Ij.eq_1 (AE @tOp.eq_1 (AE @rI.eq_1 (AE @rI0.eq_1 (AE @rU.eq_1 (AE @tUn.eq_1 (AE @tC.eq_1 (AE @Uq.eq_1 (AE @zJ.eq_1 (AE @xu.eq_1 (AE @K4.eq_1 (AE @tCB.eq_1 (AE @tIf.eq_1 (AE @UJ.eq_1 (AE @abe.eq_1 (AE @Ut.eq_1 (AE @Ra.eq_1 (AE @K3.eq_1 (AE @rM.eq_1 (AE @gb.eq_1 (AE @aax.eq_1 (AE @SN (AE @aav (AE @Jm (AE @Vv (AE @Vx (AE @Y9 (AE @Fw.eq_1 (AE @aay @acA)))))))))))))))))))))))))))))
def ry1:=AE @zZ (AE @Rr (AE @Rt (AE @YT (AE @W9 (AE @W8 (AE @Yw (AE @aan (AE @aam (AE Xb.1 (AE Xb.2.1 (AE Xb.2.2 (AE @adP (AE @adO (AE @adN (AE @aD (AE @VF (AE @VB (AE @acw (AE @aaq (AE @W7 (AE @acp (AE @aco (AE @kc_bool (AE @ty_int (AE @acV (AE @ty_str (AE @aa9 (AE @aa8 (AE @Yr (AE @Yq (AE @wF (AE @yE (AE @yD (AE @wD (AE @vf (AE @Gi (AE @Je @Jd)))))))))))))))))))))))))))))))))))))
def ry2:=AE @Gh (AE @CJ (AE @Jc (AE @Le (AE @Ld (AE @Jb (AE @Gg (AE @IW (AE @Lb (AE @La (AE @IV (AE @Gd (AE @Gf (AE @Ja (AE @Ge (AE @CG (AE @Cz (AE @Gb (AE @Cy (AE @zV (AE @Bool.or_false (AE @Bool.or_self (AE @Bool.or_true (AE @He (AE @LG (AE @L8 (AE @decide_true (AE @Il.eq_1 (AE @rEq.eq_1 (AE @rNe.eq_1 @Y8)))))))))))))))))))))))))))))
def ry3:=AE @Y7 (AE @abu (AE @abv (AE @Rq (AE @Yz (AE @Uu.eq_1 (AE @abd.eq_1 (AE @Vd (AE @YF (AE @Vb (AE @Vc (AE @Uc.eq_1 (AE @acS.eq_1 (AE @aa4.eq_1 (AE @L2.start.eq_1 (AE @DJ.{0,0} (AE @map_nil.{0,0} (AE @EX.{0} (AE @length_nil.{0} (AE @cons_append.{0} (AE @nil_append.{0} (AE @GI.{0} (AE @List.replicate_zero.{0} (AE @ED.{0} (AE @IR.{0} @Kx.{0}))))))))))))))))))))))))
def ry4:=AE @Hm.{0} (AE @set_cons_succ.{0} (AE @sub_self (AE @Option.some.injEq.{0} (AE @exists_eq_left'.{1} (AE @Xu (AE @V.int.injEq (AE @V.str.injEq (AE @V.bl.injEq (AE @V.ref.injEq (AE @List.cons.injEq.{0} (AE @and_true (AE @true_and (AE @exists_and_left.{1} (AE @decide_eq_true_eq (AE @UG (AE @Kz (AE @Hi (AE @wg (AE @Vr (AE @YC (AE @tSl.eq_1 (AE @Fx.eq_1 (AE @Us.eq_1 @YQ)))))))))))))))))))))))
def ry5:=AE @YS (AE @YH (AE @Y0 (AE @Y4 (AE @YX (AE @YZ (AE @JZ (AE @Hg (AE @Hf (AE @aas (AE @Xg (AE @aa7 (AE @aa6 (AE @aa5 (AE @abh.eq_1 @ipI.eq_1))))))))))))))
def ry6:=AE @X8 (AE @acE (AE @aaE (AE @aaD @aaC)))
def rdy:=AE ry0 (AE ry1 (AE ry2 (AE ry3 (AE ry4 (AE ry5 (AE ry6 @tV.eq_1))))))
theorem acG{K:AF}{h:Heap}{mg:Str->Option Ap}{x:Str}{st:Stmt}{ps:List Str}{f:IN}{oc:Ap}{od an:Option IN}{osl:Array (Option Ap)}{kV doc pm cdv ct:Ap}(X:K.In h)(G:h.Ns Co mg)(a:nsIn K Co x=ID (ID (.ref f)))
  (l:K.lookup f=ID ⟨oc,od,.func (fnOf x x (iD st) (fG st) (aj st) .none kV doc pm an cdv ct),osl⟩)(c:codeIn K cdv x=true)(k:keepIn K (.ref f)=true)
  (hb:∀(kV doc pm:Ap)(an:Option IN)(cdv ct:Ap)(us:List Ap),us.length=ps.length->bindArgs (fnOf x x (iD st) (fG st) (aj st) .none kV doc pm an cdv ct) ⟨us,[]⟩=pure (ps.zip us)):Yk K mg x st ps f (fnOf x x (iD st) (fG st) (aj st) .none kV doc pm an cdv ct):=
 ⟨Xm (st:=st) l c k,(Xm (st:=st) l c k).binds hb,mg_of X G a⟩
end L2
set_option maxHeartbeats 4100000
namespace SRT
open PySem PyProof.Rows
def Ris(xs:Array Nat):Prop:=xs.toList.Pairwise (· < ·)
theorem Ris.lt{xs:Array Nat}(h:Ris xs){i k x y:Nat}(hx:xs[i]?=ID x)(hy:xs[k]?=ID y)(hik:i<k):x<y:=by
 rw[<- DH] at hx hy;obtain⟨h1,rfl⟩:=AI.mp hx;obtain⟨h2,rfl⟩:=AI.mp hy;exact IX.mp h i k h1 h2 hik
theorem aaw{xs:Array Nat}(hr:Ris xs)(j:Nat):∀fuel lo hi,hi-lo<=fuel->lo<=hi->hi<=xs.size->(∀i x,xs[i]?=ID x->i<lo->x<j)->(∀i x,xs[i]?=ID x->hi<=i->j<=x) ->
  (∀i x,xs[i]?=ID x->(i<AW.below.go xs j fuel lo hi↔x<j))/\AW.below.go xs j fuel lo hi<=xs.size:=by
 intro fuel
 induction fuel with
 | zero=>
  intro lo hi h1 h2 h3 h4 h5;have e:hi=lo:=ω;subst e;refine⟨λi x hx=>⟨λhl=>h4 i x hx hl,λhl=>?_⟩,h3⟩;show i<hi;refine Nat.lt_of_not_le λhle=>?_;have:=h5 i x hx hle;omega
 | succ fuel ih=>
  intro lo hi h1 h2 h3 h4 h5;show(∀i x,xs[i]?=ID x->(i<(if lo<hi then if xs.getD ((lo+hi)/2) j<j then AW.below.go xs j fuel ((lo+hi)/2+1) hi else AW.below.go xs j fuel lo ((lo+hi)/2) else lo)↔x<j))/\(if lo<hi then if xs.getD ((lo+hi)/2) j<j then AW.below.go xs j fuel ((lo+hi)/2+1) hi else AW.below.go xs j fuel lo ((lo+hi)/2) else lo)<=xs.size;by_cases hl:lo<hi
  ·rw[if_pos hl];have hm:(lo+hi)/2<xs.size:=ω;have hg:xs[(lo+hi)/2]?=ID xs[(lo+hi)/2]:=by simp[hm]
   have hd:xs.getD ((lo+hi)/2) j=xs[(lo+hi)/2]:=by simp[Array.getD,hm]
   rw[hd];by_cases hc:xs[(lo+hi)/2]<j
   ·rw[if_pos hc];refine ih _ _ ω ω h3 (λi x hx hi'=>?_) h5;by_cases e:i=(lo+hi)/2
    ·subst e;rw[hg] at hx;cases hx;exact hc
    exact lt_trans (hr.lt hx hg ω) hc
   rw[if_neg hc];refine ih _ _ ω ω ω h4 (λi x hx hi'=>?_);by_cases e:i=(lo+hi)/2
   ·subst e;rw[hg] at hx;cases hx;omega
   have:=hr.lt hg hx ω;omega
  rw[if_neg hl];have e:hi=lo:=ω;subst e;refine⟨λi x hx=>⟨λhl=>h4 i x hx hl,λhl=>?_⟩,h3⟩;refine Nat.lt_of_not_le λhle=>?_;have:=h5 i x hx hle;omega
theorem uM{xs:Array Nat}(hr:Ris xs)(j:Nat):(∀i x,xs[i]?=ID x->(i<AW.below xs j↔x<j))/\AW.below xs j<=xs.size:=by
 unfold AW.below;refine aaw hr j _ _ _ ω ω (AV _) (λ_ _ _ h=>absurd h ω) λi x hx hi=>?_;have:=(Array.getElem?_eq_some_iff.mp hx).1;omega
theorem Ku{xs:Array Nat}(hr:Ris xs){j:Nat}(hn:xs[AW.below xs j]?≠ID j):∀x∈xs.toList,x≠j:=by
 intro x hx e;subst e;obtain⟨i,hi,e⟩:=FB.mp hx;have hg:xs[i]?=ID x:=by rw[<- DH,AD hi,e]
 have hs:=uM hr x;have h1:=(hs.1 i x hg);have h2:AW.below xs x<=i:=by
  refine Nat.le_of_not_lt λh=>?_;exact ES _ (h1.mp h)
 rcases FU (AW.below xs x) i with h|h
 ·have hi':i<xs.size:=by simpa using hi
  have hb:AW.below xs x<xs.size:=ω;have hgb:xs[AW.below xs x]?=ID xs[AW.below xs x]:=by simp[hb]
  have l1:=hr.lt hgb hg h;have:=(hs.1 _ _ hgb).mpr l1;omega
 have e:AW.below xs x=i:=ω;rw[e] at hn;exact hn hg
theorem CW{α:Type}(xs:Array α)(p:Nat)(x:α):(AW.insertAt xs p x).toList=xs.toList.take p++x::xs.toList.drop p:=by
 unfold AW.insertAt;simp[Array.toList_extract,List.extract,Ex]
theorem Lh{xs:Array Nat}(hr:Ris xs){j:Nat}(hn:xs[AW.below xs j]?≠ID j):Ris (AW.insertAt xs (AW.below xs j) j):=by
 have hs:=uM hr j;have hne:=Ku hr hn;show(AW.insertAt xs (AW.below xs j) j).toList.Pairwise (· < ·);rw[CW];have hx:xs.toList.Pairwise (· < ·):=hr;rw[LH,DU];refine⟨hx.sublist (List.take_sublist _ _),⟨λy hy=>?_,hx.sublist (List.drop_sublist _ _)⟩,λa ha b hb=>?_⟩
 ·obtain⟨i,hi,e⟩:=FB.mp hy;rw[List.getElem_drop] at e;have hl:AW.below xs j+i<xs.toList.length:=by rw[Gc] at hi;omega
  have hg:xs[AW.below xs j+i]?=ID y:=by rw[<- DH,AD hl,e]
  have h1:=hs.1 _ _ hg;have h2:=hne y (List.mem_of_mem_drop hy);have:¬(y<j):=λh=>by have:=h1.mpr h;omega
  omega
 have l1:a<j:=by
  obtain⟨i,hi,e⟩:=FB.mp ha;rw[List.getElem_take] at e;have hl:i<AW.below xs j/\i<xs.toList.length:=by rw[FS] at hi;omega
  have hg:xs[i]?=ID a:=by rw[<- DH,AD hl.2,e]
  exact(hs.1 _ _ hg).mp hl.1
 rcases A3.mp hb with rfl|hb
 ·exact l1
 obtain⟨i,hi,e⟩:=FB.mp hb;rw[List.getElem_drop] at e;have hl:AW.below xs j+i<xs.toList.length:=by rw[Gc] at hi;omega
 have hg:xs[AW.below xs j+i]?=ID b:=by rw[<- DH,AD hl,e]
 have h1:=hs.1 _ _ hg;have:¬(b<j):=λh=>by have:=h1.mpr h;omega
 omega
def TOk(b:Bool)(t:AW):Prop:=Ris t.place/\t.dummies=#[]/\t.led=b
theorem Q5{b:Bool}{t:AW}(h:TOk b t)(p:Bool):TOk b { t with plain:=p }:=h
theorem Rm(n:Nat):Ris (Array.range n):=by
 show(Array.range n).toList.Pairwise (· < ·);rw[Array.toList_range];exact GO
theorem lK{b:Bool}{t:AW}(h:TOk b t)(n:Nat):TOk b (t.standIn n):=⟨Rm n,rfl,h.2.2⟩
theorem Cv{b:Bool}{t:AW}(h:TOk b t)(n:Nat):TOk b (t.orStandIn n):=by
 unfold AW.orStandIn;split
 ·exact h
 exact lK h n
theorem Dw(f m:Nat)(b:Bool):TOk b (AW.fresh f m b):=⟨GL,rfl,rfl⟩
theorem Lr{t:AW}(hd:t.dummies=#[]){f:Nat->Int}{h:Int}(hf:∀i,(f i == h)=false):∀(fuel:Nat)(p:AW.Probe),p.dummy=IF ->
  ∀m,AW.probe.go t f h fuel p=ID m->∃j,m=.empty j IF/\t.place[AW.below t.place j]?≠ID j:=by
 intro fuel
 induction fuel with
 | zero=>intro p _ m e;exact absurd e (by simp[AW.probe.go])
 | succ fuel ih=>
  intro p hp m e;unfold AW.probe.go at e;have hnd:∀j,AW.has t.dummies j=false:=λj=>by rw[hd];simp[AW.has]
  have hadv:∀q:AW.Probe,q.dummy=IF->(t.advance q).dummy=IF:=λq hq=>by
   unfold AW.advance;split
   ·exact hq
   exact hq
  split at e
  ·rename_i hs;cases e;refine⟨p.j,by rw[hp],λhc=>?_⟩;unfold AW.slot at hs;simp[hc] at hs
  ·rename_i hs;unfold AW.slot at hs;dsimp only at hs;split at hs
   ·cases hs
   rw[hnd] at hs;simp at hs
  rw[hf,if_neg ζ] at e;exact ih _ (hadv _ hp) m e
theorem J7{t:AW}(hd:t.dummies=#[]){h:Int}{j:Nat}{b:Bool}(e:t.freeSlot h=ID (j,b)):t.place[AW.below t.place j]?≠ID j:=by
 unfold AW.freeSlot AW.probe at e;split at e
 ·rename_i j' d hp;obtain⟨j2,e2,hn⟩:=Lr hd (f:=λ_=>h+1) (h:=h) (λi=>by simp;omega) _ _ Z _ hp;cases e2;simp at e;rw[<- e.1];exact hn
 cases e
theorem Ni{b:Bool}{t:AW}(ht:TOk b t)(es:Array (Int×Ap))(h:Int)(x:Ap):TOk b (layNew t es h x).2.1:=by
 unfold layNew;split
 ·rename_i slot wd hs;have hn:=J7 ht.2.1 hs;refine Cv ?_ _;unfold AW.put;refine⟨Lh ht.1 hn,?_,ht.2.2⟩;show(if AW.has t.dummies slot=true then AW.eraseAt t.dummies (AW.below t.dummies slot) else t.dummies)=#[];rw[ht.2.1];rfl
 exact lK ht _
theorem Gm{b:Bool}{t:AW}(ht:TOk b t)(es:Array (Int×Ap))(n:Nat):TOk b (relayAll t es n).2.1:=by
 unfold relayAll;split
 ·rename_i t' order hr;dsimp only;split
  ·unfold AW.relaid AW.laid at hr;cases ho:AW.layClean (AW.sizeAbove n-1) (es.map (·.1)) with
   | none=>rw[ho] at hr;cases hr
   | some owner=>
    rw[ho] at hr;simp only[Option.bind_eq_bind,Option.bind_some,Option.pure_def,Option.some.injEq,Prod.mk.injEq] at hr;obtain⟨rfl,-⟩:=hr;refine⟨?_,rfl,ht.2.2⟩;show(IM _ _).toArray.toList.Pairwise (· < ·);rw[List.toList_toArray,KS,List.pairwise_filterMap];refine GO.imp λ{a c} hac p hp q hq=>?_;simp only[BG] at hp hq;obtain⟨_,_,rfl⟩:=hp;obtain⟨_,_,rfl⟩:=hq;exact hac
  exact lK ht _
 exact lK ht _
end SRT
namespace SRT
open PySem PyProof.Rows
section
variable {prog:A1}{w:BD}{K:Type}[DecidableEq K]
def SetT(knd:KeyKind prog w K)(b:Bool)(h:Heap)(a:IN)(S:K->Bool)(n:Nat):Prop:=
 ∃o es ep t,h.get? a=ID o/\o.ExactSet/\o.data=.set es ep t/\(ElemsOf knd es.toList/\(∀k,S k=true ↔ ∃e∈es.toList,knd.is k e.2=true)/\es.size<FG)/\t.fits es.size=true/\es.size=n/\TOk b t
variable {knd:KeyKind prog w K}{A:BA}{E:Ap->AA->Prop}{s:AA}{b:Bool}
theorem SetT.get{h h':Heap}{a:IN}{S:K->Bool}{n:Nat}(hS:SetT knd b h a S n)(hk:∀o,h.get? a=ID o->h'.get? a=ID o):SetT knd b h' a S n:=
 let ⟨o,es,ep,t,ho,r⟩:=hS;⟨o,es,ep,t,hk o ho,r⟩
theorem SetT.congr{h:Heap}{a:IN}{S S':K->Bool}{n n':Nat}(hS:SetT knd b h a S n)(e:∀k,S k=S' k)(en:n=n'):SetT knd b h a S' n':=by
 have:S=S':=funext e;subst this;subst en;exact hS
theorem Ea{h:Heap}{a:IN}{o:Obj}{es:Array (Int×Ap)}{ep:Nat}{t:AW}(ho:h.get? a=ID o)(hex:o.ExactSet)(hd:o.data=.set es ep t)
  {es':Array (Int×Ap)}{t':AW}{S':K->Bool}(hel:ElemsOf knd es'.toList/\(∀k,S' k=true ↔ ∃e∈es'.toList,knd.is k e.2=true)/\es'.size<FG)(hf:t'.fits es'.size=true)(ht:TOk b t') :
  (h.update a (Obj.putSet es' t')).get? a=ID { o with data:=.set es' (ep+1) t' }/\SetT knd b (h.update a (Obj.putSet es' t')) a S' es'.size:=by
 have hg:(h.update a (Obj.putSet es' t')).get? a=ID { o with data:=.set es' (ep+1) t' }:=by
  have q:=G0 (Obj.putSet es' t') ho (by rw[putSet_of es' t' hd];rfl);rw[putSet_of es' t' hd] at q;exact q
 exact⟨hg,_,es',ep+1,t',hg,hex,rfl,hel,hf,rfl,ht⟩
theorem KC{g:Bool->Sem Unit}(hg:∀(c:Bool)(s₁:AA)(Q':Unit->AA->Prop),Q' () s₁->AH (AM prog w) A (g c) Q' E s₁)
  {a:IN}{o:Obj}{es:Array (Int×Ap)}{ep:Nat}{t:AW}(ho:s.heap.get? a=ID o)(hex:o.ExactSet)(hd:o.data=.set es ep t)
  {es1:Array (Int×Ap)}{t2:AW}{S':K->Bool}(hel:ElemsOf knd es1.toList/\(∀k,S' k=true ↔ ∃e∈es1.toList,knd.is k e.2=true)/\es1.size<FG)
  (hf:t2.fits es1.size=true)(ht:TOk b t2){wd:Bool}{R:Option Bool->AA->Prop}
  (h:∀h',B0 a s.heap h'->SetT knd b h' a S' es1.size->R (ID true) { s with heap:=h' }) :
  AH (AM prog w) A (storeSet a es1 t2 >>= λ_=>if (!wd&&t2.tooFull)=true then (g (relayAll t2 es1 (AW.grown es1.size)).2.2 >>= λ_=>storeSet a (relayAll t2 es1 (AW.grown es1.size)).1 (relayAll t2 es1 (AW.grown es1.size)).2.1 >>= λ_=>pure (ID true)) else pure (ID true)) R E s:=by
 refine An (wpAny_storeSet_of ho hd ?_ (fits_of_scanBound hel.2.2));obtain⟨ho1,hS1⟩:=Ea (knd:=knd) ho hex hd hel hf ht;have hsb1:=B0.update s.heap a (Obj.putSet es1 t2);by_cases hc:(!wd&&t2.tooFull)=true
 ·rw[if_pos hc];have hp:=relayAll_perm t2 es1 (AW.grown es1.size);have hfr:=relayAll_fits t2 es1 (AW.grown es1.size);have htr:=Gm ht es1 (AW.grown es1.size);generalize relayAll t2 es1 (AW.grown es1.size)=Rl at hp hfr htr |-;obtain⟨es2,t3,gv⟩:=Rl;dsimp only at hp hfr htr |-;have hsz:es2.size=es1.size:=by rw[<- D6,hp.length_eq,D6]
  have hel2:ElemsOf knd es2.toList/\(∀k,S' k=true ↔ ∃e∈es2.toList,knd.is k e.2=true)/\es2.size<FG:=
   ⟨hel.1.perm hp,λk=>(hel.2.1 k).trans ⟨λ⟨e,he,q⟩=>⟨e,hp.mem_iff.mpr he,q⟩,λ⟨e,he,q⟩=>⟨e,hp.mem_iff.mp he,q⟩⟩,by rw[hsz];exact hel.2.2⟩
  refine An (hg _ _ _ (An (wpAny_storeSet_of ho1 Z ?_ (fits_of_scanBound hel2.2.2))));obtain⟨_,hS2⟩:=Ea (knd:=knd) ho1 hex Z hel2 hfr htr;rw[hsz] at hS2;exact Au (h _ (hsb1.trans (B0.update _ a _)) hS2)
 rw[if_neg hc];exact Au (h _ hsb1 hS1)
theorem Iv{a:IN}{S:K->Bool}{n:Nat}{k:K}{x:Ap}{Q:Bool->AA->Prop}(hkey:knd.is k x=true)(hsc:x.scannable=true)(hS:SetT knd b s.heap a S n)(hroom:n+1<FG)
  (h:∀h',B0 a s.heap h'->SetT knd b h' a (λk'=>S k'||decide (k'=k)) (if S k then n else n+1)->Q (!S k) { s with heap:=h' }) :
  AH (AM prog w) A (setAddHashed a x (knd.hash k)) Q E s:=by
 obtain⟨o,es,ep,t,ho,hex,hd,hel,hf,hn,ht⟩:=hS;unfold setAddHashed setAddHashedIn;refine Ct (An (wpAny_setState_of ho hd hf ?_));dsimp only;rw[byScan_of hsc hel.2.2 hel.1,if_pos rfl];unfold setAddByScan;refine An (An (Da (An (wpAny_setScan_of hkey ho hd hf hel.1 ?_))));cases hr:List.findIdx? (λe=>knd.is k e.2) es.toList with
 | some j=>
  dsimp only;obtain⟨hj,hpj,_⟩:=List.findIdx?_eq_some_iff_getElem.mp hr;have hSk:S k=true:=(hel.2.1 k).mpr ⟨es.toList[j],D7 hj,hpj⟩;refine Au (Au ?_);have q:=h s.heap (B0.refl a s.heap) ⟨o,es,ep,t,ho,hex,hd,⟨hel.1,λk'=>by
   rw[or_eq_true,decide_eq_true_eq,<- hel.2.1 k'];exact⟨λhk=>hk.elim id (λe=>e ▸ hSk),.inl⟩,hel.2.2⟩,hf,by rw[hSk];exact hn,ht⟩
  rw[hSk] at q;exact q
 | none=>
  dsimp only;have hSk:S k=false:=by
   cases hk:S k with
   | false=>rfl
   | true=>
    obtain⟨e,he,hp⟩:=(hel.2.1 k).mp hk;have q:=List.findIdx?_eq_none_iff.mp hr e he;rw[hp] at q;exact Bool.noConfusion q
  have hgw:∀(c:Bool){s₁:AA}{Q':Unit->AA->Prop},Q' () s₁->AH (AM prog w) A (match c with|true=>rule "set.scan.the-table-gave-way" | false=>pure ()) Q' E s₁:=
   λc s₁ Q' hq=>by cases c <;> first|exact Au hq|exact Da hq
  have hperm:=layNew_perm t es (knd.hash k) x;have hfits:=layNew_fits t es (knd.hash k) x;have htok:=Ni ht es (knd.hash k) x;generalize layNew t es (knd.hash k) x=L at hperm hfits htok |-;obtain⟨es1,t1,wd,gv⟩:=L;dsimp only at hperm hfits htok |-;rw[toList_push] at hperm;have hsz1:es1.size=n+1:=by rw[<- D6,hperm.length_eq,A0,D6,hn];rfl
  have hel1:ElemsOf knd es1.toList/\(∀k',(S k'||decide (k'=k))=true ↔ ∃e∈es1.toList,knd.is k' e.2=true)/\es1.size<FG:=
   ⟨(hel.1.push hkey hsc).perm hperm,mem_push_iff hkey hel.2.1 hperm,by rw[hsz1];exact hroom⟩
  have hend:∀h',B0 a s.heap h'->SetT knd b h' a (λk'=>S k'||decide (k'=k)) es1.size->Q true { s with heap:=h' }:=by
   intro h' hsb hS';have q:=h h' hsb;rw[hSk] at q;rw[hsz1] at hS';exact q hS'
  refine An (hgw _ ?_);by_cases hpl:t1.plain=true
  ·rw[if_pos hpl,hashByValue_scannable 8 hsc];refine An (Au ?_);refine KC (b:=b) ?_ ho hex hd hel1 (t2:=if plainKind x=true then t1 else { t1 with plain:=false }) ?_ ?_ ?_
   ·intro c s₁ Q' hq;cases c <;> first|exact Au hq|exact Da hq
   ·split
    ·exact hfits
    exact AW.fits_plain_off hfits
   ·split
    ·exact htok
    exact Q5 htok false
   intro h' hsb hS';dsimp only;exact Au (hend h' hsb hS')
  rw[if_neg hpl];refine An (Au ?_);refine KC (b:=b) ?_ ho hex hd hel1 hfits htok ?_
  ·intro c s₁ Q' hq;cases c <;> first|exact Au hq|exact Da hq
  intro h' hsb hS';dsimp only;exact Au (hend h' hsb hS')
end
end SRT
namespace SRT
open PySem PyProof.Rows
abbrev bt(w:BD):Bool:=w.params.followText "set-order"
section
variable {prog:A1}{w:BD}{A:BA}{R:Result->AA->Prop}{I:IN}{fp wr:List IN}{G:Array GenState->Array GenState->Prop}{n:Nat}{P:Nat->Ap->Prop}{St:Nat->AA->Prop}{b:Bool}
theorem Uh(W:WalksS prog w A.in1 I fp wr G n P St)(S:IN)(hSf:S∉fp)(val:Nat->Int)(hval:∀i v,P i v->∃t,v=.int (val i) t)(hb:n+1<FG) :
  ∀(k i:Nat)(s:AA),n-i=k->i<=n->St i s->SetT (FH prog w) b s.heap S (λk'=>(FC val i).any (· == k')) (FC val i).length ->
   (∀s',Moved (S::wr) G s s'->SetT (FH prog w) b s'.heap S (λk'=>(FC val n).any (· == k')) (FC val n).length->R (.ok (.ret .none)) s') ->
   DF (AM prog w) A (.builtin "set.update.loop" ⟨[.ref S,.ref I],[]⟩) R s:=by
 have hSw:S∉wr:=λh=>hSf (W.sub _ h);have hsub:∀c∈wr,c∈S::wr:=λc hc=>Bi _ hc;intro k
 induction k with
 | zero=>
  intro i s hk hi hst hS hR;have hin:i=n:=ω;subst hin;refine D2 F.entry_set_update_loop ?_;rw[BA.under_plainId KA _];show AH _ A.in1 (EF (.ref I) >>= _) _ _ s;refine An (W.done s _ _ hst λs' hm=>?_);show AH _ A.in1 (ret Ap.none) _ _ s';exact Au (hR s' (hm.mono hsub) (hS.get λo e=>hm.heap S _ hSw e))
 | succ k ih=>
  intro i s hk hi hst hS hR;have hlt:i<n:=ω;refine D2 F.entry_set_update_loop ?_;rw[BA.under_plainId KA _];show AH _ A.in1 (EF (.ref I) >>= _) _ _ s;refine An (W.item i s _ _ hlt hst λv s' hP hst' hm=>?_);obtain⟨t,rfl⟩:=hval i v hP;have hS':=hS.get λo e=>hm.heap S _ hSw e;show AH _ A.in1 (GB [EQ (val i) t] (setAdd S (.int (val i) t)) >>= _) _ _ s';refine An (Ct ?_);unfold setAdd;refine Ct (An ((FH prog w).pyHash (k:=val i) (intKind_is _ _ _ _) ?_));have hroom:(FC val i).length+1<FG:=by have:=firstMet_length_le val i;omega
  refine Iv (knd:=FH prog w) (s:={ s' with toks:=s'.toks+1 }) (intKind_is _ _ _ _) Z hS' hroom λh' hsb hS2=>?_;have hSi:SetT (FH prog w) b h' S (λk'=>(FC val (i+1)).any (· == k')) (FC val (i+1)).length:=
   hS2.congr (λk'=>by rw[firstMet_succ,step_any]) (by rw[firstMet_succ,step_length])
  refine Au ⟨Hn KA _,ih (i+1) _ ω hlt (W.frame _ s' _ _ hst' (le_succ _) λc hc o e=>?_) hSi λs'' hm'' hS''=>?_⟩
  ·rw[hsb.2 c (λh:c=S=>hSf (by rw[<- h];exact hc))];exact e
  refine hR s'' (Moved.trans W.gtrans ((hm.mono hsub).then_heap (le_succ _) λc o hc e=>?_) hm'') hS'';rw[hsb.2 c (λh:c=S=>hc (by rw[h];exact A5))];exact e
end
abbrev uY(w:BD):Obj:={ cls:=.type "set",dict:=IF,data:=.set #[] 0 (.fresh 0 0 (!bt w)) }
section
variable {prog:A1}{w:BD}{A:BA}{E:Ap->AA->Prop}{s:AA}
theorem Tf(a:Ap){Q₁:Ap->AA->Prop}(h:Q₁ (.ref s.heap.objs.size) { s with heap:=s.heap.push (uY w) }) :
  DF (AM prog w) A (.call (.builtin "set.__new__") ⟨[.type "set",a],[]⟩) (wants Q₁ E) s:=by
 refine F5 (show AH _ A.in1 (checkBuiltinCall "set.__new__" ⟨[.type "set",a],[]⟩ >>= λ_=>ER (.builtin "set.__new__" ⟨[.type "set",a],[]⟩)) _ _ s from ?_);refine An (CU (F.newCall_set_1 a) (Au ⟨Hn F.plain_set_new _,D2 F.entry_set_new ?_⟩));rw[BA.under_plainId F.plain_set_new _];unfold AR.«set.__new__» AR.Frozenset.newClass;have hsub:=sub_set_self;obtain⟨hp,g,d,tk,os⟩:=s;dsimp only
 wp_walk
 refine D4 (Au ?_);dsimp only;simp only[newObj];exact An (wpAny_alloc (Au (Au h)))
set_option maxHeartbeats 3200000 in
theorem Tj{l:IN}{items:Array Ap}{ns:List Int}{Q:Ap->AA->Prop}(hh:A.handled=IF)(hl:s.heap.IsList l items)(hi:E5 items.toList ns)(hb:items.size+1<FG)
   (h:∀(h':Heap)(tk:Nat),SetT (FH prog w) (!bt w) h' s.heap.objs.size (λk'=>(FC (λi=>ns.getD i 0) items.size).any (· == k')) (FC (λi=>ns.getD i 0) items.size).length ->
   (∀c o,c<s.heap.objs.size->s.heap.get? c=ID o->h'.get? c=ID o)->Q (.ref s.heap.objs.size) { s with heap:=h',toks:=tk }) :
  AH (AM prog w) A (call (.type "set") [.ref l]) Q E s:=by
 obtain⟨c,tl,hmro⟩:=F3.mro;have hmade:=F3.made;have hsub:=F3.sub;refine wpAny_call (F5 (show AH _ _ (callAny (.type "set") _) _ _ _ from Au ⟨Code.quiet_builtin _ ψ,D2 F.entry_type_call ?_⟩));rw[BA.under_plain (Lu "set" [.ref l] []) rfl];have h1:=F3.notType;have h2:=F3.canCreate;have hct:=F.typeCall_set_1 (.ref l)
 repeat (any_goals (first|assumption|wp_step))
 refine IE (Tf (.ref l) (E:=E) (Q₁:=λobj s₁=>obj=.ref s.heap.objs.size/\s₁={ s with heap:=s.heap.push (uY w) }) ⟨rfl,rfl⟩) λr s₁ hr=>?_;cases r with
 | error e=>exact hr
 | ok fl=>
  cases fl with
  | ret obj=>
   obtain⟨rfl,rfl⟩:=hr;have hS:(s.heap.push (uY w)).get? s.heap.objs.size=ID (uY w):=AO _ rfl;have hT:AA.TypeIs { s with heap:=s.heap.push (uY w) } (.ref s.heap.objs.size) "set" := ⟨_,hS,rfl⟩;have hli:=F3.init.lookup;have hbi:=F3.init.bind (.ref s.heap.objs.size)
   repeat (any_goals (first|assumption|wp_step))
   refine IE (FY (R:=wants (λr s₂=>r=.none/\∃h' tk,s₂={ s with heap:=h',toks:=tk } /\
     SetT (FH prog w) (!bt w) h' s.heap.objs.size (λk'=>(FC (λi=>ns.getD i 0) items.size).any (· == k')) (FC (λi=>ns.getD i 0) items.size).length /\
     (∀c o,c<s.heap.objs.size->s.heap.get? c=ID o->h'.get? c=ID o)) E) F3.init.plain F.entry_set_init (check_set_init_1 hT ?_)) λr₂ s₂ hr₂=>?_
   ·obtain⟨ol,hol,hcl,nl,hdl⟩:=hl;obtain⟨ocls,odict,odata,oslots⟩:=ol;simp only at hcl hdl;subst hcl;subst hdl;have hol':(s.heap.push (uY w)).get? l=ID { cls:=.type "list",dict:=odict,data:=.seq items nl,slots:=oslots }:=AB _ hol;have hsls:=F.sub_list_set;have hslf:=F.sub_list_frozenset;have hne:(GE "list" == GE "dict")=false:=by decide
    have hl1:(s.heap.push (uY w)).IsList l items:=⟨_,hol',rfl,nl,rfl⟩;unfold AR.«set.__init__» noKeywords AR.Frozenset.updateFrom;generalize hPI:IJ=PI
    wp_walk
    subst hPI;refine FK hl1 (An (LI ?_));have hlS:l<s.heap.objs.size:=AQ hol;have hh3:A.in1.in1.in1.handled=IF:=by simp[hh]
    have hneI:l≠(s.heap.push (uY w)).objs.size:=by
     rw[Cb];exact B1 (DT hlS)
    have hSf:s.heap.objs.size∉[(s.heap.push (uY w)).objs.size,l]:=by
     rw[Cb];simp only[A3,AJ,Bz,or_false,not_or];exact⟨B1 (C3 _),Ki hlS⟩
    have hval:∀(i:Nat)(v:Ap),items[i]?=ID v->∃t,v=.int ((λi=>ns.getD i 0) i) t:=λi v hv=>E5.int_at hi i v (by rw[DH];exact hv);refine Uh (b:=!bt w) ((Walks.list hh3 _ l hneI items).toS) s.heap.objs.size hSf (λi=>ns.getD i 0) hval hb (items.size-0) 0 _ ω (De _)
     ⟨⟨_,AO _ rfl,rfl,rfl⟩,(hl1.push _)⟩ ?hS0 ?hR
    case hS0=>exact⟨_,#[],0,_,AB _ hS,⟨rfl,rfl,rfl⟩,rfl,⟨λe he=>by simp at he,λk=>by simp[firstMet_zero],δ⟩,by rfl,rfl,Dw _ _ _⟩
    case hR=>
     intro s' hm hS';obtain⟨h',g',d',tk',os'⟩:=s';have eg:g'=s.gens:=hm.gens;have ed:d'=s.drawn:=hm.drawn;have eo:os'=s.os:=hm.os;subst eg;subst ed;subst eo;show AH _ _ _ _ _ _;refine Au (show AH _ _ (ret Ap.none) _ _ _ from Au ⟨rfl,h',tk',rfl,hS',λc o hc e=>?_⟩);have hc1:c≠s.heap.objs.size:=B1 hc;have hc2:c≠(s.heap.push (uY w)).objs.size:=by
      rw[Cb];exact B1 (DT hc)
     exact hm.heap c o (by simp only[A3,AJ,Bz,or_false,not_or];exact⟨hc1,hc2⟩) (AB _ (AB _ e))
   cases r₂ with
   | error e=>exact hr₂
   | ok fl₂=>
    cases fl₂ with
    | ret r=>
     obtain⟨rfl,h',tk,rfl,hS',hk'⟩:=hr₂
     repeat (any_goals (first|assumption|wp_step))
     exact h _ _ hS' hk'
    | _=>exact hr₂.elim
  | _=>exact hr.elim
end
end SRT
namespace SRT
open PySem PyProof.Rows
theorem ud{α:Type}:∀{l:List α}{i:Nat}(h:i<l.length),(l[i]::l.eraseIdx i).Perm l
 | x::l,0,_=>E7.refl _
 | x::l,i+1,h=>by
  have h':i<l.length:=by simpa using h
  show(l[i]::x::l.eraseIdx i).Perm (x::l);exact(E7.swap _ _ _).trans (E7.cons _ (ud h'))
section
variable {prog:A1}{w:BD}{A:BA}{E:Ap->AA->Prop}
theorem wp_choose{s:AA}{src:Source}{n:Nat}{Q:Nat->AA->Prop}(hn:n≠0)(h:∀k d,k<n->Q k { s with drawn:=d }):AH (AM prog w) A (choose src n) Q E s:=
 λ_ _ _=>⟨hn,h _ _ (mod_lt _ (Nat.pos_of_ne_zero hn))⟩
theorem aaF{α:Type}:∀(n:Nat)(xs:List α)(s:AA){Q:List α->AA->Prop},xs.length=n->(∀ys d,ys.Perm xs->Q ys { s with drawn:=d })->AH (AM prog w) A (drawOrder n xs) Q E s:=by
 intro n
 induction n with
 | zero=>
  intro xs s Q hl h;have e:xs=[]:=KB.mp hl;subst e;exact Au (h [] s.drawn (E7.refl _))
 | succ n ih=>
  intro xs s Q hl h;cases xs with
  | nil=>cases hl
  | cons x xs=>
   unfold drawOrder;refine An (wp_choose ζ λi d hi=>?_);have hg:(x::xs)[i]?=ID (x::xs)[i]:=AD hi;rw[hg];dsimp only;refine An (ih _ _ (by rw[Lm,if_pos hi];simpa using hl) λys d' hp=>Au (h _ d' ?_));exact(E7.cons _ hp).trans (ud hi)
end
theorem Zw{α:Type}(next:Nat->Nat):∀(fuel k:Nat)(left:List α)(out:Array α),left.length=fuel->(II.go next fuel k left out).toList.Perm (out.toList++left):=by
 intro fuel
 induction fuel with
 | zero=>
  intro k left out hl;have e:left=[]:=KB.mp hl;subst e;show out.toList.Perm _;rw[ED]
 | succ fuel ih=>
  intro k left out hl;unfold II.go;have hi:next k%left.length<left.length:=mod_lt _ ω;rw[AD hi];dsimp only;refine(ih (k+1) _ _ (by rw[Lm,if_pos hi];omega)).trans ?_;rw[toList_push,F1];exact E7.append_left _ (ud hi)
theorem Ry{α:Type}(next:Nat->Nat)(xs:Array α):(II next xs).toList.Perm xs.toList:=by
 have:=Zw next xs.size 0 xs.toList #[] ζ;simpa [II] using this
def jj(h:Heap)(S:IN)(es:Array (Int×Ap))(ep:Nat)(t:AW):Prop:=∃o,h.get? S=ID o/\o.ExactSet/\o.data=.set es ep t
def gP(h:Heap)(I:IN)(first:Ap)(i:Nat)(S:IN)(n ep:Nat):Prop:=
 h.get? I=ID { cls:=.type "set_iterator",dict:=IF,data:=.fields #[first,.int i 0,.ref S,.int n 0,.int ep 0],slots:=#[] }
theorem jj.get{h h':Heap}{S:IN}{es:Array (Int×Ap)}{ep:Nat}{t:AW}(hS:jj h S es ep t)(hk:∀o,h.get? S=ID o->h'.get? S=ID o):jj h' S es ep t:=
 let ⟨o,ho,r⟩:=hS;⟨o,hk o ho,r⟩
section
variable {prog:A1}{w:BD}{A:BA}{E:Ap->AA->Prop}{s:AA}{S:IN}{es:Array (Int×Ap)}{ep:Nat}{t:AW}
theorem pI{Q:(Array (Int×Ap)×Nat×AW)->AA->Prop}(hS:jj s.heap S es ep t)(hf:t.fits es.size=true)(h:Q (es,ep,t) s):AH (AM prog w) A (setState S) Q E s:=
 let ⟨_,ho,_,hd⟩:=hS;wpAny_setState_of ho hd hf h
theorem below_at{xs:Array Nat}(hr:Ris xs){i:Nat}(hi:i<=xs.size):AW.below xs (if i=0 then 0 else xs.getD (i-1) 0+1)=i:=by
 have hs:=uM hr (if i=0 then 0 else xs.getD (i-1) 0+1);generalize hb:AW.below xs (if i=0 then 0 else xs.getD (i-1) 0+1)=b at hs;by_cases h0:i=0
 ·subst h0;simp only[↓reduceIte] at hs;rcases Nat.eq_zero_or_pos b with h|h
  ·exact h
  have hl:0<xs.size:=ω;have hg:xs[0]?=ID xs[0]:=by simp[hl]
  have:=(hs.1 0 _ hg).mp h;omega
 rw[if_neg h0] at hs;have hl:i-1<xs.size:=ω;have hg:xs[i-1]?=ID xs[i-1]:=by simp[hl]
 have hd:xs.getD (i-1) 0=xs[i-1]:=by simp[Array.getD,hl]
 rw[hd] at hs;have h1:i-1<b:=(hs.1 _ _ hg).mpr ω;rcases FU i b with h|h
 ·have hl2:i<xs.size:=ω;have hg2:xs[i]?=ID xs[i]:=by simp[hl2]
  have h2:=(hs.1 _ _ hg2).mp h;have h3:=hr.lt hg hg2 ω;omega
 omega
theorem aah(hf:t.fits es.size=true)(ht:TOk (!bt w) t)(hd:bt w=true\/(!t.plain&&decide (es.size>1))=false) :
  ∃(vs:List Ap)(sl:Nat->Nat),sl 0=0/\vs.Perm (es.toList.map (·.2))/\∀(i:Nat)(s:AA)(A:BA)(E:Ap->AA->Prop)(Q:Option (Ap×Nat)->AA->Prop),i<=vs.length->jj s.heap S es ep t ->
   Q (vs[i]?.map λx=>(x,sl (i+1))) s->AH (AM prog w) A (setNext S (sl i) i ep) Q E s:=by
 by_cases hb:bt w=true
 ·refine⟨(II (w.params.setOrder S ep) es).toList.map (·.2),λ_=>0,rfl,(Ry _ es).map _,λi s A E Q hi hS h=>?_⟩;unfold setNext;refine An (pI hS hf ?_);dsimp only;unfold setsByText;refine An (An (D4 (Au ?_)));show AH _ _ (if bt w=true then _ else _) _ _ _;rw[if_pos hb,if_neg ζ];unfold setWalk;refine An (An (pI hS hf ?_));dsimp only;unfold setsByText;refine An (An (D4 (Au ?_)));show AH _ _ (if bt w=true then _ else _) _ _ _;rw[if_pos hb];refine An (D4 (Au (Au ?_)));have e:((II (w.params.setOrder S ep) es)[i]?).map (λe=>(e.2,0))=(((II (w.params.setOrder S ep) es).toList.map (·.2))[i]?).map λx=>(x,0):=by
   rw[AL,Option.map_map,DH];rfl
  show Q (((II (w.params.setOrder S ep) es)[i]?).map (λe=>(e.2,0))) s;rw[e];exact h
 have hb':bt w=false:=by simpa using hb
 have hdr:=hd.resolve_left hb;have hps:t.place.size=es.size:=by
  have:=hf;unfold AW.fits at this;simp only[CH,beq_iff_eq] at this;exact this.1
 refine⟨es.toList.map (·.2),λi=>if i=0 then 0 else t.place.getD (i-1) 0+1,rfl,E7.refl _,λi s A E Q hi hS h=>?_⟩;unfold setNext;refine An (pI hS hf ?_);dsimp only;unfold setsByText;refine An (An (D4 (Au ?_)));show AH _ _ (if bt w=true then _ else _) _ _ _;rw[if_neg hb];show AH _ _ (if (!t.plain&&decide (es.size>1))=true then _ else _) _ _ _;rw[if_neg (by rw[hdr];simp)];refine An ?_;show AH _ _ (if (!t.led && !es.isEmpty)=true then _ else _) _ _ _;have hled:t.led=true:=by rw[ht.2.2,hb'];rfl
 rw[if_neg (by rw[hled];simp)];refine Au (Au ?_);have hi':i<=es.size:=by simpa using hi
 rw[below_at ht.1 (by rw[hps];exact hi')];rcases FU i es.size with hlt|hge
 ·have g1:es[i]?=ID es[i]:=by simp[hlt]
  have g2:t.place[i]?=ID t.place[i]:=by simp[hps,hlt]
  have g3:(es.toList.map (·.2))[i]?=ID es[i].2:=by rw[AL,DH,g1];rfl
  rw[g1,g2];rw[g3] at h;have g4:t.place.getD i 0=t.place[i]'(by rw[hps];exact hlt):=by simp[Array.getD,hps,hlt]
  simp only[map_some,Nat.add_one_ne_zero,if_false,Nat.add_sub_cancel,g4] at h;exact h
 have g1:es[i]?=IF:=by simp[hge]
 have g3:(es.toList.map (·.2))[i]?=IF:=by rw[AL,DH,g1];rfl
 rw[g1];rw[g3] at h;exact h
end
end SRT
namespace SRT
open PySem PyProof.Rows
theorem Kc:LJ table "set.__iter__" = ID AR.«frozenset.__iter__»:=entryFor_alias (id' := "frozenset.__iter__") (by kernel_rfl) Z ψ (by kernel_rfl)
theorem dz:Slot "set_iterator" "__next__" "set_iterator.__next__" :=
 .of (owner := "set_iterator") (n := "__next__") (by rw[F6,EO];kernel_rfl) ψ ψ ψ (by first|exact .inl ψ|exact .inr ψ) (by rw[E8];kernel_rfl)
theorem zP:Slot "set_iterator" "__iter__" "set_iterator.__iter__" :=
 .of (owner := "set_iterator") (n := "__iter__") (by rw[F6,EO];kernel_rfl) ψ ψ ψ (by first|exact .inl ψ|exact .inr ψ) (by rw[E8];kernel_rfl)
theorem lN:LJ table "set_iterator.__next__" = ID AR.«set_iterator.__next__»:=KE (by kernel_rfl)
theorem Ka:LJ table "set_iterator.__iter__" = ID AR.«dict_keyiterator.__iter__»:=entryFor_alias (id' := "dict_keyiterator.__iter__") (by kernel_rfl) Z ψ (by kernel_rfl)
theorem oJ(a:Ap):JP "set_iterator.__next__" ⟨[a],[]⟩:=by unfold JP;kernel_rfl
theorem Ob(a:Ap):JP "set_iterator.__iter__" ⟨[a],[]⟩:=by unfold JP;kernel_rfl
section
variable {prog:A1}{w:BD}{A:BA}{E:Ap->AA->Prop}{s:AA}{S I:IN}{es:Array (Int×Ap)}{ep:Nat}{t:AW}
theorem gP.ty{h:AA}{first:Ap}{i n:Nat}(hI:gP h.heap I first i S n ep):h.TypeIs (.ref I) "set_iterator" := ⟨_,hI,rfl⟩
theorem gP.get{h h':Heap}{first:Ap}{i n:Nat}(hI:gP h I first i S n ep)(hk:∀o,h.get? I=ID o->h'.get? I=ID o):gP h' I first i S n ep:=hk _ hI
theorem lD{Q:Array (Int×Ap)->AA->Prop}(hS:jj s.heap S es ep t)(hf:t.fits es.size=true)(h:Q es s):AH (AM prog w) A (setEntries S) Q E s:=
 let ⟨_,ho,_,hd⟩:=hS;wpAny_setEntries_of ho hd hf h
theorem J9{Q:Nat->AA->Prop}(hS:jj s.heap S es ep t)(hf:t.fits es.size=true)(h:Q ep s):AH (AM prog w) A (setEpoch S) Q E s:=
 let ⟨_,ho,_,hd⟩:=hS;wpAny_setEpoch_of ho hd hf h
theorem Ow(hh:A.handled=IF){s:AA}{P:Fin->AA->Prop}{E':Ap->AA->Prop}(h:∀(h':Heap)(e:Ap),(∀c o,s.heap.get? c=ID o->h'.get? c=ID o)->AA.TypeIs { s with heap:=h' } e "StopIteration" -> E' e { s with heap:=h' }) :
  AH (AM prog w) A (newExc (.type "StopIteration") [] >>= λe=>(raiseNew e:Sem Fin)) P E' s:=by
 refine An ?_;simp only[newExc,newTuple];refine An (A6 (An (m:=LL _ _) (CU (a:=Ap.none) (by first|rfl|(simp only[LL];rfl)) ?_)) (by size_fits))
 refine A6 ?_ (by size_fits);simp only[raiseNew];refine An (wpAny_handled ?_);rw[hh];refine An (Au (wpAny_throw (h _ (.ref _) (λc o e=>AB _ (AB _ e)) ⟨_,AO _ rfl,rfl⟩)))
theorem next_item{n i:Nat}{first:Nat}{v:Ap}{sl:Nat}{Q:Option Ap->AA->Prop}(hI:gP s.heap I (.int first 0) i S es.size ep)(hS:jj s.heap S es ep t)(hf:t.fits es.size=true)
  (hn:∀(s:AA)(A:BA)(E:Ap->AA->Prop)(Q:Option (Ap×Nat)->AA->Prop),jj s.heap S es ep t->Q (ID (v,sl)) s->AH (AM prog w) A (setNext S first i ep) Q E s)
  (hne:S≠I)(hQ:∀h',gP h' I (.int sl 0) (i+1) S es.size ep->B0 I s.heap h'->Q (ID v) { s with heap:=h' }):AH (AM prog w) A (EF (.ref I)) Q E s:=by
 unfold EF;refine An (E3 (B5 (name:=GH "__next__") hI.ty dz (B3 dz hI.ty lN ?_ (oJ _))));show AH _ _ (fieldsOf (.ref I) >>= _) _ _ s;refine An (LM hI Z ?_);refine An (lD hS hf ?_);rw[if_neg ζ];dsimp only;refine An (hn s _ _ _ hS ?_);dsimp only;refine An (CB hI ζ λh1 g1 b1=>?_);refine An (CB (s:={ s with heap:=h1 }) g1 ζ λh2 g2 b2=>?_);exact Au ⟨_,rfl,Au (hQ h2 g2 (b1.trans b2))⟩
end
end SRT
namespace SRT
open PySem PyProof.Rows
section
variable {prog:A1}{w:BD}{A:BA}{E:Ap->AA->Prop}{s:AA}{S I T:IN}{es:Array (Int×Ap)}{ep:Nat}{t:AW}
theorem Jf{a:IN}{h h' h'':Heap}(b:B0 a h h')(k:∀c o,h'.get? c=ID o->h''.get? c=ID o)(c:IN)(o:Obj)(hc:c≠a)(e:h.get? c=ID o):h''.get? c=ID o:=k c o (b.extBut c o hc e)
theorem next_end{i first:Nat}{Q:Option Ap->AA->Prop}(hh:A.handled=IF)(hI:gP s.heap I (.int first 0) i S es.size ep)(hS:jj s.heap S es ep t)(hf:t.fits es.size=true)
  (hn:∀(s:AA)(A:BA)(E:Ap->AA->Prop)(Q:Option (Ap×Nat)->AA->Prop),jj s.heap S es ep t->Q IF s->AH (AM prog w) A (setNext S first i ep) Q E s)
  (hQ:∀h',(∀c o,c≠I->s.heap.get? c=ID o->h'.get? c=ID o)->Q IF { s with heap:=h' }):AH (AM prog w) A (EF (.ref I)) Q E s:=by
 unfold EF;refine An (E3 (B5 (name:=GH "__next__") hI.ty dz (B3 dz hI.ty lN ?_ (oJ _))));show AH _ _ (fieldsOf (.ref I) >>= _) _ _ s;refine An (LM hI Z (An (lD hS hf ?_)));rw[if_neg ζ];dsimp only;refine An (hn s _ _ _ hS ?_);dsimp only;refine An (CB hI ζ λh1 g1 b1=>?_);refine Ow (s:={ s with heap:=h1 }) (by simpa using hh) λh2 e k2 ty=>An (G2 ty LD (Au (hQ h2 λc o hc x=>Jf b1 k2 c o hc x)))
def TupAt(h:Heap)(T:IN)(ds:List Nat):Prop:=h.get? T=ID { cls:=.type "tuple",data:=.seq (ds.map λ(i:Nat)=>Db i).toArray }
theorem NK{i d:Nat}{ds:List Nat}{v:Ap}{Q:Option Ap->AA->Prop}(hI:gP s.heap I (.ref T) i S es.size ep)(hS:jj s.heap S es ep t)(hT:TupAt s.heap T ds)(hf:t.fits es.size=true)
  (hd:ds[i]?=ID d)(hv:(es[d]?).map (·.2)=ID v)(hne:S≠I)
  (hQ:∀h',gP h' I (.ref T) (i+1) S es.size ep->B0 I s.heap h'->Q (ID v) { s with heap:=h' }):AH (AM prog w) A (EF (.ref I)) Q E s:=by
 unfold EF;refine An (E3 (B5 (name:=GH "__next__") hI.ty dz (B3 dz hI.ty lN ?_ (oJ _))));show AH _ _ (fieldsOf (.ref I) >>= _) _ _ s;refine An (LM hI Z (An (lD hS hf ?_)));rw[if_neg ζ];dsimp only;refine An (DC hT Z ?_);dsimp only;have hg:(ds.map λ(i:Nat)=>Db i).toArray[(i:Int).toNat]?=ID (.int (d:Int) 0):=by
  rw[Hc,Ha,AL,hd];rfl
 rw[hg];dsimp only;unfold setNextDrawn;refine An (An (pI hS hf ?_));dsimp only;rw[if_neg ζ];obtain⟨⟨hh,x⟩,he,rfl⟩:=BG.mp hv;rw[Hc,he];dsimp only;refine Au ?_;refine An (CB hI ζ λh1 g1 b1=>?_);exact Au ⟨_,rfl,Au (hQ h1 g1 b1)⟩
theorem S8{i:Nat}{ds:List Nat}{Q:Option Ap->AA->Prop}(hh:A.handled=IF)(hI:gP s.heap I (.ref T) i S es.size ep)(hS:jj s.heap S es ep t)(hT:TupAt s.heap T ds)(hf:t.fits es.size=true)
  (hd:ds[i]?=IF)(hQ:∀h',(∀c o,c≠I->s.heap.get? c=ID o->h'.get? c=ID o)->Q IF { s with heap:=h' }):AH (AM prog w) A (EF (.ref I)) Q E s:=by
 unfold EF;refine An (E3 (B5 (name:=GH "__next__") hI.ty dz (B3 dz hI.ty lN ?_ (oJ _))));show AH _ _ (fieldsOf (.ref I) >>= _) _ _ s;refine An (LM hI Z (An (lD hS hf ?_)));rw[if_neg ζ];dsimp only;refine An (DC hT Z ?_);dsimp only;have hg:(ds.map λ(i:Nat)=>Db i).toArray[(i:Int).toNat]?=IF:=by
  rw[Hc,Ha,AL,hd];rfl
 rw[hg];dsimp only;refine An (CB hI ζ λh1 g1 b1=>?_);refine An (CB (s:={ s with heap:=h1 }) g1 ζ λh2 g2 b2=>?_);refine Ow (s:={ s with heap:=h2 }) (by simpa using hh) λh3 e k3 ty=>An (G2 ty LD (Au (hQ h3 λc o hc x=>Jf (b1.trans b2) k3 c o hc x)))
theorem O6{first:Ap}{i n:Nat}{Q:Ap->AA->Prop}(hI:gP s.heap I first i S n ep)(h:Q (.ref I) s):AH (AM prog w) A (IJ (.ref I)) Q E s:=by
 refine wpAny_pyIter_slot hI.ty zP (B3 zP hI.ty Ka ?_ (Ob _));show AH _ _ (ret (.ref I)) _ _ s;exact Au ⟨_,rfl, "set_iterator",_,hI.ty,dz.lookup,h⟩
theorem U9{Q:Ap->AA->Prop}(hh:A.handled=IF)(hS:jj s.heap S es ep t)(hf:t.fits es.size=true)(ht:TOk (!bt w) t)(hz:es.size<=AN)
   (h:∀(s':AA)(I:IN)(fp:List IN)(vs:List Ap)(St:Nat->AA->Prop),(∀c o,s.heap.get? c=ID o->s'.heap.get? c=ID o)->s'.gens=s.gens->s'.os=s.os->s'.toks=s.toks->vs.Perm (es.toList.map (·.2))->I=s'.heap.objs.size-1->s.heap.objs.size<=I->I<s'.heap.objs.size ->
   (∀A':BA,A'.handled=IF->WalksS prog w A' I fp [I] (λa b=>b=a) vs.length (λi v=>vs[i]?=ID v) St)->St 0 s'->(∀b∈fp,b<s'.heap.objs.size/\(b=S\/s.heap.objs.size<=b))->Q (.ref I) s') :
  AH (AM prog w) A (IJ (.ref S)) Q E s:=by
 obtain⟨o,ho,hx,hd⟩:=id hS;have hty:s.TypeIs (.ref S) "set" := ⟨o,ho,hx.1⟩;have lt:S<s.heap.objs.size:=AQ ho;refine wpAny_pyIter_slot hty F.slot_set_iter (B3 F.slot_set_iter hty Kc ?_ (F.args_set_iter_1 _));unfold AR.«frozenset.__iter__»;show AH _ _ (AR.Frozenset.sizeOf S >>= _) _ _ s;unfold AR.Frozenset.sizeOf;refine An (An (lD hS hf (Au ?_)));unfold setDrawn setsByText;refine An (An (pI hS hf ?_));dsimp only;refine An (An (D4 (Au (Au ?_))));show AH _ _ (if (!bt w&&(!t.plain&&decide (es.size>1)))=true then _ else _) _ _ _;have arith:∀{n m:Nat},m=n+1->n=m-1:=by intros;omega
 by_cases hc:(!bt w&&(!t.plain&&decide (es.size>1)))=true
 ·rw[if_pos hc];refine An (aaF es.size (BN es.size) _ (C8) λds d hp=>?_);have hdl:ds.length=es.size:=by rw[hp.length_eq,C8]
  refine An (IQ ?_ (by rw[AC,hdl];exact hz));have hS1:jj (s.heap.push { cls:=.type "tuple",data:=.seq (ds.map λ(i:Nat)=>Db i).toArray }) S es ep t:=hS.get λo e=>AB _ e;have hT1:TupAt (s.heap.push { cls:=.type "tuple",data:=.seq (ds.map λ(i:Nat)=>Db i).toArray }) s.heap.objs.size ds:=AO _ rfl;have hz1:(s.heap.push { cls:=.type "tuple",data:=.seq (ds.map λ(i:Nat)=>Db i).toArray }).objs.size=s.heap.objs.size+1:=Cb ..;have hk1:∀c o,s.heap.get? c=ID o->(s.heap.push { cls:=.type "tuple",data:=.seq (ds.map λ(i:Nat)=>Db i).toArray }).get? c=ID o:=λc o e=>AB _ e;generalize s.heap.push { cls:=.type "tuple",data:=.seq (ds.map λ(i:Nat)=>Db i).toArray }=h1 at hS1 hT1 hz1 hk1 |-;refine An (J9 (s:={ s with drawn:=d,heap:=h1 }) hS1 hf (An (A6 ?_)));have hI:gP (h1.push { cls:=.type "set_iterator",data:=.fields #[.ref s.heap.objs.size,.int (0:Nat) 0,.ref S,.int (es.size:Nat) 0,.int (ep:Nat) 0] }) h1.objs.size (.ref s.heap.objs.size) 0 S es.size ep:=AO _ rfl;refine Au ⟨_,rfl, "set_iterator",_,⟨_,hI,rfl⟩,dz.lookup,?_⟩;have hz2:(h1.push { cls:=.type "set_iterator",data:=.fields #[.ref s.heap.objs.size,.int (0:Nat) 0,.ref S,.int (es.size:Nat) 0,.int (ep:Nat) 0] }).objs.size=h1.objs.size+1:=Cb ..;have hk2:∀c o,h1.get? c=ID o->(h1.push { cls:=.type "set_iterator",data:=.fields #[.ref s.heap.objs.size,.int (0:Nat) 0,.ref S,.int (es.size:Nat) 0,.int (ep:Nat) 0] }).get? c=ID o:=λc o e=>AB _ e;show Q (.ref h1.objs.size) { s with drawn:=d,heap:=h1.push { cls:=.type "set_iterator",data:=.fields #[.ref s.heap.objs.size,.int (0:Nat) 0,.ref S,.int (es.size:Nat) 0,.int (ep:Nat) 0] } };generalize h1.push { cls:=.type "set_iterator",data:=.fields #[.ref s.heap.objs.size,.int (0:Nat) 0,.ref S,.int (es.size:Nat) 0,.int (ep:Nat) 0] }=h2 at hI hz2 hk2 |-;have n1:S≠h1.objs.size:=by rw[hz1];exact B1 (DT lt)
  have n2:s.heap.objs.size≠h1.objs.size:=by rw[hz1];exact B1 (C3 _)
  have hmem:∀i d:Nat,ds[i]?=ID d->∃x:Ap,(es[d]?).map (λ(e:Int×Ap)=>e.2)=ID x/\(ds.map λd=>(es.toList.map (·.2)).getD d .none)[i]?=ID x:=by
   intro i d hi;have:d<es.size:=by have:=hp.mem_iff.mp (A8 hi);simpa using this
   refine⟨es[d].2,by simp[this],?_⟩;rw[AL,hi];simp[this]
  refine h { s with drawn:=d,heap:=h2 } h1.objs.size [h1.objs.size,S,s.heap.objs.size] (ds.map λd=>(es.toList.map (·.2)).getD d .none)
   (λi s'=>gP s'.heap h1.objs.size (.ref s.heap.objs.size) i S es.size ep/\jj s'.heap S es ep t/\TupAt s'.heap s.heap.objs.size ds)
   (λc o e=>hk2 c o (hk1 c o e)) Z Z Z ?_ (arith hz2) (by rw[hz1];exact le_succ _) (by show h1.objs.size<h2.objs.size;rw[hz2];exact C3 _) (λA' hh'=>?_) ⟨hI,hS1.get (hk2 S),hk2 _ _ hT1⟩ ?_
  ·have e:(BN es.size).map (λd=>(es.toList.map (·.2)).getD d .none)=es.toList.map (·.2):=by
    refine ext_getElem ζ λi h1 h2=>?_;simp at h1 h2;simp[h2]
   exact(hp.map λd=>(es.toList.map λ(x:Int×Ap)=>x.2).getD d Ap.none).trans (E7.of_eq e)
  ·have hlen:(ds.map λd=>(es.toList.map (·.2)).getD d .none).length=ds.length:=AC _;exact {
    sub:=λb hb=>by simp at hb;simp[hb]
    grefl:=λ_=>rfl
    gtrans:=λa b c e f=>f.trans e
    frame:=λi s1 h' tk st _ hk=>⟨st.1.get λo e=>hk _ ζ o e,st.2.1.get λo e=>hk _ ζ o e,hk _ ζ _ st.2.2⟩
    item:=λi s1 Q1 E1 hi st hQ1=>by
     rw[hlen] at hi;obtain⟨x,e1,e2⟩:=hmem i ds[i] (AD hi);refine NK st.1 st.2.1 st.2.2 hf (AD hi) e1 n1 λh' i' b'=>?_;exact hQ1 x { s1 with heap:=h' } e2 ⟨i',st.2.1.get λo e=>b'.extBut _ o n1 e,b'.extBut _ _ n2 st.2.2⟩ ⟨λb o hb e=>b'.extBut b o (λz=>hb (by simp[z])) e,rfl,rfl,rfl,AV _⟩
    done:=λs1 Q1 E1 st hQ1=>by
     refine S8 hh' st.1 st.2.1 st.2.2 hf (by rw[hlen];simp) λh' k'=>?_;exact hQ1 { s1 with heap:=h' } ⟨λb o hb e=>k' b o (λz=>hb (by simp[z])) e,rfl,rfl,rfl,AV _⟩
    self:=λi s1 Q1 E1 st hQ1=>O6 st.1 hQ1 }
  intro b hb;show b<h2.objs.size/\_;have l0:=DT lt;simp only[A3,Bz,or_false] at hb;rw[hz2,hz1];rcases hb with rfl|rfl|rfl
  ·rw[hz1];exact⟨C3 _,.inr (le_succ _)⟩
  ·exact⟨DT l0,.inl rfl⟩
  exact⟨DT (C3 _),.inr (AV _)⟩
 rw[if_neg hc];obtain⟨vs,sl,sl0,hp,hn⟩:=aah (prog:=prog) (w:=w) (S:=S) (ep:=ep) hf ht (by
  cases hb:bt w with
  | true=>exact .inl rfl
  | false=>rw[hb] at hc;exact .inr (by simpa using hc))
 refine An (Au (An (J9 hS hf (An (A6 ?_)))));have hI:gP (s.heap.push { cls:=.type "set_iterator",data:=.fields #[.int (0:Nat) 0,.int (0:Nat) 0,.ref S,.int (es.size:Nat) 0,.int (ep:Nat) 0] }) s.heap.objs.size (.int (sl 0) 0) 0 S es.size ep:=by rw[sl0];exact AO _ rfl
 refine Au ⟨_,rfl, "set_iterator",_,⟨_,hI,rfl⟩,dz.lookup,?_⟩;have hz2:(s.heap.push { cls:=.type "set_iterator",data:=.fields #[.int (0:Nat) 0,.int (0:Nat) 0,.ref S,.int (es.size:Nat) 0,.int (ep:Nat) 0] }).objs.size=s.heap.objs.size+1:=Cb ..;have hk2:∀c o,s.heap.get? c=ID o->(s.heap.push { cls:=.type "set_iterator",data:=.fields #[.int (0:Nat) 0,.int (0:Nat) 0,.ref S,.int (es.size:Nat) 0,.int (ep:Nat) 0] }).get? c=ID o:=λc o e=>AB _ e;show Q (.ref s.heap.objs.size) { s with heap:=s.heap.push { cls:=.type "set_iterator",data:=.fields #[.int (0:Nat) 0,.int (0:Nat) 0,.ref S,.int (es.size:Nat) 0,.int (ep:Nat) 0] } };generalize s.heap.push { cls:=.type "set_iterator",data:=.fields #[.int (0:Nat) 0,.int (0:Nat) 0,.ref S,.int (es.size:Nat) 0,.int (ep:Nat) 0] }=h2 at hI hz2 hk2 |-;have n1:S≠s.heap.objs.size:=B1 lt;refine h { s with heap:=h2 } s.heap.objs.size [s.heap.objs.size,S] vs (λi s'=>gP s'.heap s.heap.objs.size (.int (sl i) 0) i S es.size ep/\jj s'.heap S es ep t)
  (λc o e=>hk2 c o e) Z Z Z hp (arith hz2) (AV _) (by show s.heap.objs.size<h2.objs.size;rw[hz2];exact C3 _) (λA' hh'=>?_) ⟨hI,hS.get (hk2 S)⟩ ?_
 ·exact {
   sub:=λb hb=>by simp at hb;simp[hb]
   grefl:=λ_=>rfl
   gtrans:=λa b c e f=>f.trans e
   frame:=λi s1 h' tk st _ hk=>⟨st.1.get λo e=>hk _ ζ o e,st.2.get λo e=>hk _ ζ o e⟩
   item:=λi s1 Q1 E1 hi st hQ1=>by
    have hv:vs[i]?=ID vs[i]:=AD hi;refine next_item (n:=0) st.1 st.2 hf (v:=vs[i]) (sl:=sl (i+1)) (λs2 A2 E2 Q2 st2 hQ2=>hn i s2 A2 E2 Q2 (HH hi) st2 (by rw[hv];exact hQ2)) n1 λh' i' b'=>?_;exact hQ1 vs[i] { s1 with heap:=h' } hv ⟨i',st.2.get λo e=>b'.extBut _ o n1 e⟩ ⟨λb o hb e=>b'.extBut b o (λz=>hb (by simp[z])) e,rfl,rfl,rfl,AV _⟩
   done:=λs1 Q1 E1 st hQ1=>by
    have hv:vs[vs.length]?=IF:=by simp
    refine next_end hh' st.1 st.2 hf (λs2 A2 E2 Q2 st2 hQ2=>hn vs.length s2 A2 E2 Q2 (AV _) st2 (by rw[hv];exact hQ2)) λh' k'=>?_;exact hQ1 { s1 with heap:=h' } ⟨λb o hb e=>k' b o (λz=>hb (by simp[z])) e,rfl,rfl,rfl,AV _⟩
   self:=λi s1 Q1 E1 st hQ1=>O6 st.1 hQ1 }
 intro b hb;show b<h2.objs.size/\_;rw[hz2];simp only[A3,Bz,or_false] at hb;rcases hb with rfl|rfl
 ·exact⟨C3 _,.inr (AV _)⟩
 exact⟨DT lt,.inl rfl⟩
end
end SRT
namespace SRT
open PySem PyProof.Rows
def gallopF:Bool->CF->Array CF->Nat->Nat->Nat->StateT DM Sem (Option Nat):=sortPriv% PySem.Builtin.gallop
def mergeLoF:Array CF->Array CF->StateT DM Sem (Array CF):=sortPriv% PySem.Builtin.mergeLo
def mergeHiF:Array CF->Array CF->StateT DM Sem (Array CF):=sortPriv% PySem.Builtin.mergeHi
def IK(p:CF):Prop:=∃n t,p.1=.int n t
def Ft(xs:Array CF):Prop:=∀(i:Nat) p,xs[i]?=ID p->IK p
section
variable {prog:A1}{w:BD}{s:AA}{A:BA}{E:Ap->AA->Prop}
theorem Qu{st:DM}{xs:Array CF}{i:Nat}{Q:CF->DM->Prop}(hi:i<xs.size)(h:∀p,xs[i]?=ID p->Q p st):wpS (AM prog w) A E s (elem' xs i) Q st:=by
 rw[elem'_eq];have e:xs[i]?=ID xs[i]:=getElem?_pos xs i hi;rw[e];exact DL (h _ e)
end
end SRT
namespace SRT
open PySem PyProof.Rows
abbrev withG(st:DM)(g:Nat):DM:=DM.mk' (kindOf st) (Cc st) (Cn st) g (KF st)
section
variable {prog:A1}{w:BD}{s:AA}{A:BA}{E:Ap->AA->Prop}
def abo(a b out:Array CF)(i j:Nat):List CF:=out.toList++(a.toList.drop i++b.toList.drop j)
def LoI(a b out:Array CF)(i j:Nat):Prop:=(abo a b out i j).Perm (a.toList++b.toList)/\i+1<a.size/\j<b.size
def RetI(a b:Array CF)(c:Option (Array CF)):Prop:=∃r,c=ID r/\r.toList.Perm (a.toList++b.toList)
end
end SRT
namespace SRT
open PySem PyProof.Rows
section
variable {prog:A1}{w:BD}{s:AA}{A:BA}{E:Ap->AA->Prop}
def abp(a b out:Array CF)(i j:Nat):List CF:=(a.toList.take i++b.toList.take j)++out.toList
def HiI(a b out:Array CF)(i j:Nat):Prop:=(abp a b out i j).Perm (a.toList++b.toList)/\0<i/\1<j/\i<=a.size/\j<=b.size
end
end SRT
namespace SRT
open PySem PyProof.Rows
def Chain:List (Nat×Nat×Nat)->Nat->Nat->Prop
 | [],a,b=>a=b
 | (p,n,_)::t,a,b=>p=a/\1<=n/\Chain t (a+n) b
theorem Chain.le:∀{l:List (Nat×Nat×Nat)}{a b:Nat},Chain l a b->a<=b
 | [],_,_,h=>le_of_eq h
 | (_,n,_)::_,a,_,⟨_,_,h⟩=>CM (Nat.le_add_right a n) h.le
theorem Chain.two:∀{pre post:List (Nat×Nat×Nat)}{sa na w sb nb v a b:Nat},Chain (pre++(sa,na,w)::(sb,nb,v)::post) a b ->
  sb=sa+na/\1<=na/\1<=nb/\sb+nb<=b/\Chain (pre++(sa,na+nb,w)::post) a b
 | [],post,sa,na,w,sb,nb,v,a,b,⟨h1,h2,h3,h4,h5⟩=>by
  have:=h5.le;refine⟨ω,h2,h4,ω,h1,ω,?_⟩;rw[<- Nat.add_assoc];exact h5
 | (_,_,_)::pre,post,sa,na,w,sb,nb,v,a,b,⟨h1,h2,h3⟩=>by
  obtain⟨k1,k2,k3,k4,k5⟩:=Chain.two h3;exact⟨k1,k2,k3,k4,h1,h2,k5⟩
theorem Chain.snoc:∀{l:List (Nat×Nat×Nat)}{a b n w:Nat},Chain l a b->1<=n->Chain (l++[(b,n,w)]) a (b+n)
 | [],a,b,n,w,h,h1=>by cases h;exact⟨rfl,h1,rfl⟩
 | (_,_,_)::t,a,b,n,w,⟨k1,k2,k3⟩,h1=>⟨k1,k2,k3.snoc h1⟩
theorem Chain.Vp:∀{l:List (Nat×Nat×Nat)}{a b p n w v:Nat},Chain (l++[(p,n,w)]) a b->Chain (l++[(p,n,v)]) a b
 | [],a,b,p,n,w,v,h=>h
 | (_,_,_)::t,a,b,p,n,w,v,⟨k1,k2,k3⟩=>⟨k1,k2,k3.Vp⟩
theorem Ft.perm{a b:Array CF}(h:Ft a)(hp:b.toList.Perm a.toList):Ft b:=by
 intro i p hi;have h1:p∈b.toList:=by rw[<- DH] at hi;exact A8 hi
 obtain⟨j,hj⟩:=List.getElem?_of_mem (hp.mem_iff.mp h1);exact h j p (by rw[<- DH];exact hj)
theorem Ft.ext{a:Array CF}(h:Ft a)(x y:Nat):Ft (a.extract x y):=by
 intro i p hi;rw[Array.getElem?_extract] at hi;split at hi
 ·exact h _ p hi
 cases hi
section
variable {prog:A1}{w:BD}{s:AA}{A:BA}{E:Ap->AA->Prop}{a₀:Array CF}
structure MB(a₀:Array CF)(st:DM):Prop where
 kind:kindOf st=oneType'
 perm:(Cc st).toList.Perm a₀.toList
 fail:KF st=IF
theorem MB.size{st:DM}(h:MB a₀ st):(Cc st).size=a₀.size:=by simpa using h.perm.length_eq
end
end SRT
namespace SRT
open PySem PyProof.Rows
section
variable {prog:A1}{w:BD}{s:AA}{A:BA}{E:Ap->AA->Prop}{a₀:Array CF}{pd:Array (Nat×Nat×Nat)}
def MP(a₀:Array CF)(pd:Array (Nat×Nat×Nat))(st:DM):Prop:=MB a₀ st/\Cn st=pd
theorem MP.set{st:DM}{xs:Array CF}(h:MP a₀ pd st)(hp:xs.Perm (Cc st)):MP a₀ pd (setArr st xs):=
 ⟨⟨h.1.kind,(Array.perm_iff_toList_perm.mp hp).trans h.1.perm,h.1.fail⟩,h.2⟩
end
end SRT
namespace SRT
open PySem PyProof.Rows
section
variable {prog:A1}{w:BD}{s:AA}{A:BA}{E:Ap->AA->Prop}{a₀:Array CF}{pd:Array (Nat×Nat×Nat)}
def MC(a₀:Array CF)(hi:Nat)(st:DM):Prop:=MB a₀ st/\Chain (Cn st).toList 0 hi
theorem Yy:∀(l:List (Nat×Nat×Nat)),l≠[]->∃t p n v,l=t++[(p,n,v)]
 | l,h=>⟨l.dropLast,(l.getLast h).1,(l.getLast h).2.1,(l.getLast h).2.2,(List.dropLast_concat_getLast h).symm⟩
theorem xZ{α:Type}(f:α->α)(x:α):∀t:List α,(t++[x]).modify t.length f=t++[f x]
 | []=>rfl
 | y::t=>congrArg (y :: ·) (xZ f x t)
theorem MC.Vp{st:DM}{hi pw:Nat}(h:MC a₀ hi st):MC a₀ hi (KU st ((Cn st).modify ((Cn st).size-1) λ(x,len,_)=>(x,len,pw))):=by
 refine⟨⟨h.1.kind,h.1.perm,h.1.fail⟩,?_⟩;show Chain ((Cn st).modify ((Cn st).size-1) λ(x,len,_)=>(x,len,pw)).toList 0 hi;have hc:=h.2;by_cases he:(Cn st).toList=[]
 ·have:Cn st=#[]:=by simpa using he
  rw[this] at hc |-;simpa using hc
 obtain⟨t,p,n,v,e⟩:=Yy _ he;have e2:Cn st=(t++[(p,n,v)]).toArray:=by rw[<- e]
 rw[e] at hc;rw[e2];have:((t++[(p,n,v)]).toArray.modify ((t++[(p,n,v)]).toArray.size-1) λ(x,len,_)=>(x,len,pw)).toList=t++[(p,n,pw)]:=by
  simp[xZ]
 rw[this];exact hc.Vp
theorem MC.push{st:DM}{lo n:Nat}(h:MC a₀ lo st)(h1:1<=n):MC a₀ (lo+n) (KU st ((Cn st).push (lo,n,0))):=by
 refine⟨⟨h.1.kind,h.1.perm,h.1.fail⟩,?_⟩;show Chain ((Cn st).push (lo,n,0)).toList 0 (lo+n);rw[toList_push];exact h.2.snoc h1
theorem MC.of{st st':DM}{lo:Nat}(h:MC a₀ lo st)(h':MP a₀ (Cn st) st'):MC a₀ lo st':=⟨h'.1,by rw[h'.2];exact h.2⟩
theorem Ym{σ α:Type}{c:Prop}[Decidable c]{m n:StateT σ Sem α}{st:σ}{Q:α->σ->Prop}(h1:c->wpS (AM prog w) A E s m Q st)(h2:¬c->wpS (AM prog w) A E s n Q st):wpS (AM prog w) A E s (if c then m else n) Q st:=by
 by_cases h:c
 ·rw[if_pos h];exact h1 h
 rw[if_neg h];exact h2 h
end
end SRT
namespace SRT
open PySem PyProof.Rows
section
variable {prog:A1}{w:BD}{s:AA}{A:BA}{E:Ap->AA->Prop}
theorem Eh(vs:List Ap):((FL vs).map (·.2)).toList=vs:=by
 unfold FL;simp[List.map_snd_zip]
end
end SRT
namespace SRT
open PySem PyProof.Rows
theorem Sy{vs xs:List Ap}(hp:xs.Perm vs):∀{ns:List Int},E5 vs ns->∃ns',E5 xs ns'/\ns'.Perm ns:=by
 induction hp with
 | nil=>intro ns h;exact⟨ns,h,E7.refl _⟩
 | cons x _ ih=>
  intro ns h;cases h with
  | cons n t h=>
   obtain⟨ns',h1,h2⟩:=ih h;exact⟨n::ns',.cons n t h1,h2.cons n⟩
 | swap x y l=>
  intro ns h;cases h with
  | cons n t h=>
   cases h with
   | cons m u h=>exact⟨m::n::_,.cons m u (.cons n t h),E7.swap _ _ _⟩
 | trans _ _ ih1 ih2=>
  intro ns h;obtain⟨n1,a1,b1⟩:=ih2 h;obtain⟨n2,a2,b2⟩:=ih1 a1;exact⟨n2,a2,b2.trans b1⟩
theorem su{α:Type}[DecidableEq α]:∀{l ks:List α},l.Nodup->(∀x∈l,x∈ks)->ks.length=l.length->ks.Perm l
 | [],ks,_,_,h=>by rw[KB.mp h]
 | x::l,ks,hn,hs,hl=>by
  obtain⟨h1,h2⟩:=FR.mp hn;have hx:x∈ks:=hs x (A5 ..);refine(List.perm_cons_erase hx).trans (E7.cons _ (su h2 (λy hy=>?_) ?_))
  ·have:y≠x:=λe=>h1 (e ▸ hy);exact(List.mem_erase_of_ne this).mpr (hs y (Bi _ hy))
  rw[List.length_erase_of_mem hx,hl];rfl
theorem qM(val:Nat->Int):∀i,(FC val i).Nodup
 | 0=>nodup_nil
 | i+1=>by
  rw[firstMet_succ];unfold step_dedup;have ih:=qM val i;split
  ·exact ih
  rename_i h;rw[nodup_append];refine⟨ih,by simp,λa ha b hb e=>?_⟩;simp only[AJ] at hb;exact h (JI.mpr ⟨a,ha,by simp[e,hb]⟩)
def ded(ns:List Int):List Int:=FC (λi=>ns.getD i 0) ns.length
theorem wX(ns:List Int):(ded ns).Nodup:=qM _ _
theorem zA(ns:List Int):(ded ns).length<=ns.length:=firstMet_length_le _ _
theorem Qv{ns:List Int}{k:Int}:k∈ded ns↔k∈ns:=by
 have e:=firstMet_any (λi=>ns.getD i 0) ns.length k;have hr:(BN ns.length).map (λi=>ns.getD i 0)=ns:=by
  refine ext_getElem ζ λi h1 h2=>?_;simp at h1 h2;simp[h2]
 rw[hr] at e;have a1:∀l:List Int,l.any (· == k)=true↔k∈l:=λl=>by simp
 rw[<- a1,<- a1];unfold ded;rw[e]
section
variable {prog:A1}{w:BD}{A:BA}{E:Ap->AA->Prop}{s:AA}{S:IN}{es:Array (Int×Ap)}{ep:Nat}{t:AW}
theorem BK:∀{l:List (Int×Ap)},ElemsOf (FH prog w) l->∃ks:List Int,E5 (l.map (·.2)) ks/\∀k,k∈ks ↔ ∃e∈l,(FH prog w).is k e.2=true
 | [],_=>⟨[],.nil,λk=>by simp⟩
 | (h,v)::l,he=>by
  obtain⟨⟨k,hk,_⟩,_⟩:=he.head;obtain⟨tk,e⟩:=Ap.isInt_shape hk;dsimp only at e hk;subst e;obtain⟨ks,h1,h2⟩:=BK he.tail;refine⟨k::ks,.cons k tk h1,λj=>?_⟩;rw[A3,h2];constructor
  ·rintro(rfl|⟨e,a,b⟩)
   ·exact⟨_,A5 ..,hk⟩
   exact⟨e,Bi _ a,b⟩
  rintro⟨e,a,b⟩;rcases A3.mp a with rfl|a
  ·exact .inl ((FH prog w).inj _ _ _ b hk)
  exact .inr ⟨e,a,b⟩
theorem Xc{vs:List Ap}{acc:Array Ap}(h:ItemsOf (λi v=>vs[i]?=ID v) acc vs.length):acc.toList=vs:=by
 refine ext_getElem (by simpa using h.1) λi h1 h2=>?_;have:vs[i]?=ID acc[i]:=h.2 i acc[i] ζ;rw[AD h2] at this;simpa using this.symm
theorem Kl{Q:List Ap->AA->Prop}(hh:A.handled=IF)(hS:jj s.heap S es ep t)(hf:t.fits es.size=true)(ht:TOk (!bt w) t)(hz:es.size<=AN)
  (hQ:∀(s':AA)(vs:List Ap),vs.Perm (es.toList.map (·.2))->(∀c o,s.heap.get? c=ID o->s'.heap.get? c=ID o)->s'.gens=s.gens->s'.os=s.os->s.heap.objs.size<=s'.heap.objs.size->Q vs s') :
  AH (AM prog w) A (collect (.ref S)) Q E s:=by
 obtain⟨o,ho,hx,hd⟩:=id hS;have hty:s.TypeIs (.ref S) "set" := ⟨o,ho,hx.1⟩;have lt:S<s.heap.objs.size:=AQ ho;unfold collect;refine An (LI (D2 F.entry_proto_collect ?_));rw[BA.under_plainId F.plain_proto_collect _];show AH _ A.in1 (newList [] >>= λl=>ER (.builtin "list.__iadd__" ⟨[l,.ref S],[]⟩)) _ _ s;refine An (A6 ?_);refine Au ⟨Hn F.plain_list_iadd _,D2 F.entry_list_iadd ?_⟩;rw[BA.under_plainId F.plain_list_iadd _];have hS1:jj (s.heap.push { cls:=.type "list",data:=.seq ([]:List Ap).toArray }) S es ep t:=hS.get λo e=>AB _ e;have hL1:(s.heap.push { cls:=.type "list",data:=.seq ([]:List Ap).toArray }).get? s.heap.objs.size=ID { cls:=.type "list",data:=.seq ([]:List Ap).toArray }:=AO _ rfl;have hk1:∀c o,s.heap.get? c=ID o->(s.heap.push { cls:=.type "list",data:=.seq ([]:List Ap).toArray }).get? c=ID o:=λc o e=>AB _ e;have hty1:AA.TypeIs { s with heap:=s.heap.push { cls:=.type "list",data:=.seq ([]:List Ap).toArray } } (.ref S) "set" := ⟨o,hk1 _ _ ho,hx.1⟩;generalize s.heap.push { cls:=.type "list",data:=.seq ([]:List Ap).toArray }=h1 at hS1 hL1 hk1 hty1 |-;have ne1:s.heap.objs.size≠S:=Ki lt;show AH _ A.in1 (AR.List.listExtendWith (.ref s.heap.objs.size) (.ref S) (.ref s.heap.objs.size)) _ _ _;unfold AR.List.listExtendWith;refine An (wpAny_typeOf hty1 ?_);have q1:AR.List.listSameRef (.ref s.heap.objs.size) (.ref S)=false:=by simp[AR.List.listSameRef,ne1]
 rw[if_neg (by rw[q1];decide)];refine An (U9 (s:={ s with heap:=h1 }) hh hS1 hf ht hz λs2 I fp vs St hk2 hg2 ho2 ht2 hp hI hle hlt W st0 hfp=>?_);have hty2:s2.TypeIs (.ref S) "set" := ⟨o,hk2 _ _ (hk1 _ _ ho),hx.1⟩;refine An (Ct ?_);unfold AR.List.listLengthHint;refine An (wpAny_specialOf hty2 F.slot_set_len.lookup ?_)
 (generalize hid:("set.__len__" : String)=id0;(fail_if_success (clear hid id0));wp_delta;rw[show splitId id0=ID ("set","__len__") from by subst hid;decide +kernel];subst hid)
 refine An (G2 (b:=true) hty2 sub_set_self ?_);refine FA Z (wpAny_ite_true ψ (An (wpAny_typeOf hty2 (Au ?_))));rw[if_pos δ];have hSf:s.heap.objs.size∉fp:=λz=>by
  have l1:s.heap.objs.size<h1.objs.size:=AQ hL1;rcases(hfp _ z).2 with e|e
  ·exact ne1 e
  exact ES _ (BB l1 e)
 have hL2:=hk2 _ _ hL1;refine An (Da (An ?_));show AH _ A.in1 (updateSeq s.heap.objs.size (·.push .none) >>= λ_=>updateSeq s.heap.objs.size (·.pop)) _ _ _;refine An (wpAny_updateSeq hL2 Z ?_);have hL3:=G0 (BO (·.push Ap.none)) hL2 rfl;refine wpAny_updateSeq hL3 Z ?_;have hL4:=G0 (BO (·.pop)) hL3 rfl;have oth:∀b o,b≠s.heap.objs.size->s2.heap.get? b=ID o->((s2.heap.update s.heap.objs.size (BO (·.push Ap.none))).update s.heap.objs.size (BO (·.pop))).get? b=ID o:=
  λb o hb e=>(BQ _ _ (BS hb)).trans ((BQ _ _ (BS hb)).trans e)
 have W1:=W A.in1 (by simpa using hh);refine Au ⟨Hn F.plain_extend_loop _,codeAny_extend_loopS W1 (by rw[hp.length_eq,AC,D6];exact hz) _ hSf _ vs.length 0 _ _ _ Z (De _)
  (W1.frame 0 s2 _ s2.toks st0 (AV _) λb hb o e=>oth b o (λz=>hSf (z ▸ hb)) e) hL4 (ItemsOf.nil _) λs' acc' c' hm hS' hacc=>?_⟩
 show AH _ A (load s.heap.objs.size >>= _) _ _ s';refine An (wpAny_load hS' (Au ?_));rw[Xc hacc];have l2:s.heap.objs.size<s'.heap.objs.size:=AQ hS';refine hQ s' vs hp (λc o e=>?_) (hm.gens.trans hg2) (hm.os.trans ho2) (HH l2);have lc:c<s.heap.objs.size:=AQ e;have nI:c≠I:=λz=>by
  have l3:s.heap.objs.size<h1.objs.size:=AQ hL1;have l4:h1.objs.size<=I:=hle;rw[z] at lc;exact ES _ (BB (lt_trans lc l3) l4)
 exact hm.heap c o (by simp only[A3,Bz,or_false,not_or];exact⟨B1 lc,nI⟩) (oth c o (B1 lc) (hk2 _ _ (hk1 _ _ e)))
theorem Ir{l:List Int}{Q:Ap->AA->Prop}(hh:A.handled=IF)(hS:SetT (FH prog w) (!bt w) s.heap S (λk'=>l.any (· == k')) l.length)(hnd:l.Nodup)(h64:l.length<64)
   (h:∀(s':AA)(L:IN)(xs:List Ap)(ns':List Int)(k:Nat),s'.heap.get? L=ID (F0 "list" xs.toArray k)->E5 xs ns'->ns'.Perm l->(l.length<64->ns'.Pairwise (·<=·)) ->
   (∀c o,s.heap.get? c=ID o->s'.heap.get? c=ID o)->s'.gens=s.gens->s'.os=s.os->s.heap.objs.size<=L->Q (.ref L) s'):AH (AM prog w) A (call (.builtin "sorted") [.ref S]) Q E s:=by
 obtain⟨o,es,ep,t,ho,hex,hd,⟨hel,hmem,hb⟩,hf,hn,ht⟩:=hS;have hz:es.size<=AN:=fits_of_scanBound hb;obtain⟨ks,hks,hkm⟩:=BK hel;have hkp:ks.Perm l:=su hnd (λx hx=>(hkm x).mpr ((hmem x).mp (by simpa using hx))) (by rw[<- hn,<- D6,<- E5.length hks,AC]);refine Calls.call_function_entry kind_sorted plain_sorted entry_sorted (args_sorted1 (.ref S)) ?_;unfold AR.«sorted»;refine An (m:=checkCount "sorted" 1 1 _) (Au (An (Kl (by simpa using hh) ⟨o,ho,hex,hd⟩ hf ht hz λs1 vs hp hk1 hg1 ho1 hl1=>An (wpAny_newList ?_ ?_))))
 ·obtain⟨ms,hms,hmp⟩:=Sy hp hks;have hvl:vs.length=l.length:=by rw[E5.length hms,hmp.length_eq,hkp.length_eq]
  have hL:(s1.heap.push (F0 "list" vs.toArray 0)).get? s1.heap.objs.size=ID (F0 "list" vs.toArray 0):=AO _ rfl;show AH (AM prog w) A.in1 _ _ E { s1 with heap:=s1.heap.push (F0 "list" vs.toArray 0) };refine An (Ct (B3 slot_list_sort ⟨_,hL,rfl⟩ entry_list_sort (list_sort_tree hL hms ?_ λxs ns' a1 a2 a3=>⟨_,rfl,Au ⟨_,rfl,?_⟩⟩) (args_list_sort _)))
  ·rw[hvl];exact h64
  obtain⟨e,he⟩:=sortedHeap_at (out:=xs) hL;refine h _ _ xs.toList ns' e (by simpa using he) a1 (a2.trans (hmp.trans hkp)) (λ_=>a3) (λc o x=>?_) hg1 ho1 hl1;have lc:c<s1.heap.objs.size:=AQ (hk1 c o x);show(sortedHeap _ _ _ _).get? c=ID o;rw[sortedHeap_old (B1 lc) (by rw[size_push'];exact DT lc)];exact AB _ (hk1 c o x)
 rw[hp.length_eq,AC,D6];exact hz
end
end SRT
set_option maxHeartbeats 4000000
namespace L2
open PySem PySem.Spec PyProof.Rows
theorem zG:∀{xs:List Int}{us:List Ap},Vals (xs.map At) us->E5 us xs
 | [],_,h=>by cases h;exact .nil
 | x::xs,_,h=>by
  cases h with
  | cons r h=>
   obtain⟨t,rfl⟩:=r;exact .cons x t (zG h)
theorem wN:∀{us:List Ap}{xs:List Int},E5 us xs->Vals (xs.map At) us
 | _,_,.nil=>.nil
 | _,_,.cons n t h=>.cons ⟨t,rfl⟩ (wN h)
def tSS(K:AF)(ta:TA):TE:=λσ H Q=>ta σ H λvs H1=>∃(l:IN)(xs:List Int),vs=[.ref l]/\SqL K H1 l (xs.map At)/\xs.length<64 /\
 ∀(p:IN)(ys:List Int),H1 p=IF->ys.Perm (SRT.ded xs)->((SRT.ded xs).length<64->ys.Pairwise (·<=·))->Q (.ref p) (upd H1 p (.lst (ys.map At)))
section
variable {X:Cx}{pins:List (IN×Obj)}{s:AA}{σ:St}{H:Hp}
theorem Inv.drawn(I:Inv X pins σ H s)(d:Drawn):Inv X pins σ H { s with drawn:=d }:=
 I.step (g':=s.gens) (d':=d) (t':=s.toks) (h':=s.heap) (ch:=[]) (λ_ z=>nomatch z) (λb o _ _ _ e _=>e) (λb o _ _ _ e _=>⟨o.slots,e⟩) (λ_ _ _ _ n=>n) (λb o _ e=>⟨o,e⟩) (λ_ _ e=>e) (λ_ _ _ e=>e) (λb ps e=>⟨#[],by rw[e];simp⟩) (λ_ h=>h) I.hok I.bare
theorem ZG{a:Expr}{ta:TA}{p p2 pos pos2:Pos}(hc:X.calm=true)(hgl:Gl X "sorted")(hml:X.mg "sorted" = IF)(hg:Gl X "set")(hm:X.mg "set" = IF)(ha:PA X [a] ta)
  (hs:AK [a] X.env=[(false,eval a X.env)]:=by rfl)
  (he:AK [.Call (.Name "set" p2) [a] [] pos2] X.env=[(false,eval (.Call (.Name "set" p2) [a] [] pos2) X.env)]:=by rfl) :
  PE X (.Call (.Name "sorted" p) [.Call (.Name "set" p2) [a] [] pos2] [] pos) (tSS X.K ta):=by
 intro pins s σ H Q I h;refine Ff (gA I hgl hml JU ?_ δ δ);refine GY ?_ he rfl;rw[he];show AH _ _ (spliced ((false,eval (.Call (.Name "set" p2) [a] [] pos2) X.env)::[])) _ _ s;refine CL ?_;refine Call_ (gA I hg hm PyProof.Rows.boot_set (BE (thA (ha pos2 pins s σ H _ I h) λus s1 vs H1 I1 r1 q1=>?_) hs Z));obtain⟨l,xs,rfl,sq,hn,q⟩:=q1;cases r1 with
 | cons r rr=>
  cases rr;cases r;obtain⟨its,rv,pl,hz⟩:=I1.list sq;have hI:=zG rv;have hlen:its.length=xs.length:=E5.length hI;refine SRT.Tj (I1.ok.hd hc) pl.isList (by simpa using hI) (by simp[hlen,FG];omega) λh2 t2 hS hk=>C0 ?_;have eq:FC (λi=>xs.getD i 0) its.toArray.size=SRT.ded xs:=by unfold SRT.ded;rw[AZ,hlen]
  rw[eq] at hS;have hk2:∀c o,s1.heap.get? c=ID o->h2.get? c=ID o:=λc o e=>hk c o (AQ e) e;refine SRT.Ir (s:={ s1 with heap:=h2,toks:=t2 }) (I1.ok.hd hc) hS (SRT.wX xs) (LF (SRT.zA xs) hn) λs3 L ys ns k gL iL pL oL k3 g3 o3 l3=>?_;have le:s1.heap.objs.size<=L:=by
   obtain⟨o,_,_,_,e,_⟩:=hS;exact CM (HH (AQ e)) l3
  have hf:H1 L=IF:=I1.hok.fresh le;obtain⟨h3,g3',d3,t3,o3'⟩:=s3;cases g3;cases o3;have hl:ns.length<=AN:=by
   rw[pL.length_eq];exact CM (SRT.zA xs) (CM (HH hn) δ)
  refine⟨.ref L,_,((I1.drawn d3).laid (t':=t3) (h':=h3) (λc o e=>k3 c o (hk2 c o e)) le (show cu X.prog X.w _ h3 _ (.lst (ns.map At)) from⟨by simpa using hl,ys,k,wN iL,gL⟩)),rfl,q L ns hf pL oL⟩
theorem Ph{a:Expr}{ta:TA}{p p2 pos pos2:Pos}(hc:X.calm=true)(hgl:Gl X "sorted")(hml:X.mg "sorted" = IF)(hg:Gl X "set")(hm:X.mg "set" = IF)(ha:QA X [a] ta)
  (hs:AK [a] X.env=[(false,eval a X.env)]:=by rfl)
  (he:AK [.Call (.Name "set" p2) [a] [] pos2] X.env=[(false,eval (.Call (.Name "set" p2) [a] [] pos2) X.env)]:=by rfl) :
  QE X (.Call (.Name "sorted" p) [.Call (.Name "set" p2) [a] [] pos2] [] pos) (tSS X.K ta):=⟨ZG hc hgl hml hg hm ha.h hs he⟩
end
structure DA(K:AF)(x:Str)(st:Stmt)(f:IN)(od an:Option IN)(sl:Array (Option Ap))(oc kV dc pm cd ct:Ap):Prop where
 a:nsIn K Co x=ID (ID (.ref f))
 l:K.lookup f=ID ⟨oc,od,.func (fnOf x x (iD st) (fG st) (aj st) .none kV dc pm an cd ct),sl⟩
 c:codeIn K cd x=true
 k:keepIn K (.ref f)=true
theorem DA.d{K:AF}{h:Heap}{mg:Str->Option Ap}{x:Str}{st:Stmt}{f:IN}{od an:Option IN}{sl:Array (Option Ap)}{oc kV dc pm cd ct:Ap}(D:DA K x st f od an sl oc kV dc pm cd ct)(ps:List Str)(X:K.In h)(G:h.Ns Co mg)
  (hb:∀(kV doc pm:Ap)(an:Option IN)(cdv ct:Ap)(us:List Ap),us.length=ps.length->bindArgs (fnOf x x (iD st) (fG st) (aj st) .none kV doc pm an cdv ct) ⟨us,[]⟩=pure (ps.zip us)):Yk K mg x st ps f (fnOf x x (iD st) (fG st) (aj st) .none kV dc pm an cd ct):=
 acG X G D.a D.l D.c D.k hb
def DB(K:AF)(x:Str)(st:Stmt):Prop:=∃(f:IN)(od an:Option IN)(sl:Array (Option Ap)) (oc kV dc pm cd ct:Ap),DA K x st f od an sl oc kV dc pm cd ct
theorem DB.d{K:AF}{h:Heap}{mg:Str->Option Ap}{x:Str}{st:Stmt}(D:DB K x st)(ps:List Str)(X:K.In h)(G:h.Ns Co mg)
   (hb:∀(kV doc pm:Ap)(an:Option IN)(cdv ct:Ap)(us:List Ap),us.length=ps.length->bindArgs (fnOf x x (iD st) (fG st) (aj st) .none kV doc pm an cdv ct) ⟨us,[]⟩=pure (ps.zip us):=by
   intro _ _ _ _ _ _ us hl
   first
   | (obtain⟨z0,rfl⟩:=ln1 hl;rfl)
   | (obtain⟨z0,z1,rfl⟩:=ln2 hl;rfl)
   | (obtain⟨z0,z1,z2,rfl⟩:=ln3 hl;rfl)
   | (obtain⟨z0,z1,z2,z3,rfl⟩:=ln4 hl;rfl)
   | (obtain⟨z0,z1,z2,z3,z4,rfl⟩:=ln5 hl;rfl)):∃f fd,Yk K mg x st ps f fd:=by
 obtain⟨f,od,an,sl,oc,kV,dc,pm,cd,ct,a⟩:=D;exact⟨_,_,a.d ps X G hb⟩
def NS(K:AF):List Str->Prop
 | []=>True
 | x::r=>nsIn K Co x=ID IF/\NS K r
theorem NS.all{K:AF}:∀{l:List Str},NS K l->∀x∈l,nsIn K Co x=ID IF
 | y::r,h,x,hx=>(A3.mp hx).elim (λe=>e ▸ h.1) (NS.all h.2 x)
theorem Fun.okz{x qual:Str}{st:Stmt}{f:IN}{fd:D3}{N ps:List Str}{k:Nat}{sp:Sp}{P:A1}{w:BD}{K:AF}{mg:Str->Option Ap}{base:Heap}(F:Fun K x qual st f fd)(S:bA N ps (aj st))
   (hbody:∀(cdv:Ap)(A:BA)(outer:List Env)(s:AA)(H:Hp)(vs:List V)(Q:VK)(E:XK),jn k (A.deeper (KM qual (aj st) s.heap.objs.size f cdv))->sp vs H Q E ->
   ∃t,QB (Kh CX0 P w K mg base N qual (aj st) f cdv A outer s H E).nox (fG st) t/\t { nx:=λ_ H'=>Q .non H',rt:=Q } (L2.start N vs) H)
  (len:∀vs H Q E,sp vs H Q E->vs.length=ps.length:=by
   intro vs H Q E h
   repeat (first|(obtain⟨rfl,_⟩:=h;rfl)|obtain⟨_,h⟩:=h)):dw P w K mg base CX0 (k+1) f fd ps sp:=F.okq S len hbody
inductive Pg where
 | pick (l:Int)
 | one (k:Nat) (r:Pg)
 | wit (k:Nat) (r:Pg)
 | low (k:Nat) (a b:Pg)
 | msk (l:Int) (r:Pg)
 | tab
 | odd (d:AU)
structure OddOk(d:AU):Prop where
 tab:d≠.tuple [.str "table"]
 pick:∀l,d≠.tuple [.str "pick",.int l]
 one:∀(k:Nat) r,d≠.tuple [.str "is",.int (k:Int),r]
 wit:∀(k:Nat) r,d≠.tuple [.str "within",.int (k:Int),r]
 low:∀(k:Nat) a b,d≠.tuple [.str "below",.int (k:Int),a,b]
 msk:∀l r,d≠.tuple [.str "mask",.int l,r]
section
variable {prog:A1}{w:BD}{A:BA}{R:Result->AA->Prop}{s:AA}
abbrev qN(elt tg iter tg2 iter2:Expr)(scope:D0)(pos:Pos):Expr:=.ListComp elt [⟨tg,iter,[],0⟩,⟨tg2,iter2,[],0⟩] scope pos
theorem Um(elt tg iter tg2 iter2:Expr)(scope:D0)(pos:Pos)(it acc:Ap)(env:Env) :
  Kj (qN elt tg iter tg2 iter2 scope pos) 0 it acc env=(F4 iter.pos >>= λ_=>EF it >>= λr=>match r with
   | none=>pure (.done .next)
   | some v=>DD tg it v >>= λ_=>C7 tg env v >>= λ_=>
    eval iter2 env >>= λx=>F4 iter2.pos >>= λ_=>BC iter2 env x >>= λx=>GB [x] (IJ x) >>= λit2=>runOwn (.compStart (qN elt tg iter tg2 iter2 scope pos) 1 it2 acc env) env >>= λ_=>
     ER (.compLoop (qN elt tg iter tg2 iter2 scope pos) 0 it acc env)):=by rfl
theorem Ys(elt tg iter tg2 iter2:Expr)(scope:D0)(pos:Pos)(it acc:Ap)(env:Env) :
  Kj (qN elt tg iter tg2 iter2 scope pos) 1 it acc env=(F4 iter2.pos >>= λ_=>EF it >>= λr=>match r with
   | none=>pure (.done .next)
   | some v=>DD tg2 it v >>= λ_=>C7 tg2 env v >>= λ_=>
    (eval elt env >>= λx=>call (.builtin "list.append") [acc,x] >>= λ_=>pure ()) >>= λ_=>
     ER (.compLoop (qN elt tg iter tg2 iter2 scope pos) 1 it acc env)):=by rfl
theorem U0{elt tg iter tg2 iter2:Expr}{scope:D0}{pos:Pos}{it acc:Ap}{env:Env}
  (h0:DF (AM prog w) A (.compLoop (qN elt tg iter tg2 iter2 scope pos) 1 it acc env) R s)
  (h:AH (AM prog w) A (IJ it) (λit' s'=>DF (AM prog w) A (.compLoop (qN elt tg iter tg2 iter2 scope pos) 1 it' acc env) R s') (EG (AM prog w) A env λx s'=>R (.error x) s') s) :
  DF (AM prog w) A (.compStart (qN elt tg iter tg2 iter2 scope pos) 1 it acc env) R s:=by
 refine F5 (show AH _ _ ((compStart (qN elt tg iter tg2 iter2 scope pos) 1 it acc env).onRaise (λx=>do Kk x env;F4 theWindowsPlace)) _ _ s from wpAny_notedAt ?_);unfold compStart;show AH _ _ (ask >>= _) _ _ s;refine An (D4 (wpAny_ite ?_));split
 ·exact Au (AE Z h0)
 refine An (Da ?_);show AH _ _ (F4 iter2.pos >>= _) _ _ s;exact An (CA (An (A7 h (λit' s' h'=>Au (AE Z h')) λ_ _ x=>x)))
theorem WX{elt tg iter tg2 iter2:Expr}{scope:D0}{pos:Pos}{it acc:Ap}{env:Env}(hs2:∀x,BC iter2 env x=pure x)(J:Nat->AA->Prop)
   (turn:∀n s,J n s->AH (AM prog w) A (EF it) (λr s1=>match r with
   | none=>R (.ok .next) s1
   | some v=>AH (AM prog w) A (DD tg it v) (λ_ s1'=>AH (AM prog w) A (C7 tg env v) (λ_ s2=>
     AH (AM prog w) A (eval iter2 env) (λx s3=>AH (AM prog w) A (IJ x) (λit2 s4=>
      DF (AM prog w) A (.compStart (qN elt tg iter tg2 iter2 scope pos) 1 it2 acc env) (λr s5=>match r with | .ok _=>∃m,m<n/\J m s5 | .error _=>False) s4)
      (λ_ _=>False) s3) (λ_ _=>False) s2) (λ_ _=>False) s1') (λ_ _=>False) s1) (λ_ _=>False) s)
  (n:Nat) (h:J n s):DF (AM prog w) A (.compLoop (qN elt tg iter tg2 iter2 scope pos) 0 it acc env) R s:=by
 refine KO Z J (λn z hJ=>?_) n h;show AH _ A ((Kj (qN elt tg iter tg2 iter2 scope pos) 0 it acc env).onRaise (λy=>do Kk y env;IB y)) _ _ z;refine LA ?_;rw[Um];refine An (CA (An (A7 (turn n z hJ) (λr s1 h1=>?_) λ_ _ q=>q.elim)));cases r with
 | none=>exact Au h1
 | some v=>
  refine An (A7 h1 (λ_ s1' h1'=>?_) λ_ _ q=>q.elim);refine An (A7 h1' (λ_ s2 h2=>An (A7 h2 (λx s3 h3=>?_) λ_ _ q=>q.elim)) λ_ _ q=>q.elim);refine An (CA (An (CU (hs2 x) (An (Ct (A7 h3 (λit2 s4 h4=>?_) λ_ _ q=>q.elim))))));refine An (wpAny_runOwn (IE h4 λr s5 h5=>?_));cases r with
  | ok f=>exact Au ⟨rfl,h5⟩
  | error e=>exact h5.elim
theorem aal{elt tg iter tg2 iter2:Expr}{scope:D0}{pos:Pos}{it acc:Ap}{env:Env}(J:Nat->AA->Prop)
   (turn:∀n s,J n s->AH (AM prog w) A (EF it) (λr s1=>match r with
   | none=>R (.ok .next) s1
   | some v=>AH (AM prog w) A (DD tg2 it v) (λ_ s1'=>AH (AM prog w) A (C7 tg2 env v) (λ_ s2=>
     AH (AM prog w) A (eval elt env) (λx s4=>AH (AM prog w) A (call (.builtin "list.append") [acc,x]) (λ_ s5=>∃m,m<n/\J m s5) (λ_ _=>False) s4) (λ_ _=>False) s2) (λ_ _=>False) s1') (λ_ _=>False) s1) (λ_ _=>False) s)
  (n:Nat) (h:J n s):DF (AM prog w) A (.compLoop (qN elt tg iter tg2 iter2 scope pos) 1 it acc env) R s:=by
 refine KO Z J (λn z hJ=>?_) n h;show AH _ A ((Kj (qN elt tg iter tg2 iter2 scope pos) 1 it acc env).onRaise (λy=>do Kk y env;IB y)) _ _ z;refine LA ?_;rw[Ys];refine An (CA (An (A7 (turn n z hJ) (λr s1 h1=>?_) λ_ _ q=>q.elim)));cases r with
 | none=>exact Au h1
 | some v=>
  refine An (A7 h1 (λ_ s1' h1'=>?_) λ_ _ q=>q.elim);refine An (A7 h1' (λ_ s2 h2=>An (An (A7 h2 (λx s3 h3=>?_) λ_ _ q=>q.elim))) λ_ _ q=>q.elim);exact An (A7 h3 (λ_ s5 h5=>Au (Au ⟨rfl,h5⟩)) λ_ _ q=>q.elim)
end
end L2
set_option maxHeartbeats 8000000
namespace L2
open PySem PySem.Spec PyProof.Rows
def K5(mp:List (Option Nat))(wi:TI)(g:TG)(wi2:TI)(g2:TG)(te:TE):TE:=λσ H Q=>wi σ H λJ H1=>
 ∃W:Nat->Nat->List V->St->Hp->Prop,(∃m,W 0 m [] (cZ mp σ) H1)/\∀i m acc τ H2,W i m acc τ H2 ->
  (J.stop i H2/\∀d,H2 d=IF->Q (.ref d) (upd H2 d (.lst acc))) \/
  (J.go i H2/\∃N:List V->St->Hp->Prop,(∀acc' τ' H',N acc' τ' H'->∃m',m'<m/\W (i+1) m' acc' τ' H')/\∀x H3,J.yld i H2 x H3->g x τ H3 λτ1 H4=>wi2 τ1 H4 λJ2 H5=>
   ∃W2:Nat->Nat->List V->St->Hp->Prop,(∃m2,W2 0 m2 acc τ1 H5)/\∀j m2 acc2 τ2 H6,W2 j m2 acc2 τ2 H6 ->
    (J2.stop j H6/\N acc2 τ2 H6) \/
    (J2.go j H6/\acc2.length<AN/\∃N2:List V->St->Hp->Prop,(∀acc' τ' H',N2 acc' τ' H'->∃m',m'<m2/\W2 (j+1) m' acc' τ' H')/\∀x2 H7,J2.yld j H6 x2 H7->g2 x2 τ2 H7 λτ3 H8=>te τ3 H8 λv H9=>N2 (acc2++[v]) τ3 H9))
section
variable {X:Cx}{NX N:List Str}{kX:List (Str×B2)}{mp:List (Option Nat)}{scope:D0}
theorem Wl{tg iter tg2 iter2 elt:Expr}{pos:Pos}{wi wi2:TI}{g g2:TG}{te:TE}(N:List Str)(mp:List (Option Nat))(hNX:X.N=NX)(hkX:X.env.scope.names=kX)(S:lU NX kX N mp scope)(hc:X.calm=true)
  (hi:PI X tg iter wi)(hg:∀cl C s H fp,PG (aK X N scope cl C s H fp) tg g)(hi2:∀cl C s H fp,PI (aK X N scope cl C s H fp) tg2 iter2 wi2)(hg2:∀cl C s H fp,PG (aK X N scope cl C s H fp) tg2 g2)(he:∀cl C s H fp,PE (aK X N scope cl C s H fp) elt te)
  (hs:∀x,BC iter X.env x=pure x:=by intro _;rfl)(hs2:∀env x,BC iter2 env x=pure x:=by intro _ _;rfl):PE X (qN elt tg iter tg2 iter2 scope pos) (K5 mp wi g wi2 g2 te):=by
 intro pins s σ H Q I h;obtain⟨cl,hcl,hsub,hhas⟩:=lO (env:=X.env) (scope:=scope) λy hy hf=>I.ok.has y.1 (by
  rcases S.fre y hy hf with q|q
  ·exact .inl (show X.env.scope.names.lookup y.1=_ by rw[hkX];exact q)
  exact .inr (show X.env.scope.names.lookup y.1=_ by rw[hkX];exact q))
 rw[eval_ListComp];refine CS (use:=IF) Z hs hcl S.kind S.locs ?_;refine thn (hi pins s σ H _ I h) λv s1 h1=>thn h1 λitv s2 h2=>?_;obtain⟨it,fp,tn,J,H2,e,I2,T,st2,f2,W,⟨m0,w0⟩,turn⟩:=h2;subst e;refine A6 (EW S.nocell (by intro y hy;simp at hy) (λh3 hns hsb=>?_) S.kind);dsimp only at hns hsb |-;have hold:∀b∈fp,b<s2.heap.objs.size:=λb hb=>by
  obtain⟨o,q,_⟩:=T.obj _ _ st2 b hb;exact AQ q
 generalize hD:s2.heap.objs.size=D at hns hsb;generalize hH2:s2.heap.push { cls:=.type "list",dict:=IF,data:=.seq ([]:List Ap).toArray }=P2 at hns hsb |-;have hC:P2.objs.size=D+1:=by rw[<- hH2,Cb,hD]
 generalize hC':P2.objs.size=C at hns hsb |-;rw[hC'] at hC;have old:∀b o,s2.heap.get? b=ID o->h3.get? b=ID o:=λb o q=>by
  have hb:=AQ q;exact hsb.extBut b o (na1 hb hD hC) (AB _ (hH2 ▸ AB _ q))
 have accD:h3.get? D=ID { cls:=.type "list",data:=.seq ([]:List Ap).toArray }:=
  hsb.extBut _ _ (na2 hC) (AB _ (by rw[<- hH2,<- hD];exact AO _ Z))
 have hfr:D∉frs X.stack:=λz=>by
  rcases A3.mp (I2.jR D z) with q|q
  ·exact na0 I2.lt hD q.symm
  exact I2.Gy (na4 hD) q
 have I0:Inv (aK X N scope cl C s2 H2 fp) [(D,{ cls:=.type "list",data:=.seq ([]:List Ap).toArray })] (cZ mp σ) H2 { s2 with heap:=h3,toks:=s2.toks+([]:List (Str×Ap)).length }:=
  rF (s':={ s2 with heap:=h3,toks:=s2.toks+([]:List (Str×Ap)).length }) hNX hkX S I2 f2 hold (na3 hD hC) hsub hhas Z Z ⟨_,hns⟩ old λp hp=>by
   have ep:=AJ.mp hp;subst ep;exact⟨accD,I2.hok.fresh (na4 hD),na2 hC,hfr,λv z=>by cases z⟩
 have T0:tn 0 h3:=T.keep _ _ _ st2 λb _ o q=>old b o q;have no:∀{α:Type}{t:Sem α}{Q1 Q2:α->AA->Prop}{E:Ap->AA->Prop}{z:AA},AH (AM X.prog X.w) X.A t Q1 (λ_ _=>False) z->(∀a z,Q1 a z->Q2 a z)->AH (AM X.prog X.w) X.A t Q2 E z:=
  λq f=>A7 q f λ_ _ z=>z.elim
 have loop:∀z:AA,z={ s2 with heap:=h3,toks:=s2.toks+([]:List (Str×Ap)).length } ->
   DF (AM X.prog X.w) X.A (.compLoop (qN elt tg iter tg2 iter2 scope pos) 0 (.ref it) (.ref D) (CO scope cl C X.env))
    (Kn (AM X.prog X.w) X.A X.xe IF (EP X pins σ Q) (.ref D) C) z:=by
  rintro z rfl;have stat:∀{H':Hp}{pl:List (IN×Obj)},(∀b∈fp,H' b=IF)->(∀p∈pl,p.1=D)->∀b∈fp,lJ (aK X N scope cl C s2 H2 fp) pl H' b:=λhn hp b hb=>by
   have hb2:=hold b hb;refine⟨hn b hb,na1 hb2 hD hC,(uI hkX S I2 f2 hold (na3 hD hC) hsub hhas).exfs b hb,.inl hb,λx c q=>(f2 b hb).2.2.2.2.1 x c (hsub x c q),λp hpp=>?_⟩;have hpD:=hp p (by simpa [aK] using hpp);rw[hpD];exact(na0 hb2 hD).symm
  refine WX (env:=CO scope cl C X.env) (hs2 _) (λn z=>∃i acc τ H' its k,Inv (aK X N scope cl C s2 H2 fp) [(D,{ cls:=.type "list",data:=.seq (Ch its) k })] τ H' z/\tn i z.heap/\(∀b∈fp,H' b=IF)/\Vals acc its/\acc.length<=AN/\W i n acc τ H')
   ?_ m0 ⟨0,[],_,H2,[],0,I0,T0,λb hb=>(f2 b hb).1,.nil,De _,w0⟩
  rintro n s5 ⟨i,acc,τ,H5,its,k,I5,st5,fr5,va,hz,w5⟩;rcases turn i n acc τ H5 w5 with⟨stop,qn⟩|⟨go,N9,hN9,step⟩
  ·refine no (T.done (aK X N scope cl C s2 H2 fp) Z Z Z hc i _ s5 τ H5 _ I5 (stat fr5 ζ) st5 stop) λr s6 ⟨hr,I6⟩=>?_;subst hr;obtain⟨m6,hn6,_⟩:=I6.loc;refine⟨m6,hn6,λh' sb=>?_⟩;obtain⟨dD,nD,_,_,_⟩:=I6.pin (D,_) (AG _ (AJ.mpr Z));have U:=I6.base;have nC:H5 C=IF:=I6.free;have ne:∀b o,s2.heap.get? b=ID o->b≠C/\b≠D:=λb o q=>by
    exact⟨na1 (AQ q) hD hC,na0 (AQ q) hD⟩
   have keepC:∀b o,b≠C->s6.heap.get? b=ID o->h'.get? b=ID o:=λb o hb q=>(sb.2 b hb).trans q;have U':Un (frs X.stack) fp H2 (upd H5 D (.lst acc)) s2.heap h':=by
    refine⟨λb o q n1 hb hx=>keepC b o (ne b o q).1 (U.keep b o q n1 hb hx),λb o q n1 hb hx=>?_,λb o q n1 hx=>?_,λb o q hx=>?_,λb xs q=>?_,λb o xs q=>?_,λb ps q=>?_⟩
    ·obtain⟨sl,z⟩:=U.slot b o q n1 hb hx;exact⟨sl,keepC b _ (ne b o q).1 z⟩
    ·rw[aH (ne b o q).2];exact U.free b o q n1 hx
    ·obtain⟨o',z⟩:=U.there b o q hx;exact⟨o',keepC b _ (ne b o q).1 z⟩
    ·have z:=U.tups b xs q;rw[aH (aB z nD)];exact z
    ·have z:=U.frzs b o xs q;rw[aH (aB z nD)];exact z
    obtain⟨more,z⟩:=U.tbls b ps q;exact⟨more,by rw[aH (aB z nD)];exact z⟩
   have hok:HOk X.prog X.w (upd H5 D (.lst acc)) h':=λb u q=>by
    by_cases hb:b=D
    ·subst hb;rw[aD] at q;cases q;exact⟨hz,its,k,va,keepC _ _ (na2 hC) dD⟩
    rw[aH hb] at q;refine(I6.hok b u q).stay (λc v hcc z=>keepC c v ?_ z) (λc z=>by rw[aH (aB z nD)];exact z) λc xs z=>by rw[aH (aB z nD)];exact z
    rcases hcc with z1|z1
    ·subst z1;exact aB q nC
    exact aB z1 nC
   have I7:Inv X pins σ (upd H5 D (.lst acc)) { s6 with heap:=h' }:=I2.call' (s':={ s6 with heap:=h' }) (ch:=fp) I6.os U' hok I6.bare λb hb=>by
    obtain⟨_,a2,_,a4,a5,a6⟩:=f2 b hb;exact⟨a4,a2,a5,a6⟩
   exact⟨.ref D,_,I7,rfl,qn D nD⟩
  refine no (T.item (aK X N scope cl C s2 H2 fp) Z Z Z hc i _ s5 τ H5 _ I5 (stat fr5 ζ) st5 go) λr s6 ⟨u,hr,h6⟩=>?_;subst hr;refine no h6 λ_ s7 ⟨x,H7,I7,r7,y7,st7,fr7⟩=>?_;have I7':=I7.pinned (stat fr7 ζ) (T.obj _ _ st7);have ER:∀{H':Hp}{z:AA}{its':List Ap}{k':Nat}{τ1:St},Inv (aK X N scope cl C s2 H2 fp) ([(D,{ cls:=.type "list",data:=.seq (Ch its') k' })]++cG fp s7.heap) τ1 H' z ->
    tn (i+1) z.heap/\(∀b∈fp,H' b=IF)/\Inv (aK X N scope cl C s2 H2 fp) [(D,{ cls:=.type "list",data:=.seq (Ch its') k' })] τ1 H' z:=λ{H' z its' k' τ1} Iz=>by
   have get:∀b∈fp,∀o,s7.heap.get? b=ID o->z.heap.get? b=ID o/\H' b=IF:=λb hb o q=>by
    obtain⟨a1,a2,_⟩:=Iz.pin (b,o) (AG _ (AG _ (dM hb q)));exact⟨a1,a2⟩
   refine⟨T.keep _ _ _ st7 λb hb o q=>(get b hb o q).1,λb hb=>?_,Iz.fL⟩;obtain⟨o,q,_⟩:=T.obj _ _ st7 b hb;exact(get b hb o q).2
  refine no (hg cl C s2 H2 fp _ s7 τ H7 x u _ I7' r7 (step x H7 y7)) λ_ s8 ⟨τ1,H8,I8,q8⟩=>?_
  -- the second walk
  refine no (hi2 cl C s2 H2 fp _ s8 τ1 H8 _ I8 q8) λv9 s9 h9=>no h9 λitv2 s10 h10=>?_;obtain⟨it2,fp2,tn2,J2,H10,e2,I10,T2,st10,f10,W2,⟨m2,w10⟩,turn2⟩:=h10;subst e2;have stat2:∀{H':Hp}{its':List Ap}{k':Nat},(∀b∈fp2,H' b=IF)->∀b∈fp2,lJ (aK X N scope cl C s2 H2 fp) ([(D,{ cls:=.type "list",data:=.seq (Ch its') k' })]++cG fp s7.heap) H' b:=λ{H' its' k'} hn b hb=>by
   obtain⟨_,a2,a3,a4,a5,a6⟩:=f10 b hb;refine⟨hn b hb,a2,a3,a4,a5,λp hp=>?_⟩;rcases Cf.mp hp with z|z
   ·exact a6 p (EB _ z)
   rcases Cf.mp z with z|z
   ·have ep:=AJ.mp z;subst ep;exact a6 (D,{ cls:=.type "list",data:=.seq (Ch its) k }) (AG _ (EB _ (AJ.mpr Z)))
   exact a6 p (AG _ (AG _ z))
  have nD2:∀b∈fp2,b≠D:=λb hb=>by
   obtain⟨_,_,_,_,_,a6⟩:=f10 b hb;exact(a6 (D,{ cls:=.type "list",data:=.seq (Ch its) k }) (AG _ (EB _ (AJ.mpr Z)))).symm
  have inner:DF (AM X.prog X.w) X.A (.compLoop (qN elt tg iter tg2 iter2 scope pos) 1 (.ref it2) (.ref D) (CO scope cl C X.env))
    (λr s5=>match r with | .ok _=>∃m,m<n/\∃i acc τ H' its k,Inv (aK X N scope cl C s2 H2 fp) [(D,{ cls:=.type "list",data:=.seq (Ch its) k })] τ H' s5/\tn i s5.heap/\(∀b∈fp,H' b=IF)/\Vals acc its/\acc.length<=AN/\W i m acc τ H' | .error _=>False) s10:=by
   refine aal (env:=CO scope cl C X.env) (λn z=>∃j acc τ H' its k,Inv (aK X N scope cl C s2 H2 fp) ([(D,{ cls:=.type "list",data:=.seq (Ch its) k })]++cG fp s7.heap) τ H' z/\tn2 j z.heap/\(∀b∈fp2,H' b=IF)/\Vals acc its/\acc.length<=AN/\W2 j n acc τ H')
    ?_ m2 ⟨0,acc,τ1,H10,its,k,I10,st10,λb hb=>(f10 b hb).1,va,hz,w10⟩
   rintro n2 s11 ⟨j,acc2,τ2,H11,its2,k2,I11,st11,fr11,va2,hz2,w11⟩;rcases turn2 j n2 acc2 τ2 H11 w11 with⟨stop,qn⟩|⟨go2,hlt,N2,hN2,step2⟩
   ·refine no (T2.done (aK X N scope cl C s2 H2 fp) Z Z Z hc j _ s11 τ2 H11 _ I11 (stat2 fr11) st11 stop) λr s12 ⟨hr,I12⟩=>?_;subst hr;obtain⟨m',hm,w12⟩:=hN9 _ _ _ qn;obtain⟨a1,a2,a3⟩:=ER I12;exact⟨m',hm,i+1,acc2,τ2,H11,its2,k2,a3,a1,a2,va2,hz2,w12⟩
   refine no (T2.item (aK X N scope cl C s2 H2 fp) Z Z Z hc j _ s11 τ2 H11 _ I11 (stat2 fr11) st11 go2) λr s12 ⟨u2,hr,h12⟩=>?_;subst hr;refine no h12 λ_ s13 ⟨x2,H13,I13,r13,y13,st13,fr13⟩=>?_;have I13':=I13.pinned (stat2 fr13) (T2.obj _ _ st13);refine no (hg2 cl C s2 H2 fp _ s13 τ2 H13 x2 u2 _ I13' r13 (step2 x2 H13 y13)) λ_ s14 ⟨τ3,H14,I14,q14⟩=>?_;refine no (he cl C s2 H2 fp _ s14 τ3 H14 _ I14 q14) λy s15 ⟨v,H15,I15,rv,q15⟩=>?_;obtain⟨m',hm,w15⟩:=hN2 _ _ _ q15;have get2:∀b∈fp2,∀o,s13.heap.get? b=ID o->s15.heap.get? b=ID o/\H15 b=IF:=λb hb o q=>by
    obtain⟨a1,a2,_⟩:=I15.pin (b,o) (AG _ (AG _ (dM hb q)));exact⟨a1,a2⟩
   have t15:tn2 (j+1) s15.heap:=T2.keep _ _ _ st13 λb hb o q=>(get2 b hb o q).1;have f15:∀b∈fp2,H15 b=IF:=λb hb=>by
    obtain⟨o,q,_⟩:=T2.obj _ _ st13 b hb;exact(get2 b hb o q).2
   have I16:=I15.fL;obtain⟨dD,nD,_,_,_⟩:=I16.pin (D,_) (AG _ (EB _ (AJ.mpr Z)));have hlen:=va2.length;refine EK Fh ⟨_,dD,rfl⟩ E4 (EV _ _) (FI D its2.toArray k2 y (by rw[AZ];omega)) ⟨dD,?_⟩;obtain⟨k',q⟩:∃k',(s15.heap.update D (BO λa=>a.push y)).get? D=ID { cls:=.type "list",data:=.seq (its2++[y]).toArray k' }:=by
    have q:=F2 dD (λa=>a.push y);rw[show its2.toArray.push y=(its2++[y]).toArray by simp] at q;exact⟨_,q⟩
   have a4:Inv (aK X N scope cl C s2 H2 fp) (cG fp s7.heap) τ3 H15 s15:=I16.dW λp hp=>I16.pin p (AG _ (AG _ hp));have a5:Inv (aK X N scope cl C s2 H2 fp) (cG fp s7.heap) τ3 H15 { s15 with heap:=s15.heap.update D (BO λa=>a.push y),toks:=s15.toks }:=
    a4.turned (it:=D) (λb o hb z=>(BQ _ _ (BS hb)).trans z) nD (na2 hC) (.inr (na4 hD))
     (λx c z=>by
      obtain⟨_,o,h1,_⟩:=I2.cell x c (hsub x c z);exact na0 (AQ h1) hD) λp hp=>by
      have hb:=(gH (by simpa [aK] using hp)).1;exact na0 (hold _ hb) hD
   refine⟨m',hm,j+1,acc2++[v],τ3,H15,its2++[y],k',a5.dW λp hp=>?_,T2.keep _ _ _ t15 λb hb o z=>(BQ _ _ (nD2 b hb).symm).trans z,f15,va2.append (.cons rv .nil),by rw[A0,B4];omega,w15⟩;rcases Cf.mp hp with z|z
   ·have ep:=AJ.mp z;subst ep;exact⟨q,nD,na2 hC,hfr,λv z=>by cases z⟩
   exact a5.pin p (AG _ z)
  exact U0 inner (T2.self _ 0 _ _ _ st10 inner)
 exact Fm (loop _ Z) (T.self _ 0 _ _ _ T0 (loop _ Z))
end
end L2
set_option maxHeartbeats 4000000
namespace L2
open PySem PySem.Spec PyProof.Rows
def InW(g2:TG)(te:TE)(N:List V->St->Hp->Prop)(acc:List V)(τ1:St)(J2:It)(H5:Hp):Prop:=
 ∃W2:Nat->Nat->List V->St->Hp->Prop,(∃m2,W2 0 m2 acc τ1 H5)/\∀j m2 acc2 τ2 H6,W2 j m2 acc2 τ2 H6 ->
  (J2.stop j H6/\N acc2 τ2 H6) \/
  (J2.go j H6/\acc2.length<AN/\∃N2:List V->St->Hp->Prop,(∀acc' τ' H',N2 acc' τ' H'->∃m',m'<m2/\W2 (j+1) m' acc' τ' H')/\∀x2 H7,J2.yld j H6 x2 H7->g2 x2 τ2 H7 λτ3 H8=>te τ3 H8 λv H9=>N2 (acc2++[v]) τ3 H9)
def aa3(mp:List (Option Nat))(g:TG)(wi2:TI)(g2:TG)(te:TE)(σ:St)(Q:VK)(J:It)(H1:Hp):Prop:=
 ∃W:Nat->Nat->List V->St->Hp->Prop,(∃m,W 0 m [] (cZ mp σ) H1)/\∀i m acc τ H2,W i m acc τ H2 ->
  (J.stop i H2/\∀d,H2 d=IF->Q (.ref d) (upd H2 d (.lst acc))) \/
  (J.go i H2/\∃N:List V->St->Hp->Prop,(∀acc' τ' H',N acc' τ' H'->∃m',m'<m/\W (i+1) m' acc' τ' H')/\∀x H3,J.yld i H2 x H3->g x τ H3 λτ1 H4=>wi2 τ1 H4 (InW g2 te N acc τ1))
section
variable {mp:List (Option Nat)}{wi wi2:TI}{g g2:TG}{te:TE}{σ τ1:St}{H:Hp}{Q:VK}{R:It->Hp->Prop}{K:AF}{a:IN}{xs:List V}
theorem aaL(h:∀R:It->Hp->Prop,R=aa3 mp g wi2 g2 te σ Q->wi σ H R):K5 mp wi g wi2 g2 te σ H Q:=h _ rfl
end
section
variable {X:Cx}
theorem V4{NX:List Str}{kX:List (Str×B2)}{scope:D0}{tg iter tg2 iter2 elt:Expr}{pos:Pos}{wi wi2:TI}{g g2:TG}{te:TE}(N:List Str)(mp:List (Option Nat))(hNX:X.N=NX)(hkX:X.env.scope.names=kX)(S:lU NX kX N mp scope)(hc:X.calm=true)
  (hi:QI X tg iter wi)(hg:∀cl C s H fp,QG (aK X N scope cl C s H fp) tg g)(hi2:∀cl C s H fp,QI (aK X N scope cl C s H fp) tg2 iter2 wi2)(hg2:∀cl C s H fp,QG (aK X N scope cl C s H fp) tg2 g2)(he:∀cl C s H fp,QE (aK X N scope cl C s H fp) elt te)
  (hs:∀x,BC iter X.env x=pure x:=by intro _;rfl)(hs2:∀env x,BC iter2 env x=pure x:=by intro _ _;rfl):QE X (.ListComp elt [⟨tg,iter,[],0⟩,⟨tg2,iter2,[],0⟩] scope pos) (K5 mp wi g wi2 g2 te):=
 ⟨Wl N mp hNX hkX S hc hi.h (λcl C s H fp=>(hg cl C s H fp).h) (λcl C s H fp=>(hi2 cl C s H fp).h) (λcl C s H fp=>(hg2 cl C s H fp).h) (λcl C s H fp=>(he cl C s H fp).h) hs hs2⟩
end
end L2
namespace SRT
open PySem PySem.Builtin PySem.Builtin.List PyProof.Rows
def uW:SortKind:=(sortPriv% PySem.Builtin.KeyKind.tuples) true
def TK(s:AA)(x:Ap)(a k:Int):Prop:=∃q o n t u z,x=.ref q/\s.heap.get? q=ID o/\o.cls=.type "tuple" /\ o.data=.seq #[.int a t,.int k u,z] n
section
variable {prog:A1}{w:BD}{s:AA}{A:BA}{E:Ap->AA->Prop}
theorem Lz{a b:Int}{t u:Tok}{Q:Bool->AA->Prop}(h:Q (decide (a<b)) s):AH (AM prog w) A (oneLt' false (.int a t) (.int b u)) Q E s:=by
 rw[oneLt'_eq];refine An (wpAny_richCompare_same (op:=.Lt) (T := "int") (typeIs_int s a t) (typeIs_int s b u) slot_int_lt (call_int_lt ⟨(by intro h;cases h),?_⟩));exact Ee h
def ach(a k b l:Int):Bool:=decide (a<b\/(a=b/\k<l))
theorem W5{x y:Ap}{a k b l:Int}{Q:Bool->AA->Prop}(hx:TK s x a k)(hy:TK s y b l)(hd:k≠l)(h:Q (ach a k b l) s):AH (AM prog w) A (keyLt' uW x y) Q E s:=by
 obtain⟨q,o,n,t,u,z,rfl,ho,_,hs⟩:=hx;obtain⟨q',o',n',t',u',z',rfl,ho',_,hs'⟩:=hy;show AH _ _ (AR.List.listItems (.ref q) >>= λxs=>AR.List.listItems (.ref q') >>= _) _ _ s;refine An (GS ho hs ?_);refine An (GS ho' hs' ?_);show AH _ _ (forIn [((EQ a t,EQ b t'),0),((EQ k u,EQ l u'),1),((z,z'),2)] _ _ >>= _) _ _ s;rw[Fk];refine An (An (An (JY ?_)));unfold ach at h;by_cases e:a=b
 ·subst e;rw[beq_self_eq_true];refine Au ?_;simp only[Fk];refine An (An (JY ?_));rw[beq_false_of_ne hd];refine An (Lz (Au (Au (Au ?_))));rw[show decide (a<a\/a=a/\k<l)=decide (k<l) from decide_eq_decide.mpr ω] at h;exact h
 rw[beq_false_of_ne e];refine An (oneLt_int (Au (Au (Au ?_))));rw[show decide (a<b\/a=b/\k<l)=decide (a<b) from decide_eq_decide.mpr ω] at h;exact h
end
end SRT
namespace SRT
open PySem PyProof.Rows
def Rk(f:CF->Int)(xs:Array CF)(i:Nat):Int:=match xs[i]? with
 | some p=>f p
 | none=>0
theorem Rk.at{f:CF->Int}{xs ys:Array CF}{i j:Nat}(h:xs[i]?=ys[j]?):Rk f xs i=Rk f ys j:=by
 unfold Rk;rw[h]
def Asc(f:CF->Int)(xs:Array CF)(n:Nat):Prop:=∀i j,i<j->j<n->Rk f xs i<Rk f xs j
def Dsc(f:CF->Int)(xs:Array CF)(n:Nat):Prop:=∀i j,i<j->j<n->Rk f xs j<Rk f xs i
theorem Asc.snoc{f:CF->Int}{xs:Array CF}{n:Nat}(h:Asc f xs n)(h1:1<=n)(hl:Rk f xs (n-1)<Rk f xs n):Asc f xs (n+1):=λi j hij hj=>by
 by_cases e:j=n
 ·subst e;by_cases e2:i=j-1
  ·subst e2;exact hl
  have:=h i (j-1) ω ω;omega
 exact h i j hij ω
theorem Dsc.snoc{f:CF->Int}{xs:Array CF}{n:Nat}(h:Dsc f xs n)(h1:1<=n)(hl:Rk f xs n<Rk f xs (n-1)):Dsc f xs (n+1):=λi j hij hj=>by
 by_cases e:j=n
 ·subst e;by_cases e2:i=j-1
  ·subst e2;exact hl
  have:=h i (j-1) ω ω;omega
 exact h i j hij ω
theorem Dsc.mirror{f:CF->Int}{xs:Array CF}{n:Nat}(h:Dsc f xs n)(hn:n<=xs.size):Asc f (mirror xs 0 n ((n-0)/2)) n:=λi j hij hj=>by
 have e1:=getElem?_mirror_all (i:=0) hn i;have e2:=getElem?_mirror_all (i:=0) hn j;rw[if_pos ⟨De _,ω⟩] at e1 e2;rw[Rk.at e1,Rk.at e2];exact h _ _ ω ω
structure RB(a₀:Array CF)(st:DM):Prop where
 kind:kindOf st=uW
 perm:(Cc st).toList.Perm a₀.toList
 fail:KF st=IF
 pend:Cn st=#[]
theorem RB.size{a₀:Array CF}{st:DM}(h:RB a₀ st):(Cc st).size=a₀.size:=by
 have:=h.perm.length_eq;simpa using this
theorem RB.set{a₀ xs:Array CF}{st:DM}(h:RB a₀ st)(hp:xs.Perm (Cc st)):RB a₀ (setArr st xs):=
 ⟨h.kind,(Array.perm_iff_toList_perm.mp hp).trans h.perm,h.fail,h.pend⟩
section
variable {prog:A1}{w:BD}{s:AA}{A:BA}{E:Ap->AA->Prop}{a₀:Array CF}{f:CF->Int}
def Asks(prog:A1)(w:BD)(A:BA)(E:Ap->AA->Prop)(s:AA)(a₀:Array CF)(f:CF->Int):Prop:=
 ∀(st:DM)(x y:CF)(Q:Option Bool->DM->Prop),kindOf st=uW->x∈a₀.toList->y∈a₀.toList->f x≠f y->Q (ID (decide (f x<f y))) st->wpS (AM prog w) A E s (lt' x y) Q st
theorem Jh{st:DM}{i j:Nat}(hB:RB a₀ st)(hf:(a₀.toList.map f).Nodup)(hi:i<a₀.size)(hj:j<a₀.size)(hij:i≠j):Rk f (Cc st) i≠Rk f (Cc st) j:=by
 have hn:((Cc st).toList.map f).Nodup:=(hB.perm.map f).nodup_iff.mpr hf;have hz:=hB.size;have e1:(Cc st)[i]?=ID (Cc st)[i]:=getElem?_pos _ i ω;have e2:(Cc st)[j]?=ID (Cc st)[j]:=getElem?_pos _ j ω;unfold Rk;rw[e1,e2];show f _≠f _;intro e;refine hij ((List.getElem_inj (xs:=(Cc st).toList.map f) (i:=i) (j:=j) (h₀:=by simp;omega) (h₁:=by simp;omega) hn).mp ?_);simpa using e
theorem ltR{st:DM}{i' j':Nat}{Q:Option Bool->DM->Prop}(O:Asks prog w A E s a₀ f)(hf:(a₀.toList.map f).Nodup)(hB:RB a₀ st)(i j:Nat)(ei:i'=i)(ej:j'=j)(hi:i<a₀.size)(hj:j<a₀.size)(hij:i≠j)
  (h:Q (ID (decide (Rk f (Cc st) i<Rk f (Cc st) j))) st):wpS (AM prog w) A E s (ltAt' i' j') Q st:=by
 subst ei;subst ej;have hz:=hB.size;have hne:=Jh hB hf hi hj hij;rw[ltAt'_eq];refine CC (wpS_get ?_);refine CC (Qu ω λp hp=>?_);refine CC (Qu ω λq hq=>?_);have mp:p∈a₀.toList:=hB.perm.mem_iff.mp (by simpa using Array.mem_of_getElem? hp);have mq:q∈a₀.toList:=hB.perm.mem_iff.mp (by simpa using Array.mem_of_getElem? hq);unfold Rk at h hne;rw[hp,hq] at h hne;exact O st p q Q hB.kind mp mq hne h
theorem acI{st:DM}{Q:Option Nat->DM->Prop}(O:Asks prog w A E s a₀ f)(hf:(a₀.toList.map f).Nodup)(hB:RB a₀ st)(nrem:Nat)(en:nrem=a₀.size)(h1:1<=nrem)
  (h:∀n st',1<=n->n<=nrem->RB a₀ st'->Asc f (Cc st') n->Q (ID n) st'):wpS (AM prog w) A E s (countRun' 0 nrem) Q st:=by
 refine CC (LN (GU (I:=λx c z=>z=st/\c=(IF,x)/\Asc f (Cc st) x) (Q:=λc z=>z=st/\∃n,c=(IF,n)/\1<=n/\n<=nrem/\Asc f (Cc st) n/\(n<nrem->Rk f (Cc st) n<Rk f (Cc st) (n-1))) ?_ ?_ ⟨rfl,rfl,λi j _ _=>ω⟩) ?_)
 ·rintro x c z h1x hx ⟨rfl,rfl,ha⟩;dsimp only;refine CC (ltR O hf hB x (x-1) ω ω ω ω ω ?_);by_cases e:Rk f (Cc z) x<Rk f (Cc z) (x-1)
  ·rw[decide_eq_true e];exact DL ⟨rfl,x,rfl,h1x,ω,ha,λ_=>e⟩
  rw[decide_eq_false e];have:=Jh hB hf (i:=x) (j:=x-1) ω ω ω;exact DL ⟨rfl,rfl,ha.snoc h1x ω⟩
 ·rintro c z ⟨rfl,rfl,ha⟩;exact⟨rfl,_,rfl,ω,ω,(by rw[KW h1] at ha;rw[KW h1];exact ha),λq=>ω⟩
 rintro c z ⟨rfl,n,rfl,k1,k2,ha,hx⟩;dsimp only;by_cases he:(n == nrem)=true
 ·rw[if_pos he];exact DL (h n z k1 k2 hB ha)
 rw[if_neg he];have k3:n<nrem:=by have:¬(n=nrem):=(by simpa using he);omega
 by_cases hg:n>1
 ·rw[if_pos hg];refine CC (ltR O hf hB 0 (n-1) Z ω ω ω ω ?_);rw[decide_eq_true (ha 0 (n-1) ω ω)];exact DL (h n z k1 k2 hB ha)
 rw[if_neg hg];have e1:n=1:=ω;subst e1;have hd:Dsc f (Cc z) 2:=λi j hij hj=>by
  have:i=0:=by omega
  have:j=1:=by omega
  subst i;subst j;exact hx k3
 refine CC (wpS_lift (Da (AE Z ?_)));refine CC (LN (GU (I:=λx c z'=>z'=z/\c=(IF,x,0)/\Dsc f (Cc z) x) (Q:=λc z'=>z'=z/\∃n,c=(IF,n,0)/\2<=n/\n<=nrem/\Dsc f (Cc z) n) ?_ ?_ ⟨rfl,rfl,hd⟩) ?_)
 ·rintro x c z' h2x hx2 ⟨rfl,rfl,hd⟩;dsimp only;refine CC (ltR O hf hB x (x-1) ω ω ω ω ω ?_);have hne:=Jh hB hf (i:=x) (j:=x-1) ω ω ω;by_cases e:Rk f (Cc z') x<Rk f (Cc z') (x-1)
  ·rw[decide_eq_true e];dsimp only;rw[if_pos rfl,if_neg δ];exact DL ⟨rfl,rfl,hd.snoc ω e⟩
  rw[decide_eq_false e];dsimp only;rw[if_neg (AX)];refine CC (ltR O hf hB (x-1) x ω ω ω ω ω ?_);have hlt:Rk f (Cc z') (x-1)<Rk f (Cc z') x:=ω;rw[decide_eq_true hlt];exact DL ⟨rfl,x,rfl,h2x,ω,hd⟩
 ·rintro c z' ⟨rfl,rfl,hd⟩;rw[KW ω] at hd |-;exact⟨rfl,_,rfl,ω,AV _,hd⟩
 rintro c z' ⟨rfl,n,rfl,q1,q2,hd⟩;dsimp only;rw[if_neg δ];have hz:=hB.size;apply CC;apply wpS_reverse;have hB':RB a₀ (setArr z' (mirror (Cc z') 0 (0+n) ((0+n-0)/2))):=hB.set (mirror_perm _ _ _ _);have ha':Asc f (Cc (setArr z' (mirror (Cc z') 0 (0+n) ((0+n-0)/2)))) n:=by
  have:=hd.mirror ω;rw[zero_add];exact this
 generalize setArr z' (mirror (Cc z') 0 (0+n) ((0+n-0)/2))=st2 at hB' ha' |-;refine CC (LN (GU (I:=λx c z=>z=st2/\c=(IF,x)/\Asc f (Cc st2) x) (Q:=λc z=>z=st2/\∃n,c=(IF,n)/\1<=n/\n<=nrem/\Asc f (Cc st2) n) ?_ ?_ ⟨rfl,rfl,ha'⟩) ?_)
 ·rintro x c z h1x hx ⟨rfl,rfl,ha⟩;dsimp only;refine CC (ltR O hf hB' x (x-1) ω ω ω ω ω ?_);by_cases e:Rk f (Cc z) x<Rk f (Cc z) (x-1)
  ·rw[decide_eq_true e];exact DL ⟨rfl,x,rfl,ω,ω,ha⟩
  rw[decide_eq_false e];have:=Jh hB' hf (i:=x) (j:=x-1) ω ω ω;exact DL ⟨rfl,rfl,ha.snoc ω ω⟩
 ·rintro c z ⟨rfl,rfl,ha⟩;rw[KW ω] at ha |-;exact⟨rfl,_,rfl,ω,AV _,ha⟩
 rintro c z ⟨rfl,n,rfl,k1,k2,ha⟩;exact DL (h n z k1 k2 hB' ha)
end
end SRT
namespace SRT
open PySem PyProof.Rows
theorem Oa{f:CF->Int}{xs:Array CF}{k l:Nat}(h:Asc f xs k)(hk:k<xs.size)(hl:l<=k)(h1:∀i,i<l->Rk f xs i<Rk f xs k)(h2:∀i,l<=i->i<k->Rk f xs k<Rk f xs i):Asc f (bubble xs k (k-l)) (k+1):=by
 have g:∀i,Rk f (bubble xs k (k-l)) i=if i=l then Rk f xs k else if l<i/\i<=k then Rk f xs (i-1) else Rk f xs i:=λi=>by
  have e:=getElem?_bubble hk (k-l) ω i;rw[show k-(k-l)=l by omega] at e;split
  ·rename_i c;rw[if_pos c] at e;exact Rk.at e
  rename_i c;rw[if_neg c] at e;split
  ·rename_i c2;rw[if_pos c2] at e;exact Rk.at e
  rename_i c2;rw[if_neg c2] at e;exact Rk.at e
 intro i j hij hj;rw[g i,g j];by_cases a1:i=l
 ·rw[if_pos a1,if_neg ω,if_pos ω];exact h2 _ ω ω
 rw[if_neg a1];by_cases a2:l<i/\i<=k
 ·rw[if_pos a2,if_neg ω,if_pos ω];exact h _ _ ω ω
 rw[if_neg a2];by_cases b1:j=l
 ·rw[if_pos b1];exact h1 _ ω
 rw[if_neg b1];by_cases b2:l<j/\j<=k
 ·rw[if_pos b2];by_cases c:i=j-1
  ·omega
  exact h _ _ ω ω
 rw[if_neg b2];exact h _ _ ω ω
section
variable {prog:A1}{w:BD}{s:AA}{A:BA}{E:Ap->AA->Prop}{a₀:Array CF}{f:CF->Int}
theorem aed{st:DM}{n ok:Nat}{Q:Bool->DM->Prop}(O:Asks prog w A E s a₀ f)(hf:(a₀.toList.map f).Nodup)(hB:RB a₀ st)(hn:n<=a₀.size)(hok:1<=ok)(hon:ok<=n)(ha:Asc f (Cc st) ok)
  (h:∀st',RB a₀ st'->Asc f (Cc st') n->Q true st'):wpS (AM prog w) A E s (binarySort' 0 n ok) Q st:=by
 have hm:max ok 1=ok:=ω;refine CC (LN (GU (I:=λx c z=>RB a₀ z/\c=(IF,())/\Asc f (Cc z) x) (Q:=λc z=>RB a₀ z/\c=(IF,())/\Asc f (Cc z) n) ?_ (λc z hh=>by rw[hm,KW hon] at hh;exact hh) ⟨hB,rfl,by rw[hm];exact ha⟩) ?_)
 ·rintro k c z hk1 hk ⟨hz,rfl,hk2⟩;dsimp only;have hsz:=hz.size;refine CC (LN (GU (I:=λx c z'=>z'=z/\∃l r,c=(IF,l,r)/\l<=r/\r<=k/\r-l<=k-x/\(∀i,i<l->Rk f (Cc z) i<Rk f (Cc z) k)/\(∀i,r<=i->i<k->Rk f (Cc z) k<Rk f (Cc z) i)) (Q:=λc z'=>z'=z/\∃l,c=(IF,l,l)/\l<=k/\(∀i,i<l->Rk f (Cc z) i<Rk f (Cc z) k)/\(∀i,l<=i->i<k->Rk f (Cc z) k<Rk f (Cc z) i)) ?_ ?_ ⟨rfl,0,k,rfl,De _,AV _,AV _,λi hi=>ω,λi h1 h2=>ω⟩) ?_)
  ·rintro x c z' _ hx ⟨rfl,l,r,rfl,q1,q2,q3,q4,q5⟩;dsimp only;by_cases hl:l≥r
   ·rw[if_pos hl];have:l=r:=by omega
    subst this;exact DL ⟨rfl,l,rfl,q2,q4,q5⟩
   rw[if_neg hl];refine CC (ltR O hf hz k ((l+r)/2) ω ω ω ω ω ?_);have hne:=Jh hz hf (i:=k) (j:=(l+r)/2) ω ω ω;by_cases e:Rk f (Cc z') k<Rk f (Cc z') ((l+r)/2)
   ·rw[decide_eq_true e];refine DL ⟨rfl,l,(l+r)/2,rfl,ω,ω,ω,q4,λi h1 h2=>?_⟩;by_cases c:i=(l+r)/2
    ·rw[c];exact e
    have:=hk2 ((l+r)/2) i ω h2;omega
   rw[decide_eq_false e];refine DL ⟨rfl,(l+r)/2+1,r,rfl,ω,q2,ω,λi h1=>?_,q5⟩;by_cases c:i=(l+r)/2
   ·rw[c];omega
   have:=hk2 i ((l+r)/2) ω ω;omega
  ·rintro c z' ⟨rfl,l,r,rfl,q1,q2,q3,q4,q5⟩;have:l=r:=by omega
   subst this;exact⟨rfl,l,rfl,q2,q4,q5⟩
  rintro c z' ⟨rfl,l,rfl,q2,q4,q5⟩;dsimp only;refine CC (wpS_modify (DL ⟨hz.set (bubble_perm _ _ _),rfl,?_⟩));have:=Oa hk2 ω q2 q4 q5;show Asc f (bubble (Cc z') (0+k) (0+k-(0+l))) (k+1);rw[zero_add,zero_add];exact this
 rintro c z ⟨hz,rfl,hk⟩;exact DL (h z hz hk)
theorem ac1{st:DM}{Q:Unit->DM->Prop}(O:Asks prog w A E s a₀ f)(hf:(a₀.toList.map f).Nodup)(hB:RB a₀ st)(h1:1<=a₀.size)(h64:a₀.size<64)
  (h:∀st',(Cc st').toList.Perm a₀.toList->KF st'=IF->Asc f (Cc st') a₀.size->Q () st'):wpS (AM prog w) A E s sortRuns' Q st:=by
 refine CC (wpS_get ?_);dsimp only;have hs:=hB.size;dsimp only [Cc] at hs;simp only[hs];have hmr:(sortPriv% PySem.Builtin.minRun) a₀.size a₀.size 0=a₀.size:=by
  obtain⟨k,hk⟩:∃k,a₀.size=k+1:=⟨a₀.size-1,ω⟩;have:minRun' (k+1) a₀.size 0=a₀.size:=by
   rw[minRun'_succ,if_pos h64];rfl
  rw[<- hk] at this;exact this
 rw[hmr];refine CC (LN (GU (I:=λx c z=>(x=0/\c=(IF,0)/\RB a₀ z)\/(c=(IF,a₀.size)/\(Cc z).toList.Perm a₀.toList/\KF z=IF/\(Cn z).size=1/\Asc f (Cc z) a₀.size)) (Q:=λc z=>c=(IF,a₀.size)/\(Cc z).toList.Perm a₀.toList/\KF z=IF/\(Cn z).size=1/\Asc f (Cc z) a₀.size) ?step ?fin (.inl ⟨rfl,rfl,hB⟩)) ?post)
 case fin=>
  rintro c z (⟨hx,_,_⟩|hD)
  ·omega
  exact hD
 case step=>
  rintro x c z _ hx (⟨rfl,rfl,hz⟩|⟨rfl,d1,d2,d3,d4⟩)
  ·dsimp only;rw[if_neg ω];refine CC (acI O hf hz _ (Nat.sub_zero _) ω λn z' n1 n2 hz' ha=>?_);dsimp only;have fin:∀z':DM,RB a₀ z'->Asc f (Cc z') a₀.size->∀m,m=a₀.size->(Cc (KU z' ((Cn z').push (0,m,0)))).toList.Perm a₀.toList/\KF (KU z' ((Cn z').push (0,m,0)))=IF/\(Cn (KU z' ((Cn z').push (0,m,0)))).size=1/\Asc f (Cc (KU z' ((Cn z').push (0,m,0)))) a₀.size:=λz' hz' ha m hm=>
    ⟨hz'.perm,hz'.fail,(by show((Cn z').push _).size=1;rw[hz'.pend];rfl),ha⟩
   by_cases hlt:n<a₀.size
   ·rw[if_pos hlt];refine CC (wpS_lift (Da (AE Z ?_)));refine CC (aed O hf hz' (show min (a₀.size-0) a₀.size<=a₀.size by omega) n1 ω ha λz2 hz2 ha2=>?_);rw[if_neg (show ¬((!true)=true) by decide)];refine CC (wpS_get ?_);have hp2:(Cn z2).back?=IF:=by rw[hz2.pend];rfl
    rw[show min (a₀.size-0) a₀.size=a₀.size by omega] at ha2;dsimp only [Cn] at hp2;rw[hp2];refine CC (wpS_modify (DL (.inr ⟨?_,fin z2 hz2 ha2 _ ω⟩)));rw[show 0+min (a₀.size-0) a₀.size=a₀.size by omega]
   rw[if_neg hlt];have e:n=a₀.size:=ω;refine CC (wpS_get ?_);have hp2:(Cn z').back?=IF:=by rw[hz'.pend];rfl
   dsimp only [Cn] at hp2;rw[hp2];refine CC (wpS_modify (DL (.inr ⟨?_,fin z' hz' (e ▸ ha) _ e⟩)));rw[zero_add,e]
  dsimp only;rw[if_pos (AV _)];exact DL ⟨rfl,d1,d2,d3,d4⟩
 case post=>
  rintro c z ⟨rfl,d1,d2,d3,d4⟩;dsimp only;refine CC (LN (GU (I:=λ_ c z'=>c=(IF,())/\z'=z) (Q:=λc z'=>c=(IF,())/\z'=z) ?_ (λ_ _ hh=>hh) ⟨rfl,rfl⟩) ?_)
  ·rintro x c z' _ _ ⟨rfl,rfl⟩;refine CC (wpS_get ?_);refine Ym (λ_=>DL ⟨rfl,rfl⟩) λhg=>?_;have hg2:¬(Cn z').size<=1:=hg;omega
  rintro c z' ⟨rfl,rfl⟩;exact DL (h z' d1 d2 d4)
end
end SRT
namespace SRT
open PySem PyProof.Rows
section
variable {prog:A1}{w:BD}{s:AA}{A:BA}{E:Ap->AA->Prop}
theorem Xq{v:Ap}{a k:Int}{Q:Option Ap->AA->Prop}(h:TK s v a k)(q:∀t,Q (ID (.int a t)) s):AH (AM prog w) A (firstOfTuple' v) Q E s:=by
 obtain⟨p,o,n,t,u,z,rfl,ho,hc,hs⟩:=h;show AH _ _ (typeOf (.ref p) >>= λty=>_) _ _ s;refine An (wpAny_typeOf (T := "tuple") (show s.TypeIs (.ref p) "tuple" from⟨o,ho,hc⟩) ?_);rw[if_neg δ];exact An (GS ho hs (Au (q t)))
theorem Ew:∀{vs:List Ap}{Q:List (Option Ap)->AA->Prop},(∀v∈vs,∃a k,TK s v a k)->(∀(ws:List Ap)(ns:List Int),E5 ws ns->ws.length=vs.length->Q (ws.map ID) s)->AH (AM prog w) A (vs.mapM firstOfTuple') Q E s
 | [],Q,_,q=>by
  rw[List.mapM_nil];exact Au (q [] [] .nil Z)
 | v::vs,Q,h,q=>by
  rw[List.mapM_cons];obtain⟨a,k,hv⟩:=h v (A5 ..);refine An (Xq hv λt=>?_);refine An (Ew (vs:=vs) (λx hx=>h x (Bi _ hx)) λws ns hI hl=>?_);exact Au (q (.int a t::ws) (a::ns) (.cons a t hI) (by rw[EX,EX,hl]))
theorem Uj{v:Ap}{vs:List Ap}{ns:List Int}(hI:E5 (v::vs) ns):oneTypeOnly' (v::vs).toArray=pure (ID (.type "int")):=by
 simp only[oneTypeOnly'_eq,List.mapM_toArray,mapM_typeOf_ints hI,map_pure,pure_bind,DJ,Ha,IR];rw[if_pos ?_];rw[List.all_toArray,all_cons];have e:(GE "int" == GE "int")=true:=rfl;rw[e,Bool.true_and,all_map];exact Go.mpr λ_ _=>rfl
theorem aap{vs:List Ap}{Q:SortKind->AA->Prop}(h:∀v∈vs,∃a k,TK s v a k)(hn:1<=vs.length)(q:Q uW s):AH (AM prog w) A (keyKind' vs.toArray) Q E s:=by
 rw[keyKind'_eq];rw[List.mapM_toArray];rw[map_eq_pure_bind];refine An (An (Ew h λws ns hI hl=>Au ?_));have ha:(ws.map ID).toArray.all (·.isSome)=true:=by simp
 rw[if_pos ha];have hfm:(ws.map ID).toArray.filterMap id=ws.toArray:=by simp[filterMap_map]
 rw[hfm];cases ws with
 | nil=>rw[<- hl] at hn;cases hn
 | cons v ws=>
  rw[Uj hI];refine An (Da ?_);exact An (Au (Au q))
structure Cm(s:AA)(g:Ap->Int)(vs:List Ap):Prop where
 tk:∀v∈vs,∃a k,TK s v a k/\0<=k/\k<64/\g v=64*a+k
 nd:(vs.map g).Nodup
theorem WY{a k b l:Int}(h1:0<=k)(h2:k<64)(h3:0<=l)(h4:l<64):ach a k b l=decide (64*a+k<64*b+l):=decide_eq_decide.mpr ω
theorem Aa{vs:List Ap}{p:CF}(h:p∈(FL vs).toList):p.1∈vs/\p.2=p.1:=by
 unfold FL at h;rw[Array.toList_zip] at h;obtain⟨i,hi,rfl⟩:=L1 h;simp
theorem RL(vs:List Ap):(FL vs).toList.map (·.1)=vs:=by
 unfold FL;simp[List.map_fst_zip]
theorem aaP{g:Ap->Int}{vs:List Ap}(h:Cm s g vs):Asks prog w A E s (FL vs) λp=>g p.1:=by
 intro st x y Q hk hx hy hne q;obtain⟨a,k,h1,h2,h3,e1⟩:=h.tk x.1 (Aa hx).1;obtain⟨b,l,h4,h5,h6,e2⟩:=h.tk y.1 (Aa hy).1;rw[lt'_eq];refine CC (wpS_get ?_);rw[hk];refine CC (wpS_lift (E3 ?_));by_cases hkl:k=l
 ·-- the same second number: the first are unlike
  subst hkl;obtain⟨p,o,n,t,u,z,e,ho,hc,hs⟩:=h1;obtain⟨p',o',n',t',u',z',e',ho',hc',hs'⟩:=h4;have hab:a≠b:=λz=>hne (by show g x.1=g y.1;rw[e1,e2,z]);rw[e,e'];show AH _ _ (AR.List.listItems (.ref p) >>= λxs=>AR.List.listItems (.ref p') >>= _) _ _ s;refine An (GS ho hs ?_);refine An (GS ho' hs' ?_);show AH _ _ (forIn [((EQ a t,EQ b t'),0),((EQ k u,EQ k u'),1),((z,z'),2)] _ _ >>= _) _ _ s;rw[Fk];refine An (An (An (JY ?_)));rw[beq_false_of_ne hab];refine An (oneLt_int (Au (Au (Au ⟨rfl,DL ?_⟩))));have:decide (a<b)=decide (g x.1<g y.1):=decide_eq_decide.mpr ω;rw[this];exact q
 refine W5 h1 h4 hkl ⟨rfl,DL ?_⟩;rw[WY h2 h3 h5 h6,<- e1,<- e2];exact q
end
end SRT
namespace SRT
open PySem PyProof.Rows
section
variable {prog:A1}{w:BD}{s:AA}{A:BA}{E:Ap->AA->Prop}
theorem Cm.keep{g:Ap->Int}{vs:List Ap}{s':AA}(h:Cm s g vs)(k:∀q o,s.heap.get? q=ID o->o.cls=.type "tuple" -> s'.heap.get? q=ID o):Cm s' g vs:=
 ⟨λv hv=>by
  obtain⟨a,b,⟨q,o,n,t,u,z,e,ho,hc,hs⟩,r⟩:=h.tk v hv;exact⟨a,b,⟨q,o,n,t,u,z,e,k q o ho hc,hc,hs⟩,r⟩,h.nd⟩
theorem T8{g:Ap->Int}{vs:List Ap}{xs:Array CF}(hp:xs.toList.Perm (FL vs).toList)(h:Asc (λp=>g p.1) xs (FL vs).size):((xs.map (·.2)).toList.map g).Pairwise (· < ·):=by
 have hz:xs.size=(FL vs).size:=by
  have:=hp.length_eq;simpa using this
 refine IX.mpr λi j hi hj hij=>?_;have hix:i<xs.size:=by simpa using hi
 have hjx:j<xs.size:=by simpa using hj
 have e:∀(k:Nat)(hk:k<xs.size),g xs[k].2=Rk (λp=>g p.1) xs k:=λk hk=>by
  have m:xs[k]∈(FL vs).toList:=hp.mem_iff.mp ζ;unfold Rk;rw[getElem?_pos xs k hk];show g _=g _;rw[(Aa m).2]
 have a1:=h i j hij ω;rw[<- e i hix,<- e j hjx] at a1;simpa using a1
theorem ace{a:IN}{vs:List Ap}{n:Nat}{P:Fin->AA->Prop}{g:Ap->Int}(ho:s.heap.get? a=ID (F0 "list" vs.toArray n))(hR:Cm s g vs)
  (hlen:vs.length<64)(h:∀xs:Array Ap,xs.toList.Perm vs->(xs.toList.map g).Pairwise (· < ·)->P (.done (.ret .none)) { s with heap:=sortedHeap s.heap a vs xs }):AH (AM prog w) A (AR.«list.sort» ⟨[.ref a],[]⟩) P E s:=by
 rw[list_sort_plain];have la:a<s.heap.objs.size:=AQ ho;refine An (GS ho Z (An (listUpdate_at ho Z ?_)));obtain⟨e,he⟩:∃e,(s.heap.update a (BO λ_=>#[])).get? a=ID (F0 "list" #[] e):=⟨_,get?_update_seq ho λ_=>#[]⟩;refine An (seqEpoch_at he Z (An (IQ (An (wpAny_newList (Ct ?_))))));have h6:(((s.heap.update a (BO λ_=>#[])).push (F0 "tuple" vs.toArray 0)).push (F0 "list" #[] 0)).get? a=ID (F0 "list" #[] e):=by
  rw[Heap.get?_push_ne _ _ _ (by rw[size_push',size_update];exact B1 (Nat.le_succ_of_le la)),Heap.get?_push_ne _ _ _ (by rw[size_update];exact B1 la),he]
 have hR6:Cm { s with heap:=((s.heap.update a (BO λ_=>#[])).push (F0 "tuple" vs.toArray 0)).push (F0 "list" #[] 0) } g vs:=hR.keep λq o hq hc=>by
  have hne:q≠a:=λz=>by
   rw[z,ho] at hq;cases hq;exact absurd (show GE "list" = GE "tuple" from hc) δ
  exact AB _ (AB _ ((BQ _ _ (BS hne)).trans hq))
 show AH _ A _ P E { s with heap:=((s.heap.update a (BO λ_=>#[])).push (F0 "tuple" vs.toArray 0)).push (F0 "list" #[] 0) };dsimp only;by_cases h2:(vs.toArray.size<2)
 ·rw[if_pos h2,if_pos h2];refine(An (Au ?_));rw[StateT.run_pure];refine An (Au (An (seqEpoch_at h6 Z (An (listUpdate_at h6 Z ?_ (hsz2:=?z))))))
  case z=>rw[Array.size_map];show(FL vs).size<=_;rw[pairsOf_size,Lv];omega
  simp only[L8,bne_self_eq_false,if_false];have e0:((vs.toArray.zip vs.toArray).map (·.2)).toList=vs:=by rw[show(vs.toArray.zip vs.toArray).map (·.2)=(FL vs).map (·.2) from rfl,Eh]
  refine Au (h _ (by rw[e0]) ?_);rw[e0]
  match vs,h2 with
  | [],_=>exact .nil
  | [v],_=>exact IT _ _
  | _::_::t,h2=>exact absurd h2 ζ
 rw[if_neg h2,if_neg h2];refine An (aap (λv hv=>?_) (by simp at h2;omega) ?_)
 ·obtain⟨a,k,t,_⟩:=hR6.tk v hv;exact⟨a,k,t⟩
 refine An (A7 (ac1 (a₀:=FL vs) (f:=λp=>g p.1) (st:=DM.mk' uW (vs.toArray.zip vs.toArray) #[] 7 IF) (Q:=λ_ z=>(Cc z).toList.Perm (FL vs).toList/\KF z=IF/\Asc (λp=>g p.1) (Cc z) (FL vs).size) (aaP hR6) ?nd ⟨rfl,E7.refl _,rfl,rfl⟩ (by rw[pairsOf_size];simp at h2;omega) (by rw[pairsOf_size];exact hlen) λz d1 d2 d3=>⟨d1,d2,d3⟩) ?_ λ_ _ e=>e)
 case nd=>
  have:=hR.nd;rw[<- RL vs,F7] at this;exact this
 rintro⟨⟨⟩,z⟩ s' ⟨rfl,d1,d2,d3⟩;have hm:((Cc z).map (·.2)).toList.Perm vs:=by
  have:=d1.map (·.2);rw[<- toList_map,<- toList_map,Eh] at this;exact this
 refine An (seqEpoch_at h6 Z (An (listUpdate_at h6 Z ?_ (hsz2:=?z))))
 case z=>
  have:=hm.length_eq;rw[D6] at this;show((Cc z).map (·.2)).size<=_;rw[this,Lv];omega
 dsimp only;rw[d2];simp only[L8,bne_self_eq_false,if_false];exact Au (h _ hm (T8 d1 d3))
theorem Yx{l:IN}{vs:List Ap}{Q:Ap->AA->Prop}{g:Ap->Int}(hl:s.heap.IsList l vs.toArray)(hR:Cm s g vs)(hlen:vs.length<64)
  (h:∀xs:Array Ap,xs.toList.Perm vs->(xs.toList.map g).Pairwise (· < ·)->Q (.ref (s.heap.objs.size+1)) { s with heap:=sortedAll s.heap vs xs }):AH (AM prog w) A (call (.builtin "sorted") [.ref l]) Q E s:=by
 refine Calls.call_function_entry kind_sorted plain_sorted entry_sorted (args_sorted1 (.ref l)) ?_;unfold AR.«sorted»;refine An (m:=checkCount "sorted" 1 1 _) (Au (An (collect_list hl (An (wpAny_newList ?_)))));have hz:((s.heap.push (F0 "list" #[] 0)).update s.heap.objs.size (BO (· ++ vs.toArray))).objs.size=s.heap.objs.size+1:=size_update .. |>.trans (size_push' _ _);have hL:(((s.heap.push (F0 "list" #[] 0)).update s.heap.objs.size (BO (· ++ vs.toArray))).push (F0 "list" vs.toArray 0)).get? (s.heap.objs.size+1)=ID (F0 "list" vs.toArray 0):=hz ▸ AO _ rfl;show AH (AM prog w) A.in1 _ _ E { s with heap:=((s.heap.push (F0 "list" #[] 0)).update s.heap.objs.size (BO (· ++ vs.toArray))).push (F0 "list" vs.toArray 0) };rw[hz];refine An (Ct (B3 slot_list_sort ⟨_,hL,rfl⟩ entry_list_sort (ace hL (hR.keep λq o hq hc=>?_) hlen λxs hp ho=>⟨_,rfl,Au ⟨_,rfl,h xs hp ho⟩⟩) (args_list_sort _)));have hne:s.heap.objs.size≠q:=λz=>by
  exact B1 (AQ hq) z.symm
 exact AB _ ((BQ _ _ hne).trans (AB _ hq))
end
end SRT
namespace L2
open PySem PySem.Spec PyProof.Rows
def rkT(key:IN->Int×Int)(p:IN):Int:=64*(key p).1+(key p).2
def ac2:List V->Hp->VK->Prop:=λvs H Q=>∃(l:IN)(ps:List IN)(key:IN->Int×Int),vs=[.ref l]/\H l=ID (.lst (ps.map AT))/\ps.length<64 /\
 (∀p∈ps,(∃v,H p=ID (.tup [.int (key p).1,.int (key p).2,v]))/\0<=(key p).2/\(key p).2<64)/\(ps.map (rkT key)).Nodup /\
 ∀(d:IN)(qs:List IN),H d=IF->qs.Perm ps->(qs.map (rkT key)).Pairwise (· < ·)->Q (.ref d) (upd H d (.lst (qs.map AT)))
theorem Dr:∀{ps:List IN}{us:List Ap},Vals (ps.map AT) us->us=ps.map DO
 | [],_,h=>by cases h;rfl
 | p::ps,_,h=>by
  cases h with
  | cons r h=>
   cases r;rw[Dr h];rfl
theorem Ef:∀(ps:List IN),Vals (ps.map AT) (ps.map DO)
 | []=>.nil
 | p::ps=>.cons rfl (Ef ps)
def rkV(key:IN->Int×Int):Ap->Int
 | .ref p=>rkT key p
 | _=>0
theorem RJ:∀{xs:List Ap}{ps:List IN},xs.Perm (ps.map DO)->∃qs:List IN,xs=qs.map DO/\qs.Perm ps:=λ{xs ps} h=>by
 have hx:∀v∈xs,∃p,v=DO p:=λv hv=>by
  obtain⟨p,_,e⟩:=C9.mp (h.mem_iff.mp hv);exact⟨p,e.symm⟩
 obtain⟨qs,rfl⟩:∃qs:List IN,xs=qs.map DO:=by
  clear h
  induction xs with
  | nil=>exact⟨[],rfl⟩
  | cons v xs ih=>
   obtain⟨p,rfl⟩:=hx v (A5 ..);obtain⟨qs,rfl⟩:=ih λx m=>hx x (Bi _ m);exact⟨p::qs,rfl⟩
 refine⟨qs,rfl,?_⟩;have:=h.filterMap λv=>match v with | .ref p=>ID p|_=>IF
 simpa [filterMap_map,Function.comp_def] using this
section
variable {X:Cx}
theorem NQ:dR X (.builtin "sorted") ac2:=by
 intro pins s σ H xs us Q I rv h;obtain⟨l,ps,key,rfl,el,hl,hp,hnd,q⟩:=h;cases rv with
 | cons r rr=>
  cases rr;cases r;obtain⟨its,rl,pl,hz⟩:=I.list (SqL.of el);have e:=Dr rl;subst e;have hg:(λv=>rkV key v)∘DO=rkT key:=rfl;refine SRT.Yx (g:=rkV key) pl.isList ⟨λv hv=>?_,?_⟩ (by rw[AC];exact hl) λys hy ho=>?_
  ·obtain⟨p,hm,rfl⟩:=C9.mp hv;obtain⟨⟨v,ep⟩,k1,k2⟩:=hp p hm;obtain⟨ts,rt,pt,_⟩:=I.tuple (SqT.of ep);obtain⟨ob,g1,g2,n,g3⟩:=pt;cases rt with
   | cons r1 rt=>
    cases rt with
    | cons r2 rt=>
     cases rt with
     | cons r3 rt=>
      cases rt;obtain⟨t,rfl⟩:=r1;obtain⟨u,rfl⟩:=r2;exact⟨(key p).1,(key p).2,⟨p,ob,n,t,u,_,rfl,g1,g2,g3⟩,k1,k2,rfl⟩
  ·rw[F7];exact hnd
  obtain⟨qs,e,hq⟩:=RJ hy;rw[e,F7] at ho;obtain⟨n,he⟩:=sortedAll_at s.heap (ps.map DO) ys;have le:s.heap.objs.size<=s.heap.objs.size+1:=le_succ _;have hf:H (s.heap.objs.size+1)=IF:=I.hok.fresh le;refine⟨.ref (s.heap.objs.size+1),_,I.laid (t':=s.toks) (λc o z=>sortedAll_old z) le (show cu X.prog X.w _ _ _ (.lst (qs.map AT)) from⟨aO (by rw[AC,hq.length_eq];omega),qs.map DO,n,Ef qs,?_⟩),rfl,q _ qs hf hq ho⟩;rw[he];have:ys=(qs.map DO).toArray:=by rw[<- e]
  rw[this]
end
end L2
namespace SRT
open PySem PyProof.Rows
theorem G8:mroOf (.type "reversed")=pure [.type "reversed",.type "object"]:=by rw[mroOf_type];kernel_rfl
theorem aai:typeLookup (.type "reversed") "__new__" = pure (ID (.builtin "reversed.__new__")):=by rw[F6,EO];kernel_rfl
theorem JW:Bind.madeBy (.type "reversed")=pure (ID "reversed.__new__"):=madeBy_type G8 aai ψ
theorem XM(a:Ap):checkTypeCall "reversed" ⟨[a],[]⟩=pure ():=by kernel_rfl
theorem XS(a:Ap):checkBuiltinCall "reversed.__new__" ⟨[.type "reversed",a],[]⟩=pure ():=by kernel_rfl
theorem BJ:LJ table "reversed.__new__" = ID AR.«reversed.__new__»:=KE (by kernel_rfl)
theorem z8:plainId "reversed.__new__" = true:=by decide +kernel
theorem aag:isSubtype (.type "list_reverseiterator") (.type "reversed")=pure false:=by rw[E8];kernel_rfl
theorem lu:Slot "list_reverseiterator" "__next__" "list_reverseiterator.__next__" :=
 .of (owner := "list_reverseiterator") (n := "__next__") (by rw[F6,EO];kernel_rfl) ψ ψ ψ (by first|exact .inl ψ|exact .inr ψ) (by rw[E8];kernel_rfl)
theorem zQ:Slot "list_reverseiterator" "__iter__" "list_reverseiterator.__iter__" :=
 .of (owner := "list_reverseiterator") (n := "__iter__") (by rw[F6,EO];kernel_rfl) ψ ψ ψ (by first|exact .inl ψ|exact .inr ψ) (by rw[E8];kernel_rfl)
theorem yg:LJ table "list_reverseiterator.__next__" = ID AR.«list_reverseiterator.__next__»:=KE (by kernel_rfl)
theorem Kd:LJ table "list_reverseiterator.__iter__" = ID AR.«dict_keyiterator.__iter__»:=entryFor_alias (id' := "dict_keyiterator.__iter__") (by kernel_rfl) Z ψ (by kernel_rfl)
theorem Ci(a:Ap):JP "list_reverseiterator.__next__" ⟨[a],[]⟩:=by unfold JP;kernel_rfl
theorem Oc(a:Ap):JP "list_reverseiterator.__iter__" ⟨[a],[]⟩:=by unfold JP;kernel_rfl
def tO(h:Heap)(rt l:IN)(j:Int):Prop:=h.get? rt=ID { cls:=.type "list_reverseiterator",data:=.fields #[.ref l,.int j 0] }
section
variable {prog:A1}{w:BD}{A:BA}{E:Ap->AA->Prop}{s:AA}{rt l:IN}{j:Int}
theorem tO.ty(h:tO s.heap rt l j):s.TypeIs (.ref rt) "list_reverseiterator" := ⟨_,h,rfl⟩
theorem Vm{items:Array Ap}{x:Ap}{Q:Option Ap->AA->Prop}(hI:tO s.heap rt l j)(hl:s.heap.IsList l items)(h0:0<=j)(hx:items[j.toNat]?=ID x)
  (hQ:∀h',tO h' rt l (j-1)->B0 rt s.heap h'->Q (ID x) { s with heap:=h' }):AH (AM prog w) A (EF (.ref rt)) Q E s:=by
 obtain⟨oL,hoL,_,nL,hdL⟩:=hl;unfold EF;refine An (E3 (B5 (name:=GH "__next__") hI.ty lu (B3 lu hI.ty yg ?_ (Ci _))));show AH _ _ (field (.ref rt) 1 >>= _) _ _ s;refine An (Cs hI Z (x:=.int j 0) Z ?_);dsimp only;rw[if_neg ω];refine An (Cs hI Z (x:=.ref l) Z ?_);refine An (DC hoL hdL ?_);dsimp only;rw[hx];refine An (CB hI ζ λh1 g1 b1=>?_);exact Au ⟨_,rfl,Au (hQ h1 g1 b1)⟩
theorem UW{α:Type}(hh:A.handled=IF){P:α->AA->Prop}{E':Ap->AA->Prop}(h:∀(h':Heap)(e:Ap),(∀c o,s.heap.get? c=ID o->h'.get? c=ID o)->AA.TypeIs { s with heap:=h' } e "StopIteration" -> E' e { s with heap:=h' }) :
  AH (AM prog w) A (newExc (.type "StopIteration") [] >>= λe=>(raiseNew e:Sem α)) P E' s:=by
 refine An ?_;simp only[newExc,newTuple];refine An (A6 (An (m:=LL _ _) (CU (a:=Ap.none) (by first|rfl|(simp only[LL];rfl)) ?_)) (by size_fits))
 refine A6 ?_ (by size_fits);simp only[raiseNew];refine An (wpAny_handled ?_);rw[hh];exact An (Au (wpAny_throw (h _ (.ref _) (λc o e=>AB _ (AB _ e)) ⟨_,AO _ rfl,rfl⟩)))
theorem YK{Q:Option Ap->AA->Prop}(hh:A.handled=IF)(hI:tO s.heap rt l j)(h0:j<0)
  (hQ:∀h',Heap.ExtBut rt s.heap h'->Q IF { s with heap:=h' }):AH (AM prog w) A (EF (.ref rt)) Q E s:=by
 unfold EF;refine An (E3 (B5 (name:=GH "__next__") hI.ty lu (B3 lu hI.ty yg ?_ (Ci _))));show AH _ _ (field (.ref rt) 1 >>= _) _ _ s;refine An (Cs hI Z (x:=.int j 0) Z ?_);dsimp only;rw[if_pos h0];refine An (Da ?_);refine An ?_;show AH _ _ (newExc (.type "StopIteration") [] >>= λe=>(raiseNew e:Sem _)) _ _ s;refine UW (show A.in1.handled=IF from hh) λh' e k te=>?_;refine An (G2 (T := "StopIteration") (b:=true) te LD ?_);exact Au (hQ h' λb o _ z=>k b o z)
theorem Ji{Q:Ap->AA->Prop}(hI:tO s.heap rt l j)(h:Q (.ref rt) s):AH (AM prog w) A (IJ (.ref rt)) Q E s:=by
 refine wpAny_pyIter_slot hI.ty zQ (B3 zQ hI.ty Kd ?_ (Oc _));show AH _ _ (ret (.ref rt)) _ _ s;exact Au ⟨_,rfl, "list_reverseiterator",_,hI.ty,lu.lookup,h⟩
end
end SRT
namespace SRT
open PySem PyProof.Rows
theorem Ov:isSubtype (.type "reversed") (.type "reversed")=pure true:=by rw[E8];kernel_rfl
section
variable {prog:A1}{w:BD}{A:BA}{E:Ap->AA->Prop}{s:AA}{l:IN}{items:Array Ap}
theorem YJ{P:PySem.Fin->AA->Prop}(hL:s.heap.IsList l items)(h:P (.done (.ret (.ref s.heap.objs.size))) { s with heap:=s.heap.push { cls:=.type "list_reverseiterator",data:=.fields #[.ref l,.int ((items.size:Int)-1) 0] } }) :
  AH (AM prog w) A (AR.«reversed.__new__» ⟨[.type "reversed",.ref l],[]⟩) P E s:=by
 have hT:=hL.typeIs;have hs:=Ov;unfold AR.«reversed.__new__»
 wp_walk
 refine CU Iy.lookup ?_;refine An (CU (Iy.bind _) ?_);show AH _ _ (rule "reversed.__new__.own-method" >>= _) _ _ s;refine An (Da (An (LI ?_)));obtain⟨oL,ho,_,nL,hd⟩:=hL;refine FY Iy.plain F.entry_list_reversed (Iy.check _ _ _ _ _ _ _ _ hT (F.args_list_reversed_1 _) ?_);show AH _ _ (AR.List.listItems (.ref l) >>= λxs=>newFields "list_reverseiterator" [.ref l,Db ((xs.size:Int)-1)] >>= λv=>ret v) _ _ s;exact An (GS ho hd (An (A6 (Au (Au h)))))
theorem X3{Q:Ap->AA->Prop}(hL:s.heap.IsList l items)(h:Q (.ref s.heap.objs.size) { s with heap:=s.heap.push { cls:=.type "list_reverseiterator",data:=.fields #[.ref l,.int ((items.size:Int)-1) 0] } }) :
  AH (AM prog w) A (call (.type "reversed") [.ref l]) Q E s:=by
 have hmro:=G8;have hmade:=JW;have hsub:=aag;have hct:=XM (.ref l);refine wpAny_call (F5 ?_);show AH _ _ (callAny (.type "reversed") _) _ _ _;refine Au (AE (Code.quiet_builtin _ ψ) (D2 F.entry_type_call ?_));rw[BA.under_plain (Lu "reversed" [.ref l] []) (units_type_call_type "reversed" [.ref l] [])];have h1:(GE "reversed" == GE "type")=false:=by decide +kernel
 have h2:((LO "reversed").bind (·.mro.findSome? λt=>(LO t).bind λb=>if b.noNew then ID true else if b.attrs.any (·.1 == "__new__") then ID false else IF)).getD false=false:=by decide +kernel
 iterate 60 (try any_goals first|assumption|wp_step)
 refine FY z8 BJ (CU (XS _) (YJ hL ?_));dsimp only;have hT:AA.TypeIs { s with heap:=s.heap.push { cls:=.type "list_reverseiterator",data:=.fields #[.ref l,.int ((items.size:Int)-1) 0] } } (.ref s.heap.objs.size) "list_reverseiterator" := ⟨_,AO _ rfl,rfl⟩
 iterate 60 (try any_goals first|assumption|wp_step)
end
end SRT
namespace L2
open PySem PySem.Spec PyProof.Rows
def Itv(K:AF)(a:IN)(n:Nat):It:=
 ⟨λi H=>∃xs x,SqL K H a xs/\xs.length=n/\i<n/\xs[n-1-i]?=ID x,λi H x H'=>H'=H/\∀xs,SqL K H a xs->xs[n-1-i]?=ID x,λi H=>n<=i⟩
theorem Ul{P:A1}{w:BD}{K:AF}{tg:Expr}(a it:IN)(n:Nat):Turn P w K tg (Itv K a n) [it] it (λi h=>SRT.tO h it a ((n:Int)-1-i)) where
 mem:=by simp
 obj:=λi h st b hb=>by
  have e:b=it:=by simpa using hb
  subst e;exact⟨_,st,λv z=>by cases z⟩
 keep:=λi h h' st k=>k it ζ _ st
 item:=by
  intro X hP hw hK hc i pins s σ H E I hf st hg;subst hP hw hK;obtain⟨xs,x,hq,hl,hi,hx⟩:=hg;obtain⟨its,rv,p,hz⟩:=I.list hq;obtain⟨u,hu,ru⟩:=rv.get hx;obtain⟨f0,f1,f2,f3,f4,f5⟩:=hf it ζ;refine SRT.Vm st p.isList ω (x:=u) (by rw[show((n:Int)-1-i).toNat=n-1-i by omega];simpa using hu) λh' st' sb=>?_;have I1:Inv X pins σ H { s with heap:=h' }:=I.turned (t':=s.toks) (λb o hb e=>(sb.2 b hb).trans e) f0 f1 f3 f4 f5;have st2:SRT.tO h' it a ((n:Int)-1-((i+1:Nat):Int)):=by
   rw[show(n:Int)-1-((i+1:Nat):Int)=(n:Int)-1-i-1 by omega];exact st'
  exact⟨u,rfl,J1 (s:={ s with heap:=h' }) st' Z Z δ ⟨x,H,I1,ru,⟨rfl,λys hy=>by rw[I.qt hy hq];exact hx⟩,st2,λb hb=>(hf b hb).1⟩⟩
 done:=by
  intro X hP hw hK hc i pins s σ H E I hf st hg;subst hP hw hK;replace hg:n<=i:=hg;obtain⟨f0,f1,f2,f3,f4,f5⟩:=hf it ζ;exact SRT.YK (I.ok.hd hc) st ω λh' eb=>⟨rfl,I.turned (t':=s.toks) (λb o hb e=>eb b o hb e) f0 f1 f3 f4 f5⟩
 self:=λ_ _ _ _ _ st h=>SRT.Ji st h
def acv(K:AF)(ta:TA):TI:=λσ H R=>ta σ H λvs H1=>∃a xs,vs=[.ref a]/\SqL K H1 a xs/\R (Itv K a xs.length) H1
section
variable {X:Cx}{tg:Expr}
theorem abL{a:Expr}{ta:TA}{p pos:Pos}(hg:Gl X "reversed")(hm:X.mg "reversed" = IF)(ha:PA X [a] ta)(hs:AK [a] X.env=[(false,eval a X.env)]:=by rfl):PI X tg (.Call (.Name "reversed" p) [a] [] pos) (acv X.K ta):=by
 intro pins s σ H R I h;refine Call_ (gA I hg hm boot_reversed (BE (thA (ha pos pins s σ H _ I h) λus s1 vs H1 I1 r1 q1=>?_) hs Z));obtain⟨l,xs,e,g1,q⟩:=q1;subst e;cases r1 with
 | cons r rr=>
  cases rr;cases r;obtain⟨its,rv,p1,hz1⟩:=I1.list g1;have hl:=rv.length;refine SRT.X3 p1.isList ?_;have b1:SRT.tO (s1.heap.push { cls:=.type "list_reverseiterator",data:=.fields #[.ref l,.int ((its.toArray.size:Int)-1) 0] }) s1.heap.objs.size l ((xs.length:Int)-1-((0:Nat):Int)):=by
   have e:=AO s1.heap (o:={ cls:=.type "list_reverseiterator",data:=.fields #[.ref l,.int ((its.toArray.size:Int)-1) 0] }) rfl;unfold SRT.tO;rw[e,show((its.toArray.size:Int)-1)=(xs.length:Int)-1-((0:Nat):Int) by rw[AZ];omega]
  refine SRT.Ji (s:={ s1 with heap:=_ }) b1 ?_;refine⟨s1.heap.objs.size,[s1.heap.objs.size],_,_,H1,rfl,I1.kept (t':=s1.toks) λb o e=>AB _ e,Ul l _ xs.length,b1,λb hb=>?_,q⟩;have e:b=s1.heap.objs.size:=by simpa using hb
  subst e;exact I1.Dl (AV _) (I1.hok.fresh (AV _))
theorem abx{a:Expr}{ta:TA}{p pos:Pos}(hg:Gl X "reversed")(hm:X.mg "reversed" = IF)(ha:QA X [a] ta)(hs:AK [a] X.env=[(false,eval a X.env)]:=by rfl):QI X tg (.Call (.Name "reversed" p) [a] [] pos) (acv X.K ta):=⟨abL hg hm ha.h hs⟩
theorem adF{K:AF}{a:IN}{xs:List V}{g:TG}{tb:TS}{D:Ends}{σ:St}{H:Hp}{R:It->Hp->Prop}(hR:R=(λJ H1=>∃W:Nat->Nat->St->Hp->Prop,(∃m,W 0 m σ H1)/\∀i m σ H,W i m σ H ->
  (J.stop i H/\D.nx σ H)\/(J.go i H/\∃N:St->Hp->Prop,(∀σ' H',N σ' H'->∃m',m'<m/\W (i+1) m' σ' H')/\∀x H',J.yld i H x H'->g x σ H' λσ2 H2=>tb { D with nx:=N,ct:=N,bk:=D.nx } σ2 H2)))
  (Pv:Nat->St->Hp->Prop)(h0:Pv 0 σ H)(hl:∀i σ H,Pv i σ H->SqL K H a xs)(hs:∀i x σ H,xs.reverse[i]?=ID x->Pv i σ H->g x σ H λσ2 H2=>tb { D with nx:=Pv (i+1),ct:=Pv (i+1),bk:=D.nx } σ2 H2)(hd:∀σ H,Pv xs.length σ H->D.nx σ H):R (Itv K a xs.length) H:=by
 subst hR;refine⟨λi m σ H=>m=xs.length-i/\i<=xs.length/\Pv i σ H,⟨xs.length,by simp,De _,h0⟩,?_⟩;rintro i m σ H ⟨rfl,hi,p⟩;have q:=hl i σ H p;by_cases hlt:i<xs.length
 ·have ex:xs[xs.length-1-i]?=ID xs[xs.length-1-i]:=AD ω;refine .inr ⟨⟨xs,_,q,rfl,hlt,ex⟩,Pv (i+1),λσ' H' p'=>⟨xs.length-(i+1),ω,rfl,hlt,p'⟩,λx H' y=>?_⟩;obtain⟨e,y⟩:=y;subst e;refine hs i x σ _ ?_ p;rw[List.getElem?_reverse hlt];exact y xs q
 have e:i=xs.length:=ω;subst e;exact .inl ⟨AV _,hd σ H p⟩
end
theorem vK{α β:Type}(f:α->β):∀(l:List α)(j:Nat),(l.eraseIdx j).map f=(l.map f).eraseIdx j
 | [],_=>rfl
 | _::_,0=>rfl
 | a::l,j+1=>by
  show f a::(l.eraseIdx j).map f=f a::(l.map f).eraseIdx j;rw[vK f l j]
end L2
namespace SRT
open PySem PyProof.Rows
theorem Td(a b c:Ap):checkTypeCall "range" ⟨[a,b,c],[]⟩=pure ():=by kernel_rfl
theorem Tg(a b c:Ap):checkBuiltinCall "range.__new__" ⟨[.type "range",a,b,c],[]⟩=pure ():=by kernel_rfl
theorem SJ(obj a b c:Ap):JP "object.__init__" ⟨[obj,a,b,c],[]⟩:=by
 unfold JP;rw[signature?_of (id := "object.__init__") (n:=['_','_','t','i','n','i','_','_']) (o:=['t','c','e','j','b','o']) (by kernel_rfl) F.owner_object];kernel_rfl
theorem m5:Slot "range" "__reversed__" "range.__reversed__" :=
 .of (owner := "range") (n := "__reversed__") (by rw[F6,EO];kernel_rfl) ψ ψ ψ (by first|exact .inl ψ|exact .inr ψ) (by rw[E8];kernel_rfl)
theorem Ke:LJ table "range.__reversed__" = ID AR.«range.__reversed__»:=KE (by kernel_rfl)
theorem Od(a:Ap):JP "range.__reversed__" ⟨[a],[]⟩:=by unfold JP;kernel_rfl
theorem RV:isSubtype (.type "range_iterator") (.type "reversed")=pure false:=by rw[E8];kernel_rfl
section
variable {prog:A1}{w:BD}{A:BA}{E:Ap->AA->Prop}{s:AA}
theorem call_range_3{a b:Int}{t u v:Tok}{Q:Ap->AA->Prop}(hd:AR.divisionGoesByPylong (b-a) (-1)=false)
  (h:Q (.ref s.heap.objs.size) { s with heap:=s.heap.push { cls:=.type "range",data:=.fields #[.int a t,.int b u,.int (-1) v] } }) :
  AH (AM prog w) A (call (.type "range") [.int a t,.int b u,.int (-1) v]) Q E s:=
 callType_new F.called_range δ (Td _ _ _) (Tg _ _ _) (λobj=>SJ obj _ _ _) F.entry_range_new
  (AutoRange.range___new___type_int_int_int_1 a b (-1) t u v F.called_range.sub δ) ⟨hd,⟨_,AO _ rfl,rfl⟩,h⟩
theorem DY(a b:Int):AR.Range.rangeSize a b (-1)=((a-b).toNat:Int):=by
 unfold AR.Range.rangeSize;rw[if_neg δ,show(-(-1):Int)=1 by decide];split <;> omega
theorem small_down{a b:Int}(ha:-(2^62)<=a)(ha':a<2^62)(hb:-(2^62)<=b)(hb':b<2^62):AR.Range.small a b (-1)=true:=by
 unfold AR.Range.small;rw[DY];simp only[AR.Range.rangeFitsLong,CH,or_eq_true,decide_eq_true_eq,beq_iff_eq,show ¬(-1:Int)>0 by decide,if_false];omega
theorem Rn{r:IN}{n:Int}{t u v:Tok}{P:PySem.Fin->AA->Prop}(hr:IsRange s.heap r 0 n 1 t u v)(h0:0<=n)(h1:n<2^62)(h:P (.done (.ret (.ref s.heap.objs.size))) { s with heap:=s.heap.push { cls:=.type "range_iterator",data:=.fields #[Db (n-1),Db n,Db (-1)] } }) :
  AH (AM prog w) A (AR.«reversed.__new__» ⟨[.type "reversed",.ref r],[]⟩) P E s:=by
 have hT:s.TypeIs (.ref r) "range" := ⟨_,hr,rfl⟩;have hs:=Ov;unfold AR.«reversed.__new__»
 wp_walk
 refine CU m5.lookup ?_;refine An (CU (m5.bind _) ?_);show AH _ _ (rule "reversed.__new__.own-method" >>= _) _ _ s;refine An (Da (An (LI ?_)));refine FY m5.plain Ke (m5.check _ _ _ _ _ _ _ _ hT (Od _) ?_);have hsz:AR.Range.rangeSize 0 n 1=n:=by rw[rangeSize_one];split <;> omega
 show AH _ _ (AR.Range.rangeFields (.ref r) >>= _) _ _ s;unfold AR.Range.rangeFields;refine An (An (Cs hr Z (x:=.int 0 t) Z (An (CU (a:=ID 0) Z ?_))));refine An (Cs hr Z (x:=.int n u) Z (An (CU (a:=ID n) Z ?_)));refine An (Cs hr Z (x:=.int 1 v) Z (An (CU (a:=ID 1) Z ?_)));refine Au ?_;dsimp only;have hsm:(AR.Range.rangeFitsLong 0&&AR.Range.rangeFitsLong n&&AR.Range.rangeFitsLong 1&&AR.Range.rangeFitsLong (-1)&&AR.Range.rangeFitsLong (0-1)&&AR.Range.rangeFitsLong n)=true:=by
  simp only[AR.Range.rangeFitsLong,CH,decide_eq_true_eq];omega
 rw[hsz,hsm,if_neg δ,if_pos rfl,show(0:Int)+(n-1)*1=n-1 by omega];exact An (A6 (Au (Au h)))
theorem NT{r:IN}{n:Int}{t u v:Tok}{Q:Ap->AA->Prop}(hr:IsRange s.heap r 0 n 1 t u v)(h0:0<=n)(h1:n<2^62)(h:Q (.ref s.heap.objs.size) { s with heap:=s.heap.push { cls:=.type "range_iterator",data:=.fields #[Db (n-1),Db n,Db (-1)] } }) :
  AH (AM prog w) A (call (.type "reversed") [.ref r]) Q E s:=by
 have hmro:=G8;have hmade:=JW;have hsub:=RV;have hct:=XM (.ref r);refine wpAny_call (F5 ?_);show AH _ _ (callAny (.type "reversed") _) _ _ _;refine Au (AE (Code.quiet_builtin _ ψ) (D2 F.entry_type_call ?_));rw[BA.under_plain (Lu "reversed" [.ref r] []) (units_type_call_type "reversed" [.ref r] [])];have h1':(GE "reversed" == GE "type")=false:=by decide +kernel
 have h2:((LO "reversed").bind (·.mro.findSome? λt=>(LO t).bind λb=>if b.noNew then ID true else if b.attrs.any (·.1 == "__new__") then ID false else IF)).getD false=false:=by decide +kernel
 iterate 60 (try any_goals first|assumption|wp_step)
 refine FY z8 BJ (CU (XS _) (Rn hr h0 h1 ?_));dsimp only;have hT:AA.TypeIs { s with heap:=s.heap.push { cls:=.type "range_iterator",data:=.fields #[Db (n-1),Db n,Db (-1)] } } (.ref s.heap.objs.size) "range_iterator" := ⟨_,AO _ rfl,rfl⟩
 iterate 60 (try any_goals first|assumption|wp_step)
end
end SRT
namespace L2
open PySem PySem.Spec PyProof.Rows
def Ub(lo:Int)(n:Nat):It:=⟨λi _=>i<n,λi H x H'=>H'=H/\x=.int (lo-i),λi _=>n<=i⟩
theorem Dv{P:A1}{w:BD}{K:AF}{tg:Expr}(it:IN)(lo:Int)(n:Nat):Turn P w K tg (Ub lo n) [it] it (λi h=>IZ h it (lo+(i:Nat)*(-1)) ((n:Int)-(i:Nat)) (-1)) where
 mem:=by simp
 obj:=λi h st b hb=>by
  have e:b=it:=by simpa using hb
  subst e;exact⟨_,st,λv z=>by
   have z':C4 _=Data.cell v:=z;cases z'⟩
 keep:=λi h h' st k=>k it ζ _ st
 item:=by
  intro X hP hw hK hc i pins s σ H E I hf st hg;subst hP hw hK;obtain⟨f0,f1,f2,f3,f4,f5⟩:=hf it ζ;have W:=Walks.range (prog:=X.prog) (w:=X.w) (I.ok.hd hc) it lo (-1) n;refine W.item i s _ _ hg st λv h' tk hv st' kk=>?_;obtain⟨t,rfl⟩:=hv;have I1:Inv X pins σ H { s with heap:=h',toks:=tk }:=I.turned (λb o hb e=>kk b o (by simpa using hb) e) f0 f1 f3 f4 f5;refine⟨_,rfl,J1 (s:={ s with heap:=h',toks:=tk }) (n := "range_iterator") st' Z Z δ ⟨.int (lo-i),H,I1,⟨t,?_⟩,⟨rfl,rfl⟩,st',λb hb=>(hf b hb).1⟩⟩;rw[show lo+(i:Int)*(-1)=lo-i by omega]
 done:=by
  intro X hP hw hK hc i pins s σ H E I hf st hg;subst hP hw hK;obtain⟨f0,f1,f2,f3,f4,f5⟩:=hf it ζ;exact wpAny_pyNext_range_end (I.ok.hd hc) st (by have:n<=i:=hg;omega) λh' eb=>⟨rfl,I.turned (t':=s.toks) (λb o hb e=>eb b o hb e) f0 f1 f3 f4 f5⟩
 self:=λ_ _ _ _ _ st h=>KL st h
def Xi(ta:TA):TI:=λσ H R=>ta σ H λvs H1=>∃i j:Int,vs=[.int i,.int j,.int (-1)]/\(-(2^60)<=i/\i<2^60/\-(2^60)<=j/\j<2^60)/\R (Ub i (i-j).toNat) H1
section
variable {X:Cx}{tg:Expr}
theorem aaG{pins:List (IN×Obj)}{σ:St}{H:Hp}{s:AA}{R:It->Hp->Prop}{E:Ap->AA->Prop}{lo hi:Int}{t u v:Tok}{tk:Nat}(I:Inv X pins σ H s)(h1:-(2^62)<=lo)(h2:lo<2^62)(h3:-(2^62)<=hi)(h4:hi<2^62)
  (q:R (Ub lo (lo-hi).toNat) H):AH (AM X.prog X.w) X.A (IJ (.ref s.heap.objs.size)) (PIE X pins σ tg R) E { s with heap:=s.heap.push { cls:=.type "range",data:=.fields #[.int lo t,.int hi u,.int (-1) v] },toks:=tk }:=by
 refine wpAny_pyIter_range (IsRange.new ..) (SRT.small_down h1 h2 h3 h4) ?_;have I1:Inv X pins σ H { s with heap:=s.heap.push { cls:=.type "range",data:=.fields #[.int lo t,.int hi u,.int (-1) v] },toks:=tk }:=I.kept λb o e=>AB _ e;refine⟨(s.heap.push { cls:=.type "range",data:=.fields #[.int lo t,.int hi u,.int (-1) v] }).objs.size,[(s.heap.push { cls:=.type "range",data:=.fields #[.int lo t,.int hi u,.int (-1) v] }).objs.size],_,_,H,rfl,
  I1.kept (t':=tk) λb o e=>AB _ e,Dv _ lo (lo-hi).toNat,?_,λb hb=>?_,q⟩
 ·have e1:lo+((0:Nat):Int)*(-1)=lo:=by simp
  have e2:(((lo-hi).toNat:Nat):Int)-((0:Nat):Int)=AR.Range.rangeSize lo hi (-1):=by rw[SRT.DY];omega
  show IZ _ _ (lo+((0:Nat):Int)*(-1)) ((((lo-hi).toNat:Nat):Int)-((0:Nat):Int)) (-1);rw[e1,e2];exact AO _ rfl
 have e:b=(s.heap.push { cls:=.type "range",data:=.fields #[.int lo t,.int hi u,.int (-1) v] }).objs.size:=by simpa using hb
 subst e;exact I1.Dl (AV _) (I1.hok.fresh (AV _))
theorem Rz{a b c:Expr}{ta:TA}{p pos:Pos}(hg:Gl X "range")(hm:X.mg "range" = IF)(ha:PA X [a,b,c] ta)(hs:AK [a,b,c] X.env=[(false,eval a X.env),(false,eval b X.env),(false,eval c X.env)]:=by rfl)(hs2:AK [b,c] X.env=[(false,eval b X.env),(false,eval c X.env)]:=by rfl) :
  PI X tg (.Call (.Name "range" p) [a,b,c] [] pos) (Xi ta):=by
 intro pins s σ H R I h;refine Call_ (gA I hg hm boot_range (BE (thA (ha pos pins s σ H _ I h) λus s1 vs H1 I1 r1 q1=>?_) (by rw[hs,hs2]) (by rw[hs2];rfl)));obtain⟨i,j,e,⟨q1,q2,q3,q4⟩,q⟩:=q1;subst e;cases r1 with
 | cons r rr=>
  cases rr with
  | cons r' rr=>
   cases rr with
   | cons r'' rr=>
    cases rr;obtain⟨t,rfl⟩:=r;obtain⟨t',rfl⟩:=r';obtain⟨t'',rfl⟩:=r'';exact SRT.call_range_3 (by unfold AR.divisionGoesByPylong;exact Bool.and_eq_false_iff.mpr (.inl ψ)) (aaG (tk:=s1.toks) I1 ω ω ω ω q)
theorem Rv{a b c:Expr}{ta:TA}{p pos:Pos}(hg:Gl X "range")(hm:X.mg "range" = IF)(ha:QA X [a,b,c] ta)(hs:AK [a,b,c] X.env=[(false,eval a X.env),(false,eval b X.env),(false,eval c X.env)]:=by rfl)(hs2:AK [b,c] X.env=[(false,eval b X.env),(false,eval c X.env)]:=by rfl) :
  QI X tg (.Call (.Name "range" p) [a,b,c] [] pos) (Xi ta):=⟨Rz hg hm ha.h hs hs2⟩
def Xj(ta:TA):TI:=λσ H R=>ta σ H λvs H1=>∃j:Int,vs=[.int j]/\(0<=j/\j<2^60)/\R (Ub (j-1) j.toNat) H1
theorem ZC{a:Expr}{ta:TA}{p p2 pos pos2:Pos}(hgR:Gl X "reversed")(hmR:X.mg "reversed" = IF)(hg:Gl X "range")(hm:X.mg "range" = IF)(ha:PA X [a] ta)(hs:AK [a] X.env=[(false,eval a X.env)]:=by rfl)(hsR:AK [.Call (.Name "range" p2) [a] [] pos2] X.env=[(false,eval (.Call (.Name "range" p2) [a] [] pos2) X.env)]:=by rfl) :
  PI X tg (.Call (.Name "reversed" p) [.Call (.Name "range" p2) [a] [] pos2] [] pos) (Xj ta):=by
 intro pins s σ H R I h;refine Call_ (gA I hgR hmR boot_reversed (BE ?_ hsR Z));rw[hsR];show AH _ _ (spliced ((false,eval (.Call (.Name "range" p2) [a] [] pos2) X.env)::CY pos [])) _ _ s;refine CL ?_;refine Call_ (gA I hg hm boot_range (BE (thA (ha pos2 pins s σ H _ I h) λus s1 vs H1 I1 r1 q1=>?_) hs Z));obtain⟨j,e,⟨q1,q2⟩,q⟩:=q1;subst e;cases r1 with
 | cons r rr=>
  cases rr;obtain⟨t,rfl⟩:=r;refine call_range_1 (C0 ?_);refine SRT.NT (IsRange.new ..) q1 ω ?_;have I2:Inv X pins σ H1 { s1 with heap:=s1.heap.push { cls:=.type "range",data:=.fields #[.int 0 s1.toks,.int j t,.int 1 (s1.toks+1)] },toks:=s1.toks+1+1 }:=I1.kept λb o e=>AB _ e;have st:IZ ((s1.heap.push { cls:=.type "range",data:=.fields #[.int 0 s1.toks,.int j t,.int 1 (s1.toks+1)] }).push { cls:=.type "range_iterator",data:=.fields #[Db (j-1),Db j,Db (-1)] }) (s1.heap.push { cls:=.type "range",data:=.fields #[.int 0 s1.toks,.int j t,.int 1 (s1.toks+1)] }).objs.size (j-1) j (-1):=AO _ rfl;refine KL st ?_;refine⟨_,[_],_,_,H1,rfl,I2.kept (t':=s1.toks+1+1) λb o e=>AB _ e,Dv _ (j-1) j.toNat,?_,λb hb=>?_,q⟩
  ·show IZ _ _ (j-1+((0:Nat):Int)*(-1)) (((j.toNat:Nat):Int)-((0:Nat):Int)) (-1);rw[show j-1+((0:Nat):Int)*(-1)=j-1 by omega,show((j.toNat:Nat):Int)-((0:Nat):Int)=j by omega];exact st
  have e:b=(s1.heap.push { cls:=.type "range",data:=.fields #[.int 0 s1.toks,.int j t,.int 1 (s1.toks+1)] }).objs.size:=by simpa using hb
  subst e;exact I2.Dl (AV _) (I2.hok.fresh (AV _))
theorem Zd{a:Expr}{ta:TA}{p p2 pos pos2:Pos}(hgR:Gl X "reversed")(hmR:X.mg "reversed" = IF)(hg:Gl X "range")(hm:X.mg "range" = IF)(ha:QA X [a] ta)(hs:AK [a] X.env=[(false,eval a X.env)]:=by rfl)(hsR:AK [.Call (.Name "range" p2) [a] [] pos2] X.env=[(false,eval (.Call (.Name "range" p2) [a] [] pos2) X.env)]:=by rfl) :
  QI X tg (.Call (.Name "reversed" p) [.Call (.Name "range" p2) [a] [] pos2] [] pos) (Xj ta):=⟨ZC hgR hmR hg hm ha.h hs hsR⟩
end
end L2
namespace SRT
open PySem PyProof.Rows
def TP(s:AA)(x:Ap)(a:Int):Prop:=∃q o n t z,x=.ref q/\s.heap.get? q=ID o/\o.cls=.type "tuple" /\ o.data=.seq #[.int a t,z] n
end SRT
namespace L2
open PySem PySem.Spec PyProof.Rows
end L2
namespace SRT
open PySem PyProof.Rows
end SRT
namespace L2
open PySem PySem.Spec PyProof.Rows
def isT(ss:Sts)(zs:List Int)(k:Nat):Bool:=decide ((fC ss k).1=(fC ss k).2.1)&&decide (zs.getD 0 0<=zs.getD 1 0)
def kZ(ss:Sts)(zs:List Int)(k:Nat):Str:=if isT ss zs k=true then "is" else "within"
def dX(ss:Sts)(zs:List Int)(k:Nat):Int:=if isT ss zs k=true then zs.getD 0 0 else zs.getD 1 0
def ug(ss:Sts)(zs:List Int)(k:Nat):Int:=if isT ss zs k=true then zs.getD 1 0 else zs.getD 0 0
def vM(ss:Sts)(ws zs:List Int)(k:Nat):Int:=-(ws.getD k 0)*ug ss zs k
def iR(ss:Sts)(ws zs:List Int)(k:Nat):Int:=64*vM ss ws zs k+(k:Int)
def CK(ss:Sts)(zs:List Int)(lab:Int):List Nat->AU
 | []=>.tuple [.str "pick",.int lab]
 | k::r=>.tuple [.str (kZ ss zs k),.int (k:Int),CK ss zs lab r]
theorem Ti{ss:Sts}{ws zs:List Int}{p b:Nat}(h0:1<=zs.getD 0 0)(h1:1<=zs.getD 1 0) :
  (ws.getD b 0*dX ss zs p<ws.getD p 0*dX ss zs b)↔vM ss ws zs p<vM ss ws zs b:=by
 unfold vM dX ug;have m:∀(x y c:Int),1<=c->(x*c<y*c↔x<y):=λx y c hc=>⟨λh=>Int.lt_of_mul_lt_mul_right h ω,λh=>Int.mul_lt_mul_of_pos_right h ω⟩;by_cases c1:isT ss zs p=true
 ·by_cases c2:isT ss zs b=true
  ·simp only[if_pos c1,if_pos c2];rw[m _ _ _ h0,m _ _ _ h1];omega
  simp only[if_pos c1,if_neg c2];rw[neg_mul,neg_mul];omega
 by_cases c2:isT ss zs b=true
 ·simp only[if_neg c1,if_pos c2];rw[neg_mul,neg_mul];omega
 simp only[if_neg c1,if_neg c2];rw[m _ _ _ h1,m _ _ _ h0];omega
theorem Ei{r:Nat->Int}:∀{l1 l2:List Nat},l1.Perm l2->(l1.map r).Pairwise (· < ·)->(l2.map r).Pairwise (· < ·)->l1=l2
 | [],l2,p,_,_=>by rw[List.nil_perm.mp p]
 | a::l1,[],p,_,_=>by have:=p.length_eq;simp at this
 | a::l1,b::l2,p,h1,h2=>by
  rw[DJ,DU] at h1 h2;have e:a=b:=by
   have ma:a∈b::l2:=p.mem_iff.mp (A5 ..);have mb:b∈a::l1:=p.mem_iff.mpr (A5 ..);rcases A3.mp ma with z|z
   ·exact z
   rcases A3.mp mb with z2|z2
   ·exact z2.symm
   have q1:=h1.1 _ (E9 (f:=r) z2);have q2:=h2.1 _ (E9 (f:=r) z);omega
  subst e;rw[Ei ((List.perm_cons a).mp p) h1.2 h2.2]
def adD(ss:Sts)(lab:Int):List Nat:=(BN ss.length).filter λk=>decide ((fC ss k).2.2≠lab)
def lE(H:Hp)(t:IN)(zs:List Int):Prop:=H t=ID (.tup (zs.map At))/\zs.length=5/\∀z∈zs,1<=z/\z<=99
def Ox:Sp:=λvs H Q _=>∃(a t:IN)(ss:Sts)(zs:List Int)(k:Nat),vs=[.ref a,.ref t]/\H a=ID (.tup [.int (fC ss k).1,.int (fC ss k).2.1,.int (fC ss k).2.2])/\lE H t zs/\Q (.str (kZ ss zs k)) H
def Oq(ss:Sts)(zs:List Int)(k:Nat):AU:=.tuple [.str (kZ ss zs k),.int (k:Int)]
def O1:Sp:=λvs H Q _=>∃(sa p:IN)(lab:Int)(xs:List V)(ok:IN->Prop)(ss:Sts)(zs:List Int)(ord:List Nat),vs=[.ref sa,.ref p,.int lab]/\H sa=ID (.lst xs)/\aG ok H xs (ss.map stD)/\(∀k∈ord,k<ss.length)/\ord.length<=60/\aJ (λ_=>True) H (.ref p) (.list (ord.map (Oq ss zs))) /\
 ∀(v:V) H',Same H H'->aJ (λ_=>True) H' v (CK ss zs lab (ord.filter λk=>decide ((fC ss k).2.2≠lab)))->Q v H'
theorem zE{ss:Sts}{zs:List Int}{k:Nat}(h:isT ss zs k=true):kZ ss zs k = "is" /\ ug ss zs k=zs.getD 1 0/\dX ss zs k=zs.getD 0 0:=by
 unfold kZ ug dX;rw[if_pos h,if_pos h,if_pos h];exact⟨rfl,rfl,rfl⟩
theorem uU{ss:Sts}{zs:List Int}{k:Nat}(h:¬isT ss zs k=true):kZ ss zs k = "within" /\ ug ss zs k=zs.getD 0 0/\dX ss zs k=zs.getD 1 0:=by
 unfold kZ ug dX;rw[if_neg h,if_neg h,if_neg h];exact⟨rfl,rfl,rfl⟩
def eZ(H:Hp)(p:IN):Int×Int:=match H p with
 | some (.tup [.int a,.int b,_])=>(a,b)
 | _=>(0,0)
theorem Ss{H:Hp}{p:IN}{a b:Int}{v:V}(h:H p=ID (.tup [.int a,.int b,v])):eZ H p=(a,b):=by
 unfold eZ;rw[h]
theorem YL{ss:Sts}{ws zs:List Int}{i j:Nat}(hi:i<64)(hj:j<64)(h:i≠j):iR ss ws zs i≠iR ss ws zs j:=by
 unfold iR;omega
theorem lE.bd{H:Hp}{t:IN}{zs:List Int}(h:lE H t zs){i:Nat}(hi:i<5):1<=zs.getD i 0/\zs.getD i 0<=99:=by
 have hl:i<zs.length:=by rw[h.2.1];exact hi
 have e:zs.getD i 0=zs[i]:=by simp[hl]
 rw[e];exact h.2.2 _ (D7 hl)
theorem S7{α:Type}{l:List α}{i:Nat}{x:α}(hi:i<l.length)(h:l[l.length-1-i]?=ID x):l.drop (l.length-(i+1))=x::l.drop (l.length-i):=by
 have hl:l.length-(i+1)<l.length:=ω;rw[IY hl,show l.length-(i+1)+1=l.length-i by omega];congr 1;have:l[l.length-(i+1)]?=ID x:=by rw[<- h];congr 1;omega
 rw[AD hl] at this;exact Be this
def plT(ss:Sts)(zs:List Int)(lab:Int):List Nat->Pl
 | []=>.pick lab
 | k::r=>if isT ss zs k=true then .one k (plT ss zs lab r) else .wit k (plT ss zs lab r)
theorem aaY(ss:Sts)(zs:List Int)(lab:Int):∀l,plD (plT ss zs lab l)=CK ss zs lab l
 | []=>rfl
 | k::r=>by
  have ih:=aaY ss zs lab r;show plD (if isT ss zs k=true then .one k (plT ss zs lab r) else .wit k (plT ss zs lab r))=.tuple [.str (kZ ss zs k),.int (k:Int),CK ss zs lab r];unfold kZ;split
  ·rw[<- ih];rfl
  rw[<- ih];rfl
theorem Pu(ss:Sts)(zs:List Int)(lab:Int):∀l,rN (plT ss zs lab l)=l.length+1
 | []=>rfl
 | k::r=>by
  have ih:=Pu ss zs lab r;unfold plT;split
  ·show rN (plT ss zs lab r)+1=_;rw[ih];rfl
  show rN (plT ss zs lab r)+1=_;rw[ih];rfl
theorem Lf.less{ss:Sts}{left:List Nat}{k m:Nat}(h:Lf ss left)(hm:m∈left)(hk:m≠k):Lf ss (left.filter (·≠k))/\m∈left.filter (·≠k):=by
 have hm2:m∈left.filter (·≠k):=EJ.mpr ⟨hm,by simpa using hk⟩;exact⟨⟨List.ne_nil_of_mem hm2,λa ha=>h.lt a (EJ.mp ha).1,h.up.filter _⟩,hm2⟩
def vo(ss:Sts)(ws zs:List Int):Int->List Nat->Int
 | _,[]=>0
 | W,k::r=>W*dX ss zs k+vo ss ws zs (W-ws.getD k 0) r
theorem Dz{ws:List Int}{k:Nat}:∀{left:List Nat},left.Pairwise (· < ·)->k∈left->sumK ws (left.filter (·≠k))=sumK ws left-ws.getD k 0
 | [],_,h=>(nomatch h)
 | a::l,h,hk=>by
  rw[DU] at h;have c:∀(x:Nat)(y:List Nat),sumK ws (x::y)=ws.getD x 0+sumK ws y:=λx y=>by unfold sumK;rw[DJ,sum_cons]
  by_cases e:a=k
  ·subst e;have:(a::l).filter (·≠a)=l:=by
    rw[List.filter_cons_of_neg ζ];exact L4.mpr λb hb=>by have:=h.1 b hb;simp;omega
   rw[this,c];omega
  have hk2:k∈l:=by
   rcases A3.mp hk with z|z
   ·exact absurd z.symm e
   exact z
  rw[List.filter_cons_of_pos (by simpa using e),c,c,Dz h.2 hk2];omega
theorem Jp{ss:Sts}{ws zs:List Int}{lab:Int}:∀{l left:List Nat},left.Pairwise (· < ·)->l.Nodup->(∀k∈l,k∈left)->yx ss (lB ws zs) (plT ss zs lab l) left=vo ss ws zs (sumK ws left) l
 | [],_,_,_,_=>rfl
 | k::r,left,h,hn,hin=>by
  rw[FR] at hn;have hk:=hin k (A5 ..);have ih:=Jp (ss:=ss) (ws:=ws) (zs:=zs) (lab:=lab) (l:=r) (left:=left.filter (·≠k)) (h.filter _) hn.2 λa ha=>EJ.mpr ⟨hin a (Bi _ ha),by simpa using λ(z:a=k)=>hn.1 (z ▸ ha)⟩;rw[Dz h hk] at ih;show _=sumK ws left*dX ss zs k+vo ss ws zs (sumK ws left-ws.getD k 0) r;rw[<- ih];rw[plT.eq_2];unfold dX;split
  ·show zs.getD 0 0*sumK ws left+yx ss (lB ws zs) (plT ss zs lab r) (left.filter (·≠k))=_;rw[IU]
  show zs.getD 1 0*sumK ws left+yx ss (lB ws zs) (plT ss zs lab r) (left.filter (·≠k))=_;rw[IU]
theorem Hu(elt tg iter:Expr)(ifs:List Expr)(scope:D0)(pos:Pos)(it acc:Ap)(env:Env) :
  Kj (.SetComp elt [⟨tg,iter,ifs,0⟩] scope pos) 0 it acc env=(do
   F4 iter.pos
   match <- EF it with
   | none=>pure (.done .next)
   | some v=>
    DD tg it v
    C7 tg env v
    let mut ok:=true
    for c in ifs do
     if ok then ok <- isTrue c env (eval c env)
    if ok then
     (do
      let v <- eval elt env
      F4 elt.pos
      let _ <- call (.builtin "set.add") [acc,v])
    ER (.compLoop (.SetComp elt [⟨tg,iter,ifs,0⟩] scope pos) 0 it acc env)):=by rfl
section
variable {prog:A1}{w:BD}{A:BA}{R:Result->AA->Prop}{s:AA}
theorem NP{elt tg iter:Expr}{ifs:List Expr}{scope:D0}{pos:Pos}{it acc:Ap}{env:Env}(J:Nat->AA->Prop)
   (turn:∀n s,J n s->AH (AM prog w) A (EF it) (λr s1=>match r with
   | none=>R (.ok .next) s1
   | some v=>AH (AM prog w) A (DD tg it v) (λ_ s1'=>AH (AM prog w) A (C7 tg env v) (λ_ s2=>
     AH (AM prog w) A (forIn ifs true λc r=>if r=true then do let ok <- isTrue c env (eval c env);pure (C6 ok) else pure (C6 r)) (λok s3=>
      if ok=true then AH (AM prog w) A (eval elt env) (λx s4=>
       AH (AM prog w) A (call (.builtin "set.add") [acc,x]) (λ_ s5=>∃m,m<n/\J m s5) (EG (AM prog w) A env λe z=>R (.error e) z) s4) (EG (AM prog w) A env λe z=>R (.error e) z) s3
      else ∃m,m<n/\J m s3) (EG (AM prog w) A env λe z=>R (.error e) z) s2) (EG (AM prog w) A env λe z=>R (.error e) z) s1') (EG (AM prog w) A env λe z=>R (.error e) z) s1) (EG (AM prog w) A env λe z=>R (.error e) z) s)
  (n:Nat) (h:J n s):DF (AM prog w) A (.compLoop (.SetComp elt [⟨tg,iter,ifs,0⟩] scope pos) 0 it acc env) R s:=by
 refine KO Z J (λn z hJ=>?_) n h;show AH _ A ((Kj (.SetComp elt [⟨tg,iter,ifs,0⟩] scope pos) 0 it acc env).onRaise (λy=>do Kk y env;IB y)) _ _ z;refine LA ?_;rw[Hu];refine An (CA (An (A7 (turn n z hJ) (λr s1 h1=>?_) λ_ _ q=>q)));cases r with
 | none=>exact Au h1
 | some v=>
  refine An (A7 h1 (λ_ s1' h1'=>?_) λ_ _ q=>q);refine An (A7 h1' (λ_ s2 h2=>An (A7 h2 (λok s3 h3=>?_) λ_ _ q=>q)) λ_ _ q=>q);cases ok with
  | false=>exact Au ⟨rfl,h3⟩
  | true=>
   exact An (An (A7 h3 (λx s4 h4=>An (CA (An (A7 h4 (λ_ s5 h5=>Au (Au ⟨rfl,h5⟩)) λ_ _ q=>q)))) λ_ _ q=>q))
theorem Dm{elt target iter ifs rest scope pos it acc env}
  (h0:DF (AM prog w) A (.compLoop (.SetComp elt (⟨target,iter,ifs,0⟩::rest) scope pos) 0 it acc env) R s)
   (h:AH (AM prog w) A (IJ it) (λit' s'=>DF (AM prog w) A (.compLoop (.SetComp elt (⟨target,iter,ifs,0⟩::rest) scope pos) 0 it' acc env) R s')
   (EG (AM prog w) A env λx s'=>R (.error x) s') s) :
  DF (AM prog w) A (.compStart (.SetComp elt (⟨target,iter,ifs,0⟩::rest) scope pos) 0 it acc env) R s:=by
 refine F5 ?_;show AH _ A ((compStart (.SetComp elt (⟨target,iter,ifs,0⟩::rest) scope pos) 0 it acc env).onRaise (λy=>do Kk y env;F4 theWindowsPlace)) _ _ s;refine wpAny_notedAt ?_;unfold compStart;change AH _ A (ask >>= _) _ _ s;refine An (D4 (wpAny_ite ?_));split
 ·first
   | exact An (Au (Au ⟨rfl,h0⟩))
   | exact Au ⟨rfl,h0⟩
 first
  | exact An (Da (An (CA (An (A7 h (λit' s' h'=>Au ⟨rfl,h'⟩) λ_ _ q=>q)))))
  | (refine An (Da ?_);change AH _ _ (F4 iter.pos >>= _) _ _ s;exact An (CA (An (A7 h (λit' s' h'=>Au ⟨rfl,h'⟩) λ_ _ q=>q))))
end
end L2
namespace SRT
open PySem PyProof.Rows
section
variable {prog:A1}{w:BD}{K:Type}[DecidableEq K]{knd:KeyKind prog w K}{A:BA}{E:Ap->AA->Prop}{s:AA}{b:Bool}{a:IN}
theorem SetT.ty{S:K->Bool}{n:Nat}(hS:SetT knd b s.heap a S n):s.TypeIs (.ref a) "set" :=
 let ⟨o,_,_,_,ho,hx,_⟩:=hS;⟨o,ho,hx.1⟩
theorem TV{S:K->Bool}{n:Nat}{k:K}{x:Ap}{Q:Ap->AA->Prop}(hx:knd.is k x=true)(hsc:x.scannable=true)(hS:SetT knd b s.heap a S n)(hr:n+1<FG)
  (h:∀h',B0 a s.heap h'->SetT knd b h' a (λk'=>S k'||decide (k'=k)) (if S k then n else n+1)->Q .none { s with heap:=h',toks:=s.toks+1 }) :
  AH (AM prog w) A (call (.builtin "set.add") [.ref a,x]) Q E s:=
 B3 F.slot_set_add hS.ty F.entry_set_add (by
  simp only[AR.«set.add»,AR.Frozenset.oneOther,List.isEmpty_nil,bind_assoc,AR.Frozenset.addrOf,setAdd];refine An (Au (An (Au (An (Ct (An (knd.pyHash hx ?_)))))));exact Iv (s:={ s with toks:=s.toks+1 }) hx hsc hS hr λh' c d=>Au ⟨_,rfl,h h' c d⟩) (F.args_set_add_2 _ _)
end
end SRT
namespace L2
open PySem PySem.Spec PyProof.Rows
section
variable {prog:A1}{w:BD}{A:BA}{E:Ap->AA->Prop}{s:AA}
theorem WD{Q:Ap->AA->Prop}(h:Q (.ref s.heap.objs.size) { s with heap:=s.heap.push (SRT.uY w) }):AH (AM prog w) A (newSet (.type "set")) Q E s:=by
 unfold newSet setsByText;refine An (An (D4 (Au ?_)));dsimp only;simp only[newObj];exact A6 h
theorem O4{K:Type}[DecidableEq K]{knd:KeyKind prog w K}{b:Bool}{h:Heap}{a:IN}{S:K->Bool}{n:Nat}(hS:SRT.SetT knd b h a S n) :
  ∃o,h.get? a=ID o/\(∃es ep t,o.data=.set es ep t)/\∀h' a',h'.get? a'=ID o->SRT.SetT knd b h' a' S n:=by
 obtain⟨o,es,ep,t,ho,hx,hd,r⟩:=hS;exact⟨o,ho,⟨es,ep,t,hd⟩,λh' a' e=>⟨o,es,ep,t,e,hx,hd,r⟩⟩
end
def uN(acc:List Int)(k:Int):List Int:=if acc.any (· == k) then acc else acc++[k]
theorem Og{acc:List Int}(k:Int)(h:acc.Nodup):(uN acc k).Nodup:=by
 unfold uN;split
 ·exact h
 rename_i q;refine nodup_append.mpr ⟨h,by simp,λa ha b hb e=>q ?_⟩;simp only[AJ] at hb;subst hb;subst e;simpa using ha
theorem Yg(acc:List Int)(k j:Int):(uN acc k).any (· == j)=(acc.any (· == j)||decide (j=k)):=by
 unfold uN;split
 ·rename_i q;by_cases e:j=k
  ·subst e;simp[q]
  simp[e]
 rw[List.any_append];congr 1;simp[Bool.beq_eq_decide_eq,eq_comm]
theorem Cj(acc:List Int)(k:Int):(uN acc k).length=if acc.any (· == k) then acc.length else acc.length+1:=by
 unfold uN;split <;> simp
def abb(mp:List (Option Nat))(wi:TI)(g:TG)(tc:TT)(te:TE):TE:=λσ H Q=>wi σ H λJ H1=>
 ∃W:Nat->Nat->List Int->St->Hp->Prop,(∃m,W 0 m [] (cZ mp σ) H1)/\∀i m acc τ H2,W i m acc τ H2 ->
  (J.stop i H2/\∀d (ys:List Int),H2 d=IF->acc.Nodup->ys.Perm acc->(acc.length<64->ys.Pairwise (·<=·))->Q (.ref d) (upd H2 d (.lst (ys.map At)))) \/
  (J.go i H2/\acc.length<63/\∃N:List Int->St->Hp->Prop,(∀acc' τ' H',N acc' τ' H'->∃m',m'<m/\W (i+1) m' acc' τ' H')/\∀x H3,J.yld i H2 x H3->g x τ H3 λτ1 H4=>tc τ1 H4 λb H5=>
   if b=true then te τ1 H5 λv H6=>∃k:Int,v=.int k/\N (uN acc k) τ1 H6 else N acc τ1 H5)
section
variable {X:Cx}{NX N:List Str}{kX:List (Str×B2)}{mp:List (Option Nat)}{scope:D0}
set_option maxHeartbeats 8000000 in
theorem abP{tg iter elt:Expr}{ifs:List Expr}{p pos pos2:Pos}{wi:TI}{g:TG}{tc:TT}{te:TE}(N:List Str)(mp:List (Option Nat))(hgl:Gl X "sorted")(hml:X.mg "sorted" = IF)(hNX:X.N=NX)(hkX:X.env.scope.names=kX)(S:lU NX kX N mp scope)(hc:X.calm=true)
  (hi:PI X tg iter wi)(hg:∀cl C s H fp,PG (aK X N scope cl C s H fp) tg g)(ht:∀cl C s H fp,PTs (aK X N scope cl C s H fp) ifs tc)(he:∀cl C s H fp,PE (aK X N scope cl C s H fp) elt te)
  (hse:AK [.SetComp elt [⟨tg,iter,ifs,0⟩] scope pos2] X.env=[(false,eval (.SetComp elt [⟨tg,iter,ifs,0⟩] scope pos2) X.env)]:=by rfl)
  (hs:∀x,BC iter X.env x=pure x:=by intro _;rfl):PE X (.Call (.Name "sorted" p) [.SetComp elt [⟨tg,iter,ifs,0⟩] scope pos2] [] pos) (abb mp wi g tc te):=by
 intro pins s σ H Q I h;refine Ff (gA I hgl hml JU ?_ δ δ);refine GY ?_ hse rfl;rw[hse];show AH _ _ (spliced ((false,eval (.SetComp elt [⟨tg,iter,ifs,0⟩] scope pos2) X.env)::[])) _ _ s;refine CL ?_;obtain⟨cl,hcl,hsub,hhas⟩:=lO (env:=X.env) (scope:=scope) λy hy hf=>I.ok.has y.1 (by
  rcases S.fre y hy hf with q|q
  ·exact .inl (show X.env.scope.names.lookup y.1=_ by rw[hkX];exact q)
  exact .inr (show X.env.scope.names.lookup y.1=_ by rw[hkX];exact q))
 let QQ:Ap->AA->Prop:=λv s'=>∃D H' acc,v=.ref D/\Inv X pins σ H' s'/\SRT.SetT (FH X.prog X.w) (!SRT.bt X.w) s'.heap D (λk=>acc.any (· == k)) acc.length/\acc.Nodup/\acc.length<=63 /\
  ∀d (ys:List Int),H' d=IF->acc.Nodup->ys.Perm acc->(acc.length<64->ys.Pairwise (·<=·))->Q (.ref d) (upd H' d (.lst (ys.map At)))
 refine thn (Q:=QQ) ?aa λv s9 hq=>?bb
 case bb=>
  obtain⟨D,H9,acc,rfl,I9,hS,nd,hle,q⟩:=hq;refine C0 ?_;refine SRT.Ir (I9.ok.hd hc) hS nd (Nat.lt_succ_of_le hle) λs3 L ys ns k gL iL pL oL k3 g3 o3 l3=>?_;have hf:H9 L=IF:=I9.hok.fresh l3;obtain⟨h3,g3',d3,t3,o3'⟩:=s3;cases g3;cases o3;have hl:ns.length<=AN:=by
   rw[pL.length_eq];exact CM hle δ
  exact⟨.ref L,_,((I9.drawn d3).laid (t':=t3) (h':=h3) k3 l3 (show cu X.prog X.w _ h3 _ (.lst (ns.map At)) from⟨by simpa using hl,ys,k,wN iL,gL⟩)),rfl,q L ns hf nd pL oL⟩
 rw[arm_eval_SetComp];refine CS (use:=IF) Z hs hcl S.kind S.locs ?_;refine thn (hi pins s σ H _ I h) λv s1 h1=>thn h1 λitv s2 h2=>?_;obtain⟨it,fp,tn,J,H2,e,I2,T,st2,f2,W,⟨m0,w0⟩,turn⟩:=h2;subst e;refine WD (EW S.nocell (by intro y hy;simp at hy) (λh3 hns hsb=>?_) S.kind);dsimp only at hns hsb |-;have hold:∀b∈fp,b<s2.heap.objs.size:=λb hb=>by
  obtain⟨o,q,_⟩:=T.obj _ _ st2 b hb;exact AQ q
 generalize hD:s2.heap.objs.size=D at hns hsb;generalize hH2:s2.heap.push (SRT.uY X.w)=P2 at hns hsb |-;have hC:P2.objs.size=D+1:=by rw[<- hH2,Cb,hD]
 generalize hC':P2.objs.size=C at hns hsb |-;rw[hC'] at hC;have old:∀b o,s2.heap.get? b=ID o->h3.get? b=ID o:=λb o q=>by
  have hb:=AQ q;exact hsb.extBut b o (na1 hb hD hC) (AB _ (hH2 ▸ AB _ q))
 have accD:h3.get? D=ID (SRT.uY X.w):=
  hsb.extBut _ _ (na2 hC) (AB _ (by rw[<- hH2,<- hD];exact AO _ Z))
 have hfr:D∉frs X.stack:=λz=>by
  rcases A3.mp (I2.jR D z) with q|q
  ·exact na0 I2.lt hD q.symm
  exact I2.Gy (na4 hD) q
 have I0:Inv (aK X N scope cl C s2 H2 fp) [(D,(SRT.uY X.w))] (cZ mp σ) H2 { s2 with heap:=h3,toks:=s2.toks+([]:List (Str×Ap)).length }:=
  rF (s':={ s2 with heap:=h3,toks:=s2.toks+([]:List (Str×Ap)).length }) hNX hkX S I2 f2 hold (na3 hD hC) hsub hhas Z Z ⟨_,hns⟩ old λp hp=>by
   have ep:=AJ.mp hp;subst ep;exact⟨accD,I2.hok.fresh (na4 hD),na2 hC,hfr,λv z=>by cases z⟩
 have T0:tn 0 h3:=T.keep _ _ _ st2 λb _ o q=>old b o q;have S0:SRT.SetT (FH X.prog X.w) (!SRT.bt X.w) h3 D (λk=>([]:List Int).any (· == k)) ([]:List Int).length:=
  ⟨_,#[],0,_,accD,⟨rfl,rfl,rfl⟩,rfl,⟨λe he=>by simp at he,λk=>by simp,δ⟩,by rfl,rfl,SRT.Dw _ _ _⟩
 have loop:∀z:AA,z={ s2 with heap:=h3,toks:=s2.toks+([]:List (Str×Ap)).length } ->
   DF (AM X.prog X.w) X.A (.compLoop (.SetComp elt [⟨tg,iter,ifs,0⟩] scope pos2) 0 (.ref it) (.ref D) (CO scope cl C X.env))
    (Kn (AM X.prog X.w) X.A X.xe IF QQ (.ref D) C) z:=by
  rintro z rfl;have stat:∀{H':Hp}{pl:List (IN×Obj)},(∀b∈fp,H' b=IF)->(∀p∈pl,p.1=D)->∀b∈fp,lJ (aK X N scope cl C s2 H2 fp) pl H' b:=λhn hp b hb=>by
   have hb2:=hold b hb;refine⟨hn b hb,na1 hb2 hD hC,(uI hkX S I2 f2 hold (na3 hD hC) hsub hhas).exfs b hb,.inl hb,λx c q=>(f2 b hb).2.2.2.2.1 x c (hsub x c q),λp hpp=>?_⟩;have hpD:=hp p (by simpa [aK] using hpp);rw[hpD];exact(na0 hb2 hD).symm
  obtain⟨ob0,go0,_,so0⟩:=O4 S0;rw[accD] at go0;cases go0;refine NP (env:=CO scope cl C X.env) (λn z=>∃i acc τ H' o,Inv (aK X N scope cl C s2 H2 fp) [(D,o)] τ H' z/\(∀h' a',h'.get? a'=ID o->SRT.SetT (FH X.prog X.w) (!SRT.bt X.w) h' a' (λk=>acc.any (· == k)) acc.length)/\tn i z.heap/\(∀b∈fp,H' b=IF)/\acc.Nodup/\acc.length<=63/\W i n acc τ H')
   ?_ m0 ⟨0,[],_,H2,_,I0,so0,T0,λb hb=>(f2 b hb).1,.nil,De _,w0⟩
  rintro n s5 ⟨i,acc,τ,H5,ob,I5,dob,st5,fr5,nd,hz,w5⟩;rcases turn i n acc τ H5 w5 with⟨stop,qn⟩|⟨go,hz2,N9,hN9,step⟩
  ·refine thn (T.done (aK X N scope cl C s2 H2 fp) Z Z Z hc i _ s5 τ H5 _ I5 (stat fr5 ζ) st5 stop) λr s6 ⟨hr,I6⟩=>?_;subst hr;obtain⟨m6,hn6,_⟩:=I6.loc;refine⟨m6,hn6,λh' sb=>?_⟩;obtain⟨dD,nD,_,_,_⟩:=I6.pin (D,_) (AG _ (AJ.mpr Z));have U:=I6.base;have nC:H5 C=IF:=I6.free;have ne:∀b o,s2.heap.get? b=ID o->b≠C:=λb o q=>na1 (AQ q) hD hC;have keepC:∀b o,b≠C->s6.heap.get? b=ID o->h'.get? b=ID o:=λb o hb q=>(sb.2 b hb).trans q;have U':Un (frs X.stack) fp H2 H5 s2.heap h':=by
    refine⟨λb o q n1 hb hx=>keepC b o (ne b o q) (U.keep b o q n1 hb hx),λb o q n1 hb hx=>?_,U.free,λb o q hx=>?_,U.tups,U.frzs,U.tbls⟩
    ·obtain⟨sl,z⟩:=U.slot b o q n1 hb hx;exact⟨sl,keepC b _ (ne b o q) z⟩
    obtain⟨o',z⟩:=U.there b o q hx;exact⟨o',keepC b _ (ne b o q) z⟩
   have hok:HOk X.prog X.w H5 h':=λb u q=>by
    refine(I6.hok b u q).stay (λc v hcc z=>keepC c v ?_ z) (λc z=>z) λc xs z=>z;rcases hcc with z1|z1
    ·subst z1;exact aB q nC
    exact aB z1 nC
   have I7:Inv X pins σ H5 { s6 with heap:=h' }:=I2.call' (s':={ s6 with heap:=h' }) (ch:=fp) I6.os U' hok I6.bare λb hb=>by
    obtain⟨_,a2,_,a4,a5,a6⟩:=f2 b hb;exact⟨a4,a2,a5,a6⟩
   exact⟨D,H5,acc,rfl,I7,dob h' D (keepC _ _ (na2 hC) dD),nd,hz,qn⟩
  refine thn (T.item (aK X N scope cl C s2 H2 fp) Z Z Z hc i _ s5 τ H5 _ I5 (stat fr5 ζ) st5 go) λr s6 ⟨u,hr,h6⟩=>?_;subst hr;refine thn h6 λ_ s7 ⟨x,H7,I7,r7,y7,st7,fr7⟩=>?_;have I7':=I7.pinned (stat fr7 ζ) (T.obj _ _ st7);have no:∀{α:Type}{t:Sem α}{Q1 Q2:α->AA->Prop}{E:Ap->AA->Prop}{z:AA},AH (AM X.prog X.w) X.A t Q1 (λ_ _=>False) z->(∀a z,Q1 a z->Q2 a z)->AH (AM X.prog X.w) X.A t Q2 E z:=
   λq f=>A7 q f λ_ _ z=>z.elim
  refine no (hg cl C s2 H2 fp _ s7 τ H7 x u _ I7' r7 (step x H7 y7)) λ_ s8 ⟨τ1,H8,I8,q8⟩=>?_;refine no (ht cl C s2 H2 fp _ s8 τ1 H8 _ I8 q8) λok s9 ⟨H9,I9,q9⟩=>?_;have ER:∀{H':Hp}{z:AA}{o':Obj},Inv (aK X N scope cl C s2 H2 fp) ([(D,o')]++cG fp s7.heap) τ1 H' z ->
    tn (i+1) z.heap/\(∀b∈fp,H' b=IF)/\Inv (aK X N scope cl C s2 H2 fp) [(D,o')] τ1 H' z:=λ{H' z o'} Iz=>by
   have get:∀b∈fp,∀o,s7.heap.get? b=ID o->z.heap.get? b=ID o/\H' b=IF:=λb hb o q=>by
    obtain⟨a1,a2,_⟩:=Iz.pin (b,o) (AG _ (AG _ (dM hb q)));exact⟨a1,a2⟩
   refine⟨T.keep _ _ _ st7 λb hb o q=>(get b hb o q).1,λb hb=>?_,Iz.fL⟩;obtain⟨o,q,_⟩:=T.obj _ _ st7 b hb;exact(get b hb o q).2
  cases ok with
  | false=>
   rw[if_neg AX] at q9 |-;obtain⟨m',hm,w9⟩:=hN9 _ _ _ q9;obtain⟨a1,a2,a3⟩:=ER I9;exact⟨m',hm,i+1,acc,τ1,H9,ob,a3,dob,a1,a2,nd,hz,w9⟩
  | true=>
   rw[if_pos rfl] at q9 |-;refine no (he cl C s2 H2 fp _ s9 τ1 H9 _ I9 q9) λy s10 ⟨v,H10,I10,rv,kk,ek,q10⟩=>?_;subst ek;obtain⟨tk,rfl⟩:=rv;obtain⟨m',hm,w10⟩:=hN9 _ _ _ q10;obtain⟨a1,a2,a3⟩:=ER I10;obtain⟨dD,nD,_,_,_⟩:=a3.pin (D,_) (AG _ (AJ.mpr Z));refine SRT.TV (knd:=FH X.prog X.w) (intKind_is _ _ kk tk) Z (dob _ _ dD) (by simp only[FG];omega) λh' sb dd=>?_;obtain⟨o',g1,⟨es',ep',t',g2⟩,g3⟩:=O4 (dd.congr (S':=λk=>(uN acc kk).any (· == k)) (n':=(uN acc kk).length) (λk=>(Yg acc kk k).symm) (Cj acc kk).symm);have a4:Inv (aK X N scope cl C s2 H2 fp) (cG fp s7.heap) τ1 H10 s10:=I10.dW λp hp=>I10.pin p (AG _ (AG _ hp));have a5:Inv (aK X N scope cl C s2 H2 fp) (cG fp s7.heap) τ1 H10 { s10 with heap:=h',toks:=s10.toks+1 }:=
    a4.turned (it:=D) (λb o hb z=>(sb.2 b hb).trans z) nD (na2 hC) (.inr (na4 hD))
     (λx c z=>by
      obtain⟨_,o,h1,_⟩:=I2.cell x c (hsub x c z);exact na0 (AQ h1) hD) λp hp=>by
      have hb:=(gH (by simpa [aK] using hp)).1;exact na0 (hold _ hb) hD
   have b1:tn (i+1) h':=T.keep _ _ _ a1 λb hb o z=>(sb.2 b (na0 (hold b hb) hD)).trans z;have hpl:(uN acc kk).length<=63:=by rw[Cj];split <;> omega
   refine⟨m',hm,i+1,uN acc kk,τ1,H10,o',a5.dW λp hp=>?_,g3,b1,a2,Og kk nd,hpl,w10⟩;have ep:=AJ.mp hp;subst ep;exact⟨g1,nD,na2 hC,hfr,λv z=>by rw[g2] at z;cases z⟩
 have e1:{ newEnv scope C X.env.globals cl X.env.qual IF .none (ID X.env) X.env.builtins with scope:=relabel scope X.env }=CO scope cl C X.env:=rfl;exact Dm (loop _ Z) (T.self _ 0 _ _ _ T0 (loop _ Z))
theorem aby{tg iter elt:Expr}{ifs:List Expr}{p pos pos2:Pos}{wi:TI}{g:TG}{tc:TT}{te:TE}(N:List Str)(mp:List (Option Nat))(hgl:Gl X "sorted")(hml:X.mg "sorted" = IF)(hNX:X.N=NX)(hkX:X.env.scope.names=kX)(S:lU NX kX N mp scope)(hc:X.calm=true)
  (hi:QI X tg iter wi)(hg:∀cl C s H fp,QG (aK X N scope cl C s H fp) tg g)(ht:∀cl C s H fp,QC (aK X N scope cl C s H fp) ifs tc)(he:∀cl C s H fp,QE (aK X N scope cl C s H fp) elt te)
  (hse:AK [.SetComp elt [⟨tg,iter,ifs,0⟩] scope pos2] X.env=[(false,eval (.SetComp elt [⟨tg,iter,ifs,0⟩] scope pos2) X.env)]:=by rfl)
  (hs:∀x,BC iter X.env x=pure x:=by intro _;rfl):QE X (.Call (.Name "sorted" p) [.SetComp elt [⟨tg,iter,ifs,0⟩] scope pos2] [] pos) (abb mp wi g tc te):=
 ⟨abP N mp hgl hml hNX hkX S hc hi.h (λcl C s H fp=>(hg cl C s H fp).h) (λcl C s H fp=>(ht cl C s H fp).h) (λcl C s H fp=>(he cl C s H fp).h) hse hs⟩
end
def iK(ss:Sts)(lab:Int)(ord:List Nat):List Nat:=ord.filter λk=>decide ((fC ss k).2.2≠lab)
def DR:Sp:=λvs H Q _=>∃(sa wa t p:IN)(lab:Int)(xs:List V)(ok:IN->Prop)(ss:Sts)(ws zs:List Int)(ord:List Nat),vs=[.ref sa,.ref wa,.ref t,.ref p,.int lab]/\H sa=ID (.lst xs)/\aG ok H xs (ss.map stD)/\H wa=ID (.lst (ws.map At))/\ws.length=ss.length/\lE H t zs/\(∀k∈ord,k<ss.length)/\ord.length<=60/\aJ (λ_=>True) H (.ref p) (.list (ord.map (Oq ss zs))) /\
 ∀H',Same H H'->Q (.int (vo ss ws zs (sumK ws ord) (iK ss lab ord))) H'
def gB(ss:Sts)(ws zs:List Int)(W:Int)(ord:List Nat)(lab:Int):Int:=vo ss ws zs W (iK ss lab ord)
structure OrdB(ss:Sts)(ws zs:List Int)(ord:List Nat):Prop where
 pm:ord.Perm (BN ss.length)
 up:(ord.map (iR ss ws zs)).Pairwise (· < ·)
theorem Wf{l m:List Int}(h:l.Perm m):l.sum=m.sum:=by
 induction h with
 | nil=>rfl
 | cons a _ ih=>rw[sum_cons,sum_cons,ih]
 | swap a b l=>simp only[sum_cons];omega
 | trans _ _ i1 i2=>exact i1.trans i2
def adQ(mp:List (Option Nat))(g:TG)(tc:TT)(te:TE)(σ:St)(Q:VK)(J:It)(H1:Hp):Prop:=
 ∃W:Nat->Nat->List Int->St->Hp->Prop,(∃m,W 0 m [] (cZ mp σ) H1)/\∀i m acc τ H2,W i m acc τ H2 ->
  (J.stop i H2/\∀d (ys:List Int),H2 d=IF->acc.Nodup->ys.Perm acc->(acc.length<64->ys.Pairwise (·<=·))->Q (.ref d) (upd H2 d (.lst (ys.map At)))) \/
  (J.go i H2/\acc.length<63/\∃N:List Int->St->Hp->Prop,(∀acc' τ' H',N acc' τ' H'->∃m',m'<m/\W (i+1) m' acc' τ' H')/\∀x H3,J.yld i H2 x H3->g x τ H3 λτ1 H4=>tc τ1 H4 λb H5=>
   if b=true then te τ1 H5 λv H6=>∃k:Int,v=.int k/\N (uN acc k) τ1 H6 else N acc τ1 H5)
theorem acY{mp:List (Option Nat)}{wi:TI}{g:TG}{tc:TT}{te:TE}{σ:St}{H:Hp}{Q:VK}(h:∀R,R=adQ mp g tc te σ Q->wi σ H R):abb mp wi g tc te σ H Q:=h _ rfl
theorem acX{K:AF}{mp:List (Option Nat)}{g:TG}{tc:TT}{te:TE}{σ:St}{H:Hp}{Q:VK}{R:It->Hp->Prop}{a:IN}{xs:List V}(hR:R=adQ mp g tc te σ Q)(hx:xs.length<63)(Pv:Nat->List Int->St->Hp->Prop)(h0:Pv 0 [] (cZ mp σ) H)(hl:∀i acc τ H,Pv i acc τ H->acc.length<=i)
  (hq:∀i acc τ H,Pv i acc τ H->SqL K H a xs)
  (hs:∀i x acc τ H,xs[i]?=ID x->Pv i acc τ H->g x τ H λτ1 H4=>tc τ1 H4 λb H5=>if b=true then te τ1 H5 λv H6=>∃k:Int,v=.int k/\Pv (i+1) (uN acc k) τ1 H6 else Pv (i+1) acc τ1 H5)
  (hd:∀acc τ H d (ys:List Int),Pv xs.length acc τ H->H d=IF->ys.Perm acc->(acc.length<64->ys.Pairwise (·<=·))->acc.Nodup->Q (.ref d) (upd H d (.lst (ys.map At)))):R (Itl K a) H:=by
 rw[hR];refine⟨λi m acc τ H2=>Pv i acc τ H2/\i<=xs.length/\m=xs.length-i,⟨_,h0,De _,rfl⟩,λi m acc τ H2 ⟨p,hi,hm⟩=>?_⟩;rcases FU i xs.length with z|z
 ·refine .inr ⟨⟨xs,xs[i],hq i acc τ H2 p,AD z⟩,by have:=hl i acc τ H2 p;omega,λacc' τ' H'=>Pv (i+1) acc' τ' H',λacc' τ' H' p'=>⟨xs.length-(i+1),ω,p',z,rfl⟩,λx H3 y=>?_⟩;obtain⟨rfl,hx'⟩:=y;exact hs i x acc τ _ (hx' xs (hq i acc τ _ p)) p
 have e:i=xs.length:=ω;subst e;exact .inl ⟨⟨xs,hq _ acc τ H2 p,AV _⟩,λd ys h1 h2 h3 h4=>hd acc τ H2 d ys p h1 h3 h4 h2⟩
theorem Ye{acc:List Int}{k l:Int}:l∈uN acc k↔l∈acc\/l=k:=by
 unfold uN;split
 ·rename_i c;obtain⟨x,mx,e⟩:=JI.mp c;have e:x=k:=by simpa using e
  exact⟨.inl,λh=>h.elim id λz=>by rw[z,<- e];exact mx⟩
 rw[Cf,AJ]
theorem Av{ys:List Int}(h:ys.Pairwise (·<=·))(n:ys.Nodup):ys.Pairwise (· < ·):=(h.and n).imp λ{a b} z=>by
 have h1:a<=b:=z.1;have h2:a≠b:=z.2;omega
end L2
namespace HT
open PySem PySem.Spec PyProof.Rows
end HT
namespace L2
open PySem PySem.Spec PyProof.Rows
def aef(ss:Sts)(ws zs:List Int)(lab:Int)(ol:List Nat):Prop:=ol.Perm (adD ss lab)/\(ol.map (iR ss ws zs)).Pairwise (· < ·)
def acO(ss:Sts)(ws zs:List Int)(H:Hp)(lab:Int)(q:IN):Prop:=∃ol,aef ss ws zs lab ol/\H q=ID (.tup [.int (vo ss ws zs ws.sum ol),.int lab])
structure Pairs(ss:Sts)(ws zs:List Int)(H:Hp)(ys:List Int)(qs:List IN):Prop where
 len:qs.length=ys.length
 all:∀(m:Nat) q lab,qs[m]?=ID q->ys[m]?=ID lab->acO ss ws zs H lab q
theorem acD{lo:Int}{n:Nat}{g:TG}{tb:TS}{D:Ends}{σ:St}{H:Hp}{R:It->Hp->Prop}(hR:R=(λJ H1=>∃W:Nat->Nat->St->Hp->Prop,(∃m,W 0 m σ H1)/\∀i m σ H,W i m σ H ->
  (J.stop i H/\D.nx σ H)\/(J.go i H/\∃N:St->Hp->Prop,(∀σ' H',N σ' H'->∃m',m'<m/\W (i+1) m' σ' H')/\∀x H',J.yld i H x H'->g x σ H' λσ2 H2=>tb { D with nx:=N,ct:=N,bk:=D.nx } σ2 H2)))
  (Pv:Nat->St->Hp->Prop)(h0:Pv 0 σ H)(hs:∀i σ H,i<n->Pv i σ H->g (.int (lo-i)) σ H λσ2 H2=>tb { D with nx:=Pv (i+1),ct:=Pv (i+1),bk:=D.nx } σ2 H2)(hd:∀σ H,Pv n σ H->D.nx σ H):R (Ub lo n) H:=by
 subst hR;refine⟨λi m σ H=>m=n-i/\i<=n/\Pv i σ H,⟨n,rfl,De _,h0⟩,?_⟩;rintro i m σ H ⟨rfl,hi,p⟩;by_cases hlt:i<n
 ·refine .inr ⟨hlt,Pv (i+1),λσ' H' p'=>⟨n-(i+1),ω,rfl,hlt,p'⟩,λx H' y=>?_⟩;obtain⟨rfl,rfl⟩:=y;exact hs i σ _ hlt p
 have e:i=n:=ω;subst e;exact .inl ⟨AV _,hd σ H p⟩
section
variable {mp:List (Option Nat)}{wi wi2:TI}{g g2:TG}{te:TE}{σ τ1:St}{H:Hp}{Q:VK}{R:It->Hp->Prop}
theorem XR{lo:Int}{n:Nat}(hR:R=aa3 mp g wi2 g2 te σ Q)(Pv:Nat->List V->St->Hp->Prop)(h0:Pv 0 [] (cZ mp σ) H)
  (hs:∀i acc τ H,i<n->Pv i acc τ H->g (.int (lo-i)) τ H λτ1 H4=>∀R2:It->Hp->Prop,R2=InW g2 te (Pv (i+1)) acc τ1->wi2 τ1 H4 R2)
  (hg:∀x τ H k k',(∀τ' H',k τ' H'->k' τ' H')->g x τ H k->g x τ H k')
  (hd:∀acc τ H d,Pv n acc τ H->H d=IF->Q (.ref d) (upd H d (.lst acc))):R (Ub lo n) H:=by
 subst hR;refine⟨λi m acc τ H2=>m=n-i/\i<=n/\Pv i acc τ H2,⟨_,rfl,De _,h0⟩,?_⟩;rintro i m acc τ H2 ⟨rfl,hi,p⟩;by_cases hlt:i<n
 ·refine .inr ⟨hlt,Pv (i+1),λacc' τ' H' q=>⟨_,ω,rfl,hlt,q⟩,λx H3 y=>?_⟩;obtain⟨rfl,rfl⟩:=y;exact hg _ _ _ _ _ (λτ' H' z=>z _ Z) (hs i acc τ _ hlt p)
 have e:i=n:=ω;subst e;exact .inl ⟨AV _,λd hd'=>hd acc τ H2 d p hd'⟩
theorem aea{lo:Int}{n:Nat}{N:List V->St->Hp->Prop}{acc0:List V}(hR:R=InW g2 te N acc0 τ1)(Pw:Nat->List V->St->Hp->Prop)(h0:Pw 0 acc0 τ1 H)
  (hl:∀j acc τ H,j<n->Pw j acc τ H->acc.length<AN)
  (hs:∀i acc τ H,i<n->Pw i acc τ H->g2 (.int (lo+i)) τ H λτ3 H8=>te τ3 H8 λv H9=>Pw (i+1) (acc++[v]) τ3 H9)
  (hd:∀acc τ H,Pw n acc τ H->N acc τ H):R (Itr lo n) H:=by
 subst hR;refine⟨λi m acc τ H2=>m=n-i/\i<=n/\Pw i acc τ H2,⟨_,rfl,De _,h0⟩,?_⟩;rintro i m acc τ H2 ⟨rfl,hi,p⟩;by_cases hlt:i<n
 ·refine .inr ⟨hlt,hl i acc τ H2 hlt p,Pw (i+1),λacc' τ' H' q=>⟨_,ω,rfl,hlt,q⟩,λx H3 y=>?_⟩;obtain⟨rfl,rfl⟩:=y;exact hs i acc τ _ hlt p
 have e:i=n:=ω;subst e;exact .inl ⟨AV _,hd acc τ H2 p⟩
end
section
variable {X:Cx}
def abt:T9:=λo i v H Q=>∃(a:IN)(H4:Hp),o=.ref a/\rT H a i v H4/\Q H4
theorem Va(hu:X.A.units+1<FO):Ua X abt:=by
 intro pins s σ H o i v ov iv u Q I ro ri rv h;obtain⟨a,H4,rfl,g,q⟩:=h;cases ro;exact EY hu I g ri rv λs4 I4=>⟨H4,I4,q⟩
end
end L2
namespace SRT
open PySem PyProof.Rows PySem.SeqAt
open MeetsSeq MeetsSeq2 MeetsSeq3 SeqRoads2 AutoSeq1
theorem abq(l:IN)(items:Array Ap)(n:Nat)(x:Ap)(e:Ap->Bool)(j:Nat)(hj:j<items.size)(hit:e items[j]=true)(hs1:items.size<=AN)(k:Nat) :
  ∀i:Nat,j-i=k->i<=j->(∀m (hm:m<items.size),i<=m->m<j->e items[m]=false)->Meets (AR.«list.remove.loop» ⟨[.ref l,x,Db i],[]⟩)
   (λA R s=>s.heap.get? l=ID { cls:=.type "list",dict:=IF,data:=.seq items n,slots:=#[] }/\(∀y,y∈items->EqAt A.in1 s y x (e y))/\R (.ok (.ret .none)) { s with heap:=s.heap.update l (BO λxs=>xs.eraseIdxIfInBounds j) }):=by
 induction k with
 | zero=>
  intro i hk hij hno prog w A R s h;obtain⟨hp,g,d,tk,os⟩:=s;obtain⟨hl,he,h⟩:=h;obtain rfl:i=j:=by omega
  wp_walk using Lo hl
  rw[show items[((i:Nat):Int).toNat]?=ID items[i] by simp[hj]];refine An (he _ (Array.getElem_mem hj) prog w _ _ ?_);rw[hit];have hz:(items.eraseIdxIfInBounds i).size<=AN+1:=CM (size_erased items _) (Nat.le_succ_of_le hs1)
  wp_walk using (wpAny_updateSeq hl Z (hz:=hs1) (_hz':=hz)),Lo hl
  simpa using h
 | succ k ih=>
  intro i hk hij hno prog w A R s h;obtain⟨hp,g,d,tk,os⟩:=s;obtain⟨hl,he,h⟩:=h;have hi:i<items.size:=ω
  wp_walk using Lo hl
  rw[show items[((i:Nat):Int).toNat]?=ID items[i] by simp[hi]];refine An (he _ (Array.getElem_mem hi) prog w _ _ ?_);rw[hno i hi (AV _) ω]
  wp_walk
  rw[show((i:Int)+1)=((i+1:Nat):Int) by push_cast;rfl];refine⟨Hn plain_remove_loop _,D2 entry_remove_loop ?_⟩;rw[BA.under_plainId plain_remove_loop _];exact ih (i+1) ω ω (λm hm h1 h2=>hno m hm ω h2) prog w A R _ ⟨hl,he,h⟩
theorem Ro(l:IN)(items:Array Ap)(n:Nat)(x:Ap)(e:Ap->Bool)(j:Nat)(hj:j<items.size)(hit:e items[j]=true)(hno:∀m (hm:m<items.size),m<j->e items[m]=false)(hs1:items.size<=AN) :
  Meets (AR.«list.remove» ⟨[.ref l,x],[]⟩)
   (λA R s=>s.heap.get? l=ID { cls:=.type "list",dict:=IF,data:=.seq items n,slots:=#[] }/\(∀y,y∈items->EqAt A.in1 s y x (e y))/\R (.ok (.ret .none)) { s with heap:=s.heap.update l (BO λxs=>xs.eraseIdxIfInBounds j) }):=by
 intro prog w A R s h;obtain⟨hp,g,d,tk,os⟩:=s;obtain⟨hl,he,h⟩:=h
 wp_walk using Lo hl
 refine⟨Hn plain_remove_loop _,D2 entry_remove_loop ?_⟩;rw[BA.under_plainId plain_remove_loop _];exact abq l items n x e j hj hit hs1 _ 0 Z (De _) (λm hm _ h2=>hno m hm h2) prog w A R _ ⟨hl,he,h⟩
end SRT
namespace L2
open PySem PySem.Spec PyProof.Rows
def eqG(g:IN->Int×Int)(q:IN):Ap->Bool
 | .ref p=>decide (g p=g q)
 | _=>false
def Vt:V->List V->Hp->VK->Prop:=λx vs H Q=>∃(l q:IN)(ps:List IN)(g:IN->Int×Int),x=.ref l/\vs=[.ref q]/\H l=ID (.lst (ps.map AT))/\q∈ps/\(∀p∈ps,H p=ID (.tup [.int (g p).1,.int (g p).2]))/\ps.length<=1000000 /\
 ∀j,(ps.map g).idxOf (g q)=j->Q .non (upd H l (.lst ((ps.eraseIdx j).map AT)))
theorem Jj:∀{ps:List IN}{us:List Ap}{m:Nat}{v:Ap},Vals (ps.map AT) us->us[m]?=ID v->∃p,ps[m]?=ID p/\v=.ref p
 | [],us,m,v,r,e=>by cases r;cases e
 | p::ps,us,m,v,r,e=>by
  cases r with
  | cons r1 rr=>
   cases m with
   | zero=>cases e;cases r1;exact⟨p,rfl,rfl⟩
   | succ m=>exact Jj (ps:=ps) rr e
section
variable {X:Cx}
theorem aak(hu:X.A.in1.units<FO):MtM X "list.remove" Vt:=by
 intro pins s σ H x vs v us Q I rx rv h;obtain⟨l,q,ps,g,rfl,rfl,hH,hq,hg,hl,qq⟩:=h;cases rx;obtain⟨u,rfl,ru⟩:=rv.one;cases ru;obtain⟨z,its,n,r,hll,e⟩:=I.Ng hH;have hz:its.length=ps.length:=by have:=r.length;rw[AC] at this;omega
 obtain⟨j,hj⟩:∃j,(ps.map g).idxOf (g q)=j:=⟨_,rfl⟩;have hmem:g q∈ps.map g:=E9 hq;have hjl:j<ps.length:=by rw[<- hj,<- AC (f:=g)];exact IG hmem
 have get:∀(m:Nat)(hm:m<its.toArray.size),∃p,ps[m]?=ID p/\its.toArray[m]=.ref p:=λm hm=>by
  have hm':m<its.length:=by simpa using hm
  obtain⟨p,e1,e2⟩:=Jj r (AD hm');exact⟨p,e1,by simpa using e2⟩
 refine EK F.slot_list_remove ⟨_,e,rfl⟩ F.entry_list_remove (F.args_list_remove_2 _ _) (SRT.Ro l its.toArray n (.ref q) (eqG g q) j (by simp;omega) ?_ (λm hm hlt=>?_) (by rw[AZ];exact CM ω (aO (AV 1000000)))) ⟨e,λy hy=>?_,?_⟩
 ·obtain⟨p,e1,e2⟩:=get j (by simp;omega);rw[e2];have:(ps.map g)[j]?=ID (g q):=by
   subst hj;rw[AD (IG hmem),List.getElem_idxOf]
  rw[AL,e1] at this;exact decide_eq_true (Be this)
 ·obtain⟨p,e1,e2⟩:=get m hm;rw[e2];refine decide_eq_false λz=>?_;rw[<- hj] at hlt;have:=List.not_of_lt_findIdx (p:=(· == g q)) (xs:=ps.map g) (i:=m) hlt;rw[List.getElem_map] at this;have e3:ps[m]'ω=p:=by rw[AD ω] at e1;exact Be e1
  rw[e3,z] at this;simp at this
 ·obtain⟨m,hm,rfl⟩:=Array.getElem_of_mem hy;obtain⟨p,e1,e2⟩:=get m hm;rw[e2];by_cases hpq:p=q
  ·subst hpq;rw[show eqG g p (.ref p)=true from decide_eq_true rfl];exact B7.same _
  have h1:=hg p (A8 e1);have h2:=hg q hq;obtain⟨its1,r1,pl1,hz1⟩:=I.tuple (SqT.of h1);obtain⟨its2,r2,pl2,hz2⟩:=I.tuple (SqT.of h2);cases r1 with
  | cons x1 r1=>
   cases r1 with
   | cons x2 r1=>
    cases r1;cases r2 with
    | cons y1 r2=>
     cases r2 with
     | cons y2 r2=>
      cases r2;obtain⟨t1,rfl⟩:=x1;obtain⟨t2,rfl⟩:=x2;obtain⟨t3,rfl⟩:=y1;obtain⟨t4,rfl⟩:=y2;refine B7.of_refs hpq ?_;have:=SeqAt.RcAt.tuples (A:=X.A.in1) (e:=λj=>if j=0 then (g p).1 == (g q).1 else (g p).2 == (g q).2) pl1 pl2 hu (λj h1 h2=>?_)
      ·rw[show eqG g q (.ref p)=((g p).1 == (g q).1&&(g p).2 == (g q).2) from ?_]
       ·have e5:((BN (min 2 2)).all (λj=>if j=0 then (g p).1 == (g q).1 else (g p).2 == (g q).2)&&(2 == 2))=((g p).1 == (g q).1&&(g p).2 == (g q).2):=by
         show(((if (0:Nat)=0 then (g p).1 == (g q).1 else (g p).2 == (g q).2)&&((if (1:Nat)=0 then (g p).1 == (g q).1 else (g p).2 == (g q).2)&&true))&&true)=_;rw[if_pos rfl,if_neg δ,Bool.and_true,Bool.and_true]
        rw[<- e5];exact this
       show decide (g p=g q)=_;rw[Fu,decide_eq_true_eq,CH,beq_iff_eq,beq_iff_eq];exact Prod.ext_iff
      have h1':j<2:=h1
      match j,h1' with
      | 0,_=>exact B7.int_int (g p).1 t1 (g q).1 t3
      | 1,_=>exact B7.int_int (g p).2 t2 (g q).2 t4
 refine⟨.non,_,I.acf (ys:=(ps.eraseIdx j).map AT) (its':=its.eraseIdx j) hH e ?_ ?_ ?_,rfl,qq j hj⟩
 ·simp[Array.eraseIdxIfInBounds];omega
 ·rw[vK];exact Vals.eraseIdx _ r
 rw[AC,Lm];split <;> exact aO ω
variable {o e:Expr}{to te:TE}
def Vo(x:V)(te:TE)(σ:St)(H1:Hp)(Q:VK):Prop:=match x with
 | .ref l=>isq (H1 l)/\te σ H1 λy H2=>Vt (.ref l) [y] H2 Q
 | _=>False
def aaV(to te:TE):TE:=λσ H Q=>to σ H λx H1=>Vo x te σ H1 Q
theorem Ur(to te:TE)(σ:St)(H:Hp)(Q:VK):aaV to te σ H Q=to σ H λx H1=>Vo x te σ H1 Q:=rfl
theorem Rp(l:IN)(te:TE)(σ:St)(H1:Hp)(Q:VK):Vo (.ref l) te σ H1 Q=(isq (H1 l)/\te σ H1 λy H2=>Vt (.ref l) [y] H2 Q):=rfl
theorem Ze{apos cpos:Pos}(hu:X.A.in1.units<FO)(ho:QE X o to)(he:QE X e te)
  (hbase:EI o "remove" X.env (eval o X.env)=eval o X.env:=by rfl)
   (hfew:((CY cpos (AK [e] X.env)).all (λx=>!x.1)&&(Ix cpos (Fc [] X.env)).all (λx=>x.1.isSome)
   && decide ([e].length+([]:List EN).length+(if ([]:List EN).isEmpty then 0 else 1)<30))=true:=by rfl)
  (hline:(apos.endLine == cpos.line)=true:=by rfl) (hs:AK [e] X.env=(false,eval e X.env)::AK [] X.env:=by rfl) (hplain:(CY cpos (AK [] X.env)).any (·.1)=false:=by rfl) :
  QE X (.Call (.Attribute o "remove" apos) [e] [] cpos) (aaV to te):=⟨by
 intro pins s σ H Q I h;refine Fn hbase hfew hline Z (thE (ho.h pins s σ H _ I h) λv s1 x H1 I1 r1 q=>?_);cases x with
 | ref l=>
  obtain⟨q1,q2⟩:=q;cases el:H1 l with
  | none=>rw[el] at q1;exact q1.elim
  | some ob=>
   cases ob with
   | lst xs=>
    obtain⟨h1,h2⟩:=wk (T := "list") I1 r1 (.inl ⟨rfl,xs,SqL.of el⟩);refine⟨"list","list.remove",E6,PySem.F.slot_list_remove,PySem.F.type_list_remove,h1,h2,?_⟩;rw[hs];refine EH (by show(false||(CY cpos (AK [] X.env)).any (·.1))=false;rw[hplain] <;> rfl) (EZ ?_)
    refine CL (thE (he.h pins s1 σ H1 _ I1 q2) λu s2 y H2 I2 r2 q3=>C0 ?_);exact aak hu pins s2 σ H2 (.ref l) [y] v [u] Q I2 r1 (.cons r2 .nil) q3
   | _=>rw[el] at q1;exact q1.elim
 | _=>exact q.elim⟩
end
def acZ:List Nat->Nat
 | []=>0
 | k::l=>2^k+acZ l
def QK(n s:Nat):List Nat:=(BN n).filter λk=>s.testBit k
inductive Wy where
 | pick (l:Int)
 | tab
 | msk (l:Int)
 | one (k:Nat)
 | wit (k:Nat)
 | low (k:Nat)
def hdL:Wy->List AU
 | .pick l=>[.str "pick",.int l]
 | .tab=>[.str "table"]
 | .msk l=>[.str "mask",.int l]
 | .one k=>[.str "is",.int (k:Int)]
 | .wit k=>[.str "within",.int (k:Int)]
 | .low k=>[.str "below",.int (k:Int)]
def ad3(ss:Sts)(left:List Nat):Wy->List (List Nat)
 | .pick _=>[]
 | .tab=>[]
 | .msk l=>[left.filter λk=>(fC ss k).2.2≠l]
 | .one k=>[left.filter (·≠k)]
 | .wit k=>[left.filter (·≠k)]
 | .low k=>[left.filter (· < k),left.filter (k<=·)]
section
variable {ok:IN->Prop}{σ:St}{H:Hp}{te:TE}{d:AU}{ds:List AU}{D:Ends}{i:Nat}
theorem gvV{v:V}(h:σ[i]?=ID (ID v))(t:aJ ok H v d):Gv ok (tV i) σ H d:=λH2 s Q q=>by
 unfold tV;rw[h];exact q _ _ (Same.refl _) (t.same s)
theorem Yd{r:IN}{xs:List V}(hσ:σ[i]?=ID (ID (.ref r)))(er:H r=ID (.lst xs))(hx:xs.length<1000000)(hr:∀a,ok a->a≠r)(t:aG ok H xs ds)(h:Gv ok te σ H d)
  (q:∀v H',Same H H'->aG ok (upd H' r (.lst (xs++[v]))) (xs++[v]) (ds++[d])->D.nx σ (upd H' r (.lst (xs++[v])))):Il (Im (tV i) te) D σ H:=by
 unfold Il Im tV;rw[hσ];show aaQ _ _ _ _ _;rw[Kz];refine⟨by rw[er];trivial,h H (Same.refl _) _ λv H' s tv=>?_⟩;rw[s _ _ er,wg];refine⟨BB hx δ,q v H' s ?_⟩;exact((t.same s).append (.cons tv .nil)).keep λa o h e=>⟨h,by rw[aH (hr a h)];exact e⟩
end
theorem XJ(left:List Nat):oE (nv left) (ID 1) IF=nv (left.drop 1):=by
 unfold oE;have e2:HT.sIx (nv left).length (nv left).length IF=(nv left).length:=rfl;rw[e2];cases left with
 | nil=>rfl
 | cons a r=>
  have e1:HT.sIx (nv (a::r)).length 0 (ID 1)=1:=by
   simp only[HT.sIx,pR,EX];split
   ·omega
   omega
  rw[e1];show(((nv (a::r)).drop 1).take _)=nv r;rw[Ex (by rw[Gc];exact AV _)];rfl
theorem acz{ok:IN->Prop}{σ:St}{H:Hp}{i:Nat}{p:IN}{L:List Int}(hσ:σ[i]?=ID (ID (.ref p)))(e:H p=ID (.lst (L.map At)))(hL:0<L.length):Gv ok (tOp Li (tV i) (tC (At 0))) σ H (.int (L.getD 0 0)):=λH' s Q q=>by
 unfold tOp tV tC;rw[hσ];show Li (.ref p) (.int 0) H' Q;rw[zZ,s _ _ e,Qh];cases L with
 | nil=>exact absurd hL δ
 | cons x L=>exact⟨At x,bZ (xs:=At x::L.map At) (j:=0) rfl,q _ _ (Same.refl _) (.int x)⟩
def adR(ss:Sts)(left:List Nat):Wy->Prop
 | .pick l=>∀k∈left,lbl ss k=l
 | .tab=>fM ss left<=200
 | .msk l=>fM ss left<=64/\(∃k∈left,lbl ss k=l)/\∃k∈left,lbl ss k≠l
 | .one k=>(k∈left/\1<left.length)/\(fC ss k).1=(fC ss k).2.1
 | .wit k=>k∈left/\1<left.length
 | .low k=>k∈left.drop 1
def mkP:Wy->List Pl->Pl
 | .pick l,_=>.pick l
 | .tab,_=>.tab
 | .msk l,ps=>.msk l (ps.getD 0 .tab)
 | .one k,ps=>.one k (ps.getD 0 .tab)
 | .wit k,ps=>.wit k (ps.getD 0 .tab)
 | .low k,ps=>.low k (ps.getD 0 .tab) (ps.getD 1 .tab)
def adS(w:Wy):Pl:=mkP w []
def acT(f:List Nat->Pl->Int)(N:List Int)(ss:Sts)(left:List Nat)(w:Wy):Int:=f left (adS w)+((ad3 ss left w).map λp=>N.getD (acZ p) 0).sum
def acR(f:List Nat->Pl->Int)(N:List Int)(ss:Sts)(left:List Nat)(c:Int):Prop:=(∃w,adR ss left w/\c=acT f N ss left w)/\∀w,adR ss left w->c<=acT f N ss left w
structure Tbl(f:List Nat->Pl->Int)(ss:Sts)(n m:Nat)(N:List Int):Prop where
 len:N.length=m
 at0:N.getD 0 0=0
 lst:∀x,0<x->x<m->acR f N ss (QK n x) (N.getD x 0)
structure PlT(f:List Nat->Pl->Int)(ss:Sts)(n m:Nat)(N:List Int)(T:List Pl):Prop where
 len:T.length=m
 ok:∀x,0<x->x<m->PlV ss (T.getD x .tab) (QK n x)/\yx ss f (T.getD x .tab) (QK n x)=N.getD x 0/\rN (T.getD x .tab)+1<=2*(QK n x).length
def aa0(is:List Int)(w:Int)(j:Nat):Prop:=is[j]?=ID w/\∀m<j,is[m]?≠ID w
def Uw(K:AF)(to te:TE):TE:=λσ H Q=>to σ H λx H1=>∃(p:IN)(is:List Int),x=.ref p/\SqL K H1 p (is.map At)/\te σ H1 λy H2=>∃w,y=.int w/\SqL K H2 p (is.map At)/\w∈is/\∀j,aa0 is w j->Q (.int (j:Nat)) H2
theorem Xn:∀{is:List Int}{w:Int},w∈is->∃j,aa0 is w j
 | a::is,w,h=>by
  by_cases c:a=w
  ·subst c;exact⟨0,rfl,λm hm=>ω⟩
  obtain⟨j,h1,h2⟩:=Xn (is:=is) (w:=w) (by
   rcases A3.mp h with z|z
   ·exact absurd z.symm c
   exact z)
  refine⟨j+1,h1,λm hm=>?_⟩;cases m with
  | zero=>intro z;exact c (Be z)
  | succ m=>exact h2 m ω
section
variable {X:Cx}{o e:Expr}{to te:TE}
theorem ZK{apos cpos:Pos}(hu:X.A.in1.units<FO)(ho:PE X o to)(he:PE X e te)
  (hbase:EI o "index" X.env (eval o X.env)=eval o X.env:=by rfl)
   (hfew:((CY cpos (AK [e] X.env)).all (λx=>!x.1)&&(Ix cpos (Fc [] X.env)).all (λx=>x.1.isSome)
   && decide ([e].length+([]:List EN).length+(if ([]:List EN).isEmpty then 0 else 1)<30))=true:=by rfl)
  (hline:(apos.endLine == cpos.line)=true:=by rfl) (hs:AK [e] X.env=(false,eval e X.env)::AK [] X.env:=by rfl) (hplain:(CY cpos (AK [] X.env)).any (·.1)=false:=by rfl) :
  PE X (.Call (.Attribute o "index" apos) [e] [] cpos) (Uw X.K to te):=by
 intro pins s σ H Q I h;refine Fn hbase hfew hline Z (thE (ho pins s σ H _ I h) λv s1 x H1 I1 r1 q=>?_);obtain⟨p,is,rfl,hq,q⟩:=q;obtain⟨h1,h2⟩:=wk (T := "list") I1 r1 (.inl ⟨rfl,_,hq⟩);refine⟨"list","list.index",E6,PySem.F.slot_list_index,PySem.F.type_list_index,h1,h2,?_⟩;rw[hs];refine EH (by show(false||(CY cpos (AK [] X.env)).any (·.1))=false;rw[hplain] <;> rfl) (EZ ?_)
 refine CL (thn (he pins s1 σ H1 _ I1 q) λu s2 ⟨y,H2,I2,r2,w,ey,hq2,hw,q3⟩=>C0 ?_);subst ey;obtain⟨j,hf⟩:=Xn hw;cases r1;obtain⟨its,rv,pl,hz⟩:=I2.list hq2;have hl:=rv.length;rw[AC] at hl;have hj:j<its.length:=by have:=(AI.mp hf.1).1;omega
 have at':∀m (hm:m<its.length),∃t,its[m]=EQ (is.getD m 0) t:=λm hm=>mY rv m _ (by simp[AD hm]);have gd:∀m,m<its.length->is[m]?=ID (is.getD m 0):=λm hm=>by
  rw[AY,AD ω];rfl
 obtain⟨tu,rfl⟩:=r2;obtain⟨ob,n,eo,ec,ed,es⟩:=pl;cases ob with
 | mk cls dict data slots=>
  cases ec;cases es;have hj2:((j:Nat):Int)<2^63-1:=by
   have hl:=rv.length;have:=Lv;omega
  refine EK F.slot_list_index ⟨_,eo,rfl⟩ F.entry_list_index (F.args_list_index_2 _ _) (SeqAt.list_indexAt p its.toArray n _ _ (.int w tu) (λy=>match y with | .int z _=>z == w|_=>false) j (by simpa using hj) hj2 ?_ ?_) ⟨eo,λy hy=>?_,?_⟩
  ·obtain⟨t,e⟩:=at' j hj;have:its.toArray[j]'(by simpa using hj)=EQ (is.getD j 0) t:=by simpa using e
   rw[this];have:=hf.1;rw[gd j hj] at this;simpa using Be this
  ·intro m hm hmj;have hm':m<its.length:=by simpa using hm
   obtain⟨t,e⟩:=at' m hm';have:its.toArray[m]=EQ (is.getD m 0) t:=by simpa using e
   rw[this];have:=hf.2 m hmj;rw[gd m hm'] at this;have:is.getD m 0≠w:=λz=>this (by rw[z]);simpa using this
  ·have hy':y∈its:=by simpa using hy
   obtain⟨m,hm,em⟩:=FB.mp hy';obtain⟨t,e⟩:=at' m hm;rw[em] at e;rw[e];exact B7.int_int _ t w tu
  exact⟨.int (j:Nat),H2,I2.tok _,⟨_,rfl⟩,q3 j hf⟩
theorem Zg{apos cpos:Pos}(hu:X.A.in1.units<FO)(ho:QE X o to)(he:QE X e te)
  (hbase:EI o "index" X.env (eval o X.env)=eval o X.env:=by rfl)
   (hfew:((CY cpos (AK [e] X.env)).all (λx=>!x.1)&&(Ix cpos (Fc [] X.env)).all (λx=>x.1.isSome)
   && decide ([e].length+([]:List EN).length+(if ([]:List EN).isEmpty then 0 else 1)<30))=true:=by rfl)
  (hline:(apos.endLine == cpos.line)=true:=by rfl) (hs:AK [e] X.env=(false,eval e X.env)::AK [] X.env:=by rfl) (hplain:(CY cpos (AK [] X.env)).any (·.1)=false:=by rfl) :
  QE X (.Call (.Attribute o "index" apos) [e] [] cpos) (Uw X.K to te):=⟨ZK hu ho.h he.h hbase hfew hline hs hplain⟩
end
theorem rC:∀{ds:List AU},(∀d∈ds,d.canLay0=true)->AU.canLayAll0 ds=true
 | [],_=>rfl
 | d::ds,h=>by
  show(d.canLay0&&AU.canLayAll0 ds)=true;rw[h d A5,rC λd hd=>h d (Bi _ hd)];rfl
def FJ(ss:Sts)(ws:List Int):AU:=.tuple [.list (ss.map stD),.list (ws.map AU.int)]
theorem DG(ss:Sts)(ws:List Int):(FJ ss ws).canLay0=true/\(FJ ss ws).depth<=100:=by
 constructor
 ·refine rC λd hd=>?_;rcases A3.mp hd with rfl|hd
  ·refine rC λd hd=>?_;obtain⟨s,_,rfl⟩:=C9.mp hd;rfl
  rw[AJ.mp hd];refine rC λd hd=>?_;obtain⟨s,_,rfl⟩:=C9.mp hd;rfl
 have h1:=jO (ds:=ss.map stD) (k:=2) λd hd=>by
  obtain⟨s,_,rfl⟩:=C9.mp hd;show(1:Nat)<=2;decide
 have h2:=jO (ds:=ws.map AU.int) (k:=2) λd hd=>by
  obtain⟨s,_,rfl⟩:=C9.mp hd;show(0:Nat)<=2;decide
 show max (AU.depthAll (ss.map stD)+1) (max (AU.depthAll (ws.map AU.int)+1) 0)+1<=100;omega
def Io:Sp:=λvs H Q _=>∃(sa wa t la:IN)(xs:List V)(ok:IN->Prop)(ss:Sts)(ws zs:List Int)(left:List Nat),vs=[.ref sa,.ref wa,.ref t,.ref la]/\H sa=ID (.lst xs)/\aG ok H xs (ss.map stD)/\ss.length<=60/\H wa=ID (.lst (ws.map At))/\ws.length=ss.length/\lE H t zs/\H la=ID (.lst (nv left))/\Lf ss left/\left.length<=60 /\
 ∀(p:IN)(ord:List Nat) H',Same H H'->ord.Perm left->(ord.map (iR ss ws zs)).Pairwise (· < ·)->aJ (λ_=>True) H' (.ref p) (.list (ord.map (Oq ss zs)))->Q (.ref p) H'
theorem tY{ss:Sts}{ws zs:List Int}:∀{left:List Nat},left.Pairwise (· < ·)->(∀k∈left,k<64)->(left.map (iR ss ws zs)).Nodup
 | [],_,_=>nodup_nil
 | a::l,h,h64=>by
  rw[DU] at h;refine FR.mpr ⟨λm=>?_,tY h.2 λk hk=>h64 k (Bi _ hk)⟩;obtain⟨b,hb,e⟩:=C9.mp m;have:=h.1 b hb;exact YL (h64 b (Bi _ hb)) (h64 a A5) ω e
theorem Eg{H:Hp}:∀{ps:List IN}{left:List Nat}{g:Nat->Int×Int},ps.length=left.length->(∀(j:Nat) p k,ps[j]?=ID p->left[j]?=ID k->eZ H p=g k)->ps.map (eZ H)=left.map g
 | [],[],_,_,_=>rfl
 | p::ps,k::left,g,hl,h=>by
  rw[DJ,DJ,h 0 p k Z rfl,Eg (by simpa using hl) λj p k h1 h2=>h (j+1) p k h1 h2]
def tR(ss:Sts)(left:List Nat)(L:List Int):Prop:=L.Pairwise (· < ·)/\∀l,l∈L ↔ ∃k∈left,lbl ss k=l
def OJ:Sp:=λvs H Q _=>∃(sa wa t la:IN)(xs:List V)(ok:IN->Prop)(ss:Sts)(ws zs:List Int)(left:List Nat),vs=[.ref sa,.ref wa,.ref t,.ref la]/\H sa=ID (.lst xs)/\aG ok H xs (ss.map stD)/\ss.length<=60/\H wa=ID (.lst (ws.map At))/\ws.length=ss.length/\lE H t zs/\H la=ID (.lst (nv left))/\Lf ss left/\left.length<=60 /\
 ∀(r:IN)(ts:List IN)(L:List Int)(ord:List Nat) H',Same H H'->H r=IF->H' r=ID (.lst (ts.map AT))->tR ss left L->ord.Perm left->(ord.map (iR ss ws zs)).Pairwise (· < ·)->ts.length=L.length ->
  (∀(j:Nat) t lab,ts[j]?=ID t->L[j]?=ID lab->∃v,H' t=ID (.tup [.int (gB ss ws zs (sumK ws left) ord lab),v])/\aJ (λ_=>True) H' v (CK ss zs lab (iK ss lab ord)))->Q (.ref r) H'
theorem Rb{ws:List Int}{a b:List Nat}(h:a.Perm b):sumK ws a=sumK ws b:=by
 unfold sumK;exact Wf (h.map _)
def gC:Int->List (Int×Int)->Int
 | _,[]=>0
 | W,x::r=>W*x.2+gC (W-x.1) r
def Fall(l:List (Int×Int)):Prop:=l.Pairwise λx y=>y.1*x.2<=x.1*y.2
theorem J6{a:Int×Int}:∀{pre post:List (Int×Int)}{W:Int},(∀b∈pre,b.1*a.2<=a.1*b.2)->gC W (a::(pre++post))<=gC W (pre++a::post)
 | [],post,W,_=>GA _
 | b::pre,post,W,h=>by
  have ih:=J6 (a:=a) (pre:=pre) (post:=post) (W:=W-b.1) λc hc=>h c (Bi _ hc);have hb:=h b A5;show W*a.2+((W-a.1)*b.2+gC (W-a.1-b.1) (pre++post))<=W*b.2+gC (W-b.1) (pre++a::post);have e:gC (W-b.1) (a::(pre++post))=(W-b.1)*a.2+gC (W-a.1-b.1) (pre++post):=by
   show(W-b.1)*a.2+gC (W-b.1-a.1) (pre++post)=_;rw[show W-b.1-a.1=W-a.1-b.1 by omega]
  rw[e] at ih;rw[Int.sub_mul] at ih |-;omega
theorem Bu:∀{l o:List (Int×Int)}{W:Int},Fall l->o.Perm l->gC W l<=gC W o
 | [],o,W,_,p=>by rw[List.perm_nil.mp p];exact GA _
 | a::l,o,W,hr,p=>by
  obtain⟨h1,h2⟩:=DU.mp hr;obtain⟨pre,post,rfl⟩:=List.append_of_mem (p.mem_iff.mpr A5);have p2:(pre++post).Perm l:=(List.perm_cons a).mp (List.perm_middle.symm.trans p);have ih:=Bu (l:=l) (o:=pre++post) (W:=W-a.1) h2 p2;refine Int.le_trans ?_ (J6 (a:=a) (pre:=pre) (post:=post) λb hb=>h1 b (p2.mem_iff.mp (EB _ hb)));show W*a.2+gC (W-a.1) l<=W*a.2+gC (W-a.1) (pre++post);omega
theorem aaz{l o:List (Int×Int)}{W:Int}(h:Fall l)(k:Fall o)(p:o.Perm l):gC W o=gC W l:=Int.le_antisymm (Bu k p.symm) (Bu h p)
def prK(ss:Sts)(ws zs:List Int)(k:Nat):Int×Int:=(ws.getD k 0,dX ss zs k)
theorem Pz(ss:Sts)(ws zs:List Int):∀(l:List Nat)(W:Int),vo ss ws zs W l=gC W (l.map (prK ss ws zs))
 | [],_=>rfl
 | k::l,W=>by
  show W*dX ss zs k+vo ss ws zs (W-ws.getD k 0) l=W*dX ss zs k+gC (W-ws.getD k 0) (l.map (prK ss ws zs));rw[Pz ss ws zs l]
theorem Ey{ss:Sts}{ws zs:List Int}(h0:1<=zs.getD 0 0)(h1:1<=zs.getD 1 0):∀{l:List Nat},(∀k∈l,k<64)->(l.map (iR ss ws zs)).Pairwise (· < ·)->Fall (l.map (prK ss ws zs))
 | [],_,_=>GL
 | a::l,h64,hr=>by
  rw[DJ,DU] at hr;refine DU.mpr ⟨λy hy=>?_,Ey h0 h1 (λk hk=>h64 k (Bi _ hk)) hr.2⟩;obtain⟨b,hb,rfl⟩:=C9.mp hy;have q:=hr.1 _ (E9 (f:=iR ss ws zs) hb);have ha64:=h64 a A5;have hb64:=h64 b (Bi _ hb);have nk:¬vM ss ws zs b<vM ss ws zs a:=by
   unfold iR at q;omega
  exact not_lt.mp λz=>nk ((Ti (ss:=ss) (ws:=ws) (zs:=zs) (p:=b) (b:=a) h0 h1).mp z)
theorem Jk{x b n:Int×Int}(hx:0<x.2)(hb:0<b.2)(hn:0<n.2)(h1:x.1*b.2<=b.1*x.2)(h2:b.1*n.2<=n.1*b.2):x.1*n.2<=n.1*x.2:=by
 have h3:=Int.mul_le_mul_of_nonneg_right h1 (Int.le_of_lt hn);have h4:=Int.mul_le_mul_of_nonneg_right h2 (Int.le_of_lt hx);refine Int.le_of_mul_le_mul_right (show x.1*n.2*b.2<=n.1*x.2*b.2 from ?_) hb;rw[show x.1*n.2*b.2=x.1*b.2*n.2 by rw[LY,IU n.2,<- LY],show n.1*x.2*b.2=n.1*b.2*x.2 by rw[LY,IU x.2,<- LY]];rw[show b.1*n.2*x.2=b.1*x.2*n.2 by rw[LY,IU n.2,<- LY]] at h4;exact Int.le_trans h3 h4
def rng(a b:Nat):List Nat:=(BN (b-a)).map (a + ·)
theorem eG{a b k:Nat}:k∈rng a b↔a<=k/\k<b:=by
 unfold rng;rw[C9];constructor
 ·rintro⟨j,hj,rfl⟩;have:=D9.mp hj;omega
 rintro⟨h1,h2⟩;exact⟨k-a,D9.mpr ω,ω⟩
theorem fZ(a b:Nat):(rng a b).length=b-a:=by unfold rng;rw[AC,C8]
theorem Vg(a b:Nat):(rng a b).Pairwise (· < ·):=KS.mpr (GO.imp λh=>ω)
theorem Vj{ss:Sts}{a b:Nat}(h:a<b)(hb:b<=ss.length):Lf ss (rng a b):=⟨λz=>by have:=fZ a b;rw[z] at this;simp at this;omega,λk hk=>by have:=eG.mp hk;omega,Vg a b⟩
theorem wH{a k b:Nat}(h1:a<=k)(h2:k<=b):rng a b=rng a k++rng k b:=by
 unfold rng;rw[show b-a=(k-a)+(b-k) by omega,List.range_add,A4,F7];congr 1;refine DZ λj _=>?_;show a+(k-a+j)=k+j;omega
theorem Vi{a k b:Nat}(h1:a<=k)(h2:k<=b):(rng a b).filter (· < k)=rng a k:=by
 rw[wH h1 h2,filter_append,L4.mpr λj hj=>by have:=eG.mp hj;simp;omega,JJ.mpr λj hj=>by have:=eG.mp hj;simp;omega,ED]
theorem Vk{a k b:Nat}(h1:a<=k)(h2:k<=b):(rng a b).filter (k<=·)=rng k b:=by
 rw[wH h1 h2,filter_append,JJ.mpr λj hj=>by have:=eG.mp hj;simp;omega,L4.mpr λj hj=>by have:=eG.mp hj;simp;omega,nil_append]
theorem Vl(a b:Nat):Lg (a:Int) (b-a)=nv (rng a b):=by
 unfold Lg nv rng;rw[F7];refine DZ λj _=>?_;show At ((a:Int)+(j:Nat))=At ((a+j:Nat):Int);congr 1
abbrev lG:=Int×List AU×List (Nat×Nat)
def Gj(ss:Sts)(zs:List Int)(lab:Int):List Nat->List AU
 | []=>[.str "pick",.int lab]
 | k::r=>[.str (kZ ss zs k),.int (k:Int),CK ss zs lab r]
theorem Vf(ss:Sts)(zs:List Int)(lab:Int)(l:List Nat):CK ss zs lab l=.tuple (Gj ss zs lab l):=by cases l <;> rfl
structure tQ(ss:Sts)(ws zs:List Int)(left ord:List Nat):Prop where
 pm:ord.Perm left
 up:(ord.map (iR ss ws zs)).Pairwise (· < ·)
theorem tQ.one{ss:Sts}{ws zs:List Int}{left o u:List Nat}(h:tQ ss ws zs left o)(k:tQ ss ws zs left u):o=u:=Ei (h.pm.trans k.pm.symm) h.up k.up
inductive jP (ss:Sts)(ws zs:List Int)(a b:Nat):lG->Prop
 | row (lab:Int) (ord:List Nat):(∃k∈rng a b,lbl ss k=lab)->tQ ss ws zs (rng a b) ord->jP ss ws zs a b (gB ss ws zs (sumK ws (rng a b)) ord lab,Gj ss zs lab (iK ss lab ord),[])
 | tab:fM ss (rng a b)<=200->jP ss ws zs a b (zs.getD 4 0*sumK ws (rng a b),[.str "table"],[])
 | msk (l0 l1:Int):fM ss (rng a b)<=64->tR ss (rng a b) [l0,l1]->jP ss ws zs a b (zs.getD 3 0*sumK ws (rng a b),[.str "mask",.int l0,.tuple [.str "pick",.int l1]],[])
 | low (k:Nat):a<k->k<b->jP ss ws zs a b (zs.getD 2 0*sumK ws (rng a b),[.str "below",.int (k:Int)],[(a,k),(k,b)])
def rpD(x:Nat×Nat):AU:=.tuple [.int (x.1:Int),.int (x.2:Int)]
def rwD(x:lG):AU:=.tuple [.int x.1,.tuple x.2.1,.list (x.2.2.map rpD)]
def jG(N:Nat->Nat->Int)(x:lG):Int:=x.1+(x.2.2.map λp=>N p.1 p.2).sum
def cY(ss:Sts)(ws zs:List Int)(N:Nat->Nat->Int)(a b:Nat)(c:Int):Prop:=(∃x,jP ss ws zs a b x/\c=jG N x)/\∀x,jP ss ws zs a b x->c<=jG N x
theorem cY.uniq{ss:Sts}{ws zs:List Int}{N:Nat->Nat->Int}{a b:Nat}{c d:Int}(h:cY ss ws zs N a b c)(k:cY ss ws zs N a b d):c=d:=by
 obtain⟨⟨x,hx,ex⟩,l1⟩:=h;obtain⟨⟨y,hy,ey⟩,l2⟩:=k;have:=l1 y hy;have:=l2 x hx;omega
theorem vm{ss:Sts}{ws zs:List Int}{a b:Nat}{x:lG}(h:jP ss ws zs a b x):∀p∈x.2.2,a<=p.1/\p.1<p.2/\p.2<=b/\p.2-p.1<b-a:=by
 cases h with
 | low k h1 h2=>
  intro p hp;rcases A3.mp hp with rfl|hp
  ·exact⟨AV _,h1,ω,ω⟩
  rw[AJ.mp hp];exact⟨ω,h2,AV _,ω⟩
 | _=>intro p hp;cases hp
theorem cY.congr{ss:Sts}{ws zs:List Int}{N M:Nat->Nat->Int}{a b:Nat}{c:Int}(e:∀i j,a<=i->i<j->j<=b->j-i<b-a->N i j=M i j)(h:cY ss ws zs N a b c):cY ss ws zs M a b c:=by
 have key:∀x,jP ss ws zs a b x->jG N x=jG M x:=λx hx=>by
  unfold jG;rw[DZ λp hp=>by obtain⟨h1,h2,h3,h4⟩:=vm hx p hp;exact e _ _ h1 h2 h3 h4]
 obtain⟨⟨x,hx,ex⟩,l⟩:=h;exact⟨⟨x,hx,by rw[<- key x hx];exact ex⟩,λy hy=>by rw[<- key y hy];exact l y hy⟩
def Pq(T:Nat->Nat->AU)(x:lG):AU:=.tuple (x.2.1++x.2.2.map λp=>T p.1 p.2)
structure Yi(N:Nat->Nat->Int)(ok:IN->Prop)(H:Hp)(r nd:IN)(xs:List V)(W:List lG)(kn:List (List Key×V)):Prop where
 er:H r=ID (.lst xs)
 t:aG ok H xs (W.map rwD)
 hx:xs.length<=1000
 en:H nd=ID (.dT kn)
 at':∀x∈W,∀p∈x.2.2,gF kn (key2 p.1 p.2)=ID (.int (N p.1 p.2))
 hd:∀x∈W,x.2.1≠[]/\x.2.1.length<=10/\x.2.2.length<=2
def wA(N:Nat->Nat->Int):Sp:=λvs H Q _=>∃(r nd:IN)(ok:IN->Prop)(xs:List V)(W:List lG)(kn:List (List Key×V)),vs=[.ref r,.ref nd]/\Yi N ok H r nd xs W kn /\
 ∀b H',Same H H'->H b=IF->H' b=ID (.lst ((W.map (jG N)).map At))->Q (.ref b) H'
def zM(N:Nat->Nat->Int)(T:Nat->Nat->AU):Sp:=λvs H Q _=>∃(r nd pd:IN)(ok:IN->Prop)(xs:List V)(W:List lG)(kn kp:List (List Key×V)),vs=[.ref r,.ref nd,.ref pd]/\Yi N ok H r nd xs W kn/\j9 ok H/\H pd=ID (.dT kp)/\(∀x∈W,∀p∈x.2.2,∃v,gF kp (key2 p.1 p.2)=ID v/\aJ ok H v (T p.1 p.2))/\W≠[] /\
 ∀(v:V) x H',Same H H'->x∈W->(∀x'∈W,jG N x<=jG N x')->aJ ok H' v (.tuple [.int (jG N x),Pq T x])->Q v H'
theorem lq{ok:IN->Prop}{H:Hp}{y:V}{p:Nat×Nat}(t:aJ ok H y (rpD p)):∃q,y=.ref q/\H q=ID (.tup [.int (p.1:Int),.int (p.2:Int)]):=by
 obtain⟨q,xs,rfl,e,tt⟩:=aJ.KY t;cases aG.ints (is:=[(p.1:Int),(p.2:Int)]) tt;exact⟨q,rfl,e⟩
def lz(n i:Nat):List (Nat×Nat):=(BN (i+1)).map λj=>(n-1-i,n-i+j)
def dF(n i:Nat):List (Nat×Nat):=(BN i).flatMap (lz n)
theorem xG(n i:Nat):dF n (i+1)=dF n i++lz n i:=by
 unfold dF;rw[range_succ,List.flatMap_append,List.flatMap_cons,List.flatMap_nil,ED]
theorem zW(n i:Nat):(lz n i).length=i+1:=by unfold lz;rw[AC,C8]
theorem ni(n:Nat):∀i,i<=60->(dF n i).length<=61*i
 | 0,_=>AV _
 | i+1,h=>by
  have:=ni n i ω;rw[xG,A0,zW];omega
def DP(n:Nat):Sp:=λvs H Q _=>vs=[.int (n:Int)]/\n<=60 /\
 ∀(r:IN)(xs:List V) H',Same H H'->H r=IF->H' r=ID (.lst xs)->aG (λ_=>True) H' xs ((dF n n).map rpD)->Q (.ref r) H'
def FP:Sp:=λvs H Q _=>∃(sa wa t rp:IN)(a b:Nat)(xs:List V)(ok:IN->Prop)(ss:Sts)(ws zs:List Int),vs=[.ref sa,.ref wa,.ref t,.ref rp]/\H sa=ID (.lst xs)/\aG ok H xs (ss.map stD)/\ss.length<=60/\H wa=ID (.lst (ws.map At))/\ws.length=ss.length/\lE H t zs/\H rp=ID (.tup [.int (a:Int),.int (b:Int)])/\a<b/\b<=ss.length /\
 ∀(r:IN)(ys:List V)(W:List lG) H',Same H H'->H r=IF->H' r=ID (.lst ys)->(∀x,x∈W↔jP ss ws zs a b x)->W≠[]->aG (λ_=>True) H' ys (W.map rwD)->ys.length<=200->Q (.ref r) H'
theorem Oj{ss:Sts}{ws zs:List Int}{a b:Nat}{x:lG}(h:jP ss ws zs a b x):x.2.1≠[]/\x.2.1.length<=10/\x.2.2.length<=2:=by
 cases h with
 | row lab ord _ _=>cases iK ss lab ord <;> exact⟨by simp[Gj],by simp[Gj],by simp⟩
 | tab _=>exact⟨by simp,by simp,by simp⟩
 | msk l0 l1 _ _=>exact⟨by simp,by simp,by simp⟩
 | low k _ _=>exact⟨by simp,by simp,by simp⟩
theorem Ui:∀{L M:List Int},L.Pairwise (· < ·)->M.Pairwise (· < ·)->(∀l,l∈L↔l∈M)->L=M
 | [],[],_,_,_=>rfl
 | [],m::M,_,_,h=>absurd ((h m).mpr A5) ζ
 | a::L,[],_,_,h=>absurd ((h a).mp A5) ζ
 | a::L,m::M,hL,hM,h=>by
  rw[DU] at hL hM;have e:a=m:=by
   rcases A3.mp ((h a).mp A5) with z|z
   ·exact z
   rcases A3.mp ((h m).mpr A5) with y|y
   ·exact y.symm
   have:=hL.1 m y;have:=hM.1 a z;omega
  subst e;rw[Ui hL.2 hM.2 λl=>⟨λz=>?_,λz=>?_⟩]
  ·rcases A3.mp ((h l).mp (Bi _ z)) with y|y
   ·have:=hL.1 l z;omega
   exact y
  rcases A3.mp ((h l).mpr (Bi _ z)) with y|y
  ·have:=hM.1 l z;omega
  exact y
theorem tR.one{ss:Sts}{left:List Nat}{L M:List Int}(h:tR ss left L)(k:tR ss left M):L=M:=Ui h.1 k.1 λl=>(h.2 l).trans (k.2 l).symm
def Ed(ss:Sts)(ws zs:List Int)(a b:Nat)(ord:List Nat)(L:List Int):List lG:=L.map λlab=>(gB ss ws zs (sumK ws (rng a b)) ord lab,Gj ss zs lab (iK ss lab ord),[])
def Qc(ws zs:List Int)(a b:Nat):List lG:=(rng (a+1) b).map λ(k:Nat)=>(zs.getD 2 0*sumK ws (rng a b),[.str "below",.int (k:Int)],[(a,k),(k,b)])
def rK(ss:Sts)(ws zs:List Int)(a b:Nat):List lG:=if fM ss (rng a b)<=200 then [(zs.getD 4 0*sumK ws (rng a b),[.str "table"],[])] else []
def yK(ss:Sts)(ws zs:List Int)(a b:Nat)(L:List Int):List lG:=if fM ss (rng a b)<=64/\L.length=2 then [(zs.getD 3 0*sumK ws (rng a b),[.str "mask",.int (L.getD 0 0),.tuple [.str "pick",.int (L.getD 1 0)]],[])] else []
theorem rz{ss:Sts}{ws zs:List Int}{a b:Nat}{ord:List Nat}{L:List Int}(hL:tR ss (rng a b) L)(ho:tQ ss ws zs (rng a b) ord)(x:lG):x∈Ed ss ws zs a b ord L++rK ss ws zs a b++yK ss ws zs a b L++Qc ws zs a b↔jP ss ws zs a b x:=by
 rw[Cf,Cf,Cf];constructor
 ·rintro(((h|h)|h)|h)
  ·obtain⟨lab,hl,rfl⟩:=C9.mp h;exact .row lab ord ((hL.2 lab).mp hl) ho
  ·unfold rK at h;split at h
   ·rename_i c;rw[AJ.mp h];exact .tab c
   cases h
  ·unfold yK at h;split at h
   ·rename_i c;rw[AJ.mp h]
    match L,c.2,hL with
    | [l0,l1],_,hL=>exact .msk l0 l1 c.1 hL
   cases h
  obtain⟨k,hk,rfl⟩:=C9.mp h;have:=eG.mp hk;exact .low k ω ω
 intro h;cases h with
 | row lab o2 hl h2=>
  rw[<- ho.one h2];exact .inl (.inl (.inl (C9.mpr ⟨lab,(hL.2 lab).mpr hl,rfl⟩)))
 | tab c=>exact .inl (.inl (.inr (by unfold rK;rw[if_pos c];exact A5)))
 | msk l0 l1 c h2=>
  rw[hL.one h2];exact .inl (.inr (by unfold yK;rw[if_pos ⟨c,rfl⟩];exact A5))
 | low k h1 h2=>exact .inr (C9.mpr ⟨k,eG.mpr ⟨ω,h2⟩,rfl⟩)
theorem QX{ss:Sts}{ws zs:List Int}{a b:Nat}{ord:List Nat}{L:List Int}{W:List lG}(hab:a<b)(ho:tQ ss ws zs (rng a b) ord)(h:∀x,x∈W↔jP ss ws zs a b x):W≠[]:=λz=>by
 have:=(h _).mpr (jP.row (lbl ss a) ord ⟨a,eG.mpr ⟨AV _,hab⟩,rfl⟩ ho);rw[z] at this;cases this
theorem Np{ok:IN->Prop}{σ:St}{H:Hp}{i:Nat}{p:IN}{kvs:List (Key×V)}{w:Str}{c:Int}(hσ:σ[i]?=ID (ID (.ref p)))(e:H p=ID (.dK kvs))(hv:gF kvs (EE w)=ID (.int c)):Gv ok (tDG (tV i) (tC (.str w))) σ H (.int c):=λH' s Q q=>by
 unfold tDG tV tC;rw[hσ];exact⟨p,.int c,rfl,j7.k' (k:=EE w) (s _ _ e) hv,q _ _ (Same.refl _) (.int c)⟩
theorem acy{ok:IN->Prop}{σ:St}{H:Hp}{i:Nat}{p:IN}{L:List Int}(hσ:σ[i]?=ID (ID (.ref p)))(e:H p=ID (.lst (L.map At)))(hL:1<L.length):Gv ok (tOp Li (tV i) (tC (At 1))) σ H (.int (L.getD 1 0)):=λH' s Q q=>by
 unfold tOp tV tC;rw[hσ];show Li (.ref p) (.int 1) H' Q;rw[zZ,s _ _ e,Qh]
 match L,hL with
 | x::y::L,_=>exact⟨At y,bZ (xs:=At x::At y::L.map At) (j:=1) rfl,q _ _ (Same.refl _) (.int y)⟩
theorem Vh{a b:Nat}(h:a<b):(rng a b).drop 1=rng (a+1) b:=by
 rw[wH (le_succ a) (show a+1<=b from h),List.drop_left' (by rw[fZ];omega)]
def zY:Pl->Option Int
 | .one _ r=>zY r
 | .wit _ r=>zY r
 | .pick l=>ID l
 | _=>IF
def inRun(ss:Sts):Pl->Nat->Nat->Prop
 | .pick _,_,_=>True
 | .tab,_,_=>True
 | .msk _ r,_,_=>∃l,r=.pick l
 | .low k p q,a,b=>(a<k/\k<b)/\inRun ss p a k/\inRun ss q k b
 | .one _ r,a,b=>∃l,zY r=ID l/\∃j∈rng a b,lbl ss j=l
 | .wit _ r,a,b=>∃l,zY r=ID l/\∃j∈rng a b,lbl ss j=l
structure KJ(ss:Sts)(ws zs:List Int)(c:Int)(a b:Nat)(pl:Pl):Prop where
 v:PlV ss pl (rng a b)
 s:yx ss (lB ws zs) pl (rng a b)=c
 r:inRun ss pl a b
 z:rN pl+1<=2*(b-a)
theorem Jg(ss:Sts)(zs:List Int)(lab:Int):∀l,zY (plT ss zs lab l)=ID lab
 | []=>rfl
 | k::r=>by
  have ih:=Jg ss zs lab r;unfold plT;split <;> exact ih
theorem aaX{ss:Sts}{zs:List Int}{lab:Int}{m:Nat}:∀{l left:List Nat},Lf ss left->m∈left->m∉l->l.Nodup->(∀k∈l,k∈left)->(∀k∈left,k∈l\/lbl ss k=lab)->PlV ss (plT ss zs lab l) left
 | [],_,h,_,_,_,_,ha=>⟨h,λk hk=>(ha k hk).elim (λz=>nomatch z) id⟩
 | k::r,left,h,hm,hn,nd,hs,ha=>by
  have hk:m≠k:=λz=>hn (z ▸ A5);have hr:m∉r:=λz=>hn (Bi _ z);obtain⟨h1,h2⟩:=h.less hm hk;obtain⟨nd1,nd2⟩:=FR.mp nd;have ih:=aaX (zs:=zs) (lab:=lab) (l:=r) h1 h2 hr nd2 (λj hj=>EJ.mpr ⟨hs j (Bi _ hj),by have:j≠k:=λz=>nd1 (z ▸ hj);simpa using this⟩) λj hj=>by
   obtain⟨g1,g2⟩:=EJ.mp hj;rcases ha j g1 with z|z
   ·rcases A3.mp z with rfl|z
    ·simp at g2
    exact .inl z
   exact .inr z
  have hkl:=hs k A5;unfold plT;split
  ·rename_i c;unfold isT at c;rw[CH,decide_eq_true_eq] at c;exact⟨⟨h,hkl,c.1⟩,ih⟩
  exact⟨⟨h,hkl⟩,ih⟩
theorem Ue{ss:Sts}{ws zs:List Int}{a b:Nat}{x:lG}{N:Nat->Nat->Int}{T:Nat->Nat->Pl}(hab:a<b)(hb:b<=ss.length)(hx:jP ss ws zs a b x)(hT:∀p∈x.2.2,KJ ss ws zs (N p.1 p.2) p.1 p.2 (T p.1 p.2)):∃pl,Pq (λi j=>plD (T i j)) x=plD pl/\KJ ss ws zs (jG N x) a b pl:=by
 have lf:=Vj hab hb;have hll:=fZ a b;cases hx with
 | row lab ord hl ho=>
  obtain⟨m,hm,em⟩:=hl;have hmem:∀k,k∈iK ss lab ord↔k∈rng a b/\lbl ss k≠lab:=λk=>by
   unfold iK;rw[EJ,ho.pm.mem_iff,decide_eq_true_eq];rfl
  have hmn:m∉iK ss lab ord:=λz=>((hmem m).mp z).2 em;have nd:(iK ss lab ord).Nodup:=(ho.pm.nodup_iff.mpr (lf.up.imp λh=>B1 h)).filter _;have hlen:(iK ss lab ord).length+1<=b-a:=by
   have h1:(iK ss lab ord).length<ord.length:=List.length_filter_lt_length_iff_exists.mpr ⟨m,ho.pm.mem_iff.mpr hm,by simp;exact em⟩;have h2:=ho.pm.length_eq;rw[hll] at h2;omega
  refine⟨plT ss zs lab (iK ss lab ord),?_,aaX lf hm hmn nd (λk hk=>((hmem k).mp hk).1) (λk hk=>?_),?_,?_,by rw[Pu];omega⟩
  ·rw[aaY,Vf];show AU.tuple (Gj ss zs lab (iK ss lab ord)++[])=_;rw[ED]
  ·by_cases c:lbl ss k=lab
   ·exact .inr c
   exact .inl ((hmem k).mpr ⟨hk,c⟩)
  ·rw[Jp lf.up nd λk hk=>((hmem k).mp hk).1];exact(add_zero _).symm
  have he:=Jg ss zs lab;cases hn:iK ss lab ord with
  | nil=>exact trivial
  | cons k r=>
   unfold plT;split <;> exact⟨lab,he r,m,hm,em⟩
 | tab c=>exact⟨.tab,rfl,⟨lf,c⟩,(add_zero _).symm,trivial,by show 1+1<=_;omega⟩
 | msk l0 l1 c hL=>
  obtain⟨k0,hk0,e0⟩:=(hL.2 l0).mp A5;obtain⟨k1,hk1,e1⟩:=(hL.2 l1).mp ζ;have hlt:l0<l1:=(DU.mp hL.1).1 l1 ζ;have hf:k1∈(rng a b).filter λk=>(fC ss k).2.2≠l0:=EJ.mpr ⟨hk1,decide_eq_true (show lbl ss k1≠l0 by omega)⟩;refine⟨.msk l0 (.pick l1),rfl,⟨⟨lf,c,k0,hk0,e0⟩,⟨List.ne_nil_of_mem hf,λk hk=>lf.lt k (EJ.mp hk).1,lf.up.filter _⟩,λk hk=>?_⟩,?_,⟨l1,rfl⟩,?_⟩
  ·obtain⟨g1,g2⟩:=EJ.mp hk;have h2:lbl ss k≠l0:=of_decide_eq_true g2;have:=(hL.2 (lbl ss k)).mpr ⟨k,g1,rfl⟩;simp at this;rcases this with z|z
   ·exact absurd z h2
   exact z
  ·show zs.getD 3 0*sumK ws (rng a b)+0=zs.getD 3 0*sumK ws (rng a b)+0;rfl
  have:2<=b-a:=by
   have h1:k0≠k1:=λz=>by rw[z] at e0;omega
   have:=eG.mp hk0;have:=eG.mp hk1;omega
  show 1+1+1<=_;omega
 | low k h1 h2=>
  obtain⟨v1,s1,r1,z1⟩:=hT (a,k) A5;obtain⟨v2,s2,r2,z2⟩:=hT (k,b) ζ;dsimp only at v1 s1 r1 z1 v2 s2 r2 z2;refine⟨.low k (T a k) (T k b),rfl,⟨⟨lf,eG.mpr ⟨ω,h2⟩⟩,?_,?_⟩,?_,⟨⟨h1,h2⟩,r1,r2⟩,?_⟩
  ·rw[Vi ω ω];exact v1
  ·rw[Vk ω ω];exact v2
  ·show zs.getD 2 0*sumK ws (rng a b)+yx ss (lB ws zs) (T a k) ((rng a b).filter (· < k))+yx ss (lB ws zs) (T k b) ((rng a b).filter (k<=·))=zs.getD 2 0*sumK ws (rng a b)+(N a k+(N k b+0));rw[Vi ω ω,Vk ω ω,s1,s2];omega
  show rN (T a k)+rN (T k b)+1+1<=_;omega
structure CelG(cs:List (Nat×IN))(σ:St)(H:Hp)(g:IN->Option Obj):Prop where
 val:∀i c,(i,c)∈cs->∀v,σ[i]?=ID (ID v)->∃u o,RelV v u/\g c=ID o/\o.data=.cell (ID u)
 dom:∀c o,g c=ID o->∃i,(i,c)∈cs
 fre:∀c o,g c=ID o->H c=IF
 all:∀i c,(i,c)∈cs->∃o,g c=ID o
def Yj(H:Hp)(a:IN):Prop:=∃xs,H a=ID (.lst xs)\/H a=ID (.tup xs)
mutual
theorem aJ.seq{ok:IN->Prop}{H:Hp}:∀{v:V}{d:AU},aJ ok H v d->aJ (λa=>ok a/\Yj H a) H v d
 | _,_,.non=>.non
 | _,_,.bl b=>.bl b
 | _,_,.int i=>.int i
 | _,_,.str x=>.str x
 | _,_,.lst o e z t=>.lst ⟨o,_,.inl e⟩ e z t.seq
 | _,_,.tup o e z t=>.tup ⟨o,_,.inr e⟩ e z t.seq
theorem aG.seq{ok:IN->Prop}{H:Hp}:∀{vs:List V}{ds:List AU},aG ok H vs ds->aG (λa=>ok a/\Yj H a) H vs ds
 | _,_,.nil=>.nil
 | _,_,.cons h r=>.cons h.seq r.seq
end
def bfR(q p:Nat×Nat):Prop:=p.1<q.1\/(p.1=q.1/\q.2<p.2)
theorem nW{n i:Nat}{p:Nat×Nat}:p∈lz n i ↔ ∃j,j<i+1/\(n-1-i,n-i+j)=p:=by
 unfold lz;rw[C9];exact⟨λ⟨j,h,e⟩=>⟨j,D9.mp h,e⟩,λ⟨j,h,e⟩=>⟨j,D9.mpr h,e⟩⟩
theorem cQ{n:Nat}{p:Nat×Nat}:p∈dF n n↔p.1<p.2/\p.2<=n:=by
 unfold dF;rw[List.mem_flatMap];constructor
 ·rintro⟨i,hi,h⟩;have:=D9.mp hi;obtain⟨j,hj,rfl⟩:=nW.mp h;exact⟨by show n-1-i<n-i+j;omega,by show n-i+j<=n;omega⟩
 rintro⟨h1,h2⟩;refine⟨n-1-p.1,D9.mpr ω,nW.mpr ⟨p.2-p.1-1,ω,?_⟩⟩;exact Prod.ext (show n-1-(n-1-p.1)=p.1 by omega) (show n-(n-1-p.1)+(p.2-p.1-1)=p.2 by omega)
theorem Ec(n:Nat):(dF n n).Pairwise bfR:=by
 unfold dF;refine List.pairwise_flatMap.mpr ⟨λi hi=>?_,GO.imp_of_mem λ{i j} hi hj h x hx y hy=>?_⟩
 ·unfold lz;exact KS.mpr (GO.imp λ{j k} h=>.inr ⟨rfl,show n-i+j<n-i+k by omega⟩)
 have:=D9.mp hj;obtain⟨_,_,rfl⟩:=nW.mp hx;obtain⟨_,_,rfl⟩:=nW.mp hy;exact .inl (show n-1-j<n-1-i by omega)
theorem Ot{l:List (Nat×Nat)}{i:Nat}{p:Nat×Nat}(h:l.Pairwise bfR)(hi:l[i]?=ID p):∀q,q∈l.take i↔q∈l/\bfR q p:=by
 obtain⟨hl,e⟩:=AI.mp hi;have es:l=l.take i++p::l.drop (i+1):=by rw[<- e,<- IY hl,List.take_append_drop]
 rw[es] at h;obtain⟨_,h2,h3⟩:=LH.mp h;intro q;constructor
 ·intro hq;exact⟨List.mem_of_mem_take hq,h3 q hq p A5⟩
 rintro⟨hq,hb⟩;rw[es] at hq;rcases Cf.mp hq with z|z
 ·exact z
 exfalso;rcases A3.mp z with rfl|z
 ·unfold bfR at hb;omega
 have:=(DU.mp h2).1 q z;unfold bfR at hb this;omega
structure KH(ss:Sts)(ws zs:List Int)(H:Hp)(nd pd:IN)(m:Nat)(D:Nat×Nat->Prop)(N:Nat->Nat->Int)(T:Nat->Nat->Pl)(kn kp:List (List Key×V)):Prop where
 en:H nd=ID (.dT kn)
 ep:H pd=ID (.dT kp)
 ln:kn.length<=m
 lp:kp.length<=m
 num:∀p,D p->gF kn (key2 p.1 p.2)=ID (.int (N p.1 p.2))
 pln:∀p,D p->∃v,gF kp (key2 p.1 p.2)=ID v/\aJ (λa=>a≠nd/\a≠pd) H v (plD (T p.1 p.2))
 good:∀p,D p->KJ ss ws zs (N p.1 p.2) p.1 p.2 (T p.1 p.2)
 lst:∀p,D p->cY ss ws zs N p.1 p.2 (N p.1 p.2)
theorem KH.same{ss:Sts}{ws zs:List Int}{H H':Hp}{nd pd:IN}{m:Nat}{D:Nat×Nat->Prop}{N:Nat->Nat->Int}{T:Nat->Nat->Pl}{kn kp:List (List Key×V)}(h:KH ss ws zs H nd pd m D N T kn kp)(s:Same H H'):KH ss ws zs H' nd pd m D N T kn kp:=
 ⟨s _ _ h.en,s _ _ h.ep,h.ln,h.lp,h.num,λp hp=>by obtain⟨v,e,t⟩:=h.pln p hp;exact⟨v,e,t.same s⟩,h.good,h.lst⟩
theorem qu{a b c d:Nat}(h:key2 (a:Int) (b:Int)=key2 (c:Int) (d:Int)):(a,b)=(c,d):=by
 obtain⟨h1,h2⟩:=W6 h;rw[show a=c by omega,show b=d by omega]
theorem KH.step{ss:Sts}{ws zs:List Int}{H:Hp}{nd pd:IN}{m:Nat}{D D':Nat×Nat->Prop}{N:Nat->Nat->Int}{T:Nat->Nat->Pl}{kn kp:List (List Key×V)}{a b:Nat}{c:Int}{pl:Pl}{v:V}(h:KH ss ws zs H nd pd m D N T kn kp)(hne:nd≠pd)(hab:¬D (a,b))(hD':∀p,D' p↔D p\/p=(a,b))(hin:∀p,D' p->∀i j,p.1<=i->i<j->j<=p.2->j-i<p.2-p.1->D (i,j))
  (hg:KJ ss ws zs c a b pl)(hl:cY ss ws zs N a b c)(tv:aJ (λx=>x≠nd/\x≠pd) H v (plD pl)) :
  ∃N' T',KH ss ws zs (upd (upd H nd (.dT (putK kn (key2 (a:Int) (b:Int)) (.int c)))) pd (.dT (putK kp (key2 (a:Int) (b:Int)) v))) nd pd (m+1) D' N' T' (putK kn (key2 (a:Int) (b:Int)) (.int c)) (putK kp (key2 (a:Int) (b:Int)) v):=by
 obtain⟨N',eN⟩:∃N':Nat->Nat->Int,N'=λi j=>if (i,j)=(a,b) then c else N i j:=⟨_,rfl⟩;obtain⟨T',eT⟩:∃T':Nat->Nat->Pl,T'=λi j=>if (i,j)=(a,b) then pl else T i j:=⟨_,rfl⟩;have nN:∀p,D p->N' p.1 p.2=N p.1 p.2/\T' p.1 p.2=T p.1 p.2:=λp hp=>by
  have:¬(p.1,p.2)=(a,b):=λz=>hab (z ▸ hp);rw[eN,eT];exact⟨if_neg this,if_neg this⟩
 have nA:N' a b=c/\T' a b=pl:=by rw[eN,eT];exact⟨if_pos rfl,if_pos rfl⟩
 have tk:∀{v:V}{d:AU},aJ (λx=>x≠nd/\x≠pd) H v d->aJ (λx=>x≠nd/\x≠pd) (upd (upd H nd (.dT (putK kn (key2 (a:Int) (b:Int)) (.int c)))) pd (.dT (putK kp (key2 (a:Int) (b:Int)) v))) v d:=λt=>t.keep λx u hx e=>⟨hx,by rw[aH hx.2,aH hx.1];exact e⟩;have tk2:∀{u v:V}{d:AU},aJ (λx=>x≠nd/\x≠pd) H u d->aJ (λx=>x≠nd/\x≠pd) (upd (upd H nd (.dT (putK kn (key2 (a:Int) (b:Int)) (.int c)))) pd (.dT (putK kp (key2 (a:Int) (b:Int)) v))) u d:=λt=>t.keep λx u hx e=>⟨hx,by rw[aH hx.2,aH hx.1];exact e⟩;have lc:∀p,D' p->∀c,cY ss ws zs N p.1 p.2 c->cY ss ws zs N' p.1 p.2 c:=λp hp c l=>l.congr λi j h1 h2 h3 h4=>((nN (i,j) (hin p hp i j h1 h2 h3 h4)).1).symm;have key:∀p:Nat×Nat,∀(q:Prop),(D p->q)->(p=(a,b)->q)->D' p->q:=λp q h1 h2 h=>((hD' p).mp h).elim h1 h2;refine⟨N',T',by rw[aH hne];exact aD,aD,by have:=gw kn (key2 (a:Int) (b:Int)) (.int c);have:=h.ln;omega,by have:=gw kp (key2 (a:Int) (b:Int)) v;have:=h.lp;omega,λp hp=>?_,λp hp=>?_,λp hp=>?_,λp hp=>?_⟩
 ·refine key p _ (λd=>?_) (λe=>?_) hp
  ·rw[lg,if_neg λe=>hab (by rw[<- qu e];exact d),(nN p d).1];exact h.num p d
  subst e;rw[lg,if_pos rfl];show _=ID (At (N' a b));rw[nA.1]
 ·refine key p _ (λd=>?_) (λe=>?_) hp
  ·obtain⟨u,e,t⟩:=h.pln p d;refine⟨u,by rw[lg,if_neg λe=>hab (by rw[<- qu e];exact d)];exact e,?_⟩;rw[(nN p d).2];exact tk2 t
  subst e;refine⟨v,by rw[lg,if_pos rfl],?_⟩;show aJ _ _ v (plD (T' a b));rw[nA.2];exact tk2 tv
 ·refine key p _ (λd=>?_) (λe=>?_) hp
  ·rw[(nN p d).1,(nN p d).2];exact h.good p d
  subst e;show KJ ss ws zs (N' a b) a b (T' a b);rw[nA.1,nA.2];exact hg
 refine key p _ (λd=>?_) (λe=>?_) hp
 ·rw[(nN p d).1];exact lc p hp _ (h.lst p d)
 subst e;show cY ss ws zs N' a b (N' a b);rw[nA.1];exact lc _ hp _ hl
def DX:Sp:=λvs H Q _=>∃(sa wa t:IN)(xs:List V)(ok:IN->Prop)(ss:Sts)(ws zs:List Int),vs=[.ref sa,.ref wa,.ref t]/\H sa=ID (.lst xs)/\aG ok H xs (ss.map stD)/\1<=ss.length/\ss.length<=60/\H wa=ID (.lst (ws.map At))/\ws.length=ss.length/\lE H t zs /\
 ∀(r nd pd:IN) H' (m:Nat) (N:Nat->Nat->Int) (T:Nat->Nat->Pl) (kn kp:List (List Key×V)),Same H H'->H' r=ID (.tup [.ref nd,.ref pd])->KH ss ws zs H' nd pd m (λp=>p.1<p.2/\p.2<=ss.length) N T kn kp->Q (.ref r) H'
def K7:Sp:=λvs H Q E=>∃n:(Nat->Nat->Int)×(Nat->Nat->AU),zM n.1 n.2 vs H Q E
def DN:Sp:=λvs H Q E=>∃n:Nat,DP n vs H Q E
def Rc:Sp:=λvs H Q E=>∃n:Nat->Nat->Int,wA n vs H Q E
theorem Bx{ι:Type}{P:A1}{w:BD}{K:AF}{mg:Str->Option Ap}{base:Heap}{CX:CXT}{k:Nat}{f:IN}{fd:D3}{ps:List Str}{sp:ι->Sp}(h:∀n,dw P w K mg base CX k f fd ps (sp n)):dw P w K mg base CX k f fd ps (λvs H Q E=>∃n,sp n vs H Q E):=
 ⟨λvs H Q E ⟨n,z⟩=>(h n).1 vs H Q E z,λA outer s H args us vs Q E a b c d ⟨n,z⟩=>(h n).2 A outer s H args us vs Q E a b c d z⟩
def qR(nd pd:IN)(H H':Hp):Prop:=∀x o,x≠nd->x≠pd->H x=ID o->H' x=ID o
theorem qR.of{nd pd:IN}{H0 H H':Hp}(s:Same H0 H)(b:qR nd pd H H')(h1:H0 nd=IF)(h2:H0 pd=IF):Same H0 H':=λx o e=>b x o (aB e h1) (aB e h2) (s x o e)
theorem qR.tree{nd pd:IN}{H H':Hp}{v:V}{d:AU}(b:qR nd pd H H')(t:aJ (λx=>x≠nd/\x≠pd) H v d):aJ (λx=>x≠nd/\x≠pd) H' v d:=t.keep λa o h e=>⟨h,b a o h.1 h.2 e⟩
theorem qR.trans{nd pd:IN}{H H1 H2:Hp}(b:qR nd pd H H1)(s:Same H1 H2):qR nd pd H H2:=λx o h1 h2 e=>s _ _ (b x o h1 h2 e)
theorem qR.put{nd pd:IN}{H H1:Hp}{o1 o2:HO}(b:qR nd pd H H1):qR nd pd H (upd (upd H1 nd o1) pd o2):=λx o h1 h2 e=>by
 rw[aH h2,aH h1];exact b x o h1 h2 e
theorem noD{H:Hp}{nd pd a:IN}{kn kp:List (List Key×V)}(en:H nd=ID (.dT kn))(ep:H pd=ID (.dT kp))(h:Yj H a):a≠nd/\a≠pd:=by
 constructor
 ·rintro rfl;obtain⟨xs,e|e⟩:=h
  ·rw[en] at e;cases e
  rw[en] at e;cases e
 rintro rfl;obtain⟨xs,e|e⟩:=h
 ·rw[ep] at e;cases e
 rw[ep] at e;cases e
theorem aG.adz{H:Hp}{nd pd:IN}{kn kp:List (List Key×V)}{ok:IN->Prop}{vs:List V}{ds:List AU}(en:H nd=ID (.dT kn))(ep:H pd=ID (.dT kp))(t:aG ok H vs ds):aG (λx=>x≠nd/\x≠pd) H vs ds:=t.seq.keep λa o h e=>⟨noD en ep h.2,e⟩
theorem ad6{H:Hp}{nd pd:IN}{kn kp:List (List Key×V)}(en:H nd=ID (.dT kn))(ep:H pd=ID (.dT kp)):j9 (λx=>x≠nd/\x≠pd) H:=λH2 p s hp=>⟨(aB (s _ _ en) hp).symm,(aB (s _ _ ep) hp).symm⟩
theorem qO:∀(names:List (Str×B2)) (n:Nat) (acc:List (Str×IN)),FE n names acc=FE n names []++acc
 | [],_,_=>rfl
 | (x,k)::r,n,acc=>by
  unfold FE;split
  ·rw[qO r (n+1) ((x,n)::acc),qO r (n+1) [(x,n)],F1];rfl
  exact qO r n acc
theorem Hv:∀(names:List (Str×B2)) (n:Nat) (x:Str) (c:IN),(x,c)∈FE n names []->(x,B2.cell)∈names
 | [],_,_,_,h=>by cases h
 | (y,k)::r,n,x,c,h=>by
  unfold FE at h;split at h
  ·rename_i hk;rw[qO] at h;rcases Cf.1 h with h|h
   ·exact Bi _ (Hv r _ x c h)
   cases AJ.mp h;rw[beq_iff_eq.mp hk];exact A5
  exact Bi _ (Hv r _ x c h)
theorem jA{l1 l2:List (Str×IN)}{x:Str}:(l1++l2).lookup x=(match l1.lookup x with|some c=>ID c|none=>l2.lookup x):=by
 induction l1 with
 | nil=>rfl
 | cons a l ih=>
  obtain⟨k,v⟩:=a;rw[cons_append,D1,D1];cases x == k with
  | true=>rfl
  | false=>exact ih
theorem Hw:∀(names:List (Str×B2)) (n:Nat) (x:Str),(x,B2.cell)∈names->∃c,(FE n names []).lookup x=ID c
 | [],_,_,h=>by cases h
 | (y,k)::r,n,x,h=>by
  unfold FE;rcases A3.1 h with e|h
  ·cases e;rw[if_pos (show(B2.cell == B2.cell)=true by decide),qO,jA];cases (FE (n+1) r []).lookup y with
   | some c=>exact⟨c,rfl⟩
   | none=>
    refine⟨n,?_⟩;show List.lookup y [(y,n)]=ID n;rw[D1,beq_self_eq_true]
  split
  ·obtain⟨c,hc⟩:=Hw r (n+1) x h;rw[qO,jA,hc];exact⟨c,rfl⟩
  exact Hw r n x h
theorem PJ{M:Model}{A:BA}{E:Ap->AA->Prop}{s:AA}{scope:D0}{globals:IN}{cl:List (Str×IN)}{qual:Str}{env:Env}{Q:Env->AA->Prop}
  (hQ:Q (newEnv scope s.heap.objs.size globals (FE (s.heap.objs.size+1) scope.names cl) qual IF .none (ID env) builtinsNs) { s with heap:=pushCells (s.heap.push { cls:=.type "dict",data:=.dict #[] }) scope.names }) :
  AH M A (newFunctionEnv scope globals cl [] qual IF .none (ID env)) Q E s:=by
 unfold newFunctionEnv;simp only[isSome_some,if_true];refine An (wpAny_alloc (An (wpAny_layCells _ (λa b c=>by cases h:b == B2.cell <;> simp[h]) _ _ _ _ ?_)))
 rw[show({ s with heap:=s.heap.push { cls:=.type "dict",data:=.dict #[] } }:AA).heap.objs.size=s.heap.objs.size+1 from Cb ..];rw[forIn_nil];exact An (Au (Au hQ))
def bO(X:Cx)(N:List Str)(scope:D0)(cl:List (Str×IN))(C:IN)(s:AA)(H:Hp)(fp:List IN):Cx:=
 { X with N:=N,s₀:=s,H₀:=H,env:=CO scope cl C X.env,outer:=X.stack,stack:=X.stack,ex:=fp,fn:=λx=>scope.names.lookup x == ID .cell,pn:=[],xe:=λ_ _=>False }
def lY(NX:List Str)(names:List (Str×B2)):List Str->List (Option Nat)->Bool
 | [],[]=>true
 | x::r,o::q=>(match o with
   | none=>names.lookup x == ID .local||names.lookup x == ID .cell
   | some j=>NX[j]? == ID x&&names.lookup x == ID .free)&&lY NX names r q
 | _,_=>false
theorem Ar{NX:List Str}{names:List (Str×B2)}:∀{N:List Str}{mp:List (Option Nat)}{i j:Nat}{x:Str},lY NX names N mp=true->N[i]?=ID x->mp[i]?=ID (ID j)->NX[j]?=ID x/\names.lookup x=ID .free
 | [],_,i,_,_,_,h,_=>by simp at h
 | _::_,[],_,_,_,h,_,_=>by simp[lY] at h
 | y::r,o::q,0,j,x,h,h1,h2=>by
  simp at h1 h2;subst h1 h2;unfold lY at h;simp only[CH,beq_iff_eq] at h;exact h.1
 | y::r,o::q,i+1,j,x,h,h1,h2=>by
  unfold lY at h;rw[CH] at h;exact Ar (i:=i) h.2 (by simpa using h1) (by simpa using h2)
theorem Aq{NX:List Str}{names:List (Str×B2)}:∀{N:List Str}{mp:List (Option Nat)},lY NX names N mp=true->mp.length=N.length
 | [],[],_=>rfl
 | [],_::_,h=>by simp[lY] at h
 | _::_,[],h=>by simp[lY] at h
 | _::r,_::q,h=>by
  unfold lY at h;rw[CH] at h;simp[Aq h.2]
structure xr(NX:List Str)(kX:List (Str×B2))(N:List Str)(mp:List (Option Nat))(scope:D0):Prop where
 kind:scope.kind=.function
 cel:∀y∈scope.names,y.2=.cell->scope.names.lookup y.1=ID .cell
 locs:∀y∈scope.names,y.2=.local->scope.names.lookup y.1=ID .local
 fre:∀y∈scope.names,y.2=.free->kX.lookup y.1=ID .cell\/kX.lookup y.1=ID .free
 map:lY NX scope.names N mp=true
structure yw(X:Cx)(scope:D0)(cl own:List (Str×IN))(C:IN)(h3:Heap):Prop where
 sub:∀x c,cl.lookup x=ID c->X.env.cells.lookup x=ID c
 has:∀y∈scope.names,y.2=.free->∃c,cl.lookup y.1=ID c
 mine:∀x c,own.lookup x=ID c->scope.names.lookup x=ID .cell/\C<c/\h3.IsCell c IF
 all:∀x,scope.names.lookup x=ID .cell->∃c,own.lookup x=ID c
 apart:own.Pairwise λx y=>x.2≠y.2
theorem yw.look{X:Cx}{scope:D0}{cl own:List (Str×IN)}{C:IN}{h3:Heap}(O:yw X scope cl own C h3){x:Str}{c:IN}(h:(own++cl).lookup x=ID c):(scope.names.lookup x=ID .cell/\C<c/\h3.IsCell c IF/\own.lookup x=ID c)\/(cl.lookup x=ID c/\X.env.cells.lookup x=ID c):=by
 rw[jA] at h;cases e:own.lookup x with
 | some c'=>
  rw[e] at h;cases h;obtain⟨a,b,d⟩:=O.mine x c e;exact .inl ⟨a,b,d,rfl⟩
 | none=>
  rw[e] at h;exact .inr ⟨h,O.sub x c h⟩
theorem yw.free{X:Cx}{scope:D0}{cl own:List (Str×IN)}{C:IN}{h3:Heap}(O:yw X scope cl own C h3){x:Str}(h:scope.names.lookup x≠ID .cell):(own++cl).lookup x=cl.lookup x:=by
 rw[jA];cases e:own.lookup x with
 | some c'=>exact absurd (O.mine x c' e).1 h
 | none=>rfl
section
variable {X:Cx}{NX N:List Str}{kX:List (Str×B2)}{mp:List (Option Nat)}{scope:D0}{pins:List (IN×Obj)}{σ:St}{s s':AA}{H:Hp}{fp:List IN}{cl own:List (Str×IN)}{C:IN}{h3:Heap}
theorem v7(hkX:X.env.scope.names=kX)(S:xr NX kX N mp scope)(I:Inv X pins σ H s)(hfp:∀b∈fp,lJ X pins H b)(hold:∀b∈fp,b<s.heap.objs.size)(hC:s.heap.objs.size<=C)
  (O:yw X scope cl own C h3):(bO X N scope (own++cl) C s H fp).Ok where
 mod:=I.ok.mod
 kind:=S.kind
 glob:=I.ok.glob
 blt:=I.ok.blt
 above:=hC
 inj:=λx y c h1 h2=>by
  have old:∀{z:Str},X.env.cells.lookup z=ID c->¬C<c:=λ{z} hz hlt=>by
   obtain⟨_,o,g,_⟩:=I.cell z c hz;have:=AQ g;exact absurd (BB this hC) (Nat.not_lt_of_lt hlt)
  rcases O.look h1 with⟨_,g1,_,l1⟩|⟨_,g1⟩
  ·rcases O.look h2 with⟨_,_,_,l2⟩|⟨_,g2⟩
   ·exact PySem.name_of_addr O.apart (BH l1) (BH l2)
   exact absurd g1 (old g2)
  rcases O.look h2 with⟨_,g2,_,_⟩|⟨_,g2⟩
  ·exact absurd g2 (old g1)
  exact I.ok.inj x y c g1 g2
 has:=λx h=>by
  have key:scope.names.lookup x=ID .cell\/scope.names.lookup x=ID .free:=by
   rcases h with h|h
   ·rcases dN (env:=X.env) (names:=scope.names) h with q|⟨_,q⟩
    ·exact .inl q
    exact .inr q
   rcases dN (env:=X.env) (names:=scope.names) h with q|⟨q,_⟩
   ·exact .inr q
   cases q
  show ∃c,(own++cl).lookup x=ID c;rcases key with key|key
  ·obtain⟨c,hc⟩:=O.all x key;exact⟨c,by rw[jA,hc]⟩
  rw[O.free (by rw[key];decide)];exact O.has _ (BH key) rfl
 cab:=λx c h1 h2=>by
  rcases O.look h2 with⟨_,g,_⟩|⟨g,_⟩
  ·exact CM hC (HH g)
  obtain⟨c',hc'⟩:=O.all x (beq_iff_eq.mp h1);replace h2:(own++cl).lookup x=ID c:=h2;rw[jA,hc'] at h2;cases h2;exact CM hC (HH (O.mine x _ hc').2.1)
 hd:=I.ok.hd
 frames:=I.ok.frames
 stk:=.inl rfl
 exf:=λb hb=>⟨B1 (BB (hold b hb) hC),λx c e=>by
  rcases O.look e with⟨_,g,_⟩|⟨_,g⟩
  ·exact Ki (lt_trans (BB (hold b hb) hC) g)
  exact(hfp b hb).2.2.2.2.1 x c g⟩
 bs:=I.bs
 bsz:=CM I.ok.bsz I.sz
 noex:=λb o e hb=>by
  rcases(hfp b hb).2.2.2.1 with q|q
  ·exact I.ok.noex b o e q
  exact absurd (BB (BB (AQ e) I.ok.bsz) q) (ES _)
 exfs:=λb hb hz=>by
  obtain⟨_,h1,h2,_⟩:=hfp b hb;rcases A3.mp (I.jR b hz) with q|q
  ·exact h1 q
  exact h2 q
 wW:=I.stack
 frf:=I.Fz
theorem Km(hNX:X.N=NX)(hkX:X.env.scope.names=kX)(S:xr NX kX N mp scope)(I:Inv X pins σ H s)(hfp:∀b∈fp,lJ X pins H b)(hold:∀b∈fp,b<s.heap.objs.size)(hC:s.heap.objs.size<=C)
  (O:yw X scope cl own C s'.heap)
  (ho:s'.os=s.os)(hg:s'.gens=s.gens)(hn:∃m,s'.heap.Ns C m)(hk:∀b o,s.heap.get? b=ID o->s'.heap.get? b=ID o){pl:List (IN×Obj)}
  (hp:∀p∈pl,s'.heap.get? p.1=ID p.2/\H p.1=IF/\p.1≠C/\p.1∉frs X.stack/\∀v,p.2.data≠.cell v) :
  Inv (bO X N scope (own++cl) C s H fp) pl (cZ mp σ) H s' where
 ok:=v7 hkX S I hfp hold hC O
 os:=ho
 bare:=by rw[hg];exact I.bare
 base:=Un.kept hk
 loc:=by
  obtain⟨m,hm⟩:=hn;refine⟨m,hm,λi x v h1 h2 h3=>?_⟩;have h2':(mp.map λo=>match o with|some j=>(σ[j]?).join|none=>IF)[i]?=ID (ID v):=h2
  rw[AL] at h2';cases e:mp[i]? with
  | none=>rw[e] at h2';cases h2'
  | some o=>
   rw[e] at h2';cases o with
   | none=>cases h2'
   | some j=>
    have h4:(σ[j]?).join=ID v:=by simpa using h2'
    have h5:σ[j]?=ID (ID v):=by
     cases q:σ[j]? with
     | none=>rw[q] at h4;cases h4
     | some z=>rw[q] at h4;rw[show z=ID v from h4]
    obtain⟨g1,g2⟩:=Ar S.map h1 e;have fk:=S.fre _ (BH g2) rfl;obtain⟨m0,_,hl⟩:=I.loc;have vis:Vis X.env.scope x:=by
     rcases fk with q|q
     ·exact .inr (.inl (by rw[hkX];exact q))
     exact .inr (.inr (by rw[hkX];exact q))
    obtain⟨u,r,l⟩:=hl j x v (by rw[hNX];exact g1) h5 vis;refine⟨u,r,.inr ?_⟩;have l':∃c,X.env.cells.lookup x=ID c/\s.heap.IsCell c (ID u):=by
     rcases l with⟨q,_⟩|⟨_,q⟩
     ·have q':X.env.scope.names.lookup x=ID .local:=q;rw[hkX] at q';rcases fk with z|z
      ·rw[q'] at z;cases z
      rw[q'] at z;cases z
     exact q
    obtain⟨c,hc,oc,hoc,hd⟩:=l';obtain⟨c',hc'⟩:=O.has _ (BH g2) rfl;have ec:c'=c:=by
     have:=O.sub x c' hc';rw[hc] at this;exact(Be this).symm
    subst ec;refine⟨?_,c',(O.free (by rw[g2];decide)).trans hc',oc,hk _ _ hoc,hd⟩;rcases h3 with q|q|q
    ·rcases dN (env:=X.env) (names:=scope.names) q with z|⟨z,_⟩
     ·rw[g2] at z;cases z
     cases z
    ·exact .inl q
    exact .inr q
 cell:=λx c e=>by
  rcases O.look e with⟨_,_,g,_⟩|⟨_,g⟩
  ·exact⟨_,g⟩
  obtain⟨v,o,h1,h2⟩:=I.cell x c g;exact⟨v,o,hk _ _ h1,h2⟩
 free:=I.hok.fresh hC
 freeC:=λx c e=>by
  rcases O.look e with⟨_,g,_⟩|⟨_,g⟩
  ·exact I.hok.fresh (CM hC (HH g))
  exact I.freeC x c g
 pin:=λp hpp=>hp p (by simpa [bO] using hpp)
 hok:=I.hok.kept hk
 len:=by
  show(mp.map _).length=N.length;rw[AC];exact Aq S.map
end
section
variable {X:Cx}{NX N:List Str}{kX:List (Str×B2)}{mp:List (Option Nat)}{scope:D0}
set_option maxHeartbeats 8000000 in
theorem V8{tg iter elt:Expr}{ifs:List Expr}{pos pos' pos2:Pos}{wi:TI}{g:TG}{tc:TT}{te:TE}{i:Nat}{x:Str}(N:List Str)(mp:List (Option Nat))(hn:Nm X.N X.env.scope i x)(hNd:X.N.Nodup)(hNX:X.N=NX)(hkX:X.env.scope.names=kX)(S:xr NX kX N mp scope)(hc:X.calm=true)
  (hi:PI X tg iter wi)(hg:∀cl C s H fp,PG (bO X N scope cl C s H fp) tg g)(ht:∀cl C s H fp,PTs (bO X N scope cl C s H fp) ifs tc)(he:∀cl C s H fp,PE (bO X N scope cl C s H fp) elt te)
  (hf:X.fn x=true\/X.env.scope.names.lookup x=ID .local:=by exact .inl Z)
  (hsw:DS [.Name x pos'] (.ListComp elt [⟨tg,iter,ifs,0⟩] scope pos) pos2.line X.env=pure true:=by rfl)
  (h1:(CI [.Name x pos'] X.env).map (·.2)=[C7 (.Name x pos') X.env]:=by rfl)
  (hs:∀x,BC iter X.env x=pure x:=by intro _;rfl):PS X (.Assign [.Name x pos'] (.ListComp elt [⟨tg,iter,ifs,0⟩] scope pos) pos2) (rM (oK mp wi g tc te) (gb i)):=by
 intro pins s σ H Dn I h;rw[IA];refine An (CA ?_);rw[hsw];refine An (Au ?_);rw[if_pos rfl,h1];replace h:oK mp wi g tc te σ H (λv H1=>Dn.nx (σ.set i (ID v)) H1):=h;obtain⟨cl,hcl,hsub,hhas⟩:=lO (env:=X.env) (scope:=scope) λy hy hf=>I.ok.has y.1 (by
  rcases S.fre y hy hf with q|q
  ·exact .inl (show X.env.scope.names.lookup y.1=_ by rw[hkX];exact q)
  exact .inr (show X.env.scope.names.lookup y.1=_ by rw[hkX];exact q))
 generalize hQ:(λ(v:V)(H1:Hp)=>Dn.nx (σ.set i (ID v)) H1)=Q at h
 let QQ:Ap->AA->Prop:=λ_ s'=>∃τ H',Inv X pins τ H' s'/\Dn.nx τ H'
 refine An (An (thn (Q:=QQ) (CS (e:=.ListComp elt [⟨tg,iter,ifs,0⟩] scope pos) (use:=ID λv=>IH v [C7 (.Name x pos') X.env]) Z hs hcl S.kind S.locs ?_) λ_ s' ⟨τ,H',I',q'⟩=>Au (Au ⟨τ,H',I',q'⟩)));refine thn (hi pins s σ H _ I h) λv s1 h1=>thn h1 λitv s2 h2=>?_;obtain⟨it,fp,tn,J,H2,e,I2,T,st2,f2,W,⟨m0,w0⟩,turn⟩:=h2;subst e;refine A6 (PJ ?_);dsimp only;have hold:∀b∈fp,b<s2.heap.objs.size:=λb hb=>by
  obtain⟨o,q,_⟩:=T.obj _ _ st2 b hb;exact AQ q
 generalize hD:s2.heap.objs.size=D;generalize hH2:s2.heap.push { cls:=.type "list",dict:=IF,data:=.seq ([]:List Ap).toArray }=P2;have hC:P2.objs.size=D+1:=by rw[<- hH2,Cb,hD]
 have cok:=PySem.cellsFrom_ok scope.names (P2.push { cls:=.type "dict",data:=.dict #[] }) (P2.objs.size+1) [] ⟨λ_ _ hm=>(nomatch hm),GL⟩ (by rw[Cb];exact AV _);rw[Cb] at cok;have hns:(F8 (P2.push { cls:=.type "dict",data:=.dict #[] }) scope.names).Ns P2.objs.size λ_=>IF:=(Heap.Ns.new P2 (.type "dict")).keeps (GW _ _);have kp:∀b o,P2.get? b=ID o->(F8 (P2.push { cls:=.type "dict",data:=.dict #[] }) scope.names).get? b=ID o:=λb o q=>GW _ _ b o (AB _ q);rw[qO];generalize hown:PySem.cellsFrom (P2.objs.size+1) scope.names []=own at cok |-;generalize F8 (P2.push { cls:=.type "dict",data:=.dict #[] }) scope.names=h3 at cok hns kp |-;generalize hC':P2.objs.size=C at hns cok hown hC |-;have old:∀b o,s2.heap.get? b=ID o->h3.get? b=ID o:=λb o q=>kp b o (hH2 ▸ AB _ q);have accD:h3.get? D=ID { cls:=.type "list",data:=.seq ([]:List Ap).toArray }:=kp _ _ (by rw[<- hH2,<- hD];exact AO _ Z);have O:yw X scope cl own C h3:=by
  refine⟨hsub,hhas,λx c e=>?_,λx e=>?_,cok.apart⟩
  ·have hm:=BH e;obtain⟨g1,g2⟩:=cok.empty x c hm;rw[<- hown] at hm;exact⟨S.cel _ (Hv _ _ _ _ hm) rfl,g2,g1⟩
  rw[<- hown];exact Hw _ _ x (BH e)
 have hfr:D∉frs X.stack:=λz=>by
  rcases A3.mp (I2.jR D z) with q|q
  ·exact na0 I2.lt hD q.symm
  exact I2.Gy (na4 hD) q
 have I0:Inv (bO X N scope (own++cl) C s2 H2 fp) [(D,{ cls:=.type "list",data:=.seq ([]:List Ap).toArray })] (cZ mp σ) H2 { s2 with heap:=h3 }:=
  Km (s':={ s2 with heap:=h3 }) hNX hkX S I2 f2 hold (na3 hD hC) O Z Z ⟨_,hns⟩ old λp hp=>by
   have ep:=AJ.mp hp;subst ep;exact⟨accD,I2.hok.fresh (na4 hD),na2 hC,hfr,λv z=>by cases z⟩
 have T0:tn 0 h3:=T.keep _ _ _ st2 λb _ o q=>old b o q;have loop:∀z:AA,z={ s2 with heap:=h3 } ->
   DF (AM X.prog X.w) X.A (.compLoop (.ListComp elt [⟨tg,iter,ifs,0⟩] scope pos) 0 (.ref it) (.ref D) (CO scope (own++cl) C X.env))
    (Kn (AM X.prog X.w) X.A X.xe (ID λv=>IH v [C7 (.Name x pos') X.env]) QQ (.ref D) C) z:=by
  rintro z rfl;have stat:∀{H':Hp}{pl:List (IN×Obj)},(∀b∈fp,H' b=IF)->(∀p∈pl,p.1=D)->∀b∈fp,lJ (bO X N scope (own++cl) C s2 H2 fp) pl H' b:=λhn hp b hb=>by
   have hb2:=hold b hb;refine⟨hn b hb,na1 hb2 hD hC,(v7 hkX S I2 f2 hold (na3 hD hC) O).exfs b hb,.inl hb,((v7 hkX S I2 f2 hold (na3 hD hC) O).exf b hb).2,λp hpp=>?_⟩;have hpD:=hp p (by simpa [bO] using hpp);rw[hpD];exact(na0 hb2 hD).symm
  refine rE (env:=CO scope (own++cl) C X.env) (λn z=>∃i acc τ H' its k,Inv (bO X N scope (own++cl) C s2 H2 fp) [(D,{ cls:=.type "list",data:=.seq (Ch its) k })] τ H' z/\tn i z.heap/\(∀b∈fp,H' b=IF)/\Vals acc its/\acc.length<=AN/\W i n acc τ H')
   ?_ m0 ⟨0,[],_,H2,[],0,I0,T0,λb hb=>(f2 b hb).1,.nil,De _,w0⟩
  rintro n s5 ⟨i,acc,τ,H5,its,k,I5,st5,fr5,va,hz,w5⟩;rcases turn i n acc τ H5 w5 with⟨stop,qn⟩|⟨go,hz2,N9,hN9,step⟩
  ·refine thn (T.done (bO X N scope (own++cl) C s2 H2 fp) Z Z Z hc i _ s5 τ H5 _ I5 (stat fr5 ζ) st5 stop) λr s6 ⟨hr,I6⟩=>?_;subst hr;obtain⟨m6,hn6,_⟩:=I6.loc;obtain⟨dD,nD,_,_,_⟩:=I6.pin (D,_) (AG _ (AJ.mpr Z));have U:=I6.base;have nC:H5 C=IF:=I6.free;have ne:∀b o,s2.heap.get? b=ID o->b≠C/\b≠D:=λb o q=>by
    exact⟨na1 (AQ q) hD hC,na0 (AQ q) hD⟩
   have key:∀h',B0 C s6.heap h'->Inv X pins σ (upd H5 D (.lst acc)) { s6 with heap:=h' }:=λh' sb=>by
    have keepC:∀b o,b≠C->s6.heap.get? b=ID o->h'.get? b=ID o:=λb o hb q=>(sb.2 b hb).trans q;have U':Un (frs X.stack) fp H2 (upd H5 D (.lst acc)) s2.heap h':=by
     refine⟨λb o q n1 hb hx=>keepC b o (ne b o q).1 (U.keep b o q n1 hb hx),λb o q n1 hb hx=>?_,λb o q n1 hx=>?_,λb o q hx=>?_,λb xs q=>?_,λb o xs q=>?_,λb ps q=>?_⟩
     ·obtain⟨sl,z⟩:=U.slot b o q n1 hb hx;exact⟨sl,keepC b _ (ne b o q).1 z⟩
     ·rw[aH (ne b o q).2];exact U.free b o q n1 hx
     ·obtain⟨o',z⟩:=U.there b o q hx;exact⟨o',keepC b _ (ne b o q).1 z⟩
     ·have z:=U.tups b xs q;rw[aH (aB z nD)];exact z
     ·have z:=U.frzs b o xs q;rw[aH (aB z nD)];exact z
     obtain⟨more,z⟩:=U.tbls b ps q;exact⟨more,by rw[aH (aB z nD)];exact z⟩
    have hok:HOk X.prog X.w (upd H5 D (.lst acc)) h':=λb u q=>by
     by_cases hb:b=D
     ·subst hb;rw[aD] at q;cases q;exact⟨hz,its,k,va,keepC _ _ (na2 hC) dD⟩
     rw[aH hb] at q;refine(I6.hok b u q).stay (λc v hcc z=>keepC c v ?_ z) (λc z=>by rw[aH (aB z nD)];exact z) λc xs z=>by rw[aH (aB z nD)];exact z
     rcases hcc with z1|z1
     ·subst z1;exact aB q nC
     exact aB z1 nC
    have I7:Inv X pins σ (upd H5 D (.lst acc)) { s6 with heap:=h' }:=I2.call' (s':={ s6 with heap:=h' }) (ch:=fp) I6.os U' hok I6.bare λb hb=>by
     obtain⟨_,a2,_,a4,a5,a6⟩:=f2 b hb;exact⟨a4,a2,a5,a6⟩
    exact I7
   have I7:Inv X pins σ (upd H5 D (.lst acc)) s6:=key s6.heap (B0.refl _ _);have lC:X.env.locals≠C:=na1 I2.lt hD hC;have cC:∀y c,X.env.cells.lookup y=ID c->c≠C:=λy c z=>by
    obtain⟨_,o,h1,_⟩:=I2.cell y c z;exact na1 (AQ h1) hD hC
   show AH _ _ (C7 (.Name x pos') X.env (.ref D)) _ _ s6;refine GG (mD (v:=.ref D) I7 hNd hn.hN hn.hv Z (λs7 I8 ⟨a,sa,ha⟩=>?_) hf);have aC:a≠C:=by
    rcases ha with rfl|ha
    ·exact lC
    exact cC _ _ ha
   obtain⟨o6,es6,ep6,g1,g2,g3,g4⟩:=hn6;refine⟨m6,⟨o6,es6,ep6,(sa.2 C (BS aC)).trans g1,g2,g3,g4⟩,λh' sb=>?_⟩;have q9:=qn D nD;rw[<- hQ] at q9;refine⟨_,_,I8.turned (it:=C) (t':=s7.toks) (λb o hb q=>(sb.2 b hb).trans q) ?_ (BS lC) (.inr (CM I2.sz (na3 hD hC))) cC (λp hp=>?_),q9⟩
   ·rw[aH (BS (na2 hC))];exact nC
   obtain⟨h1,_⟩:=I2.pin p hp;exact na1 (AQ h1) hD hC
  refine thn (T.item (bO X N scope (own++cl) C s2 H2 fp) Z Z Z hc i _ s5 τ H5 _ I5 (stat fr5 ζ) st5 go) λr s6 ⟨u,hr,h6⟩=>?_;subst hr;refine thn h6 λ_ s7 ⟨x,H7,I7,r7,y7,st7,fr7⟩=>?_;have I7':=I7.pinned (stat fr7 ζ) (T.obj _ _ st7);have no:∀{α:Type}{t:Sem α}{Q1 Q2:α->AA->Prop}{E:Ap->AA->Prop}{z:AA},AH (AM X.prog X.w) X.A t Q1 (λ_ _=>False) z->(∀a z,Q1 a z->Q2 a z)->AH (AM X.prog X.w) X.A t Q2 E z:=
   λq f=>A7 q f λ_ _ z=>z.elim
  refine no (hg (own++cl) C s2 H2 fp _ s7 τ H7 x u _ I7' r7 (step x H7 y7)) λ_ s8 ⟨τ1,H8,I8,q8⟩=>?_;refine no (ht (own++cl) C s2 H2 fp _ s8 τ1 H8 _ I8 q8) λok s9 ⟨H9,I9,q9⟩=>?_;have ER:∀{H':Hp}{z:AA}{its':List Ap}{k':Nat},Inv (bO X N scope (own++cl) C s2 H2 fp) ([(D,{ cls:=.type "list",data:=.seq (Ch its') k' })]++cG fp s7.heap) τ1 H' z ->
    tn (i+1) z.heap/\(∀b∈fp,H' b=IF)/\Inv (bO X N scope (own++cl) C s2 H2 fp) [(D,{ cls:=.type "list",data:=.seq (Ch its') k' })] τ1 H' z:=λ{H' z its' k'} Iz=>by
   have get:∀b∈fp,∀o,s7.heap.get? b=ID o->z.heap.get? b=ID o/\H' b=IF:=λb hb o q=>by
    obtain⟨a1,a2,_⟩:=Iz.pin (b,o) (AG _ (AG _ (dM hb q)));exact⟨a1,a2⟩
   refine⟨T.keep _ _ _ st7 λb hb o q=>(get b hb o q).1,λb hb=>?_,Iz.fL⟩;obtain⟨o,q,_⟩:=T.obj _ _ st7 b hb;exact(get b hb o q).2
  cases ok with
  | false=>
   rw[if_neg AX] at q9 |-;obtain⟨m',hm,w9⟩:=hN9 _ _ _ q9;obtain⟨a1,a2,a3⟩:=ER I9;exact⟨m',hm,i+1,acc,τ1,H9,its,k,a3,a1,a2,va,hz,w9⟩
  | true=>
   rw[if_pos rfl] at q9 |-;refine no (he (own++cl) C s2 H2 fp _ s9 τ1 H9 _ I9 q9) λy s10 ⟨v,H10,I10,rv,q10⟩=>?_;obtain⟨m',hm,w10⟩:=hN9 _ _ _ q10;obtain⟨a1,a2,a3⟩:=ER I10;obtain⟨dD,nD,_,_,_⟩:=a3.pin (D,_) (AG _ (AJ.mpr Z));have hlen:=va.length;refine EK Fh ⟨_,dD,rfl⟩ E4 (EV _ _) (FI D its.toArray k y (by rw[AZ];omega)) ⟨dD,?_⟩;obtain⟨k',q⟩:∃k',(s10.heap.update D (BO λa=>a.push y)).get? D=ID { cls:=.type "list",data:=.seq (its++[y]).toArray k' }:=by
    have q:=F2 dD (λa=>a.push y);rw[show its.toArray.push y=(its++[y]).toArray by simp] at q;exact⟨_,q⟩
   have a4:Inv (bO X N scope (own++cl) C s2 H2 fp) (cG fp s7.heap) τ1 H10 s10:=I10.dW λp hp=>I10.pin p (AG _ (AG _ hp));have a5:Inv (bO X N scope (own++cl) C s2 H2 fp) (cG fp s7.heap) τ1 H10 { s10 with heap:=s10.heap.update D (BO λa=>a.push y),toks:=s10.toks }:=
    a4.turned (it:=D) (λb o hb z=>(BQ _ _ (BS hb)).trans z) nD (na2 hC) (.inr (na4 hD))
     (λx c z=>by
      rcases O.look z with⟨_,g,_⟩|⟨_,g⟩
      ·exact Ki (lt_trans (by rw[hC];exact C3 D) g)
      ·obtain⟨_,o,h1,_⟩:=I2.cell x c g;exact na0 (AQ h1) hD) λp hp=>by
      have hb:=(gH (by simpa [bO] using hp)).1;exact na0 (hold _ hb) hD
   obtain⟨b1,b2,b3⟩:=(show tn (i+1) (s10.heap.update D (BO λa=>a.push y))/\(∀b∈fp,H10 b=IF)/\True from
    ⟨T.keep _ _ _ a1 λb hb o z=>(BQ _ _ (na0 (hold b hb) hD).symm).trans z,a2,trivial⟩)
   refine⟨m',hm,i+1,acc++[v],τ1,H10,its++[y],k',a5.dW λp hp=>?_,b1,b2,va.append (.cons rv .nil),by rw[A0,B4];omega,w10⟩;have ep:=AJ.mp hp;subst ep;exact⟨q,nD,na2 hC,hfr,λv z=>by cases z⟩
 have e1:{ newEnv scope C X.env.globals (own++cl) X.env.qual IF .none (ID X.env) X.env.builtins with scope:=relabel scope X.env }=CO scope (own++cl) C X.env:=rfl;exact Fm (loop _ Z) (T.self _ 0 _ _ _ T0 (loop _ Z))
theorem VR{tg iter elt:Expr}{ifs:List Expr}{pos pos' pos2:Pos}{wi:TI}{g:TG}{tc:TT}{te:TE}{i:Nat}{x:Str}(N:List Str)(mp:List (Option Nat))(hn:Nm X.N X.env.scope i x)(hNd:X.N.Nodup)(hNX:X.N=NX)(hkX:X.env.scope.names=kX)(S:xr NX kX N mp scope)(hc:X.calm=true)
  (hi:QI X tg iter wi)(hg:∀cl C s H fp,QG (bO X N scope cl C s H fp) tg g)(ht:∀cl C s H fp,QC (bO X N scope cl C s H fp) ifs tc)(he:∀cl C s H fp,QE (bO X N scope cl C s H fp) elt te)
  (hf:X.fn x=true\/X.env.scope.names.lookup x=ID .local:=by exact .inl Z)
  (hsw:DS [.Name x pos'] (.ListComp elt [⟨tg,iter,ifs,0⟩] scope pos) pos2.line X.env=pure true:=by rfl)
  (h1:(CI [.Name x pos'] X.env).map (·.2)=[C7 (.Name x pos') X.env]:=by rfl)
  (hs:∀x,BC iter X.env x=pure x:=by intro _;rfl):QS X (.Assign [.Name x pos'] (.ListComp elt [⟨tg,iter,ifs,0⟩] scope pos) pos2) (rM (oK mp wi g tc te) (gb i)):=
 ⟨V8 N mp hn hNd hNX hkX S hc hi.h (λcl C s H fp=>(hg cl C s H fp).h) (λcl C s H fp=>(ht cl C s H fp).h) (λcl C s H fp=>(he cl C s H fp).h) hf hsw h1 hs⟩
set_option maxHeartbeats 8000000 in
theorem Wk{tg iter elt:Expr}{ifs:List Expr}{pos:Pos}{wi:TI}{g:TG}{tc:TT}{te:TE}(N:List Str)(mp:List (Option Nat))(hNX:X.N=NX)(hkX:X.env.scope.names=kX)(S:xr NX kX N mp scope)(hc:X.calm=true)
  (hi:PI X tg iter wi)(hg:∀cl C s H fp,PG (bO X N scope cl C s H fp) tg g)(ht:∀cl C s H fp,PTs (bO X N scope cl C s H fp) ifs tc)(he:∀cl C s H fp,PE (bO X N scope cl C s H fp) elt te)
  (hs:∀x,BC iter X.env x=pure x:=by intro _;rfl):PE X (.ListComp elt [⟨tg,iter,ifs,0⟩] scope pos) (oK mp wi g tc te):=by
 intro pins s σ H Q I h;obtain⟨cl,hcl,hsub,hhas⟩:=lO (env:=X.env) (scope:=scope) λy hy hf=>I.ok.has y.1 (by
  rcases S.fre y hy hf with q|q
  ·exact .inl (show X.env.scope.names.lookup y.1=_ by rw[hkX];exact q)
  exact .inr (show X.env.scope.names.lookup y.1=_ by rw[hkX];exact q))
 rw[eval_ListComp];refine CS (use:=IF) Z hs hcl S.kind S.locs ?_;refine thn (hi pins s σ H _ I h) λv s1 h1=>thn h1 λitv s2 h2=>?_;obtain⟨it,fp,tn,J,H2,e,I2,T,st2,f2,W,⟨m0,w0⟩,turn⟩:=h2;subst e;refine A6 (PJ ?_);dsimp only;have hold:∀b∈fp,b<s2.heap.objs.size:=λb hb=>by
  obtain⟨o,q,_⟩:=T.obj _ _ st2 b hb;exact AQ q
 generalize hD:s2.heap.objs.size=D;generalize hH2:s2.heap.push { cls:=.type "list",dict:=IF,data:=.seq ([]:List Ap).toArray }=P2;have hC:P2.objs.size=D+1:=by rw[<- hH2,Cb,hD]
 have cok:=PySem.cellsFrom_ok scope.names (P2.push { cls:=.type "dict",data:=.dict #[] }) (P2.objs.size+1) [] ⟨λ_ _ hm=>(nomatch hm),GL⟩ (by rw[Cb];exact AV _);rw[Cb] at cok;have hns:(F8 (P2.push { cls:=.type "dict",data:=.dict #[] }) scope.names).Ns P2.objs.size λ_=>IF:=(Heap.Ns.new P2 (.type "dict")).keeps (GW _ _);have kp:∀b o,P2.get? b=ID o->(F8 (P2.push { cls:=.type "dict",data:=.dict #[] }) scope.names).get? b=ID o:=λb o q=>GW _ _ b o (AB _ q);rw[qO];generalize hown:PySem.cellsFrom (P2.objs.size+1) scope.names []=own at cok |-;generalize F8 (P2.push { cls:=.type "dict",data:=.dict #[] }) scope.names=h3 at cok hns kp |-;generalize hC':P2.objs.size=C at hns cok hown hC |-;have old:∀b o,s2.heap.get? b=ID o->h3.get? b=ID o:=λb o q=>kp b o (hH2 ▸ AB _ q);have accD:h3.get? D=ID { cls:=.type "list",data:=.seq ([]:List Ap).toArray }:=kp _ _ (by rw[<- hH2,<- hD];exact AO _ Z);have O:yw X scope cl own C h3:=by
  refine⟨hsub,hhas,λx c e=>?_,λx e=>?_,cok.apart⟩
  ·have hm:=BH e;obtain⟨g1,g2⟩:=cok.empty x c hm;rw[<- hown] at hm;exact⟨S.cel _ (Hv _ _ _ _ hm) rfl,g2,g1⟩
  rw[<- hown];exact Hw _ _ x (BH e)
 have hfr:D∉frs X.stack:=λz=>by
  rcases A3.mp (I2.jR D z) with q|q
  ·exact na0 I2.lt hD q.symm
  exact I2.Gy (na4 hD) q
 have I0:Inv (bO X N scope (own++cl) C s2 H2 fp) [(D,{ cls:=.type "list",data:=.seq ([]:List Ap).toArray })] (cZ mp σ) H2 { s2 with heap:=h3 }:=
  Km (s':={ s2 with heap:=h3 }) hNX hkX S I2 f2 hold (na3 hD hC) O Z Z ⟨_,hns⟩ old λp hp=>by
   have ep:=AJ.mp hp;subst ep;exact⟨accD,I2.hok.fresh (na4 hD),na2 hC,hfr,λv z=>by cases z⟩
 have T0:tn 0 h3:=T.keep _ _ _ st2 λb _ o q=>old b o q;have loop:∀z:AA,z={ s2 with heap:=h3 } ->
   DF (AM X.prog X.w) X.A (.compLoop (.ListComp elt [⟨tg,iter,ifs,0⟩] scope pos) 0 (.ref it) (.ref D) (CO scope (own++cl) C X.env))
    (Kn (AM X.prog X.w) X.A X.xe IF (EP X pins σ Q) (.ref D) C) z:=by
  rintro z rfl;have stat:∀{H':Hp}{pl:List (IN×Obj)},(∀b∈fp,H' b=IF)->(∀p∈pl,p.1=D)->∀b∈fp,lJ (bO X N scope (own++cl) C s2 H2 fp) pl H' b:=λhn hp b hb=>by
   have hb2:=hold b hb;refine⟨hn b hb,na1 hb2 hD hC,(v7 hkX S I2 f2 hold (na3 hD hC) O).exfs b hb,.inl hb,((v7 hkX S I2 f2 hold (na3 hD hC) O).exf b hb).2,λp hpp=>?_⟩;have hpD:=hp p (by simpa [bO] using hpp);rw[hpD];exact(na0 hb2 hD).symm
  refine rE (env:=CO scope (own++cl) C X.env) (λn z=>∃i acc τ H' its k,Inv (bO X N scope (own++cl) C s2 H2 fp) [(D,{ cls:=.type "list",data:=.seq (Ch its) k })] τ H' z/\tn i z.heap/\(∀b∈fp,H' b=IF)/\Vals acc its/\acc.length<=AN/\W i n acc τ H')
   ?_ m0 ⟨0,[],_,H2,[],0,I0,T0,λb hb=>(f2 b hb).1,.nil,De _,w0⟩
  rintro n s5 ⟨i,acc,τ,H5,its,k,I5,st5,fr5,va,hz,w5⟩;rcases turn i n acc τ H5 w5 with⟨stop,qn⟩|⟨go,hz2,N9,hN9,step⟩
  ·refine thn (T.done (bO X N scope (own++cl) C s2 H2 fp) Z Z Z hc i _ s5 τ H5 _ I5 (stat fr5 ζ) st5 stop) λr s6 ⟨hr,I6⟩=>?_;subst hr;obtain⟨m6,hn6,_⟩:=I6.loc;refine⟨m6,hn6,λh' sb=>?_⟩;obtain⟨dD,nD,_,_,_⟩:=I6.pin (D,_) (AG _ (AJ.mpr Z));have U:=I6.base;have nC:H5 C=IF:=I6.free;have ne:∀b o,s2.heap.get? b=ID o->b≠C/\b≠D:=λb o q=>by
    exact⟨na1 (AQ q) hD hC,na0 (AQ q) hD⟩
   have keepC:∀b o,b≠C->s6.heap.get? b=ID o->h'.get? b=ID o:=λb o hb q=>(sb.2 b hb).trans q;have U':Un (frs X.stack) fp H2 (upd H5 D (.lst acc)) s2.heap h':=by
    refine⟨λb o q n1 hb hx=>keepC b o (ne b o q).1 (U.keep b o q n1 hb hx),λb o q n1 hb hx=>?_,λb o q n1 hx=>?_,λb o q hx=>?_,λb xs q=>?_,λb o xs q=>?_,λb ps q=>?_⟩
    ·obtain⟨sl,z⟩:=U.slot b o q n1 hb hx;exact⟨sl,keepC b _ (ne b o q).1 z⟩
    ·rw[aH (ne b o q).2];exact U.free b o q n1 hx
    ·obtain⟨o',z⟩:=U.there b o q hx;exact⟨o',keepC b _ (ne b o q).1 z⟩
    ·have z:=U.tups b xs q;rw[aH (aB z nD)];exact z
    ·have z:=U.frzs b o xs q;rw[aH (aB z nD)];exact z
    obtain⟨more,z⟩:=U.tbls b ps q;exact⟨more,by rw[aH (aB z nD)];exact z⟩
   have hok:HOk X.prog X.w (upd H5 D (.lst acc)) h':=λb u q=>by
    by_cases hb:b=D
    ·subst hb;rw[aD] at q;cases q;exact⟨hz,its,k,va,keepC _ _ (na2 hC) dD⟩
    rw[aH hb] at q;refine(I6.hok b u q).stay (λc v hcc z=>keepC c v ?_ z) (λc z=>by rw[aH (aB z nD)];exact z) λc xs z=>by rw[aH (aB z nD)];exact z
    rcases hcc with z1|z1
    ·subst z1;exact aB q nC
    exact aB z1 nC
   have I7:Inv X pins σ (upd H5 D (.lst acc)) { s6 with heap:=h' }:=I2.call' (s':={ s6 with heap:=h' }) (ch:=fp) I6.os U' hok I6.bare λb hb=>by
    obtain⟨_,a2,_,a4,a5,a6⟩:=f2 b hb;exact⟨a4,a2,a5,a6⟩
   exact⟨.ref D,_,I7,rfl,qn D nD⟩
  refine thn (T.item (bO X N scope (own++cl) C s2 H2 fp) Z Z Z hc i _ s5 τ H5 _ I5 (stat fr5 ζ) st5 go) λr s6 ⟨u,hr,h6⟩=>?_;subst hr;refine thn h6 λ_ s7 ⟨x,H7,I7,r7,y7,st7,fr7⟩=>?_;have I7':=I7.pinned (stat fr7 ζ) (T.obj _ _ st7);have no:∀{α:Type}{t:Sem α}{Q1 Q2:α->AA->Prop}{E:Ap->AA->Prop}{z:AA},AH (AM X.prog X.w) X.A t Q1 (λ_ _=>False) z->(∀a z,Q1 a z->Q2 a z)->AH (AM X.prog X.w) X.A t Q2 E z:=
   λq f=>A7 q f λ_ _ z=>z.elim
  refine no (hg (own++cl) C s2 H2 fp _ s7 τ H7 x u _ I7' r7 (step x H7 y7)) λ_ s8 ⟨τ1,H8,I8,q8⟩=>?_;refine no (ht (own++cl) C s2 H2 fp _ s8 τ1 H8 _ I8 q8) λok s9 ⟨H9,I9,q9⟩=>?_;have ER:∀{H':Hp}{z:AA}{its':List Ap}{k':Nat},Inv (bO X N scope (own++cl) C s2 H2 fp) ([(D,{ cls:=.type "list",data:=.seq (Ch its') k' })]++cG fp s7.heap) τ1 H' z ->
    tn (i+1) z.heap/\(∀b∈fp,H' b=IF)/\Inv (bO X N scope (own++cl) C s2 H2 fp) [(D,{ cls:=.type "list",data:=.seq (Ch its') k' })] τ1 H' z:=λ{H' z its' k'} Iz=>by
   have get:∀b∈fp,∀o,s7.heap.get? b=ID o->z.heap.get? b=ID o/\H' b=IF:=λb hb o q=>by
    obtain⟨a1,a2,_⟩:=Iz.pin (b,o) (AG _ (AG _ (dM hb q)));exact⟨a1,a2⟩
   refine⟨T.keep _ _ _ st7 λb hb o q=>(get b hb o q).1,λb hb=>?_,Iz.fL⟩;obtain⟨o,q,_⟩:=T.obj _ _ st7 b hb;exact(get b hb o q).2
  cases ok with
  | false=>
   rw[if_neg AX] at q9 |-;obtain⟨m',hm,w9⟩:=hN9 _ _ _ q9;obtain⟨a1,a2,a3⟩:=ER I9;exact⟨m',hm,i+1,acc,τ1,H9,its,k,a3,a1,a2,va,hz,w9⟩
  | true=>
   rw[if_pos rfl] at q9 |-;refine no (he (own++cl) C s2 H2 fp _ s9 τ1 H9 _ I9 q9) λy s10 ⟨v,H10,I10,rv,q10⟩=>?_;obtain⟨m',hm,w10⟩:=hN9 _ _ _ q10;obtain⟨a1,a2,a3⟩:=ER I10;obtain⟨dD,nD,_,_,_⟩:=a3.pin (D,_) (AG _ (AJ.mpr Z));have hlen:=va.length;refine EK Fh ⟨_,dD,rfl⟩ E4 (EV _ _) (FI D its.toArray k y (by rw[AZ];omega)) ⟨dD,?_⟩;obtain⟨k',q⟩:∃k',(s10.heap.update D (BO λa=>a.push y)).get? D=ID { cls:=.type "list",data:=.seq (its++[y]).toArray k' }:=by
    have q:=F2 dD (λa=>a.push y);rw[show its.toArray.push y=(its++[y]).toArray by simp] at q;exact⟨_,q⟩
   have a4:Inv (bO X N scope (own++cl) C s2 H2 fp) (cG fp s7.heap) τ1 H10 s10:=I10.dW λp hp=>I10.pin p (AG _ (AG _ hp));have a5:Inv (bO X N scope (own++cl) C s2 H2 fp) (cG fp s7.heap) τ1 H10 { s10 with heap:=s10.heap.update D (BO λa=>a.push y),toks:=s10.toks }:=
    a4.turned (it:=D) (λb o hb z=>(BQ _ _ (BS hb)).trans z) nD (na2 hC) (.inr (na4 hD))
     (λx c z=>by
      rcases O.look z with⟨_,g,_⟩|⟨_,g⟩
      ·exact Ki (lt_trans (by rw[hC];exact C3 D) g)
      ·obtain⟨_,o,h1,_⟩:=I2.cell x c g;exact na0 (AQ h1) hD) λp hp=>by
      have hb:=(gH (by simpa [bO] using hp)).1;exact na0 (hold _ hb) hD
   obtain⟨b1,b2,b3⟩:=(show tn (i+1) (s10.heap.update D (BO λa=>a.push y))/\(∀b∈fp,H10 b=IF)/\True from
    ⟨T.keep _ _ _ a1 λb hb o z=>(BQ _ _ (na0 (hold b hb) hD).symm).trans z,a2,trivial⟩)
   refine⟨m',hm,i+1,acc++[v],τ1,H10,its++[y],k',a5.dW λp hp=>?_,b1,b2,va.append (.cons rv .nil),by rw[A0,B4];omega,w10⟩;have ep:=AJ.mp hp;subst ep;exact⟨q,nD,na2 hC,hfr,λv z=>by cases z⟩
 have e1:{ newEnv scope C X.env.globals (own++cl) X.env.qual IF .none (ID X.env) X.env.builtins with scope:=relabel scope X.env }=CO scope (own++cl) C X.env:=rfl;exact Fm (loop _ Z) (T.self _ 0 _ _ _ T0 (loop _ Z))
theorem V3{tg iter elt:Expr}{ifs:List Expr}{pos:Pos}{wi:TI}{g:TG}{tc:TT}{te:TE}(N:List Str)(mp:List (Option Nat))(hNX:X.N=NX)(hkX:X.env.scope.names=kX)(S:xr NX kX N mp scope)(hc:X.calm=true)
  (hi:QI X tg iter wi)(hg:∀cl C s H fp,QG (bO X N scope cl C s H fp) tg g)(ht:∀cl C s H fp,QC (bO X N scope cl C s H fp) ifs tc)(he:∀cl C s H fp,QE (bO X N scope cl C s H fp) elt te)
  (hs:∀x,BC iter X.env x=pure x:=by intro _;rfl):QE X (.ListComp elt [⟨tg,iter,ifs,0⟩] scope pos) (oK mp wi g tc te):=
 ⟨Wk N mp hNX hkX S hc hi.h (λcl C s H fp=>(hg cl C s H fp).h) (λcl C s H fp=>(ht cl C s H fp).h) (λcl C s H fp=>(he cl C s H fp).h) hs⟩
end
abbrev uR:=List (List Key×IN×V)
def uO(acc:uR):List (List Key×V):=acc.map λx=>(x.1,x.2.2)
theorem Yh(acc:uR):(uO acc).length=acc.length:=AC _
def KAt(acc:uR)(H:Hp):Prop:=∀x∈acc,H x.2.1=ID (.tup (x.1.map kV))
def uT(acc:uR)(xs:List (List Key×IN×Ap)):Prop:=Paired (λ(p:List Key×IN×V)(q:List Key×IN×Ap)=>p.1=q.1/\p.2.1=q.2.1/\RelV p.2.2 q.2.2) acc xs
theorem uT.length{acc:uR}{xs:List (List Key×IN×Ap)}(r:uT acc xs):acc.length=xs.length:=L6 r
theorem uT.snoc{acc:uR}{xs:List (List Key×IN×Ap)}(r:uT acc xs)(k:List Key)(b:IN){v:V}{u:Ap}(ru:RelV v u):uT (acc++[(k,b,v)]) (xs++[(k,b,u)]):=Paired.snoc r ⟨rfl,rfl,ru⟩
theorem uT.kt{H:Hp}{acc:uR}{xs:List (List Key×IN×Ap)}(r:uT acc xs)(h:KAt acc H):KT H (uO acc) xs:=by
 unfold uT at r
 induction r with
 | nil=>exact .nil
 | @cons p q ps qs hq t ih=>
  obtain⟨h1,h2,h3⟩:=hq;exact .cons ⟨h1,by rw[<- h2];exact h p A5,h3⟩ (ih λx hx=>h x (Bi _ hx))
theorem uT.mem{acc:uR}{xs:List (List Key×IN×Ap)}(r:uT acc xs):∀x∈xs,∃y∈acc,y.1=x.1/\y.2.1=x.2.1:=by
 unfold uT at r
 induction r with
 | nil=>intro x hx;cases hx
 | @cons p q ps qs hq t ih=>
  intro x hx;rcases A3.mp hx with rfl|hx
  ·exact⟨p,A5,hq.1,hq.2.1⟩
  obtain⟨y,hy,e⟩:=ih x hx;exact⟨y,Bi _ hy,e⟩
def yu(P:A1)(w:BD)(o:Obj)(xs:List (List Key×IN×Ap)):Prop:=∃es ep,o.ExactDict/\o.data=Data.dict es ep/\es.toList=xs.map (entryOfKey (FD (cF P w)))/\(xs.map (·.1)).Nodup
section
variable {P:A1}{w:BD}{o:Obj}{acc:uR}{xs:List (List Key×IN×Ap)}{h:Heap}{a:IN}{H:Hp}
theorem yu.at(d:yu P w o xs)(r:uT acc xs)(ks:∀x∈acc,(FD (cF P w)).is h x.1 x.2.1)(e:h.get? a=ID o):h.DictOfH (FD (cF P w)) a xs:=by
 obtain⟨es,ep,h1,h2,h3,h4⟩:=d;refine⟨o,es,ep,e,h1,h2,h3,λx hx=>?_,h4⟩;obtain⟨y,hy,e1,e2⟩:=r.mem x hx;rw[<- e1,<- e2];exact ks y hy
theorem yu.new(d:yu P w o xs)(z:(uO acc).length<=AN)(hd:(a == DI)=false)(r:uT acc xs)(ka:KAt acc H)(e:h.get? a=ID o):cu P w H h a (.dT (uO acc)):=by
 obtain⟨es,ep,h1,h2,h3,h4⟩:=d;exact⟨z,hd,xs,r.kt ka,o,es,ep,e,h1,h2,h3,h4⟩
theorem yu.put(d:yu P w o xs)(r:uT acc xs){kk:List Key}{b:IN}{u:Ap}(kn:∀x∈acc,x.1≠kk)(dd:h.DictOfH (FD (cF P w)) a (storedH xs kk b u)):∃o' es ep,h.get? a=ID o'/\o'.ExactDict/\o'.data=Data.dict es ep/\es.toList=(xs++[(kk,b,u)]).map (entryOfKey (FD (cF P w)))/\((xs++[(kk,b,u)]).map (·.1)).Nodup:=by
 have:atKey xs kk=IF:=by
  unfold atKey;rw[Option.map_eq_none_iff,List.find?_eq_none];intro x hx;obtain⟨y,hy,e1,_⟩:=r.mem x hx;have:=kn y hy;rw[e1] at this;simpa using this
 rw[storedH_new this] at dd;obtain⟨o',es,ep,e,h1,h2,h3,_,h4⟩:=dd;exact⟨o',es,ep,e,h1,h2,h3,h4⟩
theorem S9(hb:DI<h.objs.size):yu P w { cls:=.type "dict",data:=.dict #[] } []:=by
 obtain⟨_,_,vs,kv,o,es,ep,e,h1,h2,h3,h4⟩:=Kf (P:=P) (w:=w) (H:=λ_=>IF) h hb;cases kv;have e2:(h.push { cls:=.type "dict",data:=.dict #[] }).get? h.objs.size=ID { cls:=.type "dict",data:=.dict #[] }:=AO _ rfl;rw[e2] at e;cases e;exact⟨es,ep,h1,h2,h3,h4⟩
end
def zq(mp:List (Option Nat))(wi:TI)(g:TG)(tc:TT)(tk tv:TE):TE:=λσ H Q=>wi σ H λJ H1=>
 ∃W:Nat->Nat->uR->St->Hp->Prop,(∃m,W 0 m [] (cZ mp σ) H1)/\∀i m acc τ H2,W i m acc τ H2->KAt acc H2/\(
  (J.stop i H2/\∀d,H2 d=IF->Q (.ref d) (upd H2 d (.dT (uO acc)))) \/
  (J.go i H2/\acc.length<AN/\∃N:uR->St->Hp->Prop,(∀acc' τ' H',N acc' τ' H'->∃m',m'<m/\W (i+1) m' acc' τ' H')/\∀x H3,J.yld i H2 x H3->g x τ H3 λτ1 H4=>tc τ1 H4 λb H5=>
   if b=true then tk τ1 H5 λkv H6=>tv τ1 H6 λv H7=>∃(k:List Key)(kb:IN),kv=.ref kb/\H7 kb=ID (.tup (k.map kV))/\KAt acc H7/\(∀x∈acc,x.1≠k)/\N (acc++[(k,kb,v)]) τ1 H7 else N acc τ1 H5))
section
variable {X:Cx}{NX N:List Str}{kX:List (Str×B2)}{mp:List (Option Nat)}{scope:D0}
set_option maxHeartbeats 8000000 in
theorem V7{tg iter kx vx:Expr}{ifs:List Expr}{pos pos' pos2:Pos}{wi:TI}{g:TG}{tc:TT}{tk tv:TE}{i:Nat}{x:Str}(N:List Str)(mp:List (Option Nat))(hn:Nm X.N X.env.scope i x)(hNd:X.N.Nodup)(hNX:X.N=NX)(hkX:X.env.scope.names=kX)(S:lU NX kX N mp scope)(hc:X.calm=true)(hu:X.A.units<FO)
  (hi:PI X tg iter wi)(hg:∀cl C s H fp,PG (aK X N scope cl C s H fp) tg g)(ht:∀cl C s H fp,PTs (aK X N scope cl C s H fp) ifs tc)(hek:∀cl C s H fp,PE (aK X N scope cl C s H fp) kx tk)(hev:∀cl C s H fp,PE (aK X N scope cl C s H fp) vx tv)
  (hf:X.fn x=true\/X.env.scope.names.lookup x=ID .local:=by exact .inl Z)
  (hsw:DS [.Name x pos'] (.DictComp kx vx [⟨tg,iter,ifs,0⟩] scope pos) pos2.line X.env=pure true:=by rfl)
  (h1:(CI [.Name x pos'] X.env).map (·.2)=[C7 (.Name x pos') X.env]:=by rfl)
  (hs:∀x,BC iter X.env x=pure x:=by intro _;rfl):PS X (.Assign [.Name x pos'] (.DictComp kx vx [⟨tg,iter,ifs,0⟩] scope pos) pos2) (rM (zq mp wi g tc tk tv) (gb i)):=by
 intro pins s σ H Dn I h;rw[IA];refine An (CA ?_);rw[hsw];refine An (Au ?_);rw[if_pos rfl,h1];replace h:zq mp wi g tc tk tv σ H (λv H1=>Dn.nx (σ.set i (ID v)) H1):=h;obtain⟨cl,hcl,hsub,hhas⟩:=lO (env:=X.env) (scope:=scope) λy hy hf=>I.ok.has y.1 (by
  rcases S.fre y hy hf with q|q
  ·exact .inl (show X.env.scope.names.lookup y.1=_ by rw[hkX];exact q)
  exact .inr (show X.env.scope.names.lookup y.1=_ by rw[hkX];exact q))
 generalize hQ:(λ(v:V)(H1:Hp)=>Dn.nx (σ.set i (ID v)) H1)=Q at h
 let QQ:Ap->AA->Prop:=λ_ s'=>∃τ H',Inv X pins τ H' s'/\Dn.nx τ H'
 refine An (An (thn (Q:=QQ) (CS (e:=.DictComp kx vx [⟨tg,iter,ifs,0⟩] scope pos) (use:=ID λv=>IH v [C7 (.Name x pos') X.env]) Z hs hcl S.kind S.locs ?_) λ_ s' ⟨τ,H',I',q'⟩=>Au (Au ⟨τ,H',I',q'⟩)));refine thn (hi pins s σ H _ I h) λv s1 h1=>thn h1 λitv s2 h2=>?_;obtain⟨it,fp,tn,J,H2,e,I2,T,st2,f2,W,⟨m0,w0⟩,turn⟩:=h2;subst e;refine A6 (EW S.nocell (by intro y hy;simp at hy) (λh3 hns hsb=>?_) S.kind);dsimp only at hns hsb |-;have hold:∀b∈fp,b<s2.heap.objs.size:=λb hb=>by
  obtain⟨o,q,_⟩:=T.obj _ _ st2 b hb;exact AQ q
 generalize hD:s2.heap.objs.size=D at hns hsb;generalize hH2:s2.heap.push { cls:=.type "dict",dict:=IF,data:=.dict #[] }=P2 at hns hsb |-;have hC:P2.objs.size=D+1:=by rw[<- hH2,Cb,hD]
 generalize hC':P2.objs.size=C at hns hsb |-;rw[hC'] at hC;have old:∀b o,s2.heap.get? b=ID o->h3.get? b=ID o:=λb o q=>by
  have hb:=AQ q;exact hsb.extBut b o (na1 hb hD hC) (AB _ (hH2 ▸ AB _ q))
 have accD:h3.get? D=ID { cls:=.type "dict",data:=.dict #[] }:=
  hsb.extBut _ _ (na2 hC) (AB _ (by rw[<- hH2,<- hD];exact AO _ Z))
 have hfr:D∉frs X.stack:=λz=>by
  rcases A3.mp (I2.jR D z) with q|q
  ·exact na0 I2.lt hD q.symm
  exact I2.Gy (na4 hD) q
 have I0:Inv (aK X N scope cl C s2 H2 fp) [(D,{ cls:=.type "dict",data:=.dict #[] })] (cZ mp σ) H2 { s2 with heap:=h3,toks:=s2.toks+([]:List (Str×Ap)).length }:=
  rF (s':={ s2 with heap:=h3,toks:=s2.toks+([]:List (Str×Ap)).length }) hNX hkX S I2 f2 hold (na3 hD hC) hsub hhas Z Z ⟨_,hns⟩ old λp hp=>by
   have ep:=AJ.mp hp;subst ep;exact⟨accD,I2.hok.fresh (na4 hD),na2 hC,hfr,λv z=>by cases z⟩
 have hsys:(D == DI)=false:=by
  have t1:@LT.lt Nat _ DI s2.heap.objs.size:=I2.big;have t2:@Eq Nat s2.heap.objs.size D:=hD;exact beq_false_of_ne (by intro(z:@Eq Nat _ _);omega)
 have T0:tn 0 h3:=T.keep _ _ _ st2 λb _ o q=>old b o q;have loop:∀z:AA,z={ s2 with heap:=h3,toks:=s2.toks+([]:List (Str×Ap)).length } ->
   DF (AM X.prog X.w) X.A (.compLoop (.DictComp kx vx [⟨tg,iter,ifs,0⟩] scope pos) 0 (.ref it) (.ref D) (CO scope cl C X.env))
    (Kn (AM X.prog X.w) X.A X.xe (ID λv=>IH v [C7 (.Name x pos') X.env]) QQ (.ref D) C) z:=by
  rintro z rfl;have stat:∀{H':Hp}{pl:List (IN×Obj)},(∀b∈fp,H' b=IF)->(∀p∈pl,p.1=D)->∀b∈fp,lJ (aK X N scope cl C s2 H2 fp) pl H' b:=λhn hp b hb=>by
   have hb2:=hold b hb;refine⟨hn b hb,na1 hb2 hD hC,(uI hkX S I2 f2 hold (na3 hD hC) hsub hhas).exfs b hb,.inl hb,λx c q=>(f2 b hb).2.2.2.2.1 x c (hsub x c q),λp hpp=>?_⟩;have hpD:=hp p (by simpa [aK] using hpp);rw[hpD];exact(na0 hb2 hD).symm
  refine BV (env:=CO scope cl C X.env) (λn z=>∃i acc τ H' o vs,Inv (aK X N scope cl C s2 H2 fp) [(D,o)] τ H' z/\yu X.prog X.w o vs/\tn i z.heap/\(∀b∈fp,H' b=IF)/\uT acc vs/\acc.length<=AN/\W i n acc τ H')
   ?_ m0 ⟨0,[],_,H2,_,[],I0,S9 I2.big,T0,λb hb=>(f2 b hb).1,.nil,De _,w0⟩
  rintro n s5 ⟨i,acc,τ,H5,ob,vs,I5,dob,st5,fr5,va,hz,w5⟩;obtain⟨ka5,turn5⟩:=turn i n acc τ H5 w5;rcases turn5 with⟨stop,qn⟩|⟨go,hz2,N9,hN9,step⟩
  ·refine thn (T.done (aK X N scope cl C s2 H2 fp) Z Z Z hc i _ s5 τ H5 _ I5 (stat fr5 ζ) st5 stop) λr s6 ⟨hr,I6⟩=>?_;subst hr;obtain⟨m6,hn6,_⟩:=I6.loc;obtain⟨dD,nD,_,_,_⟩:=I6.pin (D,_) (AG _ (AJ.mpr Z));have U:=I6.base;have nC:H5 C=IF:=I6.free;have ne:∀b o,s2.heap.get? b=ID o->b≠C/\b≠D:=λb o q=>by
    exact⟨na1 (AQ q) hD hC,na0 (AQ q) hD⟩
   have key:∀h',B0 C s6.heap h'->Inv X pins σ (upd H5 D (.dT (uO acc))) { s6 with heap:=h' }:=λh' sb=>by
    have keepC:∀b o,b≠C->s6.heap.get? b=ID o->h'.get? b=ID o:=λb o hb q=>(sb.2 b hb).trans q;have U':Un (frs X.stack) fp H2 (upd H5 D (.dT (uO acc))) s2.heap h':=by
     refine⟨λb o q n1 hb hx=>keepC b o (ne b o q).1 (U.keep b o q n1 hb hx),λb o q n1 hb hx=>?_,λb o q n1 hx=>?_,λb o q hx=>?_,λb xs q=>?_,λb o xs q=>?_,λb ps q=>?_⟩
     ·obtain⟨sl,z⟩:=U.slot b o q n1 hb hx;exact⟨sl,keepC b _ (ne b o q).1 z⟩
     ·rw[aH (ne b o q).2];exact U.free b o q n1 hx
     ·obtain⟨o',z⟩:=U.there b o q hx;exact⟨o',keepC b _ (ne b o q).1 z⟩
     ·have z:=U.tups b xs q;rw[aH (aB z nD)];exact z
     ·have z:=U.frzs b o xs q;rw[aH (aB z nD)];exact z
     obtain⟨more,z⟩:=U.tbls b ps q;exact⟨more,by rw[aH (aB z nD)];exact z⟩
    have hok:HOk X.prog X.w (upd H5 D (.dT (uO acc))) h':=λb u q=>by
     by_cases hb:b=D
     ·subst hb;rw[aD] at q;cases q;exact dob.new (by rw[Yh];exact hz) hsys va (λx hx=>by rw[aH (aB (ka5 x hx) nD)];exact ka5 x hx) (keepC _ _ (na2 hC) dD)
     rw[aH hb] at q;refine(I6.hok b u q).stay (λc v hcc z=>keepC c v ?_ z) (λc z=>by rw[aH (aB z nD)];exact z) λc xs z=>by rw[aH (aB z nD)];exact z
     rcases hcc with z1|z1
     ·subst z1;exact aB q nC
     exact aB z1 nC
    have I7:Inv X pins σ (upd H5 D (.dT (uO acc))) { s6 with heap:=h' }:=I2.call' (s':={ s6 with heap:=h' }) (ch:=fp) I6.os U' hok I6.bare λb hb=>by
     obtain⟨_,a2,_,a4,a5,a6⟩:=f2 b hb;exact⟨a4,a2,a5,a6⟩
    exact I7
   have I7:Inv X pins σ (upd H5 D (.dT (uO acc))) s6:=key s6.heap (B0.refl _ _);have lC:X.env.locals≠C:=na1 I2.lt hD hC;have cC:∀y c,X.env.cells.lookup y=ID c->c≠C:=λy c z=>by
    obtain⟨_,o,h1,_⟩:=I2.cell y c z;exact na1 (AQ h1) hD hC
   show AH _ _ (C7 (.Name x pos') X.env (.ref D)) _ _ s6;refine GG (mD (v:=.ref D) I7 hNd hn.hN hn.hv Z (λs7 I8 ⟨a,sa,ha⟩=>?_) hf);have aC:a≠C:=by
    rcases ha with rfl|ha
    ·exact lC
    exact cC _ _ ha
   obtain⟨o6,es6,ep6,g1,g2,g3,g4⟩:=hn6;refine⟨m6,⟨o6,es6,ep6,(sa.2 C (BS aC)).trans g1,g2,g3,g4⟩,λh' sb=>?_⟩;have q9:=qn D nD;rw[<- hQ] at q9;refine⟨_,_,I8.turned (it:=C) (t':=s7.toks) (λb o hb q=>(sb.2 b hb).trans q) ?_ (BS lC) (.inr (CM I2.sz (na3 hD hC))) cC (λp hp=>?_),q9⟩
   ·rw[aH (BS (na2 hC))];exact nC
   obtain⟨h1,_⟩:=I2.pin p hp;exact na1 (AQ h1) hD hC
  refine thn (T.item (aK X N scope cl C s2 H2 fp) Z Z Z hc i _ s5 τ H5 _ I5 (stat fr5 ζ) st5 go) λr s6 ⟨u,hr,h6⟩=>?_;subst hr;refine thn h6 λ_ s7 ⟨x,H7,I7,r7,y7,st7,fr7⟩=>?_;have I7':=I7.pinned (stat fr7 ζ) (T.obj _ _ st7);have no:∀{α:Type}{t:Sem α}{Q1 Q2:α->AA->Prop}{E:Ap->AA->Prop}{z:AA},AH (AM X.prog X.w) X.A t Q1 (λ_ _=>False) z->(∀a z,Q1 a z->Q2 a z)->AH (AM X.prog X.w) X.A t Q2 E z:=
   λq f=>A7 q f λ_ _ z=>z.elim
  refine no (hg cl C s2 H2 fp _ s7 τ H7 x u _ I7' r7 (step x H7 y7)) λ_ s8 ⟨τ1,H8,I8,q8⟩=>?_;refine no (ht cl C s2 H2 fp _ s8 τ1 H8 _ I8 q8) λok s9 ⟨H9,I9,q9⟩=>?_;have ER:∀{H':Hp}{z:AA}{o':Obj},Inv (aK X N scope cl C s2 H2 fp) ([(D,o')]++cG fp s7.heap) τ1 H' z ->
    tn (i+1) z.heap/\(∀b∈fp,H' b=IF)/\Inv (aK X N scope cl C s2 H2 fp) [(D,o')] τ1 H' z:=λ{H' z o'} Iz=>by
   have get:∀b∈fp,∀o,s7.heap.get? b=ID o->z.heap.get? b=ID o/\H' b=IF:=λb hb o q=>by
    obtain⟨a1,a2,_⟩:=Iz.pin (b,o) (AG _ (AG _ (dM hb q)));exact⟨a1,a2⟩
   refine⟨T.keep _ _ _ st7 λb hb o q=>(get b hb o q).1,λb hb=>?_,Iz.fL⟩;obtain⟨o,q,_⟩:=T.obj _ _ st7 b hb;exact(get b hb o q).2
  cases ok with
  | false=>
   rw[if_neg AX] at q9 |-;obtain⟨m',hm,w9⟩:=hN9 _ _ _ q9;obtain⟨a1,a2,a3⟩:=ER I9;exact⟨m',hm,i+1,acc,τ1,H9,ob,vs,a3,dob,a1,a2,va,hz,w9⟩
  | true=>
   rw[if_pos rfl] at q9 |-;refine no (hek cl C s2 H2 fp _ s9 τ1 H9 _ I9 q9) λuk s10 ⟨xk,H10,I10,rk,q10⟩=>?_;refine no (hev cl C s2 H2 fp _ s10 τ1 H10 _ I10 q10) λy s11 ⟨v,H11,I11,rv,kk,kb,ek,ekb,kall,knew,q11⟩=>?_;subst ek;cases (show _=DO kb from rk);obtain⟨m',hm,w11⟩:=hN9 _ _ _ q11;obtain⟨a1,a2,a3⟩:=ER I11;obtain⟨dD,nD,_,_,_⟩:=a3.pin (D,_) (AG _ (AJ.mpr Z));have hlen:=va.length;refine wpAny_dictSet_heap (knd:=FD (cF X.prog X.w)) hu (Aw I11.hok ekb) (dob.at va (λx hx=>Aw I11.hok (kall x hx)) dD) (λh' dd sb=>?_) (by rw[<- hlen];omega);obtain⟨o',es',ep',g1,g2⟩:=dob.put va knew dd;have a4:Inv (aK X N scope cl C s2 H2 fp) (cG fp s7.heap) τ1 H11 s11:=I11.dW λp hp=>I11.pin p (AG _ (AG _ hp));have a5:Inv (aK X N scope cl C s2 H2 fp) (cG fp s7.heap) τ1 H11 { s11 with heap:=h',toks:=s11.toks+(FD (cF X.prog X.w)).draws kk }:=
    a4.turned (it:=D) (λb o hb z=>(sb.2 b hb).trans z) nD (na2 hC) (.inr (na4 hD))
     (λx c z=>by
      obtain⟨_,o,h1,_⟩:=I2.cell x c (hsub x c z);exact na0 (AQ h1) hD) λp hp=>by
      have hb:=(gH (by simpa [aK] using hp)).1;exact na0 (hold _ hb) hD
   have b1:tn (i+1) h':=T.keep _ _ _ a1 λb hb o z=>(sb.2 b (na0 (hold b hb) hD)).trans z;refine⟨m',hm,i+1,acc++[(kk,kb,v)],τ1,H11,o',_,a5.dW λp hp=>?_,⟨es',ep',g2⟩,b1,a2,va.snoc kk kb rv,by rw[A0,B4];omega,w11⟩;have ep:=AJ.mp hp;subst ep;exact⟨g1,nD,na2 hC,hfr,λv z=>by rw[g2.2.1] at z;cases z⟩
 have e1:{ newEnv scope C X.env.globals cl X.env.qual IF .none (ID X.env) X.env.builtins with scope:=relabel scope X.env }=CO scope cl C X.env:=rfl;exact codeAny_compStart_dict (loop _ Z) (T.self _ 0 _ _ _ T0 (loop _ Z))
theorem VP{tg iter kx vx:Expr}{ifs:List Expr}{pos pos' pos2:Pos}{wi:TI}{g:TG}{tc:TT}{tk tv:TE}{i:Nat}{x:Str}(N:List Str)(mp:List (Option Nat))(hn:Nm X.N X.env.scope i x)(hNd:X.N.Nodup)(hNX:X.N=NX)(hkX:X.env.scope.names=kX)(S:lU NX kX N mp scope)(hc:X.calm=true)(hu:X.A.units<FO)
  (hi:QI X tg iter wi)(hg:∀cl C s H fp,QG (aK X N scope cl C s H fp) tg g)(ht:∀cl C s H fp,QC (aK X N scope cl C s H fp) ifs tc)(hek:∀cl C s H fp,QE (aK X N scope cl C s H fp) kx tk)(hev:∀cl C s H fp,QE (aK X N scope cl C s H fp) vx tv)
  (hf:X.fn x=true\/X.env.scope.names.lookup x=ID .local:=by exact .inl Z)
  (hsw:DS [.Name x pos'] (.DictComp kx vx [⟨tg,iter,ifs,0⟩] scope pos) pos2.line X.env=pure true:=by rfl)
  (h1:(CI [.Name x pos'] X.env).map (·.2)=[C7 (.Name x pos') X.env]:=by rfl)
  (hs:∀x,BC iter X.env x=pure x:=by intro _;rfl):QS X (.Assign [.Name x pos'] (.DictComp kx vx [⟨tg,iter,ifs,0⟩] scope pos) pos2) (rM (zq mp wi g tc tk tv) (gb i)):=
 ⟨V7 N mp hn hNd hNX hkX S hc hu hi.h (λcl C s H fp=>(hg cl C s H fp).h) (λcl C s H fp=>(ht cl C s H fp).h) (λcl C s H fp=>(hek cl C s H fp).h) (λcl C s H fp=>(hev cl C s H fp).h) hf hsw h1 hs⟩
end
def Yl(mp:List (Option Nat))(g:TG)(tc:TT)(tk tv:TE)(σ:St)(Q:VK)(J:It)(H1:Hp):Prop:=
 ∃W:Nat->Nat->uR->St->Hp->Prop,(∃m,W 0 m [] (cZ mp σ) H1)/\∀i m acc τ H2,W i m acc τ H2->KAt acc H2/\(
  (J.stop i H2/\∀d,H2 d=IF->Q (.ref d) (upd H2 d (.dT (uO acc)))) \/
  (J.go i H2/\acc.length<AN/\∃N:uR->St->Hp->Prop,(∀acc' τ' H',N acc' τ' H'->∃m',m'<m/\W (i+1) m' acc' τ' H')/\∀x H3,J.yld i H2 x H3->g x τ H3 λτ1 H4=>tc τ1 H4 λb H5=>
   if b=true then tk τ1 H5 λkv H6=>tv τ1 H6 λv H7=>∃(k:List Key)(kb:IN),kv=.ref kb/\H7 kb=ID (.tup (k.map kV))/\KAt acc H7/\(∀x∈acc,x.1≠k)/\N (acc++[(k,kb,v)]) τ1 H7 else N acc τ1 H5))
theorem XH{mp:List (Option Nat)}{wi:TI}{g:TG}{tc:TT}{tk tv:TE}{σ:St}{H:Hp}{Q:VK}(h:∀R:It->Hp->Prop,R=Yl mp g tc tk tv σ Q->wi σ H R):zq mp wi g tc tk tv σ H Q:=h _ rfl
theorem XF{K:AF}{mp:List (Option Nat)}{g:TG}{tc:TT}{tk tv:TE}{σ:St}{H:Hp}{Q:VK}{R:It->Hp->Prop}{a:IN}{xs:List V}(hR:R=Yl mp g tc tk tv σ Q)(hz:xs.length<AN)(Pv:Nat->uR->St->Hp->Prop)(h0:Pv 0 [] (cZ mp σ) H)
  (hq:∀i acc τ H,Pv i acc τ H->acc.length<=i/\KAt acc H/\SqL K H a xs)
  (hs:∀(i:Nat) x acc τ H,xs[i]?=ID x->Pv i acc τ H->g x τ H λτ1 H4=>tc τ1 H4 λb H5=>if b=true then tk τ1 H5 λkv H6=>tv τ1 H6 λv H7=>∃(k:List Key)(kb:IN),kv=.ref kb/\H7 kb=ID (.tup (k.map kV))/\KAt acc H7/\(∀x∈acc,x.1≠k)/\Pv (i+1) (acc++[(k,kb,v)]) τ1 H7 else Pv (i+1) acc τ1 H5)
  (hd:∀acc τ H d,Pv xs.length acc τ H->H d=IF->Q (.ref d) (upd H d (.dT (uO acc)))):R (Itl K a) H:=by
 rw[hR];refine⟨λi m acc τ H'=>m+i=xs.length/\Pv i acc τ H',⟨xs.length,ω,h0⟩,?_⟩;rintro i m acc τ H2 ⟨hm,pv⟩;obtain⟨h1,h2,h3⟩:=hq i acc τ H2 pv;refine⟨h2,?_⟩;cases m with
 | zero=>
  have:i=xs.length:=by omega
  subst this;exact .inl ⟨⟨xs,h3,AV _⟩,λd hd'=>hd acc τ H2 d pv hd'⟩
 | succ m=>
  have hi:i<xs.length:=ω;refine .inr ⟨⟨xs,xs[i],h3,AD hi⟩,ω,λacc' τ' H'=>Pv (i+1) acc' τ' H',λacc' τ' H' p=>⟨m,ω,ω,p⟩,?_⟩;rintro x H3 ⟨rfl,hx⟩;exact hs i x acc τ _ (hx xs h3) pv
def DQ:Sp:=λvs H Q _=>∃(p:IN)(B:Int),vs=[.ref p]/\bF H p B/\0<=B/\B<=900000 /\
 ∀(m:Nat) H',1<=m->m<=30->bG p H H'->bF H' p (B+4)->Q (.int (m:Int)) H'
def mZ(ss:Sts)(ws zs:List Int)(lab:Int):List (Int×Int):=((BN ss.length).filter λk=>lbl ss k≠lab).map (prK ss ws zs)
def zL:Sp:=λvs H Q _=>∃(sa wa t:IN)(xs:List V)(ok:IN->Prop)(ss:Sts)(ws zs:List Int)(lab:Int),vs=[.ref sa,.ref wa,.ref t,.int lab]/\H sa=ID (.lst xs)/\aG ok H xs (ss.map stD)/\ss.length<=60/\H wa=ID (.lst (ws.map At))/\ws.length=ss.length/\lE H t zs /\
 ∀(l:List (Int×Int)) H',Same H H'->Fall l->l.Perm (mZ ss ws zs lab)->Q (.int (gC ws.sum l)) H'
def gOf(H:Hp)(p:IN):Int×Int:=match H p with
 | some (.tup [.int a,.int b])=>(a,b)
 | _=>(0,0)
theorem Bq{H:Hp}{p:IN}{a b:Int}(e:H p=ID (.tup [.int a,.int b])):gOf H p=(a,b):=by
 unfold gOf;rw[e]
structure PrL(H:Hp)(d:IN)(ps:List IN)(L:List (Int×Int)):Prop where
 e:H d=ID (.lst (ps.map AT))
 at':∀p∈ps,H p=ID (.tup [.int (gOf H p).1,.int (gOf H p).2])
 l:ps.map (gOf H)=L
theorem PrL.same{H H':Hp}{d:IN}{ps:List IN}{L:List (Int×Int)}(h:PrL H d ps L)(s:Same H H'):PrL H' d ps L:=by
 have k:∀p∈ps,gOf H' p=gOf H p:=λp hp=>Bq (s _ _ (h.at' p hp));exact⟨s _ _ h.e,λp hp=>by rw[k p hp];exact s _ _ (h.at' p hp),by rw[<- h.l];exact DZ k⟩
theorem PrL.put{H:Hp}{d:IN}{ps qs:List IN}{L:List (Int×Int)}(h:PrL H d ps L)(hq:∀q∈qs,q∈ps\/∃a b,H q=ID (.tup [.int a,.int b])):PrL (upd H d (.lst (qs.map AT))) d qs (qs.map (gOf H)):=by
 have hd:∀q∈qs,∃a b,H q=ID (.tup [.int a,.int b]):=λq z=>(hq q z).elim (λy=>⟨_,_,h.at' q y⟩) id;have k:∀q∈qs,upd H d (.lst (qs.map AT)) q=H q:=λq z=>by
  obtain⟨a,b,e⟩:=hd q z;exact aH (PK e h.e (λz=>by cases z))
 have k2:∀q∈qs,gOf (upd H d (.lst (qs.map AT))) q=gOf H q:=λq z=>by
  obtain⟨a,b,e⟩:=hd q z;rw[Bq e,Bq (by rw[k q z];exact e)]
 refine⟨aD,λq z=>?_,DZ k2⟩;obtain⟨a,b,e⟩:=hd q z;rw[k2 q z,Bq e,k q z];exact e
theorem Yn{c:TT}{tb:TS}{D:Ends}{σ:St}{H:Hp}(Pv:Nat->St->Hp->Prop)(n:Nat)(h0:Pv n σ H)
  (hs:∀m σ H,Pv m σ H->c σ H λb H1=>if b=true then ∃N:St->Hp->Prop,(∀σ' H',N σ' H'->∃m',m'<m/\Pv m' σ' H')/\tb { D with nx:=N,ct:=N,bk:=D.nx } σ H1 else D.nx σ H1):K1 c tb D σ H:=
 ⟨Pv,⟨n,h0⟩,hs⟩
theorem S5{p:Nat->Bool}(i:Nat):(BN (i+1)).filter p=(BN i).filter p++(if p i=true then [i] else []):=by
 rw[range_succ,filter_append,LP,List.filter_nil]
theorem PrL.push{H:Hp}{d q:IN}{ps:List IN}{L:List (Int×Int)}{a b:Int}(h:PrL H d ps L)(e:H q=ID (.tup [.int a,.int b])):PrL (upd H d (.lst (ps.map AT++[.ref q]))) d (ps++[q]) (L++[(a,b)]):=by
 have:=h.put (qs:=ps++[q]) λx hx=>(Cf.mp hx).elim .inl λz=>.inr (by rw[AJ.mp z];exact⟨_,_,e⟩);rw[A4,A4,h.l] at this;rw[DJ,DJ,Bq e] at this;exact this
theorem PrL.len{H:Hp}{d:IN}{ps:List IN}{L:List (Int×Int)}(h:PrL H d ps L):ps.length=L.length:=by rw[<- h.l,AC]
theorem tL(f:IN->Int×Int):∀(ps:List IN)(j:Nat),(ps.map f).eraseIdx j=(ps.eraseIdx j).map f
 | [],_=>rfl
 | _::_,0=>rfl
 | p::ps,j+1=>congrArg (f p :: ·) (tL f ps j)
theorem PrL.drop{H:Hp}{d:IN}{ps:List IN}{L:List (Int×Int)}{b:Int×Int}(h:PrL H d ps L)(j:Nat)(hj:L.idxOf b=j):PrL (upd H d (.lst ((ps.eraseIdx j).map AT))) d (ps.eraseIdx j) (L.erase b):=by
 have:=h.put (qs:=ps.eraseIdx j) λx hx=>.inl (List.mem_of_mem_eraseIdx hx);rw[<- h.l] at hj |-;rw[List.erase_eq_eraseIdx_of_idxOf hj,tL];exact this
theorem aat(ps:List IN):(ps.map AT).isEmpty=ps.isEmpty:=by cases ps <;> rfl
theorem Q6{ss:Sts}{ws zs:List Int}{lab:Int}(hz:zs.length=5)(h:∀z∈zs,1<=z/\z<=99):∀x∈mZ ss ws zs lab,0<x.2/\x.2<=99:=by
 intro x hx;obtain⟨k,_,rfl⟩:=C9.mp hx;show 0<dX ss zs k/\dX ss zs k<=99;have g:∀i,i<5->1<=zs.getD i 0/\zs.getD i 0<=99:=λi hi=>by
  rw[AY,AD ω];exact h _ (D7 _)
 unfold dX;split
 ·have:=g 0 δ;omega
 have:=g 1 δ;omega
theorem lt_of_le_ne:∀{l:List Int},l.Pairwise (·<=·)->l.Nodup->l.Pairwise (· < ·)
 | [],_,_=>.nil
 | a::l,h,k=>by
  rw[DU] at h;rw[FR] at k;exact DU.mpr ⟨λb hb=>by have:=h.1 b hb;have:a≠b:=λz=>k.1 (z ▸ hb);omega,lt_of_le_ne h.2 k.2⟩
theorem abY{ss:Sts}{ws zs:List Int}{left:List Nat}(up:left.Pairwise (· < ·))(h64:∀k∈left,k<64):∃o,tQ ss ws zs left o:=by
 have pm:=List.mergeSort_perm left λx y=>decide (iR ss ws zs x<=iR ss ws zs y);have pw:=List.pairwise_mergeSort (le:=λx y=>decide (iR ss ws zs x<=iR ss ws zs y)) (λa b c h1 h2=>by simp at h1 h2 |-;omega) (λa b=>by simp;omega) left;refine⟨_,pm,lt_of_le_ne (KS.mpr (pw.imp λh=>by simpa using h)) ((pm.map _).nodup_iff.mpr (tY up h64))⟩
def sls(ss:Sts)(a b:Nat):Sts:=(ss.drop a).take (b-a)
theorem uX{ss:Sts}{a b:Nat}(h:b<=ss.length):(sls ss a b).length=b-a:=by unfold sls;rw[FS,Gc];omega
theorem zO{ss:Sts}{a b k:Nat}(h:b<=ss.length)(hk:k<b-a):fC (sls ss a b) k=fC ss (a+k):=by
 unfold fC sls;rw[AY,AY,getElem?_take,if_pos ω,getElem?_drop]
theorem abj{ws:List Int}{a b k:Nat}(hk:k<b-a):(slc ws a b).getD k 0=ws.getD (a+k) 0:=by
 unfold slc;rw[AY,AY,getElem?_take,if_pos ω,getElem?_drop]
theorem zu{ws:List Int}{a b:Nat}(h:b<=ws.length):(slc ws a b).sum=sumK ws (rng a b):=by
 unfold sumK rng;rw[F7];congr 1;refine K0 λk=>?_;rw[AL];by_cases hk:k<b-a
 ·rw[D8 hk];unfold slc;rw[getElem?_take,if_pos ω,getElem?_drop,AD ω];show _=ID (ws.getD (a+k) 0);rw[AY,AD ω];rfl
 rw[BM (by unfold slc;rw[FS,Gc];omega),BM (by rw[C8];omega)];rfl
theorem KZ{ss:Sts}{ws zs:List Int}{a b:Nat}{lab:Int}(h:b<=ss.length):mZ (sls ss a b) (slc ws a b) zs lab=((rng a b).filter λk=>decide (lbl ss k≠lab)).map (prK ss ws zs):=by
 unfold mZ rng;rw[uX h,List.filter_map,F7];have e:(BN (b-a)).filter (λk=>decide (lbl (sls ss a b) k≠lab))=(BN (b-a)).filter ((λk=>decide (lbl ss k≠lab))∘λx=>a+x):=List.filter_congr λk hk=>by
  show decide (lbl (sls ss a b) k≠lab)=decide (lbl ss (a+k)≠lab);unfold lbl;rw[zO h (D9.mp hk)]
 rw[e];refine DZ λk hk=>?_;have hk:=D9.mp (EJ.mp hk).1;show prK _ _ _ k=prK ss ws zs (a+k);unfold prK dX isT;rw[abj hk,zO h hk]
theorem Ve{ss:Sts}{ws zs:List Int}{a b:Nat}{lab:Int}{ord:List Nat}{l:List (Int×Int)}(h60:ss.length<=60)(hb:b<=ss.length)(hw:ws.length=ss.length)(h0:1<=zs.getD 0 0)(h1:1<=zs.getD 1 0)(ho:tQ ss ws zs (rng a b) ord)(fl:Fall l)(pm:l.Perm (mZ (sls ss a b) (slc ws a b) zs lab)):gC (slc ws a b).sum l=gB ss ws zs (sumK ws (rng a b)) ord lab:=by
 unfold gB;rw[zu ω,Pz];refine(aaz fl (Ey h0 h1 (λk hk=>?_) ?_) ?_).symm
 ·have h2:=ho.pm.mem_iff.mp (EJ.mp hk).1;have:=eG.mp h2;omega
 ·have:=ho.up;rw[KS] at this |-;exact this.filter _
 rw[KZ hb] at pm;exact(((ho.pm.filter _).map (prK ss ws zs)).trans (by unfold lbl at pm;exact pm.symm))
def flat(x:lG):Prop:=x.2.2=[]
def BP(ss:Sts)(ws zs:List Int)(a b:Nat)(ord:List Nat)(L:List Int):List Int:=(if fM ss (rng a b)<=200 then [sumK ws (rng a b)*zs.getD 4 0] else [])++(if fM ss (rng a b)<=64/\L.length=2 then [sumK ws (rng a b)*zs.getD 3 0] else [])++L.map λlab=>gB ss ws zs (sumK ws (rng a b)) ord lab
theorem Te(ss:Sts)(ws zs:List Int)(a b:Nat)(ord:List Nat)(L:List Int):BP ss ws zs a b ord L=(rK ss ws zs a b++yK ss ws zs a b L++Ed ss ws zs a b ord L).map (·.1):=by
 unfold BP rK yK Ed;rw[A4,A4,F7];congr 1;congr 1
 ·split
  ·rw[IU];rfl
  rfl
 split
 ·rw[IU];rfl
 rfl
theorem M7{ss:Sts}{ws zs:List Int}{a b:Nat}{ord:List Nat}{L:List Int}(hL:tR ss (rng a b) L)(ho:tQ ss ws zs (rng a b) ord)(c:Int):c∈BP ss ws zs a b ord L ↔ ∃x,jP ss ws zs a b x/\x.2.2=[]/\c=x.1:=by
 rw[Te,C9];have hf:∀x,x∈rK ss ws zs a b++yK ss ws zs a b L++Ed ss ws zs a b ord L->x.2.2=[]:=λx hx=>by
  rcases Cf.mp hx with hx|hx
  ·rcases Cf.mp hx with hx|hx
   ·unfold rK at hx;split at hx
    ·rw[AJ.mp hx]
    cases hx
   unfold yK at hx;split at hx
   ·rw[AJ.mp hx]
   cases hx
  obtain⟨lab,_,rfl⟩:=C9.mp hx;rfl
 constructor
 ·rintro⟨x,hx,rfl⟩;refine⟨x,(rz hL ho x).mp ?_,hf x hx,rfl⟩;simp only[Cf] at hx |-;rcases hx with(h|h)|h
  ·exact .inl (.inl (.inr h))
  ·exact .inl (.inr h)
  exact .inl (.inl (.inl h))
 rintro⟨x,hx,e,rfl⟩;refine⟨x,?_,rfl⟩;have:=(rz hL ho x).mpr hx;simp only[Cf] at this |-;rcases this with((h|h)|h)|h
 ·exact .inr h
 ·exact .inl (.inl h)
 ·exact .inl (.inr h)
 obtain⟨k,_,rfl⟩:=C9.mp h;cases e
def wz:Sp:=λvs H Q _=>∃(sa wa t:IN)(a b:Nat)(xs:List V)(ok:IN->Prop)(ss:Sts)(ws zs:List Int),vs=[.ref sa,.ref wa,.ref t,.int (a:Int),.int (b:Int)]/\H sa=ID (.lst xs)/\aG ok H xs (ss.map stD)/\ss.length<=60/\H wa=ID (.lst (ws.map At))/\ws.length=ss.length/\lE H t zs/\a<b/\b<=ss.length /\
 ∀(d:IN)(C:List Int) H',Same H H'->H d=IF->H' d=ID (.lst (C.map At))->C.length<=200->C≠[]->(∀c,c∈C ↔ ∃x,jP ss ws zs a b x/\x.2.2=[]/\c=x.1)->Q (.ref d) H'
theorem adM{xs:List V}{i j:Nat}(h1:i<=j)(h2:j<=xs.length):oE xs (ID (i:Int)) (ID (j:Int))=(xs.drop i).take (j-i):=by
 unfold oE;have e1:HT.sIx xs.length 0 (ID (i:Int))=i:=by
  simp only[HT.sIx];split <;> omega
 have e2:HT.sIx xs.length xs.length (ID (j:Int))=j:=by
  simp only[HT.sIx];split <;> omega
 rw[e1,e2]
theorem aG.aa1{ok:IN->Prop}{H:Hp}:∀{vs:List V}{ds:List AU}(n:Nat),aG ok H vs ds->aG ok H (vs.drop n) (ds.drop n)
 | _,_,0,t=>t
 | _,_,n+1,.nil=>.nil
 | _,_,n+1,.cons _ r=>aG.aa1 n r
theorem aG.aaT{ok:IN->Prop}{H:Hp}:∀{vs:List V}{ds:List AU}(n:Nat),aG ok H vs ds->aG ok H (vs.take n) (ds.take n)
 | _,_,0,_=>.nil
 | _,_,n+1,.nil=>.nil
 | _,_,n+1,.cons t r=>.cons t (aG.aaT n r)
theorem YB(ss:Sts)(a b:Nat):((ss.map stD).drop a).take (b-a)=(sls ss a b).map stD:=by unfold sls;rw[map_take,map_drop]
theorem Ky{α:Type}{xs:List α}(h:1<=xs.length):atI xs (-1)=atI xs ((xs.length-1:Nat):Int):=by
 unfold atI ixN;rw[if_neg δ,if_pos ω,if_pos ω,if_pos ω];congr 2;omega
theorem U3{ss:Sts}{a b:Nat}(hab:a<b)(h:b<=ss.length):(fC (sls ss a b) (b-a-1)).2.1-(fC (sls ss a b) 0).1+1=fM ss (rng a b):=by
 rw[zO h ω,zO h ω];unfold fM;have e1:(rng a b).head?=ID a:=by
  unfold rng;rw[List.head?_map,show b-a=(b-a-1)+1 by omega,List.range_succ_eq_map];rfl
 have e2:(rng a b).getLast?=ID (b-1):=by
  unfold rng;rw[show b-a=(b-a-1)+1 by omega,range_succ,A4,List.map_singleton,List.getLast?_concat];exact congrArg ID ω
 rw[e1,e2,show a+(b-a-1)=b-1 by omega];rfl
theorem W3{ss:Sts}{a b:Nat}(h:b<=ss.length):(sls ss a b).map (·.2.2)=(rng a b).map (lbl ss):=by
 refine K0 λk=>?_;rw[AL,AL];unfold rng;rw[AL];by_cases hk:k<b-a
 ·rw[D8 hk,FN (by rw[uX h];exact hk),zO h hk];rfl
 rw[BM (by rw[uX h];omega),BM (by rw[C8];omega)];rfl
theorem Vn(p:Prop)[Decidable p](c:Int):(BF (if p then 1 else 0:Int).toNat [At c]).flatten=(if p then [c] else []).map At:=by
 by_cases h:p
 ·rw[if_pos h,if_pos h];rfl
 rw[if_neg h,if_neg h];rfl
theorem Wr(p:Prop)[Decidable p]:(-2^63<=(if p then 1 else 0:Int))/\(if p then 1 else 0:Int)<2^63/\1*(if p then 1 else 0:Int).toNat<=AN:=by
 by_cases h:p
 ·rw[if_pos h];exact⟨δ,δ,aO δ⟩
 rw[if_neg h];exact⟨δ,δ,aO δ⟩
theorem Qk(p:Prop)[Decidable p](c:Int):(if p then [c] else []).length<=1:=by
 by_cases h:p
 ·rw[if_pos h];exact AV _
 rw[if_neg h];exact De _
theorem fP{M:Nat->Nat->Int}{x:lG}(h:x.2.2=[]):jG M x=x.1:=by unfold jG;rw[h];show x.1+0=x.1;omega
theorem JX{ss:Sts}{ws zs:List Int}{M:Nat->Nat->Int}{a b:Nat}{C:List Int}{m:Int}(hab:a<b)(hC:∀c,c∈C ↔ ∃x,jP ss ws zs a b x/\x.2.2=[]/\c=x.1)(hm:m∈C++(rng (a+1) b).map λk=>zs.getD 2 0*sumK ws (rng a b)+M a k+M k b)(hle:∀c∈C++(rng (a+1) b).map λk=>zs.getD 2 0*sumK ws (rng a b)+M a k+M k b,m<=c):cY ss ws zs M a b m:=by
 have lowv:∀k:Nat,jG M (zs.getD 2 0*sumK ws (rng a b),[.str "below",.int (k:Int)],[(a,k),(k,b)])=zs.getD 2 0*sumK ws (rng a b)+M a k+M k b:=λk=>by
  show zs.getD 2 0*sumK ws (rng a b)+(M a k+(M k b+0))=_;omega
 constructor
 ·rcases Cf.mp hm with h|h
  ·obtain⟨x,hx,e,rfl⟩:=(hC m).mp h;exact⟨x,hx,(fP e).symm⟩
  obtain⟨k,hk,rfl⟩:=C9.mp h;have:=eG.mp hk;exact⟨_,jP.low k ω this.2,(lowv k).symm⟩
 intro x hx;have flat:x.2.2=[]->m<=jG M x:=λe=>by
  rw[fP e];exact hle _ (EB _ ((hC _).mpr ⟨x,hx,e,rfl⟩))
 cases hx with
 | row lab ord h1 h2=>exact flat rfl
 | tab c=>exact flat rfl
 | msk l0 l1 c h=>exact flat rfl
 | low k h1 h2=>
  rw[lowv];exact hle _ (AG _ (C9.mpr ⟨k,eG.mpr ⟨ω,h2⟩,rfl⟩))
structure zm(ss:Sts)(ws zs:List Int)(H:Hp)(bd:IN)(m:Nat)(D:Nat×Nat->Prop)(M:Nat->Nat->Int)(kvs:List (List Key×V)):Prop where
 e:H bd=ID (.dT kvs)
 l:kvs.length<=m
 num:∀p,D p->gF kvs (key2 p.1 p.2)=ID (.int (M p.1 p.2))
 one:∀p,D p->p.2=p.1+1->M p.1 p.2=0
 lst:∀p,D p->p.1+2<=p.2->cY ss ws zs M p.1 p.2 (M p.1 p.2)
theorem zm.same{ss:Sts}{ws zs:List Int}{H H':Hp}{bd:IN}{m:Nat}{D:Nat×Nat->Prop}{M:Nat->Nat->Int}{kvs:List (List Key×V)}(h:zm ss ws zs H bd m D M kvs)(s:Same H H'):zm ss ws zs H' bd m D M kvs:=⟨s _ _ h.e,h.l,h.num,h.one,h.lst⟩
theorem zm.iff{ss:Sts}{ws zs:List Int}{H:Hp}{bd:IN}{m m':Nat}{D D':Nat×Nat->Prop}{M:Nat->Nat->Int}{kvs:List (List Key×V)}(h:zm ss ws zs H bd m D M kvs)(hm:m<=m')(k:∀p,D' p->D p):zm ss ws zs H bd m' D' M kvs:=⟨h.e,CM h.l hm,λp hp=>h.num p (k p hp),λp hp=>h.one p (k p hp),λp hp=>h.lst p (k p hp)⟩
theorem zm.step{ss:Sts}{ws zs:List Int}{H:Hp}{bd:IN}{m:Nat}{D D':Nat×Nat->Prop}{M:Nat->Nat->Int}{kvs:List (List Key×V)}{a b:Nat}{c:Int}(h:zm ss ws zs H bd m D M kvs)(hab:¬D (a,b))(hD':∀p,D' p->D p\/p=(a,b))(hin:∀p,D' p->∀i j,p.1<=i->i<j->j<=p.2->j-i<p.2-p.1->D (i,j))
  (h1:b=a+1->c=0)(hl:a+2<=b->cY ss ws zs M a b c):∃M',zm ss ws zs (upd H bd (.dT (putK kvs (key2 (a:Int) (b:Int)) (.int c)))) bd (m+1) D' M' (putK kvs (key2 (a:Int) (b:Int)) (.int c)):=by
 obtain⟨M',eM⟩:∃M':Nat->Nat->Int,M'=λi j=>if (i,j)=(a,b) then c else M i j:=⟨_,rfl⟩;have nM:∀p,D p->M' p.1 p.2=M p.1 p.2:=λp hp=>by
  rw[eM];exact if_neg λz:(p.1,p.2)=(a,b)=>hab (z ▸ hp)
 have nA:M' a b=c:=by rw[eM];exact if_pos rfl
 have lc:∀p,D' p->∀c,cY ss ws zs M p.1 p.2 c->cY ss ws zs M' p.1 p.2 c:=λp hp c l=>l.congr λi j g1 g2 g3 g4=>(nM (i,j) (hin p hp i j g1 g2 g3 g4)).symm;refine⟨M',aD,by have:=gw kvs (key2 (a:Int) (b:Int)) (.int c);have:=h.l;omega,λp hp=>?_,λp hp=>?_,λp hp=>?_⟩
 ·rcases hD' p hp with d|rfl
  ·rw[lg,if_neg λe=>hab (by rw[<- qu e];exact d),nM p d];exact h.num p d
  rw[lg,if_pos rfl];show _=ID (At (M' a b));rw[nA]
 ·rcases hD' p hp with d|rfl
  ·rw[nM p d];exact h.one p d
  intro e;show M' a b=0;rw[nA];exact h1 e
 intro e;rcases hD' p hp with d|rfl
 ·rw[nM p d];exact lc p hp _ (h.lst p d e)
 show cY ss ws zs M' a b (M' a b);rw[nA];exact lc _ hp _ (hl e)
theorem Iu{ss:Sts}{ws zs:List Int}{N:Nat->Nat->Int}{a:Nat}{c:Int}(hw:∀k,0<=ws.getD k 0)(hz:∀k,k<5->0<=zs.getD k 0)(h:cY ss ws zs N a (a+1) c):c=0:=by
 have hr:rng a (a+1)=[a]:=by
  unfold rng;rw[show a+1-a=1 by omega];rfl
 have hs:0<=sumK ws (rng a (a+1)):=by
  rw[hr];show 0<=ws.getD a 0+0;have:=hw a;omega
 have hrow:jP ss ws zs a (a+1) (gB ss ws zs (sumK ws (rng a (a+1))) [a] (lbl ss a),Gj ss zs (lbl ss a) (iK ss (lbl ss a) [a]),[]):=.row (lbl ss a) [a] ⟨a,by rw[hr];exact A5,rfl⟩ ⟨by rw[hr],IT _ _⟩;have zero:∀o,o.Perm [a]->gB ss ws zs (sumK ws (rng a (a+1))) o (lbl ss a)=0:=λo ho=>by
  unfold gB;have:iK ss (lbl ss a) o=[]:=by
   unfold iK;refine JJ.mpr λk hk=>?_;have:=AJ.mp (ho.mem_iff.mp hk);subst this;simp[lbl]
  rw[this];rfl
 have up:c<=0:=by
  have:=h.2 _ hrow;rw[fP rfl] at this;rw[zero [a] (.refl _)] at this;exact this
 have dn:0<=c:=by
  obtain⟨⟨x,hx,rfl⟩,_⟩:=h;cases hx with
  | row lab ord h1 h2=>
   obtain⟨k,hk,rfl⟩:=h1;rw[hr] at hk;rw[AJ.mp hk,fP rfl];show 0<=gB ss ws zs _ ord (lbl ss a);rw[zero ord (by rw[<- hr];exact h2.pm)];exact GA _
  | tab c1=>rw[fP rfl];exact mul_nonneg (hz 4 δ) hs
  | msk l0 l1 c1 c2=>rw[fP rfl];exact mul_nonneg (hz 3 δ) hs
  | low k g1 g2=>omega
 omega
theorem Dy{ss:Sts}{ws zs:List Int}{N M:Nat->Nat->Int}{n:Nat}(hw:∀k,0<=ws.getD k 0)(hz:∀k,k<5->0<=zs.getD k 0)(hN:∀p:Nat×Nat,p.1<p.2->p.2<=n->cY ss ws zs N p.1 p.2 (N p.1 p.2))(h1:∀p:Nat×Nat,p.1<p.2->p.2<=n->p.2=p.1+1->M p.1 p.2=0)(hM:∀p:Nat×Nat,p.1<p.2->p.2<=n->p.1+2<=p.2->cY ss ws zs M p.1 p.2 (M p.1 p.2)):∀d a b,b-a=d->a<b->b<=n->N a b=M a b:=by
 intro d
 induction d using Nat.strongRecOn with
 | ind d ih=>
  intro a b e hab hb;by_cases h:b=a+1
  ·rw[h1 (a,b) hab hb h];have:=hN (a,b) hab hb;subst h;exact Iu hw hz this
  have l1:=hN (a,b) hab hb;have l2:=hM (a,b) hab hb (by show a+2<=b;omega);refine(cY.congr (λi j g1 g2 g3 g4=>?_) l1).uniq l2;exact ih (j-i) (by dsimp only at g4;omega) i j Z g2 (by dsimp only at g3;omega)
def zN:Sp:=λvs H Q _=>∃(sa wa t:IN)(xs:List V)(ok:IN->Prop)(ss:Sts)(ws zs:List Int),vs=[.ref sa,.ref wa,.ref t]/\H sa=ID (.lst xs)/\aG ok H xs (ss.map stD)/\1<=ss.length/\ss.length<=60/\H wa=ID (.lst (ws.map At))/\ws.length=ss.length/\lE H t zs /\
 ∀(bd:IN) H' (m:Nat) (M:Nat->Nat->Int) (kvs:List (List Key×V)),Same H H'->zm ss ws zs H' bd m (λp=>p.1<p.2/\p.2<=ss.length) M kvs->Q (.ref bd) H'
theorem Gk{a b i:Nat}(h:i<b-a):(rng a b)[i]?=ID (a+i):=by
 unfold rng;rw[AL,D8 h];rfl
theorem at0{x:V}{xs:List V}:atI (x::xs) 0=ID x:=bZ (j:=0) rfl
theorem vQ{l:List Int}(h:∀w∈l,0<=w)(k:Nat):0<=l.getD k 0:=by
 rw[AY];cases e:l[k]? with
 | none=>exact GA _
 | some x=>exact h x (A8 e)
def Cp(m:Nat)(d:AU)(N:List Int):Prop:=d=.list (N.map AU.int)/\N.length=m
def blP(p:Prop):V:=.bl (@decide p (EA p))
theorem Cg{p:Prop}(h:p):blP p=.bl true:=congrArg As (@decide_eq_true p (EA p) h)
theorem oV{p:Prop}(h:¬p):blP p=.bl false:=congrArg As (@decide_eq_false p (EA p) h)
def spListN:Sp:=λvs H Q _=>∃(v:V)(m:Nat)(ok:IN->Prop)(d:AU),vs=[v,.int (m:Int)]/\j9 ok H/\aJ ok H v d/\(∀H',Same H H'->Q (blP (∃N,Cp m d N)) H')
def dZ(n:Nat)(N:Nat->Nat->Int)(a:Nat):List Int:=(rng (a+1) (n+1)).map (N a)
theorem dH(n:Nat)(N:Nat->Nat->Int)(a:Nat):(dZ n N a).length=n-a:=by unfold dZ;rw[AC,fZ];omega
theorem gR{n:Nat}{N:Nat->Nat->Int}{a i:Nat}(h:i<n-a):(dZ n N a)[i]?=ID (N a (a+1+i)):=by
 unfold dZ;rw[AL,Gk ω];rfl
def jx(n:Nat)(N:Nat->Nat->Int):AU:=.list ((BN n).map λa=>.list ((dZ n N a).map AU.int))
def QV(n:Nat)(d:AU):Prop:=∃N,d=jx n N
theorem Lq{n:Nat}{N M:Nat->Nat->Int}(h:∀a b,a<b->b<=n->N a b=M a b)(a:Nat):dZ n N a=dZ n M a:=by
 unfold dZ;exact DZ λb hb=>by have:=eG.mp hb;exact h a b ω ω
theorem Ly{n:Nat}{N M:Nat->Nat->Int}(h:∀a b,a<b->b<=n->N a b=M a b):jx n N=jx n M:=by
 unfold jx;exact congrArg AU.list (DZ λa _=>by rw[Lq h])
theorem Wn{n:Nat}{N M:Nat->Nat->Int}(e:jx n N=jx n M):∀a b,a<b->b<=n->N a b=M a b:=by
 intro a b h1 h2;have e1:=congrArg (λl:List AU=>l[a]?) (AU.list.inj e);simp only[AL] at e1;rw[D8 ω] at e1;have e2:(dZ n N a).map AU.int=(dZ n M a).map AU.int:=AU.list.inj (Be e1);have e3:=congrArg (λl:List AU=>l[b-(a+1)]?) e2;simp only[AL] at e3;rw[gR ω,gR ω,show a+1+(b-(a+1))=b by omega] at e3;exact AU.int.inj (Be e3)
theorem rD{n:Nat}{ds:List AU}:QV n (.list ds)↔ds.length=n/\∀j,j<n->∃M,Cp (n-j) (ds.getD j .none) M:=by
 constructor
 ·rintro⟨N,e⟩;have e:=AU.list.inj e;refine⟨by rw[e,AC,C8],λj hj=>⟨dZ n N j,?_,dH n N j⟩⟩;rw[e,AY,AL,D8 hj];rfl
 rintro⟨hl,h⟩;obtain⟨f,hf⟩:∃f:Nat->List Int,∀j,j<n->Cp (n-j) (ds.getD j .none) (f j):=by
  classical
  exact⟨λj=>if q:j<n then Classical.choose (h j q) else [],λj q=>by simp only[dif_pos q];exact Classical.choose_spec (h j q)⟩
 refine⟨λa b=>(f a).getD (b-(a+1)) 0,congrArg AU.list (K0 λk=>?_)⟩;rw[AL];by_cases c:k<n
 ·obtain⟨h1,h2⟩:=hf k c;rw[D8 c,AD ω];rw[AY,AD ω] at h1;replace h1:ds[k]=.list ((f k).map AU.int):=h1;rw[h1];show ID _=ID _;congr 3;refine K0 λi=>?_;by_cases ci:i<n-k
  ·rw[gR ci,AD ω,show k+1+i-(k+1)=i by omega,AY,AD ω];rfl
  rw[BM ω,BM (by rw[dH];omega)]
 rw[BM ω,BM (by rw[C8];omega)];rfl
def qX(ss:Sts)(ws zs:List Int)(n:Nat)(N:Nat->Nat->Int):Prop:=∀a b,a<b->b<=n->∀x,jP ss ws zs a b x->N a b<=jG N x
theorem zH{ss:Sts}{ws zs:List Int}{n a b:Nat}{N M:Nat->Nat->Int}(h:∀i j,a<=i->i<j->j<=b->j-i<b-a->N i j=M i j){x:lG}(hx:jP ss ws zs a b x):jG N x=jG M x:=by
 unfold jG;rw[DZ λp hp=>by obtain⟨h1,h2,h3,h4⟩:=vm hx p hp;exact h _ _ h1 h2 h3 h4]
theorem qX.congr{ss:Sts}{ws zs:List Int}{n:Nat}{N M:Nat->Nat->Int}(h:∀a b,a<b->b<=n->N a b=M a b)(k:qX ss ws zs n N):qX ss ws zs n M:=λa b h1 h2 x hx=>by
 rw[<- h a b h1 h2,<- zH (n:=n) (λi j g1 g2 g3 g4=>h i j g2 ω) hx];exact k a b h1 h2 x hx
def Oh(ss:Sts)(ws zs:List Int)(n:Nat)(d:AU):Prop:=∃N,d=jx n N/\qX ss ws zs n N
theorem iG{ss:Sts}{ws zs:List Int}{n:Nat}{N:Nat->Nat->Int}:Oh ss ws zs n (jx n N)↔qX ss ws zs n N:=
 ⟨λ⟨M,e,b⟩=>b.congr λa b h1 h2=>(Wn e a b h1 h2).symm,λb=>⟨N,rfl,b⟩⟩
def jm(ss:Sts)(ws zs:List Int)(n:Nat)(N:Nat->Nat->Int):Prop:=∀p:Nat×Nat,p.1<p.2->p.2<=n->cY ss ws zs N p.1 p.2 (N p.1 p.2)
theorem jm.below{ss:Sts}{ws zs:List Int}{n:Nat}{N:Nat->Nat->Int}(h:jm ss ws zs n N):qX ss ws zs n N:=λa b h1 h2 x hx=>(h (a,b) h1 h2).2 x hx
theorem jm.one{ss:Sts}{ws zs:List Int}{n:Nat}{N M:Nat->Nat->Int}(h:jm ss ws zs n N)(k:jm ss ws zs n M):∀a b,a<b->b<=n->N a b=M a b:=by
 have key:∀d a b,b-a=d->a<b->b<=n->N a b=M a b:=by
  intro d
  induction d using Nat.strongRecOn with
  | ind d ih=>
   intro a b e hab hb;refine(cY.congr (λi j g1 g2 g3 g4=>?_) (h (a,b) hab hb)).uniq (k (a,b) hab hb);exact ih (j-i) (by dsimp only at g4;omega) i j Z g2 (by dsimp only at g3;omega)
 exact λa b=>key _ a b rfl
theorem jm.above{ss:Sts}{ws zs:List Int}{n:Nat}{N M:Nat->Nat->Int}(h:jm ss ws zs n N){a b:Nat}(h1:a<b)(h2:b<=n)(e:M a b=N a b+1)(k:∀i j,i<j->j<=n->¬(i=a/\j=b)->M i j=N i j):¬qX ss ws zs n M:=λz=>by
 obtain⟨⟨x,hx,ex⟩,_⟩:=h (a,b) h1 h2;have:=z a b h1 h2 x hx;rw[e,zH (n:=n) (M:=N) (λi j g1 g2 g3 g4=>k i j g2 ω ω) hx] at this;dsimp only at ex;omega
def spIsRP:Sp:=λvs H Q _=>∃(v:V)(n:Nat)(ok:IN->Prop)(d:AU),vs=[v,.int (n:Int)]/\n<=60/\j9 ok H/\aJ ok H v d/\∀H',Same H H'->Q (blP (QV n d)) H'
def spShowsR:Sp:=λvs H Q _=>∃(sa wa t:IN)(v:V)(xs:List V)(ok ok2:IN->Prop)(ss:Sts)(ws zs:List Int)(d:AU),vs=[.ref sa,.ref wa,.ref t,v]/\H sa=ID (.lst xs)/\aG ok H xs (ss.map stD)/\1<=ss.length/\ss.length<=60/\H wa=ID (.lst (ws.map At))/\ws.length=ss.length/\lE H t zs/\(∀w∈ws,0<=w)/\j9 ok2 H/\aJ ok2 H v d /\
 ∀H',Same H H'->Q (blP (Oh ss ws zs ss.length d)) H'
def zK:Sp:=λvs H Q _=>∃(sa wa t:IN)(xs:List V)(ok:IN->Prop)(ss:Sts)(ws zs:List Int),vs=[.ref sa,.ref wa,.ref t]/\H sa=ID (.lst xs)/\aG ok H xs (ss.map stD)/\1<=ss.length/\ss.length<=60/\H wa=ID (.lst (ws.map At))/\ws.length=ss.length/\lE H t zs /\
 ∀(r:IN)(rs:List IN)(N:Nat->Nat->Int) H',Same H H'->H r=IF->H' r=ID (.lst (rs.map AT))->rs.length=ss.length->(∀(j:Nat) a,rs[j]?=ID a->H a=IF/\H' a=ID (.lst ((dZ ss.length N j).map At)))->jm ss ws zs ss.length N->Q (.ref r) H'
theorem zX{H:Hp}{ok:IN->Prop}{f:Nat->List Int}:∀{rs:List IN}{k:Nat},(∀(j:Nat) a,rs[j]?=ID a->ok a/\H a=ID (.lst ((f (k+j)).map At))/\(f (k+j)).length<=1000000)->aG ok H (rs.map AT) ((List.range' k rs.length).map λa=>.list ((f a).map AU.int))
 | [],_,_=>.nil
 | a::rs,k,h=>by
  obtain⟨h1,h2,h3⟩:=h 0 a rfl;rw[DJ,EX,range'_succ,DJ];refine .cons (.lst h1 h2 (by rw[AC];exact h3) (kO _)) (zX λj b hj=>?_);have:=h (j+1) b hj;rwa [show k+(j+1)=k+1+j by omega] at this
theorem pQ{H:Hp}{ok:IN->Prop}{N:Nat->Nat->Int}{n:Nat}{r:IN}{rs:List IN}(h60:n<=60)(hr:ok r)(e:H r=ID (.lst (rs.map AT)))(hl:rs.length=n)(h:∀(j:Nat) a,rs[j]?=ID a->ok a/\H a=ID (.lst ((dZ n N j).map At))):aJ ok H (.ref r) (jx n N):=by
 unfold jx;refine .lst hr e (by rw[AC];omega) ?_;have:=zX (H:=H) (ok:=ok) (f:=dZ n N) (rs:=rs) (k:=0) λj a hj=>by
  rw[zero_add];exact⟨(h j a hj).1,(h j a hj).2,by rw[dH];omega⟩
 rwa [hl,<- List.range_eq_range'] at this
def uf(N:Nat->Nat->Int)(l:List (Nat×Nat)):List (List Key×V):=l.map λp=>(key2 p.1 p.2,At (N p.1 p.2))
theorem tX{N:Nat->Nat->Int}:∀{l:List (Nat×Nat)}{p:Nat×Nat},p∈l->gF (uf N l) (key2 p.1 p.2)=ID (.int (N p.1 p.2))
 | q::l,p,h=>by
  by_cases e:key2 (q.1:Int) (q.2:Int)=key2 (p.1:Int) (p.2:Int)
  ·have e2:=qu e;have:q=p:=Prod.ext (congrArg Prod.fst e2) (congrArg Prod.snd e2);subst this;exact fJ e
  rcases A3.mp h with rfl|h
  ·exact absurd Z e
  exact(fK e).trans (tX h)
def wj(ss:Sts)(ws zs:List Int)(N:Nat->Nat->Int)(l:List (Nat×Nat)):Prop:=∀p∈l,∀x,jP ss ws zs p.1 p.2 x->N p.1 p.2<=jG N x
theorem Kv{ss:Sts}{ws zs:List Int}{n:Nat}{N:Nat->Nat->Int}:wj ss ws zs N (dF n n)↔qX ss ws zs n N:=
 ⟨λh a b h1 h2 x hx=>h (a,b) (cQ.mpr ⟨h1,h2⟩) x hx,λh p hp x hx=>by obtain⟨h1,h2⟩:=cQ.mp hp;exact h p.1 p.2 h1 h2 x hx⟩
theorem wj.snoc{ss:Sts}{ws zs:List Int}{N:Nat->Nat->Int}{l:List (Nat×Nat)}{p:Nat×Nat}(h:wj ss ws zs N l)(k:∀x,jP ss ws zs p.1 p.2 x->N p.1 p.2<=jG N x):wj ss ws zs N (l++[p]):=λq hq=>by
 rcases Cf.mp hq with hq|hq
 ·exact h q hq
 rw[AJ.mp hq];exact k
theorem FT{ss:Sts}{ws zs:List Int}{N:Nat->Nat->Int}{a:Nat}(hw:∀k,0<=ws.getD k 0)(hz:∀k,k<5->0<=zs.getD k 0):cY ss ws zs N a (a+1) 0:=by
 have hr:rng a (a+1)=[a]:=by
  unfold rng;rw[show a+1-a=1 by omega];rfl
 have hs:0<=sumK ws (rng a (a+1)):=by
  rw[hr];show 0<=ws.getD a 0+0;have:=hw a;omega
 have hrow:jP ss ws zs a (a+1) (gB ss ws zs (sumK ws (rng a (a+1))) [a] (lbl ss a),Gj ss zs (lbl ss a) (iK ss (lbl ss a) [a]),[]):=.row (lbl ss a) [a] ⟨a,by rw[hr];exact A5,rfl⟩ ⟨by rw[hr],IT _ _⟩;have zero:∀o,o.Perm [a]->gB ss ws zs (sumK ws (rng a (a+1))) o (lbl ss a)=0:=λo ho=>by
  unfold gB;have:iK ss (lbl ss a) o=[]:=by
   unfold iK;refine JJ.mpr λk hk=>?_;have:=AJ.mp (ho.mem_iff.mp hk);subst this;simp[lbl]
  rw[this];rfl
 refine⟨⟨_,hrow,by rw[fP rfl];exact(zero [a] (.refl _)).symm⟩,λx hx=>?_⟩;cases hx with
 | row lab ord h1 h2=>
  obtain⟨k,hk,rfl⟩:=h1;rw[hr] at hk;rw[AJ.mp hk,fP rfl];show 0<=gB ss ws zs _ ord (lbl ss a);rw[zero ord (by rw[<- hr];exact h2.pm)];exact GA _
 | tab c1=>rw[fP rfl];exact mul_nonneg (hz 4 δ) hs
 | msk l0 l1 c1 c2=>rw[fP rfl];exact mul_nonneg (hz 3 δ) hs
 | low k g1 g2=>omega
def Cr(ss:Sts)(ws zs:List Int)(n:Nat)(N:Nat->Nat->Int)(D:Nat->Nat->Prop):Prop:=∀a b,D a b->a<b->b<=n->∀x,jP ss ws zs a b x->N a b<=jG N x
theorem zy{ok:IN->Prop}{H:Hp}{v:V}{n:Nat}{N:Nat->Nat->Int}(td:aJ ok H v (jx n N)){a b:Nat}(hab:a<b)(hbn:b<=n):∃(pd:IN)(rws:List V)(ra:IN)(ns:List V),v=.ref pd/\H pd=ID (.lst rws)/\atI rws (a:Int)=ID (.ref ra)/\H ra=ID (.lst ns)/\atI ns ((b:Int)-(a:Int)-1)=ID (.int (N a b)):=by
 unfold jx at td;cases td with
 | lst o e z tt=>
  rename_i pd rws;have hl:=tt.length;rw[AC,C8] at hl;have hx:rws[a]?=ID (rws[a]'ω):=AD ω;obtain⟨dd,hd,tdd⟩:=tt.get hx;rw[AL,D8 ω] at hd;cases hd;have hat:=bZ hx;generalize rws[a]'ω=y at tdd hat;cases tdd with
  | lst o2 e2 z2 tt2=>
   cases aG.ints tt2;refine⟨pd,rws,_,_,rfl,e,hat,e2,?_⟩;rw[show(b:Int)-(a:Int)-1=((b-(a+1):Nat):Int) by omega];refine bZ ?_;rw[AL,gR ω,show a+1+(b-(a+1))=b by omega];rfl
theorem Cr.mono{ss:Sts}{ws zs:List Int}{n:Nat}{N:Nat->Nat->Int}{D D':Nat->Nat->Prop}(h:Cr ss ws zs n N D)(k:∀a b,a<b->b<=n->D' a b->D a b):Cr ss ws zs n N D':=λa b d h1 h2=>h a b (k a b h1 h2 d) h1 h2
def abw(K:AF):List V->Hp->VK->Prop:=λxs H Q=>∃p ys,xs=[AT p]/\(SqL K H p ys\/SqT K H p ys)/\∀(l:IN),H l=IF->Q (AT l) (upd H l (By ys))
theorem Kp{X:Cx}{K:AF}(h:X.K=K):dR X (.type "list") (abw K):=by
 subst h;exact oF
theorem Mi{l:List IN}{d:IN}(h:l.Nodup)(k:d∉l):(l++[d]).Nodup:=by
 rw[nodup_append];exact⟨h,FR.mpr ⟨Bz,nodup_nil⟩,λx hx y hy e=>k (by rw[AJ.mp hy] at e;rw[<- e];exact hx)⟩
theorem Mj{l:List IN}(h:l.Nodup){i j:Nat}{x:IN}(hi:l[i]?=ID x)(hj:l[j]?=ID x):i=j:=by
 obtain⟨h1,e1⟩:=AI.mp hi;obtain⟨h2,e2⟩:=AI.mp hj;have pw:=IX.mp h;rcases Nat.lt_trichotomy i j with c|c|c
 ·exact absurd (e1.trans e2.symm) (pw i j h1 h2 c)
 ·exact c
 exact absurd (e2.trans e1.symm) (pw j i h2 h1 c)
theorem Fb{K:AF}{mp:List (Option Nat)}{te:TE}{σ:St}{H:Hp}{Q:VK}{R:It->Hp->Prop}{pa:IN}{xs:List V}{f:Nat->List Int}(hR:R=Dq mp (gb 0) Fw te σ Q)(h0:cZ mp σ=[IF])(e:H pa=ID (.lst xs))(hz:xs.length<=1000000)(hx:∀(j:Nat) x,xs[j]?=ID x->∃a,x=.ref a/\H a=ID (.lst ((f j).map At)))
  (ht:∀(x:IN)(ms:List Int)(H':Hp)(Q':VK),H' x=ID (.lst (ms.map At))->(∀l,H' l=IF->Q' (.ref l) (upd H' l (.lst (ms.map At))))->te [ID (.ref x)] H' Q')
  (q:∀(d:IN)(ns:List IN) H',Same H H'->H d=IF->H' d=ID (.lst (ns.map AT))->ns.length=xs.length->ns.Nodup->(∀(j:Nat) a,ns[j]?=ID a->H a=IF/\a≠d/\H' a=ID (.lst ((f j).map At)))->Q (.ref d) H'):R (Itl K pa) H:=by
 obtain⟨Pc,hPc⟩:∃Pv:Nat->List V->St->Hp->Prop,Pv=λ(i:Nat) acc τ H'=>∃(ns:List IN)(o0:Option V),Same H H'/\acc=ns.map AT/\ns.length=i/\ns.Nodup/\(∀(j:Nat) a,ns[j]?=ID a->H a=IF/\H' a=ID (.lst ((f j).map At)))/\τ=[o0]:=⟨_,rfl⟩;refine iQ hR (xs:=xs) (aO hz) Pc (by rw[hPc,h0];exact⟨[],_,Same.refl _,rfl,rfl,nodup_nil,(λj a h=>by cases h),rfl⟩) ?_ ?_ ?_ ?_
 ·intro i acc τ H2 pc;rw[hPc] at pc;obtain⟨ns,_,_,rfl,hl,_⟩:=pc;rw[AC];omega
 ·intro i acc τ H2 pc;rw[hPc] at pc;obtain⟨_,_,s2,_⟩:=pc;exact SqL.of (s2 _ _ e)
 ·intro i y acc τ H2 hy pc;rw[hPc] at pc;obtain⟨ns,o0,s2,rfl,hl,nd,hns,rfl⟩:=pc;obtain⟨x,rfl,ex⟩:=hx i y hy;show te [ID (.ref x)] H2 _;refine ht x _ H2 _ (s2 _ _ ex) λl hl0=>?_;have s3:=au (o:=By ((f i).map At)) hl0;rw[hPc];refine⟨ns++[l],_,s2.trans s3,by rw[A4];rfl,by rw[A0,hl];rfl,Mi nd λz=>?_,λj a hj=>?_,rfl⟩
  ·obtain⟨j,hj⟩:=Fa.mp z;have:=(hns j l hj).2;rw[hl0] at this;cases this
  rcases FU j ns.length with c|c
  ·rw[EU c] at hj;obtain⟨g1,g2⟩:=hns j a hj;exact⟨g1,s3 _ _ g2⟩
  rw[Dx c] at hj;have:j-ns.length=0:=by
   have:=(AI.mp hj).1;rw[B4] at this;omega
  rw[this] at hj;cases hj;rw[show j=i by omega];exact⟨s2.none hl0,aD⟩
 intro acc τ H2 d pc hd;rw[hPc] at pc;obtain⟨ns,o0,s2,rfl,hl,nd,hns,rfl⟩:=pc;have s3:=au (o:=By (ns.map AT)) hd;exact q d ns _ (s2.trans s3) (s2.none hd) aD hl nd λj a hj=>⟨(hns j a hj).1,aB (hns j a hj).2 hd,s3 _ _ (hns j a hj).2⟩
theorem Jq{ok:IN->Prop}{H:Hp}{v:V}{n:Nat}{N:Nat->Nat->Int}(td:aJ ok H v (jx n N)):∃(pa:IN)(xs:List V),v=.ref pa/\ok pa/\H pa=ID (.lst xs)/\xs.length=n/\∀(j:Nat) x,xs[j]?=ID x->∃a,x=.ref a/\ok a/\H a=ID (.lst ((dZ n N j).map At)):=by
 unfold jx at td;cases td with
 | lst o e z tt=>
  rename_i pa xs;have hl:=tt.length;rw[AC,C8] at hl;refine⟨pa,xs,rfl,o,e,hl,λj x hx=>?_⟩;have hj:=(AI.mp hx).1;obtain⟨dd,hd,tdd⟩:=tt.get hx;rw[AL,D8 ω] at hd;cases hd;cases tdd with
  | lst o2 e2 z2 tt2=>
   cases aG.ints tt2;exact⟨_,rfl,o2,e2⟩
def putN(N:Nat->Nat->Int)(a b:Nat)(c:Int):Nat->Nat->Int:=λi j=>if i=a/\j=b then c else N i j
theorem Pk{N:Nat->Nat->Int}{a b:Nat}{c:Int}:putN N a b c a b=c:=if_pos ⟨rfl,rfl⟩
theorem Gu{N:Nat->Nat->Int}{a b i j:Nat}{c:Int}(h:¬(i=a/\j=b)):putN N a b c i j=N i j:=if_neg h
theorem V9{N:Nat->Nat->Int}{n a k:Nat}{c:Int}(h:k<n-a):(dZ n N a).set k c=dZ n (putN N a (a+1+k) c) a:=by
 refine K0 λi=>?_;rw[List.getElem?_set];by_cases ci:i<n-a
 ·rw[gR ci,gR ci];by_cases e:k=i
  ·subst e;rw[if_pos rfl,if_pos (by rw[dH];exact h),Pk]
  rw[if_neg e,Gu ω]
 rw[if_neg ω,BM (by rw[dH];omega),BM (by rw[dH];omega)]
theorem Lp{N:Nat->Nat->Int}{n a b j:Nat}{c:Int}(h:j≠a):dZ n (putN N a b c) j=dZ n N j:=by
 unfold dZ;exact DZ λi _=>Gu ω
def O3:Sp:=λvs H Q _=>∃(p bd:IN)(v:V)(n:Nat)(N:Nat->Nat->Int)(B:Int)(kvs:List (List Key×V)),vs=[.ref p,v,.ref bd]/\bF H p B/\0<=B/\B<=900000/\1<=n/\n<=60/\aJ (·≠p) H v (jx n N)/\H bd=ID (.dT kvs)/\bd≠p/\(∀a b:Nat,a<b->b<=n->gF kvs (key2 a b)=ID (.int (N a b))) /\
 ∀(v':V)(a b:Nat) H',bG p H H'->bF H' p (B+10)->aJ (·≠p) H' v' (jx n (putN N a b (N a b+1)))->a<b->b<=n->Q v' H'
def ad4(Ms:List (List Int)):AU:=.list (Ms.map λM=>.list (M.map AU.int))
theorem Fe{K:AF}{mp:List (Option Nat)}{te:TE}{σ:St}{H:Hp}{Q:VK}{R:It->Hp->Prop}{pa p:IN}{xs:List V}{n:Nat}{f:Nat->List Int}{B:Int}(hR:R=Dq mp (gb 0) Fw (oK [IF,ID 1] (J0 K (tV 0)) (gb 0) Fw te) σ Q)(h0:cZ mp σ=[IF,ID (.ref p)])(h60:n<=60)(tp:bF H p B)(hB:B+200*61<=900000)(opa:pa≠p)(e:H pa=ID (.lst xs))(hl:xs.length=n)(hx:∀(j:Nat) x,xs[j]?=ID x->∃a,x=.ref a/\a≠p/\H a=ID (.lst ((f j).map At))/\(f j).length<=60)
  (ht:∀(z:Int)(H':Hp)(B':Int)(Q':VK),bF H' p B'->B'<=900000->(∀(r:Int) H'',bG p H' H''->bF H'' p (B'+2)->Q' (.int r) H'')->te [ID (.int z),ID (.ref p)] H' Q')
  (q:∀(d:IN)(Ms:List (List Int)) H',bG p H H'->bF H' p (B+200*61)->d≠p->aJ (·≠p) H' (.ref d) (ad4 Ms)->Q (.ref d) H'):R (Itl K pa) H:=by
 obtain⟨Pc,hPc⟩:∃Pv:Nat->List V->St->Hp->Prop,Pv=λ(i:Nat) acc τ H'=>∃(Ms:List (List Int)) (o0:Option V),bG p H H'/\bF H' p (B+200*(i:Int))/\Ms.length=i/\aG (·≠p) H' acc (Ms.map λM=>.list (M.map AU.int))/\τ=[o0,ID (.ref p)]:=⟨_,rfl⟩;refine iQ hR (xs:=xs) (aO ω) Pc (by rw[hPc,h0];exact⟨[],_,bG.refl _ _,tp.le (by show B<=B+200*((0:Nat):Int);omega),rfl,.nil,rfl⟩) ?_ ?_ ?_ ?_
 ·intro i acc τ H2 pc;rw[hPc] at pc;obtain⟨Ms,_,_,_,hm,t,_⟩:=pc;have:=t.length;rw[AC] at this;omega
 ·intro i acc τ H2 pc;rw[hPc] at pc;obtain⟨_,_,s2,_⟩:=pc;exact SqL.of (s2 _ _ opa e)
 ·intro i y acc τ H2 hy pc;rw[hPc] at pc;obtain⟨Ms,o0,s2,tp2,hm,t,rfl⟩:=pc;have hi:=(AI.mp hy).1;obtain⟨x,rfl,ox,ex,hfl⟩:=hx i y hy;simp only[gb,Fw,Hm,reduceIte];refine cN λR2 hR2=>?_;have ex2:=s2 _ _ ox ex;show itK K (.ref x) H2 R2;rw[Hg,ex2,Hf];obtain⟨Pd,hPd⟩:∃Pv:Nat->List V->St->Hp->Prop,Pv=λ(j:Nat) acc τ H'=>∃(L:List Int)(o0:Option V),bG p H2 H'/\bF H' p (B+200*(i:Int)+2*(j:Int))/\L.length=j/\acc=L.map At/\τ=[o0,ID (.ref p)]:=⟨_,rfl⟩;refine iQ hR2 (xs:=(f i).map At) (aO (by rw[AC];omega)) Pd (by rw[hPd];exact⟨[],_,bG.refl _ _,tp2.le (by show _<=B+200*(i:Int)+2*((0:Nat):Int);omega),rfl,rfl,rfl⟩) ?_ ?_ ?_ ?_
  ·intro j acc τ H3 pd;rw[hPd] at pd;obtain⟨L,_,_,_,hL,rfl,_⟩:=pd;rw[AC];omega
  ·intro j acc τ H3 pd;rw[hPd] at pd;obtain⟨_,_,s3,_⟩:=pd;exact SqL.of (s3 _ _ ox ex2)
  ·intro j y acc τ H3 hy3 pd;rw[hPd] at pd;obtain⟨L,o0',s3,tp3,hL,rfl,rfl⟩:=pd;have hj:=(AI.mp hy3).1;rw[AC] at hj;rw[AL] at hy3;obtain⟨z,_,rfl⟩:=BG.mp hy3;simp only[gb,Fw,Hm,reduceIte];refine ht z H3 _ _ tp3 ω λr H4 s4 tp4=>?_;rw[hPd];exact⟨L++[r],_,s3.trans s4,tp4.le (by show _<=B+200*(i:Int)+2*((j+1:Nat):Int);omega),by rw[A0,hL];rfl,by rw[A4];rfl,rfl⟩
  intro acc τ H3 d pd hd;rw[hPd,AC] at pd;obtain⟨L,o0',s3,tp3,hL,rfl,rfl⟩:=pd;have s4:=au (o:=By (L.map At)) hd;rw[hPc];refine⟨Ms++[L],_,s2.trans (s3.trans s4.x),(tp3.same s4).le (by show _<=B+200*((i+1:Nat):Int);omega),by rw[A0,hm];rfl,?_,rfl⟩;rw[A4];exact(t.j8 (s3.trans s4.x)).append (.cons (.lst (tp3.ne hd) aD (by rw[AC];omega) (kO L)) .nil)
 intro acc τ H2 d pc hd;rw[hPc] at pc;obtain⟨Ms,o0,s2,tp2,hm,t,rfl⟩:=pc;have s3:=au (o:=By acc) hd;have:=t.length;rw[AC] at this;exact q d Ms _ (s2.trans s3.x) ((tp2.same s3).le ω) (tp2.ne hd) (aJ.lst (ok:=(·≠p)) (tp2.ne hd) aD ω (t.same s3))
theorem Rw{n:Nat}{N:Nat->Nat->Int}(h:1<=n):atI ((dZ n N 0).map At) (-1)=ID (.int (N 0 n)):=by
 rw[Ky (by rw[AC,dH];omega),AC,dH];refine bZ ?_;rw[AL,gR ω,show 0+1+(n-0-1)=n by omega];rfl
def lF(rs:List IN)(H H':Hp):Prop:=∀b o,b∉rs->H b=ID o->H' b=ID o
theorem lF.refl{rs:List IN}{H:Hp}:lF rs H H:=λ_ _ _ e=>e
theorem lF.trans{rs:List IN}{H H1 H2:Hp}(a:lF rs H H1)(b:lF rs H1 H2):lF rs H H2:=λc o n e=>b c o n (a c o n e)
theorem lF.upd{rs:List IN}{H:Hp}{a:IN}{o:HO}(h:a∈rs):lF rs H (upd H a o):=λb u n e=>by rw[aH (λz:b=a=>n (by rw[z];exact h))];exact e
theorem lF.adT{rs:List IN}{H H':Hp}{p:IN}{B:Int}(s:lF rs H H')(n:p∉rs)(t:bF H p B):bF H' p B:=by
 obtain⟨a,b,c,e,r⟩:=t.ex;exact⟨a,b,c,s _ _ n e,r⟩
theorem lF.x{rs:List IN}{p:IN}{H0 H H':Hp}(s:lF rs H H')(h0:bG p H0 H)(hr:∀a∈rs,H0 a=IF):bG p H0 H':=λb o n e=>s b o (λz=>by rw[hr b z] at e;cases e) (h0 b o n e)
theorem Lx(n:Nat)(N:Nat->Nat->Int):(jx n N).depth<4:=by
 have h1:=jO (ds:=(BN n).map λa=>AU.list ((dZ n N a).map AU.int)) (k:=2) λd hd=>by
  obtain⟨a,_,rfl⟩:=C9.mp hd;have h2:=jO (ds:=(dZ n N a).map AU.int) (k:=0) λd hd=>by
   obtain⟨i,_,rfl⟩:=C9.mp hd;exact AV _
  show AU.depthAll _+1<=2;omega
 show AU.depthAll _+1<4;omega
end L2
local macro_rules | `(tactic| push_cast) => `(tactic| ((try dsimp only [L2.tV, L2.Q9, L2.Uv, L2.Ij, L2.tOp, L2.tC, L2.Uq, L2.Ou, L2.zJ, L2.xu, L2.K4, L2.tCB, L2.tIf, L2.Yt, L2.tB, L2.Yu, L2.tOr, L2.Ra, L2.K3, L2.rM, L2.gb, L2.rI0, IR, Kx, Hm, set_cons_succ]); try simp only [↓L2.rdy, L2.rdy, ↓reduceIte, reduceCtorEq, Nat.reduceAdd, Nat.reduceSub]))
local macro_rules | `(tactic| push_cast [$ls,*]) => `(tactic| ((try dsimp only [L2.tV, L2.Q9, L2.Uv, L2.Ij, L2.tOp, L2.tC, L2.Uq, L2.Ou, L2.zJ, L2.xu, L2.K4, L2.tCB, L2.tIf, L2.Yt, L2.tB, L2.Yu, L2.tOr, L2.Ra, L2.K3, L2.rM, L2.gb, L2.rI0, IR, Kx, Hm, set_cons_succ]); try simp only [↓L2.rdy, L2.rdy, ↓reduceIte, reduceCtorEq, Nat.reduceAdd, Nat.reduceSub, $ls,*]))
namespace K31
open PySem L2 PyProof.Rows
abbrev q0_:List Str:=["_law_tape_here","_law_many"]
abbrev q1_:List Str:=["_law_stretches_here","_law_weights_here","_law_prices_here","_law_begin","_law_end"]
abbrev q2_:List Str:=["stretches","weights","prices","left"]
abbrev q3_:List Str:=["_law_stretches_here","_law_weights_here","_law_prices_here","_law_label"]
abbrev q4_:List Str:=["_law_stretches_here","_law_weights_here","_law_prices_here","_law_thing"]
abbrev q5_:List Str:=["stretches","weights","prices"]
abbrev q6_:List Str:=["_law_stretches_here","_law_weights_here","_law_prices_here"]
abbrev q7_:List Str:=["stretches","weights","prices","tests","label"]
abbrev q8_:List Str:=["stretches","weights","prices","run"]
abbrev q9_:List Str:=["_law_script","_law_k"]
abbrev q10_:List Str:=["_law_found","_law_due"]
abbrev q11_:List Str:=["_law_tape_here","_law_paper","_law_best"]
abbrev q12_:List Str:=["stretches","weights","prices","thing"]
abbrev q13_:List Str:=["stretches","left"]
abbrev q14_:List Str:=["thing","many"]
abbrev q15_:List Str:=["stretches","tests","label"]
abbrev q16_:List Str:=["weights","prices","left"]
abbrev q17_:List Str:=["ways","numbers","plans"]
abbrev q18_:List Str:=["ways","numbers"]
abbrev q19_:List Str:=["stretch","prices"]
def top(i:Nat):Stmt:=PySem.Challenge.pw_caseways_k31_papers_for_runs.main.body.getD i (.Pass ⟨0,0,0,0⟩)
abbrev BLs:List Str:=["abs","all","any","bool","enumerate","int","isinstance","len","list","max","min","range","reversed","set","sorted","str","sum","tuple","zip"]
theorem WW:("abs" : Str)∈BLs:=by decide +kernel
theorem Nf:("all" : Str)∈BLs:=by decide +kernel
theorem ab9:("any" : Str)∈BLs:=by decide +kernel
theorem rB:("bool" : Str)∈BLs:=by decide +kernel
theorem vL:("enumerate" : Str)∈BLs:=by decide +kernel
theorem uD:("int" : Str)∈BLs:=by decide +kernel
theorem aV:("isinstance" : Str)∈BLs:=by decide +kernel
theorem fX:("len" : Str)∈BLs:=by decide +kernel
theorem iC:("list" : Str)∈BLs:=by decide +kernel
theorem ab8:("max" : Str)∈BLs:=by decide +kernel
theorem uz:("min" : Str)∈BLs:=by decide +kernel
theorem cU:("range" : Str)∈BLs:=by decide +kernel
theorem yc:("reversed" : Str)∈BLs:=by decide +kernel
theorem WT:("set" : Str)∈BLs:=by decide +kernel
theorem rA:("sorted" : Str)∈BLs:=by decide +kernel
theorem Nb:("str" : Str)∈BLs:=by decide +kernel
theorem qp:("sum" : Str)∈BLs:=by decide +kernel
theorem qm:("tuple" : Str)∈BLs:=by decide +kernel
theorem M9:("zip" : Str)∈BLs:=by decide +kernel
abbrev Cq:List Str:=["_law_script","_law_k"]
abbrev GI_(s:Stmt)(x:Str):Prop:=(aj s).names.lookup x=ID .globalImplicit
abbrev NM_(N:List Str)(s:Stmt)(i:Nat)(x:Str):Prop:=Nm N (aj s) i x
abbrev mG:Stmt:=top 28
theorem Ri:bA Cq q9_ (aj mG):=⟨rfl,rfl,rfl,ψ,rfl,ψ,ψ⟩
theorem Af:NM_ Cq mG 0 "_law_script":=.of ψ
theorem Ae:NM_ Cq mG 1 "_law_k":=.of ψ
theorem Hr:GI_ mG "len":=ψ
theorem T4:Bn "_law_cell_at" := ⟨ψ,ψ⟩
abbrev Ig:List Str:=["_law_script","_law_k","_law_cell"]
abbrev m8:Stmt:=top 29
theorem O7:bA Ig q9_ (aj m8):=⟨rfl,rfl,rfl,ψ,rfl,ψ,ψ⟩
theorem WL:NM_ Ig m8 0 "_law_script":=.of ψ
theorem Ac:NM_ Ig m8 1 "_law_k":=.of ψ
theorem vq:NM_ Ig m8 2 "_law_cell":=.of ψ
theorem Ay:GI_ m8 "_law_cell_at":=ψ
theorem Ax:GI_ m8 "abs":=ψ
theorem Nq:GI_ m8 "int":=ψ
theorem aaN:Bn "_law_tape" := ⟨ψ,ψ⟩
abbrev w6:List Str:=["_law_tape_here","_law_many","_law_found","_law_prime","_law_once"]
abbrev m9:Stmt:=top 30
theorem uZ:bA w6 q0_ (aj m9):=⟨rfl,rfl,rfl,ψ,rfl,ψ,ψ⟩
theorem dJ:NM_ w6 m9 0 "_law_tape_here":=.of ψ
theorem pW:NM_ w6 m9 1 "_law_many":=.of ψ
theorem pU:NM_ w6 m9 2 "_law_found":=.of ψ
theorem JD:NM_ w6 m9 3 "_law_prime":=.of ψ
theorem Ad:NM_ w6 m9 4 "_law_once":=.of ψ
theorem Hq:GI_ m9 "_law_take":=ψ
theorem cJ:Bn "_law_take" := ⟨ψ,ψ⟩
section
variable {P:A1}{w:BD}{K:AF}{mg:Str->Option Ap}{base:Heap}{f:IN}{fd:D3}{bs:List Str}
theorem aac(hB:∀x:Str,x∈BLs->mg x=IF)(F:Fun K "_law_cell_at" "_law_cell_at" mG f fd):dw P w K mg base CX0 1 f fd q9_ (U7 K):=by
 refine F.okz Ri λcdv A outer s H vs Q E hr h=>?_;obtain⟨a,ns,k,rfl,hS,h0,q⟩:=h;refine⟨_,(aN (bf (z7 (b7 aaZ (ao Ae) (bB kJ Hr (hB "len" fX) B9 fY (ak (ao Af) aq Z) Z Z) (bC _)) (aR Qi (ao Af) (ao Ae) (λ_ _=>rfl)) aA))),?_⟩;push_cast;refine⟨_,.inl hS,?_⟩;split
 ·rename_i c;rw[AC] at c;have hk:k.toNat<ns.length:=ω;have ek:k=((k.toNat:Nat):Int):=ω;have z:atI (ns.map At) ((k.toNat:Nat):Int)=ID (.int ns[k.toNat]):=bZ (by rw[AL,AD hk];rfl);rw[<- ek] at z;unfold ac5;exact⟨a,_,k,_,rfl,rfl,hS,z,q _⟩
 exact q _
theorem Z6(hB:∀x:Str,x∈BLs->mg x=IF)(CZCellAt:Cal P w K mg base "_law_cell_at" 1 q9_ (U7 K))(F:Fun K "_law_tape" "_law_tape" m8 f fd):dw P w K mg base CX0 2 f fd q9_ (U4 K):=by
 refine F.okz O7 λcdv A outer s H vs Q E hr h=>?_;obtain⟨a,ns,k,rfl,hS,h0,h1,q⟩:=h;refine⟨_,(aF (bh vq O7.nd (bw CZCellAt (hr.mono δ) Ay T4 (ak (ao WL) (ak (ao Ac) aq Z) Z) Z Z) Z (.inl Z))
  (aN (bf (eY (ak (aL cO (bB Kq Ax (hB "abs" WW) PyProof.Rows.Boot.«abs» X7 (ak (ao vq) aq Z) Z Z) (rZ oG Nq (hB "int" uD) LS uK (ak (lA adv (bB Kq Ax (hB "abs" WW) PyProof.Rows.Boot.«abs» X7 (ak (ao vq) aq Z) Z Z) (aL uh aA aA) (bC _)) aq Z) Z Z)) (ak (aL jV (aL cO (aL aX (aL aX (aL jV (ao vq) aA) (aL cO (aL cO aA (ao Ac)) (ao Ac))) aA) aA) aA) (ak aA aq Z) Z) Z))))),?_⟩
 push_cast;refine⟨a,ns,k,rfl,hS,h0,λv=>?_⟩;push_cast;refine⟨⟨δ,δ,δ⟩,?_,δ,.inl δ,.inr ω,.inr δ,δ,aO δ,λp hp=>q p _ hp (au hp) ⟨_,_,_,aD,?_,?_,?_,GA _,GA _⟩⟩
 ·right;generalize (if v<0 then -v else v)=u;split <;> decide
 ·refine mul_nonneg ?_ ?_
  ·split <;> omega
  generalize (if v<0 then -v else v)=u;split <;> decide
 ·exact FV _ δ
 exact EM _ δ
theorem PB{n:Nat}(hB:∀x:Str,x∈BLs->mg x=IF)(hn:n<=10)(CZTake:Cal P w K mg base "_law_take" n q0_ (lV n))(F:Fun K "_law_take" "_law_take" m9 f fd):dw P w K mg base CX0 (n+1) f fd q0_ (lV (n+1)):=by
 refine F.okz uZ λcdv A outer s H vs Q E hr h=>?_;obtain⟨p,m,B,rfl,⟨a,b,c,hp,ha,hb0,hb1,hc0,hc1⟩,hB0,hm0,hm1,hn1,hn2,q⟩:=h;refine⟨_,(aF (eX (b7 Ej (aR bJ (ao dJ) aA (λ_ _=>rfl)) aA (bC _)) (aF (bh pU uZ.nd (aL jV (aR bJ (ao dJ) aA (λ_ _=>rfl)) (ao pW)) Z (.inl Z))
  (aF (pN (aL Js (aR bJ (ao dJ) aA (λ_ _=>rfl)) (ao pW)) (Gs (ao dJ) aA O5) Z Z Z)
  (aN (bf (ao pU))))) cP)
  (aF (pN (aL aX (aR bJ (ao dJ) aA (λ_ _=>rfl)) aA) (Gs (ao dJ) aA O5) Z Z Z)
  (aF (bh JD uZ.nd (aR bJ (eY (ak aA (ak aA (ak aA (ak aA (ak aA (ak aA (ak aA aq Z) Z) Z) Z) Z) Z) Z)) (aL jV (aR bJ (ao dJ) aA (λ_ _=>rfl)) aA) (λ_ _=>rfl)) Z (.inl Z))
  (aF (bh Ad uZ.nd (aL jV (aL cO (aL aX (aR bJ (ao dJ) aA (λ_ _=>rfl)) (aL cO aA (aR bJ (ao dJ) aA (λ_ _=>rfl)))) (aL aX aA (aR bJ (ao dJ) aA (λ_ _=>rfl)))) (ao JD)) Z (.inl Z))
  (aF (pN (aL jV (aL aX (aL cO (ao Ad) (aL aX (aL jV (ao Ad) aA) aA)) (aR bJ (ao dJ) aA (λ_ _=>rfl))) aA) (Gs (ao dJ) aA O5) Z Z Z)
  (aF (bh pU uZ.nd (aL Js (aL jV (aL cO (aR bJ (ao dJ) aA (λ_ _=>rfl)) (aL aX (aL jV (aR bJ (ao dJ) aA (λ_ _=>rfl)) aA) aA)) aA) aA) Z (.inl Z))
  (aN (bf (z7 (b7 aaZ (ao pW) (aL uh aA aA) (bC _)) (aL jV (ao pU) (ao pW)) (aL jV (aL aX (aL cO (ao pU) aA) (bw CZTake (hr.mono ω) Hq cJ (ak (ao dJ) (ak aA aq Z) Z) Z Z)) (ao pW))))))))))),?_⟩
 push_cast[hp];split
 ·refine⟨hm0,⟨hm0,hm1⟩,?_⟩;refine q _ _ (FV _ ω) (EM _ hm0) bG.upd ⟨_,_,_,aD,Int.ediv_nonneg ha ω,hb0,hb1,hc0,ω⟩
 refine⟨aO δ,λp1 hp1=>?_⟩;have np:p≠p1:=λz=>by rw[<- z,aD] at hp1;cases hp1
 obtain⟨v,hv,v0⟩:=abK (c+1);push_cast[hp,aH np,ne_eq,np,not_false_eq_true,hv];have m1:∀x:Int,0<=x%40009/\x%40009<40009:=λx=>⟨FV _ δ,EM _ δ⟩;have m2:∀x:Int,0<=x%1009/\x%1009<1009:=λx=>⟨FV _ δ,EM _ δ⟩;have m3:∀x:Int,0<=x%2147483629/\x%2147483629<2147483629:=λx=>⟨FV _ δ,EM _ δ⟩;refine⟨δ,.inl δ,.inr ω,v0,δ,.inr ?_,δ,δ,.inr ?_,δ,δ,δ,?_⟩
 ·have:=m1 ((b+39373*(c+1))*(48271+(c+1))%v);omega
 ·have:=m2 (((b+39373*(c+1))*(48271+(c+1))%v*((b+39373*(c+1))*(48271+(c+1))%v%40009+7)+(c+1))%2147483629);omega
 have e3:=m3 ((b+39373*(c+1))*(48271+(c+1))%v*((b+39373*(c+1))*(48271+(c+1))%v%40009+7)+(c+1));generalize ((b+39373*(c+1))*(48271+(c+1))%v*((b+39373*(c+1))*(48271+(c+1))%v%40009+7)+(c+1))%2147483629=y at e3 |-;have sx:bG p H (upd (upd (upd H p (By [At a,At b,At (c+1)])) p1 (By [At 2147483587,At 2147483579,At 2147483563,At 2147483549,At 2147483543,At 2147483497,At 2147483489])) p (By [At a,At y,At (c+1)])):=
  (bG.upd.trans (au hp1).x).trans bG.upd
 have tp:bF (upd (upd (upd H p (By [At a,At b,At (c+1)])) p1 (By [At 2147483587,At 2147483579,At 2147483563,At 2147483549,At 2147483543,At 2147483497,At 2147483489])) p (By [At a,At y,At (c+1)])) p (B+1):=
  ⟨a,y,c+1,aD,ha,e3.1,e3.2,ω,ω⟩
 generalize upd (upd (upd H p (By [At a,At b,At (c+1)])) p1 (By [At 2147483587,At 2147483579,At 2147483563,At 2147483549,At 2147483543,At 2147483497,At 2147483489])) p (By [At a,At y,At (c+1)])=H2 at sx tp |-;split
 ·refine⟨hm0,q _ _ (FV _ ω) (EM _ hm0) sx ?_⟩;obtain⟨a',b',c',z1,z2,z3,z4,z5,z6⟩:=tp;exact⟨a',b',c',z1,z2,z3,z4,z5,ω⟩
 rename_i hm;have hm':1000000<=m:=by
  rw[show(10:Int)^B6 6=1000000 from by decide] at hm;omega
 have hn3:=hn2 hm';refine⟨.inr δ,p,99991,B+1,rfl,tp,ω,δ,δ,ω,λz=>absurd z δ,λr H3 r0 r1 s3 t3=>?_⟩;push_cast;refine⟨hm0,q _ _ (FV _ ω) (EM _ hm0) (sx.trans s3) ?_⟩;obtain⟨a',b',c',z1,z2,z3,z4,z5,z6⟩:=t3;exact⟨a',b',c',z1,z2,z3,z4,z5,ω⟩
theorem Q8:dw P w K mg base CX0 0 f fd q0_ (lV 0):=by
 have no:∀vs H Q E,¬lV 0 vs H Q E:=λvs H Q E h=>by
  obtain⟨p,m,B,_,_,_,_,_,h1,_⟩:=h;omega
 exact⟨λvs H Q E h=>absurd h (no vs H Q E),λA outer s H args us vs Q E _ _ _ _ h=>absurd h (no vs H Q E)⟩
abbrev lH:List Str:=["stretches","left"]
abbrev gn:Stmt:=top 5
theorem yC:bA lH q13_ (aj gn):=⟨rfl,rfl,rfl,ψ,rfl,ψ,ψ⟩
theorem mQ:NM_ lH gn 0 "stretches":=.of ψ
theorem mO:NM_ lH gn 1 "left":=.of ψ
theorem zj:Bn "numbers_across" := ⟨ψ,ψ⟩
abbrev Fq:List Str:=["thing"]
abbrev jr:Stmt:=top 1
theorem K8:bA Fq ["thing"] (aj jr):=⟨rfl,rfl,rfl,ψ,rfl,ψ,ψ⟩
theorem xY:NM_ Fq jr 0 "thing":=.of ψ
theorem Bt:GI_ jr "bool":=ψ
theorem Dk:GI_ jr "int":=ψ
theorem jN:GI_ jr "isinstance":=ψ
theorem N8:Bn "is_number" := ⟨ψ,ψ⟩
theorem Hz:Bn "MOST_IN_MASK" := ⟨ψ,ψ⟩
theorem Dp:Bn "MOST_IN_TABLE" := ⟨ψ,ψ⟩
theorem QJ:Bn "TESTS" := ⟨ψ,ψ⟩
theorem RT(hB:∀x:Str,x∈BLs->mg x=IF)(F:Fun K "numbers_across" "numbers_across" gn f fd):dw P w K mg base CX0 1 f fd q13_ Ip:=by
 refine F.okz yC λcdv A outer s H vs Q E hr h=>?_;obtain⟨s,l,ok,ss,left,rfl,ts,tl,lf,q⟩:=h;refine⟨_,(aN (bf (aL aX (aL dI (aR bJ (aR bJ (ao mQ) (aR bJ (ao mO) (xJ pG aA) (λ_ _=>rfl)) (λ_ _=>rfl)) aA (λ_ _=>rfl)) (aR bJ (aR bJ (ao mQ) (aR bJ (ao mO) aA (λ_ _=>rfl)) (λ_ _=>rfl)) aA (λ_ _=>rfl))) aA))),?_⟩;obtain⟨la,rfl,_,el,_⟩:=tl.left;replace el:H la=ID (.lst (nv left)):=el;cases ts with
 | lst o es zs tss=>
  obtain⟨k1,e1,m1,a1⟩:=aae lf.ne;obtain⟨k0,e0,m0,a0⟩:=aaf lf.ne;obtain⟨p1,x1,y1⟩:=tss.stN (lf.lt _ m1);obtain⟨p0,x0,y0⟩:=tss.stN (lf.lt _ m0);unfold fM at q;rw[e1,e0] at q;push_cast[el,a1,a0,es,x1,x0,y1,y0];exact q
theorem Wx(hB:∀x:Str,x∈BLs->mg x=IF)(F:Fun K "is_number" "is_number" jr f fd):dw P w K mg base CX0 1 f fd ["thing"] U5:=by
 refine F.okz K8 λcdv A outer s H vs Q E hr h=>?_;obtain⟨v,ok,d,rfl,t,q⟩:=h;refine⟨_,(aN (bf (pO (bB bQ jN (hB "isinstance" aV) BI aW (ak (ao xY) (ak (gM "int" Dk (hB "int" uD) LS uK) aq Z) Z) Z Z) (uc (Lk (bB bQ jN (hB "isinstance" aV) BI aW (ak (ao xY) (ak (gM "bool" Bt (hB "bool" rB) LZ rH) aq Z) Z) Z Z)))))),?_⟩;cases t with
 | non=>push_cast;exact q
 | bl b=>push_cast;exact q
 | int i=>push_cast;exact q
 | str x=>push_cast;exact q
 | lst o e z t=>push_cast[e];exact q
 | tup o e z t=>push_cast[e];exact q
abbrev qW:List Str:=["stretches","left"]
abbrev jK:Stmt:=top 6
theorem FZ:bA qW q13_ (aj jK):=⟨rfl,rfl,rfl,ψ,rfl,ψ,ψ⟩
theorem CT:NM_ qW jK 1 "left":=.of ψ
theorem Ia:Bn "labels_left" := ⟨ψ,ψ⟩
theorem Z8(hB:∀x:Str,x∈BLs->mg x=IF)(F:Fun K "labels_left" "labels_left" jK f fd):dw P w K mg base CX0 1 f fd q13_ U6:=by
 refine F.okz FZ λcdv A outer s H vs Q E hr h=>?_;obtain⟨s,l,ok,ss,left,rfl,ts,tl,lf,q⟩:=h;refine⟨_,(aN (bf (cR (NX:=qW) (kX:=(aj jK).names) ["k","stretches"] [IF,ID 0] Z Z ⟨rfl,ψ,ψ,ψ,ψ⟩ Z (bW (ao CT)) (λ_ _ _ _ _=>(aY 0 (show A9 (["k","stretches"]:List Str) from by decide +kernel) Z (B8 Z))) (λ_ _ _ _ _=>cB) (λ_ _ _ _ _=>(aR bJ (aR bJ (aQ 1) (aQ 0) (λ_ _=>rfl)) aA (λ_ _=>rfl)))))),?_⟩;obtain⟨la,rfl,_,el,hll⟩:=tl.left;replace el:H la=ID (.lst (nv left)):=el;cases ts with
 | lst o es zs tss=>
  push_cast;refine cN λR hR=>?_;push_cast[el];refine Fd (lbl ss) (λτ=>∃o0,τ=[o0,ID (.ref _)]) hR el hll ⟨_,rfl⟩ ?_ ?_
  ·rintro i k τ acc Pn hk ⟨o0,rfl⟩ hN;obtain⟨p1,x1,y1⟩:=tss.stN (lf.lt _ (A8 hk));push_cast[es,x1,y1];exact hN _ ⟨_,rfl⟩
  intro d hd;exact q d hd
end
abbrev qU:List Str:=["stretch","prices"]
abbrev jJ:Stmt:=top 11
theorem FW:bA qU q19_ (aj jJ):=⟨rfl,rfl,rfl,ψ,rfl,ψ,ψ⟩
theorem tD:NM_ qU jJ 0 "stretch":=.of ψ
theorem sY:NM_ qU jJ 1 "prices":=.of ψ
theorem Hy:Bn "word_of_test" := ⟨ψ,ψ⟩
abbrev cH:List Str:=["stretches","weights","prices","left","ranked","k","word","other"]
abbrev bH:Stmt:=top 12
theorem gj:bA cH q2_ (aj bH):=⟨rfl,rfl,rfl,ψ,rfl,ψ,ψ⟩
theorem yH:NM_ cH bH 0 "stretches":=.of ψ
theorem yG:NM_ cH bH 1 "weights":=.of ψ
theorem jY:NM_ cH bH 2 "prices":=.of ψ
theorem yF:NM_ cH bH 3 "left":=.of ψ
theorem jX:NM_ cH bH 4 "ranked":=.of ψ
theorem iw:NM_ cH bH 5 "k":=.of ψ
theorem jW:NM_ cH bH 6 "word":=.of ψ
theorem oM:NM_ cH bH 7 "other":=.of ψ
theorem qF:GI_ bH "sorted":=ψ
theorem mz:GI_ bH "word_of_test":=ψ
theorem Ca:Bn "tests_in_order" := ⟨ψ,ψ⟩
abbrev uQ:List Str:=["stretches","tests","label","plan","word","k"]
abbrev lW:Stmt:=top 13
theorem u9:bA uQ q15_ (aj lW):=⟨rfl,rfl,rfl,ψ,rfl,ψ,ψ⟩
theorem WN:NM_ uQ lW 0 "stretches":=.of ψ
theorem WM:NM_ uQ lW 1 "tests":=.of ψ
theorem JR:NM_ uQ lW 2 "label":=.of ψ
theorem vJ:NM_ uQ lW 3 "plan":=.of ψ
theorem JQ:NM_ uQ lW 4 "word":=.of ψ
theorem Ak:NM_ uQ lW 5 "k":=.of ψ
theorem yW:GI_ lW "reversed":=ψ
theorem aaO:Bn "row_by" := ⟨ψ,ψ⟩
theorem st5{zs:List Int}(h:zs.length=5):∃a b c d e,zs=[a,b,c,d,e]:=by
 match zs,h with
 | [a,b,c,d,e],_=>exact⟨a,b,c,d,e,rfl⟩
section
variable {P:A1}{w:BD}{K:AF}{mg:Str->Option Ap}{base:Heap}{f:IN}{fd:D3}{bs:List Str}
theorem Ws(F:Fun K "word_of_test" "word_of_test" jJ f fd):dw P w K mg base CX0 1 f fd q19_ Ox:=by
 refine F.okz FW λcdv A outer s H vs Q E hr h=>?_;obtain⟨a,t,ss,zs,k,rfl,ea,⟨et,hz,hb⟩,q⟩:=h;refine⟨_,(aF (eX (CN (Lj (b7 (jy hr.cM) (aR bJ (ao tD) aA (λ_ _=>rfl)) (aR bJ (ao tD) aA (λ_ _=>rfl)) (bC _)) (Gn (b7 Jr (aR bJ (ao sY) aA (λ_ _=>rfl)) (aR bJ (ao sY) aA (λ_ _=>rfl)) (bC _))))) (aN (bf jT)) cP)
  (aN (bf jT))),?_⟩
 obtain⟨z0,z1,z2,z3,z4,rfl⟩:=st5 hz;replace et:H t=ID (.tup [.int z0,.int z1,.int z2,.int z3,.int z4]):=et;push_cast[ea,et];split
 ·rename_i c1;split
  ·rename_i c2;rw[(zE (ss:=ss) (k:=k) (show isT ss [z0,z1,z2,z3,z4] k=true by unfold isT;rw[decide_eq_true c1,decide_eq_true (show [z0,z1,z2,z3,z4].getD 0 0<=[z0,z1,z2,z3,z4].getD 1 0 from c2)];rfl)).1] at q;exact q
  rename_i c2;rw[(uU (ss:=ss) (k:=k) (show ¬isT ss [z0,z1,z2,z3,z4] k=true by unfold isT;rw[decide_eq_false (show ¬ [z0,z1,z2,z3,z4].getD 0 0<=[z0,z1,z2,z3,z4].getD 1 0 from c2),Bool.and_false];decide)).1] at q;exact q
 rename_i c1;rw[(uU (ss:=ss) (k:=k) (show ¬isT ss [z0,z1,z2,z3,z4] k=true by unfold isT;rw[decide_eq_false c1,Bool.false_and];decide)).1] at q;exact q
theorem RM(hB:∀x:Str,x∈BLs->mg x=IF)(CWordOfTest:Cal P w K mg base "word_of_test" 1 q19_ Ox)(F:Fun K "tests_in_order" "tests_in_order" bH f fd):dw P w K mg base CX0 2 f fd q2_ Io:=by
 refine F.okz gj λcdv A outer s H vs Q E hr h=>?_;obtain⟨sa,wa,t,la,xs,ok,ss,ws,zs,left,rfl,es,ts,h60,ew,hwl,h5,el,lf,hl60,q⟩:=h;refine⟨_,(aF (bh jX gj.nd (eY aq) Z (.inl Z))
  (aF (fV BU Z (bW (ao yF)) (dG iw gj.nd (.inl Z))
  (aF (bh jW gj.nd (bw CWordOfTest (hr.mono δ) mz Hy (ak (aR bJ (ao yH) (ao iw) (λ_ _=>rfl)) (ak (ao jY) aq Z) Z) Z Z) Z (.inl Z))
  (aF (bh oM gj.nd (z7 (b7 (jy hr.cM) (ao jW) jT (bC _)) (aR bJ (ao jY) aA (λ_ _=>rfl)) (aR bJ (ao jY) aA (λ_ _=>rfl))) Z (.inl Z))
  (aN (iY (lM (ao jX) (bY (ak (aL cO (xJ pG (aR bJ (ao yG) (ao iw) (λ_ _=>rfl))) (ao oM)) (ak (ao iw) (ak (ao jW) aq Z) Z) Z)) Z Z Z Z Z) Z)))) (λ_=>rfl))
  (aN (bf (cR (NX:=cH) (kX:=(aj bH).names) ["rank","k","word"] [IF,IF,IF] Z Z ⟨rfl,ψ,ψ,ψ,ψ⟩ Z (bW (bB NQ qF (hB "sorted" rA) JU T3 (ak (ao jX) aq Z) Z Z)) (λ_ _ _ _ _=>(fW (n:=3) Z (aP (aY 0 (show A9 (["rank","k","word"]:List Str) from by decide +kernel) Z (B8 Z)) (aP (aY 1 (show A9 (["rank","k","word"]:List Str) from by decide +kernel) Z (B8 Z)) (aP (aY 2 (show A9 (["rank","k","word"]:List Str) from by decide +kernel) Z (B8 Z)) dU Z) Z) Z) Z Z)) (λ_ _ _ _ _=>cB) (λ_ _ _ _ _=>(bY (ak (aQ 2) (ak (aQ 1) aq Z) Z)))))))),?_⟩
 obtain⟨et,hz,hb⟩:=id h5;refine aM λk hk=>?_;push_cast;refine⟨De _,λr hr0=>?_⟩;have s1:=au (o:=By []) hr0;have e1:upd H r (By []) r=ID (.lst (([]:List IN).map AT)):=aD;have nr:∀{a:IN}{o:HO},H a=ID o->a≠r:=λh=>aB h hr0;generalize upd H r (By [])=H1 at s1 e1 |-;subst hk;refine aM λk hk=>?_;have el1:=s1 _ _ el;refine jo λR hR=>?_;push_cast[el1];obtain⟨Pv,hPv⟩:∃Pv:Nat->L2.St->Hp->Prop,Pv=λ(i:Nat) σ H'=>∃(ps:List IN)(o5 o6 o7:Option V),bG r H H'/\H' r=ID (.lst (ps.map AT))/\ps.length=i/\(∀(j:Nat)(p:IN)(k:Nat),ps[j]?=ID p->left[j]?=ID k->p≠r/\H' p=ID (.tup [.int (vM ss ws zs k),.int (k:Int),.str (kZ ss zs k)]))/\σ=[ID (.ref sa),ID (.ref wa),ID (.ref t),ID (.ref la),ID (.ref r),o5,o6,o7]:=⟨_,rfl⟩;refine Bw hR (xs:=nv left) Pv (by rw[hPv];exact⟨[],_,_,_,s1.x,e1,rfl,λj p k h=>(nomatch h),rfl⟩) (λi σ H' _ pv=>?_) ?_ ?_
 ·rw[hPv] at pv;obtain⟨_,_,_,_,s',_⟩:=pv;exact SqL.of (s' _ _ (nr el) el)
 ·intro i x σ H2 hx pv;rw[hPv] at pv;obtain⟨ps,o5,o6,o7,s2,er2,hps,hp2,rfl⟩:=pv;obtain⟨k0,hk0,rfl⟩:=Gw hx;have hin:k0<ss.length:=lf.lt k0 (A8 hk0);have es2:=s2 _ _ (nr es) es;have ew2:=s2 _ _ (nr ew) ew;have et2:=s2 _ _ (nr et) et;obtain⟨p0,x0,y0⟩:=ts.stN hin;have y2:=s2 _ _ (nr y0) y0;have w0:=rW (zs:=ws) (i:=k0) ω;have z0:=rW (zs:=zs) (i:=0) ω;have z1:=rW (zs:=zs) (i:=1) ω;refine aM λk2 hk2=>?_;push_cast[es2,x0];refine⟨p0,t,ss,zs,k0,rfl,y2,⟨et2,hz,hb⟩,?_⟩;subst hk2;have fin:∀o6,3<=AN/\∀p,H2 p=IF->apq (upd H2 p (BY [.int (vM ss ws zs k0),.int (k0:Int),.str (kZ ss zs k0)]) r) r (.ref p) (upd H2 p (BY [.int (vM ss ws zs k0),.int (k0:Int),.str (kZ ss zs k0)])) λ_ H'=>Pv (i+1) [ID (.ref sa),ID (.ref wa),ID (.ref t),ID (.ref la),ID (.ref r),ID (.int (k0:Int)),ID (.str (kZ ss zs k0)),o6] H':=by
   intro o6;refine⟨aO δ,λp hp=>?_⟩;have npr:p≠r:=(aB er2 hp).symm;rw[aH npr.symm,er2,wg];have hi0:=(AI.mp hk0).1;refine⟨BB (by rw[AC];omega) (aO (AV 1000000)),?_⟩;rw[hPv];refine⟨ps++[p],_,_,_,s2.trans ((au hp).x.trans bG.upd),by rw[aD,A4];rfl,by rw[A0,B4];omega,λj p' k' hj hk'=>?_,rfl⟩;rcases FU j ps.length with h|h
   ·rw[EU h] at hj;obtain⟨n1,n2⟩:=hp2 j p' k' hj hk';exact⟨n1,by rw[aH n1,aH (aB n2 hp)];exact n2⟩
   rw[Dx h] at hj;have hj0:j-ps.length=0:=by
    have:=(AI.mp hj).1;simp at this;omega
   rw[hj0] at hj;cases hj;have hji:j=i:=ω;rw[hji,hk0] at hk';cases hk';exact⟨npr,by rw[aH npr,aD]⟩
  have bz0:=h5.bd (i:=0) δ;have bz1:=h5.bd (i:=1) δ;refine aM λk2 hk2=>?_;have kT:-(ws.getD k0 0)*ug ss zs k0=vM ss ws zs k0:=rfl;by_cases c:isT ss zs k0=true
  ·obtain⟨q1,q2,_⟩:=zE c;rw[q2] at kT;rw[q1] at fin |-;push_cast[et2,z1];subst hk2;push_cast[ew2,w0,er2];refine⟨_,z1,?_⟩;push_cast[er2,ew2,w0,kT];exact⟨.inr ⟨ω,ω⟩,fin _⟩
  obtain⟨q1,q2,_⟩:=uU c;rw[q2] at kT;rw[q1] at fin |-;push_cast[et2,z0];subst hk2;push_cast[ew2,w0,er2];rw[if_neg ψ];refine⟨_,z0,?_⟩;push_cast[er2,ew2,w0,kT];exact⟨.inr ⟨ω,ω⟩,fin _⟩
 intro σ H2 pv;rw[hPv] at pv;obtain⟨ps,o5,o6,o7,s2,er2,hps,hp2,rfl⟩:=pv;rw[pR] at hps;show k _ _;subst hk;push_cast;refine cN λR2 hR2=>?_;push_cast;have at':∀{j:Nat}{p:IN},ps[j]?=ID p->∃k,left[j]?=ID k/\k<ss.length:=λ{j p} hj=>by
  have h1:=(AI.mp hj).1;exact⟨left[j]'ω,AD ω,lf.lt _ (D7 _)⟩
 have hkey:∀(j:Nat)(p:IN)(k:Nat),ps[j]?=ID p->left[j]?=ID k->eZ H2 p=(vM ss ws zs k,(k:Int)):=λj p k hj hk=>Ss (hp2 j p k hj hk).2;have hall:=Eg (g:=λk=>(vM ss ws zs k,(k:Int))) hps hkey;have hrk:ps.map (rkT (eZ H2))=left.map (iR ss ws zs):=by
  have e1:ps.map (rkT (eZ H2))=(ps.map (eZ H2)).map λx=>64*x.1+x.2:=by rw[F7];rfl
  rw[e1,hall,F7];rfl
 have hno:ps.map (λp=>(eZ H2 p).2.toNat)=left:=by
  have e1:ps.map (λp=>(eZ H2 p).2.toNat)=(ps.map (eZ H2)).map λx=>x.2.toNat:=by rw[F7];rfl
  rw[e1,hall,F7];have:((λx:Int×Int=>x.2.toNat)∘λ(j:Nat)=>(vM ss ws zs j,(j:Int)))=id:=by
   funext j;rfl
  rw[this,List.map_id]
 refine⟨r,ps,eZ H2,rfl,er2,ω,λp hp=>?_,by rw[hrk];exact tY lf.up λk hk=>by have:=lf.lt k hk;omega,λdd qs hdd hqp hqs=>?_⟩
 ·obtain⟨j,hj⟩:=Fa.mp hp;obtain⟨k,hk,hks⟩:=at' hj;rw[hkey j p k hj hk];exact⟨⟨_,(hp2 j p k hj hk).2⟩,Int.natCast_nonneg _,by show(k:Int)<64;omega⟩
 have hord:(qs.map λp=>(eZ H2 p).2.toNat).Perm left:=by
  have:=hqp.map λp=>(eZ H2 p).2.toNat;rw[hno] at this;exact this
 have hq1:∀q∈qs,∃j:Nat,j<ss.length/\(eZ H2 q).2.toNat=j/\rkT (eZ H2) q=iR ss ws zs j/\H2 q=ID (.tup [.int (vM ss ws zs j),.int (j:Int),.str (kZ ss zs j)]):=λq hq=>by
  obtain⟨j,hj⟩:=Fa.mp (hqp.mem_iff.mp hq);obtain⟨k,hk,hks⟩:=at' hj;refine⟨k,hks,?_,?_,(hp2 j q k hj hk).2⟩
  ·rw[hkey j q k hj hk];rfl
  unfold rkT;rw[hkey j q k hj hk];rfl
 have hrank:(qs.map λp=>(eZ H2 p).2.toNat).map (iR ss ws zs)=qs.map (rkT (eZ H2)):=by
  rw[F7];refine DZ λq hq=>?_;obtain⟨j,_,e1,e2,_⟩:=hq1 q hq;show iR ss ws zs (eZ H2 q).2.toNat=_;rw[e1,e2]
 have s3:=au (o:=By (qs.map AT)) hdd;have e3:upd H2 dd (By (qs.map AT)) dd=_:=aD;generalize upd H2 dd (By (qs.map AT))=H3 at s3 e3 |-;push_cast[e3];have hql:qs.length=left.length:=by rw[hqp.length_eq,hps]
 obtain⟨ord,hordE⟩:∃ord,ord=qs.map λp=>(eZ H2 p).2.toNat:=⟨_,rfl⟩;rw[<- hordE] at hord hrank;obtain⟨Pc,hPc⟩:∃Pv:Nat->List V->L2.St->Hp->Prop,Pv=λ(i:Nat) acc τ H'=>∃(o1 o2 o3:Option V),Same H3 H'/\aG (λ_=>True) H' acc ((ord.take i).map (Oq ss zs))/\τ=[o1,o2,o3]:=⟨_,rfl⟩;refine iQ hR2 (xs:=qs.map AT) (aO (by rw[AC];omega)) Pc (by rw[hPc];exact⟨IF,IF,IF,Same.refl _,.nil,rfl⟩) ?_ ?_ ?_ ?_
 ·intro i acc τ H4 pc;rw[hPc] at pc;obtain⟨_,_,_,_,t4,_⟩:=pc;have:=t4.length;rw[AC,FS] at this;omega
 ·intro i acc τ H4 pc;rw[hPc] at pc;obtain⟨_,_,_,s4,_,_⟩:=pc;exact SqL.of (s4 _ _ e3)
 ·intro i x acc τ H4 hx pc;rw[hPc] at pc;obtain⟨o1,o2,o3,s4,t4,rfl⟩:=pc;rw[AL] at hx;obtain⟨q0,hq0,rfl⟩:=BG.mp hx;obtain⟨j,hj,e1,_,eq0⟩:=hq1 q0 (A8 hq0);have eq4:=s4 _ _ (s3 _ _ eq0);push_cast[eq4];refine⟨aO δ,λp4 hp4=>?_⟩;rw[hPc];refine⟨_,_,_,s4.trans (au hp4),?_,rfl⟩;have ho:ord[i]?=ID j:=by rw[hordE,AL,hq0,<- e1];rfl
  rw[take_add_one,ho,A4];exact(t4.same (au hp4)).append (.cons (.tup trivial aD (by show 2<=1000000;decide) (.cons (.str _) (.cons (.int _) .nil))) .nil)
 intro acc τ H4 d4 pc hd4;rw[hPc] at pc;obtain⟨o1,o2,o3,s4,t4,rfl⟩:=pc;have hol:ord.length=left.length:=by rw[hordE,AC];exact hql
 rw[Ex (by rw[AC];omega)] at t4;have htl:=t4.length;rw[AC] at htl;exact q d4 ord _ ((O8 s2 hr0).trans (s3.trans (s4.trans (au hd4)))) hord (by rw[hrank];exact hqs) (.lst trivial aD ω (t4.same (au hd4)))
theorem Wv(hB:∀x:Str,x∈BLs->mg x=IF)(F:Fun K "row_by" "row_by" lW f fd):dw P w K mg base CX0 1 f fd q15_ O1:=by
 refine F.okz u9 λcdv A outer s H vs Q E hr h=>?_;obtain⟨sa,p,lab,xs,ok,ss,zs,ord,rfl,es,ts,hlt,h60,tp,q⟩:=h;refine⟨_,(aF (bh vJ u9.nd (bY (ak jT (ak (ao JR) aq Z) Z)) Z (.inl Z))
  (aF (fV BU Z (abx yW (hB "reversed" yc) (ak (ao WM) aq Z)) (fW (n:=2) Z (aP (dG JQ u9.nd (.inl Z)) (aP (dG Ak u9.nd (.inl Z)) dU Z) Z) Z Z)
  (aN (eX (b7 (jU hr.cM) (aR bJ (aR bJ (ao WN) (ao Ak) (λ_ _=>rfl)) aA (λ_ _=>rfl)) (ao JR) (bC _)) (aN (bh vJ u9.nd (bY (ak (ao JQ) (ak (ao Ak) (ak (ao vJ) aq Z) Z) Z)) Z (.inl Z))) cP)) (λ_=>rfl))
  (aN (bf (ao vJ))))),?_⟩
 refine aM λk hk=>?_;push_cast;refine⟨aO δ,λp1 hp1=>?_⟩;have s1:=au (o:=BY [AS "pick",At lab]) hp1;have t1:aJ (λ_=>True) (upd H p1 (BY [AS "pick",At lab])) (.ref p1) (CK ss zs lab []):=.tup trivial aD (by show 2<=1000000;decide) (.cons (.str _) (.cons (.int _) .nil));generalize upd H p1 (BY [AS "pick",At lab])=H1 at s1 t1 |-;subst hk;refine aM λk hk=>?_;refine jo λR hR=>?_;push_cast[acv];cases tp with
 | lst o ep zp tsp=>
  rename_i ys;have hyl:=tsp.length;rw[AC] at hyl;have ep1:=s1 _ _ ep;have es1:=s1 _ _ es;refine⟨ys,SqL.of ep1,?_⟩;obtain⟨Pv,hPv⟩:∃Pv:Nat->L2.St->Hp->Prop,Pv=λ(i:Nat) σ H'=>∃(v:V)(o4 o5:Option V),Same H1 H'/\aJ (λ_=>True) H' v (CK ss zs lab ((ord.drop (ord.length-i)).filter λk=>decide ((fC ss k).2.2≠lab)))/\σ=[ID (.ref sa),ID (.ref p),ID (.int lab),ID v,o4,o5]:=⟨_,rfl⟩;refine adF hR (xs:=ys) Pv (by rw[hPv];exact⟨_,_,_,Same.refl _,by rw[Nat.sub_zero,List.drop_length];exact t1,rfl⟩) (λi σ H' pv=>?_) ?_ ?_
  ·rw[hPv] at pv;obtain⟨_,_,_,s',_⟩:=pv;exact SqL.of (s' _ _ ep1)
  ·intro i x σ H2 hx pv;rw[hPv] at pv;obtain⟨v,o4,o5,s2,tv,rfl⟩:=pv;have hi:i<ys.length:=by
    have:=(AI.mp hx).1;rwa [List.length_reverse] at this
   rw[List.getElem?_reverse hi] at hx;have s12:=s1.trans s2;obtain⟨d,hd,td⟩:=(tsp.same s12).get hx;rw[AL] at hd;obtain⟨k0,hk0,rfl⟩:=BG.mp hd;rw[hyl] at hk0;have hdr:=S7 ω hk0;obtain⟨a0,x0,y0⟩:=(ts.same s12).stN (hlt k0 (A8 hk0));have es2:=s12 _ _ es;cases td with
   | tup o9 e9 z9 t9=>
    cases t9 with
    | cons u1 t9=>
     cases u1;cases t9 with
     | cons u2 t9=>
      cases u2;cases t9;push_cast[e9,es2,x0,y0];by_cases c:(fC ss k0).2.2=lab
      ·rw[decide_eq_true c,if_neg δ,hPv];refine⟨_,_,_,s2,?_,rfl⟩;rw[hdr,LP,if_neg (by simp[c])];exact tv
      rw[decide_eq_false c,if_pos (show(!false)=true from Z)];refine⟨aO δ,λp4 hp4=>?_⟩;rw[hPv];refine⟨_,_,_,s2.trans (au hp4),?_,rfl⟩;rw[hdr,LP,if_pos (by simp[c])];exact .tup trivial aD (by show 3<=1000000;decide) (.cons (.str _) (.cons (.int _) (.cons (tv.same (au hp4)) .nil)))
  intro σ H2 pv;rw[hPv] at pv;obtain⟨v,o4,o5,s2,tv,rfl⟩:=pv;show k _ _;subst hk;push_cast;rw[hyl,sub_self,List.drop_zero] at tv;exact q v _ (s1.trans s2) tv
abbrev gD:List Str:=["stretches","weights","prices","tests","label","waiting","cost","word","k"]
abbrev dB:Stmt:=top 14
theorem jq:bA gD q7_ (aj dB):=⟨rfl,rfl,rfl,ψ,rfl,ψ,ψ⟩
theorem MF:NM_ gD dB 0 "stretches":=.of ψ
theorem Mz:NM_ gD dB 1 "weights":=.of ψ
theorem Mx:NM_ gD dB 2 "prices":=.of ψ
theorem Aj:NM_ gD dB 3 "tests":=.of ψ
theorem Mw:NM_ gD dB 4 "label":=.of ψ
theorem uq:NM_ gD dB 5 "waiting":=.of ψ
theorem uo:NM_ gD dB 6 "cost":=.of ψ
theorem Ai:NM_ gD dB 7 "word":=.of ψ
theorem um:NM_ gD dB 8 "k":=.of ψ
theorem Bp:GI_ dB "TESTS":=ψ
theorem Hs:GI_ dB "sum":=ψ
theorem T6:Bn "row_cost" := ⟨ψ,ψ⟩
abbrev jk:List Str:=["stretches","weights","prices","left","tests","labels"]
abbrev eV:Stmt:=top 15
theorem wC:bA jk q2_ (aj eV):=⟨rfl,rfl,rfl,ψ,rfl,ψ,ψ⟩
theorem Mv:NM_ jk eV 0 "stretches":=.of ψ
theorem Mu:NM_ jk eV 1 "weights":=.of ψ
theorem Mt:NM_ jk eV 2 "prices":=.of ψ
theorem Ah:NM_ jk eV 3 "left":=.of ψ
theorem Mr:NM_ jk eV 4 "tests":=.of ψ
theorem Ag:NM_ jk eV 5 "labels":=.of ψ
theorem yV:GI_ eV "sorted":=ψ
theorem pA:GI_ eV "tests_in_order":=ψ
theorem T5:Bn "rows_for" := ⟨ψ,ψ⟩
theorem Mf(hB:∀x:Str,x∈BLs->mg x=IF){aTests:IN}(cgTests:mg "TESTS" = ID (.ref aTests))(ktTests:KTup K aTests ([("is" : Str),("within" : Str),("below" : Str),("mask" : Str),("table" : Str)].map AS))(F:Fun K "row_cost" "row_cost" dB f fd):dw P w K mg base CX0 1 f fd q7_ DR:=by
 refine F.okz jq λcdv A outer s H vs Q E hr h=>?_;obtain⟨sa,wa,t,p,lab,xs,ok,ss,ws,zs,ord,rfl,es,ts,ew,hwl,⟨et,hz,hzb⟩,hlt,h60,tp,q⟩:=h;refine⟨_,(aF (bh uq jq.nd (bB (iU Z) Hs (hB "sum" qp) KG qQ (ak (cR (NX:=gD) (kX:=(aj dB).names) ["word","k","weights"] [IF,IF,ID 1] Z Z ⟨rfl,ψ,ψ,ψ,ψ⟩ Z (bW (ao Aj)) (λ_ _ _ _ _=>(fW (n:=2) Z (aP (aY 0 (show A9 (["word","k","weights"]:List Str) from by decide +kernel) Z (B8 Z)) (aP (aY 1 (show A9 (["word","k","weights"]:List Str) from by decide +kernel) Z (B8 Z)) dU Z) Z) Z Z)) (λ_ _ _ _ _=>cB) (λ_ _ _ _ _=>(aR bJ (aQ 2) (aQ 1) (λ_ _=>rfl)))) aq Z) Z Z) Z (.inl Z))
  (aF (bh uo jq.nd aA Z (.inl Z))
  (aF (fV BU Z (bW (ao Aj)) (fW (n:=2) Z (aP (dG Ai jq.nd (.inl Z)) (aP (dG um jq.nd (.inl Z)) dU Z) Z) Z Z)
  (aN (eX (b7 (jU hr.cM) (aR bJ (aR bJ (ao MF) (ao um) (λ_ _=>rfl)) aA (λ_ _=>rfl)) (ao Mw) (bC _)) (aF (V1 uo jq.nd (aL cO (aR bJ (ao Mx) (Zh hr.un1 (zx (v:=AT aTests) Bp cgTests Z QJ) (ao Ai)) (λ_ _=>rfl)) (ao uq)) acu)
  (aN (V1 uq jq.nd (aR bJ (ao Mz) (ao um) (λ_ _=>rfl)) acs))) cP)) (λ_=>rfl))
  (aN (bf (ao uo)))))),?_⟩
 have tp0:=tp;cases tp with
 | lst o ep zp tsp=>
  rename_i ys;have hyl:=tsp.length;rw[AC] at hyl;refine aM λk hk=>?_;push_cast;refine cN λR hR=>?_;push_cast[ep];obtain⟨Pc,hPc⟩:∃Pv:Nat->List V->L2.St->Hp->Prop,Pv=λ(i:Nat) acc τ H'=>∃(o0 o1:Option V),H'=H/\acc=((ord.take i).map λk=>ws.getD k 0).map At/\τ=[o0,o1,ID (.ref wa)]:=⟨_,rfl⟩;refine iQ hR (xs:=ys) (aO ω) Pc (by rw[hPc];exact⟨_,_,rfl,rfl,rfl⟩) ?_ ?_ ?_ ?_
  ·intro i acc τ H2 pc;rw[hPc] at pc;obtain⟨_,_,_,rfl,_⟩:=pc;rw[AC,AC];exact CD _ _
  ·intro i acc τ H2 pc;rw[hPc] at pc;obtain⟨_,_,rfl,_⟩:=pc;exact SqL.of ep
  ·intro i x acc τ H2 hx pc;rw[hPc] at pc;obtain⟨o0,o1,rfl,rfl,rfl⟩:=pc;obtain⟨d,hd,td⟩:=tsp.get hx;rw[AL] at hd;obtain⟨k0,hk0,rfl⟩:=BG.mp hd;have hk0l:k0<ws.length:=by rw[hwl];exact hlt k0 (A8 hk0)
   have hat:atI (ws.map At) (k0:Int)=ID (At (ws.getD k0 0)):=bZ (by rw[AL,AD hk0l];simp[hk0l]);cases td with
   | tup o9 e9 z9 t9=>
    cases t9 with
    | cons u1 t9=>
     cases u1;cases t9 with
     | cons u2 t9=>
      cases u2;cases t9;push_cast[e9,ew,hat];rw[hPc];refine⟨_,_,rfl,?_,rfl⟩;rw[take_add_one,hk0,A4,A4];rfl
  intro acc τ H2 d2 pc hd2;rw[hPc] at pc;obtain⟨o0,o1,rfl,rfl,rfl⟩:=pc;rw[hyl,C5];have s2:=au (o:=By ((ord.map λk=>ws.getD k 0).map At)) hd2;have e2:upd H2 d2 (By ((ord.map λk=>ws.getD k 0).map At)) d2=_:=aD;generalize upd H2 d2 (By ((ord.map λk=>ws.getD k 0).map At))=H3 at s2 e2 |-;push_cast[e2];refine⟨_,rfl,?_⟩;clear hR hPc;have esum:(ord.map λk=>ws.getD k 0).sum=sumK ws ord:=rfl;rw[esum];subst hk;refine aM λk hk=>?_;push_cast;subst hk;refine aM λk hk=>?_;refine jo λR hR=>?_;have ep3:=s2 _ _ ep;have es3:=s2 _ _ es;have ew3:=s2 _ _ ew;have et3:=s2 _ _ et;push_cast[ep3];obtain⟨Pv,hPv⟩:∃Pv:Nat->L2.St->Hp->Prop,Pv=λ(i:Nat) σ H'=>∃(W C:Int)(o7 o8:Option V),H'=H3/\vo ss ws zs (sumK ws ord) (iK ss lab ord)=C+vo ss ws zs W (iK ss lab (ord.drop i))/\σ=[ID (.ref sa),ID (.ref wa),ID (.ref t),ID (.ref p),ID (.int lab),ID (.int W),ID (.int C),o7,o8]:=⟨_,rfl⟩;refine Bw (xs:=ys) hR Pv ?_ ?_ ?_ ?_
  ·rw[hPv];exact⟨_,_,_,_,rfl,by rw[List.drop_zero,Int.zero_add],rfl⟩
  ·intro i σ H' _ pv;rw[hPv] at pv;obtain⟨_,_,_,_,rfl,_⟩:=pv;exact SqL.of ep3
  ·intro i x σ H4 hx pv;rw[hPv] at pv;obtain⟨W,C,o7,o8,rfl,hco,rfl⟩:=pv;obtain⟨d,hd,td⟩:=(tsp.same s2).get hx;rw[AL] at hd;obtain⟨k0,hk0,rfl⟩:=BG.mp hd;have hk0s:=hlt k0 (A8 hk0);have hk0l:k0<ws.length:=by rw[hwl];exact hk0s
   have hat:atI (ws.map At) (k0:Int)=ID (At (ws.getD k0 0)):=bZ (by rw[AL,AD hk0l];simp[hk0l]);have hdr:ord.drop i=k0::ord.drop (i+1):=by
    obtain⟨li,e⟩:=AI.mp hk0;rw[IY li,e]
   obtain⟨a0,x0,y0⟩:=(ts.same s2).stN hk0s;cases td with
   | tup o9 e9 z9 t9=>
    cases t9 with
    | cons u1 t9=>
     cases u1;cases t9 with
     | cons u2 t9=>
      cases u2;cases t9;push_cast[e9,es3,x0,y0];by_cases c:(fC ss k0).2.2=lab
      ·rw[decide_eq_true c,if_neg δ,hPv];refine⟨W,C,_,_,rfl,?_,rfl⟩;rw[hco,hdr];unfold iK;rw[LP,if_neg (by simp[c])]
      rw[decide_eq_false c,if_pos (show(!false)=true from Z)];obtain⟨z0,z1,z2,z3,z4,rfl⟩:=st5 hz;replace et3:H4 t=ID (.tup [.int z0,.int z1,.int z2,.int z3,.int z4]):=et3;have hst:vo ss ws [z0,z1,z2,z3,z4] W (iK ss lab (ord.drop i))=W*dX ss [z0,z1,z2,z3,z4] k0+vo ss ws [z0,z1,z2,z3,z4] (W-ws.getD k0 0) (iK ss lab (ord.drop (i+1))):=by
       rw[hdr];unfold iK;rw[LP,if_pos (by simp[c])];rfl
      push_cast[et3,Ux];refine⟨Q7,false,ktTests,ktTests,?_⟩;by_cases c9:isT ss [z0,z1,z2,z3,z4] k0=true
      ·obtain⟨w1,_,w3⟩:=zE c9;rw[w1];refine⟨0,⟨rfl,λm hm=>absurd hm (not_lt_zero _)⟩,_,rfl,?_⟩;push_cast[ew3,hat];refine⟨.inl ⟨?_,?_⟩,?_⟩
       ·have:=hzb z0 ζ;omega
       ·have:=hzb z0 ζ;omega
       rw[hPv];refine⟨_,_,_,_,rfl,?_,rfl⟩;rw[hco,hst,w3];show C+(W*z0+_)=C+z0*W+_;rw[IU W z0];omega
      obtain⟨w1,_,w3⟩:=uU c9;rw[w1];refine⟨1,⟨rfl,λm hm=>?_⟩,_,rfl,?_⟩
      ·have:m=0:=by omega
       rw[this];intro z;exact absurd (Be z) ψ
      push_cast[ew3,hat];refine⟨.inl ⟨?_,?_⟩,?_⟩
      ·have:=hzb z1 ζ;omega
      ·have:=hzb z1 ζ;omega
      rw[hPv];refine⟨_,_,_,_,rfl,?_,rfl⟩;rw[hco,hst,w3];show C+(W*z1+_)=C+z1*W+_;rw[IU W z1];omega
  intro σ H4 pv;rw[hPv] at pv;obtain⟨W,C,o7,o8,rfl,hco,rfl⟩:=pv;subst hk;push_cast;rw[hyl,List.drop_length] at hco;have:vo ss ws zs W (iK ss lab [])=0:=rfl;rw[this,add_zero] at hco;rw[hco] at q;exact q _ s2
theorem Ma(hB:∀x:Str,x∈BLs->mg x=IF)(CTestsInOrder:Cal P w K mg base "tests_in_order" 2 q2_ Io)(CRowCost:Cal P w K mg base "row_cost" 1 q7_ DR)(CRowBy:Cal P w K mg base "row_by" 1 q15_ O1)(F:Fun K "rows_for" "rows_for" eV f fd):dw P w K mg base CX0 3 f fd q2_ OJ:=by
 refine F.okz wC λcdv A outer s H vs Q E hr h=>?_;obtain⟨sa,wa,t,la,xs,ok,ss,ws,zs,left,rfl,es,ts,h60,ew,hwl,h5,el,lf,hl60,q⟩:=h;refine⟨_,(aF (bh Mr wC.nd (bw CTestsInOrder (hr.mono δ) pA Ca (ak (ao Mv) (ak (ao Mu) (ak (ao Mt) (ak (ao Ah) aq Z) Z) Z) Z) Z Z) Z (.inl Z))
  (aF (bh Ag wC.nd (aby (NX:=jk) (kX:=(aj eV).names) ["k","stretches"] [IF,ID 0] yV (hB "sorted" rA) Z Z ⟨rfl,ψ,ψ,ψ,ψ⟩ Z (bW (ao Ah)) (λ_ _ _ _ _=>(aY 0 (show A9 (["k","stretches"]:List Str) from by decide +kernel) Z (B8 Z))) (λ_ _ _ _ _=>cB) (λ_ _ _ _ _=>(aR bJ (aR bJ (aQ 1) (aQ 0) (λ_ _=>rfl)) aA (λ_ _=>rfl)))) Z (.inl Z))
  (aN (bf (cR (NX:=jk) (kX:=(aj eV).names) ["label","stretches","weights","prices","tests"] [IF,ID 0,ID 1,ID 2,ID 4] Z Z ⟨rfl,ψ,ψ,ψ,ψ⟩ Z (bW (ao Ag)) (λ_ _ _ _ _=>(aY 0 (show A9 (["label","stretches","weights","prices","tests"]:List Str) from by decide +kernel) Z (B8 Z))) (λ_ _ _ _ _=>cB) (λ_ _ _ _ _=>(bY (ak (bw CRowCost (hr.mono δ) Z T6 (ak (aQ 1) (ak (aQ 2) (ak (aQ 3) (ak (aQ 4) (ak (aQ 0) aq Z) Z) Z) Z) Z) Z Z) (ak (bw CRowBy (hr.mono δ) Z aaO (ak (aQ 1) (ak (aQ 4) (ak (aQ 0) aq Z) Z) Z) Z Z) aq Z) Z)))))))),?_⟩
 refine aM λk hk=>?_;push_cast;refine⟨sa,wa,t,la,xs,ok,ss,ws,zs,left,rfl,es,ts,h60,ew,hwl,h5,el,lf,hl60,λp ord H1 s1 hpm hup tp=>?_⟩;push_cast;have ol:ord.length=left.length:=hpm.length_eq;have olt:∀k∈ord,k<ss.length:=λk hk=>lf.lt k (hpm.mem_iff.mp hk);subst hk;refine aM λk hk=>?_;refine acY λR hR=>?_;have el1:=s1 _ _ el;have es1:=s1 _ _ es;push_cast[el1];obtain⟨Pv,hPv⟩:∃Pv:Nat->List Int->L2.St->Hp->Prop,Pv=λ(i:Nat) acc τ H'=>∃(o0:Option V),H'=H1/\acc.length<=i/\(∀l,l∈acc ↔ ∃k∈left.take i,lbl ss k=l)/\τ=[o0,ID (.ref sa)]:=⟨_,rfl⟩;have hnl:(nv left).length=left.length:=pR left;refine acX hR (xs:=nv left) ω Pv (by rw[hPv];exact⟨_,rfl,AV _,λl=>⟨λz=>(by cases z),λ⟨k,z,_⟩=>(by cases z)⟩,rfl⟩) ?_ ?_ ?_ ?_
 ·intro i acc τ H2 pv;rw[hPv] at pv;exact pv.choose_spec.2.1
 ·intro i acc τ H2 pv;rw[hPv] at pv;obtain⟨_,rfl,_⟩:=pv;exact SqL.of el1
 ·intro i x acc τ H2 hx pv;rw[hPv] at pv;obtain⟨o0,rfl,hal,hmem,rfl⟩:=pv;obtain⟨k0,hk0,rfl⟩:=Gw hx;have li:k0<ss.length:=lf.lt k0 (A8 hk0);obtain⟨a0,x0,y0⟩:=(ts.same s1).stN li;push_cast[es1,x0,y0];rw[hPv];refine⟨_,rfl,?_,λl=>?_,rfl⟩
  ·have:=Cj acc (fC ss k0).2.2;split at this <;> omega
  rw[Ye,hmem,take_snoc hk0];constructor
  ·rintro(⟨k,z1,z2⟩|z)
   ·exact⟨k,EB _ z1,z2⟩
   exact⟨k0,by simp,z.symm⟩
  rintro⟨k,z1,z2⟩;rcases Cf.mp z1 with z1|z1
  ·exact .inl ⟨k,z1,z2⟩
  rw[AJ.mp z1] at z2;exact .inr z2.symm
 intro acc τ H2 d2 ys pv hd2 hp hu nd;rw[hPv] at pv;obtain⟨o0,rfl,hal,hmem,rfl⟩:=pv;rw[hnl] at hal hmem;rw[C5] at hmem;have hL:tR ss left ys:=⟨Av (hu ω) (hp.nodup_iff.mpr nd),λl=>hp.mem_iff.trans (hmem l)⟩;have hyl:ys.length<=60:=by have:=hp.length_eq;omega
 have s2:=au (o:=By (ys.map At)) hd2;have e2:upd H2 d2 (By (ys.map At)) d2=_:=aD;have s02:=s1.trans s2;generalize upd H2 d2 (By (ys.map At))=H3 at s2 e2 s02 |-;clear hR hPv;push_cast;subst hk;refine cN λR hR=>?_;push_cast[e2];obtain⟨Pc,hPc⟩:∃Pv:Nat->List V->L2.St->Hp->Prop,Pv=λ(i:Nat) acc τ H'=>∃(tl:List IN)(o0:Option V),Same H3 H'/\acc=tl.map AT/\tl.length=i/\(∀(j:Nat) u lab,tl[j]?=ID u->ys[j]?=ID lab->∃v,H' u=ID (.tup [.int (gB ss ws zs (sumK ws left) ord lab),v])/\aJ (λ_=>True) H' v (CK ss zs lab (iK ss lab ord)))/\τ=[o0,ID (.ref sa),ID (.ref wa),ID (.ref t),ID (.ref p)]:=⟨_,rfl⟩;refine iQ hR (xs:=ys.map At) (aO (by rw[AC];omega)) Pc (by rw[hPc];exact⟨[],_,Same.refl _,rfl,rfl,λj u lab h=>(by cases h),rfl⟩) ?_ ?_ ?_ ?_
 ·intro i acc τ H4 pc;rw[hPc] at pc;obtain⟨tl,_,_,rfl,h1,_⟩:=pc;rw[AC];omega
 ·intro i acc τ H4 pc;rw[hPc] at pc;obtain⟨tl,_,s4,_⟩:=pc;exact SqL.of (s4 _ _ e2)
 ·intro i x acc τ H4 hx pc;rw[hPc] at pc;obtain⟨tl,o0,s4,rfl,htl,hall,rfl⟩:=pc;rw[AL] at hx;obtain⟨lab,hlab,rfl⟩:=BG.mp hx;have s04:=s02.trans s4;have tp4:=(tp.same s2).same s4;push_cast;refine⟨sa,wa,t,p,lab,xs,ok,ss,ws,zs,ord,rfl,s04 _ _ es,ts.same s04,s04 _ _ ew,hwl,⟨s04 _ _ h5.1,h5.2⟩,olt,ω,tp4,λH5 s5=>?_⟩;push_cast;have s05:=s04.trans s5;refine⟨sa,p,lab,xs,ok,ss,zs,ord,rfl,s05 _ _ es,ts.same s05,olt,ω,tp4.same s5,λv H6 s6 tv=>?_⟩;push_cast;refine⟨aO δ,λu hu=>?_⟩;have ecost:vo ss ws zs (sumK ws ord) (iK ss lab ord)=gB ss ws zs (sumK ws left) ord lab:=by unfold gB;rw[Rb hpm]
  rw[ecost];have s7:=au (o:=BY [At (gB ss ws zs (sumK ws left) ord lab),v]) hu;rw[hPc];refine⟨tl++[u],_,((s4.trans s5).trans s6).trans s7,by rw[A4];rfl,by rw[A0,B4,htl],λj u' lab' hj hl'=>?_,rfl⟩;rcases FU j tl.length with c|c
  ·rw[EU c] at hj;obtain⟨v',e1,t1⟩:=hall j u' lab' hj hl';have s47:=(s5.trans s6).trans s7;exact⟨v',s47 _ _ e1,t1.same s47⟩
  rw[Dx c] at hj;have:j-tl.length=0:=by
   have:=(AI.mp hj).1;rw[B4] at this;omega
  rw[this] at hj;cases hj;have ej:j=i:=ω;subst ej;rw[hlab] at hl';cases hl';exact⟨v,aD,tv.same s7⟩
 intro acc τ H4 d4 pc hd4;rw[hPc] at pc;obtain⟨tl,o0,s4,rfl,htl,hall,rfl⟩:=pc;rw[AC] at htl;have s5:=au (o:=By (tl.map AT)) hd4;push_cast;exact q d4 tl ys ord _ ((s02.trans s4).trans s5) ((s02.trans s4).none hd4) aD hL hpm hup htl λj u lab h1 h2=>by
  obtain⟨v',e1,t1⟩:=hall j u lab h1 h2;exact⟨v',s5 _ _ e1,t1.same s5⟩
abbrev jC:List Str:=["weights","prices","left","together","costs"]
abbrev cX:Stmt:=top 9
theorem pJ:bA jC q16_ (aj cX):=⟨rfl,rfl,rfl,ψ,rfl,ψ,ψ⟩
theorem GK:NM_ jC cX 1 "prices":=.of ψ
theorem GJ:NM_ jC cX 2 "left":=.of ψ
theorem GF:NM_ jC cX 3 "together":=.of ψ
theorem nJ:NM_ jC cX 4 "costs":=.of ψ
theorem wR:GI_ cX "TESTS":=ψ
theorem Bl:GI_ cX "sum":=ψ
theorem Bk:GI_ cX "zip":=ψ
theorem Ks:Bn "step_costs" := ⟨ψ,ψ⟩
theorem Wu(hB:∀x:Str,x∈BLs->mg x=IF){aTests:IN}(cgTests:mg "TESTS" = ID (.ref aTests))(ktTests:KTup K aTests ([("is" : Str),("within" : Str),("below" : Str),("mask" : Str),("table" : Str)].map AS))(F:Fun K "step_costs" "step_costs" cX f fd):dw P w K mg base CX0 1 f fd q16_ Oz:=by
 refine F.okz pJ λcdv A outer s H vs Q E hr h=>?_;obtain⟨l,wa,z,ok,ws,zs,left,rfl,tl,hlt,hw,hz,h5,few,q⟩:=h;refine⟨_,(aF (bh GF pJ.nd (bB (iU Z) Bl (hB "sum" qp) KG qQ (ak (cR (NX:=jC) (kX:=(aj cX).names) ["k","weights"] [IF,ID 0] Z Z ⟨rfl,ψ,ψ,ψ,ψ⟩ Z (bW (ao GJ)) (λ_ _ _ _ _=>(aY 0 (show A9 (["k","weights"]:List Str) from by decide +kernel) Z (B8 Z))) (λ_ _ _ _ _=>cB) (λ_ _ _ _ _=>(aR bJ (aQ 1) (aQ 0) (λ_ _=>rfl)))) aq Z) Z Z) Z (.inl Z))
  (aF (Za (NX:=["weights","prices","left","together","costs"]) (kX:=(aj cX).names) ["word","price","together"] [IF,IF,ID 3] nJ pJ.nd Z Z ⟨rfl,ψ,ψ,ψ,ψ⟩ Z (Zc Bk (hB "zip" M9) (ak (zx (v:=AT aTests) wR cgTests Z QJ) (ak (ao GK) aq Z) Z) Z Z) (λ_ _ _ _ _=>(fW (n:=2) Z (aP (aY 0 (show A9 (["word","price","together"]:List Str) from by decide +kernel) Z (B8 Z)) (aP (aY 1 (show A9 (["word","price","together"]:List Str) from by decide +kernel) Z (B8 Z)) dU Z) Z) Z Z)) (λ_ _ _ _ _=>cB) (λ_ _ _ _ _=>(aQ 0)) (λ_ _ _ _ _=>(aL cO (aQ 1) (aQ 2))))
  (aF (V0 hr.fU (ao nJ) jT aA Z)
  (aN (bf (ao nJ)))))),?_⟩
 obtain⟨la,rfl,okl,el,ll⟩:=tl.left;replace el:H la=ID (.lst (nv left)):=el;refine aM λk hk=>?_;push_cast;refine cN λR2 hR2=>?_;push_cast[el];refine Fd (λk=>ws.getD k 0) (λτ=>∃o0,τ=[o0,ID (.ref wa)]) hR2 el ll ⟨_,rfl⟩ ?_ ?_
 ·rintro i k' τ acc Pn hk' ⟨o0,rfl⟩ h1;have hwk:=rW (zs:=ws) (i:=k') (hlt _ (A8 hk'));push_cast[hw,hwk];exact h1 _ ⟨_,rfl⟩
 intro d2 hd2;have s3:=au (o:=By ((left.map λk=>ws.getD k 0).map At)) hd2;have e3:upd H d2 (By ((left.map λk=>ws.getD k 0).map At)) d2=_:=aD;generalize upd H d2 (By ((left.map λk=>ws.getD k 0).map At))=H3 at s3 e3 |-;push_cast[e3];refine⟨_,rfl,?_⟩;have hz3:=s3 _ _ hz;subst hk;refine aM λk hk=>?_;push_cast;refine aaI λR3 hR3=>?_;push_cast[Xe];refine⟨aTests,z,_,_,rfl,ktTests.sq,SqT.of hz3,?_⟩;refine aaH (kvs:=oA (zs.map (· * sumK ws left))) (ys:=zs.map At) (λτ=>∃o0 o1,τ=[o0,o1,ID (.int (sumK ws left))]) hR3 ktTests.sq (SqT.of hz3) (by rw[AC,h5];exact AV 5) (by show 5<=15;decide) ⟨_,_,rfl⟩ ?_ ?_
 ·rintro i kv y τ H4 p Nx hkv hy s4 ⟨o0,o1,rfl⟩ hp hN;have s5:=au (o:=BY [kV kv.1,y]) hp;have e5:upd H4 p (BY [kV kv.1,y]) p=_:=aD;generalize upd H4 p (BY [kV kv.1,y])=H5 at s5 e5 |-;rw[AL] at hy;cases hzi:zs[i]? with
  | none=>rw[hzi] at hy;cases hy
  | some zi=>
   rw[hzi] at hy;cases hy;have hkv2:=aaB hkv;rw[J3,AY,hzi] at hkv2;have hfz:=few zi (A8 hzi);push_cast[e5];refine⟨.inl ⟨ω,ω⟩,kv.1,rfl,?_⟩;have:=hN [ID (kV kv.1),ID (.int zi),ID (.int (sumK ws left))] H5 (s4.trans s5) ⟨_,_,rfl⟩;rw[hkv2] at this;exact this
 intro d H4 s4 hd4;have s5:=au (o:=HO.dK (gO [] (oA (zs.map (· * sumK ws left))))) hd4;subst hk;refine aM λk hk=>?_;push_cast[rdA];refine⟨d,_,rfl,rT.k (k:=EE "pick") aD (aaA _),?_⟩;subst hk;push_cast;rw[Yp];exact q d _ ((s3.trans s4).trans (au hd4)) aD
abbrev xq:List Str:=["ways","numbers"]
abbrev mH:Stmt:=top 19
theorem K9:bA xq q18_ (aj mH):=⟨rfl,rfl,rfl,ψ,rfl,ψ,ψ⟩
theorem JS:NM_ xq mH 0 "ways":=.of ψ
theorem Ce:Bn "bounds_of" := ⟨ψ,ψ⟩
abbrev jl:List Str:=["ways","numbers","plans","bounds","least","cost","head","parts"]
abbrev dY:Stmt:=top 24
theorem kW:bA jl q17_ (aj dY):=⟨rfl,rfl,rfl,ψ,rfl,ψ,ψ⟩
theorem Ao:NM_ jl dY 0 "ways":=.of ψ
theorem MK:NM_ jl dY 1 "numbers":=.of ψ
theorem uw:NM_ jl dY 3 "bounds":=.of ψ
theorem ur:NM_ jl dY 4 "least":=.of ψ
theorem MJ:NM_ jl dY 5 "cost":=.of ψ
theorem Am:NM_ jl dY 6 "head":=.of ψ
theorem Al:NM_ jl dY 7 "parts":=.of ψ
theorem vW:GI_ dY "bounds_of":=ψ
theorem Ht:GI_ dY "min":=ψ
theorem Br:GI_ dY "tuple":=ψ
theorem T7:Bn "least_by" := ⟨ψ,ψ⟩
theorem Ek{N:Nat->Nat->Int}(hB:∀x:Str,x∈BLs->mg x=IF)(F:Fun K "bounds_of" "bounds_of" mH f fd):dw P w K mg base CX0 1 f fd q18_ (wA N):=by
 refine F.okz K9 λcdv A outer s H vs Q E hr h=>?_;obtain⟨r,nd,ok,xs,W,kn,rfl,wr,q⟩:=h;refine⟨_,(aN (bf (cR (NX:=xq) (kX:=(aj mH).names) ["cost","head","parts","numbers"] [IF,IF,IF,ID 1] Z Z ⟨rfl,ψ,ψ,ψ,ψ⟩ Z (bW (ao JS)) (λ_ _ _ _ _=>(fW (n:=3) Z (aP (aY 0 (show A9 (["cost","head","parts","numbers"]:List Str) from by decide +kernel) Z (B8 Z)) (aP (aY 1 (show A9 (["cost","head","parts","numbers"]:List Str) from by decide +kernel) Z (B8 Z)) (aP (aY 2 (show A9 (["cost","head","parts","numbers"]:List Str) from by decide +kernel) Z (B8 Z)) dU Z) Z) Z) Z Z)) (λ_ _ _ _ _=>cB) (λ_ _ _ _ _=>(aL aX (aQ 0) (bB (iU Z) Z (hB "sum" qp) KG qQ (ak (cR (NX:=["cost","head","parts","numbers"]) (kX:=_) ["part","numbers"] [IF,ID 3] Z Z ⟨rfl,ψ,ψ,by (intro y hy hf;repeat (first|(rcases A3.mp hy with rfl|hy;(first|exact IP rfl|exact B8 rfl|exact absurd hf δ))|exact absurd hy Bz)),ψ⟩ Z (Gq K (aQ 2)) (λ_ _ _ _ _=>(aY 0 (show A9 (["part","numbers"]:List Str) from by decide +kernel) Z (B8 Z))) (λ_ _ _ _ _=>cB) (λ_ _ _ _ _=>(mK hr.fU (aQ 1) (aQ 0) (λ_ _=>rfl)))) aq Z) Z Z)))))),?_⟩
 have hx:=wr.hx;have er:=wr.er;have hxl:=wr.t.length;rw[AC] at hxl;push_cast;refine cN λR hR=>?_;push_cast[er];obtain⟨Pc,hPc⟩:∃Pv:Nat->List V->L2.St->Hp->Prop,Pv=λ(i:Nat) acc τ H'=>∃(o0 o1 o2:Option V),Same H H'/\acc=((W.take i).map (jG N)).map At/\τ=[o0,o1,o2,ID (.ref nd)]:=⟨_,rfl⟩;refine iQ hR (xs:=xs) (aO ω) Pc (by rw[hPc];exact⟨_,_,_,Same.refl _,rfl,rfl⟩) ?_ ?_ ?_ ?_
 ·intro i acc τ H2 pc;rw[hPc] at pc;obtain⟨_,_,_,_,rfl,_⟩:=pc;rw[AC,AC];exact CD _ _
 ·intro i acc τ H2 pc;rw[hPc] at pc;obtain⟨_,_,_,s2,_⟩:=pc;exact SqL.of (s2 _ _ er)
 ·intro i y acc τ H2 hy pc;rw[hPc] at pc;obtain⟨o0,o1,o2,s2,rfl,rfl⟩:=pc;obtain⟨d,hd,td⟩:=(wr.t.same s2).get hy;rw[AL] at hd;obtain⟨w1,hw1,rfl⟩:=BG.mp hd;have hm1:=A8 hw1;cases td with
  | tup ot et zt tt=>
   cases tt with
   | cons tc tt=>
    cases tt with
    | cons th tt=>
     cases tt with
     | cons tp tt=>
      cases tt;cases tc;rename_i ta xh xp;cases tp with
      | lst op ep zp tpp=>
       rename_i la ys;have hyl:=tpp.length;rw[AC] at hyl;have en2:=s2 _ _ wr.en;push_cast[et];refine cN λR2 hR2=>?_;push_cast[ep];obtain⟨Pd,hPd⟩:∃Pv:Nat->List V->L2.St->Hp->Prop,Pv=λ(j:Nat) acc τ H'=>∃(o0:Option V),H'=H2/\acc=((w1.2.2.take j).map λp=>N p.1 p.2).map At/\τ=[o0,ID (.ref nd)]:=⟨_,rfl⟩;refine iQ hR2 (xs:=ys) (aO zp) Pd (by rw[hPd];exact⟨_,rfl,rfl,rfl⟩) ?_ ?_ ?_ ?_
       ·intro j acc τ H3 pd;rw[hPd] at pd;obtain⟨_,rfl,rfl,_⟩:=pd;rw[AC,AC];exact CD _ _
       ·intro j acc τ H3 pd;rw[hPd] at pd;obtain⟨_,rfl,_⟩:=pd;exact SqL.of ep
       ·intro j y2 acc τ H3 hy2 pd;rw[hPd] at pd;obtain⟨o0',rfl,rfl,rfl⟩:=pd;obtain⟨d2,hd2,td2⟩:=tpp.get hy2;rw[AL] at hd2;obtain⟨p1,hp1,rfl⟩:=BG.mp hd2;obtain⟨q2,rfl,eq2⟩:=lq td2;push_cast[rdA];refine⟨nd,At (N p1.1 p1.2),rfl,j7.k2 en2 eq2 (wr.at' w1 hm1 p1 (A8 hp1)),?_⟩;rw[hPd];exact⟨_,rfl,by rw[take_snoc hp1,A4,A4];rfl,rfl⟩
       intro acc τ H3 d2 pd hd2;rw[hPd] at pd;obtain⟨o0',rfl,rfl,rfl⟩:=pd;rw[hyl,C5];have s3:=au (o:=By ((w1.2.2.map λp=>N p.1 p.2).map At)) hd2;have e3:upd H3 d2 (By ((w1.2.2.map λp=>N p.1 p.2).map At)) d2=_:=aD;generalize upd H3 d2 (By ((w1.2.2.map λp=>N p.1 p.2).map At))=H4 at s3 e3 |-;push_cast[e3];refine⟨_,rfl,?_⟩;rw[hPc];refine⟨_,_,_,s2.trans s3,?_,rfl⟩;rw[take_snoc hw1,A4,A4];rfl
 intro acc τ H2 d pc hd;rw[hPc] at pc;obtain⟨o0,o1,o2,s2,rfl,rfl⟩:=pc;rw[hxl,C5];exact q d _ (s2.trans (au hd)) (s2.none hd) aD
theorem Mh{N:Nat->Nat->Int}{T:Nat->Nat->AU}(hB:∀x:Str,x∈BLs->mg x=IF)(CBoundsOf:Cal P w K mg base "bounds_of" 1 q18_ (wA N))(F:Fun K "least_by" "least_by" dY f fd):dw P w K mg base CX0 2 f fd q17_ (zM N T):=by
 refine F.okz kW λcdv A outer s H vs Q E hr h=>?_;obtain⟨r,nd,pd,ok,xs,W,kn,kp,rfl,wr,hnw,epd,hpl,hW,q⟩:=h;refine⟨_,(aF (bh uw kW.nd (bw CBoundsOf (hr.mono δ) vW Ce (ak (ao Ao) (ak (ao MK) aq Z) Z) Z Z) Z (.inl Z))
  (aF (bh ur kW.nd (bB (rG Z) Ht (hB "min" uz) LU uJ (ak (ao uw) aq Z) Z Z) Z (.inl Z))
  (aF (pN (aR bJ (ao Ao) (Zg hr.un1 (ao uw) (ao ur)) (λ_ _=>rfl)) (fW (n:=3) Z (aP (dG MJ kW.nd (.inl Z)) (aP (dG Am kW.nd (.inl Z)) (aP (dG Al kW.nd (.inl Z)) dU Z) Z) Z) Z Z) Z Z Z)
  (aN (bf (bY (ak (ao ur) (ak (aL Z4 (ao Am) (rZ tM Br (hB "tuple" qm) boot_tuple qP (ak (cR (NX:=jl) (kX:=(aj dY).names) ["part","plans"] [IF,ID 2] Z Z ⟨rfl,ψ,ψ,ψ,ψ⟩ Z (bW (ao Al)) (λ_ _ _ _ _=>(aY 0 (show A9 (["part","plans"]:List Str) from by decide +kernel) Z (B8 Z))) (λ_ _ _ _ _=>cB) (λ_ _ _ _ _=>(mK hr.fU (aQ 1) (aQ 0) (λ_ _=>rfl)))) aq Z) Z Z)) aq Z) Z))))))),?_⟩
 refine aM λk hk=>?_;push_cast;refine⟨r,nd,ok,xs,W,kn,rfl,wr,λb H1 s1 hb eb=>?_⟩;push_cast;subst hk;refine aM λk hk=>?_;push_cast;refine⟨_,.inl eb,λz=>hW (LV.mp z),λM hM hle=>?_⟩;subst hk;refine aM λk hk=>?_;have er1:=s1 _ _ wr.er;push_cast[er1,Uw];refine⟨_,SqL.of eb,SqL.of eb,hM,λj hj=>?_⟩;obtain⟨w1,hw1,ew1⟩:∃w1,W[j]?=ID w1/\jG N w1=M:=by
  have:=hj.1;rw[AL] at this;exact BG.mp this
 have hx:=wr.t.length;rw[AC] at hx;have hjl:=(AI.mp hw1).1;have hxj:xs[j]?=ID (xs[j]'ω):=AD ω;obtain⟨d,hd,td⟩:=(wr.t.same s1).get hxj;rw[AL,hw1] at hd;cases hd;have eat:atI xs (j:Int)=ID (xs[j]'ω):=bZ hxj;generalize xs[j]'ω=xj at td eat;have hm1:=A8 hw1;obtain⟨hne,hhl10,hp2⟩:=wr.hd w1 hm1;cases td with
 | tup ot et zt tt=>
  cases tt with
  | cons tc tt=>
   cases tt with
   | cons th tt=>
    cases tt with
    | cons tp tt=>
     cases tt;cases tc;rename_i ta xh xp;cases tp with
     | lst op ep zp tpp=>
      rename_i la ys;have hyl:=tpp.length;rw[AC] at hyl;have epd1:=s1 _ _ epd;cases th with
      | tup oh eh zh thh=>
       rename_i ha hxs;push_cast[eat,et];subst hk;push_cast;refine cN λR2 hR2=>?_;push_cast[ep];obtain⟨Pc,hPc⟩:∃Pv:Nat->List V->L2.St->Hp->Prop,Pv=λ(i:Nat) acc τ H'=>∃(o0:Option V),H1=H'/\acc.length=i/\aG ok H1 acc ((w1.2.2.take i).map λp=>T p.1 p.2)/\τ=[o0,ID (.ref pd)]:=⟨_,rfl⟩;refine iQ hR2 (xs:=ys) (aO zp) Pc (by rw[hPc];exact⟨_,rfl,rfl,.nil,rfl⟩) ?_ ?_ ?_ ?_
       ·intro i acc τ H2 pc;rw[hPc] at pc;obtain⟨_,_,hl,_⟩:=pc;omega
       ·intro i acc τ H2 pc;rw[hPc] at pc;obtain⟨_,rfl,_⟩:=pc;exact SqL.of ep
       ·intro i y acc τ H2 hy pc;rw[hPc] at pc;obtain⟨o0,rfl,hl,t2,rfl⟩:=pc;obtain⟨d2,hd2,td2⟩:=tpp.get hy;rw[AL] at hd2;obtain⟨p1,hp1,rfl⟩:=BG.mp hd2;obtain⟨q2,rfl,eq2⟩:=lq td2;obtain⟨vp,hvp,tvp⟩:=hpl w1 hm1 p1 (A8 hp1);push_cast[rdA];refine⟨pd,vp,rfl,j7.k2 epd1 eq2 hvp,?_⟩;rw[hPc];refine⟨_,rfl,by rw[A0,hl];rfl,?_,rfl⟩;rw[take_snoc hp1,A4];exact t2.append (.cons (tvp.same s1) .nil)
       intro acc τ H2 d pc hd;rw[hPc] at pc;obtain⟨o0,rfl,hl,t2,rfl⟩:=pc;rw[hyl,C5] at t2;have s3:=au (o:=By acc) hd;have e3:upd H1 d (By acc) d=_:=aD;generalize upd H1 d (By acc)=H3 at s3 e3 |-;push_cast;refine⟨acc,.inl ⟨SqL.of e3,λl hl3=>?_⟩⟩;have s4:=au (o:=BY acc) hl3;have e4:upd H3 l (BY acc) l=_:=aD;generalize upd H3 l (BY acc)=H4 at s4 e4 |-;have eh4:=s4 _ _ (s3 _ _ eh);have fin:∀(v:V)(H5:Hp),Same H4 H5->aJ ok H5 v (Pq T w1)->(2<=AN/\∀(p:IN),H5 p=IF->Q (AT p) (upd H5 p (BY [At M,v]))):=λv H5 s5 t5=>⟨aO δ,λp hp=>by
        have s6:=au (o:=BY [At M,v]) hp;have sA:=((s1.trans s3).trans s4).trans s5;refine q _ w1 _ (sA.trans s6) hm1 (λw' hw'=>by rw[ew1];exact hle _ (E9 hw')) ?_;rw[ew1];exact .tup (hnw.new (sA.none hp)) aD (by show 2<=1000000;decide) (.cons (.int _) (.cons (t5.same s6) .nil))⟩
       have hhl:=thh.length;have hpos:0<w1.2.1.length:=L3.mpr hne;have hal:=t2.length;rw[AC] at hal;push_cast[eh4,e4,Y5,acH];refine⟨λz=>by rw[z] at hhl;exact absurd hhl (by show ¬0=_;omega),aO ω,λhnil=>?_,λhne p hp=>?_⟩
       ·subst hnil;refine fin _ _ (Same.refl _) ?_;unfold Pq;rw[show(w1.2.2.map λp=>T p.1 p.2)=[] from LV.mpr (List.eq_nil_of_length_eq_zero hal.symm),ED];exact .tup oh eh4 zh ((thh.same s3).same s4)
       have s5:=au (o:=BY (hxs++acc)) hp;exact fin _ _ s5 (.tup (hnw.new (((s1.trans s3).trans s4).none hp)) aD (by rw[A0];omega) (((thh.same (s3.trans s4)).append (t2.same (s3.trans s4))).same s5))
abbrev uP:List Str:=["many"]
abbrev iJ:Stmt:=top 17
theorem Iw:bA uP ["many"] (aj iJ):=⟨rfl,rfl,rfl,ψ,rfl,ψ,ψ⟩
theorem GX:NM_ uP iJ 0 "many":=.of ψ
theorem wU:GI_ iJ "range":=ψ
theorem rQ:GI_ iJ "reversed":=ψ
theorem yt:Bn "runs_of_row" := ⟨ψ,ψ⟩
abbrev cL:List Str:=["stretches","weights","prices","run","first","behind","left","costs","across","labels","ways"]
abbrev aZ:Stmt:=top 18
theorem fu:bA cL q8_ (aj aZ):=⟨rfl,rfl,rfl,ψ,rfl,ψ,ψ⟩
theorem nH:NM_ cL aZ 0 "stretches":=.of ψ
theorem vH:NM_ cL aZ 1 "weights":=.of ψ
theorem vG:NM_ cL aZ 2 "prices":=.of ψ
theorem GD:NM_ cL aZ 3 "run":=.of ψ
theorem vD:NM_ cL aZ 4 "first":=.of ψ
theorem vC:NM_ cL aZ 5 "behind":=.of ψ
theorem gJ:NM_ cL aZ 6 "left":=.of ψ
theorem nG:NM_ cL aZ 7 "costs":=.of ψ
theorem nF:NM_ cL aZ 8 "across":=.of ψ
theorem kE:NM_ cL aZ 9 "labels":=.of ψ
theorem ig:NM_ cL aZ 10 "ways":=.of ψ
theorem oY:GI_ aZ "MOST_IN_MASK":=ψ
theorem nZ:GI_ aZ "MOST_IN_TABLE":=ψ
theorem oZ:GI_ aZ "labels_left":=ψ
theorem Bj:GI_ aZ "len":=ψ
theorem yS:GI_ aZ "list":=ψ
theorem mj:GI_ aZ "numbers_across":=ψ
theorem wQ:GI_ aZ "range":=ψ
theorem uG:GI_ aZ "rows_for":=ψ
theorem Bh:GI_ aZ "set":=ψ
theorem vU:GI_ aZ "sorted":=ψ
theorem qC:GI_ aZ "step_costs":=ψ
theorem yq:Bn "ways_of_run" := ⟨ψ,ψ⟩
theorem RP{n:Nat}(hB:∀x:Str,x∈BLs->mg x=IF)(F:Fun K "runs_of_row" "runs_of_row" iJ f fd):dw P w K mg base CX0 1 f fd ["many"] (DP n):=by
 refine F.okz Iw λcdv A outer s H vs Q E hr h=>?_;obtain⟨rfl,h60,q⟩:=h;refine⟨_,(aN (bf (V4 (NX:=uP) (kX:=(aj iJ).names) ["first","behind","many"] [IF,IF,ID 0] Z Z ⟨rfl,ψ,ψ,ψ,ψ⟩ Z (Zd rQ (hB "reversed" yc) wU (hB "range" cU) (ak (ao GX) aq Z) Z Z) (λ_ _ _ _ _=>(aY 0 (show A9 (["first","behind","many"]:List Str) from by decide +kernel) Z (B8 Z))) (λ_ _ _ _ _=>(ju Z (hB "range" cU) (ak (aL aX (aQ 0) aA) (ak (aL aX (aQ 2) aA) aq Z) Z) Z Z)) (λ_ _ _ _ _=>(aY 1 (show A9 (["first","behind","many"]:List Str) from by decide +kernel) Z (B8 Z))) (λ_ _ _ _ _=>(bY (ak (aQ 0) (ak (aQ 1) aq Z) Z)))))),?_⟩
 push_cast;refine aaL λR hR=>?_;push_cast[Xj];refine⟨ω,?_⟩;rw[Hc];obtain⟨Pc,hPc⟩:∃Pv:Nat->List V->L2.St->Hp->Prop,Pv=λ(i:Nat) acc τ H'=>∃(o0 o1:Option V),Same H H'/\aG (λ_=>True) H' acc ((dF n i).map rpD)/\τ=[o0,o1,ID (.int (n:Int))]:=⟨_,rfl⟩;refine XR hR Pc (by rw[hPc];exact⟨_,_,Same.refl _,.nil,rfl⟩) ?_ (λx τ H k k' hk h=>hk _ _ h) ?_
 ·intro i acc τ H2 hi pc;rw[hPc] at pc;obtain⟨o0,o1,s2,t2,rfl⟩:=pc;push_cast;intro R2 hR2;push_cast[vN];refine⟨ω,?_⟩;rw[show((n:Int)+1-((n:Int)-1-(i:Int)+1)).toNat=i+1 by omega];obtain⟨Pw,hPw⟩:∃Pv:Nat->List V->L2.St->Hp->Prop,Pv=λ(j:Nat) acc τ H'=>∃(o1:Option V),Same H H'/\aG (λ_=>True) H' acc ((dF n i++(lz n i).take j).map rpD)/\τ=[ID (.int ((n:Int)-1-(i:Int))),o1,ID (.int (n:Int))]:=⟨_,rfl⟩;refine aea hR2 Pw (by rw[hPw];exact⟨_,s2,by rw[take_zero,ED];exact t2,rfl⟩) ?_ ?_ ?_
  ·intro j acc τ H3 hj pw;rw[hPw] at pw;obtain⟨_,_,t3,_⟩:=pw;have h1:=t3.length;have h2:=ni n i ω;have h3:=CD j (lz n i);rw[AC,A0] at h1;exact rY ω
  ·intro j acc τ H3 hj pw;rw[hPw] at pw;obtain⟨o1',s3,t3,rfl⟩:=pw;push_cast;refine⟨aO δ,λp hp=>?_⟩;have hx:(lz n i)[j]?=ID (n-1-i,n-i+j):=by
    unfold lz;rw[AL,D8 hj];rfl
   rw[hPw];have s4:=au (o:=BY [At ((n:Int)-1-(i:Int)),At ((n:Int)-1-(i:Int)+1+(j:Int))]) hp;refine⟨_,s3.trans s4,?_,rfl⟩;rw[take_snoc hx,<- F1,A4];refine(t3.same s4).append (.cons ?_ .nil);show aJ _ _ _ (rpD (n-1-i,n-i+j));unfold rpD;rw[show(((n-1-i:Nat)):Int)=(n:Int)-1-(i:Int) by omega,show(((n-i+j:Nat)):Int)=(n:Int)-1-(i:Int)+1+(j:Int) by omega];exact .tup trivial aD (show 2<=1000000 by decide) (.cons (.int _) (.cons (.int _) .nil))
  intro acc τ H3 pw;rw[hPw] at pw;obtain⟨o1',s3,t3,rfl⟩:=pw;rw[hPc];rw[Ex (by rw[zW];exact AV _),<- xG] at t3;exact⟨_,_,s3,t3,rfl⟩
 intro acc τ H2 d pc hd;rw[hPc] at pc;obtain⟨o0,o1,s2,t2,rfl⟩:=pc;exact q d acc _ (s2.trans (au hd)) (s2.none hd) aD (t2.same (au hd))
theorem Wt(hB:∀x:Str,x∈BLs->mg x=IF)(cgMostInMask:mg "MOST_IN_MASK" = ID (.int 64 ckMostInMask))(cgMostInTable:mg "MOST_IN_TABLE" = ID (.int 200 ckMostInTable))(CNumbersAcross:Cal P w K mg base "numbers_across" 1 q13_ Ip)(CLabelsLeft:Cal P w K mg base "labels_left" 1 q13_ U6)(CStepCosts:Cal P w K mg base "step_costs" 1 q16_ Oz)(CRowsFor:Cal P w K mg base "rows_for" 3 q2_ OJ)(F:Fun K "ways_of_run" "ways_of_run" aZ f fd):dw P w K mg base CX0 4 f fd q8_ FP:=by
 refine F.okz fu λcdv A outer s H vs Q E hr h=>?_;obtain⟨sa,wa,t,rp,a,b,xs,ok,ss,ws,zs,rfl,es,ts,h60,ew,hwl,h5,erp,hab,hbn,q⟩:=h;refine⟨_,(aF (pN (ao GD) (fW (n:=2) Z (aP (dG vD fu.nd (.inl Z)) (aP (dG vC fu.nd (.inl Z)) dU Z) Z) Z Z) Z Z Z)
  (aF (bh gJ fu.nd (Zf Z yS (hB "list" iC) wQ (hB "range" cU) (ak (ao vD) (ak (ao vC) aq Z) Z)) Z (.inl Z))
  (aF (bh nG fu.nd (bw CStepCosts (hr.mono δ) qC Ks (ak (ao vH) (ak (ao vG) (ak (ao gJ) aq Z) Z) Z) Z Z) Z (.inl Z))
  (aF (bh nF fu.nd (bw CNumbersAcross (hr.mono δ) mj zj (ak (ao nH) (ak (ao gJ) aq Z) Z) Z Z) Z (.inl Z))
  (aF (bh kE fu.nd (Ph Z vU (hB "sorted" rA) Bh (hB "set" WT) (ak (bw CLabelsLeft (hr.mono δ) oZ Ia (ak (ao nH) (ak (ao gJ) aq Z) Z) Z Z) aq Z)) Z (.inl Z))
  (aF (vh (NX:=cL) (kX:=(aj aZ).names) ["cost","plan"] [IF,IF] ig fu.nd Z Z ⟨rfl,ψ,ψ,ψ,ψ⟩ Z (bW (bw CRowsFor (hr.mono δ) uG T5 (ak (ao nH) (ak (ao vH) (ak (ao vG) (ak (ao gJ) aq Z) Z) Z) Z) Z Z)) (λ_ _ _ _ _=>(fW (n:=2) Z (aP (aY 0 (show A9 (["cost","plan"]:List Str) from by decide +kernel) Z (B8 Z)) (aP (aY 1 (show A9 (["cost","plan"]:List Str) from by decide +kernel) Z (B8 Z)) dU Z) Z) Z Z)) (λ_ _ _ _ _=>cB) (λ_ _ _ _ _=>(bY (ak (aQ 0) (ak (aQ 1) (ak (eY aq) aq Z) Z) Z))))
  (aF (eX (b7 Jr (ao nF) (zx (v:=At 200) nZ cgMostInTable ⟨_,rfl⟩ Dp) (bC _)) (aN (iY (lM (ao ig) (bY (ak (mK hr.fU (ao nG) jT (λ_ _=>rfl)) (ak (bY (ak jT aq Z)) (ak (eY aq) aq Z) Z) Z)) Z Z Z Z Z) Z)) cP)
  (aF (eX (CN (Lj (b7 Jr (ao nF) (zx (v:=At 64) oY cgMostInMask ⟨_,rfl⟩ Hz) (bC _)) (Gn (b7 (jy hr.cM) (bB b8 Bj (hB "len" fX) B9 fY (ak (ao kE) aq Z) Z Z) aA (bC _))))) (aN (iY (lM (ao ig) (bY (ak (mK hr.fU (ao nG) jT (λ_ _=>rfl)) (ak (bY (ak jT (ak (aR bJ (ao kE) aA (λ_ _=>rfl)) (ak (bY (ak jT (ak (aR bJ (ao kE) aA (λ_ _=>rfl)) aq Z) Z)) aq Z) Z) Z)) (ak (eY aq) aq Z) Z) Z)) Z Z Z Z Z) Z)) cP)
  (aF (iY (Pj (ao ig) (cR (NX:=cL) (kX:=(aj aZ).names) ["k","costs","first","behind"] [IF,ID 7,ID 4,ID 5] Z Z ⟨rfl,ψ,ψ,ψ,ψ⟩ Z (bW (mJ Rf (ao gJ) (iZ aA) Zb)) (λ_ _ _ _ _=>(aY 0 (show A9 (["k","costs","first","behind"]:List Str) from by decide +kernel) Z (B8 Z))) (λ_ _ _ _ _=>cB) (λ_ _ _ _ _=>(bY (ak (mK hr.fU (aQ 1) jT (λ_ _=>rfl)) (ak (bY (ak jT (ak (aQ 0) aq Z) Z)) (ak (eY (ak (bY (ak (aQ 2) (ak (aQ 0) aq Z) Z)) (ak (bY (ak (aQ 0) (ak (aQ 3) aq Z) Z)) aq Z) Z)) aq Z) Z) Z)))) Z Z Z Z Z) Z)
  (aN (bf (ao ig)))))))))))),?_⟩
 have lf:=Vj hab hbn;have hll:=fZ a b;have tsl:=ts.length;rw[AC] at tsl;have ts1:∀{H':Hp},Same H H'->aJ (λ_=>True) H' (.ref sa) (.list (ss.map stD)):=λs'=>.lst trivial (s' _ _ es) ω ((ts.same s').keep λa o _ e=>⟨trivial,e⟩);have few:Few zs:=λz hz=>by have:=h5.2.2 z hz;omega
 refine aM λk hk=>?_;push_cast[erp];subst hk;refine aM λk hk=>?_;push_cast;refine⟨ω,aO ω,λla hla=>?_⟩;rw[show((b:Int)-(a:Int)).toNat=b-a by omega,Vl];have s1:=au (o:=By (nv (rng a b))) hla;have el1:upd H la (By (nv (rng a b))) la=ID (By (nv (rng a b))):=aD;generalize upd H la (By (nv (rng a b)))=H1 at s1 el1 |-;have tl:∀{H':Hp},Same H1 H'->aJ (λ_=>True) H' (.ref la) (Eo (rng a b)):=λs'=>Nh trivial (s' _ _ el1) ω;subst hk;refine aM λk hk=>?_;push_cast;refine⟨_,wa,t,_,ws,zs,rng a b,rfl,tl (Same.refl _),λk hk=>by have:=lf.lt k hk;omega,s1 _ _ ew,s1 _ _ h5.1,h5.2.1,few,λpc H2 s2 epc=>?_⟩;push_cast;subst hk;have s12:=s1.trans s2;refine aM λk hk=>?_;push_cast;refine⟨_,_,_,ss,rng a b,rfl,ts1 s12,tl s2,lf,?_⟩;push_cast;subst hk;refine aM λk hk=>?_;push_cast[tSS];refine⟨_,_,_,ss,rng a b,rfl,ts1 s12,tl s2,lf,λa3 ha3=>?_⟩;have s3:=au (o:=By (((rng a b).map (lbl ss)).map At)) ha3;have e3:upd H2 a3 (By (((rng a b).map (lbl ss)).map At)) a3=ID (By (((rng a b).map (lbl ss)).map At)):=aD;generalize upd H2 a3 (By (((rng a b).map (lbl ss)).map At))=H3 at s3 e3 |-;refine⟨a3,rfl,(rng a b).map (lbl ss),SqL.of e3,by rw[AC];omega,λp4 L hp4 perm hup=>?_⟩;have hdl:=SRT.zA ((rng a b).map (lbl ss));rw[AC] at hdl;have hpl:=perm.length_eq;have hL:tR ss (rng a b) L:=⟨Av (hup ω) (perm.nodup_iff.mpr (SRT.wX _)),λl=>by
  rw[perm.mem_iff,SRT.Qv,C9]⟩
 have s4:=s12.trans (s3.trans (au (o:=By (L.map At)) hp4));have e4:upd H3 p4 (By (L.map At)) p4=ID (By (L.map At)):=aD;have epc4:=(s3.trans (au (o:=By (L.map At)) hp4)) _ _ epc;have el4:=(s2.trans (s3.trans (au (o:=By (L.map At)) hp4))) _ _ el1;generalize upd H3 p4 (By (L.map At))=H4 at s4 e4 epc4 el4 |-;show k _ _;subst hk;clear s3 e3 hp4 perm hup s2 epc s12 tl;refine aM λk hk=>?_;refine cN λR hR=>?_;push_cast[JZ];refine⟨sa,wa,t,la,xs,ok,ss,ws,zs,rng a b,rfl,s4 _ _ es,ts.same s4,h60,s4 _ _ ew,hwl,⟨s4 _ _ h5.1,h5.2⟩,el4,lf,ω,λr5 tl5 L5 ord H5 s5 hr5 er5 hL5 hpm hrk htl hrow=>?_⟩;show itK K (AT r5) H5 R;rw[Hg,er5,Hf];have eL:L5=L:=hL5.one hL;subst eL;have oR:tQ ss ws zs (rng a b) ord:=⟨hpm,hrk⟩;have s45:=s4.trans s5;have e5:=s5 _ _ e4;have epc5:=s5 _ _ epc4;have el5:=s5 _ _ el4;have hLl:L5.length<=60:=ω;obtain⟨RW,hRW⟩:∃RW,RW=Ed ss ws zs a b ord L5:=⟨_,rfl⟩;have hRl:RW.length=L5.length:=by rw[hRW];exact AC _
 obtain⟨Pc,hPc⟩:∃Pv:Nat->List V->L2.St->Hp->Prop,Pv=λ(i:Nat) acc τ H'=>∃(o0 o1:Option V),Same H5 H'/\aG (λ_=>True) H' acc ((RW.take i).map rwD)/\τ=[o0,o1]:=⟨_,rfl⟩;refine iQ hR (xs:=tl5.map AT) (aO (by rw[AC];omega)) Pc (by rw[hPc];exact⟨_,_,Same.refl _,.nil,rfl⟩) ?_ ?_ ?_ ?_
 ·intro i acc τ H6 pc;rw[hPc] at pc;obtain⟨_,_,_,t6,_⟩:=pc;have:=t6.length;rw[AC] at this;have:=CD i RW;omega
 ·intro i acc τ H6 pc;rw[hPc] at pc;obtain⟨_,_,s6,_⟩:=pc;exact SqL.of (s6 _ _ er5)
 ·intro i y acc τ H6 hy pc;rw[hPc] at pc;obtain⟨o0,o1,s6,t6,rfl⟩:=pc;rw[AL] at hy;obtain⟨u,hu,rfl⟩:=BG.mp hy;have hil:=(AI.mp hu).1;have hlab:L5[i]?=ID (L5[i]'ω):=AD ω;generalize L5[i]'ω=lab at hlab;obtain⟨v,ev,tv⟩:=hrow i u lab hu hlab;have hx:RW[i]?=ID (gB ss ws zs (sumK ws (rng a b)) ord lab,Gj ss zs lab (iK ss lab ord),[]):=by
   rw[hRW];unfold Ed;rw[AL,hlab];rfl
  have ev6:=s6 _ _ ev;push_cast[ev6];refine⟨aO δ,λle hle=>⟨aO δ,λp hp=>?_⟩⟩;have s7:=au (o:=By []) hle;have e7:upd H6 le (By []) le=ID (By []):=aD;generalize upd H6 le (By [])=H7 at s7 e7 hp |-;have s8:=au (o:=BY [At (gB ss ws zs (sumK ws (rng a b)) ord lab),v,AT le]) hp;rw[hPc];refine⟨_,_,s6.trans (s7.trans s8),?_,rfl⟩;rw[take_snoc hx,A4];refine(t6.same (s7.trans s8)).append (.cons (.tup trivial aD (show 3<=1000000 by decide) (.cons (.int _) (.cons ?_ (.cons (.lst trivial (s8 _ _ e7) (show 0<=1000000 by decide) .nil) .nil)))) .nil);rw[<- Vf];exact tv.same (s6.trans (s7.trans s8))
 intro acc τ H6 d pc hd;rw[hPc] at pc;obtain⟨o0,o1,s6,t6,rfl⟩:=pc;rw[AC,htl,<- hRl,C5] at t6;have hdn:H d=IF:=(s45.trans s6).none hd;have hp4d:p4≠d:=aB (s6 _ _ e5) hd;have hpcd:pc≠d:=aB (s6 _ _ epc5) hd;have hlad:la≠d:=aB (s6 _ _ el5) hd;have t6':aG (·≠d) H6 acc (RW.map rwD):=t6.keep λa o _ e=>⟨aB e hd,e⟩;have s7:=(s45.trans s6).trans (au (o:=By acc) hd);have ep7:=au (o:=By acc) hd _ _ (s6 _ _ e5);have epc7:=au (o:=By acc) hd _ _ (s6 _ _ epc5);have el7:=au (o:=By acc) hd _ _ (s6 _ _ el5);have ed7:upd H6 d (By acc) d=ID (By acc):=aD;have t7:=t6'.same (au (o:=By acc) hd);generalize upd H6 d (By acc)=H7 at s7 ep7 epc7 el7 ed7 t7 |-;show k _ _;clear hR hPc t6 t6' s6 hd s45 s4 s5 e4 e5 epc4 epc5 el4 el5 hrow er5 hr5;obtain⟨So,hSo⟩:∃So:List lG->Hp->Prop,So=λW H'=>∃ys,Same H H'/\H' p4=ID (.lst (L5.map At))/\H' pc=ID (.dK (BR zs (sumK ws (rng a b))))/\H' la=ID (.lst (nv (rng a b)))/\H' d=ID (.lst ys)/\aG (·≠d) H' ys (W.map rwD):=⟨_,rfl⟩;have put:∀(W:List lG)(x:lG)(v:V)(ys:List V)(H4 H5:Hp),Same H H4->H4 p4=ID (.lst (L5.map At))->H4 pc=ID (.dK (BR zs (sumK ws (rng a b))))->H4 la=ID (.lst (nv (rng a b)))->Same H4 H5->aG (·≠d) (upd H5 d (.lst (ys++[v]))) (ys++[v]) (W.map rwD++[rwD x])->So (W++[x]) (upd H5 d (.lst (ys++[v]))):=λW x v ys H4 H5 s4 e1 e2 e3 s5 t=>by
  rw[hSo];exact⟨_,wG (s4.trans s5) hdn,(aH hp4d).trans (s5 _ _ e1),(aH hpcd).trans (s5 _ _ e2),(aH hlad).trans (s5 _ _ e3),aD,by rw[A4];exact t⟩
 have so7:So RW H7:=by rw[hSo];exact⟨acc,s7,ep7,epc7,el7,ed7,t7⟩
 have nwk:∀{H':Hp}{ys:List V},H' d=ID (.lst ys)->j9 (·≠d) H':=λ{H' ys} e p q s' hq=>(aB (s' _ _ e) hq).symm;have cv:=λp=>XQ ws zs (rng a b) p;clear s7 ep7 epc7 el7 ed7 t7;subst hk
 -- a table
 refine aM λk hk=>?_;have tb:∀H8,So (RW++rK ss ws zs a b) H8->k [ID (.ref sa),ID (.ref wa),ID (.ref t),ID (.ref rp),ID (.int (a:Int)),ID (.int (b:Int)),ID (.ref la),ID (.ref pc),ID (.int (fM ss (rng a b))),ID (.ref p4),ID (.ref d)] H8:=by
  intro H8 so8;subst hk;refine aM λk hk=>?_;have mk:∀H9,So (RW++rK ss ws zs a b++yK ss ws zs a b L5) H9->k [ID (.ref sa),ID (.ref wa),ID (.ref t),ID (.ref rp),ID (.int (a:Int)),ID (.int (b:Int)),ID (.ref la),ID (.ref pc),ID (.int (fM ss (rng a b))),ID (.ref p4),ID (.ref d)] H9:=by
   intro H9 so9;subst hk;refine aM λk hk=>?_;rw[hSo] at so9;obtain⟨ys,s9,ep9,epc9,el9,ed9,t9⟩:=so9;push_cast[Ik,Qq,ed9,Hi];refine cN λR hR=>?_;push_cast[el9];rw[XJ,Vh hab];intro a10 ha10;have s10:=au (o:=By (nv (rng (a+1) b))) ha10;have e10:upd H9 a10 (By (nv (rng (a+1) b))) a10=ID (By (nv (rng (a+1) b))):=aD;generalize upd H9 a10 (By (nv (rng (a+1) b)))=H10 at s10 e10 |-;obtain⟨LW,hLW⟩:∃LW,LW=Qc ws zs a b:=⟨_,rfl⟩;have hLWl:LW.length=b-(a+1):=by rw[hLW];unfold Qc;rw[AC,fZ]
   obtain⟨Pl,hPl⟩:∃Pv:Nat->List V->L2.St->Hp->Prop,Pv=λ(i:Nat) acc τ H'=>∃(o0:Option V),Same H10 H'/\aG (·≠d) H' acc ((LW.take i).map rwD)/\τ=[o0,ID (.ref pc),ID (.int (a:Int)),ID (.int (b:Int))]:=⟨_,rfl⟩;refine iQ hR (xs:=nv (rng (a+1) b)) (aO (by rw[pR,fZ];omega)) Pl (by rw[hPl];exact⟨_,Same.refl _,.nil,rfl⟩) ?_ ?_ ?_ ?_
   ·intro i acc τ H11 pl;rw[hPl] at pl;obtain⟨_,_,t11,_⟩:=pl;have:=t11.length;rw[AC] at this;have:=CD i LW;omega
   ·intro i acc τ H11 pl;rw[hPl] at pl;obtain⟨_,s11,_⟩:=pl;exact SqL.of (s11 _ _ e10)
   ·intro i y acc τ H11 hy pl;rw[hPl] at pl;obtain⟨o0,s11,t11,rfl⟩:=pl;obtain⟨k0,hk0,rfl⟩:=Gw hy;have hx:LW[i]?=ID (zs.getD 2 0*sumK ws (rng a b),[.str "below",.int (k0:Int)],[(a,k0),(k0,b)]):=by
     rw[hLW];unfold Qc;rw[AL,hk0];rfl
    have n11:j9 (·≠d) H11:=nwk ((s10.trans s11) _ _ ed9);have epc11:=(s10.trans s11) _ _ epc9;have pk:∀{i j:Nat}{x y:Int},[ID (At (k0:Int)),ID (.ref pc),ID (.int (a:Int)),ID (.int (b:Int))][i]?=ID (ID (At x))->[ID (At (k0:Int)),ID (.ref pc),ID (.int (a:Int)),ID (.int (b:Int))][j]?=ID (ID (At y))->Gv (·≠d) (K3 (xu (tV i) (xu (tV j) K4))) [ID (At (k0:Int)),ID (.ref pc),ID (.int (a:Int)),ID (.int (b:Int))] H11 (.tuple [.int x,.int y]):=λh1 h2=>qw n11 (cj (gvV h1 (.int _)) (cj (gvV h2 (.int _)) jf)) (by show 2<=1000000;decide);simp only[gb,Fw,Hm,reduceIte];refine(qw n11 (cj (Np (i:=1) Z epc11 (cv (.low 0 .tab .tab))) (cj (qw n11 (cj Ho (cj (gvV (i:=0) Z (.int _)) jf)) (by show 2<=1000000;decide)) (cj (Nk n11 (cj (pk (i:=2) (j:=0) Z Z) (cj (pk (i:=0) (j:=3) Z Z) jf)) (by show 2<=1000000;decide)) jf))) (by show 3<=1000000;decide)) H11 (Same.refl _) _ λv H12 s12 t12=>?_;rw[hPl];refine⟨_,s11.trans s12,?_,rfl⟩;rw[take_snoc hx,A4];exact(t11.same s12).append (.cons t12 .nil)
   intro acc τ H11 d11 pl hd11;rw[hPl] at pl;obtain⟨o0,s11,t11,rfl⟩:=pl;rw[pR,fZ,<- hLWl,C5] at t11;have s12:=s11.trans (au (o:=By acc) hd11);have e12:upd H11 d11 (By acc) d11=ID (By acc):=aD;have t12:=t11.same (au (o:=By acc) hd11);generalize upd H11 d11 (By acc)=H12 at s12 e12 t12 |-;have sX:=s10.trans s12;have ed12:=sX _ _ ed9;rw[J8,ed12,e12,Xr];have hl1:=t9.length;have hl2:=t12.length;have htw:(rK ss ws zs a b).length<=1:=by unfold rK;split <;> simp
   have hmw:(yK ss ws zs a b L5).length<=1:=by unfold yK;split <;> simp
   rw[AC] at hl1 hl2;rw[A0,A0] at hl1;refine⟨aO ω,?_⟩;show k _ _;subst hk;push_cast;refine q d (ys++acc) (RW++rK ss ws zs a b++yK ss ws zs a b L5++LW) _ (wG (s9.trans sX) hdn) hdn aD (λx=>?_) (QX (L:=L5) hab oR λx=>?_) ?_ (by rw[A0];omega)
   ·rw[hRW,hLW];exact rz hL oR x
   ·rw[hRW,hLW];exact rz hL oR x
   rw[A4];exact((t9.same sX).append t12).keep λa o h e=>⟨trivial,by rw[aH h];exact e⟩
  refine Xd λkt ke hkt hke=>?_;rw[hSo] at so8;obtain⟨ys,s8,ep8,epc8,el8,ed8,t8⟩:=so8;push_cast[ep8];rw[AC];unfold yK at mk;by_cases c:fM ss (rng a b)<=64/\L5.length=2
  ·rw[if_pos c.1,if_pos (by have:=c.2;omega)];rw[if_pos c] at mk;subst hkt;have n8:=nwk ed8;have hxl:=t8.length;have htw:(rK ss ws zs a b).length<=1:=by unfold rK;split <;> simp
   rw[AC,A0] at hxl;exact Yd (ok:=(·≠d)) Z ed8 ω (λa h=>h) t8 (d:=rwD (zs.getD 3 0*sumK ws (rng a b),[.str "mask",.int (L5.getD 0 0),.tuple [.str "pick",.int (L5.getD 1 0)]],[])) (qw n8 (cj (Np Z epc8 (cv (.msk 0 .tab))) (cj (qw n8 (cj Ho (cj (acz Z ep8 (by have:=c.2;omega)) (cj (qw n8 (cj Ho (cj (acy Z ep8 (by have:=c.2;omega)) jf)) (by show 2<=1000000;decide)) jf))) (by show 3<=1000000;decide)) (cj (Nk n8 jf (by show 0<=1000000;decide)) jf))) (by show 3<=1000000;decide)) λv H5 s5 t5=>mk _ (put _ _ v ys H8 H5 s8 ep8 epc8 el8 s5 t5)
  rw[if_neg c,ED] at mk;have so8:So (RW++rK ss ws zs a b) H8:=by rw[hSo];exact⟨ys,s8,ep8,epc8,el8,ed8,t8⟩
  subst hke;split
  ·rename_i c1;rw[if_neg (λz=>c ⟨c1,ω⟩)];exact mk _ so8
  exact mk _ so8
 refine Xd λkt ke hkt hke=>?_;push_cast;unfold rK at tb;by_cases c:fM ss (rng a b)<=200
 ·rw[if_pos c];rw[if_pos c] at tb;subst hkt;rw[hSo] at so7;obtain⟨ys,s8,ep8,epc8,el8,ed8,t8⟩:=so7;have n8:=nwk ed8;have hxl:=t8.length;rw[AC] at hxl;exact Yd (ok:=(·≠d)) Z ed8 ω (λa h=>h) t8 (d:=rwD (zs.getD 4 0*sumK ws (rng a b),[.str "table"],[])) (qw n8 (cj (Np Z epc8 (cv .tab)) (cj (qw n8 (cj Ho jf) (by show 1<=1000000;decide)) (cj (Nk n8 jf (by show 0<=1000000;decide)) jf))) (by show 3<=1000000;decide)) λv H5 s5 t5=>tb _ (put _ _ v ys H7 H5 s8 ep8 epc8 el8 s5 t5)
 rw[if_neg c];rw[if_neg c,ED] at tb;subst hke;exact tb _ so7
abbrev dg:List Str:=["stretches","weights","prices","numbers","plans","run","ways"]
abbrev bI:Stmt:=top 25
theorem gm:bA dg q5_ (aj bI):=⟨rfl,rfl,rfl,ψ,rfl,ψ,ψ⟩
theorem oO:NM_ dg bI 0 "stretches":=.of ψ
theorem yJ:NM_ dg bI 1 "weights":=.of ψ
theorem yI:NM_ dg bI 2 "prices":=.of ψ
theorem iB:NM_ dg bI 3 "numbers":=.of ψ
theorem iz:NM_ dg bI 4 "plans":=.of ψ
theorem iy:NM_ dg bI 5 "run":=.of ψ
theorem oN:NM_ dg bI 6 "ways":=.of ψ
theorem pB:GI_ bI "least_by":=ψ
theorem vV:GI_ bI "len":=ψ
theorem mV:GI_ bI "runs_of_row":=ψ
theorem mU:GI_ bI "ways_of_run":=ψ
theorem Cd:Bn "leasts_of_runs" := ⟨ψ,ψ⟩
theorem Mg(hB:∀x:Str,x∈BLs->mg x=IF)(CRunsOfRow:Cal P w K mg base "runs_of_row" 1 ["many"] DN)(CWaysOfRun:Cal P w K mg base "ways_of_run" 4 q8_ FP)(CLeastBy:Cal P w K mg base "least_by" 2 q17_ K7)(F:Fun K "leasts_of_runs" "leasts_of_runs" bI f fd):dw P w K mg base CX0 6 f fd q5_ DX:=by
 refine F.okz gm λcdv A outer s H vs Q E hr h=>?_;obtain⟨sa,wa,t,xs,ok,ss,ws,zs,rfl,es,ts,h1,h60,ew,hwl,h5,q⟩:=h;refine⟨_,(aF (bh iB gm.nd Ln Z (.inl Z))
  (aF (bh iz gm.nd Ln Z (.inl Z))
  (aF (fV BU Z (bW (bw CRunsOfRow (hr.mono δ) mV yt (ak (bB b8 vV (hB "len" fX) B9 fY (ak (ao oO) aq Z) Z Z) aq Z) Z Z)) (dG iy gm.nd (.inl Z))
  (aF (bh oN gm.nd (bw CWaysOfRun (hr.mono δ) mU yq (ak (ao oO) (ak (ao yJ) (ak (ao yI) (ak (ao iy) aq Z) Z) Z) Z) Z Z) Z (.inl Z))
  (aN (pN (bw CLeastBy (hr.mono δ) pB T7 (ak (ao oN) (ak (ao iB) (ak (ao iz) aq Z) Z) Z) Z Z) (fW (n:=2) Z (aP (Gr (ao iB) (ao iy) (Va hr.fU)) (aP (Gr (ao iz) (ao iy) (Va hr.fU)) dU Z) Z) Z Z) Z Z Z))) (λ_=>rfl))
  (aN (bf (bY (ak (ao iB) (ak (ao iz) aq Z) Z))))))),?_⟩
 have tsl:=ts.length;rw[AC] at tsl;refine aM λk hk=>?_;push_cast;refine λnd hnd=>?_;subst hk;have sA:=au (o:=Do []) hnd;have eA:upd H nd (Do []) nd=ID (Do []):=aD;generalize upd H nd (Do [])=HA at sA eA |-;refine aM λk hk=>?_;push_cast;refine λpd hpd=>?_;subst hk;have sB:=au (o:=Do []) hpd;have eB:upd HA pd (Do []) pd=ID (Do []):=aD;have hne:nd≠pd:=(aB eA hpd);have epn:=sA.none hpd;have eAB:=sB _ _ eA;have sAB:=sA.trans sB;generalize upd HA pd (Do [])=HB at sB eB eAB sAB |-;refine aM λk hk=>?_;refine jo λR hR=>?_;push_cast;have esB:=sAB _ _ es;push_cast[esB];refine⟨ss.length,by rw[tsl],h60,λr rs HC sC hr0 er tr=>?_⟩;push_cast[er];have sHC:=sAB.trans sC;have hno:∀{a:IN}{o:HO},H a=ID o->a≠nd/\a≠pd:=λe=>⟨aB e hnd,aB e epn⟩;have eC1:=sC _ _ eAB;have eC2:=sC _ _ eB;have trD:=tr.adz eC1 eC2;have trl:=tr.length;rw[AC] at trl;have hrl:=ni ss.length ss.length h60;have hr1:r≠nd/\r≠pd:=⟨(aB eAB hr0).symm,(aB eB hr0).symm⟩;obtain⟨Pv,hPv⟩:∃Pv:Nat->L2.St->Hp->Prop,Pv=λi σ H'=>∃(o4 o5:Option V)(N:Nat->Nat->Int)(T:Nat->Nat->Pl)(kn kp:List (List Key×V)),qR nd pd HC H'/\KH ss ws zs H' nd pd i (λp=>p∈(dF ss.length ss.length).take i) N T kn kp/\σ=[ID (.ref sa),ID (.ref wa),ID (.ref t),ID (.ref nd),ID (.ref pd),o4,o5]:=⟨_,rfl⟩;refine Bw hR (xs:=rs) Pv (by rw[hPv];exact⟨_,_,λ_ _=>0,λ_ _=>.tab,[],[],λ_ _ _ _ e=>e,⟨eC1,eC2,AV _,AV _,λ_ h=>(nomatch h),λ_ h=>(nomatch h),λ_ h=>(nomatch h),λ_ h=>(nomatch h)⟩,rfl⟩) ?_ ?_ ?_
 ·intro i σ H2 _ pv;rw[hPv] at pv;obtain⟨_,_,_,_,_,_,b2,_⟩:=pv;exact SqL.of (b2 _ _ hr1.1 hr1.2 er)
 ·intro i y σ H2 hy pv;rw[hPv] at pv;obtain⟨o4,o5,N,T,kn,kp,b2,rt,rfl⟩:=pv;have hil:i<rs.length:=(AI.mp hy).1;obtain⟨d,hd,td⟩:=trD.get hy;rw[AL] at hd;obtain⟨⟨a,b⟩,hp,rfl⟩:=BG.mp hd;obtain⟨rp,rfl,erp⟩:=lq (b2.tree td);dsimp only at erp;obtain⟨hab,hbn⟩:=cQ.mp (A8 hp);dsimp only at hab hbn;have tb:=Ot (Ec ss.length) hp;have s02:Same H H2:=b2.of sHC hnd epn;push_cast;refine⟨sa,wa,t,rp,a,b,xs,ok,ss,ws,zs,rfl,s02 _ _ es,ts.same s02,h60,s02 _ _ ew,hwl,⟨s02 _ _ h5.1,h5.2⟩,erp,hab,hbn,λwr ys W H3 s3 hwr ewr hW hWn tW hyl=>?_⟩;have rt3:=rt.same s3;have inD:∀x,jP ss ws zs a b x->∀p∈x.2.2,p∈(dF ss.length ss.length).take i:=λx hx p hp'=>by
   obtain⟨g1,g2,g3,g4⟩:=vm hx p hp';exact(tb p).mpr ⟨cQ.mpr ⟨g2,ω⟩,by unfold bfR;show a<p.1\/(a=p.1/\p.2<b);omega⟩
  refine⟨(N,λi j=>plD (T i j)),wr,nd,pd,λx=>x≠nd/\x≠pd,ys,W,kn,kp,rfl,⟨ewr,tW.adz rt3.en rt3.ep,ω,rt3.en,λx hx p hp'=>rt3.num p (inD x ((hW x).mp hx) p hp'),λx hx=>Oj ((hW x).mp hx)⟩,ad6 rt3.en rt3.ep,rt3.ep,λx hx p hp'=>rt3.pln p (inD x ((hW x).mp hx) p hp'),hWn,λv x H4 s4 hxW hle tv=>?_⟩;obtain⟨pl,epl,gpl⟩:=Ue hab hbn ((hW x).mp hxW) λp hp'=>rt3.good p (inD x ((hW x).mp hxW) p hp');rw[epl] at tv;have rt4:=rt3.same s4;have erp4:=s4 _ _ (s3 _ _ erp);cases tv with
  | tup ot et zt tt=>
   cases tt with
   | cons tc tt=>
    cases tt with
    | cons tv tt=>
     cases tt;cases tc;push_cast[et];rename_i va;have hli:i<=3660:=ω;have ln4:=rt4.ln;have lp4:=rt4.lp;have hpb:pd≠nd:=BS hne;refine⟨nd,_,rfl,rT.k2 rt4.en erp4 (rY ω),?_⟩;have ep5:upd H4 nd (Do (putK kn (key2 (a:Int) (b:Int)) (At (jG N x)))) pd=ID (Do kp):=by rw[aH hpb];exact rt4.ep
     have erp5:upd H4 nd (Do (putK kn (key2 (a:Int) (b:Int)) (At (jG N x)))) rp=ID (BY [At (a:Int),At (b:Int)]):=by rw[aH (PK erp4 rt4.en (λz=>by cases z))];exact erp4
     refine⟨pd,_,rfl,rT.k2 ep5 erp5 (rY ω),?_⟩;have htk:=take_snoc hp;have hmem:∀p,p∈(dF ss.length ss.length).take (i+1)↔p∈(dF ss.length ss.length).take i\/p=(a,b):=λp=>by
      rw[htk,Cf,AJ]
     obtain⟨N',T',rt5⟩:=rt4.step (a:=a) (b:=b) (c:=jG N x) (pl:=pl) (v:=va) (D':=λp=>p∈(dF ss.length ss.length).take (i+1)) hne (λz=>by have:=((tb _).mp z).2;unfold bfR at this;dsimp only at this;omega) hmem (λp hp' i2 j2 g1 g2 g3 g4=>by
      refine(tb _).mpr ⟨cQ.mpr ?_,?_⟩
      ·rcases(hmem p).mp hp' with z|rfl
       ·have:=cQ.mp ((tb p).mp z).1;exact⟨g2,by show j2<=_;omega⟩
       exact⟨g2,by show j2<=_;dsimp only at g3;omega⟩
      rcases(hmem p).mp hp' with z|rfl
      ·have:=((tb p).mp z).2;unfold bfR at this |-;dsimp only at this |-;omega
      unfold bfR;dsimp only at g1 g3 g4 |-;omega) gpl ⟨⟨x,(hW x).mp hxW,rfl⟩,λy hy=>hle y ((hW y).mpr hy)⟩ tv
     rw[hPv];exact⟨_,_,N',T',_,_,((b2.trans s3).trans s4).put,rt5,rfl⟩
 intro σ H2 pv;rw[hPv] at pv;obtain⟨o4,o5,N,T,kn,kp,b2,rt,rfl⟩:=pv;rw[trl,C5] at rt;show k _ H2;subst hk;push_cast;refine⟨aO δ,λp hp=>?_⟩;have s3:=au (o:=BY [AT nd,AT pd]) hp;have rt3:=rt.same s3;refine q p nd pd _ _ N T kn kp ((b2.of sHC hnd epn).trans s3) aD ⟨rt3.en,rt3.ep,rt3.ln,rt3.lp,λp hp'=>rt3.num p (cQ.mpr hp'),λp hp'=>rt3.pln p (cQ.mpr hp'),λp hp'=>rt3.good p (cQ.mpr hp'),λp hp'=>rt3.lst p (cQ.mpr hp')⟩
end
abbrev gK:List Str:=["thing","many"]
abbrev bL:Stmt:=top 20
theorem vd:bA gK q14_ (aj bL):=⟨rfl,rfl,rfl,ψ,rfl,ψ,ψ⟩
theorem iM:NM_ gK bL 0 "thing":=.of ψ
theorem uy:NM_ gK bL 1 "many":=.of ψ
theorem qL:GI_ bL "all":=ψ
theorem kI:GI_ bL "isinstance":=ψ
theorem qK:GI_ bL "len":=ψ
theorem pD:GI_ bL "list":=ψ
theorem v8:Bn "is_list_of_numbers" := ⟨ψ,ψ⟩
abbrev lR:List Str:=["thing","many"]
abbrev cT:Stmt:=top 21
theorem Ga:bA lR q14_ (aj cT):=⟨rfl,rfl,rfl,ψ,rfl,ψ,ψ⟩
theorem lX:NM_ lR cT 0 "thing":=.of ψ
theorem CV:NM_ lR cT 1 "many":=.of ψ
theorem zf:GI_ cT "all":=ψ
theorem pC:GI_ cT "enumerate":=ψ
theorem ou:GI_ cT "isinstance":=ψ
theorem zc:GI_ cT "len":=ψ
theorem wV:GI_ cT "list":=ψ
theorem Ib:Bn "is_run_paper" := ⟨ψ,ψ⟩
abbrev fH:List Str:=["stretches","weights","prices","thing","many","runs","numbers","run"]
abbrev bN:Stmt:=top 22
theorem jH:bA fH q12_ (aj bN):=⟨rfl,rfl,rfl,ψ,rfl,ψ,ψ⟩
theorem vI:NM_ fH bN 0 "stretches":=.of ψ
theorem GR:NM_ fH bN 1 "weights":=.of ψ
theorem GQ:NM_ fH bN 2 "prices":=.of ψ
theorem GP:NM_ fH bN 3 "thing":=.of ψ
theorem nR:NM_ fH bN 4 "many":=.of ψ
theorem nQ:NM_ fH bN 5 "runs":=.of ψ
theorem nP:NM_ fH bN 6 "numbers":=.of ψ
theorem nO:NM_ fH bN 7 "run":=.of ψ
theorem rP:GI_ bN "bounds_of":=ψ
theorem pq:GI_ bN "is_run_paper":=ψ
theorem Bo:GI_ bN "len":=ψ
theorem Bm:GI_ bN "min":=ψ
theorem qH:GI_ bN "runs_of_row":=ψ
theorem qG:GI_ bN "ways_of_run":=ψ
theorem yr:Bn "shows_runs" := ⟨ψ,ψ⟩
abbrev iV:List Str:=["stretches","weights","prices","numbers","plans","many"]
abbrev dh:Stmt:=top 26
theorem m7:bA iV q5_ (aj dh):=⟨rfl,rfl,rfl,ψ,rfl,ψ,ψ⟩
theorem xX:NM_ iV dh 0 "stretches":=.of ψ
theorem JN:NM_ iV dh 1 "weights":=.of ψ
theorem JM:NM_ iV dh 2 "prices":=.of ψ
theorem JL:NM_ iV dh 3 "numbers":=.of ψ
theorem JK:NM_ iV dh 4 "plans":=.of ψ
theorem xW:NM_ iV dh 5 "many":=.of ψ
theorem n6:GI_ dh "leasts_of_runs":=ψ
theorem Di:GI_ dh "len":=ψ
theorem yU:GI_ dh "range":=ψ
theorem uL:Bn "run_paper" := ⟨ψ,ψ⟩
theorem Gx:∀{ds:List AU},(ds.map fj).all id=true->∃N:List Int,ds=N.map AU.int
 | [],_=>⟨[],rfl⟩
 | d::ds,h=>by
  rw[DJ,all_cons,CH] at h;obtain⟨N,e⟩:=Gx h.2;cases d with
  | int i=>exact⟨i::N,by rw[e];rfl⟩
  | _=>exact absurd h.1 AX
theorem Jw:∀N:List Int,((N.map AU.int).map fj).all id=true
 | []=>rfl
 | i::N=>Jw N
section
variable {P:A1}{w:BD}{K:AF}{mg:Str->Option Ap}{base:Heap}{f:IN}{fd:D3}{bs:List Str}
theorem Ww(hB:∀x:Str,x∈BLs->mg x=IF)(CIsNumber:Cal P w K mg base "is_number" 1 ["thing"] U5)(F:Fun K "is_list_of_numbers" "is_list_of_numbers" bL f fd):dw P w K mg base CX0 2 f fd q14_ spListN:=by
 refine F.okz vd λcdv A outer s H vs Q E hr h=>?_;obtain⟨v,m,ok,d,rfl,hn,t,q⟩:=h;refine⟨_,(aN (bf (pO (bB bQ kI (hB "isinstance" aV) BI aW (ak (ao iM) (ak (gM "list" pD (hB "list" iC) FF ji) aq Z) Z) Z Z) (pO (lA (jy hr.cM) (bB b8 qK (hB "len" fX) B9 fY (ak (ao iM) aq Z) Z Z) (ao uy) (bC _)) (uc (bB (wZ Z) qL (hB "all" Nf) PyProof.Rows.Boot.«all» N5 (ak (cR (NX:=gK) (kX:=(aj bL).names) ["part"] [IF] Z Z ⟨rfl,ψ,ψ,ψ,ψ⟩ Z (bW (ao iM)) (λ_ _ _ _ _=>(aY 0 (show A9 (["part"]:List Str) from by decide +kernel) Z (B8 Z))) (λ_ _ _ _ _=>cB) (λ_ _ _ _ _=>(bw CIsNumber (hr.mono δ) Z N8 (ak (aQ 0) aq Z) Z Z))) aq Z) Z Z)))))),?_⟩;have no:(∀ds,d≠.list ds)->∀H',Same H H'->Q (.bl false) H':=λh H' s=>by
  have:=q H' s;rw[oV] at this
  ·exact this
  rintro⟨N,rfl,_⟩;exact h _ rfl
 cases t with
 | non=>push_cast;exact no (λds z=>by cases z) _ (Same.refl _)
 | bl b=>push_cast;exact no (λds z=>by cases z) _ (Same.refl _)
 | int i=>push_cast;exact no (λds z=>by cases z) _ (Same.refl _)
 | str x=>push_cast;exact no (λds z=>by cases z) _ (Same.refl _)
 | tup o e z t=>push_cast[e];exact no (λds z=>by cases z) _ (Same.refl _)
 | lst o e z t=>
  rename_i p xs ds;have hl:=t.length;push_cast[e];split
  ·rename_i c;have hlm:ds.length=m:=ω;refine cN λR hR=>?_;push_cast[e];obtain⟨Pc,hPc⟩:∃Pv:Nat->List V->L2.St->Hp->Prop,Pv=λ(i:Nat) acc τ H'=>∃(o0:Option V),Same H H'/\acc=((ds.take i).map fj).map As/\τ=[o0]:=⟨_,rfl⟩;refine iQ hR (xs:=xs) (aO z) Pc (by rw[hPc];exact⟨_,Same.refl _,rfl,rfl⟩) ?_ ?_ ?_ ?_
   ·intro i acc τ H2 pc;rw[hPc] at pc;obtain⟨_,_,rfl,_⟩:=pc;rw[AC,AC];exact CD _ _
   ·intro i acc τ H2 pc;rw[hPc] at pc;obtain⟨_,s2,_⟩:=pc;exact SqL.of (s2 _ _ e)
   ·intro i y acc τ H2 hy pc;rw[hPc] at pc;obtain⟨o0,s2,rfl,rfl⟩:=pc;obtain⟨d,hd,td⟩:=(t.same s2).get hy;push_cast;refine⟨_,ok,d,rfl,td,?_⟩;rw[hPc];exact⟨_,s2,by rw[take_snoc hd,A4,A4];rfl,rfl⟩
   intro acc τ H2 d pc hd;rw[hPc] at pc;obtain⟨o0,s2,rfl,rfl⟩:=pc;rw[hl,C5];have s3:=s2.trans (au (o:=By ((ds.map fj).map As)) hd);have e3:upd H2 d (By ((ds.map fj).map As)) d=ID (By ((ds.map fj).map As)):=aD;generalize upd H2 d (By ((ds.map fj).map As))=H3 at s3 e3 |-;push_cast[e3];refine⟨_,rfl,?_⟩;have:=q H3 s3;by_cases all:(ds.map fj).all id=true
   ·obtain⟨N,rfl⟩:=Gx all;rw[Cg ⟨N,rfl,by rw[AC] at hlm;exact hlm⟩] at this;rw[all];exact this
   rw[oV] at this
   ·rw[eq_false_iff.mpr all];exact this
   rintro⟨N,h1,h2⟩;cases h1;exact all (Jw N)
  rename_i c;have:=q H (Same.refl _);rw[oV] at this
  ·exact this
  rintro⟨N,h1,h2⟩;cases h1;rw[AC] at hl;omega
theorem Z9(hB:∀x:Str,x∈BLs->mg x=IF)(CIsListOfNumbers:Cal P w K mg base "is_list_of_numbers" 2 q14_ spListN)(F:Fun K "is_run_paper" "is_run_paper" cT f fd):dw P w K mg base CX0 3 f fd q14_ spIsRP:=by
 refine F.okz Ga λcdv A outer s H vs Q E hr h=>?_;obtain⟨v,n,ok,d,rfl,h60,hn,t,q⟩:=h;refine⟨_,(aF (eX (CN (xH (pK (jt (bB bQ ou (hB "isinstance" aV) BI aW (ak (ao lX) (ak (gM "list" wV (hB "list" iC) FF ji) aq Z) Z) Z Z) (λ_=>rfl))) (tZ (b7 (jU hr.cM) (bB b8 zc (hB "len" fX) B9 fY (ak (ao lX) aq Z) Z Z) (ao CV) (bC _))))) (aN (bf jb)) cP)
  (aN (bf (bB (wZ Z) zf (hB "all" Nf) PyProof.Rows.Boot.«all» N5 (ak (cR (NX:=lR) (kX:=(aj cT).names) ["first","part","many"] [IF,IF,ID 1] Z Z ⟨rfl,ψ,ψ,ψ,ψ⟩ Z (Jo pC (hB "enumerate" vL) (ak (ao lX) aq Z) Z) (λ_ _ _ _ _=>(fW (n:=2) Z (aP (aY 0 (show A9 (["first","part","many"]:List Str) from by decide +kernel) Z (B8 Z)) (aP (aY 1 (show A9 (["first","part","many"]:List Str) from by decide +kernel) Z (B8 Z)) dU Z) Z) Z Z)) (λ_ _ _ _ _=>cB) (λ_ _ _ _ _=>(bw CIsListOfNumbers (hr.mono δ) Z v8 (ak (aQ 1) (ak (aL dI (aQ 2) (aQ 0)) aq Z) Z) Z Z))) aq Z) Z Z)))),?_⟩
 have no:(∀ds,d≠.list ds)->Q (.bl false) H:=λh=>by
  have:=q H (Same.refl _);rw[oV] at this
  ·exact this
  rintro⟨N,rfl⟩;exact h _ rfl
 refine aM λk hk=>?_;cases t with
 | non=>push_cast;exact no (λds z=>by cases z)
 | bl b=>push_cast;exact no (λds z=>by cases z)
 | int i=>push_cast;exact no (λds z=>by cases z)
 | str x=>push_cast;exact no (λds z=>by cases z)
 | tup o e z t=>push_cast[e];exact no (λds z=>by cases z)
 | lst o e z t=>
  rename_i p xs ds;have hl:=t.length;push_cast[e];by_cases c:(xs.length:Int)=(n:Int)
  ·rw[decide_eq_true c,He,if_neg δ];have hln:ds.length=n:=ω;subst hk;push_cast;refine cN λR hR=>?_;push_cast[Es,Qm,e,Ql];obtain⟨g,hg⟩:∃g:Nat->V,g=λj=>blP (∃M,Cp (n-j) (ds.getD j .none) M):=⟨_,rfl⟩;obtain⟨Pc,hPc⟩:∃Pv:Nat->List V->L2.St->Hp->Prop,Pv=λ(i:Nat) acc τ H'=>∃(o0 o1:Option V),Same H H'/\acc=(BN i).map g/\τ=[o0,o1,ID (.int (n:Int))]:=⟨_,rfl⟩;refine acJ hR (xs:=xs) (aO z) Pc (by rw[hPc];exact⟨_,_,Same.refl _,rfl,rfl⟩) ?_ ?_ ?_ ?_
   ·intro i acc τ H2 pc;rw[hPc] at pc;obtain⟨_,_,_,rfl,_⟩:=pc;rw[AC,C8];exact AV _
   ·intro i acc τ H2 pc;rw[hPc] at pc;obtain⟨_,_,s2,_⟩:=pc;exact SqL.of (s2 _ _ e)
   ·intro i y acc τ H2 p2 hy pc hp2;rw[hPc] at pc;obtain⟨o0,o1,s2,rfl,rfl⟩:=pc;have hi:=(AI.mp hy).1;obtain⟨d,hd,td⟩:=(t.same s2).get hy;have s3:=au (o:=BY [At (i:Nat),y]) hp2;have e3:upd H2 p2 (BY [At (i:Nat),y]) p2=_:=aD;have td3:=td.same s3;generalize upd H2 p2 (BY [At (i:Nat),y])=H3 at s3 e3 td3 |-;push_cast[e3];refine⟨y,n-i,ok,d,by rw[show(n:Int)-(i:Int)=((n-i:Nat):Int) by omega],hn.same (s2.trans s3),td3,λH4 s4=>?_⟩;rw[hPc];refine⟨_,_,(s2.trans s3).trans s4,?_,rfl⟩;rw[range_succ,A4];congr 1;rw[hg,List.map_singleton,AY,hd];rfl
   intro acc τ H2 d2 pc hd2;rw[hPc] at pc;obtain⟨o0,o1,s2,rfl,rfl⟩:=pc;obtain⟨bsL,hbs⟩:∃bsL:List Bool,bsL=(BN n).map λj=>@decide (∃M,Cp (n-j) (ds.getD j .none) M) (EA _):=⟨_,rfl⟩;have eacc:(BN xs.length).map g=bsL.map As:=by
    rw[hg,hbs,F7,show xs.length=n by omega];rfl
   rw[eacc];have s3:=s2.trans (au (o:=By (bsL.map As)) hd2);have e3:upd H2 d2 (By (bsL.map As)) d2=ID (By (bsL.map As)):=aD;generalize upd H2 d2 (By (bsL.map As))=H3 at s3 e3 |-;push_cast[e3];refine⟨_,rfl,?_⟩;have:=q H3 s3;have iff:=rD (n:=n) (ds:=ds);by_cases all:bsL.all id=true
   ·rw[Cg (iff.mpr ⟨hln,λj hj=>?_⟩)] at this
    ·rw[all];exact this
    rw[hbs,all_map,Go] at all;exact @of_decide_eq_true _ (EA _) (all j (D9.mpr hj))
   rw[oV λz=>all ?_] at this
   ·rw[eq_false_iff.mpr all];exact this
   rw[hbs,all_map,Go];intro j hj;exact @decide_eq_true _ (EA _) ((iff.mp z).2 j (D9.mp hj))
  rw[decide_eq_false c,LG,if_pos rfl];have:=q H (Same.refl _);rw[oV] at this
  ·exact this
  intro z;have:=(rD.mp z).1;omega
theorem Ju(hB:∀x:Str,x∈BLs->mg x=IF)(CLeastsOfRuns:Cal P w K mg base "leasts_of_runs" 6 q5_ DX)(F:Fun K "run_paper" "run_paper" dh f fd):dw P w K mg base CX0 8 f fd q5_ zK:=by
 refine F.okz m7 λcdv A outer s H vs Q E hr h=>?_;obtain⟨sa,wa,t,xs,ok,ss,ws,zs,rfl,es,ts,h1,h60,ew,hwl,h5,q⟩:=h;refine⟨_,(aF (pN (bw CLeastsOfRuns (hr.mono δ) n6 Cd (ak (ao xX) (ak (ao JN) (ak (ao JM) aq Z) Z) Z) Z Z) (fW (n:=2) Z (aP (dG JL m7.nd (.inl Z)) (aP (dG JK m7.nd (.inl Z)) dU Z) Z) Z Z) Z Z Z)
  (aF (bh xW m7.nd (bB b8 Di (hB "len" fX) B9 fY (ak (ao xX) aq Z) Z Z) Z (.inl Z))
  (aN (bf (V3 (NX:=iV) (kX:=(aj dh).names) ["first","numbers","many"] [IF,ID 3,ID 5] Z Z ⟨rfl,ψ,ψ,ψ,ψ⟩ Z (jw yU (hB "range" cU) (ak (ao xW) aq Z) Z) (λ_ _ _ _ _=>(aY 0 (show A9 (["first","numbers","many"]:List Str) from by decide +kernel) Z (IP Z))) (λ_ _ _ _ _=>cB) (λ_ _ _ _ _=>(cR (NX:=["first","numbers","many"]) (kX:=_) ["behind","numbers","first"] [IF,ID 1,ID 0] Z Z ⟨rfl,ψ,ψ,by (intro y hy hf;repeat (first|(rcases A3.mp hy with rfl|hy;(first|exact IP rfl|exact B8 rfl|exact absurd hf δ))|exact absurd hy Bz)),ψ⟩ Z (ju Z (hB "range" cU) (ak (aL aX (aQ 0) aA) (ak (aL aX (aQ 2) aA) aq Z) Z) Z Z) (λ_ _ _ _ _=>(aY 0 (show A9 (["behind","numbers","first"]:List Str) from by decide +kernel) Z (B8 Z))) (λ_ _ _ _ _=>cB) (λ_ _ _ _ _=>(mK hr.fU (aQ 1) (bY (ak (aQ 2) (ak (aQ 0) aq Z) Z)) (λ_ _=>rfl)))))))))),?_⟩
 have tsl:=ts.length;rw[AC] at tsl;refine aM λk hk=>?_;push_cast;refine⟨sa,wa,t,xs,ok,ss,ws,zs,rfl,es,ts,h1,h60,ew,hwl,h5,λr nd pd H1 m N T kn kp s1 er rt=>?_⟩;push_cast[er];subst hk;refine aM λk hk=>?_;have es1:=s1 _ _ es;push_cast[es1];subst hk;rw[tsl];push_cast;refine cN λR hR=>?_;push_cast[vO];refine⟨ω,ω,?_⟩;have al:jm ss ws zs ss.length N:=λp h1 h2=>rt.lst p ⟨h1,h2⟩;obtain⟨n,hn⟩:∃n,n=ss.length:=⟨_,rfl⟩;rw[<- hn] at h60 al q hR |-;obtain⟨Pc,hPc⟩:∃Pv:Nat->List V->L2.St->Hp->Prop,Pv=λ(i:Nat) acc τ H'=>∃(rs:List IN)(o0:Option V),Same H1 H'/\acc=rs.map AT/\rs.length=i/\(∀(j:Nat) a,rs[j]?=ID a->H1 a=IF/\H' a=ID (.lst ((dZ n N j).map At)))/\τ=[o0,ID (.ref nd),ID (.int (n:Int))]:=⟨_,rfl⟩;refine uH (n:=n) hR (aO ω) Pc (by rw[hPc];exact⟨[],_,Same.refl _,rfl,rfl,(λj a h=>by cases h),rfl⟩) ?_ ?_ ?_
 ·intro i acc τ H2 pc;rw[hPc] at pc;obtain⟨rs,_,_,rfl,hl,_⟩:=pc;rw[AC];omega
 ·intro i acc τ H2 hi pc;rw[hPc] at pc;obtain⟨rs,o0,s2,rfl,hl,hrs,rfl⟩:=pc;push_cast;refine cN λR2 hR2=>?_;push_cast[vN];refine⟨ω,?_⟩;rw[show((n:Int)+1-(0+(i:Int)+1)).toNat=n-i by omega];obtain⟨Pd,hPd⟩:∃Pv:Nat->List V->L2.St->Hp->Prop,Pv=λ(j:Nat) acc τ H'=>∃(o0:Option V),Same H2 H'/\acc=((dZ n N i).take j).map At/\τ=[o0,ID (.ref nd),ID (.int (0+(i:Int)))]:=⟨_,rfl⟩;refine uH (n:=n-i) hR2 (aO ω) Pd (by rw[hPd];exact⟨_,Same.refl _,rfl,rfl⟩) ?_ ?_ ?_
  ·intro j acc τ H3 pd';rw[hPd] at pd';obtain⟨_,_,rfl,_⟩:=pd';rw[AC];exact CD _ _
  ·intro j acc τ H3 hj pd';rw[hPd] at pd';obtain⟨o0',s3,rfl,rfl⟩:=pd';have rt3:=(rt.same s2).same s3;push_cast[rdA];refine⟨aO δ,λp hp=>?_⟩;have s4:=au (o:=BY [At (0+(i:Int)),At (0+(i:Int)+1+(j:Int))]) hp;have e4:upd H3 p (BY [At (0+(i:Int)),At (0+(i:Int)+1+(j:Int))]) p=ID (.tup [At (i:Int),At ((i+1+j:Nat):Int)]):=by
    rw[aD,show(0:Int)+(i:Int)=(i:Int) by omega,show(i:Int)+1+(j:Int)=((i+1+j:Nat):Int) by omega]
   have rt4:=rt3.same s4;generalize upd H3 p (BY [At (0+(i:Int)),At (0+(i:Int)+1+(j:Int))])=H4 at s4 e4 rt4 |-;refine⟨nd,_,rfl,j7.k2 rt4.en e4 (rt4.num (i,i+1+j) ⟨by dsimp only;omega,by dsimp only;omega⟩),?_⟩;rw[hPd];refine⟨_,s3.trans s4,?_,rfl⟩;rw[take_snoc (gR hj),A4];rfl
  intro acc τ H3 d pd' hd;rw[hPd] at pd';obtain⟨o0',s3,rfl,rfl⟩:=pd';rw[Ex (by rw[dH];exact AV _)];have s4:=au (o:=By ((dZ n N i).map At)) hd;rw[hPc];have s24:=s3.trans s4;refine⟨rs++[d],_,s2.trans s24,by rw[A4];rfl,by rw[A0,hl];rfl,λj a hj=>?_,rfl⟩;rcases FU j rs.length with c|c
  ·rw[EU c] at hj;obtain⟨g1,g2⟩:=hrs j a hj;exact⟨g1,s24 _ _ g2⟩
  rw[Dx c] at hj;have:j-rs.length=0:=by
   have:=(AI.mp hj).1;rw[B4] at this;omega
  rw[this] at hj;cases hj;rw[show j=i by omega];exact⟨(s2.trans s3).none hd,aD⟩
 intro acc τ H2 d pc hd;rw[hPc] at pc;obtain⟨rs,o0,s2,rfl,hl,hrs,rfl⟩:=pc;have s3:=au (o:=By (rs.map AT)) hd;subst hn;exact q d rs N _ ((s1.trans s2).trans s3) ((s1.trans s2).none hd) aD hl (λj a hj=>⟨s1.none (hrs j a hj).1,s3 _ _ (hrs j a hj).2⟩) al
theorem RN(hB:∀x:Str,x∈BLs->mg x=IF)(CIsRunPaper:Cal P w K mg base "is_run_paper" 3 q14_ spIsRP)(CRunsOfRow:Cal P w K mg base "runs_of_row" 1 ["many"] DN)(CBoundsOf:Cal P w K mg base "bounds_of" 1 q18_ Rc)(CWaysOfRun:Cal P w K mg base "ways_of_run" 4 q8_ FP)(F:Fun K "shows_runs" "shows_runs" bN f fd):dw P w K mg base CX0 6 f fd q12_ spShowsR:=by
 refine F.okz jH λcdv A outer s H vs Q E hr h=>?_;obtain⟨sa,wa,t,v,xs,ok,ok2,ss,ws,zs,d,rfl,es,ts,h1,h60,ew,hwl,h5,hnn,hnw,td,q⟩:=h;refine⟨_,(aF (bh nR jH.nd (bB b8 Bo (hB "len" fX) B9 fY (ak (ao vI) aq Z) Z Z) Z (.inl Z))
  (aF (eX (pK (jt (bw CIsRunPaper (hr.mono δ) pq Ib (ak (ao GP) (ak (ao nR) aq Z) Z) Z Z) (λ_=>rfl))) (aN (bf jb)) cP)
  (aF (bh nQ jH.nd (bw CRunsOfRow (hr.mono δ) qH yt (ak (ao nR) aq Z) Z Z) Z (.inl Z))
  (aF (VP (NX:=["stretches","weights","prices","thing","many","runs","numbers","run"]) (kX:=(aj bN).names) ["first","behind","thing"] [IF,IF,ID 3] nP jH.nd Z Z ⟨rfl,ψ,ψ,ψ,ψ⟩ Z hr.cM (bW (ao nQ)) (λ_ _ _ _ _=>(fW (n:=2) Z (aP (aY 0 (show A9 (["first","behind","thing"]:List Str) from by decide +kernel) Z (B8 Z)) (aP (aY 1 (show A9 (["first","behind","thing"]:List Str) from by decide +kernel) Z (B8 Z)) dU Z) Z) Z Z)) (λ_ _ _ _ _=>cB) (λ_ _ _ _ _=>(bY (ak (aQ 0) (ak (aQ 1) aq Z) Z))) (λ_ _ _ _ _=>(aR bJ (aR bJ (aQ 2) (aQ 0) (λ_ _=>rfl)) (aL dI (aL dI (aQ 1) (aQ 0)) aA) (λ_ _=>rfl))))
  (aF (fV BU Z (bW (ao nQ)) (dG nO jH.nd (.inl Z))
  (aN (eX (b7 Ej (mK hr.fU (ao nP) (ao nO) (λ_ _=>rfl)) (bB (rG Z) Bm (hB "min" uz) LU uJ (ak (bw CBoundsOf (hr.mono δ) rP Ce (ak (bw CWaysOfRun (hr.mono δ) qG yq (ak (ao vI) (ak (ao GR) (ak (ao GQ) (ak (ao nO) aq Z) Z) Z) Z) Z Z) (ak (ao nP) aq Z) Z) Z Z) aq Z) Z Z) (bC _)) (aN (bf jb)) cP)) (λ_=>rfl))
  (aN (bf jb))))))),?_⟩
 have tsl:=ts.length;rw[AC] at tsl;refine aM λk hk=>?_;push_cast[es];rw[tsl];subst hk;refine aM λk hk=>?_;push_cast;refine⟨v,ss.length,ok2,d,rfl,h60,hnw,td,λH1 s1=>?_⟩;by_cases c:QV ss.length d
 ·rw[Cg c];obtain⟨N,rfl⟩:=c;push_cast;subst hk;refine aM λk hk=>?_;push_cast;refine⟨ss.length,rfl,h60,λr rs H2 s2 hr0 er tr=>?_⟩;have s12:=s1.trans s2;have trl:=tr.length;rw[AC] at trl;have hrl:=ni ss.length ss.length h60;push_cast;subst hk;refine aM λk hk=>?_;refine XH λR hR=>?_;push_cast[er];have td2:=td.same s12;obtain⟨Pc,hPc⟩:∃Pv:Nat->uR->L2.St->Hp->Prop,Pv=λ(i:Nat) acc τ H'=>∃(o0 o1:Option V),Same H2 H'/\acc.length=i/\KAt acc H'/\uO acc=uf N ((dF ss.length ss.length).take i)/\τ=[o0,o1,ID v]:=⟨_,rfl⟩;refine XF hR (xs:=rs) (rY ω) Pc (by rw[hPc];exact⟨_,_,Same.refl _,rfl,(λx h=>by cases h),rfl,rfl⟩) ?_ ?_ ?_
  ·intro i acc τ H3 pc;rw[hPc] at pc;obtain⟨_,_,s3,hl,ka,_⟩:=pc;exact⟨le_of_eq hl,ka,SqL.of (s3 _ _ er)⟩
  ·intro i y acc τ H3 hy pc;rw[hPc] at pc;obtain⟨o0,o1,s3,hl,ka,eacc,rfl⟩:=pc;obtain⟨dd,hd,tdd⟩:=(tr.same s3).get hy;rw[AL] at hd;obtain⟨⟨a,b⟩,hp,rfl⟩:=BG.mp hd;obtain⟨rp,rfl,erp⟩:=lq tdd;dsimp only at erp;obtain⟨hab,hbn⟩:=cQ.mp (A8 hp);dsimp only at hab hbn;push_cast[erp];refine⟨aO δ,λkb hkb=>?_⟩;have s4:=au (o:=BY [At (a:Int),At (b:Int)]) hkb;have e4:upd H3 kb (BY [At (a:Int),At (b:Int)]) kb=ID (.tup ((key2 (a:Int) (b:Int)).map kV)):=aD;have ka4:KAt acc (upd H3 kb (BY [At (a:Int),At (b:Int)])):=λx hx=>s4 _ _ (ka x hx);generalize upd H3 kb (BY [At (a:Int),At (b:Int)])=H4 at s4 e4 ka4 |-;obtain⟨pd,rws,ra,ns,rfl,ep,hat,era,hat2⟩:=zy (td2.same (s3.trans s4)) hab hbn;push_cast[ep,hat,era,hat2];refine⟨key2 (a:Int) (b:Int),e4,ka4,λx hx e=>?_,?_⟩
   ·have hm:(x.1,x.2.2)∈uO acc:=C9.mpr ⟨x,hx,rfl⟩;rw[eacc] at hm;obtain⟨p,hp',ep'⟩:=C9.mp hm;have e5:key2 (p.1:Int) (p.2:Int)=key2 (a:Int) (b:Int):=(congrArg Prod.fst ep').trans e;have e6:=qu e5;have:p=(a,b):=Prod.ext (congrArg Prod.fst e6) (congrArg Prod.snd e6);subst this;have:=((Ot (Ec ss.length) hp _).mp hp').2;unfold bfR at this;dsimp only at this;omega
   rw[hPc];refine⟨_,_,s3.trans s4,by rw[A0,hl];rfl,λx hx=>?_,?_,rfl⟩
   ·rcases Cf.mp hx with hx|hx
    ·exact ka4 x hx
    rw[AJ.mp hx];exact e4
   unfold uO at eacc |-;rw[A4,eacc,take_snoc hp];unfold uf;rw[A4];rfl
  intro acc τ H3 d3 pc hd3;rw[hPc] at pc;obtain⟨o0,o1,s3,hl,ka,eacc,rfl⟩:=pc;rw[trl,C5] at eacc;rw[eacc];have s4:=s3.trans (au (o:=Do (uf N (dF ss.length ss.length))) hd3);have e4:upd H3 d3 (Do (uf N (dF ss.length ss.length))) d3=ID (Do (uf N (dF ss.length ss.length))):=aD;generalize upd H3 d3 (Do (uf N (dF ss.length ss.length)))=H4 at s4 e4 |-;clear hR hPc Pc eacc ka;push_cast;subst hk;refine aM λk hk=>?_;refine jo λR hR=>?_;have er4:=s4 _ _ er;push_cast[er4];obtain⟨Pv,hPv⟩:∃Pv:Nat->L2.St->Hp->Prop,Pv=λ(i:Nat) σ H'=>∃(o7:Option V),Same H4 H'/\wj ss ws zs N ((dF ss.length ss.length).take i)/\σ=[ID (.ref sa),ID (.ref wa),ID (.ref t),ID v,ID (.int (ss.length:Int)),ID (.ref r),ID (.ref d3),o7]:=⟨_,rfl⟩;refine Bw hR (xs:=rs) Pv (by rw[hPv];exact⟨_,Same.refl _,(λp h=>by cases h),rfl⟩) ?_ ?_ ?_
  ·intro i σ H5 _ pv;rw[hPv] at pv;obtain⟨_,s5,_⟩:=pv;exact SqL.of (s5 _ _ er4)
  ·intro i y σ H5 hy pv;rw[hPv] at pv;obtain⟨o7,s5,bl,rfl⟩:=pv;obtain⟨dd,hd,tdd⟩:=(tr.same (s4.trans s5)).get hy;rw[AL] at hd;obtain⟨⟨a,b⟩,hp,rfl⟩:=BG.mp hd;obtain⟨rp,rfl,erp⟩:=lq tdd;dsimp only at erp;have hmem:=A8 hp;obtain⟨hab,hbn⟩:=cQ.mp hmem;dsimp only at hab hbn;have s05:=s12.trans (s4.trans s5);have e5:=s5 _ _ e4;push_cast;refine⟨d3,_,rfl,j7.k2 e5 erp (tX hmem),?_⟩;refine⟨sa,wa,t,rp,a,b,xs,ok,ss,ws,zs,rfl,s05 _ _ es,ts.same s05,h60,s05 _ _ ew,hwl,⟨s05 _ _ h5.1,h5.2⟩,erp,hab,hbn,λwr ys W H6 s6 hwr ewr hW hWn tW hyl=>?_⟩;push_cast;refine⟨N,wr,d3,_,ys,W,_,rfl,⟨ewr,tW,ω,s6 _ _ e5,λx hx p hp'=>?_,λx hx=>Oj ((hW x).mp hx)⟩,λbd H7 s7 hbd ebd=>?_⟩
   ·obtain⟨g1,g2,g3,g4⟩:=vm ((hW x).mp hx) p hp';exact tX (cQ.mpr ⟨g2,ω⟩)
   push_cast;refine⟨_,.inl ebd,λz=>hWn (LV.mp z),λM hM hle=>?_⟩;have s57:=s5.trans (s6.trans s7);split
   ·rename_i c;have:=q H7 (s12.trans (s4.trans s57));rw[oV] at this
    ·exact this
    intro z;obtain⟨w1,hw1,rfl⟩:=C9.mp hM;have:=iG.mp z a b hab hbn w1 ((hW w1).mp hw1);omega
   rename_i c;rw[hPv];refine⟨_,s57,?_,rfl⟩;rw[take_snoc hp];refine bl.snoc λx hx=>?_;have:=hle _ (E9 ((hW x).mpr hx));dsimp only;omega
  intro σ H5 pv;rw[hPv] at pv;obtain⟨o7,s5,bl,rfl⟩:=pv;rw[trl,C5] at bl;show k _ H5;subst hk;push_cast;have:=q H5 (s12.trans (s4.trans s5));rw[Cg (iG.mpr (Kv.mp bl))] at this;exact this
 rw[oV c];push_cast;have:=q H1 s1;rw[oV] at this
 ·exact this
 rintro⟨N,e,_⟩;exact c ⟨N,e⟩
abbrev c7:List Str:=["_law_tape_here","_law_many","_law_low","_law_labels","_law_found","_law_k","_law_far","_law_wide","_law_label"]
abbrev bR:Stmt:=top 31
theorem cI:bA c7 q0_ (aj bR):=⟨rfl,rfl,rfl,ψ,rfl,ψ,ψ⟩
theorem cg:NM_ c7 bR 0 "_law_tape_here":=.of ψ
theorem CQ:NM_ c7 bR 1 "_law_many":=.of ψ
theorem gZ:NM_ c7 bR 2 "_law_low":=.of ψ
theorem jD:NM_ c7 bR 3 "_law_labels":=.of ψ
theorem gY:NM_ c7 bR 4 "_law_found":=.of ψ
theorem CP:NM_ c7 bR 5 "_law_k":=.of ψ
theorem sy:NM_ c7 bR 6 "_law_far":=.of ψ
theorem gW:NM_ c7 bR 7 "_law_wide":=.of ψ
theorem gU:NM_ c7 bR 8 "_law_label":=.of ψ
theorem bD:GI_ bR "_law_take":=ψ
theorem yP:GI_ bR "max":=ψ
theorem vR:GI_ bR "range":=ψ
theorem Hx:Bn "_law_stretches" := ⟨ψ,ψ⟩
theorem ab5(hB:∀x:Str,x∈BLs->mg x=IF)(CZTake:Cal P w K mg base "_law_take" 2 q0_ (lV 2))(F:Fun K "_law_stretches" "_law_stretches" bR f fd):dw P w K mg base CX0 3 f fd q0_ K6:=by
 refine F.okz cI λcdv A outer s H vs Q E hr h=>?_;obtain⟨p,m,B,rfl,tp,hB0,hB1,hm1,hm2,q⟩:=h;refine⟨_,(aF (bh gZ cI.nd (aR bJ (eY (ak aA (ak (aL dI (bw CZTake (hr.mono δ) bD cJ (ak (ao cg) (ak aA aq Z) Z) Z Z) aA) (ak (aL dI (bw CZTake (hr.mono δ) bD cJ (ak (ao cg) (ak (aL uh aA aA) aq Z) Z) Z Z) (aL uh aA aA)) (ak (aL dI aA (aL abZ aA aA)) aq Z) Z) Z) Z)) (bw CZTake (hr.mono δ) bD cJ (ak (ao cg) (ak aA aq Z) Z) Z Z) (λ_ _=>rfl)) Z (.inl Z))
  (aF (bh jD cI.nd (aL aX aA (bw CZTake (hr.mono δ) bD cJ (ak (ao cg) (ak aA aq Z) Z) Z Z)) Z (.inl Z))
  (aF (bh gY cI.nd (eY aq) Z (.inl Z))
  (aF (fV BU Z (jw vR (hB "range" cU) (ak (ao CQ) aq Z) Z) (dG CP cI.nd (.inl Z))
  (aF (bh sy cI.nd (aR bJ (eY (ak (aL uh aA aA) (ak (aL uh aA aA) aq Z) Z)) (bw CZTake (hr.mono δ) bD cJ (ak (ao cg) (ak aA aq Z) Z) Z Z) (λ_ _=>rfl)) Z (.inl Z))
  (aF (bh gW cI.nd (eY (ak aA (ak aA (ak aA (ak (aL aX aA (bw CZTake (hr.mono δ) bD cJ (ak (ao cg) (ak aA aq Z) Z) Z Z)) (ak (aL aX aA (bw CZTake (hr.mono δ) bD cJ (ak (ao cg) (ak aA aq Z) Z) Z Z)) (ak (aL aX aA (bw CZTake (hr.mono δ) bD cJ (ak (ao cg) (ak (ao sy) aq Z) Z) Z Z)) aq Z) Z) Z) Z) Z) Z)) Z (.inl Z))
  (aF (bh gW cI.nd (aR bJ (ao gW) (bB (Tq Z) yP (hB "max" ab8) boot_max acK (ak aA (ak (aL dI (bw CZTake (hr.mono δ) bD cJ (ak (ao cg) (ak aA aq Z) Z) Z Z) aA) aq Z) Z) Z Z) (λ_ _=>rfl)) Z (.inl Z))
  (aF (bh gU cI.nd (bw CZTake (hr.mono δ) bD cJ (ak (ao cg) (ak (ao jD) aq Z) Z) Z Z) Z (.inl Z))
  (aF (eX (CN (Lj (b7 (Wq hr.cM) (ao gY) (eY aq) (bC _)) (Gn (b7 (jy hr.cM) (aR bJ (aR bJ (ao gY) (xJ pG aA) (λ_ _=>rfl)) aA (λ_ _=>rfl)) (ao gU) (bC _))))) (aN (bh gU cI.nd (aL jV (aL aX (aL aX (ao gU) aA) (bw CZTake (hr.mono δ) bD cJ (ak (ao cg) (ak (aL dI (ao jD) aA) aq Z) Z) Z Z)) (ao jD)) Z (.inl Z))) cP)
  (aF (iY (lM (ao gY) (bY (ak (ao gZ) (ak (aL dI (aL aX (ao gZ) (ao gW)) aA) (ak (ao gU) aq Z) Z) Z)) Z Z Z Z Z) Z)
  (aN (bh gZ cI.nd (aL aX (ao gZ) (ao gW)) Z (.inl Z))))))))) (λ_=>rfl))
  (aN (bf (ao gY))))))),?_⟩
 refine aM λk hk=>?_;push_cast;refine⟨p,100,B,rfl,tp,by show B+2<=1000100;omega,δ,δ,δ,λz=>absurd z δ,λr1 H1 r10 r11 s1 tp1=>?_⟩;push_cast;refine⟨⟨δ,δ,δ⟩,?_⟩;refine⟨p,10^9,B+2,rfl,tp1,by show B+2+2<=1000100;omega,δ,δ,δ,λz=>by decide,λr2 H2 r20 r21 s2 tp2=>?_⟩;push_cast[Int.one_mul];refine⟨⟨δ,δ,δ⟩,?_⟩;refine⟨⟨δ,δ,δ⟩,aO δ,λl0 hl0=>?_⟩;have s3:=au (o:=By [At 0,At (r1-50),At (r2-10^B6 8),At (0-2^B6 39)]) hl0;have tp3:=tp2.same s3;have n3:=tp2.ne hl0;have e3:upd H2 l0 (By [At 0,At (r1-50),At (r2-10^B6 8),At (0-2^B6 39)]) l0=_:=aD;generalize upd H2 l0 (By [At 0,At (r1-50),At (r2-10^B6 8),At (0-2^B6 39)])=H3 at s3 tp3 e3 |-;refine⟨p,4,B+2+2,rfl,tp3,by show B+2+2+2<=1000100;omega,δ,δ,δ,λz=>absurd z δ,λr4 H4 r40 r41 s4 tp4=>?_⟩;obtain⟨lo,hlo,elo⟩:=pP (is:=[0,r1-50,r2-10^B6 8,0-2^B6 39]) r40 r41;replace elo:atI [At 0,At (r1-50),At (r2-10^B6 8),At (0-2^B6 39)] r4=ID (.int lo):=elo;have e4:=s4 _ _ n3 e3;have blo:-(10^12)<=lo/\lo<=10^9:=by
  simp only[A3,Bz,or_false] at hlo;have:(10:Int)^B6 8=100000000:=by decide
  have:(2:Int)^B6 39=549755813888:=by decide
  rcases hlo with z|z|z|z <;> omega
 have sx4:bG p H H4:=((s1.trans s2).trans s3.x).trans s4;push_cast[e4,elo];subst hk;refine aM λk hk=>?_;push_cast;refine⟨p,4,B+2+2+2,rfl,tp4,by show B+2+2+2+2<=1000100;omega,δ,δ,δ,λz=>absurd z δ,λr5 H5 r50 r51 s5 tp5=>?_⟩;push_cast;subst hk;refine aM λk hk=>?_;push_cast;refine⟨aO δ,λl hl=>?_⟩;have sx5:=sx4.trans s5;have hlp:l≠p:=tp5.ne hl;have Hl:H l=IF:=(Bv sx5 tp5 hl).2;have s6:=au (o:=By []) hl;have tp6:=tp5.same s6;have e6:upd H5 l (By []) l=_:=aD;generalize upd H5 l (By [])=H6 at s6 tp6 e6 |-;have sx6:=sx5.trans s6.x;subst hk;obtain⟨OD,hOD⟩:∃OD:IN->Prop,OD=λa=>a≠p/\a≠l:=⟨_,rfl⟩;have kd:∀{H H':Hp},bG p H H'->∀a o,OD a->H a=ID o->OD a/\H' a=ID o:=λ{H H'} sx a o h e=>by
  refine⟨h,sx a o ?_ e⟩;rw[hOD] at h;exact h.1
 refine aM λk hk=>?_;refine jo λR hR=>?_;push_cast[vO];refine⟨ω,ω,?_⟩;obtain⟨Pv,hPv⟩:∃Pv:Nat->L2.St->Hp->Prop,Pv=λ(i:Nat) σ H'=>∃(xs:List V)(ss:List (Int×Int×Int)) (lo:Int) (o5 o6 o7 o8:Option V),bG p H H'/\bF H' p (B+8+18*(i:Int))/\H' l=ID (.lst xs)/\aG OD H' xs (ss.map stD)/\ss.length=i/\KD ss /\
  (∀s,ss[ss.length-1]?=ID s->lo=s.2.1+1)/\(∀s,ss[0]?=ID s->s.1<=10^9)/\-(10^12)<=lo/\lo<=10^9+(10^12+10)*(i:Int)/\σ=[ID (.ref p),ID (.int m),ID (.int lo),ID (.int (2+r5)),ID (.ref l),o5,o6,o7,o8]:=⟨_,rfl⟩
 refine Eu hR Pv (by rw[hPv];exact⟨[],[],lo,_,_,_,_,sx6,tp6.le (by show B+2+2+2+2<=B+8+18*((0:Nat):Int);omega),e6,.nil,rfl,KD.nil,λs h=>(by cases h),λs h=>(by cases h),blo.1,by show lo<=10^9+(10^12+10)*((0:Nat):Int);omega,rfl⟩) ?_ ?_
 ·intro i σ H7 hi pv;rw[hPv] at pv;obtain⟨xs,ss,lo,o5,o6,o7,o8,sx7,tp7,e7,ts7,hsl,row,hlast,hfst,bl1,bl2,rfl⟩:=pv;have hi60:i<60:=ω;refine aM λk2 hk2=>?_;push_cast;refine⟨⟨δ,δ,δ⟩,⟨δ,δ,δ⟩,aO δ,λl1 hl1=>?_⟩;have s8:=au (o:=By [At (10^B6 9),At (10^B6 12)]) hl1;have tp8:=tp7.same s8;have n8:=tp7.ne hl1;have e8:=s8 _ _ e7;have ts8:=ts7.same s8;have e81:upd H7 l1 (By [At (10^B6 9),At (10^B6 12)]) l1=_:=aD;generalize upd H7 l1 (By [At (10^B6 9),At (10^B6 12)])=H8 at s8 tp8 e8 ts8 e81 |-;have sx8:=sx7.trans s8.x;refine⟨p,2,B+8+18*(i:Int),rfl,tp8,by show B+8+18*(i:Int)+2<=1000100;omega,δ,δ,δ,λz=>absurd z δ,λr9 H9 r90 r91 s9 tp9=>?_⟩;obtain⟨far,hfar,efar⟩:=pP (is:=[10^B6 9,10^B6 12]) r90 r91;replace efar:atI [At (10^B6 9),At (10^B6 12)] r9=ID (.int far):=efar;have e91:=s9 _ _ n8 e81;have e9:=s9 _ _ hlp e8;have ts9:=ts8.keep (kd s9);have sx9:=sx8.trans s9;have bfar:10^9<=far/\far<=10^12:=by
   simp only[A3,Bz,or_false] at hfar;have:(10:Int)^B6 9=1000000000:=by decide
   have:(10:Int)^B6 12=1000000000000:=by decide
   rcases hfar with z|z <;> omega
  push_cast[e91,efar];subst hk2;refine aM λk2 hk2=>?_;push_cast;refine⟨p,4,B+8+18*(i:Int)+2,rfl,tp9,by show B+8+18*(i:Int)+2+2<=1000100;omega,δ,δ,δ,λz=>absurd z δ,λu1 H10 u10 u11 s10 tp10=>?_⟩;push_cast;refine⟨p,30,B+8+18*(i:Int)+2+2,rfl,tp10,by show B+8+18*(i:Int)+2+2+2<=1000100;omega,δ,δ,δ,λz=>absurd z δ,λu2 H11 u20 u21 s11 tp11=>?_⟩;push_cast;refine⟨p,far,B+8+18*(i:Int)+2+2+2,rfl,tp11,by show B+8+18*(i:Int)+2+2+2+2<=1000100;omega,ω,ω,δ,λ_=>by decide,λu3 H12 u30 u31 s12 tp12=>?_⟩;push_cast;refine⟨aO δ,λl2 hl2=>?_⟩;have e12:=s12 _ _ hlp (s11 _ _ hlp (s10 _ _ hlp e9));have ts12:=((ts9.keep (kd s10)).keep (kd s11)).keep (kd s12);have sx12:=((sx9.trans s10).trans s11).trans s12;have s13:=au (o:=By [At 1,At 1,At 1,At (2+u1),At (2+u2),At (1+u3)]) hl2;have tp13:=tp12.same s13;have n13:=tp12.ne hl2;have e13:=s13 _ _ e12;have ts13:=ts12.same s13;have e132:upd H12 l2 (By [At 1,At 1,At 1,At (2+u1),At (2+u2),At (1+u3)]) l2=_:=aD;generalize upd H12 l2 (By [At 1,At 1,At 1,At (2+u1),At (2+u2),At (1+u3)])=H13 at s13 tp13 e13 ts13 e132 |-;have sx13:=sx12.trans s13.x;subst hk2;refine aM λk2 hk2=>?_;push_cast;refine⟨p,11,B+8+18*(i:Int)+2+2+2+2,rfl,tp13,by show B+8+18*(i:Int)+2+2+2+2+2<=1000100;omega,δ,δ,δ,λz=>absurd z δ,λu4 H14 u40 u41 s14 tp14=>?_⟩;have e14:=s14 _ _ hlp e13;have ts14:=ts13.keep (kd s14);have sx14:=sx13.trans s14;have e142:=s14 _ _ n13 e132;have bu:0<=(if u4-5>0 then u4-5 else 0)/\(if u4-5>0 then u4-5 else 0)<6:=by split <;> omega
  obtain⟨wide,hwide,ewide⟩:=pP (is:=[1,1,1,2+u1,2+u2,1+u3]) bu.1 bu.2;replace ewide:atI [At 1,At 1,At 1,At (2+u1),At (2+u2),At (1+u3)] (if u4-5>0 then u4-5 else 0)=ID (.int wide):=ewide;have bwide:1<=wide/\wide<=10^12:=by
   simp only[A3,Bz,or_false] at hwide;rcases hwide with z|z|z|z|z|z <;> omega
  push_cast[e142,ewide];subst hk2;refine aM λk2 hk2=>?_;push_cast;refine⟨p,2+r5,B+8+18*(i:Int)+2+2+2+2+2,rfl,tp14,by show B+8+18*(i:Int)+2+2+2+2+2+2<=1000100;omega,ω,ω,δ,λz=>absurd z ω,λlab H15 lab0 lab1 s15 tp15=>?_⟩;have e15:=s15 _ _ hlp e14;have ts15:=ts14.keep (kd s15);have sx15:=sx14.trans s15;push_cast;subst hk2;refine aM λk2 hk2=>?_;have rest:∀(b:Int) H16 o5 o6,0<=b->b<=9->bG p H H16->H16 l=ID (.lst xs)->aG OD H16 xs (ss.map stD)->bF H16 p (B+8+18*(i:Int)+14)->k2 [ID (.ref p),ID (.int m),ID (.int lo),ID (.int (2+r5)),ID (.ref l),o5,o6,ID (.int wide),ID (.int b)] H16:=by
   intro b H16 o5 o6 b0 b9 sx16 e16 ts16 tp16;subst hk2;refine aM λk3 hk3=>?_;push_cast[e16];refine⟨aO δ,λt ht=>?_⟩;have s17:=au (o:=BY [At lo,At (lo+wide-1),At b]) ht;have e17:=s17 _ _ e16;have tp17:=tp16.same s17;have ts17:=ts16.same s17;have nt:t≠p:=tp16.ne ht;have nl:t≠l:=(aB e16 ht).symm;have et:upd H16 t (BY [At lo,At (lo+wide-1),At b]) t=_:=aD;generalize upd H16 t (BY [At lo,At (lo+wide-1),At b])=H17 at s17 e17 tp17 ts17 et |-;have hxl:=ts17.length;rw[AC] at hxl;push_cast[e17];refine⟨BB (show xs.length<1000000 by omega) (aO (AV _)),?_⟩;have sx18:bG p H (upd H17 l (By (xs++[AT t]))):=Rj (sx16.trans s17.x) Hl;have tp18:bF (upd H17 l (By (xs++[AT t]))) p (B+8+18*(i:Int)+14):=tp17.upd hlp;have e18:upd H17 l (By (xs++[AT t])) l=_:=aD;have kk:∀a o,OD a->H17 a=ID o->OD a/\upd H17 l (By (xs++[AT t])) a=ID o:=λa o h e=>by
    refine⟨h,?_⟩;rw[hOD] at h;rw[aH h.2];exact e
   have tt:aJ OD H17 (.ref t) (stD (lo,lo+wide-1,b)):=.tup (by rw[hOD];exact⟨nt,nl⟩) et (by show 3<=1000000;decide) (.cons (.int _) (.cons (.int _) (.cons (.int _) .nil)));have ts18:=(ts17.keep kk).append (.cons (tt.keep kk) .nil);generalize upd H17 l (By (xs++[AT t]))=H18 at sx18 tp18 e18 ts18 |-;subst hk3;push_cast;rw[hPv];refine⟨_,ss++[(lo,lo+wide-1,b)],lo+wide,_,_,_,_,sx18,tp18.le (by show B+8+18*(i:Int)+14<=B+8+18*((i+1:Nat):Int);omega),e18,by rw[A4];exact ts18,by rw[A0,B4,hsl],row.snoc ω ⟨b0,b9⟩ ⟨bl1,by rw[hsl];omega⟩ hlast,λs hs=>?_,λs hs=>?_,ω,by show lo+wide<=10^9+(10^12+10)*((i+1:Nat):Int);omega,rfl⟩
   ·rw[A0,B4,Nat.add_sub_cancel,Dx (AV _),sub_self] at hs;cases hs;show lo+wide=lo+wide-1+1;omega
   cases ss with
   | nil=>
    cases hs;show lo<=10^9;have:i=0:=hsl.symm;subst this;omega
   | cons s0 ss0=>exact hfst s hs
  refine Xd λkt ke hkt hke=>?_;push_cast;refine⟨aO δ,λl3 hl3=>?_⟩;have s16:=au (o:=By []) hl3;refine⟨_,_,xs,rfl,rfl,s16 _ _ e15,aD,?_⟩;have e16:=s16 _ _ e15;have ts16:=ts15.same s16;have sx16:=sx15.trans s16.x;have tp16:=tp15.same s16;generalize upd H15 l3 (By [])=H16 at s16 e16 ts16 sx16 tp16 |-;have hxl:=ts16.length;rw[AC] at hxl;cases hx:xs.isEmpty with
  | true=>
   push_cast;subst hke;push_cast;exact rest lab H16 _ _ lab0 ω sx16 e16 ts16 (tp16.le (by show B+8+18*(i:Int)+2+2+2+2+2+2<=_;omega))
  | false=>
   have hpos:1<=xs.length:=by
    cases xs with
    | nil=>cases hx
    | cons a b=>simp
   obtain⟨j,x,hxj,hxl2⟩:=aao xs hpos;obtain⟨ax,sx,rfl,okx,hsx,ex⟩:=ts16.st hxj;push_cast[e16,hxl2,ex];split
   ·subst hkt;push_cast;refine⟨p,2+r5-1,B+8+18*(i:Int)+2+2+2+2+2+2,rfl,tp16,by show B+8+18*(i:Int)+2+2+2+2+2+2+2<=1000100;omega,ω,ω,δ,λz=>absurd z ω,λu6 H17 u60 u61 s17 tp17=>?_⟩;push_cast;refine⟨ω,?_⟩;have h1:=FV (lab+1+u6) (show(2+r5:Int)≠0 by omega);have h2:=EM (lab+1+u6) (show(0:Int)<2+r5 by omega);exact rest _ H17 _ _ h1 ω (sx16.trans s17) (s17 _ _ hlp e16) (ts16.keep (kd s17)) (tp17.le (by show B+8+18*(i:Int)+2+2+2+2+2+2+2<=_;omega))
   subst hke;push_cast;exact rest lab H16 _ _ lab0 ω sx16 e16 ts16 (tp16.le (by show B+8+18*(i:Int)+2+2+2+2+2+2<=_;omega))
 intro σ H7 pv;rw[hPv] at pv;obtain⟨xs,ss,lo,o5,o6,o7,o8,sx7,tp7,e7,ts7,hsl,row,hlast,hfst,bl1,bl2,rfl⟩:=pv;show k _ _;subst hk;push_cast;have hxl:=ts7.length;rw[AC] at hxl;refine q l ss H7 sx7 (tp7.le ω) (.lst hlp e7 ω (ts7.keep λa o h e=>?_)) ω row hfst;rw[hOD] at h;exact⟨h.1,e⟩
abbrev Ih:List Str:=["_law_found","_law_due"]
abbrev iI:Stmt:=top 34
theorem YG:bA Ih q10_ (aj iI):=⟨rfl,rfl,rfl,ψ,rfl,ψ,ψ⟩
theorem gq:NM_ Ih iI 0 "_law_found":=.of ψ
theorem fO:NM_ Ih iI 1 "_law_due":=.of ψ
theorem Nu:GI_ iI "all":=ψ
theorem qz:GI_ iI "bool":=ψ
theorem Nt:GI_ iI "int":=ψ
theorem bx:GI_ iI "isinstance":=ψ
theorem Az:GI_ iI "len":=ψ
theorem qy:GI_ iI "list":=ψ
theorem uE:GI_ iI "str":=ψ
theorem nY:GI_ iI "tuple":=ψ
theorem Nr:GI_ iI "zip":=ψ
theorem QF:Bn "_law_same" := ⟨ψ,ψ⟩
theorem Z7{n:Nat}(hB:∀x:Str,x∈BLs->mg x=IF)(CZSame:Cal P w K mg base "_law_same" n q10_ (qZ n))(F:Fun K "_law_same" "_law_same" iI f fd):dw P w K mg base CX0 (n+1) f fd q10_ (qZ (n+1)):=by
 refine F.okz YG λcdv A outer s H vs Q E hr h=>?_;obtain⟨x,y,ok,d,rfl,tx,ty,hd,q⟩:=h;refine⟨_,(aF (eX (jt (bB Tw bx (hB "isinstance" aV) BI aW (ak (ao fO) (ak (bY (ak (gM "list" qy (hB "list" iC) FF ji) (ak (gM "tuple" nY (hB "tuple" qm) boot_tuple qP) aq Z) Z)) aq Z) Z) Z Z) (λ_=>rfl)) (aF (eX (CN (xH (b7 (jU hr.cM) (bB bQ bx (hB "isinstance" aV) BI aW (ak (ao gq) (ak (gM "list" qy (hB "list" iC) FF ji) aq Z) Z) Z Z) (bB bQ bx (hB "isinstance" aV) BI aW (ak (ao fO) (ak (gM "list" qy (hB "list" iC) FF ji) aq Z) Z) Z Z) (bC _)) (tZ (b7 (jU hr.cM) (bB bQ bx (hB "isinstance" aV) BI aW (ak (ao gq) (ak (gM "tuple" nY (hB "tuple" qm) boot_tuple qP) aq Z) Z) Z Z) (bB bQ bx (hB "isinstance" aV) BI aW (ak (ao fO) (ak (gM "tuple" nY (hB "tuple" qm) boot_tuple qP) aq Z) Z) Z Z) (bC _))))) (aN (bf jb)) cP)
  (aF (eX (b7 (jU hr.cM) (bB b8 Az (hB "len" fX) B9 fY (ak (ao gq) aq Z) Z Z) (bB b8 Az (hB "len" fX) B9 fY (ak (ao fO) aq Z) Z Z) (bC _)) (aN (bf jb)) cP)
  (aN (bf (bB (wZ Z) Nu (hB "all" Nf) PyProof.Rows.Boot.«all» N5 (ak (cR (NX:=Ih) (kX:=(aj iI).names) ["_law_one","_law_other"] [IF,IF] Z Z ⟨rfl,ψ,ψ,ψ,ψ⟩ Z (Pb Nr (hB "zip" M9) (ak (ao gq) (ak (ao fO) aq Z) Z) Z Z) (λ_ _ _ _ _=>(fW (n:=2) Z (aP (aY 0 (show A9 (["_law_one","_law_other"]:List Str) from by decide +kernel) Z (B8 Z)) (aP (aY 1 (show A9 (["_law_one","_law_other"]:List Str) from by decide +kernel) Z (B8 Z)) dU Z) Z) Z Z)) (λ_ _ _ _ _=>cB) (λ_ _ _ _ _=>(bw CZSame (hr.mono ω) Z QF (ak (aQ 0) (ak (aQ 1) aq Z) Z) Z Z))) aq Z) Z Z))))) cP)
  (aF (eX (CN (xH (b7 ab2 (ao fO) V2 (bC _)) (tZ (jt (bB bQ bx (hB "isinstance" aV) BI aW (ak (ao fO) (ak (gM "str" uE (hB "str" Nb) boot_str NZ) aq Z) Z) Z Z) (λ_=>rfl))))) (aN (bf (pO (lA (jy hr.cM) (ao gq) (ao fO) (bC _)) (uc (lA (jy hr.cM) (bB bQ bx (hB "isinstance" aV) BI aW (ak (ao gq) (ak (gM "str" uE (hB "str" Nb) boot_str NZ) aq Z) Z) Z Z) (bB bQ bx (hB "isinstance" aV) BI aW (ak (ao fO) (ak (gM "str" uE (hB "str" Nb) boot_str NZ) aq Z) Z) Z Z) (bC _)))))) cP)
  (aF (eX (jt (bB bQ bx (hB "isinstance" aV) BI aW (ak (ao fO) (ak (gM "bool" qz (hB "bool" rB) LZ rH) aq Z) Z) Z Z) (λ_=>rfl)) (aN (bf (pO (bB bQ bx (hB "isinstance" aV) BI aW (ak (ao gq) (ak (gM "bool" qz (hB "bool" rB) LZ rH) aq Z) Z) Z Z) (uc (lA (jy hr.cM) (ao gq) (ao fO) (bC _)))))) cP)
  (aN (bf (pO (bB bQ bx (hB "isinstance" aV) BI aW (ak (ao gq) (ak (gM "int" Nt (hB "int" uD) LS uK) aq Z) Z) Z Z) (pO (Lk (bB bQ bx (hB "isinstance" aV) BI aW (ak (ao gq) (ak (gM "bool" qz (hB "bool" rB) LZ rH) aq Z) Z) Z Z)) (uc (lA (jy hr.cM) (ao gq) (ao fO) (bC _)))))))))),?_⟩
 cases tx with
 | non=>
  cases ty;refine aM λk hk=>?_;push_cast;refine⟨aO δ,λt ht=>?_⟩;subst hk;refine aM λk hk=>?_;push_cast;exact q _ (au ht)
 | bl b=>
  cases ty;refine aM λk hk=>?_;push_cast;refine⟨aO δ,λt ht=>?_⟩;subst hk;refine aM λk hk=>?_;push_cast;subst hk;refine aM λk hk=>?_;push_cast;exact q _ (au ht)
 | int i=>
  cases ty;refine aM λk hk=>?_;push_cast;refine⟨aO δ,λt ht=>?_⟩;subst hk;refine aM λk hk=>?_;push_cast;subst hk;refine aM λk hk=>?_;push_cast;subst hk;push_cast;exact q _ (au ht)
 | str x=>
  cases ty;refine aM λk hk=>?_;push_cast;refine⟨aO δ,λt ht=>?_⟩;subst hk;refine aM λk hk=>?_;push_cast;exact q _ (au ht)
 | lst o1 e1 z1 ts1=>
  rename_i p1 xs1 ds;cases ty with
  | lst o2 e2 z2 ts2=>
   rename_i p2 xs2;have l1:=ts1.length;have l2:=ts2.length;refine aM λk hk=>?_;push_cast[e1,e2];refine⟨aO δ,λt ht=>?_⟩;have s1:=au (o:=BY [V.ty "list",V.ty "tuple"]) ht;have e1:=s1 _ _ e1;have e2:=s1 _ _ e2;generalize upd H t (BY [V.ty "list",V.ty "tuple"])=H1 at s1 e1 e2 |-;push_cast[e1,e2];rw[decide_eq_true (show(xs1.length:Int)=(xs2.length:Int) by omega),He,if_neg δ];refine cN λR hR=>?_;push_cast[e1,e2];obtain⟨Pc,hPc⟩:∃Pv:Nat->List V->L2.St->Hp->Prop,Pv=λ(i:Nat) acc τ H'=>∃(o0 o1:Option V),Same H1 H'/\acc=(BF i true).map As/\τ=[o0,o1]:=⟨_,rfl⟩;refine aaK hR (xs:=xs1) (ys:=xs2) (aO z1) ω Pc (by rw[hPc];exact⟨_,_,Same.refl _,rfl,rfl⟩) ?_ ?_ ?_ ?_
   ·intro i acc τ H2 pc;rw[hPc] at pc;obtain⟨_,_,_,rfl,_⟩:=pc;simp
   ·intro i acc τ H2 pc;rw[hPc] at pc;obtain⟨_,_,s2,_,_⟩:=pc;exact⟨s2 _ _ e1,s2 _ _ e2⟩
   ·intro i x y acc τ H2 r hx hy pc hr2;rw[hPc] at pc;obtain⟨o0,o1,s2,rfl,rfl⟩:=pc;obtain⟨dx,hdx,tx⟩:=ts1.get hx;obtain⟨dy,hdy,ty⟩:=ts2.get hy;rw[hdx] at hdy;cases hdy;have s3:=au (o:=BY [x,y]) hr2;have s13:=(s1.trans s2).trans s3;push_cast;refine⟨x,y,ok,dx,rfl,tx.same s13,ty.same s13,by have:=(Ez (A8 hdx)).1;omega,λH4 s4=>?_⟩;rw[hPc];refine⟨_,_,(s2.trans s3).trans s4,?_,rfl⟩;rw[List.replicate_succ',A4];rfl
   intro acc τ H2 d2 pc hd2;rw[hPc] at pc;obtain⟨o0,o1,s2,rfl,rfl⟩:=pc;have s3:=s1.trans (s2.trans (au (o:=By ((BF xs1.length true).map As)) hd2));have e3:upd H2 d2 (By ((BF xs1.length true).map As)) d2=_:=aD;generalize upd H2 d2 (By ((BF xs1.length true).map As))=H3 at s3 e3 |-;push_cast[e3];refine⟨_,rfl,?_⟩;rw[show(BF xs1.length true).all id=true by simp];exact q _ s3
 | tup o1 e1 z1 ts1=>
  rename_i p1 xs1 ds;cases ty with
  | tup o2 e2 z2 ts2=>
   rename_i p2 xs2;have l1:=ts1.length;have l2:=ts2.length;refine aM λk hk=>?_;push_cast[e1,e2];refine⟨aO δ,λt ht=>?_⟩;have s1:=au (o:=BY [V.ty "list",V.ty "tuple"]) ht;have e1:=s1 _ _ e1;have e2:=s1 _ _ e2;generalize upd H t (BY [V.ty "list",V.ty "tuple"])=H1 at s1 e1 e2 |-;push_cast[e1,e2];rw[decide_eq_true (show(xs1.length:Int)=(xs2.length:Int) by omega),He,if_neg δ];refine cN λR hR=>?_;push_cast[e1,e2];obtain⟨Pc,hPc⟩:∃Pv:Nat->List V->L2.St->Hp->Prop,Pv=λ(i:Nat) acc τ H'=>∃(o0 o1:Option V),Same H1 H'/\acc=(BF i true).map As/\τ=[o0,o1]:=⟨_,rfl⟩;refine aaJ hR (xs:=xs1) (ys:=xs2) (aO z1) ω Pc (by rw[hPc];exact⟨_,_,Same.refl _,rfl,rfl⟩) ?_ ?_ ?_ ?_
   ·intro i acc τ H2 pc;rw[hPc] at pc;obtain⟨_,_,_,rfl,_⟩:=pc;simp
   ·intro i acc τ H2 pc;rw[hPc] at pc;obtain⟨_,_,s2,_,_⟩:=pc;exact⟨s2 _ _ e1,s2 _ _ e2⟩
   ·intro i x y acc τ H2 r hx hy pc hr2;rw[hPc] at pc;obtain⟨o0,o1,s2,rfl,rfl⟩:=pc;obtain⟨dx,hdx,tx⟩:=ts1.get hx;obtain⟨dy,hdy,ty⟩:=ts2.get hy;rw[hdx] at hdy;cases hdy;have s3:=au (o:=BY [x,y]) hr2;have s13:=(s1.trans s2).trans s3;push_cast;refine⟨x,y,ok,dx,rfl,tx.same s13,ty.same s13,by have:=(Ez (A8 hdx)).2;omega,λH4 s4=>?_⟩;rw[hPc];refine⟨_,_,(s2.trans s3).trans s4,?_,rfl⟩;rw[List.replicate_succ',A4];rfl
   intro acc τ H2 d2 pc hd2;rw[hPc] at pc;obtain⟨o0,o1,s2,rfl,rfl⟩:=pc;have s3:=s1.trans (s2.trans (au (o:=By ((BF xs1.length true).map As)) hd2));have e3:upd H2 d2 (By ((BF xs1.length true).map As)) d2=_:=aD;generalize upd H2 d2 (By ((BF xs1.length true).map As))=H3 at s3 e3 |-;push_cast[e3];refine⟨_,rfl,?_⟩;rw[show(BF xs1.length true).all id=true by simp];exact q _ s3
theorem same_none:dw P w K mg base CX0 0 f fd q10_ (qZ 0):=by
 have no:∀vs H Q E,¬qZ 0 vs H Q E:=λvs H Q E h=>by
  obtain⟨x,y,ok,d,_,_,_,h1,_⟩:=h;omega
 exact⟨λvs H Q E h=>absurd h (no vs H Q E),λA outer s H args us vs Q E _ _ _ _ h=>absurd h (no vs H Q E)⟩
abbrev qT:List Str:=["_law_tape_here","_law_many","_law_most"]
abbrev gQ:Stmt:=top 33
theorem Eb:bA qT q0_ (aj gQ):=⟨rfl,rfl,rfl,ψ,rfl,ψ,ψ⟩
theorem Mq:NM_ qT gQ 0 "_law_tape_here":=.of ψ
theorem Mp:NM_ qT gQ 1 "_law_many":=.of ψ
theorem Ml:NM_ qT gQ 2 "_law_most":=.of ψ
theorem Bc:GI_ gQ "_law_take":=ψ
theorem Bb:GI_ gQ "range":=ψ
theorem Ba:GI_ gQ "tuple":=ψ
theorem Fi:Bn "_law_prices" := ⟨ψ,ψ⟩
abbrev mW:List Str:=["_law_tape_here","_law_many","_law_most"]
abbrev gG:Stmt:=top 32
theorem zT:bA mW q0_ (aj gG):=⟨rfl,rfl,rfl,ψ,rfl,ψ,ψ⟩
theorem JC:NM_ mW gG 0 "_law_tape_here":=.of ψ
theorem JB:NM_ mW gG 1 "_law_many":=.of ψ
theorem Jz:NM_ mW gG 2 "_law_most":=.of ψ
theorem yO:GI_ gG "_law_take":=ψ
theorem yN:GI_ gG "range":=ψ
theorem BX:Bn "_law_weights" := ⟨ψ,ψ⟩
theorem RQ(hB:∀x:Str,x∈BLs->mg x=IF)(CZTake:Cal P w K mg base "_law_take" 2 q0_ (lV 2))(F:Fun K "_law_prices" "_law_prices" gQ f fd):dw P w K mg base CX0 3 f fd q0_ DW:=by
 refine F.okz Eb λcdv A outer s H vs Q E hr h=>?_;obtain⟨p,B,rfl,tp,hB0,hB1,q⟩:=h;refine⟨_,(aF (bh Ml Eb.nd (aR bJ (eY (ak aA (ak aA (ak aA aq Z) Z) Z)) (bw CZTake (hr.mono δ) Bc cJ (ak (ao Mq) (ak aA aq Z) Z) Z Z) (λ_ _=>rfl)) Z (.inl Z))
  (aN (bf (rZ tM Ba (hB "tuple" qm) boot_tuple qP (ak (cR (NX:=qT) (kX:=(aj gQ).names) ["_law_k","_law_tape_here","_law_most"] [IF,ID 0,ID 2] Z Z ⟨rfl,ψ,ψ,ψ,ψ⟩ Z (jw Bb (hB "range" cU) (ak (ao Mp) aq Z) Z) (λ_ _ _ _ _=>(aY 0 (show A9 (["_law_k","_law_tape_here","_law_most"]:List Str) from by decide +kernel) Z (B8 Z))) (λ_ _ _ _ _=>cB) (λ_ _ _ _ _=>(aL aX aA (bw CZTake (hr.mono δ) Z cJ (ak (aQ 1) (ak (aQ 2) aq Z) Z) Z Z)))) aq Z) Z Z)))),?_⟩
 refine aM λk hk=>?_;push_cast;refine⟨aO δ,λl0 hl0=>?_⟩;have s3:=au (o:=By [At 1,At 5,At 99]) hl0;have tp3:=tp.same s3;have n3:=tp.ne hl0;have e3:upd H l0 (By [At 1,At 5,At 99]) l0=_:=aD;generalize upd H l0 (By [At 1,At 5,At 99])=H3 at s3 tp3 e3 |-;refine⟨p,3,B,rfl,tp3,by show B+2<=1000100;omega,δ,δ,δ,λz=>absurd z δ,λr4 H4 r40 r41 s4 tp4=>?_⟩;obtain⟨mo,hmo,emo⟩:=pP (is:=[1,5,99]) r40 r41;replace emo:atI [At 1,At 5,At 99] r4=ID (.int mo):=emo;have e4:=s4 _ _ n3 e3;have bmo:1<=mo/\mo<=99:=by
  simp only[A3,Bz,or_false] at hmo;omega
 push_cast[e4,emo];subst hk;push_cast;refine cN λR hR=>?_;push_cast[vO];refine⟨δ,δ,?_⟩;obtain⟨Pc,hPc⟩:∃Pv:Nat->List V->L2.St->Hp->Prop,Pv=λ(i:Nat) acc τ H'=>∃(o0:Option V)(zs:List Int),bG p H4 H'/\bF H' p (B+2+2*(i:Int))/\acc=zs.map At/\zs.length=i/\(∀z∈zs,1<=z/\z<=99)/\τ=[o0,ID (.ref p),ID (.int mo)]:=⟨_,rfl⟩;refine uH hR (aO δ) Pc (by rw[hPc];exact⟨IF,[],bG.refl _ _,tp4.le (by show B+2<=B+2+2*0;omega),rfl,rfl,λz hz=>absurd hz Bz,rfl⟩) ?_ ?_ ?_
 ·intro i acc τ H5 pc;rw[hPc] at pc;obtain⟨_,zs,_,_,rfl,h1,_⟩:=pc;rw[AC];omega
 ·intro i acc τ H5 hi pc;rw[hPc] at pc;obtain⟨o0,zs,s5,tp5,rfl,hl5,hb5,rfl⟩:=pc;push_cast;refine⟨p,mo,_,rfl,tp5,by show B+2+2*(i:Int)+2<=1000100;omega,ω,ω,δ,λz=>absurd z ω,λr6 H6 r60 r61 s6 tp6=>?_⟩;push_cast;rw[hPc];refine⟨_,zs++[1+r6],s5.trans s6,tp6.le (by show B+2+2*(i:Int)+2<=B+2+2*((i+1:Nat):Int);omega),by rw[A4];rfl,by rw[A0,hl5];rfl,λz hz=>?_,rfl⟩;rcases Cf.mp hz with hz|hz
  ·exact hb5 z hz
  rw[AJ.mp hz];omega
 intro acc τ H5 d pc hd;rw[hPc] at pc;obtain⟨o0,zs,s5,tp5,rfl,hl5,hb5,rfl⟩:=pc;have s6:=au (o:=By (zs.map At)) hd;have tp6:=tp5.same s6;have sx6:bG p H (upd H5 d (.lst (zs.map At))):=((s3.x.trans s4).trans s5).trans s6.x;refine⟨d,rfl,_,.inl ⟨SqL.of aD,λt ht=>?_⟩⟩;have s7:=au (o:=BY (zs.map At)) ht;obtain⟨n7,h7⟩:=Bv sx6 tp6 ht;exact q _ zs _ (sx6.trans s7.x) ((tp6.same s7).le (by show B+2+2*(5:Int)<=B+20;omega)) n7 h7 aD hl5 hb5
theorem LK(hB:∀x:Str,x∈BLs->mg x=IF)(CZTake:Cal P w K mg base "_law_take" 2 q0_ (lV 2))(F:Fun K "_law_weights" "_law_weights" gG f fd):dw P w K mg base CX0 3 f fd q0_ DK:=by
 refine F.okz zT λcdv A outer s H vs Q E hr h=>?_;obtain⟨p,m,B,rfl,tp,hB0,hB1,hm60,q⟩:=h;refine⟨_,(aF (bh Jz zT.nd (aR bJ (eY (ak aA (ak aA (ak aA (ak (aL aX (aL uh aA aA) aA) aq Z) Z) Z) Z)) (bw CZTake (hr.mono δ) yO cJ (ak (ao JC) (ak aA aq Z) Z) Z Z) (λ_ _=>rfl)) Z (.inl Z))
  (aN (bf (cR (NX:=mW) (kX:=(aj gG).names) ["_law_k","_law_tape_here","_law_most"] [IF,ID 0,ID 2] Z Z ⟨rfl,ψ,ψ,ψ,ψ⟩ Z (jw yN (hB "range" cU) (ak (ao JB) aq Z) Z) (λ_ _ _ _ _=>(aY 0 (show A9 (["_law_k","_law_tape_here","_law_most"]:List Str) from by decide +kernel) Z (B8 Z))) (λ_ _ _ _ _=>cB) (λ_ _ _ _ _=>(bw CZTake (hr.mono δ) Z cJ (ak (aQ 1) (ak (aQ 2) aq Z) Z) Z Z)))))),?_⟩
 refine aM λk hk=>?_;push_cast;refine⟨⟨δ,δ,δ⟩,aO δ,λl0 hl0=>?_⟩;have s3:=au (o:=By [At 2,At 10,At 1000,At (10^B6 6+1)]) hl0;have tp3:=tp.same s3;have n3:=tp.ne hl0;have e3:upd H l0 (By [At 2,At 10,At 1000,At (10^B6 6+1)]) l0=_:=aD;generalize upd H l0 (By [At 2,At 10,At 1000,At (10^B6 6+1)])=H3 at s3 tp3 e3 |-;refine⟨p,4,B,rfl,tp3,by show B+2<=1000100;omega,δ,δ,δ,λz=>absurd z δ,λr4 H4 r40 r41 s4 tp4=>?_⟩;obtain⟨mo,hmo,emo⟩:=pP (is:=[2,10,1000,10^B6 6+1]) r40 r41;replace emo:atI [At 2,At 10,At 1000,At (10^B6 6+1)] r4=ID (.int mo):=emo;have e4:=s4 _ _ n3 e3;have bmo:2<=mo/\mo<=1000001:=by
  simp only[A3,Bz,or_false] at hmo;have:(10:Int)^B6 6=1000000:=by decide
  omega
 push_cast[e4,emo];subst hk;push_cast;refine cN λR hR=>?_;push_cast[vO];refine⟨ω,ω,?_⟩;obtain⟨Pc,hPc⟩:∃Pv:Nat->List V->L2.St->Hp->Prop,Pv=λ(i:Nat) acc τ H'=>∃(o0:Option V)(zs:List Int),bG p H4 H'/\bF H' p (B+2+2*(i:Int))/\acc=zs.map At/\zs.length=i/\(∀z∈zs,0<=z/\z<=1000000)/\τ=[o0,ID (.ref p),ID (.int mo)]:=⟨_,rfl⟩;refine uH hR (aO ω) Pc (by rw[hPc];exact⟨IF,[],bG.refl _ _,tp4.le (by show B+2<=B+2+2*0;omega),rfl,rfl,λz hz=>absurd hz Bz,rfl⟩) ?_ ?_ ?_
 ·intro i acc τ H5 pc;rw[hPc] at pc;obtain⟨_,zs,_,_,rfl,h1,_⟩:=pc;rw[AC];omega
 ·intro i acc τ H5 hi pc;rw[hPc] at pc;obtain⟨o0,zs,s5,tp5,rfl,hl5,hb5,rfl⟩:=pc;push_cast;refine⟨p,mo,_,rfl,tp5,by show B+2+2*(i:Int)+2<=1000100;omega,ω,ω,δ,λz=>by decide,λr6 H6 r60 r61 s6 tp6=>?_⟩;rw[hPc];refine⟨_,zs++[r6],s5.trans s6,tp6.le (by show B+2+2*(i:Int)+2<=B+2+2*((i+1:Nat):Int);omega),by rw[A4];rfl,by rw[A0,hl5];rfl,λz hz=>?_,rfl⟩;rcases Cf.mp hz with hz|hz
  ·exact hb5 z hz
  rw[AJ.mp hz];omega
 intro acc τ H5 d pc hd;rw[hPc] at pc;obtain⟨o0,zs,s5,tp5,rfl,hl5,hb5,rfl⟩:=pc;have s6:=au (o:=By (zs.map At)) hd;have sx5:bG p H H5:=(s3.x.trans s4).trans s5;obtain⟨n7,h7⟩:=Bv sx5 tp5 hd;exact q _ zs _ (sx5.trans s6.x) ((tp5.same s6).le ω) n7 h7 aD ω hb5
abbrev xg:List Str:=["_law_tape_here","_law_great"]
abbrev kY:Stmt:=top 35
theorem zU:bA xg ["_law_tape_here"] (aj kY):=⟨rfl,rfl,rfl,ψ,rfl,ψ,ψ⟩
theorem qi:NM_ xg kY 0 "_law_tape_here":=.of ψ
theorem xP:NM_ xg kY 1 "_law_great":=.of ψ
theorem j4:GI_ kY "_law_take":=ψ
theorem N6:Bn "_law_run_many" := ⟨ψ,ψ⟩
abbrev cV:List Str:=["_law_stretches_here","_law_weights_here","_law_prices_here","_law_label","_law_tests","_law_low","_law_high","_law_one","_law_weight","_law_left","_law_total","_law_best","_law_test"]
abbrev bV:Stmt:=top 37
theorem cW:bA cV q3_ (aj bV):=⟨rfl,rfl,rfl,ψ,rfl,ψ,ψ⟩
theorem JH:NM_ cV bV 0 "_law_stretches_here":=.of ψ
theorem xV:NM_ cV bV 1 "_law_weights_here":=.of ψ
theorem ql:NM_ cV bV 2 "_law_prices_here":=.of ψ
theorem JG:NM_ cV bV 3 "_law_label":=.of ψ
theorem iT:NM_ cV bV 4 "_law_tests":=.of ψ
theorem xU:NM_ cV bV 5 "_law_low":=.of ψ
theorem xT:NM_ cV bV 6 "_law_high":=.of ψ
theorem xR:NM_ cV bV 7 "_law_one":=.of ψ
theorem xQ:NM_ cV bV 8 "_law_weight":=.of ψ
theorem qj:NM_ cV bV 9 "_law_left":=.of ψ
theorem nj:NM_ cV bV 10 "_law_total":=.of ψ
theorem eE:NM_ cV bV 11 "_law_best":=.of ψ
theorem kh:NM_ cV bV 12 "_law_test":=.of ψ
theorem Dh:GI_ bV "min":=ψ
theorem Dg:GI_ bV "sum":=ψ
theorem Df:GI_ bV "zip":=ψ
theorem N7:Bn "_law_row_cost" := ⟨ψ,ψ⟩
theorem LR(hB:∀x:Str,x∈BLs->mg x=IF)(CZTake:Cal P w K mg base "_law_take" 2 q0_ (lV 2))(F:Fun K "_law_run_many" "_law_run_many" kY f fd):dw P w K mg base CX0 3 f fd ["_law_tape_here"] DQ:=by
 refine F.okz zU λcdv A outer s H vs Q E hr h=>?_;obtain⟨p,B,rfl,tp,hB0,hB1,q⟩:=h;refine⟨_,(aF (bh xP zU.nd (lA (jy hr.cM) (bw CZTake (hr.mono δ) j4 cJ (ak (ao qi) (ak aA aq Z) Z) Z Z) aA (bC _)) Z (.inl Z))
  (aN (bf (z7 (jt (ao xP) (λ_=>rfl)) (aL aX aA (bw CZTake (hr.mono δ) j4 cJ (ak (ao qi) (ak aA aq Z) Z) Z Z)) (aL aX aA (bw CZTake (hr.mono δ) j4 cJ (ak (ao qi) (ak aA aq Z) Z) Z Z)))))),?_⟩
 refine aM λk hk=>?_;push_cast;refine⟨p,8,B,rfl,tp,by show B+2<=1000100;omega,δ,δ,δ,λz=>absurd z δ,λr1 H1 r10 r11 s1 tp1=>?_⟩;push_cast;subst hk;push_cast;split
 ·refine⟨p,21,B+2,rfl,tp1,by show B+2+2<=1000100;omega,δ,δ,δ,λz=>absurd z δ,λr2 H2 r20 r21 s2 tp2=>?_⟩;push_cast;rw[show 10+r2=((10+r2).toNat:Int) by omega];exact q _ _ ω ω (s1.trans s2) (tp2.le (by show B+2+2<=B+4;omega))
 refine⟨p,9,B+2,rfl,tp1,by show B+2+2<=1000100;omega,δ,δ,δ,λz=>absurd z δ,λr2 H2 r20 r21 s2 tp2=>?_⟩;push_cast;rw[show 1+r2=((1+r2).toNat:Int) by omega];exact q _ _ ω ω (s1.trans s2) (tp2.le (by show B+2+2<=B+4;omega))
theorem Jt(hB:∀x:Str,x∈BLs->mg x=IF)(F:Fun K "_law_row_cost" "_law_row_cost" bV f fd):dw P w K mg base CX0 2 f fd q3_ zL:=by
 refine F.okz cW λcdv A outer s H vs Q E hr h=>?_;obtain⟨sa,wa,t,xs,ok,ss,ws,zs,lab,rfl,es,ts,h60,ew,hwl,h5,q⟩:=h;refine⟨_,(aF (bh iT cW.nd (eY aq) Z (.inl Z))
  (aF (fV BU Z (Pb Df (hB "zip" M9) (ak (ao JH) (ak (ao xV) aq Z) Z) Z Z) (fW (n:=2) Z (aP (fW (n:=3) Z (aP (dG xU cW.nd (.inl Z)) (aP (dG xT cW.nd (.inl Z)) (aP (dG xR cW.nd (.inl Z)) dU Z) Z) Z) Z Z) (aP (dG xQ cW.nd (.inl Z)) dU Z) Z) Z Z)
  (aN (eX (b7 (jU hr.cM) (ao xR) (ao JG) (bC _)) (aN (iY (lM (ao iT) (bY (ak (ao xQ) (ak (z7 (b7 (jy hr.cM) (ao xU) (ao xT) (bC _)) (bB (wY Z) Dh (hB "min" uz) LU uJ (ak (aR bJ (ao ql) aA (λ_ _=>rfl)) (ak (aR bJ (ao ql) aA (λ_ _=>rfl)) aq Z) Z) Z Z) (aR bJ (ao ql) aA (λ_ _=>rfl))) aq Z) Z)) Z Z Z Z Z) Z)) cP)) (λ_=>rfl))
  (aF (Gp (i:=9) (j:=10) Z cW.nd Z Z δ Z Z (ak (bB (iU Z) Dg (hB "sum" qp) KG qQ (ak (ao xV) aq Z) Z Z) (ak aA aq Z) Z) (by rfl))
  (aF (VN BU (b7 (Wq hr.cM) (ao iT) (eY aq) (bC _)) (aF (bh eE cW.nd (aR bJ (ao iT) aA (λ_ _=>rfl)) Z (.inl Z))
  (aF (fV BU Z (bW (ao iT)) (dG kh cW.nd (.inl Z))
  (aN (bh eE cW.nd (z7 (b7 Ej (aL cO (aR bJ (ao kh) aA (λ_ _=>rfl)) (aR bJ (ao eE) aA (λ_ _=>rfl))) (aL cO (aR bJ (ao eE) aA (λ_ _=>rfl)) (aR bJ (ao kh) aA (λ_ _=>rfl))) (bC _)) (ao kh) (ao eE)) Z (.inl Z))) (λ_=>rfl))
  (aF (iY (Ze hr.un1 (ao iT) (ao eE)) Z)
  (aF (bh nj cW.nd (aL aX (ao nj) (aL cO (ao qj) (aR bJ (ao eE) aA (λ_ _=>rfl)))) Z (.inl Z))
  (aN (bh qj cW.nd (aL dI (ao qj) (aR bJ (ao eE) aA (λ_ _=>rfl))) Z (.inl Z))))))))
  (aN (bf (ao nj))))))),?_⟩
 have tsl:=ts.length;rw[AC] at tsl;refine aM λk hk=>?_;push_cast;refine⟨aO δ,λd hd=>?_⟩;have s1:=au (o:=By []) hd;have e1:upd H d (By []) d=ID (By []):=aD;change k _ (upd H d (By []));generalize upd H d (By [])=H1 at s1 e1 |-;subst hk;refine aM λk hk=>?_;refine jo λR hR=>?_;have es1:=s1 _ _ es;have ew1:=s1 _ _ ew;push_cast[es1,ew1];obtain⟨Pv,hPv⟩:∃Pv:Nat->L2.St->Hp->Prop,Pv=λi σ H'=>∃(o5 o6 o7 o8:Option V)(ps:List IN),Same H H'/\PrL H' d ps (((BN i).filter λk=>lbl ss k≠lab).map (prK ss ws zs))/\σ=[ID (.ref sa),ID (.ref wa),ID (.ref t),ID (.int lab),ID (.ref d),o5,o6,o7,o8,IF,IF,IF,IF]:=⟨_,rfl⟩;refine adE hR (xs:=xs) (ys:=ws.map At) (by rw[AC];omega) Pv (by rw[hPv];exact⟨_,_,_,_,[],s1,⟨e1,λ_ h=>(nomatch h),rfl⟩,rfl⟩) ?_ ?_ ?_
 ·intro i σ H2 pv;rw[hPv] at pv;obtain⟨_,_,_,_,_,s2,_⟩:=pv;exact⟨s2 _ _ es,s2 _ _ ew⟩
 ·intro i x y σ H2 p hx hy pv hp;rw[hPv] at pv;obtain⟨o5,o6,o7,o8,ps,s2,pr,rfl⟩:=pv;have s3:=au (o:=BY [x,y]) hp;have e3:upd H2 p (BY [x,y]) p=_:=aD;have pr3:=pr.same s3;generalize upd H2 p (BY [x,y])=H3 at s3 e3 pr3 |-;obtain⟨d2,hd2,td2⟩:=(ts.same (s2.trans s3)).get hx;rw[AL] at hd2;obtain⟨⟨lo,hi,b⟩,hs,rfl⟩:=BG.mp hd2;obtain⟨q2,vs,rfl,eq2,tvs⟩:=aJ.KY td2;cases aG.ints (is:=[lo,hi,b]) tvs;have hil:i<ss.length:=(AI.mp hs).1;rw[AL] at hy;obtain⟨wt,hwt,rfl⟩:=BG.mp hy;have hst:fC ss i=(lo,hi,b):=by unfold fC;rw[AY,hs];rfl
  have hwt2:ws.getD i 0=wt:=by rw[AY,hwt];rfl
  push_cast[e3,eq2];have hlb:lbl ss i=b:=by unfold lbl;rw[hst]
  have eP:(BN (i+1)).filter (λk=>decide (lbl ss k≠lab))=(BN i).filter (λk=>decide (lbl ss k≠lab))++(if b=lab then [] else [i]):=by
   rw[S5,hlb];by_cases c:b=lab
   ·rw[if_pos c,if_neg (by simpa using c)]
   rw[if_neg c,if_pos (by simpa using c)]
  have fin:¬b=lab->∀(c:Int),c=dX ss zs i->∀(p:IN),H3 p=IF->apq (upd H3 p (BY [At wt,.int c]) d) d (AT p) (upd H3 p (BY [At wt,.int c])) λx H1=>
          Pv (i+1)
           [ID (AT sa),ID (AT wa),ID (AT t),ID (At lab),ID (AT d),
            ID (At lo),ID (At hi),ID (At b),ID (At wt),IF,IF,IF,IF]
           H1:=λcb c hc p5 hp5=>by
   have s4:=au (o:=BY [At wt,.int c]) hp5;have e4:upd H3 p5 (BY [At wt,.int c]) p5=_:=aD;have pr4:=pr3.same s4;generalize upd H3 p5 (BY [At wt,.int c])=H4 at s4 e4 pr4 |-;have hpl:ps.length<=i:=by
    have:=congrArg List.length pr4.l;rw[AC,AC] at this;have h2:=List.length_filter_le (λk=>decide (lbl ss k≠lab)) (BN i);rw[C8] at h2;omega
   rw[pr4.e,wg];refine⟨by rw[AC];exact rY ω,?_⟩;rw[hPv];refine⟨_,_,_,_,ps++[p5],mF ((s2.trans s3).trans s4) hd,?_,rfl⟩;rw[eP,if_neg cb,A4];have:=pr4.push e4;rw[hc] at this;rw[show([i]:List Nat).map (prK ss ws zs)=[(wt,dX ss zs i)] by show [prK ss ws zs i]=_;unfold prK;rw[hwt2]];exact this
  by_cases c:b=lab
  ·rw[if_neg (by simpa using c),hPv];refine⟨_,_,_,_,ps,s2.trans s3,?_,rfl⟩;rw[eP,if_pos c,ED];exact pr3
  rw[if_pos (by simpa using c)];have et3:=(s2.trans s3) _ _ h5.1;have ed3:=pr3.e;have h5l:=h5.2.1;have z0:atI (zs.map At) 0=ID (.int (zs.getD 0 0)):=rW (i:=0) ω;have z1:atI (zs.map At) 1=ID (.int (zs.getD 1 0)):=rW (i:=1) ω;have hpr:dX ss zs i=if lo=hi then (if zs.getD 1 0<zs.getD 0 0 then zs.getD 1 0 else zs.getD 0 0) else zs.getD 1 0:=by
   unfold dX isT;rw[hst];by_cases c1:lo=hi
   ·by_cases c2:zs.getD 1 0<zs.getD 0 0
    ·simp only[c1,c2,if_pos,decide_true,Bool.true_and,decide_eq_true_eq];rw[if_neg ω]
    simp only[c1,c2,if_pos,decide_true,Bool.true_and,decide_eq_true_eq];rw[if_pos ω];rfl
   simp only[c1,decide_false,Bool.false_and];rfl
  push_cast[et3,z0,z1,ed3];split
  ·rename_i c1;exact⟨aO δ,λp5 hp5=>fin c _ (by rw[hpr,if_pos c1]) p5 hp5⟩
  rename_i c1;exact⟨aO δ,λp5 hp5=>fin c _ (by rw[hpr,if_neg c1]) p5 hp5⟩
 intro σ H2 pv;rw[hPv] at pv;obtain⟨o5,o6,o7,o8,ps,s2,pr,rfl⟩:=pv;rw[AC,hwl] at pr;show k _ H2;clear hPv Pv hR;subst hk;refine aM λk hk=>?_;have ew2:=s2 _ _ ew;push_cast[ew2];refine⟨ws,rfl,?_⟩;subst hk;refine aM λk hk=>?_;obtain⟨Pw,hPw⟩:∃Pw:Nat->L2.St->Hp->Prop,Pw=λm σ H'=>∃(o5 o6 o7 o8 o11 o12:Option V)(ps:List IN)(L dn:List (Int×Int)) (tot left:Int),m=ps.length/\Same H H'/\PrL H' d ps L/\(dn++L).Perm (mZ ss ws zs lab)/\Fall dn/\(∀x∈dn,∀y∈L,y.1*x.2<=x.1*y.2)/\(∀r,gC ws.sum (dn++r)=tot+gC left r)/\σ=[ID (.ref sa),ID (.ref wa),ID (.ref t),ID (.int lab),ID (.ref d),o5,o6,o7,o8,ID (.int left),ID (.int tot),o11,o12]:=⟨_,rfl⟩;refine Yn Pw ps.length (by rw[hPw];exact⟨_,_,_,_,_,_,ps,_,[],0,ws.sum,rfl,s2,pr,.refl _,.nil,λ_ h=>(nomatch h),λr=>(Int.zero_add _).symm,rfl⟩) ?_;intro m σ H3 pw;rw[hPw] at pw;obtain⟨o5,o6,o7,o8,o11,o12,ps,L,dn,tot,left,rfl,s3,pr3,pm,fl,hfl,htot,rfl⟩:=pw;have ed3:=pr3.e;push_cast[ed3];refine⟨aO δ,λe0 he0=>?_⟩;have s4:=au (o:=By []) he0;have e4:upd H3 e0 (By []) e0=_:=aD;have pr4:=pr3.same s4;generalize upd H3 e0 (By [])=H4 at s4 e4 pr4 |-;refine⟨d,e0,ps.map AT,rfl,rfl,pr4.e,e4,_,rfl,?_⟩;rw[aat];have hlen:=pr4.len;have hTl:(mZ ss ws zs lab).length<=60:=by
  unfold mZ;rw[AC];have h2:=List.length_filter_le (λk=>decide (lbl ss k≠lab)) (BN ss.length);rw[C8] at h2;omega
 have hLl:L.length<=60:=by
  have:=pm.length_eq;rw[A0] at this;omega
 cases ps with
 | nil=>
  have hL:L=[]:=by rw[<- pr4.l];rfl
  subst hL;rw[if_neg ζ];subst hk;push_cast;have h0:=htot [];rw[ED] at h0 pm;rw[show tot=gC ws.sum dn by rw[h0];show _=tot+0;omega];exact q dn _ (s3.trans s4) fl pm
 | cons p0 ps=>
  rw[if_pos ζ];have hLm:∀x∈L,x∈mZ ss ws zs lab:=λx hx=>pm.mem_iff.mp (AG _ hx);have hps:∀p∈p0::ps,0<(gOf H4 p).2/\(gOf H4 p).2<=99:=λp hp=>Q6 h5.2.1 h5.2.2 _ (hLm _ (by rw[<- pr4.l];exact E9 hp));obtain⟨QN,hQN⟩:∃QN:L2.St->Hp->Prop,QN=λσ' H'=>∃m',m'<(p0::ps).length/\Pw m' σ' H':=⟨_,rfl⟩;refine⟨QN,λσ' H' h=>by rw[hQN] at h;exact h,?_⟩;have ed4:=pr4.e;have at0:atI ((p0::ps).map AT) 0=ID (.ref p0):=bZ (j:=0) rfl;push_cast[ed4,at0];refine jo λR hR=>?_;push_cast[ed4];obtain⟨Px,hPx⟩:∃Px:Nat->L2.St->Hp->Prop,Px=λi σ H'=>∃(o12:Option V)(qb:IN),H'=H4/\qb∈p0::ps/\(∀p∈(p0::ps).take i,(gOf H4 p).1*(gOf H4 qb).2<=(gOf H4 qb).1*(gOf H4 p).2)/\σ=[ID (.ref sa),ID (.ref wa),ID (.ref t),ID (.int lab),ID (.ref d),o5,o6,o7,o8,ID (.int left),ID (.int tot),ID (.ref qb),o12]:=⟨_,rfl⟩;refine Bw hR (xs:=(p0::ps).map AT) Px (by rw[hPx];exact⟨_,p0,rfl,A5,λ_ h=>(nomatch h),rfl⟩) ?_ ?_ ?_
  ·intro i σ H' _ px;rw[hPx] at px;obtain⟨_,_,rfl,_⟩:=px;exact SqL.of ed4
  ·intro i x σ H' hx px;rw[hPx] at px;obtain⟨o12,qb,rfl,hqb,hle,rfl⟩:=px;rw[AL] at hx;obtain⟨p,hp,rfl⟩:=BG.mp hx;have ep:=pr4.at' p (A8 hp);have eb:=pr4.at' qb hqb;push_cast[ep,eb];have hp9:=hps p (A8 hp);have hb9:=hps qb hqb;refine⟨.inr ⟨ω,ω⟩,.inr ⟨ω,ω⟩,?_⟩;have htk:=take_snoc hp;split
   ·rename_i c;rw[hPx];refine⟨_,p,rfl,A8 hp,λp2 hp2=>?_,rfl⟩;rw[htk] at hp2;rcases Cf.mp hp2 with z|z
    ·have h2:=hps p2 (List.mem_of_mem_take z);exact Jk (x:=gOf H' p2) (b:=gOf H' qb) (n:=gOf H' p) h2.1 hb9.1 hp9.1 (hle p2 z) (Int.le_of_lt c)
    rw[AJ.mp z];exact GA _
   rename_i c;rw[hPx];refine⟨_,qb,rfl,hqb,λp2 hp2=>?_,rfl⟩;rw[htk] at hp2;rcases Cf.mp hp2 with z|z
   ·exact hle p2 z
   rw[AJ.mp z];exact not_lt.mp c
  intro σ H' px;rw[hPx] at px;obtain⟨o12,qb,rfl,hqb,hle,rfl⟩:=px;rw[AC,C5] at hle;have eb:=pr4.at' qb hqb;have hb9:=hps qb hqb;clear hPx Px hR;dsimp only;refine aM λk hk=>?_;push_cast[Ur,Rp,ed4];refine⟨d,qb,p0::ps,gOf H',rfl,rfl,ed4,hqb,pr4.at',ω,λj hj=>?_⟩;rw[pr4.l] at hj;have hbL:gOf H' qb∈L:=by rw[<- pr4.l];exact E9 hqb
  have hjl:j<(p0::ps).length:=by rw[hlen,<- hj];exact IG hbL
  have pr5:=pr4.drop j hj;have sd:Same H (upd H' d (By (((p0::ps).eraseIdx j).map AT))):=mF (s3.trans s4) hd;have eb5:upd H' d (By (((p0::ps).eraseIdx j).map AT)) qb=ID (BY [At (gOf H' qb).1,At (gOf H' qb).2]):=by rw[aH (PK eb ed4 (λz=>by cases z))];exact eb
  have hel:((p0::ps).eraseIdx j).length<(p0::ps).length:=by rw[Lm,if_pos hjl];exact Nat.sub_lt (Nat.succ_pos _) Nat.zero_lt_one
  have hle2:∀y∈L,y.1*(gOf H' qb).2<=(gOf H' qb).1*y.2:=λy hy=>by
   rw[<- pr4.l] at hy;obtain⟨p,hp,rfl⟩:=C9.mp hy;exact hle p hp
  have pmL:=List.perm_cons_erase hbL;generalize (p0::ps).eraseIdx j=qs at pr5 sd eb5 hel |-;generalize gOf H' qb=bq at hbL hb9 pr5 eb5 hle2 pmL |-;generalize upd H' d (By (qs.map AT))=H5 at pr5 sd eb5 |-;subst hk;refine aM λk hk=>?_;push_cast[eb5];refine⟨.inr ⟨ω,ω⟩,?_⟩;subst hk;push_cast[eb5];rw[hQN];refine⟨qs.length,hel,?_⟩;rw[hPw];refine⟨_,_,_,_,_,_,qs,L.erase bq,dn++[bq],_,_,rfl,sd,pr5,?_,?_,?_,?_,rfl⟩
  ·rw[F1];exact(E7.append_left dn pmL.symm).trans pm
  ·exact LH.mpr ⟨fl,IT _ _,λx hx y hy=>by rw[AJ.mp hy];exact hfl x hx _ hbL⟩
  ·intro x hx y hy;have hyL:=List.mem_of_mem_erase hy;rcases Cf.mp hx with z|z
   ·exact hfl x z y hyL
   rw[AJ.mp z];exact hle2 y hyL
  intro r;rw[F1,htot];show tot+(left*bq.2+gC (left-bq.1) r)=_;omega
abbrev dm:List Str:=["_law_stretches_here","_law_weights_here","_law_prices_here","_law_begin","_law_end","_law_some","_law_heavy","_law_span","_law_labels","_law_costs","_law_label"]
abbrev bK:Stmt:=top 36
theorem iH:bA dm q1_ (aj bK):=⟨rfl,rfl,rfl,ψ,rfl,ψ,ψ⟩
theorem JF:NM_ dm bK 0 "_law_stretches_here":=.of ψ
theorem xO:NM_ dm bK 1 "_law_weights_here":=.of ψ
theorem qg:NM_ dm bK 2 "_law_prices_here":=.of ψ
theorem qe:NM_ dm bK 3 "_law_begin":=.of ψ
theorem qd:NM_ dm bK 4 "_law_end":=.of ψ
theorem jM:NM_ dm bK 5 "_law_some":=.of ψ
theorem xM:NM_ dm bK 6 "_law_heavy":=.of ψ
theorem xK:NM_ dm bK 7 "_law_span":=.of ψ
theorem pZ:NM_ dm bK 8 "_law_labels":=.of ψ
theorem jL:NM_ dm bK 9 "_law_costs":=.of ψ
theorem vy:NM_ dm bK 10 "_law_label":=.of ψ
theorem uF:GI_ bK "_law_row_cost":=ψ
theorem tG:GI_ bK "int":=ψ
theorem Dd:GI_ bK "len":=ψ
theorem Dc:GI_ bK "set":=ψ
theorem wO:GI_ bK "sorted":=ψ
theorem CZ:GI_ bK "sum":=ψ
theorem BZ:Bn "_law_run_ways" := ⟨ψ,ψ⟩
theorem LQ(hB:∀x:Str,x∈BLs->mg x=IF)(CZRowCost:Cal P w K mg base "_law_row_cost" 2 q3_ zL)(F:Fun K "_law_run_ways" "_law_run_ways" bK f fd):dw P w K mg base CX0 4 f fd q1_ wz:=by
 refine F.okz iH λcdv A outer s H vs Q E hr h=>?_;obtain⟨sa,wa,t,a,b,xs,ok,ss,ws,zs,rfl,es,ts,h60,ew,hwl,h5,hab,hbn,q⟩:=h;refine⟨_,(aF (bh jM iH.nd (mJ Rf (ao JF) (iZ (ao qe)) (iZ (ao qd))) Z (.inl Z))
  (aF (Gp (i:=6) (j:=7) Z iH.nd Z Z δ Z Z (ak (bB (iU Z) CZ (hB "sum" qp) KG qQ (ak (mJ Rf (ao xO) (iZ (ao qe)) (iZ (ao qd))) aq Z) Z Z) (ak (aL aX (aL dI (aR bJ (aR bJ (ao jM) (xJ pG aA) (λ_ _=>rfl)) aA (λ_ _=>rfl)) (aR bJ (aR bJ (ao jM) aA (λ_ _=>rfl)) aA (λ_ _=>rfl))) aA) aq Z) Z) (by rfl))
  (aF (bh pZ iH.nd (Ph Z wO (hB "sorted" rA) Dc (hB "set" WT) (ak (cR (NX:=dm) (kX:=(aj bK).names) ["_law_low","_law_high","_law_label"] [IF,IF,IF] Z Z ⟨rfl,ψ,ψ,ψ,ψ⟩ Z (bW (ao jM)) (λ_ _ _ _ _=>(fW (n:=3) Z (aP (aY 0 (show A9 (["_law_low","_law_high","_law_label"]:List Str) from by decide +kernel) Z (B8 Z)) (aP (aY 1 (show A9 (["_law_low","_law_high","_law_label"]:List Str) from by decide +kernel) Z (B8 Z)) (aP (aY 2 (show A9 (["_law_low","_law_high","_law_label"]:List Str) from by decide +kernel) Z (B8 Z)) dU Z) Z) Z) Z Z)) (λ_ _ _ _ _=>cB) (λ_ _ _ _ _=>(aQ 2))) aq Z)) Z (.inl Z))
  (aF (bh jL iH.nd (aL cO (eY (ak (aL cO (ao xM) (aR bJ (ao qg) aA (λ_ _=>rfl))) aq Z)) (rZ oG tG (hB "int" uD) LS uK (ak (lA Jr (ao xK) aA (bC _)) aq Z) Z Z)) Z (.inl Z))
  (aF (bh jL iH.nd (aL aX (ao jL) (aL cO (eY (ak (aL cO (ao xM) (aR bJ (ao qg) aA (λ_ _=>rfl))) aq Z)) (rZ oG tG (hB "int" uD) LS uK (ak (pO (lA Jr (ao xK) aA (bC _)) (uc (lA (jy hr.cM) (bB b8 Dd (hB "len" fX) B9 fY (ak (ao pZ) aq Z) Z Z) aA (bC _)))) aq Z) Z Z))) Z (.inl Z))
  (aF (fV BU Z (bW (ao pZ)) (dG vy iH.nd (.inl Z))
  (aN (iY (lM (ao jL) (bw CZRowCost (hr.mono δ) uF N7 (ak (ao jM) (ak (mJ Rf (ao xO) (iZ (ao qe)) (iZ (ao qd))) (ak (ao qg) (ak (ao vy) aq Z) Z) Z) Z) Z Z) Z Z Z Z Z) Z)) (λ_=>rfl))
  (aN (bf (ao jL))))))))),?_⟩
 have tsl:=ts.length;rw[AC] at tsl;obtain⟨ord,hord⟩:=abY (ss:=ss) (ws:=ws) (zs:=zs) (Vg a b) λk hk=>by have:=eG.mp hk;omega
 refine aM λk hk=>?_;push_cast[es];refine λra hra=>?_;rw[adM ω ω];subst hk;obtain⟨ys,hys⟩:∃ys,ys=(xs.drop a).take (b-a):=⟨_,rfl⟩;have tys:aG ok H ys ((sls ss a b).map stD):=by rw[hys,<- YB];exact(ts.aa1 a).aaT (b-a)
 have hsl:=uX (ss:=ss) (a:=a) hbn;have hyl:=tys.length;rw[AC,hsl] at hyl;rw[<- hys];have s1:=au (o:=By ys) hra;have e1:upd H ra (By ys) ra=_:=aD;generalize upd H ra (By ys)=H1 at s1 e1 |-;refine aM λk hk=>?_;have ew1:=s1 _ _ ew;have et1:=s1 _ _ h5.1;have tys1:=tys.same s1;have h0:(sls ss a b)[0]?=ID (fC (sls ss a b) 0):=FN ω;have hL:(sls ss a b)[b-a-1]?=ID (fC (sls ss a b) (b-a-1)):=FN ω;obtain⟨p0,x0,y0⟩:=tys1.stN (k:=0) ω;obtain⟨pL,xL,yL⟩:=tys1.stN (k:=b-a-1) ω;replace x0:atI ys 0=ID (.ref p0):=x0;have xL1:atI ys (-1)=ID (.ref pL):=by
  rw[Ky ω,hyl];exact xL
 push_cast[e1,ew1,x0,y0,xL1,yL];refine λpw hpw=>⟨slc ws a b,BL ws a b ω ω,?_⟩;rw[BL ws a b ω ω];have s2:=au (o:=By ((slc ws a b).map At)) hpw;have e2:=s2 _ _ e1;have y02:=s2 _ _ y0;have yL2:=s2 _ _ yL;generalize upd H1 pw (By ((slc ws a b).map At))=H2 at s2 e2 y02 yL2 |-;push_cast[e2,x0,y02,xL1,yL2];rw[U3 hab hbn];have hsum:(slc ws a b).sum=sumK ws (rng a b):=zu ω;rw[hsum];subst hk;refine aM λk hk=>?_;have tys2:=tys1.same s2;push_cast[tSS,e2];refine cN λR hR=>?_;push_cast[e2];obtain⟨Pc,hPc⟩:∃Pv:Nat->List V->L2.St->Hp->Prop,Pv=λ(i:Nat) acc τ H'=>∃(o0 o1 o2:Option V),H'=H2/\acc=(((sls ss a b).take i).map (·.2.2)).map At/\τ=[o0,o1,o2]:=⟨_,rfl⟩;refine iQ hR (xs:=ys) (aO ω) Pc (by rw[hPc];exact⟨_,_,_,rfl,rfl,rfl⟩) ?_ ?_ ?_ ?_
 ·intro i acc τ H3 pc;rw[hPc] at pc;obtain⟨_,_,_,rfl,rfl,_⟩:=pc;rw[AC,AC];exact CD _ _
 ·intro i acc τ H3 pc;rw[hPc] at pc;obtain⟨_,_,_,rfl,_⟩:=pc;exact SqL.of e2
 ·intro i y acc τ H3 hy pc;rw[hPc] at pc;obtain⟨o0,o1,o2,rfl,rfl,rfl⟩:=pc;obtain⟨d2,hd2,td2⟩:=tys2.get hy;rw[AL] at hd2;obtain⟨⟨lo,hi,l⟩,hs,rfl⟩:=BG.mp hd2;obtain⟨q2,vs,rfl,eq2,tvs⟩:=aJ.KY td2;cases aG.ints (is:=[lo,hi,l]) tvs;push_cast[eq2];rw[hPc];exact⟨_,_,_,rfl,by rw[take_snoc hs,A4,A4];rfl,rfl⟩
 intro acc τ H3 d2 pc hd2;rw[hPc] at pc;obtain⟨o0,o1,o2,rfl,rfl,rfl⟩:=pc;rw[show ys.length=(sls ss a b).length by omega,C5,W3 hbn];have s3:=au (o:=By (((rng a b).map (lbl ss)).map At)) hd2;have e3:upd H3 d2 (By (((rng a b).map (lbl ss)).map At)) d2=_:=aD;generalize upd H3 d2 (By (((rng a b).map (lbl ss)).map At))=H4 at s3 e3 |-;refine⟨d2,rfl,(rng a b).map (lbl ss),SqL.of e3,by rw[AC,fZ];omega,λp4 L hp4 perm hup=>?_⟩;have hdl:=SRT.zA ((rng a b).map (lbl ss));rw[AC,fZ] at hdl;have hpl:=perm.length_eq;have hLab:tR ss (rng a b) L:=⟨Av (hup ω) (perm.nodup_iff.mpr (SRT.wX _)),λl=>by
  rw[perm.mem_iff,SRT.Qv,C9]⟩
 have hLl:L.length<=60:=ω;have s5:=s3.trans (au (o:=By (L.map At)) hp4);have e5:upd H4 p4 (By (L.map At)) p4=ID (By (L.map At)):=aD;generalize upd H4 p4 (By (L.map At))=H5 at s5 e5 |-;subst hk;refine aM λk hk=>?_;have et5:=(s2.trans s5) _ _ et1;have h5l:=h5.2.1;have z4:atI (zs.map At) 4=ID (.int (zs.getD 4 0)):=rW (i:=4) ω;have z3:atI (zs.map At) 3=ID (.int (zs.getD 3 0)):=rW (i:=3) ω;push_cast[et5,z4];have h99:∀i,i<5->1<=zs.getD i 0/\zs.getD i 0<=99:=λi hi=>by
  rw[AY,AD ω];exact h5.2.2 _ (D7 _)
 have h4:=h99 4 δ;have h3:=h99 3 δ;refine⟨.inr ⟨ω,ω⟩,aO δ,λp6 hp6=>?_⟩;rw[Vn];have s6:=s5.trans (au (o:=By [At (sumK ws (rng a b)*zs.getD 4 0)]) hp6);have e56:=au (o:=By [At (sumK ws (rng a b)*zs.getD 4 0)]) hp6 _ _ e5;generalize upd H5 p6 (By [At (sumK ws (rng a b)*zs.getD 4 0)])=H6 at s6 e56 |-;obtain⟨o1,o2,o3⟩:=Wr (fM ss (rng a b)<=200);refine⟨o1,o2,o3,λp7 hp7=>?_⟩;have hC1:=Qk (fM ss (rng a b)<=200) (sumK ws (rng a b)*zs.getD 4 0);obtain⟨C1,eC1⟩:∃C1,C1=(if fM ss (rng a b)<=200 then [sumK ws (rng a b)*zs.getD 4 0] else []):=⟨_,rfl⟩;rw[<- eC1] at hC1 |-;have s7:=s6.trans (au (o:=By (C1.map At)) hp7);have e57:=au (o:=By (C1.map At)) hp7 _ _ e56;have e7:upd H6 p7 (By (C1.map At)) p7=_:=aD;generalize upd H6 p7 (By (C1.map At))=H7 at s7 e57 e7 |-;subst hk;refine aM λk hk=>?_;have et7:=(s2.trans s7) _ _ et1;push_cast[et7,z3,e57,e7];refine⟨.inr ⟨ω,ω⟩,aO δ,λp8 hp8=>?_⟩;have s8:=au (o:=By [At (sumK ws (rng a b)*zs.getD 3 0)]) hp8;have e8:upd H7 p8 (By [At (sumK ws (rng a b)*zs.getD 3 0)]) p8=ID (By [At (sumK ws (rng a b)*zs.getD 3 0)]):=aD;have e58:=s8 _ _ e57;have e78:=s8 _ _ e7;generalize upd H7 p8 (By [At (sumK ws (rng a b)*zs.getD 3 0)])=H8 at s8 e8 e58 e78 |-;obtain⟨C2,eC2⟩:∃C2,C2=(if fM ss (rng a b)<=64/\L.length=2 then [sumK ws (rng a b)*zs.getD 3 0] else []):=⟨_,rfl⟩;have hC2:=Qk (fM ss (rng a b)<=64/\L.length=2) (sumK ws (rng a b)*zs.getD 3 0);rw[<- eC2] at hC2;have fin:∀p9,H8 p9=IF->adq (upd H8 p9 (By (C2.map At)) p7) (ID (By (C2.map At))) (upd H8 p9 (By (C2.map At))) λx H1=>
          k
           [ID (AT sa),ID (AT wa),ID (AT t),ID (At ↑a),ID (At ↑b),
            ID (AT ra),ID (At (sumK ws (rng a b))),ID (At (fM ss (rng a b))),
            ID (AT p4),ID x,IF]
           H1:=λp9 hp9=>by
  have s9:=au (o:=By (C2.map At)) hp9;rw[s9 _ _ e78];have s29:=s7.trans (s8.trans s9);have e59:=s9 _ _ e58;rw[acN,AC,AC,<- A4];refine⟨aO ω,λd hd=>?_⟩;clear hPc Pc hR;have hdn:=(s1.trans (s2.trans s29)).none hd;have hd4:p4≠d:=aB e59 hd;have hra:ra≠d:=aB ((s2.trans s29) _ _ e1) hd;have sA:=s29.trans (au (o:=By ((C1++C2).map At)) hd);have e5A:=au (o:=By ((C1++C2).map At)) hd _ _ e59;have edA:upd (upd H8 p9 (By (C2.map At))) d (By ((C1++C2).map At)) d=_:=aD;generalize upd (upd H8 p9 (By (C2.map At))) d (By ((C1++C2).map At))=HA at sA e5A edA |-;have hdA:∀{x o},H x=ID o->x≠d:=λe=>aB e hdn;subst hk;refine aM λk hk=>?_;refine jo λR hR=>?_;push_cast[e5A];obtain⟨Pv,hPv⟩:∃Pv:Nat->L2.St->Hp->Prop,Pv=λi σ H'=>∃(o10:Option V),(∀x o,x≠d->HA x=ID o->H' x=ID o)/\H' d=ID (.lst ((C1++C2++(L.take i).map λlab=>gB ss ws zs (sumK ws (rng a b)) ord lab).map At))/\σ=[ID (.ref sa),ID (.ref wa),ID (.ref t),ID (.int (a:Int)),ID (.int (b:Int)),ID (.ref ra),ID (.int (sumK ws (rng a b))),ID (.int (fM ss (rng a b))),ID (.ref p4),ID (.ref d),o10]:=⟨_,rfl⟩;have s0A:Same H HA:=s1.trans (s2.trans sA);refine Bw hR (xs:=L.map At) Pv (by rw[hPv];exact⟨_,λ_ _ _ e=>e,by rw[take_zero,map_nil,ED];exact edA,rfl⟩) ?_ ?_ ?_
  ·intro i σ H' _ pv;rw[hPv] at pv;obtain⟨_,s',_⟩:=pv;exact SqL.of (s' _ _ hd4 e5A)
  ·intro i y σ H' hy pv;rw[hPv] at pv;obtain⟨o10,s',ed',rfl⟩:=pv;have hil:=(AI.mp hy).1;rw[AC] at hil;rw[AL] at hy;obtain⟨lab,hlab,rfl⟩:=BG.mp hy;have s0':∀{x:IN}{o:HO},H x=ID o->H' x=ID o:=λe=>s' _ _ (hdA e) (s0A _ _ e);have ew':=s0' ew;push_cast[ed',ew'];refine λpw hpw=>?_;rw[BL ws a b ω ω];have s1':=au (o:=By ((slc ws a b).map At)) hpw;have epw:upd H' pw (By ((slc ws a b).map At)) pw=_:=aD;have era:=s1' _ _ (s' _ _ hra ((s2.trans sA) _ _ e1));have edd:=s1' _ _ ed';have tra:aG (λ_=>True) (upd H' pw (By ((slc ws a b).map At))) ys ((sls ss a b).map stD):=tys.keep λx o _ e=>⟨trivial,s1' _ _ (s0' e)⟩;refine⟨ra,pw,t,ys,λ_=>True,sls ss a b,slc ws a b,zs,lab,rfl,era,tra,ω,epw,?_,⟨s1' _ _ (s0' h5.1),h5.2⟩,λl H2' s2' fl pl=>?_⟩
   ·rw[uX hbn];unfold slc;rw[FS,Gc];omega
   rw[Ve h60 hbn hwl (h99 0 δ).1 (h99 1 δ).1 hord fl pl];show apq (H2' d) d _ H2' _;rw[s2' _ _ edd,wg];refine⟨?_,?_⟩
   ·rw[AC,A0,A0,AC];have:=CD i L;exact rY ω
   rw[hPv];refine⟨_,λx o hx e=>by rw[aH hx];exact s2' _ _ (s1' _ _ (s' _ _ hx e)),?_,rfl⟩;rw[aD,take_snoc hlab,A4 (f:=λlab=>gB ss ws zs (sumK ws (rng a b)) ord lab),<- F1,A4 (l₂:=IM _ [lab])];rfl
  intro σ H' pv;rw[hPv] at pv;obtain⟨o10,s',ed',rfl⟩:=pv;rw[AC,C5] at ed';clear hPv Pv hR;show k _ H';subst hk;push_cast;have hcC:BP ss ws zs a b ord L=C1++C2++L.map λlab=>gB ss ws zs (sumK ws (rng a b)) ord lab:=by rw[eC1,eC2];rfl
  rw[<- hcC] at ed';have hlc:(BP ss ws zs a b ord L).length<=62:=by
   rw[hcC,A0,A0,AC];omega
  have hl1:=(hLab.2 (lbl ss a)).mpr ⟨a,eG.mpr ⟨AV _,hab⟩,rfl⟩;refine q d _ H' (λx o e=>s' _ _ (hdA e) (s0A _ _ e)) hdn ed' ω (λz=>?_) λc=>M7 hLab hord c;rw[hcC] at z;have:=(K2.mp z).2;rw[LV.mp this] at hl1;cases hl1
 split
 ·rename_i c1;push_cast[e58];have hz:(if ((L.map At).length:Int)=2 then 1 else 0:Int)=if L.length=2 then 1 else 0:=by
   rw[AC];by_cases c2:L.length=2
   ·rw[if_pos c2,if_pos ω]
   rw[if_neg c2,if_neg ω]
  rw[hz];have hC2':C2=if L.length=2 then [sumK ws (rng a b)*zs.getD 3 0] else []:=by
   rw[eC2];by_cases c2:L.length=2
   ·rw[if_pos c2,if_pos ⟨c1,c2⟩]
   rw[if_neg c2,if_neg λz=>c2 z.2]
  push_cast[e8];obtain⟨g1,g2,g3⟩:=Wr (L.length=2);refine⟨g1,g2,g3,λp9 hp9=>?_⟩;rw[Vn,<- hC2'];have:=fin p9 hp9;push_cast;exact this
 rename_i c1;have e0:C2=[]:=by rw[eC2,if_neg λz=>c1 z.1]
 refine⟨δ,δ,aO δ,λp9 hp9=>?_⟩;have:=fin p9 hp9;rw[e0] at this;exact this
abbrev dO:List Str:=["_law_stretches_here","_law_weights_here","_law_prices_here","_law_many","_law_best","_law_begin","_law_end","_law_some","_law_base"]
abbrev bM:Stmt:=top 38
theorem gh:bA dO q6_ (aj bM):=⟨rfl,rfl,rfl,ψ,rfl,ψ,ψ⟩
theorem vB:NM_ dO bM 0 "_law_stretches_here":=.of ψ
theorem vA:NM_ dO bM 1 "_law_weights_here":=.of ψ
theorem vz:NM_ dO bM 2 "_law_prices_here":=.of ψ
theorem nu:NM_ dO bM 3 "_law_many":=.of ψ
theorem kj:NM_ dO bM 4 "_law_best":=.of ψ
theorem eF:NM_ dO bM 5 "_law_begin":=.of ψ
theorem jd:NM_ dO bM 6 "_law_end":=.of ψ
theorem nq:NM_ dO bM 7 "_law_some":=.of ψ
theorem GC:NM_ dO bM 8 "_law_base":=.of ψ
theorem rO:GI_ bM "_law_run_ways":=ψ
theorem Bg:GI_ bM "len":=ψ
theorem Bf:GI_ bM "min":=ψ
theorem jB:GI_ bM "range":=ψ
theorem Bd:GI_ bM "sum":=ψ
theorem yp:Bn "_law_best_runs" := ⟨ψ,ψ⟩
theorem Jv(hB:∀x:Str,x∈BLs->mg x=IF)(CZRunWays:Cal P w K mg base "_law_run_ways" 4 q1_ wz)(F:Fun K "_law_best_runs" "_law_best_runs" bM f fd):dw P w K mg base CX0 6 f fd q6_ zN:=by
 refine F.okz gh λcdv A outer s H vs Q E hr h=>?_;obtain⟨sa,wa,t,xs,ok,ss,ws,zs,rfl,es,ts,h1,h60,ew,hwl,h5,q⟩:=h;refine⟨_,(aF (bh nu gh.nd (bB b8 Bg (hB "len" fX) B9 fY (ak (ao vB) aq Z) Z Z) Z (.inl Z))
  (aF (bh kj gh.nd Ln Z (.inl Z))
  (aF (fV BU Z (Rv jB (hB "range" cU) (ak (aL dI (ao nu) aA) (ak (xJ pG aA) (ak (xJ pG aA) aq Z) Z) Z) Z Z) (dG eF gh.nd (.inl Z))
  (aF (V0 hr.fU (ao kj) (bY (ak (ao eF) (ak (aL aX (ao eF) aA) aq Z) Z)) aA Z)
  (aN (fV BU Z (ju jB (hB "range" cU) (ak (aL aX (ao eF) aA) (ak (aL aX (ao nu) aA) aq Z) Z) Z Z) (dG jd gh.nd (.inl Z))
  (aF (bh nq gh.nd (bw CZRunWays (hr.mono δ) rO BZ (ak (ao vB) (ak (ao vA) (ak (ao vz) (ak (ao eF) (ak (ao jd) aq Z) Z) Z) Z) Z) Z Z) Z (.inl Z))
  (aF (bh GC gh.nd (aL cO (aR bJ (ao vz) aA (λ_ _=>rfl)) (bB (iU Z) Bd (hB "sum" qp) KG qQ (ak (mJ Rf (ao vA) (iZ (ao eF)) (iZ (ao jd))) aq Z) Z Z)) Z (.inl Z))
  (aF (iY (Pj (ao nq) (cR (NX:=dO) (kX:=(aj bM).names) ["_law_k","_law_base","_law_best","_law_end","_law_begin"] [IF,ID 8,ID 4,ID 6,ID 5] Z Z ⟨rfl,ψ,ψ,ψ,ψ⟩ Z (ju jB (hB "range" cU) (ak (aL aX (ao eF) aA) (ak (ao jd) aq Z) Z) Z Z) (λ_ _ _ _ _=>(aY 0 (show A9 (["_law_k","_law_base","_law_best","_law_end","_law_begin"]:List Str) from by decide +kernel) Z (B8 Z))) (λ_ _ _ _ _=>cB) (λ_ _ _ _ _=>(aL aX (aL aX (aQ 1) (mK hr.fU (aQ 2) (bY (ak (aQ 4) (ak (aQ 0) aq Z) Z)) (λ_ _=>rfl))) (mK hr.fU (aQ 2) (bY (ak (aQ 0) (ak (aQ 3) aq Z) Z)) (λ_ _=>rfl))))) Z Z Z Z Z) Z)
  (aN (V0 hr.fU (ao kj) (bY (ak (ao eF) (ak (ao jd) aq Z) Z)) (bB (rG Z) Bf (hB "min" uz) LU uJ (ak (ao nq) aq Z) Z Z) Z))))) (λ_=>rfl)))) (λ_=>rfl))
  (aN (bf (ao kj)))))),?_⟩
 have tsl:=ts.length;rw[AC] at tsl;refine aM λk hk=>?_;push_cast[es];rw[tsl];subst hk;refine aM λk hk=>?_;push_cast;refine λbd hbd=>?_;subst hk;have s1:=au (o:=Do []) hbd;have e1:upd H bd (Do []) bd=ID (Do []):=aD;generalize upd H bd (Do [])=H1 at s1 e1 |-;refine aM λk hk=>?_;refine jo λR hR=>?_;push_cast[Xi];refine⟨⟨ω,ω,δ,δ⟩,?_⟩;rw[show((ss.length:Int)-1 - -1).toNat=ss.length by omega];have hno:∀{x:IN}{o:HO},H x=ID o->x≠bd:=λe=>aB e hbd;obtain⟨Pv,hPv⟩:∃Pv:Nat->L2.St->Hp->Prop,Pv=λi σ H'=>∃(o5 o6 o7 o8:Option V)(M:Nat->Nat->Int)(kvs:List (List Key×V)),Same H H'/\zm ss ws zs H' bd (61*i) (λp=>p.1<p.2/\p.2<=ss.length/\ss.length-i<=p.1) M kvs/\σ=[ID (.ref sa),ID (.ref wa),ID (.ref t),ID (.int (ss.length:Int)),ID (.ref bd),o5,o6,o7,o8]:=⟨_,rfl⟩;refine acD hR Pv (by rw[hPv];exact⟨_,_,_,_,λ_ _=>0,[],s1,⟨e1,AV _,λp h=>ω,λp h=>ω,λp h=>ω⟩,rfl⟩) ?_ ?_
 ·intro i σ H2 hi pv;rw[hPv] at pv;obtain⟨o5,o6,o7,o8,M,kvs,s2,bt,rfl⟩:=pv;obtain⟨a,ha⟩:∃a,a=ss.length-1-i:=⟨_,rfl⟩;rw[show(ss.length:Int)-1-(i:Int)=(a:Int) by omega];refine aM λk hk=>?_;push_cast[rdA];refine⟨aO δ,λp hp=>?_⟩;have s3:=au (o:=BY [At (a:Int),At ((a:Int)+1)]) hp;have e3:upd H2 p (BY [At (a:Int),At ((a:Int)+1)]) p=ID (BY [At (a:Int),At ((a+1:Nat):Int)]):=aD;have bt3:=bt.same s3;generalize upd H2 p (BY [At (a:Int),At ((a:Int)+1)])=H3 at s3 e3 bt3 |-;have hbl:=bt3.l;have hi60:61*i<=61*60:=Nat.mul_le_mul_left _ ω;refine⟨bd,_,rfl,rT.k2 bt3.e e3 (rY ω),?_⟩;obtain⟨M4,bt4⟩:=bt3.step (a:=a) (b:=a+1) (c:=0) (D':=λp=>p.1<p.2/\p.2<=ss.length/\(ss.length-i<=p.1\/(p.1=a/\p.2<a+2))) (λz=>by dsimp only at z;omega) (λp hp=>by
   obtain⟨g1,g2,g3|g3⟩:=hp
   ·exact .inl ⟨g1,g2,g3⟩
   ·exact .inr (Prod.ext g3.1 (show p.2=a+1 by omega))) (λp hp i2 j2 g1 g2 g3 g4=>by
   obtain⟨g5,g6,g7|g7⟩:=hp
   ·exact⟨g2,by show j2<=_;omega,by show _<=i2;omega⟩
   omega) (λ_=>rfl) (λz=>ω)
  have s4:=mF (o:=Do (putK kvs (key2 (a:Int) ((a+1:Nat):Int)) (At 0))) (s2.trans s3) hbd;generalize upd H3 bd (Do (putK kvs (key2 (a:Int) ((a+1:Nat):Int)) (At 0)))=H4 at s4 bt4 |-;generalize putK kvs (key2 (a:Int) ((a+1:Nat):Int)) (At 0)=kvs4 at bt4;subst hk;refine jo λR2 hR2=>?_;push_cast[vN];refine⟨ω,?_⟩;rw[show((ss.length:Int)+1-((a:Int)+2)).toNat=ss.length-1-a by omega];obtain⟨Pw,hPw⟩:∃Pw:Nat->L2.St->Hp->Prop,Pw=λj σ H'=>∃(o6 o7 o8:Option V)(M:Nat->Nat->Int)(kvs:List (List Key×V)),Same H H'/\zm ss ws zs H' bd (61*i+1+j) (λp=>p.1<p.2/\p.2<=ss.length/\(ss.length-i<=p.1\/(p.1=a/\p.2<a+2+j))) M kvs/\σ=[ID (.ref sa),ID (.ref wa),ID (.ref t),ID (.int (ss.length:Int)),ID (.ref bd),ID (.int (a:Int)),o6,o7,o8]:=⟨_,rfl⟩;refine Eu hR2 Pw (by rw[hPw];exact⟨_,_,_,M4,kvs4,s4,bt4,rfl⟩) ?_ ?_
  ·intro j σ H5 hj pw;rw[hPw] at pw;obtain⟨o6',o7',o8',M5,kvs5,s5,bt5,rfl⟩:=pw;obtain⟨b,hb⟩:∃b,b=a+2+j:=⟨_,rfl⟩;rw[show(a:Int)+2+(j:Int)=(b:Int) by omega];push_cast;refine⟨sa,wa,t,a,b,xs,ok,ss,ws,zs,rfl,s5 _ _ es,ts.same s5,h60,s5 _ _ ew,hwl,⟨s5 _ _ h5.1,h5.2⟩,ω,ω,λd C H6 s6 hd6 ed6 hCl hCn hC=>?_⟩;have s56:=s5.trans s6;have et6:=s56 _ _ h5.1;have ew6:=s56 _ _ ew;have h5l:=h5.2.1;have h99:∀i,i<5->1<=zs.getD i 0/\zs.getD i 0<=99:=λi hi=>by
    rw[AY,AD ω];exact h5.2.2 _ (D7 _)
   have h2:=h99 2 δ;have z2:atI (zs.map At) 2=ID (.int (zs.getD 2 0)):=rW (i:=2) ω;push_cast[et6,ew6,z2];refine λpw hpw=>⟨slc ws a b,BL ws a b ω ω,?_⟩;rw[zu ω];have s7:=au (o:=By (oE (ws.map At) (ID (a:Int)) (ID (b:Int)))) hpw;have ed7:=s7 _ _ ed6;generalize upd H6 pw (By (oE (ws.map At) (ID (a:Int)) (ID (b:Int))))=H7 at s7 ed7 |-;push_cast;refine⟨.inl ⟨ω,ω⟩,?_⟩;push_cast[Ik,Qq,ed7,Hi];have bt7:=bt5.same (s6.trans s7);have s57:=s56.trans s7;refine cN λR3 hR3=>?_;push_cast[vN];refine⟨ω,?_⟩;rw[show((b:Int)-((a:Int)+1)).toNat=b-(a+1) by omega];obtain⟨f,hf⟩:∃f:Nat->Int,f=λk=>zs.getD 2 0*sumK ws (rng a b)+M5 a k+M5 k b:=⟨_,rfl⟩;obtain⟨Pl,hPl⟩:∃Pv:Nat->List V->L2.St->Hp->Prop,Pv=λ(i:Nat) acc τ H'=>∃(o0:Option V),Same H7 H'/\acc=(((rng (a+1) b).take i).map f).map At/\τ=[o0,ID (.int (zs.getD 2 0*sumK ws (rng a b))),ID (.ref bd),ID (.int (b:Int)),ID (.int (a:Int))]:=⟨_,rfl⟩;refine uH hR3 (aO ω) Pl (by rw[hPl];exact⟨_,Same.refl _,rfl,rfl⟩) ?_ ?_ ?_
   ·intro i2 acc τ H8 pl;rw[hPl] at pl;obtain⟨_,_,rfl,_⟩:=pl;rw[AC,AC];exact CD _ _
   ·intro i2 acc τ H8 hi2 pl;rw[hPl] at pl;obtain⟨o0,s8,rfl,rfl⟩:=pl;obtain⟨k2,hk2⟩:∃k2,k2=a+1+i2:=⟨_,rfl⟩;rw[show(a:Int)+1+(i2:Int)=(k2:Int) by omega];have bt8:=bt7.same s8;push_cast[rdA];refine⟨aO δ,λp8 hp8=>?_⟩;have s9:=au (o:=BY [At (a:Int),At (k2:Int)]) hp8;have e9:upd H8 p8 (BY [At (a:Int),At (k2:Int)]) p8=_:=aD;have bt9:=bt8.same s9;generalize upd H8 p8 (BY [At (a:Int),At (k2:Int)])=H9 at s9 e9 bt9 |-;refine⟨bd,_,rfl,j7.k2 bt9.e e9 (bt9.num (a,k2) (by dsimp only;omega)),?_⟩;push_cast[rdA];refine⟨aO δ,λp10 hp10=>?_⟩;have s10:=au (o:=BY [At (k2:Int),At (b:Int)]) hp10;have e10:upd H9 p10 (BY [At (k2:Int),At (b:Int)]) p10=_:=aD;have bt10:=bt9.same s10;generalize upd H9 p10 (BY [At (k2:Int),At (b:Int)])=H10 at s10 e10 bt10 |-;refine⟨bd,_,rfl,j7.k2 bt10.e e10 (bt10.num (k2,b) (by dsimp only;omega)),?_⟩;push_cast[rdA];rw[hPl];refine⟨_,(s8.trans s9).trans s10,?_,rfl⟩;rw[take_snoc (Gk ω),A4,A4,<- hk2];show _=_++[At (f k2)];rw[hf]
   intro acc τ H8 d8 pl hd8;rw[hPl] at pl;obtain⟨o0,s8,rfl,rfl⟩:=pl;rw[show b-(a+1)=(rng (a+1) b).length from(fZ _ _).symm,C5];have s9:=au (o:=By (((rng (a+1) b).map f).map At)) hd8;have e9:upd H8 d8 (By (((rng (a+1) b).map f).map At)) d8=_:=aD;have ed9:=(s8.trans s9) _ _ ed7;have s59:Same H5 (upd H8 d8 (By (((rng (a+1) b).map f).map At))):=s6.trans (s7.trans (s8.trans s9));generalize upd H8 d8 (By (((rng (a+1) b).map f).map At))=H9 at s9 e9 ed9 s59 |-;rw[J8,ed9,e9,Xr,<- A4];refine⟨aO (by rw[AC,AC,AC,fZ];omega),?_⟩;have s5A:=mF (o:=By ((C++(rng (a+1) b).map f).map At)) s59 hd6;have edA:upd H9 d (By ((C++(rng (a+1) b).map f).map At)) d=_:=aD;generalize upd H9 d (By ((C++(rng (a+1) b).map f).map At))=HA at s5A edA |-;have btA:=bt5.same s5A;clear hPl Pl hR3;push_cast[rdA];refine⟨C++(rng (a+1) b).map f,.inl edA,λz=>hCn (K2.mp z).1,λm hm hle=>?_⟩;refine⟨aO δ,λp hp=>?_⟩;have s6':=au (o:=BY [At (a:Int),At (b:Int)]) hp;have e6':upd HA p (BY [At (a:Int),At (b:Int)]) p=_:=aD;have btB:=btA.same s6';have s5B:=s5A.trans s6';generalize upd HA p (BY [At (a:Int),At (b:Int)])=HB at s6' e6' btB s5B |-;have hbl:=btB.l;refine⟨bd,_,rfl,rT.k2 btB.e e6' (rY ω),?_⟩;rw[hf] at hm hle;obtain⟨M6,bt6⟩:=btB.step (a:=a) (b:=b) (c:=m) (D':=λp=>p.1<p.2/\p.2<=ss.length/\(ss.length-i<=p.1\/(p.1=a/\p.2<a+2+(j+1)))) (λz=>by dsimp only at z;omega) (λp hp=>by
    obtain⟨g1,g2,g3|g3⟩:=hp
    ·exact .inl ⟨g1,g2,.inl g3⟩
    ·by_cases c:p.2<a+2+j
     ·exact .inl ⟨g1,g2,.inr ⟨g3.1,c⟩⟩
     exact .inr (Prod.ext g3.1 (show p.2=b by omega))) (λp hp i2 j2 g1 g2 g3 g4=>by
    obtain⟨g5,g6,g7|g7⟩:=hp
    ·exact⟨g2,by show j2<=_;omega,.inl (by show _<=i2;omega)⟩
    refine⟨g2,by show j2<=_;omega,?_⟩;show ss.length-i<=i2\/(i2=a/\j2<a+2+j);omega) (λz=>ω) (λ_=>JX ω hC hm hle)
   rw[hPw];exact⟨_,_,_,M6,_,mF (s5.trans s5B) hbd,bt6,rfl⟩
  intro σ H5 pw;rw[hPw] at pw;obtain⟨o6',o7',o8',M5,kvs5,s5,bt5,rfl⟩:=pw;show Pv (i+1) _ H5;rw[hPv];refine⟨_,_,_,_,M5,kvs5,s5,bt5.iff ω λp hp=>?_,rfl⟩;obtain⟨g1,g2,g3⟩:=hp;exact⟨g1,g2,ω⟩
 intro σ H2 pv;rw[hPv] at pv;obtain⟨o5,o6,o7,o8,M,kvs,s2,bt,rfl⟩:=pv;show k _ H2;subst hk;push_cast;exact q bd H2 _ M kvs s2 (bt.iff (AV _) λp hp=>⟨hp.1,hp.2,ω⟩)
abbrev bT:List Str:=["_law_stretches_here","_law_weights_here","_law_prices_here","_law_thing","_law_many","_law_begin","_law_row","_law_end","_law_number","_law_most","_law_base","_law_k","_law_sides"]
abbrev aU:Stmt:=top 39
theorem cA:bA bT q4_ (aj aU):=⟨rfl,rfl,rfl,ψ,rfl,ψ,ψ⟩
theorem sS:NM_ bT aU 0 "_law_stretches_here":=.of ψ
theorem sO:NM_ bT aU 1 "_law_weights_here":=.of ψ
theorem sH:NM_ bT aU 2 "_law_prices_here":=.of ψ
theorem fQ:NM_ bT aU 3 "_law_thing":=.of ψ
theorem g8:NM_ bT aU 4 "_law_many":=.of ψ
theorem bU:NM_ bT aU 5 "_law_begin":=.of ψ
theorem jF:NM_ bT aU 6 "_law_row":=.of ψ
theorem eU:NM_ bT aU 7 "_law_end":=.of ψ
theorem sG:NM_ bT aU 8 "_law_number":=.of ψ
theorem jE:NM_ bT aU 9 "_law_most":=.of ψ
theorem pY:NM_ bT aU 10 "_law_base":=.of ψ
theorem jc:NM_ bT aU 11 "_law_k":=.of ψ
theorem pX:NM_ bT aU 12 "_law_sides":=.of ψ
theorem qx:GI_ aU "_law_run_ways":=ψ
theorem yR:GI_ aU "any":=ψ
theorem oX:GI_ aU "enumerate":=ψ
theorem jh:GI_ aU "isinstance":=ψ
theorem jZ:GI_ aU "len":=ψ
theorem mR:GI_ aU "list":=ψ
theorem yQ:GI_ aU "min":=ψ
theorem jg:GI_ aU "range":=ψ
theorem oU:GI_ aU "sum":=ψ
theorem oH:Bn "_law_shows_runs" := ⟨ψ,ψ⟩
theorem LC(hB:∀x:Str,x∈BLs->mg x=IF)(CZRunWays:Cal P w K mg base "_law_run_ways" 4 q1_ wz)(F:Fun K "_law_shows_runs" "_law_shows_runs" aU f fd):dw P w K mg base CX0 6 f fd q4_ spShowsR:=by
 refine F.okz cA λcdv A outer s H vs Q E hr h=>?_;obtain⟨sa,wa,t,v,xs,ok,ok2,ss,ws,zs,d,rfl,es,ts,h1,h60,ew,hwl,h5,hnn,hnw,td,q⟩:=h;refine⟨_,(aF (bh g8 cA.nd (bB b8 jZ (hB "len" fX) B9 fY (ak (ao sS) aq Z) Z Z) Z (.inl Z))
  (aF (eX (CN (xH (pK (jt (bB bQ jh (hB "isinstance" aV) BI aW (ak (ao fQ) (ak (gM "list" mR (hB "list" iC) FF ji) aq Z) Z) Z Z) (λ_=>rfl))) (tZ (b7 (jU hr.cM) (bB b8 jZ (hB "len" fX) B9 fY (ak (ao fQ) aq Z) Z Z) (ao g8) (bC _))))) (aN (bf jb)) cP)
  (aF (fV BU Z (Jo oX (hB "enumerate" vL) (ak (ao fQ) aq Z) Z) (fW (n:=2) Z (aP (dG bU cA.nd (.inl Z)) (aP (dG jF cA.nd (.inl Z)) dU Z) Z) Z Z)
  (aF (eX (CN (xH (pK (jt (bB bQ jh (hB "isinstance" aV) BI aW (ak (ao jF) (ak (gM "list" mR (hB "list" iC) FF ji) aq Z) Z) Z Z) (λ_=>rfl))) (tZ (b7 (jU hr.cM) (bB b8 jZ (hB "len" fX) B9 fY (ak (ao jF) aq Z) Z Z) (aL dI (ao g8) (ao bU)) (bC _))))) (aN (bf jb)) cP)
  (aN (eX (jt (bB (TQ Z) yR (hB "any" ab9) PyProof.Rows.Boot.«any» acL (ak (cR (NX:=bT) (kX:=(aj aU).names) ["_law_one"] [IF] Z Z ⟨rfl,ψ,ψ,ψ,ψ⟩ Z (bW (ao jF)) (λ_ _ _ _ _=>(aY 0 (show A9 (["_law_one"]:List Str) from by decide +kernel) Z (B8 Z))) (λ_ _ _ _ _=>cB) (λ_ _ _ _ _=>(ac8 (bB bQ Z (hB "isinstance" aV) BI aW (ak (aQ 0) (ak (gM "bool" Z (hB "bool" rB) LZ rH) aq Z) Z) Z Z) (uc (Lk (bB bQ Z (hB "isinstance" aV) BI aW (ak (aQ 0) (ak (gM "int" Z (hB "int" uD) LS uK) aq Z) Z) Z Z)))))) aq Z) Z Z) (λ_=>rfl)) (aN (bf jb)) cP))) (λ_=>rfl))
  (aF (fV BU Z (jw jg (hB "range" cU) (ak (ao g8) aq Z) Z) (dG bU cA.nd (.inl Z))
  (aN (fV BU Z (ju jg (hB "range" cU) (ak (aL aX (ao bU) aA) (ak (aL aX (ao g8) aA) aq Z) Z) Z Z) (dG eU cA.nd (.inl Z))
  (aF (bh sG cA.nd (aR bJ (aR bJ (ao fQ) (ao bU) (λ_ _=>rfl)) (aL dI (aL dI (ao eU) (ao bU)) aA) (λ_ _=>rfl)) Z (.inl Z))
  (aF (bh jE cA.nd (eY (ak aA aq Z)) Z (.inl Z))
  (aF (eX (b7 Ej (ao eU) (aL aX (ao bU) aA) (bC _)) (aF (bh jE cA.nd (bw CZRunWays (hr.mono δ) qx BZ (ak (ao sS) (ak (ao sO) (ak (ao sH) (ak (ao bU) (ak (ao eU) aq Z) Z) Z) Z) Z) Z Z) Z (.inl Z))
  (aF (bh pY cA.nd (aL cO (aR bJ (ao sH) aA (λ_ _=>rfl)) (bB (iU Z) oU (hB "sum" qp) KG qQ (ak (mJ Rf (ao sO) (iZ (ao bU)) (iZ (ao eU))) aq Z) Z Z)) Z (.inl Z))
  (aN (fV BU Z (ju jg (hB "range" cU) (ak (aL aX (ao bU) aA) (ak (ao eU) aq Z) Z) Z Z) (dG jc cA.nd (.inl Z))
  (aF (bh pX cA.nd (eY (ak (aR bJ (aR bJ (ao fQ) (ao bU) (λ_ _=>rfl)) (aL dI (aL dI (ao jc) (ao bU)) aA) (λ_ _=>rfl)) (ak (aR bJ (aR bJ (ao fQ) (ao jc) (λ_ _=>rfl)) (aL dI (aL dI (ao eU) (ao jc)) aA) (λ_ _=>rfl)) aq Z) Z)) Z (.inl Z))
  (aN (iY (lM (ao jE) (aL aX (ao pY) (bB (iU Z) oU (hB "sum" qp) KG qQ (ak (ao pX) aq Z) Z Z)) Z Z Z Z Z) Z))) (λ_=>rfl))))) cP)
  (aN (eX (b7 Ej (ao sG) (bB (rG Z) yQ (hB "min" uz) LU uJ (ak (ao jE) aq Z) Z Z) (bC _)) (aN (bf jb)) cP))))) (λ_=>rfl))) (λ_=>rfl))
  (aN (bf jb)))))),?_⟩
 have tsl:=ts.length;rw[AC] at tsl;refine aM λk hk=>?_;push_cast[es];rw[tsl];subst hk;have no:∀H',Same H H'->¬QV ss.length d->Q (.bl false) H':=λH' s' h=>by
  have:=q H' s';rw[oV] at this
  ·exact this
  rintro⟨N,e,_⟩;exact h ⟨N,e⟩
 have no0:(∀ds,d≠.list ds)->Q (.bl false) H:=λh=>no H (Same.refl _) λ⟨N,e⟩=>h _ e;obtain⟨n,hn⟩:∃n,n=ss.length:=⟨_,rfl⟩;rw[<- hn] at h1 h60 hwl no q |-;refine aM λk hk=>?_;have td0:=td;cases td with
 | non=>push_cast;exact no0 (λds z=>by cases z)
 | bl b=>push_cast;exact no0 (λds z=>by cases z)
 | int i=>push_cast;exact no0 (λds z=>by cases z)
 | str x=>push_cast;exact no0 (λds z=>by cases z)
 | tup o e z t=>push_cast[e];exact no0 (λds z=>by cases z)
 | lst o e z tt=>
  rename_i pd rws ds;have hl:=tt.length;push_cast[e];by_cases c:(rws.length:Int)=(n:Int)
  ·rw[decide_eq_true c,He,if_neg δ];have hln:ds.length=n:=ω;subst hk;have iff:=rD (n:=n) (ds:=ds);refine aM λk hk=>?_;refine jo λR hR=>?_;push_cast[Es,Qm,e,Ql];obtain⟨Pv,hPv⟩:∃Pv:Nat->L2.St->Hp->Prop,Pv=λ(i:Nat) σ H'=>∃(o5 o6:Option V),Same H H'/\(∀j,j<i->∃M,Cp (n-j) (ds.getD j .none) M)/\σ=[ID (.ref sa),ID (.ref wa),ID (.ref t),ID (.ref pd),ID (.int (n:Int)),o5,o6,IF,IF,IF,IF,IF,IF]:=⟨_,rfl⟩;refine adH hR (xs:=rws) Pv (by rw[hPv];exact⟨_,_,Same.refl _,(λj h=>absurd h (not_lt_zero _)),rfl⟩) ?_ ?_ ?_
   ·intro i σ H2 pv;rw[hPv] at pv;obtain⟨_,_,s2,_⟩:=pv;exact s2 _ _ e
   ·intro i y σ H2 p2 hy pv hp2;rw[hPv] at pv;obtain⟨o5,o6,s2,hall,rfl⟩:=pv;have hi:=(AI.mp hy).1;obtain⟨dd,hd,tdd⟩:=(tt.same s2).get hy;have hgd:ds.getD i .none=dd:=by rw[AY,hd];rfl
    have s3:=au (o:=BY [At (i:Nat),y]) hp2;have e3:upd H2 p2 (BY [At (i:Nat),y]) p2=_:=aD;have td3:=tdd.same s3;have s23:=s2.trans s3;generalize upd H2 p2 (BY [At (i:Nat),y])=H3 at s3 e3 td3 s23 |-;have bad:∀H',Same H3 H'->(¬ ∃M,Cp (n-i) dd M)->Q (.bl false) H':=λH' s' h=>no H' (s23.trans s') λz=>h (hgd ▸ (iff.mp z).2 i ω);have bad0:(∀es,dd≠.list es)->Q (.bl false) H3:=λh=>bad H3 (Same.refl _) λ⟨M,z,_⟩=>h _ z;push_cast[e3];cases td3 with
    | non=>push_cast;exact bad0 (λds z=>by cases z)
    | bl b=>push_cast;exact bad0 (λds z=>by cases z)
    | int i=>push_cast;exact bad0 (λds z=>by cases z)
    | str x=>push_cast;exact bad0 (λds z=>by cases z)
    | tup o' e' z' t'=>push_cast[e'];exact bad0 (λds z=>by cases z)
    | lst o' e' z' t'=>
     rename_i ra ys es';have hyl:=t'.length;push_cast[e'];by_cases c2:(ys.length:Int)=(n:Int)-(i:Int)
     ·rw[decide_eq_true c2,He,if_neg δ];refine cN λR2 hR2=>?_;push_cast[e'];obtain⟨Pc,hPc⟩:∃Pv:Nat->List V->L2.St->Hp->Prop,Pv=λ(j:Nat) acc τ H'=>∃(o0:Option V),Same H3 H'/\acc=((es'.take j).map λd=>!fj d).map As/\τ=[o0]:=⟨_,rfl⟩;refine iQ hR2 (xs:=ys) (aO ω) Pc (by rw[hPc];exact⟨_,Same.refl _,rfl,rfl⟩) ?_ ?_ ?_ ?_
      ·intro j acc τ H4 pc;rw[hPc] at pc;obtain⟨_,_,rfl,_⟩:=pc;rw[AC,AC];exact CD _ _
      ·intro j acc τ H4 pc;rw[hPc] at pc;obtain⟨_,s4,_⟩:=pc;exact SqL.of (s4 _ _ e')
      ·intro j x acc τ H4 hx pc;rw[hPc] at pc;obtain⟨o0,s4,rfl,rfl⟩:=pc;obtain⟨de,hde,tde⟩:=(t'.same s4).get hx;have fin:Pc (j+1) (((es'.take j).map λd=>!fj d).map As++[.bl (!fj de)]) [ID x] H4:=by
        rw[hPc];exact⟨_,s4,by rw[take_snoc hde,A4,A4];rfl,rfl⟩
       cases tde with
       | non=>push_cast;exact fin
       | bl b=>push_cast;exact fin
       | int i=>push_cast;exact fin
       | str x=>push_cast;exact fin
       | tup o9 e9 z9 t9=>push_cast[e9];exact fin
       | lst o9 e9 z9 t9=>push_cast[e9];exact fin
      intro acc τ H4 d4 pc hd4;rw[hPc] at pc;obtain⟨o0,s4,rfl,rfl⟩:=pc;rw[hyl,C5];have s5:=s4.trans (au (o:=By ((es'.map λd=>!fj d).map As)) hd4);have e5:upd H4 d4 (By ((es'.map λd=>!fj d).map As)) d4=ID (By ((es'.map λd=>!fj d).map As)):=aD;generalize upd H4 d4 (By ((es'.map λd=>!fj d).map As))=H5 at s5 e5 |-;push_cast[e5];refine⟨_,rfl,?_⟩;by_cases all:(es'.map λd=>!fj d).any id=true
      ·rw[all,if_pos rfl];refine bad H5 s5 ?_;rintro⟨M,h1,_⟩;cases h1;rw[any_map,JI] at all;obtain⟨x,hx,hx2⟩:=all;obtain⟨i,_,rfl⟩:=C9.mp hx;cases hx2
      rw[eq_false_iff.mpr all,if_neg δ,hPv];have al2:(es'.map fj).all id=true:=by
       rw[all_map,Go];intro x hx;cases hx2:fj x with
       | true=>exact hx2
       | false=>
        refine absurd ?_ all;rw[any_map,JI];exact⟨x,hx,by show(!fj x)=true;rw[hx2];rfl⟩
      obtain⟨M,rfl⟩:=Gx al2;refine⟨_,_,s23.trans s5,λj hj=>?_,rfl⟩;rcases FU j i with h|h
      ·exact hall j h
      have:j=i:=by omega
      subst this;rw[hgd];rw[AC] at hyl;exact⟨M,rfl,ω⟩
     rw[decide_eq_false c2,LG,if_pos rfl];refine bad H3 (Same.refl _) ?_;rintro⟨M,h1,h2⟩;cases h1;rw[AC] at hyl;omega
   intro σ H2 pv;rw[hPv] at pv;obtain⟨o5,o6,s2,hall,rfl⟩:=pv;obtain⟨N,hN⟩:=iff.mpr ⟨hln,λj hj=>hall j ω⟩;clear hR hPv;show k _ H2;subst hk;rw[hN] at td0 q;refine aM λk hk=>?_;refine jo λR hR=>?_;push_cast[vO];refine⟨ω,ω,?_⟩;obtain⟨Po,hPo⟩:∃Pv:Nat->L2.St->Hp->Prop,Pv=λ(i:Nat) σ H'=>∃(o5 o6 o7 o8 o9 o10 o11 o12:Option V),Same H H'/\Cr ss ws zs n N (λa _=>a<i)/\σ=[ID (.ref sa),ID (.ref wa),ID (.ref t),ID (.ref pd),ID (.int (n:Int)),o5,o6,o7,o8,o9,o10,o11,o12]:=⟨_,rfl⟩;refine Eu (n:=n) hR Po (by rw[hPo];exact⟨_,_,_,_,_,_,_,_,s2,(λa b h=>absurd h (not_lt_zero _)),rfl⟩) ?_ ?_
   ·intro i σ H3 hi po;rw[hPo] at po;obtain⟨o5,o6,o7,o8,o9,o10,o11,o12,s3,bl,rfl⟩:=po;rw[show(0:Int)+(i:Int)=(i:Int) by omega];refine jo λR2 hR2=>?_;push_cast[vN];refine⟨ω,?_⟩;rw[show((n:Int)+1-((i:Int)+1)).toNat=n-i by omega];obtain⟨Pi,hPi⟩:∃Pv:Nat->L2.St->Hp->Prop,Pv=λ(j:Nat) σ H'=>∃(o7 o8 o9 o10 o11 o12:Option V),Same H H'/\Cr ss ws zs n N (λa b=>a<i\/(a=i/\b<i+1+j))/\σ=[ID (.ref sa),ID (.ref wa),ID (.ref t),ID (.ref pd),ID (.int (n:Int)),ID (.int (i:Int)),o6,o7,o8,o9,o10,o11,o12]:=⟨_,rfl⟩;refine Eu (n:=n-i) hR2 Pi (by rw[hPi];exact⟨_,_,_,_,_,_,s3,bl.mono (λa b h1 h2 h=>ω),rfl⟩) ?_ ?_
    ·intro j σ H4 hj pi;rw[hPi] at pi;obtain⟨o7',o8',o9',o10',o11',o12',s4,bl4,rfl⟩:=pi;obtain⟨b,hb⟩:∃b,b=i+1+j:=⟨_,rfl⟩;rw[show(i:Int)+1+(j:Int)=(b:Int) by omega];obtain⟨pd',rws',ra,ns,epd,ep,hat,era,hat2⟩:=zy (td0.same s4) (a:=i) (b:=b) ω ω;cases epd;refine aM λk2 hk2=>?_;push_cast[ep,hat,era,hat2];subst hk2;refine aM λk2 hk2=>?_;push_cast;refine⟨aO δ,λd0 hd0=>?_⟩;subst hk2;have s5:=au (o:=By [At 0]) hd0;have e5:upd H4 d0 (By [At 0]) d0=ID (By (([0]:List Int).map At)):=aD;have s45:=s4.trans s5;generalize upd H4 d0 (By [At 0])=H5 at s5 e5 s45 |-;refine aM λk2 hk2=>?_;have fin:∀(d:IN)(C:List Int)(H6:Hp)(o10 o11 o12:Option V),Same H H6->H6 d=ID (.lst (C.map At))->C≠[]->(∀m,m∈C->(∀c∈C,m<=c)->cY ss ws zs N i b m)->k2 [ID (.ref sa),ID (.ref wa),ID (.ref t),ID (.ref pd),ID (.int (n:Int)),ID (.int (i:Int)),o6,ID (.int (b:Int)),ID (.int (N i b)),ID (.ref d),o10,o11,o12] H6:=by
      intro d C H6 o10 o11 o12 s6 e6 hC hl;subst hk2;push_cast;refine⟨C,.inl e6,hC,λm hm hle=>?_⟩;have lst:=hl m hm hle;split
      ·rename_i cc;have:=q H6 s6;rw[oV] at this
       ·exact this
       intro z;obtain⟨⟨x,hx,ex⟩,_⟩:=lst;have:=iG.mp z i b ω ω x hx;omega
      rename_i cc;rw[hPi];refine⟨_,_,_,_,_,_,s6,λa' b' h h1 h2 x hx=>?_,rfl⟩;by_cases ce:a'=i/\b'=b
      ·obtain⟨rfl,rfl⟩:=ce;have:=lst.2 x hx;omega
      exact bl4 a' b' ω h1 h2 x hx
     have h5l:=h5.2.1;have h99:∀k,k<5->1<=zs.getD k 0/\zs.getD k 0<=99:=λk hk=>by
      rw[AY,AD ω];exact h5.2.2 _ (D7 _)
     by_cases cb:(b:Int)>(i:Int)+1
     ·push_cast;rw[if_pos cb];refine⟨sa,wa,t,i,b,xs,ok,ss,ws,zs,rfl,s45 _ _ es,ts.same s45,ω,s45 _ _ ew,ω,⟨s45 _ _ h5.1,h5.2⟩,ω,ω,λd C H6 s6 hd6 ed6 hCl hCn hC=>?_⟩;have s46:=s45.trans s6;have et6:=s46 _ _ h5.1;have ew6:=s46 _ _ ew;have h2:=h99 2 δ;have z2:atI (zs.map At) 2=ID (.int (zs.getD 2 0)):=rW (i:=2) ω;push_cast[et6,ew6,z2];refine λpw hpw=>⟨slc ws i b,BL ws i b ω ω,?_⟩;rw[zu ω];have s7:=au (o:=By (oE (ws.map At) (ID (i:Int)) (ID (b:Int)))) hpw;have ed7:=s7 _ _ ed6;have s47:=s46.trans s7;generalize upd H6 pw (By (oE (ws.map At) (ID (i:Int)) (ID (b:Int))))=H7 at s7 ed7 s47 |-;push_cast;refine⟨.inl ⟨ω,ω⟩,?_⟩;refine jo λR3 hR3=>?_;push_cast[vN];refine⟨ω,?_⟩;rw[show((b:Int)-((i:Int)+1)).toNat=b-(i+1) by omega];obtain⟨g,hg⟩:∃g:Nat->Int,g=λk=>zs.getD 2 0*sumK ws (rng i b)+N i k+N k b:=⟨_,rfl⟩;have hdH:H d=IF:=s45.none hd6;obtain⟨Pl,hPl⟩:∃Pv:Nat->L2.St->Hp->Prop,Pv=λ(i2:Nat) σ H'=>∃(o11 o12:Option V),Same H H'/\H' d=ID (.lst ((C++((rng (i+1) b).take i2).map g).map At))/\σ=[ID (.ref sa),ID (.ref wa),ID (.ref t),ID (.ref pd),ID (.int (n:Int)),ID (.int (i:Int)),o6,ID (.int (b:Int)),ID (.int (N i b)),ID (.ref d),ID (.int (zs.getD 2 0*sumK ws (rng i b))),o11,o12]:=⟨_,rfl⟩;refine Eu (n:=b-(i+1)) hR3 Pl (by rw[hPl];exact⟨_,_,s47,by rw[take_zero,map_nil,ED];exact ed7,rfl⟩) ?_ ?_
      ·intro i2 σ H8 hi2 pl;rw[hPl] at pl;obtain⟨o11,o12,s8,ed8,rfl⟩:=pl;obtain⟨k3,hk3⟩:∃k3,k3=i+1+i2:=⟨_,rfl⟩;rw[show(i:Int)+1+(i2:Int)=(k3:Int) by omega];obtain⟨pd1,rws1,ra1,ns1,epd1,ep1,hat1,era1,hat11⟩:=zy (td0.same s8) (a:=i) (b:=k3) ω ω;obtain⟨pd2,rws2,ra2,ns2,epd2,ep2,hat2',era2,hat22⟩:=zy (td0.same s8) (a:=k3) (b:=b) ω ω;cases epd1;cases epd2;rw[ep1] at ep2;cases ep2;refine aM λk4 hk4=>?_;push_cast[ep1,hat1,era1,hat11,hat2',era2,hat22];refine⟨aO δ,λd9 hd9=>?_⟩;have s9:=au (o:=By [At (N i k3),At (N k3 b)]) hd9;have e9:upd H8 d9 (By [At (N i k3),At (N k3 b)]) d9=ID (By ([N i k3,N k3 b].map At)):=aD;have ed9:=s9 _ _ ed8;generalize upd H8 d9 (By [At (N i k3),At (N k3 b)])=H9 at s9 e9 ed9 |-;subst hk4;push_cast[e9,ed9];refine⟨[N i k3,N k3 b],rfl,?_⟩;push_cast[ed9];refine⟨rY (by rw[AC,A0,AC];have:=CD i2 (rng (i+1) b);have:=fZ (i+1) b;omega),?_⟩;rw[hPl];refine⟨_,_,wG (s8.trans s9) hdH,?_,rfl⟩;rw[aD,take_snoc (Gk ω),<- hk3,A4,A4,A4,A4,F1];have:g k3=zs.getD 2 0*sumK ws (rng i b)+[N i k3,N k3 b].sum:=by
        rw[hg];show _=_+(N i k3+(N k3 b+0));dsimp only;omega
       rw[<- this];rfl
      intro σ H8 pl;rw[hPl] at pl;obtain⟨o11,o12,s8,ed8,rfl⟩:=pl;rw[show b-(i+1)=(rng (i+1) b).length from(fZ _ _).symm,C5] at ed8;refine fin d _ H8 _ _ _ s8 ed8 (λz=>hCn (K2.mp z).1) λm hm hle=>?_;rw[hg] at hm hle;exact JX ω hC hm hle
     push_cast;rw[if_neg cb];refine fin d0 [0] H5 _ _ _ s45 e5 (List.cons_ne_nil _ _) λm hm _=>?_;rw[AJ.mp hm,show b=i+1 by omega];exact FT (vQ hnn) λk hk=>by have:=h99 k hk;omega
    intro σ H4 pi;rw[hPi] at pi;obtain⟨o7',o8',o9',o10',o11',o12',s4,bl4,rfl⟩:=pi;show Po (i+1) _ H4;rw[hPo];exact⟨_,_,_,_,_,_,_,_,s4,bl4.mono (λa b h1 h2 h=>ω),rfl⟩
   intro σ H3 po;rw[hPo] at po;obtain⟨o5,o6,o7,o8,o9,o10,o11,o12,s3,bl,rfl⟩:=po;show k _ H3;subst hk;push_cast;have:=q H3 s3;rw[Cg (iG.mpr λa b h1 h2 x hx=>bl a b ω h1 h2 x hx)] at this;exact this
  rw[decide_eq_false c,LG,if_pos rfl];refine no H (Same.refl _) λz=>?_;have:=(rD.mp z).1;omega
abbrev lQ:List Str:=["_law_tape_here","_law_paper","_law_best","_law_begin","_law_at","_law_made"]
abbrev iu:Stmt:=top 40
theorem u0:bA lQ q11_ (aj iu):=⟨rfl,rfl,rfl,ψ,rfl,ψ,ψ⟩
theorem El:NM_ lQ iu 0 "_law_tape_here":=.of ψ
theorem wK:NM_ lQ iu 1 "_law_paper":=.of ψ
theorem RX:NM_ lQ iu 2 "_law_best":=.of ψ
theorem mL:NM_ lQ iu 3 "_law_begin":=.of ψ
theorem wJ:NM_ lQ iu 4 "_law_at":=.of ψ
theorem wI:NM_ lQ iu 5 "_law_made":=.of ψ
theorem tH:GI_ iu "_law_take":=ψ
theorem yd:GI_ iu "len":=ψ
theorem Kr:Bn "_law_above" := ⟨ψ,ψ⟩
theorem Wz(hB:∀x:Str,x∈BLs->mg x=IF)(CZTake:Cal P w K mg base "_law_take" 2 q0_ (lV 2))(F:Fun K "_law_above" "_law_above" iu f fd):dw P w K mg base CX0 3 f fd q11_ O3:=by
 refine F.okz u0 λcdv A outer s H vs Q E hr h=>?_;obtain⟨p,bd,v,n,N,B,kvs,rfl,tp,hB0,hB1,h1,h60,td,eb,nbp,hv,q⟩:=h;refine⟨_,(aF (bh mL u0.nd (bw CZTake (hr.mono δ) tH cJ (ak (ao El) (ak (bB b8 yd (hB "len" fX) B9 fY (ak (ao wK) aq Z) Z Z) aq Z) Z) Z Z) Z (.inl Z))
  (aF (bh wJ u0.nd (bw CZTake (hr.mono δ) tH cJ (ak (ao El) (ak (bB b8 yd (hB "len" fX) B9 fY (ak (aR bJ (ao wK) (ao mL) (λ_ _=>rfl)) aq Z) Z Z) aq Z) Z) Z Z) Z (.inl Z))
  (aF (vh (NX:=lQ) (kX:=(aj iu).names) ["_law_row"] [IF] wI u0.nd Z Z ⟨rfl,ψ,ψ,ψ,ψ⟩ Z (bW (ao wK)) (λ_ _ _ _ _=>(aY 0 (show A9 (["_law_row"]:List Str) from by decide +kernel) Z (B8 Z))) (λ_ _ _ _ _=>cB) (λ_ _ _ _ _=>(rZ (Kp (K:=K) Z) Z (hB "list" iC) FF ji (ak (aQ 0) aq Z) Z Z)))
  (aF (pN (aL aX (mK hr.fU (ao RX) (bY (ak (ao mL) (ak (aL aX (aL aX (ao mL) (ao wJ)) aA) aq Z) Z)) (λ_ _=>rfl)) aA) (Gr (aR bJ (ao wI) (ao mL) (λ_ _=>rfl)) (ao wJ) O5) Z Z Z)
  (aN (bf (ao wI))))))),?_⟩
 obtain⟨pa,xs,rfl,opa,epa,hxl,hrow⟩:=Jq td;refine aM λk hk=>?_;push_cast[epa];refine⟨p,(xs.length:Int),B,rfl,tp,by show B+2<=1000100;omega,ω,ω,δ,λz=>absurd z ω,λr1 H1 r10 r11 s1 tp1=>?_⟩;obtain⟨a,rfl⟩:=Int.eq_ofNat_of_zero_le r10;have ha:a<n:=ω;have hxa:xs[a]?=ID (xs[a]'ω):=AD ω;have hat:=bZ hxa;obtain⟨ra,era,ora,erow⟩:=hrow a _ hxa;rw[era] at hat;have epa1:=s1 _ _ opa epa;have erow1:=s1 _ _ ora erow;push_cast;subst hk;refine aM λk hk=>?_;push_cast[epa1,hat,erow1];rw[AC,dH];refine⟨p,((n-a:Nat):Int),B+2,rfl,tp1,by show B+2+2<=1000100;omega,ω,ω,δ,λz=>absurd z ω,λr2 H2 r20 r21 s2 tp2=>?_⟩;obtain⟨b,rfl⟩:=Int.eq_ofNat_of_zero_le r20;have hb:b<n-a:=ω;push_cast;subst hk;refine aM λk hk=>?_;have s12:=s1.trans s2;have epa2:=s12 _ _ opa epa;refine cN λR hR=>?_;push_cast[epa2];refine Fb (f:=dZ n N) hR Z epa2 ω (λj x hx=>?_) (λx ms H' Q' ex hq=>?_) λd ns H3 s3 hd ed hnl nd hns=>?_
 ·obtain⟨y,e1,e2,e3⟩:=hrow j x hx;exact⟨y,e1,s12 _ _ e2 e3⟩
 ·push_cast[abw];exact⟨_,.inl (SqL.of ex),hq⟩
 push_cast;subst hk;have hba:ns[a]?=ID (ns[a]'ω):=AD ω;generalize hna:ns[a]'ω=na at hba;obtain⟨g1,g2,g3⟩:=hns a na hba;have eb3:=s3 _ _ (s12 _ _ nbp eb);push_cast[rdA];refine⟨aO δ,λkb hkb=>?_⟩;have s4:=au (o:=BY [At (a:Int),At ((a:Int)+(b:Int)+1)]) hkb;have e4:upd H3 kb (BY [At (a:Int),At ((a:Int)+(b:Int)+1)]) kb=ID (.tup [At (a:Int),At ((a+1+b:Nat):Int)]):=by
  rw[aD,show(a:Int)+(b:Int)+1=((a+1+b:Nat):Int) by omega]
 have s34:=s3.trans s4;generalize upd H3 kb (BY [At (a:Int),At ((a:Int)+(b:Int)+1)])=H4 at s4 e4 s34 |-;refine⟨bd,_,rfl,j7.k2 (s4 _ _ eb3) e4 (hv a (a+1+b) ω ω),?_⟩;have ed4:=s4 _ _ ed;have g34:=s4 _ _ g3;have hat2:atI (ns.map AT) (a:Int)=ID (.ref na):=bZ (by rw[AL,hba];rfl);push_cast[ed4,hat2,g34];refine⟨b,Xa (by rw[AC,dH];exact hb),?_⟩;have hset:((dZ n N a).map At).set b (At (N a (a+1+b)+1))=(dZ n (putN N a (a+1+b) (N a (a+1+b)+1)) a).map At:=by rw[<- V9 hb,List.map_set]
 rw[hset];have h2n:∀{x:IN},H2 x=IF->x≠p:=λhx=>tp2.ne hx;have hnaH2:H2 na=IF:=g1;have s24:Same H2 (upd H4 na (By ((dZ n (putN N a (a+1+b) (N a (a+1+b)+1)) a).map At))):=mF s34 hnaH2;refine q (.ref d) a (a+1+b) _ (s12.trans s24.x) ((tp2.same s24).le (by show B+2+2<=B+10;omega)) ?_ ω ω;refine pQ h60 (h2n hd) ((aH (BS g2)).trans ed4) ω λj x hj=>?_;obtain⟨f1,f2,f3⟩:=hns j x hj;refine⟨h2n f1,?_⟩;by_cases e:j=a
 ·subst e;rw[hba] at hj;cases hj;exact aD
 have:x≠na:=λz=>e (Mj nd hj (z ▸ hba));rw[aH this,Lp e];exact s4 _ _ f3
abbrev jQ:List Str:=["_law_script","_law_k","_law_tape_here","_law_stretches_here","_law_many","_law_weights_here","_law_prices_here","_law_stays","_law_best","_law_paper","_law_kept","_law_own","_law_less","_law_below","_law_thing","_law_found","_law_due","_law_row","_law_more","_law_dearer","_law_other"]
abbrev dj:Stmt:=top 41
theorem iW:bA jQ ["_law_script"] (aj dj):=⟨rfl,rfl,rfl,ψ,rfl,ψ,ψ⟩
theorem WR:NM_ jQ dj 0 "_law_script":=.of ψ
theorem MN:NM_ jQ dj 1 "_law_k":=.of ψ
theorem nU:NM_ jQ dj 2 "_law_tape_here":=.of ψ
theorem je:NM_ jQ dj 3 "_law_stretches_here":=.of ψ
theorem wM:NM_ jQ dj 4 "_law_many":=.of ψ
theorem nT:NM_ jQ dj 5 "_law_weights_here":=.of ψ
theorem ux:NM_ jQ dj 6 "_law_prices_here":=.of ψ
theorem WQ:NM_ jQ dj 7 "_law_stays":=.of ψ
theorem GZ:NM_ jQ dj 8 "_law_best":=.of ψ
theorem wL:NM_ jQ dj 9 "_law_paper":=.of ψ
theorem Qa:NM_ jQ dj 10 "_law_kept":=.of ψ
theorem rm:NM_ jQ dj 11 "_law_own":=.of ψ
theorem P0:NM_ jQ dj 12 "_law_less":=.of ψ
theorem PX:NM_ jQ dj 13 "_law_below":=.of ψ
theorem G7:NM_ jQ dj 14 "_law_thing":=.of ψ
theorem G6:NM_ jQ dj 15 "_law_found":=.of ψ
theorem PN:NM_ jQ dj 16 "_law_due":=.of ψ
theorem PL:NM_ jQ dj 17 "_law_row":=.of ψ
theorem G5:NM_ jQ dj 18 "_law_more":=.of ψ
theorem G4:NM_ jQ dj 19 "_law_dearer":=.of ψ
theorem G3:NM_ jQ dj 20 "_law_other":=.of ψ
theorem ye:GI_ dj "_law_above":=ψ
theorem qI:GI_ dj "_law_best_runs":=ψ
theorem vX:GI_ dj "_law_prices":=ψ
theorem Dj:GI_ dj "_law_run_many":=ψ
theorem Ny:GI_ dj "_law_same":=ψ
theorem j6:GI_ dj "_law_shows_runs":=ψ
theorem yZ:GI_ dj "_law_stretches":=ψ
theorem Nv:GI_ dj "_law_tape":=ψ
theorem tK:GI_ dj "_law_weights":=ψ
theorem SQ:GI_ dj "bool":=ψ
theorem yX:GI_ dj "isinstance":=ψ
theorem J5:GI_ dj "len":=ψ
theorem Et:GI_ dj "list":=ψ
theorem J4:GI_ dj "min":=ψ
theorem Bs:GI_ dj "range":=ψ
theorem mC:GI_ dj "run_paper":=ψ
theorem qJ:GI_ dj "shows_runs":=ψ
def O2(K:AF):Sp:=λvs H Q _=>∃(a:IN)(ns:List Int),vs=[.ref a]/\SqL K H a (ns.map At)/\ns.length<=63/\∀H',Q (.bl true) H'
theorem ab6(hB:∀x:Str,x∈BLs->mg x=IF)(CZTape:Cal P w K mg base "_law_tape" 2 q9_ (U4 K))(CZTake:Cal P w K mg base "_law_take" 2 q0_ (lV 2))(CZRunMany:Cal P w K mg base "_law_run_many" 3 ["_law_tape_here"] DQ)(CZStretches:Cal P w K mg base "_law_stretches" 3 q0_ K6)(CZWeights:Cal P w K mg base "_law_weights" 3 q0_ DK)(CZPrices:Cal P w K mg base "_law_prices" 3 q0_ DW)(CZBestRuns:Cal P w K mg base "_law_best_runs" 6 q6_ zN)(CRunPaper:Cal P w K mg base "run_paper" 8 q5_ zK)(CShowsRuns:Cal P w K mg base "shows_runs" 6 q12_ spShowsR)(CZShowsRuns:Cal P w K mg base "_law_shows_runs" 6 q4_ spShowsR)(CZAbove:Cal P w K mg base "_law_above" 3 q11_ O3)(CZSame:Cal P w K mg base "_law_same" 4 q10_ (qZ 4))
  (F:Fun K "law" "law" dj f fd):dw P w K mg base CX0 64 f fd ["_law_script"] (O2 K):=by
 refine F.okz iW λcdv A outer s H vs Q E hr h=>?_;obtain⟨a,ns,rfl,hS,h63,q⟩:=h;refine⟨_,(aF (fV BU Z (jw Bs (hB "range" cU) (ak (aL aX aA (bB (wY Z) J4 (hB "min" uz) LU uJ (ak aA (ak (bB kJ J5 (hB "len" fX) B9 fY (ak (ao WR) aq Z) Z Z) aq Z) Z) Z Z)) aq Z) Z) (dG MN iW.nd (.inl Z))
  (aF (bh nU iW.nd (bw CZTape (hr.mono δ) Nv aaN (ak (ao WR) (ak (ao MN) aq Z) Z) Z Z) Z (.inl Z))
  (aF (bh je iW.nd (bw CZStretches (hr.mono δ) yZ Hx (ak (ao nU) (ak (bB (wY Z) J4 (hB "min" uz) LU uJ (ak (bw CZRunMany (hr.mono δ) Dj N6 (ak (ao nU) aq Z) Z Z) (ak (z7 (b7 (jy hr.cM) (ao MN) aA (bC _)) aA aA) aq Z) Z) Z Z) aq Z) Z) Z Z) Z (.inl Z))
  (aF (bh wM iW.nd (bB b8 J5 (hB "len" fX) B9 fY (ak (ao je) aq Z) Z Z) Z (.inl Z))
  (aF (Gp (i:=5) (j:=6) Z iW.nd Z Z δ Z Z (ak (bw CZWeights (hr.mono δ) tK BX (ak (ao nU) (ak (ao wM) aq Z) Z) Z Z) (ak (bw CZPrices (hr.mono δ) vX Fi (ak (ao nU) (ak aA aq Z) Z) Z Z) aq Z) Z) (by rfl))
  (aF (bh WQ iW.nd (bY (ak (rZ oF Et (hB "list" iC) FF ji (ak (ao je) aq Z) Z Z) (ak (rZ oF Et (hB "list" iC) FF ji (ak (ao nT) aq Z) Z Z) aq Z) Z)) Z (.inl Z))
  (aF (bh GZ iW.nd (bw CZBestRuns (hr.mono δ) qI yp (ak (ao je) (ak (ao nT) (ak (ao ux) aq Z) Z) Z) Z Z) Z (.inl Z))
  (aF (bh wL iW.nd (bw CRunPaper (hr.mono δ) mC uL (ak (ao je) (ak (ao nT) (ak (ao ux) aq Z) Z) Z) Z Z) Z (.inl Z))
  (aF (vh (NX:=jQ) (kX:=(aj dj).names) ["_law_row"] [IF] Qa iW.nd Z Z ⟨rfl,ψ,ψ,ψ,ψ⟩ Z (bW (ao wL)) (λ_ _ _ _ _=>(aY 0 (show A9 (["_law_row"]:List Str) from by decide +kernel) Z (B8 Z))) (λ_ _ _ _ _=>cB) (λ_ _ _ _ _=>(rZ (Kp (K:=K) Z) Z (hB "list" iC) FF ji (ak (aQ 0) aq Z) Z Z)))
  (aF (eX (CN (xH (pK (jt (bw CZShowsRuns (hr.mono δ) j6 oH (ak (ao je) (ak (ao nT) (ak (ao ux) (ak (ao wL) aq Z) Z) Z) Z) Z Z) (λ_=>rfl))) (tZ (b7 (jU hr.cM) (aR bJ (aR bJ (ao wL) aA (λ_ _=>rfl)) (xJ pG aA) (λ_ _=>rfl)) (mK hr.fU (ao GZ) (bY (ak aA (ak (ao wM) aq Z) Z)) (λ_ _=>rfl)) (bC _))))) (aN (bf jb)) cP)
  (aF (VR (NX:=jQ) (kX:=(aj dj).names) ["_law_begin","_law_best","_law_many"] [IF,ID 8,ID 4] rm iW.nd Z Z ⟨rfl,ψ,ψ,ψ,ψ⟩ Z (jw Bs (hB "range" cU) (ak (ao wM) aq Z) Z) (λ_ _ _ _ _=>(aY 0 (show A9 (["_law_begin","_law_best","_law_many"]:List Str) from by decide +kernel) Z (IP Z))) (λ_ _ _ _ _=>cB) (λ_ _ _ _ _=>(cR (NX:=["_law_begin","_law_best","_law_many"]) (kX:=_) ["_law_end","_law_best","_law_begin"] [IF,ID 1,ID 0] Z Z ⟨rfl,ψ,ψ,by (intro y hy hf;repeat (first|(rcases A3.mp hy with rfl|hy;(first|exact IP rfl|exact B8 rfl|exact absurd hf δ))|exact absurd hy Bz)),ψ⟩ Z (ju Z (hB "range" cU) (ak (aL aX (aQ 0) aA) (ak (aL aX (aQ 2) aA) aq Z) Z) Z Z) (λ_ _ _ _ _=>(aY 0 (show A9 (["_law_end","_law_best","_law_begin"]:List Str) from by decide +kernel) Z (B8 Z))) (λ_ _ _ _ _=>cB) (λ_ _ _ _ _=>(mK hr.fU (aQ 1) (bY (ak (aQ 2) (ak (aQ 0) aq Z) Z)) (λ_ _=>rfl))))))
  (aF (vh (NX:=jQ) (kX:=(aj dj).names) ["_law_row","_law_tape_here"] [IF,ID 2] P0 iW.nd Z Z ⟨rfl,ψ,ψ,ψ,ψ⟩ Z (bW (ao rm)) (λ_ _ _ _ _=>(aY 0 (show A9 (["_law_row","_law_tape_here"]:List Str) from by decide +kernel) Z (B8 Z))) (λ_ _ _ _ _=>cB) (λ_ _ _ _ _=>(cR (NX:=["_law_row","_law_tape_here"]) (kX:=_) ["_law_number","_law_tape_here"] [IF,ID 1] Z Z ⟨rfl,ψ,ψ,by (intro y hy hf;repeat (first|(rcases A3.mp hy with rfl|hy;(first|exact IP rfl|exact B8 rfl|exact absurd hf δ))|exact absurd hy Bz)),ψ⟩ Z (Gq K (aQ 0)) (λ_ _ _ _ _=>(aY 0 (show A9 (["_law_number","_law_tape_here"]:List Str) from by decide +kernel) Z (B8 Z))) (λ_ _ _ _ _=>cB) (λ_ _ _ _ _=>(aL dI (aQ 0) (aL cO (bw CZTake (hr.mono δ) Z cJ (ak (aQ 1) (ak aA aq Z) Z) Z Z) (rZ oG Z (hB "int" uD) LS uK (ak (lA Ej (aQ 0) aA (bC _)) aq Z) Z Z)))))))
  (aF (vh (NX:=jQ) (kX:=(aj dj).names) ["_law_row","_law_tape_here"] [IF,ID 2] PX iW.nd Z Z ⟨rfl,ψ,ψ,ψ,ψ⟩ Z (bW (ao rm)) (λ_ _ _ _ _=>(aY 0 (show A9 (["_law_row","_law_tape_here"]:List Str) from by decide +kernel) Z (B8 Z))) (λ_ _ _ _ _=>cB) (λ_ _ _ _ _=>(cR (NX:=["_law_row","_law_tape_here"]) (kX:=_) ["_law_number","_law_tape_here"] [IF,ID 1] Z Z ⟨rfl,ψ,ψ,by (intro y hy hf;repeat (first|(rcases A3.mp hy with rfl|hy;(first|exact IP rfl|exact B8 rfl|exact absurd hf δ))|exact absurd hy Bz)),ψ⟩ Z (Gq K (aQ 0)) (λ_ _ _ _ _=>(aY 0 (show A9 (["_law_number","_law_tape_here"]:List Str) from by decide +kernel) Z (B8 Z))) (λ_ _ _ _ _=>cB) (λ_ _ _ _ _=>(aL dI (aL dI aA aA) (bw CZTake (hr.mono δ) Z cJ (ak (aQ 1) (ak aA aq Z) Z) Z Z))))))
  (aF (fV BU Z (bW (bY (ak (ao wL) (ak (ao rm) (ak (ao P0) (ak (ao PX) (ak (bw CZAbove (hr.mono δ) ye Kr (ak (ao nU) (ak (ao rm) (ak (ao GZ) aq Z) Z) Z) Z Z) aq Z) Z) Z) Z) Z))) (dG G7 iW.nd (.inl Z))
  (aF (bh G6 iW.nd (bw CShowsRuns (hr.mono δ) qJ yr (ak (ao je) (ak (ao nT) (ak (ao ux) (ak (ao G7) aq Z) Z) Z) Z) Z Z) Z (.inl Z))
  (aF (bh PN iW.nd (bw CZShowsRuns (hr.mono δ) j6 oH (ak (ao je) (ak (ao nT) (ak (ao ux) (ak (ao G7) aq Z) Z) Z) Z) Z Z) Z (.inl Z))
  (aN (eX (CN (xH (pK (jt (bB bQ yX (hB "isinstance" aV) BI aW (ak (ao G6) (ak (gM "bool" SQ (hB "bool" rB) LZ rH) aq Z) Z) Z Z) (λ_=>rfl))) (xH (b7 (jU hr.cM) (ao G6) (ao PN) (bC _)) (tZ (b7 (Z1 hr.acU) (bY (ak (ao je) (ak (ao nT) aq Z) Z)) (ao WQ) (bC _)))))) (aN (bf jb)) cP)))) (λ_=>rfl))
  (aF (eX (b7 Wo (bw CShowsRuns (hr.mono δ) qJ yr (ak (ao je) (ak (ao nT) (ak (ao ux) (ak (bw CZAbove (hr.mono δ) ye Kr (ak (ao nU) (ak (ao rm) (ak (ao GZ) aq Z) Z) Z) Z Z) aq Z) Z) Z) Z) Z Z) jb (bC _)) (aN (bf jb)) cP)
  (aF (fV BU Z (bW (ao wL)) (dG PL iW.nd (.inl Z))
  (aN (iY (lM (ao PL) V2 Z Z Z Z Z) Z)) (λ_=>rfl))
  (aF (Gp (i:=18) (j:=19) Z iW.nd Z Z δ Z Z (ak (bw CZWeights (hr.mono δ) tK BX (ak (ao nU) (ak (ao wM) aq Z) Z) Z Z) (ak (bw CZPrices (hr.mono δ) vX Fi (ak (ao nU) (ak aA aq Z) Z) Z Z) aq Z) Z) (by rfl))
  (aF (bh G3 iW.nd (bw CRunPaper (hr.mono δ) mC uL (ak (ao je) (ak (ao G5) (ak (ao G4) aq Z) Z) Z) Z Z) Z (.inl Z))
  (aF (eX (pK (jt (bw CZShowsRuns (hr.mono δ) j6 oH (ak (ao je) (ak (ao G5) (ak (ao G4) (ak (ao G3) aq Z) Z) Z) Z) Z Z) (λ_=>rfl))) (aN (bf jb)) cP)
  (aF (eX (b7 (jU hr.cM) (aR bJ (aR bJ (ao G3) aA (λ_ _=>rfl)) (xJ pG aA) (λ_ _=>rfl)) (mK hr.fU (bw CZBestRuns (hr.mono δ) qI yp (ak (ao je) (ak (ao G5) (ak (ao G4) aq Z) Z) Z) Z Z) (bY (ak aA (ak (ao wM) aq Z) Z)) (λ_ _=>rfl)) (bC _)) (aN (bf jb)) cP)
  (aN (eX (pK (jt (bw CZSame (hr.mono δ) Ny QF (ak (bw CRunPaper (hr.mono δ) mC uL (ak (ao je) (ak (ao nT) (ak (ao ux) aq Z) Z) Z) Z Z) (ak (ao Qa) aq Z) Z) Z Z) (λ_=>rfl))) (aN (bf jb)) cP))))))))))))))))))))) (λ_=>rfl))
  (aN (bf jb))),?_⟩
 refine aM λk hk=>?_;refine jo λR hR=>?_;push_cast[vO];refine⟨_,.inl hS,?_⟩;rw[AC];have m6:(0:Int)<=1+(if (ns.length:Int)<4 then (ns.length:Int) else 4)/\1+(if (ns.length:Int)<4 then (ns.length:Int) else 4)<=5:=by
  split <;> omega
 refine⟨ω,ω,?_⟩;obtain⟨Pv,hPv⟩:∃Pv:Nat->L2.St->Hp->Prop,Pv=λ(i:Nat) σ H'=>Same H H'/\∃o1 o2 o3 o4 o5 o6 o7 o8 o9 o10 o11 o12 o13 o14 o15 o16 o17 o18 o19 o20,σ=[ID (.ref a),o1,o2,o3,o4,o5,o6,o7,o8,o9,o10,o11,o12,o13,o14,o15,o16,o17,o18,o19,o20]:=⟨_,rfl⟩;refine Eu hR Pv (by rw[hPv];exact⟨Same.refl _,_,_,_,_,_,_,_,_,_,_,_,_,_,_,_,_,_,_,_,_,rfl⟩) ?_ ?_
 ·intro i σ H1 hi pv;rw[hPv] at pv;obtain⟨s1,o1,o2,o3,o4,o5,o6,o7,o8,o9,o10,o11,o12,o13,o14,o15,o16,o17,o18,o19,o20,rfl⟩:=pv;refine aM λk2 hk2=>?_;push_cast;refine⟨a,ns,(0:Int)+(i:Int),rfl,s1.seq hS,ω,ω,λp H2 hp s2 tp2=>?_⟩;push_cast;have sx2:bG p H1 H2:=s2.x;subst hk2;refine aM λk2 hk2=>?_;push_cast;refine⟨p,0,rfl,tp2,δ,δ,λm H3 m1 m30 s3 tp3=>?_⟩;push_cast;have nxt:∀m2:Int,1<=m2->m2<=30->K6 [AT p,At m2] H3 (λx H1=>k2 [ID (.ref a),ID (.int (0+(i:Int))),ID (.ref p),ID x,o4,o5,o6,o7,o8,o9,o10,o11,o12,o13,o14,o15,o16,o17,o18,o19,o20] H1) E0:=by
   intro m2 hm1 hm2;refine⟨p,m2,4,rfl,tp3,δ,δ,ω,ω,λl ss H6 s6 tp6 tr6 hsl hrow hfst=>?_⟩;have sx6:bG p H1 H6:=(sx2.trans s3).trans s6;obtain⟨n,hn⟩:∃n,n=ss.length:=⟨_,rfl⟩;have hn1:1<=n/\n<=30:=ω;have n60:n<=60:=ω;clear hrow hfst;cases tr6 with
   | lst ol el zl tsl=>
    rename_i xl;have hxl:=tsl.length;rw[AC,<- hn] at hxl;subst hk2;refine aM λk2 hk2=>?_;push_cast[el];rw[hxl];subst hk2;refine aM λk2 hk2=>?_;push_cast;refine⟨p,n,3000,rfl,tp6.le δ,ω,ω,n60,λwa ws H9 s9 tp9 nwa hwa ewa hwl hwb=>?_⟩;push_cast;refine⟨p,3130,rfl,tp9,ω,ω,λza zs H10 s10 tp10 nza hza eza hzl hzb=>?_⟩;push_cast;subst hk2;have sx10:=sx6.trans (s9.trans s10);have el10:=(s9.trans s10) _ _ ol el;have tsl10:=tsl.j8 (s9.trans s10);have ewa10:=s10 _ _ nwa ewa;have hnn:∀w∈ws,0<=w:=λw hw=>(hwb w hw).1;clear el tsl ewa s9 tp9 s10;refine aM λk2 hk2=>?_;push_cast[el10,ewa10];refine⟨xl,.inl (SqL.of el10),λa1 ha1=>?_⟩;have t1:=au (o:=By xl) ha1;have e1:upd H10 a1 (By xl) a1=ID (By xl):=aD;generalize upd H10 a1 (By xl)=H11 at t1 e1 |-;refine⟨ws.map At,.inl (SqL.of (t1 _ _ ewa10)),λa2 ha2=>⟨aO δ,λa3 ha3=>?_⟩⟩;have t2:=au (o:=By (ws.map At)) ha2;have e2:upd H11 a2 (By (ws.map At)) a2=ID (By (ws.map At)):=aD;have t3:=au (o:=BY [AT a1,AT a2]) ha3;have e3:upd (upd H11 a2 (By (ws.map At))) a3 (BY [AT a1,AT a2]) a3=ID (BY [AT a1,AT a2]):=aD;replace e2:=t3 _ _ e2;have tA:=t1.trans (t2.trans t3);replace e1:=(t2.trans t3) _ _ e1;have na1:=tp10.ne ha1;have na2:=(tp10.same t1).ne ha2;have na3:=(tp10.same (t1.trans t2)).ne ha3;generalize upd (upd H11 a2 (By (ws.map At))) a3 (BY [AT a1,AT a2])=HA at tA e1 e2 e3 |-;have tst:aJ (·≠p) HA (.ref a3) (FJ ss ws):=.tup na3 e3 (show 2<=1000000 by decide) (.cons (.lst na1 e1 ω (tsl10.same tA)) (.cons (.lst na2 e2 (by rw[AC];omega) (kO ws)) .nil));have tpA:=tp10.same tA;have sxA:=sx10.trans tA.x;have sx10':=sxA;have elA:=tA _ _ el10;have tslA:=tsl10.same tA;have ewA:=tA _ _ ewa10;have ezA:=tA _ _ eza;clear t1 t2 t3 e1 e2 e3 tA ha1 ha2 ha3 na1 na2 na3 el10 tsl10 ewa10 eza tp10;subst hk2
    -- the least costs,the paper
    refine aM λk2 hk2=>?_;push_cast;refine⟨l,wa,za,xl,_,ss,ws,zs,rfl,elA,tslA,ω,ω,ewA,ω,⟨ezA,hzl,hzb⟩,λbd HB mb M kvs sB bt=>?_⟩;subst hk2;refine aM λk2 hk2=>?_;push_cast;refine⟨l,wa,za,xl,_,ss,ws,zs,rfl,sB _ _ elA,tslA.same sB,ω,ω,sB _ _ ewA,ω,⟨sB _ _ ezA,hzl,hzb⟩,λr rs N HC sC hr0 er hrl hrs al=>?_⟩;rw[<- hn] at hrl hrs al bt;subst hk2;have eNM:∀a b,a<b->b<=n->N a b=M a b:=λa b h1 h2=>Dy (ss:=ss) (ws:=ws) (zs:=zs) (n:=n) (λk=>vQ hnn k) (λk _=>vQ (λx hx=>by have:=hzb x hx;omega) k) al (λp h1 h2=>bt.one p ⟨h1,h2⟩) (λp h1 h2=>bt.lst p ⟨h1,h2⟩) _ a b Z h1 h2;have sBC:=sB.trans sC;have tpC:=tpA.same sBC;have hbn:∀{a b:Nat},a<b->b<=n->gF kvs (key2 a b)=ID (.int (N a b)):=λ{a b} h1 h2=>by rw[eNM a b h1 h2];exact bt.num (a,b) ⟨h1,h2⟩
    have ebC:=sC _ _ bt.e;have hrA:∀a∈rs,HA a=IF:=λa h=>by
     obtain⟨j,hj⟩:=Fa.mp h;exact sB.none (hrs j a hj).1
    have npr:p∉rs:=λz=>tpA.ne (hrA p z) rfl;have nbd:bd≠p:=λz=>by
     obtain⟨x,y,w',e,_⟩:=(tpA.same sB).ex;rw[<- z,bt.e] at e;cases e
    have nrp:r≠p:=(tpA.same sB).ne hr0;have nrr:r∉rs:=λz=>by
     obtain⟨j,hj⟩:=Fa.mp z;have h1:=(hrs j r hj).2;rw[er] at h1;have h2:=HO.lst.inj (Be h1);have hj2:=(AI.mp hj).1;have h3:=congrArg (λl:List V=>l[0]?) h2;simp only[AL] at h3;rw[gR ω,AD ω] at h3;cases h3
    have hrC:∀a∈rs,HC a≠IF:=λa h=>by
     obtain⟨j,hj⟩:=Fa.mp h;rw[(hrs j a hj).2];exact λz=>by cases z
    have ctx:∀{H':Hp},bG p HA H'->H' l=ID (.lst xl)/\aG (·≠p) H' xl (ss.map stD)/\H' wa=ID (.lst (ws.map At))/\lE H' za zs:=λs=>⟨s _ _ ol elA,tslA.j8 s,s _ _ nwa ewA,s _ _ nza ezA,hzl,hzb⟩;have hss:1<=ss.length/\ss.length<=60/\ws.length=ss.length:=⟨ω,ω,ω⟩;refine aM λk2 hk2=>?_;refine cN λR2 hR2=>?_;push_cast[er];refine Fb (f:=dZ n N) hR2 Z er (by rw[AC];omega) (λj x hx=>?_) (λx ms H' Q' ex hq=>?_) λkd ns' HD sD hkd0 ekd hnl ndk hks=>?_
    ·rw[AL] at hx;obtain⟨y,hy,rfl⟩:=BG.mp hx;exact⟨y,rfl,(hrs j y hy).2⟩
    ·push_cast[abw];exact⟨_,.inl (SqL.of ex),hq⟩
    rw[AC,hrl] at hnl;push_cast;subst hk2;have tpD:=tpC.same sD;have tkD:aJ (λb=>b≠p/\b∉rs) HD (.ref kd) (jx n N):=pQ n60 ⟨tpC.ne hkd0,λz=>hrC _ z hkd0⟩ ekd hnl λj x hj=>⟨⟨tpC.ne (hks j x hj).1,λz=>hrC _ z (hks j x hj).1⟩,(hks j x hj).2.2⟩;have tpap:aJ (·≠p) HD (.ref r) (jx n N):=(pQ (ok:=(·≠p)) n60 nrp er hrl λj x hj=>⟨tpA.ne (hrA x (A8 hj)),(hrs j x hj).2⟩).same sD;have sAD:bG p HA HD:=(sBC.trans sD).x;have ebD:=sD _ _ ebC;have erD:=sD _ _ er;have hrD:∀(j:Nat) a,rs[j]?=ID a->HD a=ID (.lst ((dZ n N j).map At)):=λj a hj=>sD _ _ (hrs j a hj).2;clear sD ekd hks hkd0 hR2 hnl ndk;have lastR:∀{H':Hp}{N':Nat->Nat->Int}{rs':List IN}{r':IN},H' r'=ID (.lst (rs'.map AT))->rs'.length=n->(∀(j:Nat) a,rs'[j]?=ID a->H' a=ID (.lst ((dZ n N' j).map At)))->∃a0,atI (rs'.map AT) 0=ID (.ref a0)/\H' a0=ID (.lst ((dZ n N' 0).map At))/\atI ((dZ n N' 0).map At) (-1)=ID (.int (N' 0 n)):=by
     intro H' N' rs' r' e1 e2 e3;have h0:rs'[0]?=ID (rs'[0]'ω):=AD ω;exact⟨_,bZ (j:=0) (by rw[AL,h0];rfl),e3 0 _ h0,Rw ω⟩
    refine aM λk2 hk2=>?_;push_cast;obtain⟨c1,c2,c3,c4⟩:=ctx sAD;refine⟨l,wa,za,.ref r,xl,_,_,ss,ws,zs,jx n N,rfl,c1,c2,hss.1,hss.2.1,c3,hss.2.2,c4,hnn,tpD.newOk,tpap,λHE sE=>?_⟩;rw[<- hn,Cg (iG.mpr al.below)];obtain⟨a0,hat0,ea0,hat1⟩:=lastR (H':=HE) (N':=N) (sE _ _ erD) hrl (λj a hj=>sE _ _ (hrD j a hj));have erE:=sE _ _ erD;push_cast[erE,hat0,ea0,hat1];push_cast[rdA];refine⟨aO δ,λp5 hp5=>?_⟩;have t5:=au (o:=BY [At 0,At (n:Int)]) hp5;have e5:upd HE p5 (BY [At 0,At (n:Int)]) p5=ID (BY [At ((0:Nat):Int),At (n:Int)]):=aD;have sDF:=sE.trans t5;generalize upd HE p5 (BY [At 0,At (n:Int)])=HF at t5 e5 sDF |-;refine⟨bd,_,rfl,j7.k2 (sDF _ _ ebD) e5 (hbn ω (AV _)),?_⟩;push_cast
    try rw[if_neg ζ]
    subst hk2;have ebF:=sDF _ _ ebD;have tpF:=tpD.same sDF;clear sE t5 e5 hp5 erE hat0 ea0 hat1
    -- this law's own paper
    refine aM λk2 hk2=>?_;refine cN λR3 hR3=>?_;push_cast[vO];refine⟨ω,ω,?_⟩;obtain⟨Pc,hPc⟩:∃Pv:Nat->List V->L2.St->Hp->Prop,Pv=λ(i:Nat) acc τ H'=>∃(o0:Option V),Same HF H'/\aG (·≠p) H' acc ((BN i).map λa=>.list ((dZ n N a).map AU.int))/\τ=[o0,ID (.ref bd),ID (.int (n:Int))]:=⟨_,rfl⟩;refine uH (n:=n) hR3 (aO ω) Pc (by rw[hPc];exact⟨_,Same.refl _,.nil,rfl⟩) ?_ ?_ ?_
    ·intro j acc τ H2 pc;rw[hPc] at pc;obtain⟨_,_,t2,_⟩:=pc;have:=t2.length;rw[AC,C8] at this;omega
    ·intro j acc τ H2 hj pc;rw[hPc] at pc;obtain⟨o0,u2,tt2,rfl⟩:=pc;push_cast;refine cN λR4 hR4=>?_;push_cast[vN];refine⟨ω,?_⟩;rw[show((n:Int)+1-(0+(j:Int)+1)).toNat=n-j by omega];obtain⟨Pd,hPd⟩:∃Pv:Nat->List V->L2.St->Hp->Prop,Pv=λ(j2:Nat) acc τ H'=>∃(o0:Option V),Same H2 H'/\acc=((dZ n N j).take j2).map At/\τ=[o0,ID (.ref bd),ID (.int (0+(j:Int)))]:=⟨_,rfl⟩;refine uH (n:=n-j) hR4 (aO ω) Pd (by rw[hPd];exact⟨_,Same.refl _,rfl,rfl⟩) ?_ ?_ ?_
     ·intro j2 acc τ H3 pd';rw[hPd] at pd';obtain⟨_,_,rfl,_⟩:=pd';rw[AC];exact CD _ _
     ·intro j2 acc τ H3 hj2 pd';rw[hPd] at pd';obtain⟨o0',u3,rfl,rfl⟩:=pd';push_cast[rdA];refine⟨aO δ,λp hp=>?_⟩;have u4:=au (o:=BY [At (0+(j:Int)),At (0+(j:Int)+1+(j2:Int))]) hp;have e4:upd H3 p (BY [At (0+(j:Int)),At (0+(j:Int)+1+(j2:Int))]) p=ID (.tup [At (j:Int),At ((j+1+j2:Nat):Int)]):=by
       rw[aD,show(0:Int)+(j:Int)=(j:Int) by omega,show(j:Int)+1+(j2:Int)=((j+1+j2:Nat):Int) by omega]
      generalize upd H3 p (BY [At (0+(j:Int)),At (0+(j:Int)+1+(j2:Int))])=H4 at u4 e4 |-;refine⟨bd,_,rfl,j7.k2 (u4 _ _ (u3 _ _ (u2 _ _ ebF))) e4 (hbn ω ω),?_⟩;rw[hPd];refine⟨_,u3.trans u4,?_,rfl⟩;rw[take_snoc (gR hj2),A4];rfl
     intro acc τ H3 d pd' hd;rw[hPd] at pd';obtain⟨o0',u3,rfl,rfl⟩:=pd';rw[Ex (by rw[dH];exact AV _)];have u4:=au (o:=By ((dZ n N j).map At)) hd;rw[hPc];refine⟨_,u2.trans (u3.trans u4),?_,rfl⟩;rw[range_succ,A4];exact(tt2.same (u3.trans u4)).append (.cons (.lst (tpF.ne ((u2.trans u3).none hd)) aD (by rw[AC,dH];omega) (kO _)) .nil)
    intro acc τ H2 od pc hod;rw[hPc] at pc;obtain⟨o0,u2,tt2,rfl⟩:=pc;have u3:=au (o:=By acc) hod;have hal:=tt2.length;rw[AC,C8] at hal;have nod:=tpF.ne (u2.none hod);have tod:aJ (·≠p) (upd H2 od (By acc)) (.ref od) (jx n N):=aJ.lst (ok:=(·≠p)) nod aD ω (tt2.same u3);have sDG:=sDF.trans (u2.trans u3);generalize upd H2 od (By acc)=HG at tod sDG |-;clear u2 u3 tt2 hal hod hPc Pc hR3 ebF tpF;push_cast;subst hk2;have ebG:=sDG _ _ ebD;have tpG:bF HG p 4000:=(tpD.same sDG).le δ;obtain⟨od',orow,eod,oodp,eodG,hol,horow⟩:=Jq tod;cases eod;have sxG:bG p HA HG:=sAD.trans sDG.x;have tpapG:=tpap.j8 sDG.x;have hx5:∀(j:Nat) x,orow[j]?=ID x->∃a,x=.ref a/\a≠p/\HG a=ID (.lst ((dZ n N j).map At))/\(dZ n N j).length<=60:=λj x h=>by
     obtain⟨y,e1,e2,e3⟩:=horow j x h;exact⟨y,e1,e2,e3,by rw[dH];omega⟩
    -- numbers less
    refine aM λk2 hk2=>?_;refine cN λR5 hR5=>?_;push_cast[eodG];refine Fe (K:=K) (n:=n) (f:=dZ n N) hR5 Z n60 tpG δ oodp eodG hol hx5 (λz H' B' Q' tp' hB' hq=>?_) λld Ms HI sI tpI nld tld=>?_
    ·push_cast;refine⟨p,3,B',rfl,tp',by show B'+2<=1000100;omega,δ,δ,δ,λz=>absurd z δ,λr1 H4 r10 r11 s4 tp4=>?_⟩;push_cast;refine⟨.inl ⟨ω,ω⟩,?_⟩;exact hq _ H4 s4 tp4
    push_cast;subst hk2;have sxI:=sxG.trans sI;have eodI:=sI _ _ oodp eodG;have horI:∀(j:Nat) x,orow[j]?=ID x->∃a,x=.ref a/\a≠p/\HI a=ID (.lst ((dZ n N j).map At))/\(dZ n N j).length<=60:=λj x h=>by
     obtain⟨y,e1,e2,e3,e4⟩:=hx5 j x h;exact⟨y,e1,e2,sI _ _ e2 e3,e4⟩
    -- numbers below nought
    refine aM λk2 hk2=>?_;refine cN λR6 hR6=>?_;push_cast[eodI];refine Fe (K:=K) (n:=n) (f:=dZ n N) hR6 Z n60 tpI δ oodp eodI hol horI (λz H' B' Q' tp' hB' hq=>?_) λwd Ms2 HJ sJ tpJ nwd twd=>?_
    ·push_cast;refine⟨p,5,B',rfl,tp',by show B'+2<=1000100;omega,δ,δ,δ,λz=>absurd z δ,λr1 H4 r10 r11 s4 tp4=>?_⟩;push_cast;exact hq _ H4 s4 tp4
    push_cast;subst hk2;have sGJ:=sI.trans sJ;have sxJ:=sxG.trans sGJ;have nbdJ:HJ bd=ID (.dT kvs):=sGJ _ _ nbd ebG;have todJ:=tod.j8 sGJ;have tpapJ:=tpapG.j8 sGJ;have tldJ:=tld.j8 sJ;have tstJ:=tst.j8 sxJ
    -- the five papers
    refine aM λk2 hk2=>?_;refine jo λR7 hR7=>?_;push_cast;refine⟨p,bd,_,n,N,_,kvs,rfl,tpJ,δ,δ,hn1.1,n60,todJ,nbdJ,nbd,λa b h1 h2=>hbn h1 h2,λv5 b1 b2 HK sK tpK t5 _ _=>?_⟩;push_cast;refine⟨aO δ,λpt hpt=>?_⟩;have u1:=au (o:=BY [AT r,AT od,AT ld,AT wd,v5]) hpt;have ept:upd HK pt (BY [AT r,AT od,AT ld,AT wd,v5]) pt=ID (BY [AT r,AT od,AT ld,AT wd,v5]):=aD;have npt:=tpK.ne hpt;have tpL:=tpK.same u1;have sJL:bG p HJ (upd HK pt (BY [AT r,AT od,AT ld,AT wd,v5])):=sK.trans u1.x;have t5L:=t5.same u1;generalize upd HK pt (BY [AT r,AT od,AT ld,AT wd,v5])=HL at u1 ept tpL sJL t5L |-;have sxL:=sxJ.trans sJL;have th:∀x∈[AT r,AT od,AT ld,AT wd,v5],∃d,aJ (·≠p) HL x d:=by
     intro x hx;rcases A3.mp hx with rfl|hx
     ·exact⟨_,tpapJ.j8 sJL⟩
     rcases A3.mp hx with rfl|hx
     ·exact⟨_,todJ.j8 sJL⟩
     rcases A3.mp hx with rfl|hx
     ·exact⟨_,tldJ.j8 sJL⟩
     rcases A3.mp hx with rfl|hx
     ·exact⟨_,twd.j8 sJL⟩
     rw[AJ.mp hx];exact⟨_,t5L⟩
    obtain⟨ctl,ctt,ctw,ctz⟩:=ctx sxL;have tstL:=tstJ.j8 sJL;push_cast[ept];obtain⟨Pt,hPt⟩:∃Pv:Nat->L2.St->Hp->Prop,Pv=λ(t:Nat) σ H'=>∃(q14 q15 q16:Option V),Same HL H'/\σ=[ID (.ref a),ID (.int (0+(i:Int))),ID (.ref p),ID (.ref l),ID (.int (n:Int)),ID (.ref wa),ID (.ref za),ID (.ref a3),ID (.ref bd),ID (.ref r),ID (.ref kd),ID (.ref od),ID (.ref ld),ID (.ref wd),q14,q15,q16,o17,o18,o19,o20]:=⟨_,rfl⟩;refine adG hR7 (xs:=[AT r,AT od,AT ld,AT wd,v5]) Pt (by rw[hPt];exact⟨_,_,_,Same.refl _,rfl⟩) ?_ ?_ ?_
    ·intro t σ H' pt';rw[hPt] at pt';obtain⟨_,_,_,u2,_⟩:=pt';exact u2 _ _ ept
    ·intro t x σ H2 hx pt';rw[hPt] at pt';obtain⟨q14,q15,q16,u2,rfl⟩:=pt';obtain⟨dx,tdx⟩:=th x (A8 hx);have tpM:=tpL.same u2;push_cast;refine⟨l,wa,za,x,xl,_,_,ss,ws,zs,dx,rfl,u2 _ _ ctl,ctt.same u2,hss.1,hss.2.1,u2 _ _ ctw,hss.2.2,⟨u2 _ _ ctz.1,ctz.2⟩,hnn,tpM.newOk,tdx.same u2,λHM sM=>?_⟩;have u3:=u2.trans sM;push_cast;refine⟨l,wa,za,x,xl,_,_,ss,ws,zs,dx,rfl,u3 _ _ ctl,ctt.same u3,hss.1,hss.2.1,u3 _ _ ctw,hss.2.2,⟨u3 _ _ ctz.1,ctz.2⟩,hnn,(tpM.same sM).newOk,tdx.same u3,λHN sN=>?_⟩;have u4:=u3.trans sN;obtain⟨bb,ebb⟩:∃bb,blP (Oh ss ws zs ss.length dx)=.bl bb:=⟨_,rfl⟩;rw[ebb];push_cast;refine⟨aO δ,λa5 ha5=>?_⟩;have u5:=au (o:=BY [AT l,AT wa]) ha5;have e5:upd HN a5 (BY [AT l,AT wa]) a5=ID (BY [AT l,AT wa]):=aD;have u6:=u4.trans u5;have na5:=(tpL.same u4).ne ha5;generalize upd HN a5 (BY [AT l,AT wa])=HO1 at u5 e5 u6 |-;refine⟨λx=>x≠p,λx=>x≠p,FJ ss ws,.tup na5 e5 (show 2<=1000000 by decide) (.cons (.lst ol (u6 _ _ ctl) ω (ctt.same u6)) (.cons (.lst nwa (u6 _ _ ctw) (by rw[AC];omega) (kO ws)) .nil)),tstL.same u6,(DG ss ws).1,(DG ss ws).2,false,rfl,?_⟩;rw[if_neg δ,hPt];exact⟨_,_,_,u6,rfl⟩
    intro σ H2 pt';rw[hPt] at pt';obtain⟨q14,q15,q16,u2,rfl⟩:=pt';have sxM:bG p HA H2:=sxL.trans u2.x;have sJM:bG p HJ H2:=sJL.trans u2.x;have tpM:=tpL.same u2;have nbdM:=sJM _ _ nbd nbdJ;have todM:=todJ.j8 sJM;show k2 _ _;clear hPt Pt hR7 th t5 t5L tstL;subst hk2
    -- one number above the least
    refine aM λk2 hk2=>?_;push_cast;refine⟨p,bd,_,n,N,_,kvs,rfl,tpM,δ,δ,hn1.1,n60,todM,nbdM,nbd,λa b h1 h2=>hbn h1 h2,λv6 b3 b4 HP sP tpP t6 hb34 hb4=>?_⟩;have sxP:=sxM.trans sP;obtain⟨c1,c2,c3,c4⟩:=ctx sxP;push_cast;refine⟨l,wa,za,v6,xl,_,_,ss,ws,zs,_,rfl,c1,c2,hss.1,hss.2.1,c3,hss.2.2,c4,hnn,tpP.newOk,t6,λHR sR=>?_⟩;rw[<- hn,oV (λz=>al.above hb34 hb4 Pk (λi j h1 h2 h3=>Gu h3) (iG.mp z))];push_cast;subst hk2;have tpR:=tpP.same sR;have sxR:=sxP.trans sR.x;have sDR:bG p HD HR:=sDG.x.trans (sGJ.trans (sJM.trans (sP.trans sR.x)));have erR:=sDR _ _ nrp erD;have rowR:∀a∈rs,∃ys:List V,HR a=ID (.lst ys)/\ys.length<=60:=λa h=>by
     obtain⟨j,hj⟩:=Fa.mp h;exact⟨_,sDR _ _ (tpA.ne (hrA a h)) (hrD j a hj),by rw[AC,dH];omega⟩
    have tkR:aJ (λb=>b≠p/\b∉rs) HR (.ref kd) (jx n N):=tkD.keep λb o hb e=>⟨hb,sDR b o hb.1 e⟩;clear sP tpP t6 c1 c2 c3 c4 sR nbdM todM tpM sJM sxM sxL sJL u1 ept tpL sGJ todJ tpapJ tldJ tstJ nbdJ ctl ctt ctw ctz
    -- the told rows grow
    refine aM λk2 hk2=>?_;refine jo λR8 hR8=>?_;push_cast[erR];obtain⟨Pr,hPr⟩:∃Pv:Nat->L2.St->Hp->Prop,Pv=λ(t:Nat) σ H'=>∃(q17:Option V),lF rs HR H'/\(∀a∈rs,∃ys:List V,H' a=ID (.lst ys)/\ys.length<=60+t)/\σ=[ID (.ref a),ID (.int (0+(i:Int))),ID (.ref p),ID (.ref l),ID (.int (n:Int)),ID (.ref wa),ID (.ref za),ID (.ref a3),ID (.ref bd),ID (.ref r),ID (.ref kd),ID (.ref od),ID (.ref ld),ID (.ref wd),q14,q15,q16,q17,o18,o19,o20]:=⟨_,rfl⟩;refine Bw hR8 (xs:=rs.map AT) Pr (by rw[hPr];exact⟨_,lF.refl,rowR,rfl⟩) ?_ ?_ ?_
    ·intro t σ H3 _ pr;rw[hPr] at pr;obtain⟨_,u3,_⟩:=pr;exact SqL.of (u3 _ _ nrr erR)
    ·intro t x σ H3 hx pr;rw[hPr] at pr;obtain⟨q17,u3,hrows,rfl⟩:=pr;have ht:=(AI.mp hx).1;rw[AC] at ht;rw[AL] at hx;obtain⟨y,hy,rfl⟩:=BG.mp hx;have hym:=A8 hy;obtain⟨ys,ey,hyl⟩:=hrows y hym;push_cast[ey];refine⟨rY ω,?_⟩;rw[hPr];refine⟨_,u3.trans (lF.upd hym),λa ha=>?_,rfl⟩;by_cases c:a=y
     ·subst c;exact⟨_,aD,by rw[A0,B4];omega⟩
     obtain⟨zs',ez,hzl'⟩:=hrows a ha;exact⟨zs',by rw[aH c];exact ez,ω⟩
    intro σ HS pr;rw[hPr] at pr;obtain⟨q17,u3,_,rfl⟩:=pr;have sxS:bG p HA HS:=u3.x sxR hrA;have tpS:bF HS p 40000:=(u3.adT npr tpR).le δ;have tkS:aJ (·≠p) HS (.ref kd) (jx n N):=tkR.keep λb o hb e=>⟨hb.1,u3 b o hb.2 e⟩;show k2 _ _;clear hPr Pr hR8 rowR erR tkR u3 sDR tpR sxR;subst hk2
    -- other weights and prices
    refine aM λk2 hk2=>?_;push_cast;refine⟨p,n,40000,rfl,tpS,ω,ω,n60,λwb ws2 HT sT tpT nwb hwb0 ewb hwl2 hwb2=>?_⟩;push_cast;refine⟨p,40130,rfl,tpT,ω,ω,λzb zs2 HU sU tpU nzb hzb0 ezb hzl2 hzb2=>?_⟩;push_cast;subst hk2;have sxU:=sxS.trans (sT.trans sU);have tkU:=tkS.j8 (sT.trans sU);have ewbU:=sU _ _ nwb ewb;obtain⟨c1,c2,c3,c4⟩:=ctx sxU;have hss2:ws2.length=ss.length:=ω;have hnn2:∀w∈ws2,0<=w:=λw hw=>(hwb2 w hw).1;have c5:lE HU zb zs2:=⟨ezb,hzl2,hzb2⟩;refine aM λk2 hk2=>?_;push_cast;refine⟨l,wb,zb,xl,_,ss,ws2,zs2,rfl,c1,c2,hss.1,hss.2.1,ewbU,hss2,c5,λr2 rs2 N2 HV sV hr20 er2 hrl2 hrs2 al2=>?_⟩;rw[<- hn] at hrl2 hrs2 al2;subst hk2;have tpV:=tpU.same sV;have tp2V:aJ (·≠p) HV (.ref r2) (jx n N2):=pQ (ok:=(·≠p)) n60 (tpU.ne hr20) er2 hrl2 λj x hj=>⟨tpU.ne (hrs2 j x hj).1,(hrs2 j x hj).2⟩;refine aM λk2 hk2=>?_;push_cast;refine⟨l,wb,zb,.ref r2,xl,_,_,ss,ws2,zs2,jx n N2,rfl,sV _ _ c1,c2.same sV,hss.1,hss.2.1,sV _ _ ewbU,hss2,⟨sV _ _ c5.1,c5.2⟩,hnn2,tpV.newOk,tp2V,λHW sW=>?_⟩;rw[<- hn,Cg (iG.mpr al2.below)];push_cast;subst hk2;have sUW:=sV.trans sW;refine aM λk2 hk2=>?_;obtain⟨a0,hat0,ea0,hat1⟩:=lastR (H':=HW) (N':=N2) (sW _ _ er2) hrl2 (λj a hj=>sW _ _ (hrs2 j a hj).2);have erW:=sW _ _ er2;push_cast[erW,hat0,ea0,hat1];push_cast[rdA];refine⟨l,wb,zb,xl,_,ss,ws2,zs2,rfl,sUW _ _ c1,c2.same sUW,hss.1,hss.2.1,sUW _ _ ewbU,hss2,⟨sUW _ _ c5.1,c5.2⟩,λbd2 HX mb2 M2 kvs2 sX bt2=>?_⟩;rw[<- hn] at bt2;push_cast[rdA];refine⟨aO δ,λp7 hp7=>?_⟩;have t7:=au (o:=BY [At 0,At (n:Int)]) hp7;have e7:upd HX p7 (BY [At 0,At (n:Int)]) p7=ID (BY [At ((0:Nat):Int),At (n:Int)]):=aD;have sUY:=(sUW.trans sX).trans t7;have eb7:=t7 _ _ bt2.e;generalize upd HX p7 (BY [At 0,At (n:Int)])=HY at t7 e7 sUY eb7 |-;have eNM2:N2 0 n=M2 0 n:=Dy (ss:=ss) (ws:=ws2) (zs:=zs2) (n:=n) (λk=>vQ hnn2 k) (λk _=>vQ (λx hx=>by have:=hzb2 x hx;omega) k) al2 (λp h1 h2=>bt2.one p ⟨h1,h2⟩) (λp h1 h2=>bt2.lst p ⟨h1,h2⟩) _ 0 n Z ω (AV _);have hv7:=bt2.num (0,n) ⟨by dsimp only;omega,AV _⟩;dsimp only at hv7;rw[<- eNM2] at hv7;refine⟨bd2,_,rfl,j7.k2 eb7 e7 hv7,?_⟩;push_cast;subst hk2
    -- the first paper ER
    push_cast;refine⟨l,wa,za,xl,_,ss,ws,zs,rfl,sUY _ _ c1,c2.same sUY,hss.1,hss.2.1,sUY _ _ c3,hss.2.2,⟨sUY _ _ c4.1,c4.2⟩,λr3 rs3 N3 HZ sZ hr30 er3 hrl3 hrs3 al3=>?_⟩;rw[<- hn] at hrl3 hrs3 al3;have tpZ:=(tpU.same sUY);have tp3:aJ (·≠p) HZ (.ref r3) (jx n N3):=pQ (ok:=(·≠p)) n60 (tpZ.ne hr30) er3 hrl3 λj x hj=>⟨tpZ.ne (hrs3 j x hj).1,(hrs3 j x hj).2⟩;rw[Ly (al3.one al)] at tp3;push_cast;refine⟨.ref r3,.ref kd,λx=>x≠p,jx n N,rfl,tp3,(tkU.same sUY).same sZ,Lx n N,λHQ sQ=>?_⟩;push_cast;show Pv (i+1) _ _;rw[hPv];exact⟨s1.trans (O8 ((sx10'.trans sxU).trans (sUY.trans (sZ.trans sQ)).x) hp),_,_,_,_,_,_,_,_,_,_,_,_,_,_,_,_,_,_,_,_,rfl⟩
  split <;> exact nxt _ (by split <;> omega) (by split <;> omega)
 intro σ H1 pv;rw[hPv] at pv;obtain⟨s1,o1,o2,o3,o4,o5,o6,o7,o8,o9,o10,o11,o12,o13,o14,o15,o16,o17,o18,o19,o20,rfl⟩:=pv;show k _ _;subst hk;push_cast;exact q _
end
theorem all_mk{l:PySem.W.OpenLaw}{w:BD}{K:AF}{h:Heap}{mg:Str->Option Ap}{fa:IN}{ckMostInMask:Tok}{ckMostInTable:Tok}{aTests:IN}{nTests:Nat}{slTests:Array (Option Ap)}{kTests0 kTests1 kTests2 kTests3 kTests4:Tok}(X:K.In h)(G:h.Ns Co mg)(hfa:mg "law" = ID (.ref fa))
  (d1:DB K "is_number" jr)
  (d2:DB K "numbers_across" gn)
  (d3:DB K "labels_left" jK)
  (d4:DB K "step_costs" cX)
  (d5:DB K "word_of_test" jJ)
  (d6:DB K "tests_in_order" bH)
  (d7:DB K "row_by" lW)
  (d8:DB K "row_cost" dB)
  (d9:DB K "rows_for" eV)
  (d10:DB K "runs_of_row" iJ)
  (d11:DB K "ways_of_run" aZ)
  (d12:DB K "bounds_of" mH)
  (d13:DB K "is_list_of_numbers" bL)
  (d14:DB K "is_run_paper" cT)
  (d15:DB K "shows_runs" bN)
  (d16:DB K "least_by" dY)
  (d17:DB K "leasts_of_runs" bI)
  (d18:DB K "run_paper" dh)
  (d19:DB K "_law_cell_at" mG)
  (d20:DB K "_law_tape" m8)
  (d21:DB K "_law_take" m9)
  (d22:DB K "_law_stretches" bR)
  (d23:DB K "_law_weights" gG)
  (d24:DB K "_law_prices" gQ)
  (d25:DB K "_law_same" iI)
  (d26:DB K "_law_run_many" kY)
  (d27:DB K "_law_run_ways" bK)
  (d28:DB K "_law_row_cost" bV)
  (d29:DB K "_law_best_runs" bM)
  (d30:DB K "_law_shows_runs" aU)
  (d31:DB K "_law_above" iu)
  (d32:DB K "law" dj)
  (z:NS K BLs)
  (w1:nsIn K Co "MOST_IN_MASK" = ID (ID (.int 64 ckMostInMask)))
  (w2:nsIn K Co "MOST_IN_TABLE" = ID (ID (.int 200 ckMostInTable)))
  (t1:nsIn K Co "TESTS" = ID (ID (.ref aTests)))(u1:K.lookup aTests=ID ⟨.type "tuple",IF,.seq #[.str "is" kTests0,.str "within" kTests1,.str "below" kTests2,.str "mask" kTests3,.str "table" kTests4] nTests,slTests⟩) :
  ∃fd:D3,(∀(s:AA)(v:Ap),BindsTo s fd ⟨[v],[]⟩ [("_law_script",v)])/\∀base:Heap,K.In base->base.Ns Co mg->dw l.prog w K mg base CX0 64 fa fd ["_law_script"] (O2 K):=by
 obtain⟨fl,odl,anl,sll,ocl,kVl,dcl,pml,cdl,ctl,dl⟩:=d32;have e:=hfa.symm.trans (mg_of X G dl.a);cases e;obtain⟨_,_,DIsNumber⟩:=d1.d ["thing"] X G;obtain⟨_,_,DNumbersAcross⟩:=d2.d q13_ X G;obtain⟨_,_,DLabelsLeft⟩:=d3.d q13_ X G;obtain⟨_,_,DStepCosts⟩:=d4.d q16_ X G;obtain⟨_,_,DWordOfTest⟩:=d5.d q19_ X G;obtain⟨_,_,DTestsInOrder⟩:=d6.d q2_ X G;obtain⟨_,_,DRowBy⟩:=d7.d q15_ X G;obtain⟨_,_,DRowCost⟩:=d8.d q7_ X G;obtain⟨_,_,DRowsFor⟩:=d9.d q2_ X G;obtain⟨_,_,DRunsOfRow⟩:=d10.d ["many"] X G;obtain⟨_,_,DWaysOfRun⟩:=d11.d q8_ X G;obtain⟨_,_,DBoundsOf⟩:=d12.d q18_ X G;obtain⟨_,_,DIsListOfNumbers⟩:=d13.d q14_ X G;obtain⟨_,_,DIsRunPaper⟩:=d14.d q14_ X G;obtain⟨_,_,DShowsRuns⟩:=d15.d q12_ X G;obtain⟨_,_,DLeastBy⟩:=d16.d q17_ X G;obtain⟨_,_,DLeastsOfRuns⟩:=d17.d q5_ X G;obtain⟨_,_,DRunPaper⟩:=d18.d q5_ X G;obtain⟨_,_,DZCellAt⟩:=d19.d q9_ X G;obtain⟨_,_,DZTape⟩:=d20.d q9_ X G;obtain⟨_,_,DZTake⟩:=d21.d q0_ X G;obtain⟨_,_,DZStretches⟩:=d22.d q0_ X G;obtain⟨_,_,DZWeights⟩:=d23.d q0_ X G;obtain⟨_,_,DZPrices⟩:=d24.d q0_ X G;obtain⟨_,_,DZSame⟩:=d25.d q10_ X G;obtain⟨_,_,DZRunMany⟩:=d26.d ["_law_tape_here"] X G;obtain⟨_,_,DZRunWays⟩:=d27.d q1_ X G;obtain⟨_,_,DZRowCost⟩:=d28.d q3_ X G;obtain⟨_,_,DZBestRuns⟩:=d29.d q6_ X G;obtain⟨_,_,DZShowsRuns⟩:=d30.d q4_ X G;obtain⟨_,_,DZAbove⟩:=d31.d q11_ X G;have DLaw:=dl.d ["_law_script"] X G λ_ _ _ _ _ _ us hl=>by obtain⟨z0,rfl⟩:=ln1 hl;rfl
 have cgMostInMask:mg "MOST_IN_MASK" = ID (.int 64 ckMostInMask):=mg_of X G w1;have cgMostInTable:mg "MOST_IN_TABLE" = ID (.int 200 ckMostInTable):=mg_of X G w2;have cgTests:mg "TESTS" = ID (.ref aTests):=mg_of X G t1;have ktTests:KTup K aTests ([("is" : Str),("within" : Str),("below" : Str),("mask" : Str),("table" : Str)].map AS):=⟨_,_,_,u1,rfl,rfl,rfl,aO (show 5<=1000000 by decide),(.cons ⟨_,rfl⟩ (.cons ⟨_,rfl⟩ (.cons ⟨_,rfl⟩ (.cons ⟨_,rfl⟩ (.cons ⟨_,rfl⟩ .nil)))))⟩;have hB:∀x:Str,x∈BLs->mg x=IF:=λx hx=>PySem.W.mg_none_of X G (z.all x hx);refine⟨fnOf "law" "law" (iD dj) (fG dj) (aj dj) .none kVl dcl pml anl cdl ctl,λs v=>.of_eq rfl,λbase kb nb=>?_⟩;have CCell:=DZCellAt.cal (aac (P:=l.prog) (w:=w) (base:=base) hB DZCellAt.fn);have CTape:=DZTape.cal (Z6 hB CCell DZTape.fn);have CTake0:=DZTake.cal (Q8 (P:=l.prog) (w:=w) (mg:=mg) (base:=base));have CTake1:=DZTake.cal (PB (n:=0) hB δ CTake0 DZTake.fn);have CTake2:=DZTake.cal (PB (n:=1) hB δ CTake1 DZTake.fn);have CSts:=DZStretches.cal (ab5 hB CTake2 DZStretches.fn);have CWts:=DZWeights.cal (LK hB CTake2 DZWeights.fn);have CPrs:=DZPrices.cal (RQ hB CTake2 DZPrices.fn);have CSame:∀n,Cal l.prog w K mg base "_law_same" n q10_ (qZ n):=by
  intro n
  induction n with
  | zero=>exact DZSame.cal (same_none (P:=l.prog) (w:=w) (mg:=mg) (base:=base))
  | succ n ih=>exact DZSame.cal (Z7 hB ih DZSame.fn)
 have CAcross:=DNumbersAcross.cal (RT (P:=l.prog) (w:=w) (base:=base) hB DNumbersAcross.fn);have CLabs:=DLabelsLeft.cal (Z8 (P:=l.prog) (w:=w) (base:=base) hB DLabelsLeft.fn);have CNum:=DIsNumber.cal (Wx (P:=l.prog) (w:=w) (base:=base) hB DIsNumber.fn);have CWordT:=DWordOfTest.cal (Ws (P:=l.prog) (w:=w) (mg:=mg) (base:=base) DWordOfTest.fn);have CTestsO:=DTestsInOrder.cal (RM hB CWordT DTestsInOrder.fn);have CRowBy:=DRowBy.cal (Wv (P:=l.prog) (w:=w) (base:=base) hB DRowBy.fn);have CRowCost:=DRowCost.cal (Mf (P:=l.prog) (w:=w) (base:=base) hB cgTests ktTests DRowCost.fn);have CRows:=DRowsFor.cal (Ma hB CTestsO CRowCost CRowBy DRowsFor.fn);have CStepC:=DStepCosts.cal (Wu (P:=l.prog) (w:=w) (base:=base) hB cgTests ktTests DStepCosts.fn);have CRunsOf:=DRunsOfRow.cal (Bx λn=>RP (n:=n) (P:=l.prog) (w:=w) (base:=base) hB DRunsOfRow.fn);have CWaysR:=DWaysOfRun.cal (Wt hB cgMostInMask cgMostInTable CAcross CLabs CStepC CRows DWaysOfRun.fn);have CLeastBy:=DLeastBy.cal (Bx λn:(Nat->Nat->Int)×(Nat->Nat->AU)=>Mh (N:=n.1) (T:=n.2) hB (DBoundsOf.cal (Ek (N:=n.1) (P:=l.prog) (w:=w) (base:=base) hB DBoundsOf.fn)) DLeastBy.fn);have CLeasts:=DLeastsOfRuns.cal (Mg hB CRunsOf CWaysR CLeastBy DLeastsOfRuns.fn);have CListN:=DIsListOfNumbers.cal (Ww hB CNum DIsListOfNumbers.fn);have CIsRP:=DIsRunPaper.cal (Z9 hB CListN DIsRunPaper.fn);have CBoundsE:=DBoundsOf.cal (Bx λn=>Ek (N:=n) (P:=l.prog) (w:=w) (base:=base) hB DBoundsOf.fn);have CShows:=DShowsRuns.cal (RN hB CIsRP CRunsOf CBoundsE CWaysR DShowsRuns.fn);have CRunP:=DRunPaper.cal (Ju hB CLeasts DRunPaper.fn);have CRunMany:=DZRunMany.cal (LR hB CTake2 DZRunMany.fn);have CZRowCost:=DZRowCost.cal (Jt (P:=l.prog) (w:=w) (base:=base) hB DZRowCost.fn);have CZRunWays:=DZRunWays.cal (LQ hB CZRowCost DZRunWays.fn);have CZBest:=DZBestRuns.cal (Jv hB CZRunWays DZBestRuns.fn);have CZShows:=DZShowsRuns.cal (LC hB CZRunWays DZShowsRuns.fn);have CAbove:=DZAbove.cal (Wz hB CTake2 DZAbove.fn);exact ab6 hB CTape CTake2 CRunMany CSts CWts CPrs CZBest CRunP CShows CZShows CAbove (CSame 4) DLaw.fn
theorem walk{l:PySem.W.OpenLaw}{q:A1}{loose:List Str}{XP:(Str->Option Ap)->Heap->Prop}{YP:BD->Heap->Prop}{d:DefRec}{K:Params->AF}(hn:l.most=ID 63)(hdf:d.params.defaults=[])
  (hY:∀(w:BD)(h:Heap),YP w h->(K w.params).In h)
   (F:∀(w:BD)(mg:Str->Option Ap)(fa:IN)(h:Heap),(K w.params).In h->h.Ns Co mg->mg d.name=ID (.ref fa) ->
   ∃fd:D3,(∀(s:AA)(u:Ap),BindsTo s fd ⟨[u],[]⟩ [("_law_script",u)])/\∀base:Heap,(K w.params).In base->base.Ns Co mg->dw l.prog w (K w.params) mg base CX0 64 fa fd ["_law_script"] (O2 (K w.params))) :
  PySem.W.WalkO q loose XP YP l.row.toRowW d [] (λf vs=>PySem.call f vs):=
 L2.Yo (n:=63) (k:=64) (x := "_law_script") (CX:=λ_=>CX0) (sp:=λw=>O2 (K w.params)) hn δ hdf ⟨rfl,δ,δ,rfl⟩ hY F (λ_ _ a ns hl _ hS=>⟨a,ns,rfl,hS,hl,λ_=>rfl⟩) λ_ _ _ _ _ z=>z
end K31
namespace PySem.W.Fast
theorem tw10062770417755078877:True:=⟨⟩
theorem tw1010060347847778048:True:=⟨⟩
theorem tw10512852107046132282:True:=⟨⟩
theorem tw10911726637998362124:True:=⟨⟩
theorem tw1091279477658112948:True:=⟨⟩
theorem tw10971511691559608341:True:=⟨⟩
theorem tw11475518351285320491:True:=⟨⟩
theorem tw11956586882668918175:True:=⟨⟩
theorem tw1279627124142593842:True:=⟨⟩
theorem tw14497556568787837774:True:=⟨⟩
theorem tw15269874726317740409:True:=⟨⟩
theorem tw15399015517505487664:True:=⟨⟩
theorem tw15462255473972589979:True:=⟨⟩
theorem tw15771930088194969739:True:=⟨⟩
theorem tw16082678756870370099:True:=⟨⟩
theorem tw1628732051777696345:True:=⟨⟩
theorem tw16333961269876545042:True:=⟨⟩
theorem tw16919428233370509590:True:=⟨⟩
theorem tw17855246702998701485:True:=⟨⟩
theorem tw1840335068391636949:True:=⟨⟩
theorem tw2356029826417038044:True:=⟨⟩
theorem tw2359833079996929805:True:=⟨⟩
theorem tw2461308911902798361:True:=⟨⟩
theorem tw3454417681360867563:True:=⟨⟩
theorem tw3799889785900292861:True:=⟨⟩
theorem tw3964678069634792393:True:=⟨⟩
theorem tw410084843226296212:True:=⟨⟩
theorem tw4363405436657898521:True:=⟨⟩
theorem tw4751783132445353023:True:=⟨⟩
theorem tw6115552385565856713:True:=⟨⟩
theorem tw6962732651969967086:True:=⟨⟩
theorem tw7274016500064759181:True:=⟨⟩
theorem tw7463204736943843301:True:=⟨⟩
theorem tw860628404642903815:True:=⟨⟩
theorem tw8662494891251566678:True:=⟨⟩
theorem tw8753305214729205184:True:=⟨⟩
theorem tw8889319377658216159:True:=⟨⟩
theorem tw9047674205561523661:True:=⟨⟩
theorem tw9203353698492704163:True:=⟨⟩
theorem tw9580147770184706285:True:=⟨⟩
end PySem.W.Fast
open PySem PySem.W PyProof.Rows
set_option maxRecDepth 100000 in
set_option maxHeartbeats 0 in
theorem PySem.Challenge.cw_caseways_k31_papers_for_runs_holds : PySem.Challenge.rw_caseways_k31_papers_for_runs.Holds := by
 w_on; o_law; k_head; (case hw=>w_witness2)
 k_fill
 refine K31.walk (l:=PySem.Challenge.rw_caseways_k31_papers_for_runs) rfl rfl (fun w h Y=>PySem.W.kIn_of Y) ?F
 case F=>
  intro w mg fa h KX G hmg
  refine' K31.all_mk KX G hmg ?d1 ?d2 ?d3 ?d4 ?d5 ?d6 ?d7 ?d8 ?d9 ?d10 ?d11 ?d12 ?d13 ?d14 ?d15 ?d16 ?d17 ?d18 ?d19 ?d20 ?d21 ?d22 ?d23 ?d24 ?d25 ?d26 ?d27 ?d28 ?d29 ?d30 ?d31 ?d32 ?z ?w1 ?w2 ?t1 ?u1
  case d1|d2|d3|d4|d5|d6|d7|d8|d9|d10|d11|d12|d13|d14|d15|d16|d17|d18|d19|d20|d21|d22|d23|d24|d25|d26|d27|d28|d29|d30|d31|d32=>(refine' ⟨_,_,_,_,_,_,_,_,_,_,?a,?l,?c,?k⟩; (case a=>k_is); (case l=>k_is); (case c=>k_is); (case k=>k_is))
  case z=>(refine' ⟨?_,?_,?_,?_,?_,?_,?_,?_,?_,?_,?_,?_,?_,?_,?_,?_,?_,?_,?_,trivial⟩ <;> k_is)
  case w1|w2|t1|u1=>k_is
#print axioms PySem.Challenge.cw_caseways_k31_papers_for_runs_holds
