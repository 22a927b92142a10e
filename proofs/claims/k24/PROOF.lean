import PyProof.Rows.All
import Wide.All
import OpenK.AllK
import Wide.FinOn
import Lean
import PyProof.EqAt
import PyProof.EqKinds
import PyProof.TupleCall
import PyProof.NeData
import PySem.Challenge.RW_caseways_k24_whole_rows_of_any_plan_lead
local macro_rules | `(tactic| omega) => `(tactic| first | with_reducible assumption | lia | omega +splitDisjunctions)
open Lean in
local macro_rules | `(command|def $d:declId $s:optDeclSig $v:declVal) => `(command|noncomputable def $d:declId $s:optDeclSig $v:declVal) | `(command|abbrev $d:declId $s:optDeclSig $v:declVal) => `(command|noncomputable abbrev $d:declId $s:optDeclSig $v:declVal)
set_option Elab.async false
set_option linter.all false
set_option maxRecDepth 100000
theorem Z{α:Sort u}{a:α}:a=a:=rfl
theorem ζ{p:Prop}(h:p:=by simp):p:=h
theorem ω{p : Prop}(h : p := by omega) : p := h
theorem δ{p : Prop}(h : p := by decide) : p := h
theorem ψ{p : Prop}(h : p := by decide +kernel) : p := h
open List (all_append all_cons all_map all_nil any_eq_true cons_append ext_getElem flatten_cons forIn_cons getElem_inj length_nil map_drop map_nil map_set of_mem_zip range_succ reverse_cons set_cons_succ set_cons_zero sum_cons sum_nil)
open PySem.Heap (size_update)
open Option (getD_none getD_some isSome_map)
open PySem.W (codeIn fnOf keepIn kitOne mg_of nsIn)
open Array (toList_map toList_push)
open Nat (add_comm le_of_eq le_succ lt_trans mod_lt)
open Int (natCast_pow one_mul)
open PySem renaming wpAny_bind → An, Value → Ap, Shared → AD, wpAny_pure → AF, starEach → AM, wpAny → AO, SetTable → AR, sizeLine → AV, Builtin → AX, model → A3, Program → A6, PyData → A9, boot_len → Be, Around → BE, World → BI, wpAny_newObj_type → BU, compareOp → B0, wpAny_of_eq → B7, wpAny_ite_false → B9, mainGlobals → Cs, wpAny_call_entry → Ct, wpAny_setField_rec → CH, wpAny_callSpecial?_slot → CU, backTo → CY, wpAny_holding → C1, FuncData → C3, mem_of_lookup → C4, wpAny_truthy_bool → C5, keywordEach → C6, wpAny_mono → Da, NameKind → De, assignEach → DS, bootBuiltins → D1, foldedSetIterable → D5, wpAny_field → D9, attributeBase → Ev, Keyword → EH, backToKw → EI, Spec → EL, sysModules → EM, wpAny_rule → EN, rawInt → ET, binaryOp → EU, holding → EW, wpAny_Call_Name_kw → EX, wpAny_passesOwn → EZ, cLine → E4, codeAny_builtin → E6, behindInMarks → E7, wpAny_pyIter_enum → Fa, wpAny_pyIter_list → Fc, wpAny_askSetting → FE, call_meets → FH, tupleKind_room_in1 → FI, sliceBounds → FO, scanBound → FS, codeAny_mono → FY, Scope → F9, assign → Gc, pyNext → Go, intKind → GB, wpAny_standAt → GG, swapsWithSole → GH, wpAny_attempt → GI, pickOrder → GS, wpAny_letOwnedTupleGo_enum → G1, wpAny_pyIter_tuple → G2, valueAt → HC, IsEnum → HK, tupleKind → HM, swapsWith → HP, standAt → Ix, codeAny → Iy, wpAny_Call_method_late → IB, call_meetsIn → IE, wpAny_execs_nil → IR, letOwnedTupleGo → IT, CmpOp → IY, sizeLine_eq → Jn, compEnvC → JE, wpAny_seqItems → JJ, codeAny_call_builtin → Kb, wpAny_fieldsOf → Ki, getItem → Kt, callerA → Kx, swappedStores → KI, plainId_quiet → KM
open And renaming intro → Au
open List renaming mem_singleton → AA, getElem?_eq_some_iff → AB, getElem?_eq_getElem → AC, mem_cons_of_mem → AG, length_map → AI, mem_cons_self → AJ, range → AK, mem_cons → AL, length_append → AN, length_singleton → AQ, mem_of_getElem? → AU, size_toArray → AY, getElem?_map → AZ, mem_append_right → A4, replicate → A8, mem_append → BA, not_mem_nil → BC, mem_filter → BD, getElem?_append_right → BF, length_cons → BG, map_append → BH, mem_append_left → BN, length_eq_zero_iff → BQ, pairwise_cons → B4, Nodup → B8, pairwise_append → CL, append_assoc → CS, getElem?_append_left → C0, all_eq_true → C7, mem_map → C8, pairwise_singleton → Db, mem_iff_getElem? → Dx, append_nil → DH, map_cons → DI, length_range → DL, filter_cons_of_pos → DV, filter_cons_of_neg → DZ, length_filter_le → D0, length_pos_iff → D3, mem_iff_getElem → D7, getElem_mem → Ee, length_replicate → Ex, getD_eq_getElem?_getD → EE, lookup_cons → EJ, contains_iff_mem → EV, Perm → E8, nodup_cons → Fk, length_drop → Fm, take_length → FB, getElem?_eq_none → FD, pairwise_iff_getElem → FG, mem_range → FL, length_take → FM, filterMap_cons → FU, getElem?_set_self → FV, replicate_succ → F0, map → F1, take_add_one → F2, take_of_length_le → F5, isEmpty_iff_length_eq_zero → F8, getElem?_toArray → GA, toArray → GN, nodup_append → GO, length_set → GW, any_cons → GY, nil_append → G0, getElem?_cons_succ → Hb, getElem?_cons_zero → Hc, drop_eq_getElem_cons → Hd, mem_or_eq_of_mem_set → He, drop_eq_nil_of_le → HE, pairwise_lt_range → HG, length_pos_of_mem → HH, filterMap_map → HI, filter_append → HL, nodup_nil → HU, take_append_drop → Ic, find?_cons → IC, map_map → IG, foldl_append → II, drop_sublist → IJ, pairwise_map → IL, getElem?_set_ne → IQ, mem_of_mem_drop → IU, eq_nil_or_concat → IX, length_reverse → JO, map_congr_left → JP, length_take_le → JU, getLast?_concat → JY, map_eq_nil_iff → KB, filter_sublist → KE, flatMap_append → KF
open PySem.W renaming Frag → AE, kia_one → C9, stepOk → E9, findIn → GV, kitx_list → Hm, kitx_dict → Hn
open PySem.Heap renaming get?_push_of_some → AH, get?_push_size → A7, lt_size → Bz, SameBut → BO, get?_update_other → CO, size_push → DU, get?_update_self → FC
open Nat renaming le_refl → AW, lt_of_lt_of_le → Bi, ne_of_lt → BS, le_trans → Cn, lt_succ_self → CF, lt_of_le_of_lt → CM, lt_succ_of_lt → DE, zero_le → D6, pow_le_pow_right → EA, lt_or_ge → Fu, lt_irrefl → FK, zero_add → F4, two_pow_pos → GL, le_of_lt → GU, add_sub_cancel → Ha, not_lt_zero → HA, sub_self → HR, testBit_lt_two_pow → IH, max_eq_right → IP, ne_of_gt → IZ
open Option.some renaming inj → A0
open Bool renaming false_ne_true → A5, and_eq_true → BM, true_and → DD, not_false → D4, not_true → EO, eq_iff_iff → E3, false_and → FX, false_eq_true → KL
open PySem.PassesOwn renaming never → BB
open PySem.SeqAt renaming EqAt → B1
open PyProof.Rows renaming arrOf → B2, pendingOf → Cb, boot_isinstance → Cc, callWith_type1 → Ch, wpS_bind → Co, Keyed → CB, SortSt → DC, wpS_pure → DM, IntsAre → ER, firstMet → E5, pairsOf → Ff, seqObj → FA, wpS_forRange → F6, slot_tuple_getitem → F7, failedOf → HZ, AllBare → Iq, envOfC → IA, setPending → IM, wpS_mono → Kj, boot_max → Kk
open Int renaming toNat_natCast → B3, le_refl → Cf, toNat → CC, emod_lt_of_pos → EB, eq_ofNat_of_zero_le → ES, emod_nonneg → Fn
open Option renaming map_eq_some_iff → B5
open Sum renaming inl → B6, inr → Kn
open PySem.Obj renaming mapSeq → CA
open PySem.Calls renaming spliced_cons → CD, spliced_nil → DF, callWith_builtin → DJ, evalArgs_plain → EK
open Array renaming getElem?_toList → C2, length_toList → D2
open True renaming intro → DT
open Or renaming inl → D8
open Ne renaming symm → EC
open PySem.F renaming slot_dict_get → ED, slot_tuple_iterator_next → Fs, called_set → FF, plainAttrs_list → FR, entry_dict_get → F3, plainAttrs_dict → HQ, args_list_append_2 → JA, entry_list_append → KA
open ForInStep renaming yield → EF
open PySem.Data renaming fields → EG
open False renaming elim → Fh
open PySem.Str renaming ofString → GM
open PyProof.Rows.F renaming plain_set_update_loop → HV
open PySem.Paired renaming length → KG
open PySem.Value renaming ref → BY,int → Do,type → DO,bool → EQ
open Option renaming some → GE
open Option renaming none → GT
open PySem renaming Addr → ID
namespace L2
open PySem PySem.Spec PyProof.Rows
abbrev Key:=Sum Int Str
def Ib:Key->Ap->Bool
 | .inl k,v=>Ap.isInt k v
 | .inr x,v=>Ap.isStrOf x v
def agb(w:BI):Key->Int
 | .inl k=>hashInt k
 | .inr x=>hashStr w x
theorem dH:∀{k:Key}{v:Ap},Ib k v=true->(∃i t,k=B6 i/\v=Do i t)\/(∃x t,k=Kn x/\v=Ap.str x t)
 | .inl i,v,h=>by
  obtain⟨t,e⟩:=Ap.isInt_shape (k:=i) (v:=v) h;exact .inl ⟨i,t,rfl,e⟩
 | .inr x,v,h=>by
  obtain⟨t,e⟩:=Ap.isStrOf_shape (x:=x) (v:=v) h;exact .inr ⟨x,t,rfl,e⟩
theorem Vf(i:Int)(t:Tok):Ib (.inl i) (.int i t)=true:=by simp[Ib,Ap.isInt]
theorem Ve(x:Str)(t:Tok):Ib (.inr x) (.str x t)=true:=by simp[Ib,Ap.isStrOf]
theorem aeE(a b:Int):decide ((B6 a:Key)=B6 b)=(a == b):=by
 by_cases e:a=b
 ·subst e;simp
 have h:¬(B6 a:Key)=B6 b:=λq=>e (B6.inj q);rw[decide_eq_false h];exact(beq_eq_false_iff_ne.mpr e).symm
theorem aeB(a b:Str):decide ((Kn a:Key)=Kn b)=decide (a=b):=by
 by_cases e:a=b
 ·subst e;simp
 have h:¬(Kn a:Key)=Kn b:=λq=>e (Kn.inj q);rw[decide_eq_false h,decide_eq_false e]
theorem aeD(a:Int)(b:Str):decide ((B6 a:Key)=Kn b)=false:=decide_eq_false (λq=>nomatch q)
theorem aeC(a:Str)(b:Int):decide ((Kn a:Key)=B6 b)=false:=decide_eq_false (λq=>nomatch q)
def cL(prog:A6)(w:BI):PySem.KeyKind prog w Key where
 is:=Ib
 hash:=agb w
 inj:=λv a b ha hb=>by
  rcases dH ha with⟨i,t,rfl,rfl⟩|⟨x,t,rfl,rfl⟩
  ·rcases dH hb with⟨j,u,rfl,e⟩|⟨y,u,rfl,e⟩
   ·injection e with e1 _;rw[e1]
   exact nomatch e
  rcases dH hb with⟨j,u,rfl,e⟩|⟨y,u,rfl,e⟩
  ·exact nomatch e
  injection e with e1 _;rw[e1]
 byValue:=λk v h=>by
  rcases dH h with⟨i,t,rfl,rfl⟩|⟨x,t,rfl,rfl⟩ <;> rfl
 pyHash:=λhv h=>by
  rcases dH hv with⟨i,t,rfl,rfl⟩|⟨x,t,rfl,rfl⟩
  ·exact wpAny_pyHash_int h
  exact wpAny_pyHash_str h
 eqBool:=λhu hv h=>by
  rcases dH hu with⟨i,t,rfl,rfl⟩|⟨x,t,rfl,rfl⟩
  ·rcases dH hv with⟨j,u,rfl,rfl⟩|⟨y,u,rfl,rfl⟩
   ·rw[aeE] at h;exact wpAny_eqBool_int h
   rw[aeD] at h;exact B1.int_str i t y u _ _ _ _ h
  rcases dH hv with⟨j,u,rfl,rfl⟩|⟨y,u,rfl,rfl⟩
  ·rw[aeC] at h;exact B1.str_int x t j u _ _ _ _ h
  rw[aeB] at h;exact wpAny_eqBool_str h
 «strs»:=λk x t v h=>by
  rcases dH h with⟨i,u,rfl,e⟩|⟨y,u,rfl,e⟩
  ·exact nomatch e
  injection e with e1 _;subst e1;cases v <;> rfl
theorem Ms(prog:A6)(w:BI)(i:Int)(t:Tok):(cL prog w).is (.inl i) (.int i t)=true:=Vf i t
theorem Mr(prog:A6)(w:BI)(x:Str)(t:Tok):(cL prog w).is (.inr x) (.str x t)=true:=Ve x t
inductive V where
 | non|bl (b:Bool)|int (i:Int)|str (x:Str)|byt (b:Array UInt8)|flt (b:UInt64)|ref (a:ID)|ty (n:String)
 deriving DecidableEq
def RelV:V->Ap->Prop
 | .non,u=>u=Ap.none
 | .bl b,u=>u=EQ b
 | .int i,u=>∃t,u=Do i t
 | .str x,u=>∃t,u=Ap.str x t
 | .byt b,u=>∃t,u=Ap.bytes b t
 | .flt b,u=>∃t,u=Ap.float b t
 | .ref a,u=>u=BY a
 | .ty n,u=>u=DO n
abbrev Vals:List V->List Ap->Prop:=Paired RelV
theorem Vals.length{xs:List V}{us:List Ap}(r:Vals xs us):xs.length=us.length:=KG r
theorem Vals.get:∀{xs:List V}{us:List Ap}{i:Nat}{x:V},Vals xs us->xs[i]?=GE x->∃u,us[i]?=GE u/\RelV x u
 | _,_,_,_,.nil,e=>by simp at e
 | _,_,0,_,.cons r _,e=>by simp at e;subst e;exact⟨_,rfl,r⟩
 | _,_,i+1,x,.cons _ t,e=>by
  obtain⟨u,h1,h2⟩:=Vals.get (i:=i) (x:=x) t (by simpa using e);exact⟨u,by simpa using h1,h2⟩
theorem Vals.set{x:V}{u:Ap}(r:RelV x u):∀{xs:List V}{us:List Ap}(i:Nat),Vals xs us->Vals (xs.set i x) (us.set i u)
 | _,_,_,.nil=>.nil
 | _,_,0,.cons _ t=>.cons r t
 | _,_,i+1,.cons q t=>.cons q (Vals.set r i t)
theorem Vals.append:∀{xs ys:List V}{us ws:List Ap},Vals xs us->Vals ys ws->Vals (xs++ys) (us++ws)
 | _,_,_,_,.nil,s=>s
 | _,_,_,_,.cons r t,s=>.cons r (Vals.append t s)
theorem Vals.take:∀{xs:List V}{us:List Ap}(n:Nat),Vals xs us->Vals (xs.take n) (us.take n)
 | _,_,0,_=>.nil
 | _,_,_+1,.nil=>.nil
 | _,_,n+1,.cons r t=>.cons r (Vals.take n t)
theorem Vals.drop:∀{xs:List V}{us:List Ap}(n:Nat),Vals xs us->Vals (xs.drop n) (us.drop n)
 | _,_,0,r=>r
 | _,_,_+1,.nil=>.nil
 | _,_,n+1,.cons _ t=>Vals.drop n t
theorem Vals.none_of:∀{xs:List V}{us:List Ap}{i:Nat},Vals xs us->xs[i]?=GT->us[i]?=GT:=λ{xs us i} r e=>by
 have h1:=r.length;have h2:xs.length<=i:=List.getElem?_eq_none_iff.mp e;exact List.getElem?_eq_none_iff.mpr ω
def uy:Option V->Option Ap->Prop
 | some v,GE u=>RelV v u
 | none,GT=>True
 | _,_=>False
def KV{κ:Type}:List (κ×V)->List (κ×Ap)->Prop:=Paired λ(p:κ×V)(q:κ×Ap)=>p.1=q.1/\RelV p.2 q.2
def kV:Key->V
 | .inl i=>.int i
 | .inr x=>.str x
inductive HO where
 | lst (xs:List V)
 | tup (xs:List V)
 | dK (af:List (Key×V))|dT (af:List (List Key×V))
 | set (S:Int->Bool) (n:Nat)
 | ins (C dx:ID) (fs:List (Str×V))
 | own (x:ID)
 | xd (fs:List (Str×V))
 | met (f x:ID)
 | rng (lo hi:Int)
 | frz (o:Obj) (u:HO)
 | tbl (ps:Array Ap)
 | ext (φ:Heap->Prop)
abbrev Hp:=ID->Option HO
def upd(H:Hp)(a:ID)(o:HO):Hp:=λb=>if b=a then GE o else H b
theorem au{H:Hp}{a:ID}{o:HO}:upd H a o a=GE o:=by unfold upd;rw[if_pos rfl]
theorem aL{H:Hp}{a b:ID}{o:HO}(h:b≠a):upd H a o b=H b:=by unfold upd;rw[if_neg h]
theorem afB{H:Hp}{a b:ID}{o u:HO}(h:H a=GE o)(h':H b=GE u)(d:o≠u):a≠b:=by
 intro e;subst e;rw[h] at h';exact d (A0 h')
theorem aF{H:Hp}{a b:ID}{o:HO}(h:H a=GE o)(h':H b=GT):a≠b:=by
 intro e;subst e;rw[h] at h';cases h'
section
variable (P:A6)(w:BI)
def cR(H:Hp)(h:Heap)(a:ID):HO->Prop
 | .lst xs=>xs.length<=AV/\∃(ae:List Ap)(n:Nat),Vals xs ae/\h.get? a=GE { cls:=.type "list",data:=.seq ae.toArray n }
 | .tup xs=>xs.length<=AV/\∃ae:List Ap,Vals xs ae/\IsTup h a ae.toArray
 | .dK af=>af.length<=AV/\(a == EM)=false/\∃vs,KV af vs/\h.DictOf (cL P w) a vs
 | .dT af=>af.length<=AV/\(a == EM)=false/\∃xs:List (List Key×ID×Ap),
   Paired (λ(p:List Key×V)(q:List Key×ID×Ap)=>p.1=q.1/\H q.2.1=GE (.tup (p.1.map kV))/\RelV p.2 q.2.2) af xs /\
   ∃o es ep,h.get? a=GE o/\o.ExactDict/\o.data=.dict es ep/\es.toList=xs.map (entryOfKey (HM (cL P w)))/\(xs.map (·.1)).Nodup
 | .set S n=>h.SetOf (GB P w) a S n
 | .ins C dx fs=>H dx=GE (.own a)/\fs.length<=1000/\dx≠a/\h.get? a=GE (PySem.W.instObj C dx) /\
   ∃mA,h.Ns1 dx mA/\(∀f,uy (fs.lookup f) (mA f))/\PySem.Within mA (fs.map (·.1))
 | .own _=>∃o,h.get? a=GE o
 | .xd fs=>∃mA,h.Ns1 a mA/\∀f,uy (fs.lookup f) (mA f)
 | .rng lo hi=>∃t u v,h.get? a=GE { cls:=.type "range",data:=.fields #[.int lo t,.int hi u,.int 1 v] }
 | .frz o u=>h.get? a=GE o/\cR H h a u
 | .tbl ps=>h.get? a=GE { cls:=.none,data:=.fields ps }
 | .met f x=>h.get? a=GE (PySem.W.methodObj (.ref f) (.ref x))
 | .ext φ=>φ h/\(∃o,h.get? a=GE o)/\∀h1 h2:Heap,φ h1->(∀o,h1.get? a=GE o->h2.get? a=GE o)->φ h2
def HOk(H:Hp)(h:Heap):Prop:=∀a o,H a=GE o->cR P w H h a o
end
section
variable {P:A6}{w:BI}{H H':Hp}{h h':Heap}{a:ID}{o:HO}
theorem cR.lt(x:cR P w H h a o):a<h.objs.size:=by
 cases o with
 | lst xs=>obtain⟨_,_,_,_,e⟩:=x;exact Bz e
 | tup xs=>obtain⟨_,_,_,p⟩:=x;exact p.lt
 | dK af=>obtain⟨_,_,_,_,o,_,_,e,_⟩:=x;exact Bz e
 | dT af=>obtain⟨_,_,_,_,o,_,_,e,_⟩:=x;exact Bz e
 | set S n=>obtain⟨o,_,_,_,e,_⟩:=x;exact Bz e
 | ins C dx fs=>obtain⟨_,_,_,e,_⟩:=x;exact Bz e
 | own y=>obtain⟨_,e⟩:=x;exact Bz e
 | xd fs=>obtain⟨_,⟨_,_,_,e,_⟩,_⟩:=x;exact Bz e
 | rng lo hi=>obtain⟨_,_,_,e⟩:=x;exact Bz e
 | frz ob u=>obtain⟨e,_⟩:=x;exact Bz e
 | tbl ps=>exact Bz (show h.get? a=GE _ from x)
 | met f y=>exact Bz (show h.get? a=GE _ from x)
 | ext φ=>obtain⟨_,⟨_,e⟩,_⟩:=x;exact Bz e
theorem Paired.aes{α β:Type}{F G:α->β->Prop}:∀{l₁:List α}{l₂:List β},Paired F l₁ l₂->(∀a b,F a b->G a b)->Paired G l₁ l₂
 | _,_,.nil,_=>.nil
 | _,_,.cons r t,f=>.cons (f _ _ r) (Paired.aes t f)
theorem cR.stay(x:cR P w H h a o)(k:∀b u,(b=a\/H b=GE (.own a))->h.get? b=GE u->h'.get? b=GE u)
  (ho:∀b,H b=GE (.own a)->H' b=GE (.own a))(ht:∀b xs,H b=GE (.tup xs)->H' b=GE (.tup xs)):cR P w H' h' a o:=by
 induction o with
 | lst xs=>obtain⟨z,ae,n,r,e⟩:=x;exact⟨z,ae,n,r,k _ _ (.inl rfl) e⟩
 | tup xs=>obtain⟨z,ae,r,ob,e,c⟩:=x;exact⟨z,ae,r,ob,k _ _ (.inl rfl) e,c⟩
 | dK af=>obtain⟨z,y,vs,r,ob,es,ep,e,c⟩:=x;exact⟨z,y,vs,r,ob,es,ep,k _ _ (.inl rfl) e,c⟩
 | dT af=>
  obtain⟨z,y,xs,r,ob,es,ep,e,c⟩:=x;exact⟨z,y,xs,Paired.aes r λp q z=>⟨z.1,ht _ _ z.2.1,z.2.2⟩,ob,es,ep,k _ _ (.inl Z) e,c⟩
 | set S n=>obtain⟨ob,es,ep,t,e,c⟩:=x;exact⟨ob,es,ep,t,k _ _ (.inl rfl) e,c⟩
 | ins C dx fs=>
  obtain⟨d,z,ne,e,mA,⟨od,es,ep,e2,c⟩,r⟩:=x;exact⟨ho _ d,z,ne,k _ _ (.inl Z) e,mA,⟨od,es,ep,k _ _ (.inr d) e2,c⟩,r⟩
 | own y=>obtain⟨ob,e⟩:=x;exact⟨ob,k _ _ (.inl rfl) e⟩
 | xd fs=>obtain⟨mA,⟨od,es,ep,e,c⟩,r⟩:=x;exact⟨mA,⟨od,es,ep,k _ _ (.inl rfl) e,c⟩,r⟩
 | rng lo hi=>obtain⟨t,u,v,e⟩:=x;exact⟨t,u,v,k _ _ (.inl rfl) e⟩
 | frz ob u ih=>obtain⟨e,q⟩:=x;exact⟨k _ _ (.inl rfl) e,ih q⟩
 | tbl ps=>
  have e:h.get? a=GE { cls:=.none,data:=.fields ps }:=x;show h'.get? a=GE { cls:=.none,data:=.fields ps };exact k a _ (.inl Z) e
 | met f y=>
  have e:h.get? a=GE (PySem.W.methodObj (.ref f) (.ref y)):=x;show h'.get? a=GE (PySem.W.methodObj (.ref f) (.ref y));exact k a _ (.inl Z) e
 | ext φ=>obtain⟨p,⟨o,e⟩,st⟩:=x;exact⟨st _ _ p λo q=>k _ _ (.inl rfl) q,⟨o,k _ _ (.inl rfl) e⟩,st⟩
theorem HOk.lt(x:HOk P w H h)(e:H a=GE o):a<h.objs.size:=(x a o e).lt
theorem HOk.fresh(x:HOk P w H h)(e:h.objs.size<=a):H a=GT:=by
 cases q:H a with
 | none=>rfl
 | some u=>exact absurd (Bi (x.lt q) e) (FK _)
theorem HOk.kept(x:HOk P w H h)(k:∀b u,h.get? b=GE u->h'.get? b=GE u):HOk P w H h':=λa o e=>
 (x a o e).stay (λb u _ q=>k b u q) (λ_ q=>q) λ_ _ q=>q
theorem HOk.laid(x:HOk P w H h)(k:∀b u,h.get? b=GE u->h'.get? b=GE u)(hp:h.objs.size<=a)(new:cR P w (upd H a o) h' a o):HOk P w (upd H a o) h':=λb u e=>by
 have hn:=x.fresh hp;by_cases hb:b=a
 ·subst hb;rw[au] at e;cases e;exact new
 rw[aL hb] at e;exact(x b u e).stay (λc v _ q=>k c v q) (λc q=>by rw[aL (aF q hn)];exact q) λc xs q=>by rw[aL (aF q hn)];exact q
end
def Rd(H:Hp)(a:ID)(u:HO):Prop:=H a=GE u\/∃o,H a=GE (.frz o u)
theorem Rd.of{H:Hp}{a:ID}{u:HO}(h:H a=GE u):Rd H a u:=.inl h
theorem Rd.ok{P:A6}{w:BI}{H:Hp}{h:Heap}{a:ID}{u:HO}(r:Rd H a u)(x:HOk P w H h):cR P w H h a u:=by
 rcases r with r|⟨o,r⟩
 ·exact x a u r
 obtain⟨_,q⟩:=x a _ r;exact q
def Mut:Option HO->Prop
 | some (.lst _)=>True
 | some (.dK _)=>True
 | some (.dT _)=>True
 | some (.set _ _)=>True
 | some (.ins _ _ _)=>True
 | some (.ext _)=>True
 | _=>False
section
variable {P:A6}{w:BI}{H:Hp}{h h':Heap}{x e:ID}{o':HO}
theorem HOk.write(ok:HOk P w H h)(mu:Mut (H x))(he:e=x\/H e=GE (.own x))(k:∀b u,b≠e->h.get? b=GE u->h'.get? b=GE u)(wb:∃u,h'.get? e=GE u)
  (new:cR P w (upd H x o') h' x o'):HOk P w (upd H x o') h':=λb u q=>by
 have xL:∀c y,H c=GE (.own y)->c≠x:=λc y r z=>by subst z;rw[r] at mu;exact mu
 have O':∀c xs,H c=GE (.tup xs)->c≠x:=λc xs r z=>by subst z;rw[r] at mu;exact mu
 by_cases hb:b=x
 ·subst hb;rw[au] at q;cases q;exact new
 rw[aL hb] at q;by_cases ut:b=e
 ·have q':H b=GE (.own x):=by
   rcases he with z|z
   ·exact absurd (ut.trans z) hb
   rw[ut];exact z
  rw[q] at q';cases q';obtain⟨v,hv⟩:=wb;exact⟨v,by rw[ut];exact hv⟩
 refine(ok b u q).stay (λc v hc r=>k c v ?_ r) (λc r=>by rw[aL (xL c b r)];exact r) λc xs r=>by rw[aL (O' c xs r)];exact r
 rcases hc with rfl|hc
 ·exact ut
 rintro rfl;rcases he with z|z
 ·exact xL c b hc z
 rw[hc] at z;cases z;exact hb rfl
end
structure Un(fs ex:List ID)(H H':Hp)(h h':Heap):Prop where
 keep:∀b o,h.get? b=GE o->H b=GT->b∉fs->b∉ex->h'.get? b=GE o
 slot:∀b o,h.get? b=GE o->H b=GT->b∈fs->b∉ex->∃sl,h'.get? b=GE { o with slots:=sl }
 free:∀b o,h.get? b=GE o->H b=GT->b∉ex->H' b=GT
 there:∀b o,h.get? b=GE o->b∉ex->∃o',h'.get? b=GE o'
 tups:∀b xs,H b=GE (.tup xs)->H' b=GE (.tup xs)
 frzs:∀b o u,H b=GE (.frz o u)->H' b=GE (.frz o u)
 tbls:∀b ps,H b=GE (.tbl ps)->∃h8,H' b=GE (.tbl (ps++h8))
section
variable {fs fs' ex ex':List ID}{H H1 H2:Hp}{h h1 h2 h':Heap}{a x e:ID}{o:HO}
theorem Un.any(u:Un fs ex H H1 h h1){b:ID}{ob:Obj}(q:h.get? b=GE ob)(n:H b=GT)(hx:b∉ex):∃sl,h1.get? b=GE { ob with slots:=sl }:=by
 by_cases hb:b∈fs
 ·exact u.slot b ob q n hb hx
 exact⟨ob.slots,u.keep b ob q n hb hx⟩
theorem Un.kept(k:∀b u,h.get? b=GE u->h'.get? b=GE u):Un fs ex H H h h':=
 ⟨λb ob q _ _ _=>k b ob q,λb ob q _ _ _=>⟨ob.slots,k b ob q⟩,λ_ _ _ n _=>n,λb ob q _=>⟨ob,k b ob q⟩,λ_ _ q=>q,λ_ _ _ q=>q,λ_ ps q=>⟨#[],by rw[q];simp⟩⟩
theorem Un.refl:Un fs ex H H h h:=Un.kept λ_ _ q=>q
theorem Un.laid(k:∀b u,h.get? b=GE u->h'.get? b=GE u)(hp:h.objs.size<=a)(hn:H a=GT):Un fs ex H (upd H a o) h h' where
 keep:=λb u q _ _ _=>k b u q
 slot:=λb u q _ _ _=>⟨u.slots,k b u q⟩
 free:=λb u q n _=>by rw[aL (BS (Bi (Bz q) hp))];exact n
 there:=λb u q _=>⟨u,k b u q⟩
 tups:=λb xs q=>by rw[aL (aF q hn)];exact q
 frzs:=λb u xs q=>by rw[aL (aF q hn)];exact q
 tbls:=λb ps q=>⟨#[],by rw[aL (aF q hn),q];simp⟩
theorem Un.write(mu:Mut (H x))(he:e=x\/H e=GE (.own x))(k:∀b u,b≠e->h.get? b=GE u->h'.get? b=GE u)(wb:∃u,h'.get? e=GE u):Un fs ex H (upd H x o) h h':=by
 have hx:∀b,H b=GT->b≠x:=λb n z=>by subst z;rw[n] at mu;exact mu
 have hb:∀b,H b=GT->b≠e:=λb n z=>by
  subst z;rcases he with r|r
  ·exact hx b n r
  rw[n] at r;cases r
 have hm:∀b u,H b=GE u->¬Mut (GE u)->b≠x:=λb u q nm z=>by subst z;rw[q] at mu;exact nm mu
 refine⟨λb u q n _ _=>k b u (hb b n) q,λb u q n _ _=>⟨u.slots,k b u (hb b n) q⟩,λb u q n _=>by rw[aL (hx b n)];exact n,λb u q _=>?_,
  λb xs q=>by rw[aL (hm b _ q λz=>z)];exact q,λb u xs q=>by rw[aL (hm b _ q λz=>z)];exact q,λb ps q=>⟨#[],by rw[aL (hm b _ q λz=>z),q];simp⟩⟩
 by_cases ut:b=e
 ·subst ut;exact wb
 exact⟨u,k b u ut q⟩
end
def trk(h:Heap)(H:Hp):List ID:=(AK h.objs.size).filter λa=>(H a).isSome
def J5(h:Heap)(H:Hp):Heap:=PySem.W.hideAll h (trk h H)
theorem Vk(h:Heap)(H:Hp):(J5 h H).objs.size=h.objs.size:=PySem.W.hideAll_size _ _
theorem Zj{h:Heap}{H:Hp}{b:ID}{o:Obj}(e:h.get? b=GE o)(n:H b=GT):(J5 h H).get? b=GE o:=
 PySem.W.hideAll_get _ e λhm=>by
  have q:(H b).isSome=true:=(BD.mp hm).2;rw[n] at q;simp at q
theorem ab0{h:Heap}{H:Hp}{b:ID}{o:Obj}(e:(J5 h H).get? b=GE o):h.get? b=GE o/\H b=GT:=by
 have e':h.get? b=GE o:=PySem.W.of_hideAll (trk h H) e;refine⟨e',?_⟩;cases q:H b with
 | none=>rfl
 | some x=>
  have hm:b∈trk h H:=BD.mpr ⟨FL.mpr (Bz e'),by simp[q]⟩;have z:(J5 h H).get? b=GT:=PySem.W.hideAll_none (trk h H) hm;rw[z] at e;cases e
structure Mod(K:AE)(mg:Str->Option Ap)(base:Heap):Prop where
 kin:K.In base
 glob:base.Ns Cs mg
 blt:∃mb,base.Ns builtinsNs mb/\∀x:Str,x ≠ "__name__" -> mb x=D1 x
 nolimit:base.NoLimit
structure Cx where
 prog:A6
 w:BI
 K:AE
 mg:Str->Option Ap
 base:Heap
 A:BE
 N:List Str
 s₀:AD
 H₀:Hp
 env:Env
 outer:List Env
 stack:List Env
 ex:List ID
 fn:Str->Bool
 calm:Bool
 pn:List (ID×Obj)
 xe:Ap->AD->Prop
def frs(l:List Env):List ID:=l.filterMap (·.frame)
abbrev Cx.fs(X:Cx):List ID:=frs X.outer
def Vis(sc:F9)(x:Str):Prop:=sc.names.lookup x=GE .local\/sc.names.lookup x=GE .cell\/sc.names.lookup x=GE .free
def Loc(sc:F9)(x:Str):Prop:=sc.names.lookup x=GE .local\/sc.names.lookup x=GE .cell
def Look(env:Env)(h:Heap)(m:Str->Option Ap)(x:Str)(u:Ap):Prop:=
 (env.kindOf x=GE .local/\m x=GE u)\/((env.kindOf x=GE .cell\/env.kindOf x=GE .free)/\∃c,env.cells.lookup x=GE c/\h.IsCell c (GE u))
structure Cx.Ok(X:Cx):Prop where
 mod:Mod X.K X.mg X.base
 kind:X.env.scope.kind=.function
 glob:X.env.globals=Cs
 blt:X.env.builtins=builtinsNs
 above:X.s₀.heap.objs.size<=X.env.locals
 inj:∀x y c,X.env.cells.lookup x=GE c->X.env.cells.lookup y=GE c->x=y
 has:∀x,(X.env.kindOf x=GE .cell\/X.env.kindOf x=GE .free)->∃c,X.env.cells.lookup x=GE c
 cab:∀x c,X.fn x=true->X.env.cells.lookup x=GE c->X.s₀.heap.objs.size<=c
 hd:X.calm=true->X.A.handled=GT
 frames:X.A.frames=GE X.stack
 stk:X.stack=X.outer\/(X.stack=X.env::X.outer/\X.env.frame=GE X.env.locals)
 exf:∀b∈X.ex,b≠X.env.locals/\∀x c,X.env.cells.lookup x=GE c->c≠b
 bs:∀b o,X.base.get? b=GE o->X.s₀.heap.get? b=GE o/\X.H₀ b=GT
 bsz:X.base.objs.size<=X.s₀.heap.objs.size
 noex:∀b o,X.base.get? b=GE o->b∉X.ex
 exfs:∀b∈X.ex,b∉X.fs
 yP:X.s₀.heap.FunFrames X.base X.outer
 frf:∀b∈X.fs,X.H₀ b=GT
structure Inv(X:Cx)(aa:List (ID×Obj))(σ:List (Option V))(H:Hp)(s:AD):Prop where
 ok:X.Ok
 os:s.os=X.s₀.os
 bare:Iq s.gens
 base:Un X.fs X.ex X.H₀ H X.s₀.heap s.heap
 loc:∃m,s.heap.Ns X.env.locals m/\∀(i:Nat)(x:Str)(v:V),X.N[i]?=GE x->σ[i]?=GE (GE v)->Vis X.env.scope x->∃u,RelV v u/\Look X.env s.heap m x u
 cell:∀x c,X.env.cells.lookup x=GE c->∃v,s.heap.IsCell c v
 free:H X.env.locals=GT
 freeC:∀x c,X.env.cells.lookup x=GE c->H c=GT
 pin:∀p∈X.pn++aa,s.heap.get? p.1=GE p.2/\H p.1=GT/\p.1≠X.env.locals/\p.1∉X.fs/\∀v,p.2.data≠.cell v
 hok:HOk X.prog X.w H s.heap
 len:σ.length=X.N.length
section
variable {X:Cx}{aa:List (ID×Obj)}{σ:List (Option V)}{H H':Hp}{s:AD}{h':Heap}
theorem Cx.Ok.af9(ok:X.Ok){b:ID}{o:Obj}(e:X.base.get? b=GE o):b∉X.fs:=λhb=>by
 have:=(ok.yP.mem hb).1;rw[e] at this;cases this
theorem Inv.bs(I:Inv X aa σ H s):∀b o,X.base.get? b=GE o->s.heap.get? b=GE o/\H b=GT:=λb o e=>
 ⟨I.base.keep b o (I.ok.bs b o e).1 (I.ok.bs b o e).2 (I.ok.af9 e) (I.ok.noex b o e),I.base.free b o (I.ok.bs b o e).1 (I.ok.bs b o e).2 (I.ok.noex b o e)⟩
theorem Inv.bk(I:Inv X aa σ H s):∀b o,X.base.get? b=GE o->s.heap.get? b=GE o:=λb o e=>(I.bs b o e).1
theorem Inv.mod(I:Inv X aa σ H s):Mod X.K X.mg X.base:=I.ok.mod
theorem Inv.kIn(I:Inv X aa σ H s):X.K.In s.heap:=I.ok.mod.kin.keeps I.bk
theorem Inv.lt(I:Inv X aa σ H s):X.env.locals<s.heap.objs.size:=let ⟨_,hn,_⟩:=I.loc;hn.lt
theorem Inv.sz(I:Inv X aa σ H s):X.s₀.heap.objs.size<=s.heap.objs.size:=Cn I.ok.above (GU I.lt)
theorem Inv.aem(I:Inv X aa σ H s){a:ID}(h:s.heap.objs.size<=a):a∉X.fs:=λhb=>by
 obtain⟨_,o,ho,_⟩:=I.ok.yP.mem hb;exact absurd (Bi (Bz ho) (Cn I.sz h)) (FK _)
theorem Inv.cne(I:Inv X aa σ H s):∀x c,X.env.cells.lookup x=GE c->c≠X.env.locals:=λx c e z=>by
 obtain⟨v,o,ho,hd⟩:=I.cell x c e;obtain⟨m,⟨o',es,ep,fq,RO,_⟩,_⟩:=I.loc;rw[z,fq] at ho;cases ho;rw[RO] at hd;cases hd
theorem Inv.yP(I:Inv X aa σ H s):s.heap.FunFrames X.base X.outer:=by
 have all:∀(l:List Env),(∀b∈frs l,b∈X.fs)->X.s₀.heap.FunFrames X.base l->s.heap.FunFrames X.base l:=by
  intro l
  induction l with
  | nil=>intro _ _;trivial
  | cons env r ih=>
   intro hs hl;obtain⟨hk,⟨L,o,hf,hn,ho,hd⟩,hr⟩:=hl;have hL:L∈X.fs:=hs L (by unfold frs;rw[FU,hf];exact AJ);obtain⟨sl,e⟩:=I.base.slot L o ho (I.ok.frf L hL) hL λz=>I.ok.exfs L z hL;exact⟨hk,⟨L,_,hf,hn,e,hd⟩,ih (λb hb=>hs b (by unfold frs;rw[FU,hf];exact AG _ hb)) hr⟩
 exact all X.outer (λ_ hb=>hb) I.ok.yP
theorem Inv.stack(I:Inv X aa σ H s):s.heap.FunFrames X.base X.stack:=by
 rcases I.ok.stk with e|⟨e,hf⟩
 ·rw[e];exact I.yP
 rw[e];obtain⟨m,hn,_⟩:=I.loc;refine .cons (by rw[I.ok.kind];decide) hf hn ?_ I.yP;exact Heap.get?_none_of_le (Cn I.ok.bsz I.ok.above)
theorem Inv.CN(I:Inv X aa σ H s):∀b∈frs X.stack,b∈X.env.locals::X.fs:=λb hb=>by
 rcases I.ok.stk with e|⟨e,hf⟩
 ·rw[e] at hb;exact AG _ hb
 rw[e] at hb;unfold frs at hb;rw[FU,hf] at hb;exact hb
theorem Inv.Q9(I:Inv X aa σ H s):∀b∈frs X.stack,H b=GT:=λb hb=>by
 rcases AL.mp (I.CN b hb) with e|hb
 ·rw[e];exact I.free
 obtain⟨_,o,ho,_⟩:=I.ok.yP.mem hb;exact I.base.free b o ho (I.ok.frf b hb) λz=>I.ok.exfs b z hb
theorem Inv.step{g':Array GenState}{t':Nat}{d':Drawn}{ch:List ID}(I:Inv X aa σ H s)
  (l9:∀b∈ch,(b∈X.ex\/X.s₀.heap.objs.size<=b)/\b≠X.env.locals/\(∀x c,X.env.cells.lookup x=GE c->c≠b)/\∀p∈X.pn++aa,p.1≠b)
  (keep:∀b o,b≠X.env.locals->b∉X.fs->b∉ch->s.heap.get? b=GE o->H b=GT->h'.get? b=GE o)
  (slot:∀b o,b≠X.env.locals->b∈X.fs->b∉ch->s.heap.get? b=GE o->H b=GT->∃sl,h'.get? b=GE { o with slots:=sl })(free:∀b o,b∉ch->s.heap.get? b=GE o->H b=GT->H' b=GT)
  (there:∀b o,b∉ch->s.heap.get? b=GE o->∃o',h'.get? b=GE o')
  (tups:∀b xs,H b=GE (.tup xs)->H' b=GE (.tup xs))(frzs:∀b o u,H b=GE (.frz o u)->H' b=GE (.frz o u))(tbls:∀b ps,H b=GE (.tbl ps)->∃h8,H' b=GE (.tbl (ps++h8)))
  (ns:∀m,s.heap.Ns X.env.locals m->h'.Ns X.env.locals m)(hok:HOk X.prog X.w H' h')(hg:Iq g') :
  Inv X aa σ H' { s with heap:=h',gens:=g',drawn:=d',toks:=t' }:=by
 have UU:∀b o,X.s₀.heap.get? b=GE o->b≠X.env.locals:=λb o e=>BS (Bi (Bz e) I.ok.above);have Mn:∀b o,X.s₀.heap.get? b=GE o->b∉X.ex->b∉ch:=λb o e hx hb=>by
  rcases(l9 b hb).1 with z|z
  ·exact hx z
  exact absurd (Bi (Bz e) z) (FK _)
 have qE:∀x c,X.env.cells.lookup x=GE c->∀v,s.heap.IsCell c v->h'.IsCell c v:=λx c e v ⟨o,ho,hd⟩=>by
  have xS:c∉ch:=λz=>(l9 c z).2.2.1 x c e rfl;by_cases hc:c∈X.fs
  ·obtain⟨sl,q⟩:=slot c o (I.cne x c e) hc xS ho (I.freeC x c e);exact⟨_,q,hd⟩
  exact⟨o,keep c o (I.cne x c e) hc xS ho (I.freeC x c e),hd⟩
 refine⟨I.ok,I.os,hg,⟨λb o e n hb hx=>?_,λb o e n hb hx=>?_,λb o e n hx=>?_,λb o e hx=>?_,λb xs e=>tups b xs (I.base.tups b xs e),λb o xs e=>frzs b o xs (I.base.frzs b o xs e),λb ps e=>?_⟩,?_,λx c e=>?_,?_,λx c e=>?_,λp hp=>?_,hok,I.len⟩
 ·exact keep b o (UU b o e) hb (Mn b o e hx) (I.base.keep b o e n hb hx) (I.base.free b o e n hx)
 ·obtain⟨sl,e1⟩:=I.base.slot b o e n hb hx;obtain⟨Zl,e2⟩:=slot b _ (UU b o e) hb (Mn b o e hx) e1 (I.base.free b o e n hx);exact⟨Zl,e2⟩
 ·obtain⟨o',e1⟩:=I.base.there b o e hx;exact free b o' (Mn b o e hx) e1 (I.base.free b o e n hx)
 ·obtain⟨o',e1⟩:=I.base.there b o e hx;exact there b o' (Mn b o e hx) e1
 ·obtain⟨m1,e1⟩:=I.base.tbls b ps e;obtain⟨m2,e2⟩:=tbls b _ e1;exact⟨m1++m2,by rw[e2,Array.append_assoc]⟩
 ·obtain⟨m,hn,hl⟩:=I.loc;refine⟨m,ns m hn,λi x v e1 e2 e3=>?_⟩;obtain⟨u,r,l⟩:=hl i x v e1 e2 e3;refine⟨u,r,?_⟩;rcases l with l|⟨k,c,e,z⟩
  ·exact .inl l
  exact .inr ⟨k,c,e,qE x c e _ z⟩
 ·obtain⟨v,z⟩:=I.cell x c e;exact⟨v,qE x c e v z⟩
 ·obtain⟨m,⟨o,_,_,ho,_⟩,_⟩:=I.loc;exact free _ o (λz=>(l9 _ z).2.1 Z) ho I.free
 ·obtain⟨v,o,ho,hd⟩:=I.cell x c e;exact free c o (λz=>(l9 c z).2.2.1 x c e Z) ho (I.freeC x c e)
 obtain⟨e,n,ne,nf,d⟩:=I.pin p hp;have xS:p.1∉ch:=λz=>(l9 p.1 z).2.2.2 p hp rfl;exact⟨keep p.1 p.2 ne nf xS e n,free p.1 p.2 xS e n,ne,nf,d⟩
theorem Inv.un{t':Nat}(I:Inv X aa σ H s)(u:Un X.fs [] H H' s.heap h')(hok:HOk X.prog X.w H' h'):Inv X aa σ H' { s with heap:=h',toks:=t' }:=by
 obtain⟨m,⟨o,es,ep,ho,r⟩,_⟩:=id I.loc;obtain⟨sl,hL⟩:=u.any ho I.free ζ;exact I.step (g':=s.gens) (d':=s.drawn) (ch:=[]) (λ_ z=>nomatch z) (λb o _ hb _ e n=>u.keep b o e n hb ζ) (λb o _ hb _ e n=>u.slot b o e n hb ζ) (λb o _ e n=>u.free b o e n ζ) (λb o _ e=>u.there b o e ζ) u.tups u.frzs u.tbls (λm' hm=>by
  obtain⟨o',fw,SR,fq,r'⟩:=hm;rw[ho] at fq;cases fq;exact⟨_,fw,SR,hL,r'⟩) hok I.bare
theorem Inv.call{g':Array GenState}{t':Nat}{d':Drawn}{ch:List ID}(I:Inv X aa σ H s)(u:Un (frs X.stack) ch H H' s.heap h')(hok:HOk X.prog X.w H' h')(hg:Iq g')
  (l9:∀b∈ch,(b∈X.ex\/X.s₀.heap.objs.size<=b)/\b≠X.env.locals/\(∀x c,X.env.cells.lookup x=GE c->c≠b)/\∀p∈X.pn++aa,p.1≠b) :
  Inv X aa σ H' { s with heap:=h',gens:=g',drawn:=d',toks:=t' }:=by
 obtain⟨m,⟨o,es,ep,ho,r⟩,_⟩:=id I.loc;obtain⟨sl,hL⟩:=u.any ho I.free λz=>(l9 _ z).2.1 rfl;exact I.step (ch:=ch) l9 (λb o hL hb hc e n=>u.keep b o e n (λz=>(AL.mp (I.CN b z)).elim hL hb) hc) (λb o _ _ hc e n=>u.any e n hc) (λb o hc e n=>u.free b o e n hc) (λb o hc e=>u.there b o e hc) u.tups u.frzs u.tbls (λm' hm=>by
  obtain⟨o',fw,SR,fq,r'⟩:=hm;rw[ho] at fq;cases fq;exact⟨_,fw,SR,hL,r'⟩) hok hg
theorem Inv.turned{t':Nat}{it:ID}(I:Inv X aa σ H s)(k:∀b o,b≠it->s.heap.get? b=GE o->h'.get? b=GE o)(hn:H it=GT)(hL:it≠X.env.locals)
  (h1:it∈X.ex\/X.s₀.heap.objs.size<=it)(h2:∀x c,X.env.cells.lookup x=GE c->c≠it)(h3:∀p∈X.pn++aa,p.1≠it):Inv X aa σ H { s with heap:=h',toks:=t' }:=by
 have oI:∀b u,H b=GE u->b≠it:=λb u e z=>by rw[z,hn] at e;cases e
 refine I.step (g':=s.gens) (d':=s.drawn) (ch:=[it]) (λb hb=>?_) (λb o _ _ hc e _=>k b o (λz=>hc (by simp[z])) e) (λb o _ _ hc e _=>⟨o.slots,k b o (λz=>hc (by simp[z])) e⟩) (λ_ _ _ _ n=>n)
  (λb o hc e=>⟨o,k b o (λz=>hc (by simp[z])) e⟩) (λ_ _ e=>e) (λ_ _ _ e=>e) (λb ps e=>⟨#[],by rw[e];simp⟩) (λm hm=>?_) (λb u e=>?_) I.bare
 ·have e:b=it:=by simpa using hb
  subst e;exact⟨h1,hL,h2,h3⟩
 ·obtain⟨o,es,ep,ho,r⟩:=hm;exact⟨o,es,ep,k _ o (EC hL) ho,r⟩
 refine(I.hok b u e).stay (λc v hc q=>k c v ?_ q) (λ_ q=>q) λ_ _ q=>q;rcases hc with z|z
 ·rw[z];exact oI b u e
 exact oI c _ z
theorem Inv.tok(I:Inv X aa σ H s)(t:Nat):Inv X aa σ H { s with toks:=t }:=I.un (h':=s.heap) (t':=t) Un.refl I.hok
theorem Inv.kept{t':Nat}(I:Inv X aa σ H s)(k:∀b u,s.heap.get? b=GE u->h'.get? b=GE u):Inv X aa σ H { s with heap:=h',toks:=t' }:=I.un (Un.kept k) (I.hok.kept k)
theorem Inv.laid{a:ID}{o:HO}{t':Nat}(I:Inv X aa σ H s)(k:∀b u,s.heap.get? b=GE u->h'.get? b=GE u)(hp:s.heap.objs.size<=a)(new:cR X.prog X.w (upd H a o) h' a o) :
  Inv X aa σ (upd H a o) { s with heap:=h',toks:=t' }:=I.un (Un.laid k hp (I.hok.fresh hp)) (I.hok.laid k hp new)
theorem Inv.write{x e:ID}{o:HO}{t':Nat}(I:Inv X aa σ H s)(mu:Mut (H x))(he:e=x\/H e=GE (.own x))(k:∀b u,b≠e->s.heap.get? b=GE u->h'.get? b=GE u)(wb:∃u,h'.get? e=GE u)
  (new:cR X.prog X.w (upd H x o) h' x o):Inv X aa σ (upd H x o) { s with heap:=h',toks:=t' }:=I.un (Un.write mu he k wb) (I.hok.write mu he k wb new)
theorem Inv.uM{oC:List (ID×Obj)}(I:Inv X aa σ H s)(h:∀p∈oC,s.heap.get? p.1=GE p.2/\H p.1=GT/\p.1≠X.env.locals/\p.1∉X.fs/\∀v,p.2.data≠.cell v):Inv X oC σ H s:=
 ⟨I.ok,I.os,I.bare,I.base,I.loc,I.cell,I.free,I.freeC,λp hp=>(BA.mp hp).elim (λz=>I.pin p (BN _ z)) (h p),I.hok,I.len⟩
theorem Ly{N:List Str}(hN:N.Nodup){i j:Nat}{x:Str}(a:N[i]?=GE x)(b:N[j]?=GE x):i=j:=by
 obtain⟨h1,e1⟩:=AB.mp a;obtain⟨h2,e2⟩:=AB.mp b;exact(getElem_inj hN).mp (e1.trans e2.symm)
theorem G4{M:Model}{A:BE}{E:Ap->AD->Prop}{i:Nat}{x:Str}{v:V}{u:Ap}{Q:Unit->AD->Prop}(I:Inv X aa σ H s)(hN:X.N.Nodup)(hi:X.N[i]?=GE x)(hx:Loc X.env.scope x)(r:RelV v u)
  (h:∀s',Inv X aa (σ.set i (GE v)) H s'->(∃a,BO a s.heap s'.heap/\(a=X.env.locals\/X.env.cells.lookup x=GE a))->Q () s')(hf:X.fn x=true\/X.env.scope.names.lookup x=GE .local:=by first|exact .inl rfl|exact .inr rfl|assumption):AO M A (storeName X.env x u) Q E s:=by
 obtain⟨m,hn,hl⟩:=id I.loc;have RS:(X.env.scope.kind == .class||(X.env.scope.kind == .module&&X.env.locals != X.env.globals))=false:=by rw[I.ok.kind];rfl
 have y3:i<σ.length:=by rw[I.len];exact(AB.mp hi).1
 have cne:=I.cne;have im:∀{a:ID}{h':Heap},(∃o,s.heap.get? a=GE o/\H a=GT)->BO a s.heap h'->HOk X.prog X.w H h':=λ{a h'} ha hs b ob e=>by
  obtain⟨_,_,pV⟩:=ha;refine(I.hok b ob e).stay (λc w' hc q=>(hs.2 c ?_).trans q) (λ_ q=>q) λ_ _ q=>q;rintro rfl;rcases hc with rfl|hc
  ·rw[pV] at e;cases e
  rw[pV] at hc;cases hc
 rcases hx with hk|hk
 ·refine wpAny_storeName_local hk hn (λh' hn' hs=>?_) RS;obtain⟨oL,_,_,hoL,_⟩:=id hn;refine h _ ⟨I.ok,I.os,I.bare,⟨λb o e n hb hx=>?_,λb o e n hb hx=>?_,I.base.free,λb o e hx=>?_,I.base.tups,I.base.frzs,I.base.tbls⟩,⟨_,hn',λj y v' e1 e2 e3=>?_⟩,λy c e=>?_,I.free,I.freeC,λp hp=>?_,im ⟨oL,hoL,I.free⟩ hs,by simpa using I.len⟩ ⟨_,hs,.inl rfl⟩
  ·exact(hs.2 b (BS (Bi (Bz e) I.ok.above))).trans (I.base.keep b o e n hb hx)
  ·obtain⟨sl,e1⟩:=I.base.slot b o e n hb hx;exact⟨sl,(hs.2 b (BS (Bi (Bz e) I.ok.above))).trans e1⟩
  ·obtain⟨o',e1⟩:=I.base.there b o e hx;exact⟨o',(hs.2 b (BS (Bi (Bz e) I.ok.above))).trans e1⟩
  ·by_cases hj:j=i
   ·subst hj;rw[hi] at e1;cases e1;rw[FV y3] at e2;cases e2;exact⟨u,r,.inl ⟨hk,by simp⟩⟩
   rw[IQ (EC hj)] at e2;obtain⟨u',r',q⟩:=hl j y v' e1 e2 e3;refine⟨u',r',?_⟩;rcases q with⟨k,e⟩|⟨k,c,e,z⟩
   ·refine .inl ⟨k,?_⟩;have:y≠x:=λe=>hj (Ly hN e1 (e ▸ hi));simp[this,e]
   exact .inr ⟨k,c,e,z.sameBut hs (cne y c e)⟩
  ·obtain⟨w',z⟩:=I.cell y c e;exact⟨w',z.sameBut hs (cne y c e)⟩
  obtain⟨e,n,ne,nf,d⟩:=I.pin p hp;exact⟨(hs.2 p.1 ne).trans e,n,ne,nf,d⟩
 have RH:X.fn x=true:=by
  rcases hf with z|z
  ·exact z
  rw[z] at hk;cases hk
 obtain⟨c,hc⟩:=I.ok.has x (.inl hk);obtain⟨w',z⟩:=I.cell x c hc;refine wpAny_storeName_cell I.ok.kind hk hc z (λh' cp hs=>?_);obtain⟨oc,ML,QU⟩:=id z;refine h { s with heap:=h' } ⟨I.ok,I.os,I.bare,⟨λb o e n hb hx=>?_,λb o e n hb hx=>?_,I.base.free,λb o e hx=>?_,I.base.tups,I.base.frzs,I.base.tbls⟩,⟨m,hn.sameBut hs (EC (cne x c hc)),λj y v' e1 e2 e3=>?_⟩,λy c' e=>?_,I.free,I.freeC,λp hp=>?_,im ⟨oc,ML,I.freeC x c hc⟩ hs,by simpa using I.len⟩ ⟨c,hs,.inr hc⟩
 ·exact(hs.2 b (BS (Bi (Bz e) (I.ok.cab x c RH hc)))).trans (I.base.keep b o e n hb hx)
 ·obtain⟨sl,e1⟩:=I.base.slot b o e n hb hx;exact⟨sl,(hs.2 b (BS (Bi (Bz e) (I.ok.cab x c RH hc)))).trans e1⟩
 ·obtain⟨o',e1⟩:=I.base.there b o e hx;exact⟨o',(hs.2 b (BS (Bi (Bz e) (I.ok.cab x c RH hc)))).trans e1⟩
 ·by_cases hj:j=i
  ·subst hj;rw[hi] at e1;cases e1;rw[FV y3] at e2;cases e2;exact⟨u,r,.inr ⟨.inl hk,c,hc,cp⟩⟩
  rw[IQ (EC hj)] at e2;obtain⟨u',r',q⟩:=hl j y v' e1 e2 e3;refine⟨u',r',?_⟩;rcases q with q|⟨k,c',e,z'⟩
  ·exact .inl q
  refine .inr ⟨k,c',e,z'.sameBut hs ?_⟩;rintro rfl;exact hj (Ly hN e1 (I.ok.inj _ _ _ e hc ▸ hi))
 ·by_cases hcc:c'=c
  ·subst hcc;exact⟨_,cp⟩
  obtain⟨w2,z2⟩:=I.cell y c' e;exact⟨w2,z2.sameBut hs hcc⟩
 obtain⟨e,n,ne,nf,d⟩:=I.pin p hp;refine⟨(hs.2 p.1 ?_).trans e,n,ne,nf,d⟩;intro q;rw[q,ML] at e;have q':oc=p.2:=A0 e;exact d w' (by rw[<- q'];exact QU)
theorem rN{M:Model}{A:BE}{E:Ap->AD->Prop}{i:Nat}{x:Str}{v:V}{u:Ap}{Q:Unit->AD->Prop}(I:Inv X aa σ H s)(hN:X.N.Nodup)(hi:X.N[i]?=GE x)(hx:Loc X.env.scope x)(r:RelV v u)
  (h:∀s',Inv X aa (σ.set i (GE v)) H s'->Q () s')(hf:X.fn x=true\/X.env.scope.names.lookup x=GE .local:=by first|exact .inl rfl|exact .inr rfl|assumption):AO M A (storeName X.env x u) Q E s:=
 G4 I hN hi hx r (λs' I' _=>h s' I') hf
theorem Inv.call'{s':AD}{ch:List ID}(I:Inv X aa σ H s)(ho:s'.os=s.os)(u:Un (frs X.stack) ch H H' s.heap s'.heap)(hok:HOk X.prog X.w H' s'.heap)(hg:Iq s'.gens)
  (l9:∀b∈ch,(b∈X.ex\/X.s₀.heap.objs.size<=b)/\b≠X.env.locals/\(∀x c,X.env.cells.lookup x=GE c->c≠b)/\∀p∈X.pn++aa,p.1≠b):Inv X aa σ H' s':=by
 obtain⟨h',g',d',t',o'⟩:=s';have e:o'=s.os:=ho;subst e;exact I.call (g':=g') (t':=t') (d':=d') u hok hg l9
end
abbrev XK:=Ap->Option ID->Hp->Prop
abbrev St:=List (Option V)
abbrev VK:=V->Hp->Prop
abbrev TE:=St->Hp->VK->Prop
abbrev TT:=St->Hp->(Bool->Hp->Prop)->Prop
abbrev TA:=St->Hp->(List V->Hp->Prop)->Prop
structure Ends where
 nx:St->Hp->Prop
 rt:VK
 bk:St->Hp->Prop:=λ_ _=>False
 ct:St->Hp->Prop:=λ_ _=>False
abbrev TS:=Ends->St->Hp->Prop
def EP(X:Cx)(aa:List (ID×Obj))(σ:St)(Q:VK)(u:Ap)(s':AD):Prop:=∃v H',Inv X aa σ H' s'/\RelV v u/\Q v H'
def TP(X:Cx)(aa:List (ID×Obj))(σ:St)(Q:Bool->Hp->Prop)(b:Bool)(s':AD):Prop:=∃H',Inv X aa σ H' s'/\Q b H'
def AP(X:Cx)(aa:List (ID×Obj))(σ:St)(Q:List V->Hp->Prop)(us:List Ap)(s':AD):Prop:=∃vs H',Inv X aa σ H' s'/\Vals vs us/\Q vs H'
def SP(X:Cx)(aa:List (ID×Obj))(D:Ends)(f:Flow)(s':AD):Prop:=
 match f with
 | .next=>∃σ' H',Inv X aa σ' H' s'/\D.nx σ' H'
 | .brk=>∃σ' H',Inv X aa σ' H' s'/\D.bk σ' H'
 | .cont=>∃σ' H',Inv X aa σ' H' s'/\D.ct σ' H'
 | .ret u=>∃v σ' H',Inv X aa σ' H' s'/\RelV v u/\D.rt v H'
def PE(X:Cx)(e:Expr)(t:TE):Prop:=
 ∀(aa:List (ID×Obj)) (s:AD) (σ:St) (H:Hp) (Q:VK),Inv X aa σ H s->t σ H Q->AO (A3 X.prog X.w) X.A (eval e X.env) (EP X aa σ Q) X.xe s
def PT(X:Cx)(e:Expr)(t:TT):Prop:=
 ∀(aa:List (ID×Obj)) (s:AD) (σ:St) (H:Hp) (Q:Bool->Hp->Prop),Inv X aa σ H s->t σ H Q->AO (A3 X.prog X.w) X.A (isTrue e X.env (eval e X.env)) (TP X aa σ Q) X.xe s
def PW(X:Cx)(e:Expr)(t:TT):Prop:=
 ∀(bE:Sem Ap)(aa:List (ID×Obj)) (s:AD) (σ:St) (H:Hp) (Q:Bool->Hp->Prop),Inv X aa σ H s->t σ H Q->AO (A3 X.prog X.w) X.A (isTrue e X.env bE) (TP X aa σ Q) X.xe s
theorem PW.pt{X:Cx}{e:Expr}{t:TT}(h:PW X e t):PT X e t:=h _
def PA(X:Cx)(es:List Expr)(t:TA):Prop:=
 ∀(pos:Pos)(aa:List (ID×Obj)) (s:AD) (σ:St) (H:Hp) (Q:List V->Hp->Prop),Inv X aa σ H s->t σ H Q->AO (A3 X.prog X.w) X.A (spliced (CY pos (AM es X.env))) (AP X aa σ Q) X.xe s
def PS(X:Cx)(st:Stmt)(t:TS):Prop:=
 ∀(aa:List (ID×Obj)) (s:AD) (σ:St) (H:Hp) (D:Ends),Inv X aa σ H s->t D σ H->AO (A3 X.prog X.w) X.A (exec st X.env) (SP X aa D) X.xe s
def PSs(X:Cx)(st:List Stmt)(t:TS):Prop:=
 ∀(aa:List (ID×Obj)) (s:AD) (σ:St) (H:Hp) (D:Ends),Inv X aa σ H s->t D σ H->AO (A3 X.prog X.w) X.A (execs st X.env) (SP X aa D) X.xe s
theorem thn{α:Type}{t:Sem α}{Q Q':α->AD->Prop}{M:Model}{A:BE}{E:Ap->AD->Prop}{s:AD}(h:AO M A t Q E s)(hQ:∀a s,Q a s->Q' a s):AO M A t Q' E s:=Da h hQ λ_ _ x=>x
theorem thE{t:Sem Ap}{X:Cx}{aa:List (ID×Obj)}{σ:St}{Q:VK}{Q':Ap->AD->Prop}{M:Model}{A:BE}{E:Ap->AD->Prop}{s:AD}(h:AO M A t (EP X aa σ Q) E s)(hQ:∀u s x H,Inv X aa σ H s->RelV x u->Q x H->Q' u s):AO M A t Q' E s:=thn h λu s z=>by
 obtain⟨x,H,I,r,q⟩:=z;exact hQ u s x H I r q
theorem thA{t:Sem (List Ap)}{X:Cx}{aa:List (ID×Obj)}{σ:St}{Q:List V->Hp->Prop}{Q':List Ap->AD->Prop}{M:Model}{A:BE}{E:Ap->AD->Prop}{s:AD}(h:AO M A t (AP X aa σ Q) E s)(hQ:∀u s x H,Inv X aa σ H s->Vals x u->Q x H->Q' u s):AO M A t Q' E s:=thn h λu s z=>by
 obtain⟨x,H,I,r,q⟩:=z;exact hQ u s x H I r q
theorem thT{t:Sem Bool}{X:Cx}{aa:List (ID×Obj)}{σ:St}{Q:Bool->Hp->Prop}{Q':Bool->AD->Prop}{M:Model}{A:BE}{E:Ap->AD->Prop}{s:AD}(h:AO M A t (TP X aa σ Q) E s)(hQ:∀u s H,Inv X aa σ H s->Q u H->Q' u s):AO M A t Q' E s:=thn h λu s z=>by
 obtain⟨H,I,q⟩:=z;exact hQ u s H I q
section
variable {X:Cx}
def KD(i:Nat):TE:=λσ H Q=>∃v,σ[i]?=GE (GE v)/\Q v H
def tC(v:V):TE:=λ_ H Q=>Q v H
theorem Yd{i:Nat}{x:Str}{pos:Pos}(hN:X.N[i]?=GE x)(hv:Vis X.env.scope x)(hd:(x == ("__debug__" : Str))=false:=by decide)(hcd:(x == ("__classdict__" : Str))=false:=by decide):PE X (.Name x pos) (KD i):=by
 intro aa s σ H Q I h;obtain⟨v,e,h⟩:=h;obtain⟨m,hn,hl⟩:=I.loc;obtain⟨u,r,l⟩:=hl i x v hN e hv;have fin:EP X aa σ Q u s:=⟨v,H,I,r,h⟩;rcases l with⟨hk,hm⟩|⟨hk,c,hc,iA⟩
 ·exact wpAny_Name (wpAny_loadName_local I.ok.kind hk hn hm fin) hd
 rcases hk with hk|hk
 ·exact wpAny_Name (wpAny_loadName_cell I.ok.kind hk hc iA fin) hd
 exact wpAny_Name (wpAny_loadName_free I.ok.kind hk hc iA fin hcd) hd
theorem Yh{i j pos}:PE X (.Constant (.int i) j pos) (tC (.int i)):=λ_ _ _ H _ I h=>wpAny_Constant_int ⟨.int i,H,I.tok _,⟨_,rfl⟩,h⟩
def Gl(X:Cx)(x:Str):Prop:=X.env.kindOf x=GE .globalImplicit
theorem RX{E:Ap->AD->Prop}{aa:List (ID×Obj)}{s:AD}{σ:St}{H:Hp}{x:Str}{u:Ap}{pos:Pos}{Q:Ap->AD->Prop}(I:Inv X aa σ H s)(hg:Gl X x)(hm:X.mg x=GE u)(h:Q u s)
  (hd:(x == ("__debug__" : Str))=false:=by decide):AO (A3 X.prog X.w) X.A (eval (.Name x pos) X.env) Q E s:=
 Calls.Name_function_global I.ok.kind hg (Calls.loadGlobal_global (by rw[I.ok.glob];exact I.mod.glob.keeps I.bk) hm h) hd
theorem mF{E:Ap->AD->Prop}{aa:List (ID×Obj)}{s:AD}{σ:St}{H:Hp}{x:Str}{u:Ap}{pos:Pos}{Q:Ap->AD->Prop}(I:Inv X aa σ H s)(hg:Gl X x)(hm:X.mg x=GT)(hv:D1 x=GE u)(h:Q u s)
  (hn:x ≠ "__name__" := by decide)(hd:(x == ("__debug__" : Str))=false:=by decide):AO (A3 X.prog X.w) X.A (eval (.Name x pos) X.env) Q E s:=by
 obtain⟨mb,h1,h2⟩:=I.mod.blt;exact Calls.Name_function_global I.ok.kind hg (Calls.loadGlobal_builtin (by rw[I.ok.glob];exact I.mod.glob.keeps I.bk) hm (by rw[I.ok.blt];exact h1.keeps I.bk) ((h2 x hn).trans hv) h) hd
theorem abH{x:Str}{v:V}{u:Ap}{pos:Pos}(hg:Gl X x)(hm:X.mg x=GT)(hv:D1 x=GE u)(r:RelV v u)(hn:x ≠ "__name__" := by decide)(hd:(x == ("__debug__" : Str))=false:=by decide):PE X (.Name x pos) (tC v):=
 λ_ _ _ H _ I h=>mF I hg hm hv ⟨v,H,I,r,h⟩ hn hd
variable {a b:Expr}{ta tb:TE}{pos:Pos}
def PC(X:Cx)(op:IY)(a b:Expr)(t:TE):Prop:=
 ∀(aa:List (ID×Obj)) (s:AD) (σ:St) (H:Hp) (Q:VK),Inv X aa σ H s->t σ H Q ->
  AO (A3 X.prog X.w) X.A (eval a X.env) (λv s₁=>AO (A3 X.prog X.w) X.A (eval b X.env) (λu s₂=>AO (A3 X.prog X.w) X.A (B0 op v u) (EP X aa σ Q) X.xe s₂) X.xe s₁) X.xe s
def tB(t:TE):TT:=λσ H Q=>t σ H λx H1=>∃c,x=.bl c/\Q c H1
theorem adM{op:IY}{t:TE}(h:PC X op a b t)(h1:E7 op b=false:=by first|exact nobehind _ δ δ|rfl):PT X (.Compare a [op] [b] pos) (tB t):=by
 intro aa s σ H Q I hw;refine wpAny_isTrue_Compare1 (thn (h aa s σ H _ I hw) λv s1 h1=>thn h1 λu s2 h2=>thE h2 λc s3 x H1 I1 r1 q1=>?_) h1;obtain⟨d,rfl,q⟩:=q1;cases r1;exact C5 ⟨H1,I1,q⟩
variable {tA tB':TT}{rest:List Expr}
def aaE(t u:TT):TT:=λσ H Q=>t σ H λc H1=>if c=true then u σ H1 Q else Q false H1
def tOr(t u:TT):TT:=λσ H Q=>t σ H λc H1=>if c=true then Q true H1 else u σ H1 Q
def Wy(t:TT):TT:=λσ H Q=>t σ H λc H1=>Q (!c) H1
def WQ(ta tb:TE):TE:=λσ H Q=>ta σ H λx H1=>∃c,x=.bl c/\if c=true then tb σ H1 Q else Q (.bl false) H1
def Wx(ta:TE):TE:=λσ H Q=>ta σ H λx H1=>∃c,x=.bl c/\Q (.bl (!c)) H1
def tIf(t:TT)(ta tb:TE):TE:=λσ H Q=>t σ H λc H1=>if c=true then ta σ H1 Q else tb σ H1 Q
end
def SqL(K:AE)(H:Hp)(a:ID)(xs:List V):Prop:=
 Rd H a (.lst xs) \/
  ∃(o:Obj)(ae:Array Ap)(n:Nat),K.lookup a=GE o/\o.cls=.type "list" /\ o.dict=GT/\o.data=.seq ae n/\ae.size<=AV/\Vals xs ae.toList
def SqT(K:AE)(H:Hp)(a:ID)(xs:List V):Prop:=
 Rd H a (.tup xs) \/
  ∃(o:Obj)(ae:Array Ap)(n:Nat),K.lookup a=GE o/\o.cls=.type "tuple" /\ o.data=.seq ae n/\ae.size<=AV/\Vals xs ae.toList
def agj:Ap->Option V
 | .none=>GE .non
 | .bool b=>GE (.bl b)
 | .int i _=>GE (.int i)
 | .str x _=>GE (.str x)
 | .bytes b _=>GE (.byt b)
 | .float b _=>GE (.flt b)
 | .ref a=>GE (.ref a)
 | .type n=>GE (.ty n)
 | _=>GT
theorem RelV.abs{x:V}{u:Ap}(r:RelV x u):agj u=GE x:=by
 cases x with
 | non=>cases r;rfl
 | bl _=>cases r;rfl
 | int _=>obtain⟨t,rfl⟩:=r;rfl
 | str _=>obtain⟨t,rfl⟩:=r;rfl
 | byt _=>obtain⟨t,rfl⟩:=r;rfl
 | flt _=>obtain⟨t,rfl⟩:=r;rfl
 | ref _=>cases r;rfl
 | ty _=>cases r;rfl
theorem RelV.inj{x y:V}{u:Ap}(r:RelV x u)(q:RelV y u):x=y:=A0 (r.abs.symm.trans q.abs)
theorem Vals.inj:∀{xs ys:List V}{us:List Ap},Vals xs us->Vals ys us->xs=ys
 | _,_,_,.nil,.nil=>rfl
 | _,_,_,.cons r t,.cons r' t'=>by rw[r.inj r',Vals.inj t t']
section
variable {X:Cx}{aa:List (ID×Obj)}{σ:St}{H:Hp}{s:AD}{a:ID}{xs ys:List V}
theorem SqL.of{K:AE}(h:H a=GE (.lst xs)):SqL K H a xs:=.inl (.inl h)
theorem SqT.of{K:AE}(h:H a=GE (.tup xs)):SqT K H a xs:=.inl (.inl h)
theorem Inv.list(I:Inv X aa σ H s)(h:SqL X.K H a xs):∃ae:List Ap,Vals xs ae/\PlainL s.heap a ae.toArray/\xs.length<=AV:=by
 rcases h with h|⟨o,ae,n,hk,hc,hd,hs,hz,r⟩
 ·obtain⟨z,ae,n,r,e⟩:=h.ok I.hok;exact⟨ae,r,⟨_,n,e,rfl,rfl,rfl⟩,z⟩
 refine⟨ae.toList,r,⟨o,n,I.kIn a o hk,hc,hd,by simpa using hs⟩,?_⟩;have e:=r.length;simp only[D2] at e;omega
theorem Inv.tuple(I:Inv X aa σ H s)(h:SqT X.K H a xs):∃ae:List Ap,Vals xs ae/\IsTup s.heap a ae.toArray/\xs.length<=AV:=by
 rcases h with h|⟨o,ae,n,hk,hc,hs,hz,r⟩
 ·obtain⟨z,ae,r,p⟩:=h.ok I.hok;exact⟨ae,r,p,z⟩
 refine⟨ae.toList,r,⟨o,I.kIn a o hk,hc,n,by simpa using hs⟩,?_⟩;have e:=r.length;simp only[D2] at e;omega
theorem Inv.tU(I:Inv X aa σ H s)(h:SqL X.K H a xs)(h':SqL X.K H a ys):xs=ys:=by
 obtain⟨ae,r,⟨o,n,e,_,_,d⟩,_⟩:=I.list h;obtain⟨its',r',⟨o',n',e',_,_,d'⟩,_⟩:=I.list h';rw[e] at e';cases e';rw[d] at d';injection d' with d1 _;have:ae=its':=by simpa using congrArg Array.toList d1
 subst this;exact r.inj r'
theorem Inv.GR(I:Inv X aa σ H s)(h:SqT X.K H a xs)(h':SqT X.K H a ys):xs=ys:=by
 obtain⟨ae,r,⟨o,e,_,n,d⟩,_⟩:=I.tuple h;obtain⟨its',r',⟨o',e',_,n',d'⟩,_⟩:=I.tuple h';rw[e] at e';cases e';rw[d] at d';injection d' with d1 _;have:ae=its':=by simpa using congrArg Array.toList d1
 subst this;exact r.inj r'
end
abbrev Cx.wish(X:Cx)(E:Ap->AD->Prop):Cx:={ X with xe:=E }
abbrev Cx.nox(X:Cx):Cx:=X.wish λ_ _=>False
theorem Cx.Ok.wish{X:Cx}(ok:X.Ok)(E:Ap->AD->Prop):(X.wish E).Ok:=
 ⟨ok.mod,ok.kind,ok.glob,ok.blt,ok.above,ok.inj,ok.has,ok.cab,ok.hd,ok.frames,ok.stk,ok.exf,ok.bs,ok.bsz,ok.noex,ok.exfs,ok.yP,ok.frf⟩
theorem Cx.Ok.rJ{X:Cx}{E:Ap->AD->Prop}(ok:(X.wish E).Ok):X.Ok:=
 ⟨ok.mod,ok.kind,ok.glob,ok.blt,ok.above,ok.inj,ok.has,ok.cab,ok.hd,ok.frames,ok.stk,ok.exf,ok.bs,ok.bsz,ok.noex,ok.exfs,ok.yP,ok.frf⟩
section
variable {X:Cx}{aa:List (ID×Obj)}{σ:St}{H:Hp}{s:AD}{E:Ap->AD->Prop}
theorem Inv.wish(I:Inv X aa σ H s)(E:Ap->AD->Prop):Inv (X.wish E) aa σ H s:=⟨I.ok.wish E,I.os,I.bare,I.base,I.loc,I.cell,I.free,I.freeC,I.pin,I.hok,I.len⟩
theorem Inv.rJ(I:Inv (X.wish E) aa σ H s):Inv X aa σ H s:=⟨I.ok.rJ,I.os,I.bare,I.base,I.loc,I.cell,I.free,I.freeC,I.pin,I.hok,I.len⟩
theorem SP.rJ{D:Ends}{f:Flow}{s':AD}(h:SP (X.wish E) aa D f s'):SP X aa D f s':=by
 cases f with
 | next=>obtain⟨σ',H',I,q⟩:=h;exact⟨σ',H',I.rJ,q⟩
 | brk=>obtain⟨σ',H',I,q⟩:=h;exact⟨σ',H',I.rJ,q⟩
 | cont=>obtain⟨σ',H',I,q⟩:=h;exact⟨σ',H',I.rJ,q⟩
 | ret u=>obtain⟨v,σ',H',I,r,q⟩:=h;exact⟨v,σ',H',I.rJ,r,q⟩
theorem PSs.nox{st:List Stmt}{t:TS}(h:PSs X.nox st t):PSs X st t:=λaa s σ H D I hw=>
 Da (h aa s σ H D (I.wish _) hw) (λ_ _ q=>q.rJ) λ_ _ z=>Fh z
end
section
variable {X:Cx}{st:Stmt}{rest:List Stmt}{t u:TS}{e:Expr}{te:TE}{pos:Pos}
def KH:TS:=λD σ H=>D.nx σ H
def Tz(t u:TS):TS:=λD σ H=>t { D with nx:=u D } σ H
theorem X5(h1:PS X st t)(h2:PSs X rest u):PSs X (st::rest) (Tz t u):=by
 intro aa s σ H D I h;refine wpAny_execs_cons (thn (h1 aa s σ H { D with nx:=u D } I h) λf s1 q=>?_);cases f with
 | next=>
  obtain⟨σ',H',I',q⟩:=q;exact h2 aa s1 σ' H' D I' q
 | ret v=>exact q
 | brk=>exact q
 | cont=>exact q
theorem abh(h1:PS X st t):PSs X [st] t:=by
 intro aa s σ H D I h;refine wpAny_execs_cons (thn (h1 aa s σ H D I h) λf s1 q=>?_);cases f with
 | next=>exact IR q
 | ret v=>exact q
 | brk=>exact q
 | cont=>exact q
theorem Inv.quiet{aa:List (ID×Obj)}{σ:St}{H:Hp}{s:AD}(I:Inv X aa σ H s):interactive X.env=false:=by simp[interactive,I.ok.kind]
def WK(te:TE):TS:=λD σ H=>te σ H λ_ H1=>D.nx σ H1
def Wt(te:TE):TS:=λD σ H=>te σ H D.rt
def TQ(c:TT)(t u:TS):TS:=λD σ H=>c σ H λb H1=>if b=true then t D σ H1 else u D σ H1
end
abbrev TG:=V->St->Hp->(St->Hp->Prop)->Prop
abbrev TGs:=List V->St->Hp->(St->Hp->Prop)->Prop
def PG(X:Cx)(target:Expr)(t:TG):Prop:=
 ∀(aa:List (ID×Obj)) (s:AD) (σ:St) (H:Hp) (v:V) (u:Ap) (Q:St->Hp->Prop),Inv X aa σ H s->RelV v u->t v σ H Q ->
  AO (A3 X.prog X.w) X.A (Gc target X.env u) (λ_ s'=>∃σ' H',Inv X aa σ' H' s'/\Q σ' H') X.xe s
def PGs(X:Cx)(ts:List Expr)(t:TGs):Prop:=
 ∀(aa:List (ID×Obj)) (s:AD) (σ:St) (H:Hp) (vs:List V) (us:List Ap) (Q:St->Hp->Prop),Inv X aa σ H s->Vals vs us->t vs σ H Q ->
  AO (A3 X.prog X.w) X.A (assignInOrder ((DS ts X.env).map (·.2)) us) (λ_ s'=>∃σ' H',Inv X aa σ' H' s'/\Q σ' H') X.xe s
abbrev V7:=V->V->V->Hp->(Hp->Prop)->Prop
def V8(X:Cx)(t:V7):Prop:=
 ∀(aa:List (ID×Obj)) (s:AD) (σ:St) (H:Hp) (o i v:V) (ov iv u:Ap) (Q:Hp->Prop),Inv X aa σ H s->RelV o ov->RelV i iv->RelV v u->t o i v H Q ->
  AO (A3 X.prog X.w) X.A (setItem ov iv u) (λ_ s'=>∃H',Inv X aa σ H' s'/\Q H') X.xe s
abbrev TIp:=V->V->Hp->VK->Prop
def PIp(X:Cx)(op:Operator)(t:TIp):Prop:=
 ∀(aa:List (ID×Obj)) (s:AD) (σ:St) (H:Hp) (x y:V) (v u:Ap) (Q:VK),Inv X aa σ H s->RelV x v->RelV y u->t x y H Q ->
  AO (A3 X.prog X.w) X.A (inplaceOp op v u) (EP X aa σ Q) X.xe s
section
variable {X:Cx}{pos:Pos}
def qg(i:Nat):TG:=λv σ H Q=>Q (σ.set i (GE v)) H
theorem RM{i:Nat}{x:Str}(hN:X.N.Nodup)(hi:X.N[i]?=GE x)(hx:Loc X.env.scope x)(hf:X.fn x=true\/X.env.scope.names.lookup x=GE .local:=by first|exact .inl rfl|exact .inr rfl|assumption):PG X (.Name x pos) (qg i):=by
 intro aa s σ H v u Q I r h;exact wpAny_assign_Name (rN I hN hi hx r (λs' I'=>⟨_,H,I',h⟩) hf)
def aeN:TGs:=λvs σ H Q=>vs=[]/\Q σ H
def Zo(t:TG)(u:TGs):TGs:=λvs σ H Q=>∃v r,vs=v::r/\t v σ H λσ' H'=>u r σ' H' Q
def agc(K:AE)(n:Nat)(t:TGs):TG:=λv σ H Q=>∃a xs,v=.ref a/\SqT K H a xs/\xs.length=n/\t xs σ H Q
theorem adW{es:List Expr}{k:Nat}{t:TGs}{n:Nat}(hc:X.calm=true)(h:PGs X es t)
  (hn:(DS es X.env).length=n:=by rfl)(ar:(DS es X.env).findIdx? (·.1)=GT:=by rfl):PG X (.Tuple es k pos) (agc X.K n t):=by
 intro aa s σ H v u Q I r hw;obtain⟨a,xs,e1,hq,hl,hw⟩:=hw;subst e1;cases r;obtain⟨ae,rv,ht,hz⟩:=I.tuple hq;refine assign_Tuple_tuple (I.ok.hd hc) ht (by simp[hn,<- hl,rv.length]) ar λh' hx=>?_;have I1:Inv X aa σ H { s with heap:=h' }:=I.kept (t':=s.toks) λb o e=>hx b o (BS (Bz e)) e;exact h aa _ σ H xs _ Q I1 (by simpa using rv) hw
def Zk(to ti:TE)(t:V7):TG:=λv σ H Q=>to σ H λo H1=>ti σ H1 λi H2=>t o i v H2 λH3=>Q σ H3
theorem O3{o i:Expr}{to ti:TE}{t:V7}(ho:PE X o to)(hi:PE X i ti)(hs:V8 X t)
   (ha:∀v,Gc (.Subscript o i pos) X.env v=(do
   let ov <- EW [v] (eval o X.env)
   let iv <- EW [v,ov] (eval i X.env)
   Ix pos
   EW [v,ov,iv] (setItem ov iv v)
   release [v,ov,iv] []):=by intro _;rfl):PG X (.Subscript o i pos) (Zk to ti t):=by
 intro aa s σ H v u Q I r h;rw[ha];refine An (C1 (thE (ho aa s σ H _ I h) λov s1 x H1 I1 r1 q1=>?_));refine An (C1 (thE (hi aa s1 σ H1 _ I1 q1) λiv s2 y H2 I2 r2 q2=>?_));refine An (GG (An (C1 (thn (hs aa s2 σ H2 x y v ov iv u _ I2 r1 r2 r q2) λ_ s3 ⟨H3,I3,q3⟩=>?_))));exact wpAny_release ⟨σ,H3,I3,q3⟩
def Jl(te:TE)(g:TG):TS:=λD σ H=>te σ H λx H1=>g x σ H1 D.nx
theorem adN{i:Nat}{x:Str}{e:Expr}{te:TE}{aT:Pos}(hN:X.N.Nodup)(hi:X.N[i]?=GE x)(hx:Loc X.env.scope x)(he:PE X e te)(hs:HP e (GE (.Name x aT)) pos.line X.env=pure false:=by rfl)(hf:X.fn x=true\/X.env.scope.names.lookup x=GE .local:=by first|exact .inl rfl|exact .inr rfl|assumption) :
  PS X (.Assign [.Name x aT] e pos) (Jl te (qg i)):=by
 intro aa s σ H D I h;refine wpAny_Assign_Name (thE (he aa s σ H _ I h) λv s1 y H1 I1 r1 q1=>?_) hs;exact rN I1 hN hi hx r1 (λs2 I2=>⟨_,H1,I2,q1⟩) hf
def ade(i j:Nat)(ta:TA):TS:=λD σ H=>ta σ H λvs H1=>∃v w,vs=[v,w]/\D.nx ((σ.set i (GE v)).set j (GE w)) H1
def adh(i:Nat)(te:TE)(ti:TIp):TS:=λD σ H=>∃x,σ[i]?=GE (GE x)/\te σ H λy H1=>ti x y H1 λz H2=>D.nx (σ.set i (GE z)) H2
theorem adR{i:Nat}{x:Str}{e:Expr}{te:TE}{op:Operator}{ti:TIp}{aT:Pos}(hN:X.N.Nodup)(hi:X.N[i]?=GE x)(hx:Loc X.env.scope x)(he:PE X e te)(ho:PIp X op ti)(hf:X.fn x=true\/X.env.scope.names.lookup x=GE .local:=by first|exact .inl rfl|exact .inr rfl|assumption) :
  PS X (.AugAssign (.Name x aT) op e pos) (adh i te ti):=by
 intro aa s σ H D I h;obtain⟨v,e1,h⟩:=h;obtain⟨m,hn,hl⟩:=I.loc;have NG:Vis X.env.scope x:=by rcases hx with k|k;exact .inl k;exact .inr (.inl k)
 obtain⟨u,r,l⟩:=hl i x v hi e1 NG;refine wpAny_AugAssign_Name ?_;have go:AO (A3 X.prog X.w) X.A (eval e X.env) (λw s₂=>AO (A3 X.prog X.w) X.A (inplaceOp op u w) (λr s₃=>AO (A3 X.prog X.w) X.A (storeName X.env x r) (λ_=>SP X aa D .next) X.xe s₃) X.xe s₂) X.xe s:=by
  refine thE (he aa s σ H _ I h) λw s1 y H1 I1 r1 q1=>?_;refine thE (ho aa s1 σ H1 v y u w _ I1 r r1 q1) λz s2 zv H2 I2 r2 q2=>?_;exact rN I2 hN hi hx r2 (λs3 I3=>⟨_,H2,I3,q2⟩) hf
 rcases l with⟨hk,hm⟩|⟨hk,c,hc,iA⟩
 ·exact wpAny_loadName_local I.ok.kind hk hn hm go
 rcases hk with hk|hk
 ·exact wpAny_loadName_cell I.ok.kind hk hc iA go
 rcases hx with k|k
 ·have:X.env.scope.names.lookup x=GE .free:=hk;rw[k] at this;cases this
 have:X.env.scope.names.lookup x=GE .free:=hk;rw[k] at this;cases this
def ipI(f:Int->Int->Int):TIp:=λx y H Q=>∃i j,x=.int i/\y=.int j/\Q (.int (f i j)) H
theorem J4:PIp X .Add (ipI λi j=>i+j):=by
 intro aa s σ H x y v u Q I r1 r2 h;obtain⟨i,j,e1,e2,q⟩:=h;subst e1;subst e2;obtain⟨t,rfl⟩:=r1;obtain⟨t',rfl⟩:=r2;exact iadd_int ⟨.int _,H,I.tok _,⟨_,rfl⟩,q⟩
def Cz(c:TT)(tb:TS):TS:=λD σ H=>∃W:Nat->St->Hp->Prop,(∃m,W m σ H)/\∀m σ H,W m σ H ->
 c σ H λb H1=>if b=true then ∃N:St->Hp->Prop,(∀σ' H',N σ' H'->∃m',m'<m/\W m' σ' H')/\tb { D with nx:=N,ct:=N,bk:=D.nx } σ H1 else D.nx σ H1
end
structure It where
 go:Nat->Hp->Prop
 yld:Nat->Hp->V->Hp->Prop
 stop:Nat->Hp->Prop
def BV(X:Cx)(aa:List (ID×Obj))(H:Hp)(b:ID):Prop:=
 H b=GT/\b≠X.env.locals/\b∉X.fs/\(b∈X.ex\/X.s₀.heap.objs.size<=b)/\(∀x c,X.env.cells.lookup x=GE c->c≠b)/\∀p∈X.pn++aa,p.1≠b
theorem Inv.MN{X:Cx}{aa:List (ID×Obj)}{σ:St}{H H':Hp}{s:AD}{b:ID}(I:Inv X aa σ H s)(hb:s.heap.objs.size<=b)(hn:H' b=GT):BV X aa H' b:=by
 refine⟨hn,IZ (Bi I.lt hb),I.aem hb,.inr (Cn I.sz hb),λx c e z=>?_,λp hp z=>?_⟩
 ·obtain⟨v,q⟩:=I.cell x c e;exact absurd (Bi q.lt (by rw[z];exact hb)) (FK _)
 exact absurd (Bi (Bz (I.pin p hp).1) (by rw[z];exact hb)) (FK _)
structure Turn(P:A6)(w:BI)(K:AE)(tg:Expr)(J:It)(fp:List ID)(it:ID)(tn:Nat->Heap->Prop):Prop where
 mem:it∈fp
 obj:∀i h,tn i h->∀b∈fp,∃o,h.get? b=GE o/\∀v,o.data≠.cell v
 keep:∀i h h',tn i h->(∀b∈fp,∀o,h.get? b=GE o->h'.get? b=GE o)->tn i h'
 item:∀(X:Cx),X.prog=P->X.w=w->X.K=K->X.calm=true->∀(i:Nat)(aa:List (ID×Obj)) (s:AD) (σ:St) (H:Hp) (E:Ap->AD->Prop),Inv X aa σ H s->(∀b∈fp,BV X aa H b)->tn i s.heap->J.go i H ->
  AO (A3 P w) X.A (Go (.ref it)) (λr s1=>∃u,r=GE u /\
   AO (A3 P w) X.A (IT tg (.ref it) u) (λ_ s2=>∃x H',Inv X aa σ H' s2/\RelV x u/\J.yld i H x H'/\tn (i+1) s2.heap/\∀b∈fp,H' b=GT) E s1) E s
 done:∀(X:Cx),X.prog=P->X.w=w->X.K=K->X.calm=true->∀(i:Nat)(aa:List (ID×Obj)) (s:AD) (σ:St) (H:Hp) (E:Ap->AD->Prop),Inv X aa σ H s->(∀b∈fp,BV X aa H b)->tn i s.heap->J.stop i H ->
  AO (A3 P w) X.A (Go (.ref it)) (λr s1=>r=GT/\Inv X aa σ H s1) E s
 self:∀(A:BE)(i:Nat)(s:AD)(Q:Ap->AD->Prop)(E:Ap->AD->Prop),tn i s.heap->Q (.ref it) s->AO (A3 P w) A (pyIter (.ref it)) Q E s
abbrev TI:=St->Hp->(It->Hp->Prop)->Prop
def PIE(X:Cx)(aa:List (ID×Obj))(σ:St)(tg:Expr)(R:It->Hp->Prop)(My:Ap)(s2:AD):Prop:=
 ∃(it:ID)(fp:List ID)(tn:Nat->Heap->Prop)(J:It)(H':Hp),My=.ref it/\Inv X aa σ H' s2/\Turn X.prog X.w X.K tg J fp it tn/\tn 0 s2.heap/\(∀b∈fp,BV X aa H' b)/\R J H'
def PI(X:Cx)(tg iter:Expr)(wi:TI):Prop:=
 ∀(aa:List (ID×Obj)) (s:AD) (σ:St) (H:Hp) (R:It->Hp->Prop),Inv X aa σ H s->wi σ H R ->
  AO (A3 X.prog X.w) X.A (eval iter X.env) (λv s1=>AO (A3 X.prog X.w) X.A (pyIter v) (PIE X aa σ tg R) X.xe s1) X.xe s
theorem Sd{M:Model}{A:BE}{E:Ap->AD->Prop}{s:AD}{tg:Expr}{it:ID}{u:Ap}{o:Obj}{n:String}{vs:Array Ap}{Q:Unit->AD->Prop}(ho:s.heap.get? it=GE o)(hc:o.cls=.type n)(hd:o.data=.fields vs)
  (hn:["enumerate","zip","dict_itemiterator","dict_reverseitemiterator","odict_iterator","itertools.zip_longest","itertools.pairwise"].contains n=false)(hQ:Q () s):AO M A (IT tg (.ref it) u) Q E s:=by
 unfold IT;cases tg <;> first
  | exact AF hQ
  | (cases u <;> first
    | exact AF hQ
    | (refine An (wpAny_load ho ?_)
       rw[hc,hd];show AO M A (if (["enumerate","zip","dict_itemiterator","dict_reverseitemiterator","odict_iterator","itertools.zip_longest","itertools.pairwise"].contains n&&vs[0]? == GE (ET _))=true then _ else _) Q E s;rw[if_neg (by intro h;rw[hn,FX] at h;cases h)];exact AF hQ))
def Itl(K:AE)(a:ID):It:=
 ⟨λi H=>∃xs x,SqL K H a xs/\xs[i]?=GE x,λi H x H'=>H'=H/\∀xs,SqL K H a xs->xs[i]?=GE x,λi H=>∃xs,SqL K H a xs/\xs.length<=i⟩
def Itt(K:AE)(a:ID):It:=
 ⟨λi H=>∃xs x,SqT K H a xs/\xs[i]?=GE x,λi H x H'=>H'=H/\∀xs,SqT K H a xs->xs[i]?=GE x,λi H=>∃xs,SqT K H a xs/\xs.length<=i⟩
def Itr(lo:Int)(n:Nat):It:=⟨λi _=>i<n,λi H x H'=>H'=H/\x=.int (lo+i),λi _=>n<=i⟩
theorem Ti{P:A6}{w:BI}{K:AE}{tg:Expr}(a it:ID):Turn P w K tg (Itl K a) [it] it (λi h=>h.IsListIter it a i) where
 mem:=by simp
 obj:=λi h st b hb=>by
  have e:b=it:=by simpa using hb
  subst e;obtain⟨o,e,c,d⟩:=st;exact⟨o,e,λv z=>by rw[d] at z;cases z⟩
 keep:=λi h h' st k=>st.at λo e=>k it ζ o e
 item:=by
  intro X hP hw hK hc i aa s σ H E I hf st hg;subst hP hw hK;obtain⟨xs,x,hq,hx⟩:=hg;obtain⟨ae,rv,p,hz⟩:=I.list hq;obtain⟨u,hu,ru⟩:=rv.get hx;obtain⟨f0,f1,f2,f3,f4,f5⟩:=hf it ζ;refine wpAny_pyNext_list_item st p.isList (x:=u) (by simpa using hu) λh' dt sb=>?_;have I1:Inv X aa σ H { s with heap:=h' }:=I.turned (t':=s.toks) (λb o hb e=>(sb.2 b hb).trans e) f0 f1 f3 f4 f5;obtain⟨o,e,c,d⟩:=id dt;exact⟨u,rfl,Sd (s:={ s with heap:=h' }) e c d δ ⟨x,H,I1,ru,⟨rfl,λys hy=>by rw[I.tU hy hq];exact hx⟩,dt,λb hb=>(hf b hb).1⟩⟩
 done:=by
  intro X hP hw hK hc i aa s σ H E I hf st hg;subst hP hw hK;obtain⟨xs,hq,hx⟩:=hg;obtain⟨ae,rv,p,hz⟩:=I.list hq;obtain⟨f0,f1,f2,f3,f4,f5⟩:=hf it ζ;have hl:=rv.length;exact wpAny_pyNext_list_end (I.ok.hd hc) st p.isList (by simp;omega) λh' eb=>⟨rfl,I.turned (t':=s.toks) (λb o hb e=>eb b o hb e) f0 f1 f3 f4 f5⟩
 self:=λ_ _ _ _ _ st h=>wpAny_pyIter_listiter st h
theorem Ob{P:A6}{w:BI}{K:AE}{tg:Expr}(a it:ID):Turn P w K tg (Itt K a) [it] it (λi h=>h.IsTupleIter it a i) where
 mem:=by simp
 obj:=λi h st b hb=>by
  have e:b=it:=by simpa using hb
  subst e;obtain⟨o,e,c,d⟩:=st;exact⟨o,e,λv z=>by rw[d] at z;cases z⟩
 keep:=λi h h' st k=>st.at λo e=>k it ζ o e
 item:=by
  intro X hP hw hK hc i aa s σ H E I hf st hg;subst hP hw hK;obtain⟨xs,x,hq,hx⟩:=hg;obtain⟨ae,rv,p,hz⟩:=I.tuple hq;obtain⟨u,hu,ru⟩:=rv.get hx;obtain⟨f0,f1,f2,f3,f4,f5⟩:=hf it ζ;refine wpAny_pyNext_tuple_item st (show s.heap.IsTuple a ae.toArray from p) (x:=u) (by simpa using hu) λh' dt sb=>?_;have I1:Inv X aa σ H { s with heap:=h' }:=I.turned (t':=s.toks) (λb o hb e=>(sb.2 b hb).trans e) f0 f1 f3 f4 f5;obtain⟨o,e,c,d⟩:=id dt;exact⟨u,rfl,Sd (s:={ s with heap:=h' }) e c d δ ⟨x,H,I1,ru,⟨rfl,λys hy=>by rw[I.GR hy hq];exact hx⟩,dt,λb hb=>(hf b hb).1⟩⟩
 done:=by
  intro X hP hw hK hc i aa s σ H E I hf st hg;subst hP hw hK;obtain⟨xs,hq,hx⟩:=hg;obtain⟨ae,rv,p,hz⟩:=I.tuple hq;obtain⟨f0,f1,f2,f3,f4,f5⟩:=hf it ζ;have hl:=rv.length;exact wpAny_pyNext_tuple_end (I.ok.hd hc) st (show s.heap.IsTuple a ae.toArray from p) (by simp;omega) λh' eb=>⟨rfl,I.turned (t':=s.toks) (λb o hb e=>eb b o hb e) f0 f1 f3 f4 f5⟩
 self:=λ_ _ _ _ _ st h=>wpAny_pyIter_tupleiter st h
theorem Oc{P:A6}{w:BI}{K:AE}{tg:Expr}(it:ID)(lo:Int)(n:Nat):Turn P w K tg (Itr lo n) [it] it (λi h=>IsRangeIter h it (lo+(i:Nat)*1) ((n:Int)-(i:Nat)) 1) where
 mem:=by simp
 obj:=λi h st b hb=>by
  have e:b=it:=by simpa using hb
  subst e;exact⟨_,st,λv z=>by
   have z':EG _=Data.cell v:=z;cases z'⟩
 keep:=λi h h' st k=>k it ζ _ st
 item:=by
  intro X hP hw hK hc i aa s σ H E I hf st hg;subst hP hw hK;obtain⟨f0,f1,f2,f3,f4,f5⟩:=hf it ζ;have W:=Walks.range (prog:=X.prog) (w:=X.w) (I.ok.hd hc) it lo 1 n;refine W.item i s _ _ hg st λv h' tk hv dt kk=>?_;obtain⟨t,rfl⟩:=hv;have I1:Inv X aa σ H { s with heap:=h',toks:=tk }:=I.turned (λb o hb e=>kk b o (by simpa using hb) e) f0 f1 f3 f4 f5;refine⟨_,rfl,Sd (s:={ s with heap:=h',toks:=tk }) (n := "range_iterator") dt Z Z δ ⟨.int (lo+i),H,I1,⟨t,?_⟩,⟨rfl,rfl⟩,dt,λb hb=>(hf b hb).1⟩⟩;rw[Int.mul_one]
 done:=by
  intro X hP hw hK hc i aa s σ H E I hf st hg;subst hP hw hK;obtain⟨f0,f1,f2,f3,f4,f5⟩:=hf it ζ;exact wpAny_pyNext_range_end (I.ok.hd hc) st (by have:n<=i:=hg;omega) λh' eb=>⟨rfl,I.turned (t':=s.toks) (λb o hb e=>eb b o hb e) f0 f1 f3 f4 f5⟩
 self:=λ_ _ _ _ _ st h=>wpAny_pyIter_rangeiter st h
section
variable {X:Cx}{tg:Expr}
theorem Lk{aa:List (ID×Obj)}{σ:St}{H:Hp}{s:AD}{R:It->Hp->Prop}{E:Ap->AD->Prop}{lo hi:Int}{t u v:Tok}{tk:Nat}(I:Inv X aa σ H s)(h1:-(2^62)<=lo)(h2:lo<2^62)(h3:-(2^62)<=hi)(h4:hi<2^62)
  (q:R (Itr lo (hi-lo).toNat) H):AO (A3 X.prog X.w) X.A (pyIter (.ref s.heap.objs.size)) (PIE X aa σ tg R) E { s with heap:=s.heap.push { cls:=.type "range",data:=.fields #[.int lo t,.int hi u,.int 1 v] },toks:=tk }:=by
 refine wpAny_pyIter_range (IsRange.new ..) (small_one h1 h2 h3 h4) ?_;have I1:Inv X aa σ H { s with heap:=s.heap.push { cls:=.type "range",data:=.fields #[.int lo t,.int hi u,.int 1 v] },toks:=tk }:=I.kept λb o e=>AH _ e;refine⟨(s.heap.push { cls:=.type "range",data:=.fields #[.int lo t,.int hi u,.int 1 v] }).objs.size,[(s.heap.push { cls:=.type "range",data:=.fields #[.int lo t,.int hi u,.int 1 v] }).objs.size],_,_,H,rfl,
  I1.kept (t':=tk) λb o e=>AH _ e,Oc _ lo (hi-lo).toNat,?_,λb hb=>?_,q⟩
 ·have e1:lo+((0:Nat):Int)*1=lo:=by simp
  have e2:(((hi-lo).toNat:Nat):Int)-((0:Nat):Int)=AX.Range.rangeSize lo hi 1:=by rw[rangeSize_one];split <;> omega
  show IsRangeIter _ _ (lo+((0:Nat):Int)*1) ((((hi-lo).toNat:Nat):Int)-((0:Nat):Int)) 1;rw[e1,e2];exact A7 _ rfl
 have e:b=(s.heap.push { cls:=.type "range",data:=.fields #[.int lo t,.int hi u,.int 1 v] }).objs.size:=by simpa using hb
 subst e;exact I1.MN (AW _) (I1.hok.fresh (AW _))
def Ih(ta:TA):TI:=λσ H R=>ta σ H λvs H1=>∃j:Int,vs=[.int j]/\-(2^62)<=j/\j<2^62/\R (Itr 0 j.toNat) H1
def Zi(ta:TA):TI:=λσ H R=>ta σ H λvs H1=>∃i j:Int,vs=[.int i,.int j]/\(-(2^62)<=i/\i<2^62/\-(2^62)<=j/\j<2^62)/\R (Itr i (j-i).toNat) H1
def adf(wi:TI)(g:TG)(tb:TS):TS:=λD σ H=>wi σ H λJ H1=>∃W:Nat->Nat->St->Hp->Prop,(∃m,W 0 m σ H1)/\∀i m σ H,W i m σ H ->
 (J.stop i H/\D.nx σ H)\/(J.go i H/\∃N:St->Hp->Prop,(∀σ' H',N σ' H'->∃m',m'<m/\W (i+1) m' σ' H')/\∀x H',J.yld i H x H'->g x σ H' λσ2 H2=>tb { D with nx:=N,ct:=N,bk:=D.nx } σ2 H2)
def pD(fp:List ID)(h:Heap):List (ID×Obj):=fp.filterMap λb=>(h.get? b).map λo=>(b,o)
theorem qR{fp:List ID}{h:Heap}{b:ID}{o:Obj}(hb:b∈fp)(e:h.get? b=GE o):(b,o)∈pD fp h:=List.mem_filterMap.mpr ⟨b,hb,by rw[e];rfl⟩
theorem zA{fp:List ID}{h:Heap}{p:ID×Obj}(hp:p∈pD fp h):p.1∈fp/\h.get? p.1=GE p.2:=by
 obtain⟨b,hb,e⟩:=List.mem_filterMap.mp hp;cases q:h.get? b with
 | none=>rw[q] at e;cases e
 | some o=>
  rw[q] at e;have e':(b,o)=p:=A0 e;subst e';exact⟨hb,q⟩
theorem Inv.pinned{aa:List (ID×Obj)}{σ:St}{H:Hp}{s:AD}{fp:List ID}(I:Inv X aa σ H s)(hf:∀b∈fp,BV X aa H b)(ho:∀b∈fp,∃o,s.heap.get? b=GE o/\∀v,o.data≠.cell v):Inv X (aa++pD fp s.heap) σ H s:=
 I.uM λp hp=>(BA.mp hp).elim (λz=>I.pin p (A4 _ z)) λz=>by
  obtain⟨hb,e⟩:=zA z;obtain⟨f0,f1,f2,_⟩:=hf p.1 hb;obtain⟨o,e',d⟩:=ho p.1 hb;rw[e] at e';cases e';exact⟨e,f0,f1,f2,d⟩
theorem Inv.rK{aa pl:List (ID×Obj)}{σ:St}{H:Hp}{s:AD}(I:Inv X (aa++pl) σ H s):Inv X aa σ H s:=I.uM λp hp=>I.pin p (A4 _ (BN _ hp))
theorem adQ{iter:Expr}{body:List Stmt}{wi:TI}{g:TG}{tb:TS}{pos:Pos}(hp:PassesOwn (A3 X.prog X.w) X.A X.env X.xe)(hc:X.calm=true)(hi:PI X tg iter wi)(hg:PG X tg g)(hb:PSs X body tb)
  (hs:∀x,D5 iter X.env x=pure x:=by intro _;rfl):PS X (.For tg iter body [] pos) (adf wi g tb):=by
 intro aa s σ H D I h;refine wpAny_For (thn (hi aa s σ H _ I h) λv s1 h1=>thn h1 λMy s2 h2=>?_) hs;obtain⟨it,fp,tn,J,H2,e,I2,T,gt,f2,W,⟨m0,w0⟩,ff⟩:=h2;subst e
 -- what stays true of the iterator's objects through the loop
 have ef:∀{H':Hp},(∀b∈fp,H' b=GT)->∀b∈fp,BV X aa H' b:=λhn b hb=>⟨hn b hb,(f2 b hb).2⟩;refine codeAny_forLoop_any (λn s'=>∃i σ' H',Inv X aa σ' H' s'/\tn i s'.heap/\(∀b∈fp,H' b=GT)/\W i n σ' H') ?_ m0 ⟨0,σ,H2,I2,gt,λb hb=>(f2 b hb).1,w0⟩;rintro n s3 ⟨i,σ3,H3,I3,UF,Xs,w3⟩;rcases ff i n σ3 H3 w3 with⟨stop,qn⟩|⟨go,N,hN,step⟩
 ·refine EZ hp (thn (T.done X Z Z Z hc i aa s3 σ3 H3 X.xe I3 (ef Xs) UF stop) λr s4 ⟨hr,I4⟩=>?_);subst hr;exact IR ⟨σ3,H3,I4,qn⟩
 refine EZ hp (thn (T.item X Z Z Z hc i aa s3 σ3 H3 X.xe I3 (ef Xs) UF go) λr s4 ⟨u,hr,h4⟩=>?_);subst hr;refine EZ hp (thn h4 λ_ s5 ⟨x,H5,I5,r5,y5,mN,uC⟩=>?_);have I5':=I5.pinned (ef uC) (T.obj _ _ mN);refine EZ hp (thn (hg _ s5 σ3 H5 x u _ I5' r5 (step x H5 y5)) λ_ s6 ⟨σ6,H6,I6,q6⟩=>?_);refine EZ hp (thn (hb _ s6 σ6 H6 _ I6 q6) λf s7 q7=>?_);have again:∀{σ7:St}{H7:Hp},Inv X (aa++pD fp s5.heap) σ7 H7 s7->N σ7 H7->∃m,m<n/\∃i σ' H',Inv X aa σ' H' s7/\tn i s7.heap/\(∀b∈fp,H' b=GT)/\W i m σ' H':=λ{σ7 H7} I7 n7=>by
  obtain⟨m',hm,w7⟩:=hN σ7 H7 n7;refine⟨m',hm,i+1,σ7,H7,I7.rK,T.keep _ _ _ mN λb hb o e=>(I7.pin (b,o) (A4 _ (A4 _ (qR hb e)))).1,λb hb=>?_,w7⟩;obtain⟨o,e,d⟩:=T.obj _ _ mN b hb;exact(I7.pin (b,o) (A4 _ (A4 _ (qR hb e)))).2.1
 cases f with
 | next=>obtain⟨σ7,H7,I7,n7⟩:=q7;exact again I7 n7
 | cont=>obtain⟨σ7,H7,I7,n7⟩:=q7;exact again I7 n7
 | brk=>obtain⟨σ7,H7,I7,q7⟩:=q7;exact⟨σ7,H7,I7.rK,q7⟩
 | ret v=>obtain⟨x7,σ7,H7,I7,r7,q7⟩:=q7;exact⟨x7,σ7,H7,I7.rK,r7,q7⟩
end
theorem Zv{K:AE}{a:ID}{xs:List V}{g:TG}{tb:TS}{D:Ends}{σ:St}{H:Hp}(Pv:Nat->St->Hp->Prop)(h0:Pv 0 σ H)(hl:∀i σ H,i<=xs.length->Pv i σ H->SqL K H a xs)
  (hs:∀i x σ H,xs[i]?=GE x->Pv i σ H->g x σ H λσ2 H2=>tb { D with nx:=Pv (i+1),ct:=Pv (i+1),bk:=D.nx } σ2 H2)(hd:∀σ H,Pv xs.length σ H->D.nx σ H) :
  ∃W:Nat->Nat->St->Hp->Prop,(∃m,W 0 m σ H)/\∀i m σ H,W i m σ H ->
   ((Itl K a).stop i H/\D.nx σ H)\/((Itl K a).go i H/\∃N:St->Hp->Prop,(∀σ' H',N σ' H'->∃m',m'<m/\W (i+1) m' σ' H')/\∀x H',(Itl K a).yld i H x H'->g x σ H' λσ2 H2=>tb { D with nx:=N,ct:=N,bk:=D.nx } σ2 H2):=by
 refine⟨λi m σ H=>m=xs.length-i/\i<=xs.length/\Pv i σ H,⟨xs.length,by simp,D6 _,h0⟩,?_⟩;rintro i m σ H ⟨rfl,hi,p⟩;have q:=hl i σ H hi p;by_cases ba:i<xs.length
 ·refine .inr ⟨⟨xs,xs[i],q,by simp[ba]⟩,Pv (i+1),λσ' H' p'=>⟨xs.length-(i+1),ω,rfl,ba,p'⟩,λx H' y=>?_⟩;obtain⟨e,y⟩:=y;subst e;exact hs i x σ _ (y xs q) p
 have e:i=xs.length:=ω;subst e;exact .inl ⟨⟨xs,q,AW _⟩,hd σ H p⟩
theorem Vo{lo:Int}{n:Nat}{g:TG}{tb:TS}{D:Ends}{σ:St}{H:Hp}(Pv:Nat->St->Hp->Prop)(h0:Pv 0 σ H)
  (hs:∀i σ H,i<n->Pv i σ H->g (.int (lo+i)) σ H λσ2 H2=>tb { D with nx:=Pv (i+1),ct:=Pv (i+1),bk:=D.nx } σ2 H2)(hd:∀σ H,Pv n σ H->D.nx σ H) :
  ∃W:Nat->Nat->St->Hp->Prop,(∃m,W 0 m σ H)/\∀i m σ H,W i m σ H ->
   ((Itr lo n).stop i H/\D.nx σ H)\/((Itr lo n).go i H/\∃N:St->Hp->Prop,(∀σ' H',N σ' H'->∃m',m'<m/\W (i+1) m' σ' H')/\∀x H',(Itr lo n).yld i H x H'->g x σ H' λσ2 H2=>tb { D with nx:=N,ct:=N,bk:=D.nx } σ2 H2):=by
 refine⟨λi m σ H=>m=n-i/\i<=n/\Pv i σ H,⟨n,by simp,D6 _,h0⟩,?_⟩;rintro i m σ H ⟨rfl,hi,p⟩;by_cases ba:i<n
 ·refine .inr ⟨ba,Pv (i+1),λσ' H' p'=>⟨n-(i+1),ω,rfl,ba,p'⟩,λx H' y=>?_⟩;obtain⟨e,y⟩:=y;subst e y;exact hs i σ _ ba p
 have e:i=n:=ω;subst e;exact .inl ⟨AW _,hd σ H p⟩
abbrev R2:=V->V->Hp->VK->Prop
def OpR(X:Cx)(f:Ap->Ap->Sem Ap)(r:R2):Prop:=
 ∀(aa:List (ID×Obj)) (s:AD) (σ:St) (H:Hp) (x y:V) (v u:Ap) (Q:VK),Inv X aa σ H s->RelV x v->RelV y u->r x y H Q ->
  AO (A3 X.prog X.w) X.A (f v u) (EP X aa σ Q) X.xe s
def UnR(X:Cx)(f:Ap->Sem Ap)(r:V->Hp->VK->Prop):Prop:=
 ∀(aa:List (ID×Obj)) (s:AD) (σ:St) (H:Hp) (x:V) (v:Ap) (Q:VK),Inv X aa σ H s->RelV x v->r x H Q ->
  AO (A3 X.prog X.w) X.A (f v) (EP X aa σ Q) X.xe s
def eY(X:Cx)(f:Ap)(r:List V->Hp->VK->Prop):Prop:=
 ∀(aa:List (ID×Obj)) (s:AD) (σ:St) (H:Hp) (xs:List V) (us:List Ap) (Q:VK),Inv X aa σ H s->Vals xs us->r xs H Q ->
  AO (A3 X.prog X.w) X.A (call f us) (EP X aa σ Q) X.xe s
def agl(X:Cx)(r:V->Hp->(Bool->Hp->Prop)->Prop):Prop:=
 ∀(aa:List (ID×Obj)) (s:AD) (σ:St) (H:Hp) (x:V) (v:Ap) (Q:Bool->Hp->Prop),Inv X aa σ H s->RelV x v->r x H Q ->
  AO (A3 X.prog X.w) X.A (truthy v) (TP X aa σ Q) X.xe s
def tOp(r:R2)(ta tb:TE):TE:=λσ H Q=>ta σ H λx H1=>tb σ H1 λy H2=>r x y H2 Q
def tUn(r:V->Hp->VK->Prop)(ta:TE):TE:=λσ H Q=>ta σ H λx H1=>r x H1 Q
def rI(C:Int->Int->Prop)(g:Int->Int->V):R2:=λx y H Q=>∃i j,x=.int i/\y=.int j/\C i j/\Q (g i j) H
def rI0(g:Int->Int->V):R2:=λx y H Q=>∃i j,x=.int i/\y=.int j/\Q (g i j) H
def rU(g:Int->V):V->Hp->VK->Prop:=λx H Q=>∃i,x=.int i/\Q (g i) H
section
variable {X:Cx}{a b c:Expr}{ta tb tc:TE}{pos:Pos}
theorem aeZ(ha:PE X a ta)(hb:PE X b tb){aa:List (ID×Obj)}{s:AD}{σ:St}{H:Hp}{R:V->V->Hp->Prop}(I:Inv X aa σ H s)
  (h:ta σ H λx H1=>tb σ H1 λy H2=>R x y H2){Q:Ap->AD->Prop}{f:Ap->Ap->Sem Ap}
  (hf:∀v u s2 x y H2,Inv X aa σ H2 s2->RelV x v->RelV y u->R x y H2->AO (A3 X.prog X.w) X.A (f v u) Q X.xe s2) :
  AO (A3 X.prog X.w) X.A (eval a X.env) (λv s₁=>AO (A3 X.prog X.w) X.A (eval b X.env) (λu s₂=>AO (A3 X.prog X.w) X.A (f v u) Q X.xe s₂) X.xe s₁) X.xe s:=by
 refine thE (ha aa s σ H _ I h) λv s1 x H1 I1 r1 q1=>?_;refine thE (hb aa s1 σ H1 _ I1 q1) λu s2 y H2 I2 r2 q2=>?_;exact hf v u s2 x y H2 I2 r1 r2 q2
theorem acY{op:UnaryOp}{r:V->Hp->VK->Prop}(ho:UnR X (unaryOp op) r)(ha:PE X a ta):PE X (.UnaryOp op a pos) (tUn r ta):=by
 intro aa s σ H Q I h;exact UnaryOp_ (thE (ha aa s σ H _ I h) λv s1 x H1 I1 r1 q1=>ho aa s1 σ H1 x v Q I1 r1 q1)
theorem opI{f:Ap->Ap->Sem Ap}{C:Int->Int->Prop}{g:Int->Int->Int}
  (rule:∀(i j:Int)(t u:Tok)(s:AD)(Q:Ap->AD->Prop)(E:Ap->AD->Prop),C i j->Q (.int (g i j) s.toks) { s with toks:=s.toks+1 }->AO (A3 X.prog X.w) X.A (f (.int i t) (.int j u)) Q E s) :
  OpR X f (rI C λi j=>.int (g i j)):=by
 intro aa s σ H x y v u Q I rx ry h;obtain⟨i,j,rfl,rfl,hc,q⟩:=h;obtain⟨t,rfl⟩:=rx;obtain⟨t',rfl⟩:=ry;exact rule i j t t' s _ _ hc ⟨.int (g i j),H,I.tok _,⟨_,rfl⟩,q⟩
theorem aee{f:Ap->Ap->Sem Ap}{g:Int->Int->Int}
  (rule:∀(i j:Int)(t u:Tok)(s:AD)(Q:Ap->AD->Prop)(E:Ap->AD->Prop),Q (.int (g i j) s.toks) { s with toks:=s.toks+1 }->AO (A3 X.prog X.w) X.A (f (.int i t) (.int j u)) Q E s) :
  OpR X f (rI0 λi j=>.int (g i j)):=by
 intro aa s σ H x y v u Q I rx ry h;obtain⟨i,j,rfl,rfl,q⟩:=h;obtain⟨t,rfl⟩:=rx;obtain⟨t',rfl⟩:=ry;exact rule i j t t' s _ _ ⟨.int (g i j),H,I.tok _,⟨_,rfl⟩,q⟩
theorem abM{f:Ap->Ap->Sem Ap}{g:Int->Int->Bool}
  (rule:∀(i j:Int)(t u:Tok)(s:AD)(Q:Ap->AD->Prop)(E:Ap->AD->Prop),Q (.bool (g i j)) s->AO (A3 X.prog X.w) X.A (f (.int i t) (.int j u)) Q E s) :
  OpR X f (rI0 λi j=>.bl (g i j)):=by
 intro aa s σ H x y v u Q I rx ry h;obtain⟨i,j,rfl,rfl,q⟩:=h;obtain⟨t,rfl⟩:=rx;obtain⟨t',rfl⟩:=ry;exact rule i j t t' s _ _ ⟨.bl (g i j),H,I,rfl,q⟩
def ae7(i j:Int):Prop:=0<=j/\j<=1000000/\i.natAbs<2^64
def V9(i j:Int):Prop:=(-(2^64)<i/\i<2^64)\/(-(2^64)<j/\j<2^64)
theorem V9.ok{i j:Int}(h:V9 i j):IntMulOk i j:=by
 rcases h with⟨h1,h2⟩|⟨h1,h2⟩
 ·exact .of_left (intBits_le_64 h1 h2)
 exact .of_right (intBits_le_64 h1 h2)
theorem Oa(k:Nat):(0:Int)<=2^k:=by
 rw[two_pow_cast];exact Int.natCast_nonneg _
theorem aed:OpR X (EU .Add) (rI0 λi j=>.int (i+j)):=aee λ_ _ _ _ _ _ _ q=>add_int q
theorem dY:OpR X (EU .Sub) (rI0 λi j=>.int (i-j)):=aee λ_ _ _ _ _ _ _ q=>sub_int q
theorem ad9:OpR X (EU .Mult) (rI V9 λi j=>.int (i*j)):=opI λ_ _ _ _ _ _ _ hc q=>mul_int q hc.ok
theorem mD:OpR X (EU .Mod) (rI (λ_ j=>0<j) λi j=>.int (i%j)):=opI λi j _ _ _ _ _ hc q=>by
 have h1:(0:Int)<j:=hc;exact mod_int' ω (by rw[Int.fmod_eq_emod_of_nonneg i ω];exact q)
theorem zx:OpR X (EU .Pow) (rI ae7 λi j=>.int (i^j.toNat)):=opI λ_ _ _ _ _ _ _ hc q=>pow_int_small hc.1 hc.2.1 hc.2.2 q
theorem O4:OpR X (EU .LShift) (rI ae7 λi j=>.int (i*2^j.toNat)):=opI λ_ _ _ _ _ _ _ hc q=>lshift_int_small hc.1 hc.2.1 hc.2.2 q
theorem Yp:OpR X (EU .RShift) (rI (λ_ j=>0<=j) λi j=>.int (i/2^j.toNat)):=opI λi j _ _ _ _ _ hc q=>
 rshift_int hc (by rw[Int.fdiv_eq_ediv_of_nonneg i (Oa _)];exact q)
theorem Ys:OpR X (EU .BitAnd) (rI0 λi j=>.int (AX.bitAnd i j)):=aee λ_ _ _ _ _ _ _ q=>and_int q
theorem unI{f:Ap->Sem Ap}{g:Int->Int}
  (rule:∀(i:Int)(t:Tok)(s:AD)(Q:Ap->AD->Prop)(E:Ap->AD->Prop),Q (.int (g i) s.toks) { s with toks:=s.toks+1 }->AO (A3 X.prog X.w) X.A (f (.int i t)) Q E s) :
  UnR X f (rU λi=>.int (g i)):=by
 intro aa s σ H x v Q I rx h;obtain⟨i,rfl,q⟩:=h;obtain⟨t,rfl⟩:=rx;exact rule i t s _ _ ⟨.int (g i),H,I.tok _,⟨_,rfl⟩,q⟩
theorem fM:UnR X (unaryOp .USub) (rU λi=>.int (-i)):=unI λ_ _ _ _ _ q=>neg_int q
end
def Xf:V->V->Bool
 | .non,.non=>true | .non,.int _=>true | .int _,.non=>true | .non,.bl _=>true | .bl _,.non=>true | .non,.str _=>true | .str _,.non=>true
 | .int _,.int _=>true | .bl _,.bl _=>true | .str _,.str _=>true | .byt _,.byt _=>true
 | .int _,.str _=>true | .str _,.int _=>true | .bl _,.str _=>true | .str _,.bl _=>true
 | _,_=>false
def rEq:R2:=λx y H Q=>Xf x y=true/\Q (.bl (decide (x=y))) H
def rNe:R2:=λx y H Q=>Xf x y=true/\Q (.bl (!decide (x=y))) H
theorem SJ{i j:Int}:decide (V.int i=V.int j)=(i == j):=by
 rw[E3];simp
theorem ZM{i j:Bool}:decide (V.bl i=V.bl j)=(i == j):=by
 rw[E3];simp
theorem Sy{i j:Str}:decide (V.str i=V.str j)=(i == j):=by
 rw[E3];simp
theorem SM{i j:Array UInt8}:decide (V.byt i=V.byt j)=(i.toList == j.toList):=by
 rw[E3];cases i;cases j;simp
section
variable {X:Cx}{a b c:Expr}{ta tb tc:TE}{pos:Pos}
theorem cG{aa:List (ID×Obj)}{σ:St}{H:Hp}{s:AD}{Q:VK}{k k':Bool}(I:Inv X aa σ H s)(q:Q (.bl k) H)(e:k=k'):EP X aa σ Q (.bool k') s:=by
 subst e;exact⟨.bl k,H,I,rfl,q⟩
theorem afx:OpR X (B0 .Eq) rEq:=by
 intro aa s σ H x y v u Q I rx ry h;obtain⟨hs,q⟩:=h;cases x with
 | non=>
  cases rx;cases y with
  | non=>cases ry;exact PySem.EqNone.eq_none_none (cG I q ζ)
  | bl j=>cases ry;exact PySem.EqNone.eq_none_bool (cG I q ζ)
  | int j=>obtain⟨t',rfl⟩:=ry;exact PySem.EqNone.eq_none_int (cG I q ζ)
  | str j=>obtain⟨t',rfl⟩:=ry;exact PySem.EqNone.eq_none_str (cG I q ζ)
  | _=>exact absurd (show false=true from hs) A5
 | bl i=>
  cases rx;cases y with
  | non=>cases ry;exact PySem.EqNone.eq_bool_none (cG I q ζ)
  | bl j=>cases ry;exact eq_bool (cG I q ZM)
  | str j=>obtain⟨t',rfl⟩:=ry;exact PySem.EqMixed.eq_bool_str (cG I q ζ)
  | _=>exact absurd (show false=true from hs) A5
 | int i=>
  obtain⟨t,rfl⟩:=rx;cases y with
  | non=>cases ry;exact PySem.EqNone.eq_int_none (cG I q ζ)
  | int j=>obtain⟨t',rfl⟩:=ry;exact eq_int (cG I q SJ)
  | str j=>obtain⟨t',rfl⟩:=ry;exact PySem.EqMixed.eq_int_str (cG I q ζ)
  | _=>exact absurd (show false=true from hs) A5
 | str i=>
  obtain⟨t,rfl⟩:=rx;cases y with
  | non=>cases ry;exact PySem.EqNone.eq_str_none (cG I q ζ)
  | bl j=>cases ry;exact PySem.EqMixed.eq_str_bool (cG I q ζ)
  | int j=>obtain⟨t',rfl⟩:=ry;exact PySem.EqMixed.eq_str_int (cG I q ζ)
  | str j=>obtain⟨t',rfl⟩:=ry;exact eq_str (cG I q Sy)
  | _=>exact absurd (show false=true from hs) A5
 | byt i=>
  obtain⟨t,rfl⟩:=rx;cases y with
  | byt j=>obtain⟨t',rfl⟩:=ry;exact PySem.W.eq_bytes (cG I q SM)
  | _=>exact absurd (show false=true from hs) A5
 | _=>cases y <;> exact absurd (show false=true from hs) A5
theorem afw:OpR X (B0 .NotEq) rNe:=by
 intro aa s σ H x y v u Q I rx ry h;obtain⟨hs,q⟩:=h;cases x with
 | non=>
  cases rx;cases y with
  | non=>cases ry;exact PySem.EqNone.ne_none_none (cG I q ζ)
  | bl j=>cases ry;exact PySem.EqNone.ne_none_bool (cG I q ζ)
  | int j=>obtain⟨t',rfl⟩:=ry;exact PySem.EqNone.ne_none_int (cG I q ζ)
  | str j=>obtain⟨t',rfl⟩:=ry;exact PySem.EqNone.ne_none_str (cG I q ζ)
  | _=>exact absurd (show false=true from hs) A5
 | bl i=>
  cases rx;cases y with
  | non=>cases ry;exact PySem.EqNone.ne_bool_none (cG I q ζ)
  | bl j=>cases ry;exact ne_bool (cG I q (congrArg not ZM))
  | str j=>obtain⟨t',rfl⟩:=ry;exact PySem.EqMixed.ne_bool_str (cG I q ζ)
  | _=>exact absurd (show false=true from hs) A5
 | int i=>
  obtain⟨t,rfl⟩:=rx;cases y with
  | non=>cases ry;exact PySem.EqNone.ne_int_none (cG I q ζ)
  | int j=>obtain⟨t',rfl⟩:=ry;exact ne_int (cG I q (congrArg not SJ))
  | str j=>obtain⟨t',rfl⟩:=ry;exact PySem.EqMixed.ne_int_str (cG I q ζ)
  | _=>exact absurd (show false=true from hs) A5
 | str i=>
  obtain⟨t,rfl⟩:=rx;cases y with
  | non=>cases ry;exact PySem.EqNone.ne_str_none (cG I q ζ)
  | bl j=>cases ry;exact PySem.EqMixed.ne_str_bool (cG I q ζ)
  | int j=>obtain⟨t',rfl⟩:=ry;exact PySem.EqMixed.ne_str_int (cG I q ζ)
  | str j=>obtain⟨t',rfl⟩:=ry;exact ne_str (cG I q (congrArg not Sy))
  | _=>exact absurd (show false=true from hs) A5
 | byt i=>
  obtain⟨t,rfl⟩:=rx;cases y with
  | byt j=>obtain⟨t',rfl⟩:=ry;exact PySem.W.ne_bytes (cG I q (congrArg not SM))
  | _=>exact absurd (show false=true from hs) A5
 | _=>cases y <;> exact absurd (show false=true from hs) A5
theorem jZ:OpR X (B0 .Lt) (rI0 λi j=>.bl (decide (i<j))):=abM λ_ _ _ _ _ _ _ q=>lt_int q
theorem vI:OpR X (B0 .LtE) (rI0 λi j=>.bl (decide (i<=j))):=abM λ_ _ _ _ _ _ _ q=>le_int q
theorem RP:OpR X (B0 .Gt) (rI0 λi j=>.bl (decide (j<i))):=abM λ_ _ _ _ _ _ _ q=>gt_int q
theorem acZ:OpR X (B0 .GtE) (rI0 λi j=>.bl (decide (j<=i))):=abM λ_ _ _ _ _ _ _ q=>ge_int q
theorem Yr:OpR X (B0 .Is) (λx y H Q=>y=.non/\Q (.bl (decide (x=.non))) H):=by
 intro aa s σ H x y v u Q I rx ry h;obtain⟨rfl,q⟩:=h;cases ry;refine is_none_gen (cG I q ?_);cases x <;> first
  | (cases rx;rfl)
  | (obtain⟨t,rfl⟩:=rx;rfl)
theorem Cd:OpR X (B0 .IsNot) (λx y H Q=>y=.non/\Q (.bl (!decide (x=.non))) H):=by
 intro aa s σ H x y v u Q I rx ry h;obtain⟨rfl,q⟩:=h;cases ry;refine isnot_none_gen (cG I q ?_);cases x <;> first
  | (cases rx;rfl)
  | (obtain⟨t,rfl⟩:=rx;rfl)
theorem aM(b:Expr){op:IY}(h:op≠.In:=by decide)(h2:op≠.NotIn:=by decide):E7 op b=false:=by
 have e1:(op == IY.In)=false:=by cases op <;> first|rfl|exact absurd Z h
 have e2:(op == IY.NotIn)=false:=by cases op <;> first|rfl|exact absurd Z h2
 cases b <;> simp[E7,e1,e2]
def CG(t:TE):TT:=λσ H Q=>t σ H λx H'=>∃k,x=.bl k/\Q k H'
def CJ(r r':R2)(ta tb tc:TE):TE:=λσ H Q=>ta σ H λx H1=>tb σ H1 λy H2=>r x y H2 λz H3=>∃k,z=.bl k /\
 (if k=true then tc σ H3 λw' H4=>r' y w' H4 Q else Q (.bl false) H3)
def agk(K:AE)(x:V)(H:Hp)(k:Bool):Prop:=
 match x with
 | .non=>k=false
 | .bl b=>k=b
 | .int i=>k=(i != 0)
 | .str y=>y.length<=AV/\k=((y.length:Int) != 0)
 | .byt y=>y.size<=AV/\k=((y.size:Int) != 0)
 | .ref p=>(∃xs,SqL K H p xs/\k=!xs.isEmpty)\/(∃xs,SqT K H p xs/\k=!xs.isEmpty)\/∃af,H p=GE (.dK af)/\k=!af.isEmpty
 | _=>False
theorem PX{κ:Type}{af:List (κ×V)}{vs:List (κ×Ap)}(r:KV af vs):(!vs.isEmpty)=!af.isEmpty:=by
 cases r <;> rfl
theorem Ep{xs:List V}{ae:List Ap}(r:Vals xs ae):(!ae.toArray.isEmpty)=!xs.isEmpty:=by
 cases r <;> simp
theorem En:(AV:Nat)<2^63:=by rw[Jn];decide
theorem ac7:agl X (λx H Q=>∃k,agk X.K x H k/\Q k H):=by
 intro aa s σ H x v Q I rx h;obtain⟨k,e,q⟩:=h;have hl:=En;have hs:AV=16777216:=Jn;cases x with
 | non=>
  cases rx;have e':k=false:=e;subst e';exact truthy_none ⟨H,I,q⟩
 | bl b=>
  cases rx;have e':k=b:=e;subst e';exact C5 ⟨H,I,q⟩
 | int i=>
  obtain⟨t,rfl⟩:=rx;have e':k=(i != 0):=e;subst e';exact PySem.P.truthy_int ⟨H,I,q⟩
 | str y=>
  obtain⟨t,rfl⟩:=rx;obtain⟨hy,e'⟩:y.length<=AV/\k=((y.length:Int) != 0):=e;subst e';exact PySem.P.truthy_str ω ⟨H,I.tok _,q⟩
 | byt y=>
  obtain⟨t,rfl⟩:=rx;obtain⟨hy,e'⟩:y.size<=AV/\k=((y.size:Int) != 0):=e;subst e';exact PySem.W.truthy_bytes ω ⟨H,I.tok _,q⟩
 | ref p=>
  cases rx;have e':(∃xs,SqL X.K H p xs/\k=!xs.isEmpty)\/(∃xs,SqT X.K H p xs/\k=!xs.isEmpty)\/∃af,H p=GE (.dK af)/\k=!af.isEmpty:=e;rcases e' with⟨xs,hx,e'⟩|⟨xs,hx,e'⟩|⟨af,hx,e'⟩
  ·subst e';obtain⟨ae,r,pl,hz⟩:=I.list hx;have am:=r.length;exact wpAny_truthy_list pl.isList (by simp only[AY];omega) ⟨H,I.tok _,by rw[Ep r];exact q⟩
  ·subst e';obtain⟨ae,r,pl,hz⟩:=I.tuple hx;have am:=r.length;exact truthy_tuple pl (by simp only[AY];omega) ⟨H,I.tok _,by rw[Ep r];exact q⟩
  subst e';obtain⟨hz,hS,vs,r,m⟩:af.length<=AV/\(p == EM)=false/\∃vs,KV af vs/\s.heap.DictOf (cL X.prog X.w) p vs:=I.hok p _ hx;have am:af.length=vs.length:=KG r;exact wpAny_truthy_dict hS m ω ⟨H,I.tok _,by rw[PX r];exact q⟩
 | _=>exact(show False from e).elim
theorem vals1{x:V}{us:List Ap}(r:Vals [x] us):∃u,us=[u]/\RelV x u:=by
 cases r with
 | cons r1 r2=>cases r2;exact⟨_,rfl,r1⟩
theorem vals2{x y:V}{us:List Ap}(r:Vals [x,y] us):∃u w',us=[u,w']/\RelV x u/\RelV y w':=by
 cases r with
 | cons r1 r2=>
  cases r2 with
  | cons r3 r4=>cases r4;exact⟨_,_,rfl,r1,r3⟩
theorem Nj:eY X (.builtin "abs") (λxs H Q=>∃i,xs=[.int i]/\Q (.int (if i<0 then -i else i)) H):=by
 intro aa s σ H xs us Q I r h;obtain⟨i,rfl,q⟩:=h;obtain⟨u,rfl,t,rfl⟩:=vals1 r;exact call_abs_int λu tk=>⟨.int (if i<0 then -i else i),H,I.tok _,⟨_,rfl⟩,q⟩
theorem VF(hc:X.calm=true):eY X (.builtin "max") (λxs H Q=>∃i j,xs=[.int i,.int j]/\Q (.int (if j>i then j else i)) H):=by
 intro aa s σ H xs us Q I r h;obtain⟨i,j,rfl,q⟩:=h;obtain⟨u,w',rfl,⟨t,rfl⟩,⟨t',rfl⟩⟩:=vals2 r;refine max_two_ints (I.ok.hd hc) λh' tk k=>⟨_,H,I.kept k,?_,q⟩;by_cases hj:j>i
 ·rw[if_pos hj,if_pos hj];exact⟨_,rfl⟩
 rw[if_neg hj,if_neg hj];exact⟨_,rfl⟩
theorem VB(hc:X.calm=true):eY X (.builtin "min") (λxs H Q=>∃i j,xs=[.int i,.int j]/\Q (.int (if j<i then j else i)) H):=by
 intro aa s σ H xs us Q I r h;obtain⟨i,j,rfl,q⟩:=h;obtain⟨u,w',rfl,⟨t,rfl⟩,⟨t',rfl⟩⟩:=vals2 r;refine min_two_ints (I.ok.hd hc) λh' tk k=>⟨_,H,I.kept k,?_,q⟩;by_cases hj:j<i
 ·rw[if_pos hj,if_pos hj];exact⟨_,rfl⟩
 rw[if_neg hj,if_neg hj];exact⟨_,rfl⟩
theorem Ir:eY X (.type "int") (λxs H Q=>(∃i,xs=[.int i]/\Q (.int i) H)\/∃k,xs=[.bl k]/\Q (.int (if k then 1 else 0)) H):=by
 intro aa s σ H xs us Q I r h;rcases h with⟨i,rfl,q⟩|⟨k,rfl,q⟩
 ·obtain⟨u,rfl,t,rfl⟩:=vals1 r;exact call_int_int ⟨.int i,H,I,⟨_,rfl⟩,q⟩
 obtain⟨u,rfl,r1⟩:=vals1 r;cases r1;exact call_int_bool ⟨.int (if k then 1 else 0),H,I.tok _,⟨_,rfl⟩,q⟩
end
structure ae5(h:Heap)(x dx C:ID)(mA:Str->Option Ap):Prop where
 obj:h.get? x=GE (PySem.W.instObj C dx)
 ns:h.Ns1 dx mA
 ne:dx≠x
theorem U8{h:Heap}{dx:ID}{mA:Str->Option Ap}(n:h.Ns1 dx mA):∃od,h.get? dx=GE od/\∀name,PySem.W.lookIn name od=GE (mA name):=by
 obtain⟨o,es,ep,ho,hd,hk,_,hm⟩:=n;refine⟨o,ho,λname=>?_⟩;have e:=hm name;unfold nsFind findBy at e;rw[<- Array.find?_toList] at e;unfold PySem.W.lookIn;rw[hd];dsimp only;split
 ·rename_i y q;rw[q] at e;exact congrArg GE e
 rename_i q;rw[q] at e;have a:es.toList.any (·.refKey)=false:=by
  rw[List.any_eq_false];intro y hy;obtain⟨z,t,dA⟩:=hk y (Array.mem_toList_iff.mp hy);simp[DictEntry.refKey,dA]
 have a':¬es.toList.any (·.refKey)=true:=by rw[a];exact A5
 rw[if_neg a'];exact congrArg GE e
theorem ae5.look{h:Heap}{x dx C:ID}{mA:Str->Option Ap}(I:ae5 h x dx C mA):∃od,PySem.W.InstAt h x (PySem.W.instObj C dx) C (GE od)/\∀name,PySem.W.lookIn name od=GE (mA name):=
 let ⟨od,ho,hl⟩:=U8 I.ns
 ⟨od,⟨I.obj,rfl,rfl,ho⟩,hl⟩
theorem uy.some_of{v:V}{o:Option Ap}(r:uy (GE v) o):∃u,o=GE u/\RelV v u:=by
 cases o with
 | none=>exact(show False from r).elim
 | some u=>exact⟨u,rfl,r⟩
theorem uy.none_of{o:Option Ap}(r:uy GT o):o=GT:=by
 cases o with
 | none=>rfl
 | some u=>exact(show False from r).elim
section
variable {P:A6}{w:BI}{H H':Hp}{h h':Heap}{a C dx:ID}{fs fs':List (Str×V)}
theorem aci(hok:HOk P w H h)(e:H a=GE (.ins C dx fs)):∃mA,ae5 h a dx C mA/\(∀f,uy (fs.lookup f) (mA f))/\PySem.Within mA (fs.map (·.1))/\fs.length<=1000/\H dx=GE (.own a):=by
 obtain⟨d,z,ne,ob,mA,n,r,q⟩:=(show cR P w H h a (.ins C dx fs) from hok a _ e);exact⟨mA,⟨ob,n,ne⟩,r,q,z,d⟩
end
structure Cls(K:AE)(C:ID):Prop where
 pg:PySem.W.plainGet K C Str.empty=true
 hd:PySem.W.hasDictIn K C=true
 po:PySem.W.plainOver K C=true
 sa:GV K (.ref C) "__setattr__" = GE (GE (.builtin "object.__setattr__"))
theorem Cls.get{K:AE}{C:ID}(c:Cls K C)(f:Str):PySem.W.plainGet K C f=true:=c.pg
section
variable {X:Cx}{aa:List (ID×Obj)}{σ:St}{H:Hp}{s:AD}{A:BE}{E:Ap->AD->Prop}{Q:Ap->AD->Prop}{c:Ap}{b:Bool}
inductive vD (K:AE)(H:Hp):V->Ap->Prop where
 | non:vD K H .non (.type "NoneType")
 | bl (x:Bool):vD K H (.bl x) (.type "bool")
 | int (i:Int):vD K H (.int i) (.type "int")
 | str (x:Str):vD K H (.str x) (.type "str")
 | flt (x:UInt64):vD K H (.flt x) (.type "float")
 | lst {a:ID} {xs:List V} (e:H a=GE (.lst xs)):vD K H (.ref a) (.type "list")
 | frz {a:ID} {o:Obj} {xs:List V} (e:H a=GE (.frz o (.lst xs))):vD K H (.ref a) (.type "list")
 | tup {a:ID} {xs:List V} (e:H a=GE (.tup xs)):vD K H (.ref a) (.type "tuple")
 | dK {a:ID} {af:List (Key×V)} (e:H a=GE (.dK af)):vD K H (.ref a) (.type "dict")
 | dT {a:ID} {af:List (List Key×V)} (e:H a=GE (.dT af)):vD K H (.ref a) (.type "dict")
 | ins {a C dx:ID} {fs:List (Str×V)} (e:H a=GE (.ins C dx fs)) (cl:Cls K C) (ha:GV K (.ref C) "__class__" = GE (GE (.builtin "object.__class__")))
   (hn:PySem.W.specialIn K (.builtin "object.__class__") "__get__" = GE (GE (.builtin "getset_descriptor.__get__"))) (l5:PySem.W.takesIn K (.builtin "object.__class__")=GE true)
   (hm:PySem.W.mroIn K C (.type "object")=GE true):vD K H (.ref a) (.ref C)
theorem Vg{x:V}{u t:Ap}(I:Inv X aa σ H s)(rx:RelV x u)(ty:vD X.K H x t)(e:kitOne X.K t c=GE b)(h:∀tk,Q (.bool b) { s with toks:=tk }) :
  AO (A3 X.prog X.w) A (call (.builtin "isinstance") [u,c]) Q E s:=by
 cases ty with
 | non=>cases (show u=Ap.none from rx);exact C9 PySem.W.kitx_none I.kIn DT e (λz=>nomatch z) h
 | bl y=>cases (show u=EQ y from rx);exact C9 PySem.W.kitx_bool I.kIn DT e (λz=>nomatch z) h
 | int i=>obtain⟨t,q⟩:=(show ∃t,u=Do i t from rx);cases q;exact C9 PySem.W.kitx_int I.kIn DT e (λz=>nomatch z) h
 | str y=>obtain⟨t,q⟩:=(show ∃t,u=Ap.str y t from rx);cases q;exact C9 PySem.W.kitx_str I.kIn DT e (λz=>nomatch z) h
 | flt y=>obtain⟨t,q⟩:=(show ∃t,u=Ap.float y t from rx);cases q;exact C9 PySem.W.kitx_float I.kIn DT e (λz=>nomatch z) h
 | @lst a xs ea=>
  cases (show u=BY a from rx);obtain⟨_,_,n,_,h1⟩:=(show cR X.prog X.w H s.heap a (.lst xs) from I.hok a _ ea);exact C9 Hm I.kIn ⟨_,h1,rfl⟩ e (λz=>nomatch z) h
 | @frz a ob xs ea=>
  cases (show u=BY a from rx);obtain⟨_,_,_,n,_,h1⟩:=(show cR X.prog X.w H s.heap a (.frz ob (.lst xs)) from I.hok a _ ea);exact C9 Hm I.kIn ⟨_,h1,rfl⟩ e (λz=>nomatch z) h
 | @tup a xs ea=>
  cases (show u=BY a from rx);obtain⟨_,_,_,p⟩:=(show cR X.prog X.w H s.heap a (.tup xs) from I.hok a _ ea);obtain⟨o,h1,h2,_⟩:=p;exact C9 PySem.W.kitx_tuple I.kIn ⟨o,h1,h2⟩ e (λz=>nomatch z) h
 | @dK a af ea=>
  cases (show u=BY a from rx);obtain⟨_,_,vs,_,p⟩:=(show cR X.prog X.w H s.heap a (.dK af) from I.hok a _ ea);obtain⟨o,es,ep,h1,h2,_⟩:=p;exact C9 Hn I.kIn ⟨o,h1,h2.1⟩ e (λz=>nomatch z) h
 | @dT a af ea=>
  cases (show u=BY a from rx);obtain⟨_,_,xs,_,o,es,ep,h1,h2,_⟩:=(show cR X.prog X.w H s.heap a (.dT af) from I.hok a _ ea);exact C9 Hn I.kIn ⟨o,h1,h2.1⟩ e (λz=>nomatch z) h
 | @ins a C dx fs ea cl ha hn l5 hm=>
  cases (show u=BY a from rx);obtain⟨mA,O,_⟩:=aci I.hok ea;obtain⟨od,J,_⟩:=O.look;exact C9 (PySem.W.kitx_own (cl.get _) cl.hd ha hn l5 hm) I.kIn J e (λz=>nomatch z) h
end
structure lX(k:Nat)(A:BE):Prop where
 hd:A.handled=GT
 dp:A.depth+3*k+5<recursionLimit
 un:A.units+16*k+200<E4
 gd:A.guards=GE []
theorem lX.mono{j k:Nat}{A:BE}(r:lX k A)(h:j<=k):lX j A:=⟨r.hd,by have:=r.dp;omega,by have:=r.un;omega,r.gd⟩
theorem lX.deeper{k:Nat}{A:BE}(r:lX (k+1) A)(env:Env):lX k (A.deeper env):=
 ⟨r.hd,by have:=r.dp;show A.depth+1+3*k+5<_;omega,by have:=r.un;show A.units+3+16*k+200<_;omega,r.gd⟩
theorem lX.depth{k:Nat}{A:BE}(r:lX k A):A.depth<recursionLimit:=by have:=r.dp;omega
theorem lX.aZ{k:Nat}{A:BE}(r:lX k A):A.units<E4:=by have:=r.un;omega
def TF:TA:=λ_ H Q=>Q [] H
def GZ(ta:TE)(tr:TA):TA:=λσ H Q=>ta σ H λx H1=>tr σ H1 λxs H2=>Q (x::xs) H2
section
variable {X:Cx}{e:Expr}{es:List Expr}{te:TE}{t:TA}{pos:Pos}
def Ws(t:TA):TE:=λσ H Q=>t σ H λxs H1=>xs.length<=AV/\∀p,H1 p=GT->Q (.ref p) (upd H1 p (.tup xs))
def Wz(t:TA):TE:=λσ H Q=>t σ H λxs H1=>xs.length<=AV/\∀p,H1 p=GT->Q (.ref p) (upd H1 p (.lst xs))
end
abbrev Sp:=List V->Hp->VK->XK->Prop
abbrev CXT:=List Env->Hp->AD->XK->Ap->AD->Prop
structure acQ(P:A6)(w:BI)(K:AE)(mg:Str->Option Ap)(base:Heap)(A:BE)(outer:List Env)(s:AD)(H:Hp):Prop where
 frames:A.frames=GE outer
 mod:Mod K mg base
 bs:∀b o,base.get? b=GE o->s.heap.get? b=GE o/\H b=GT
 bsz:base.objs.size<=s.heap.objs.size
 yP:s.heap.FunFrames base outer
 frf:∀b∈frs outer,H b=GT
 hok:HOk P w H s.heap
 bare:Iq s.gens
def CE(outer:List Env)(P:A6)(w:BI)(H:Hp)(s:AD)(Q:VK)(u:Ap)(s':AD):Prop:=
 ∃v H',s'.os=s.os/\Iq s'.gens/\Un (frs outer) [] H H' s.heap s'.heap/\HOk P w H' s'.heap/\RelV v u/\Q v H'
def CR(CX:CXT)(outer:List Env)(P:A6)(w:BI)(H:Hp)(s:AD)(Q:VK)(E:XK)(r:Result)(s':AD):Prop:=
 match r with
 | .ok (.ret u)=>CE outer P w H s Q u s'
 | .ok _=>False
 | .error e=>CX outer H s E e s'
structure cT(P:A6)(w:BI)(K:AE)(mg:Str->Option Ap)(base:Heap)(CX:CXT)(k:Nat)(f:ID)(fd:C3)(ps:List Str)(sp:Sp):Prop where
 len:∀vs H Q E,sp vs H Q E->vs.length=ps.length
 run:∀(A:BE)(outer:List Env)(s:AD)(H:Hp)(args:Args)(us:List Ap)(vs:List V)(Q:VK)(E:XK),lX k A->acQ P w K mg base A outer s H->BindsTo s fd args (ps.zip us)->Vals vs us->sp vs H Q E ->
  Iy (A3 P w) A (.call (.ref f) args) (CR CX outer P w H s Q E) s
section
variable {X:Cx}{aa:List (ID×Obj)}{σ:St}{H:Hp}{s s':AD}
theorem Inv.env0(I:Inv X aa σ H s):acQ X.prog X.w X.K X.mg X.base X.A X.stack s H:=
 ⟨I.ok.frames,I.ok.mod,I.bs,Cn I.ok.bsz I.sz,I.stack,I.Q9,I.hok,I.bare⟩
theorem Inv.after{Q:VK}{u:Ap}(I:Inv X aa σ H s)(h:CE X.stack X.prog X.w H s Q u s'):EP X aa σ Q u s':=by
 obtain⟨v,H',os,bare,un,hok,r,q⟩:=h;obtain⟨hh,g,d,t,OV⟩:=s';obtain rfl:OV=s.os:=os;exact⟨v,H',I.call (h':=hh) (g':=g) (d':=d) (t':=t) (ch:=[]) un hok bare (λb z=>absurd z ζ),r,q⟩
end
def CK(sp:Sp)(qD:List V)(E:XK)(t:TA):TE:=λσ H Q=>t σ H λvs H1=>sp (vs++qD) H1 Q E
def Binds(K:AE)(fd:C3)(ps:List Str)(ds:List Ap):Prop:=
 ∀(s:AD)(us:List Ap),K.In s.heap->(us++ds).length=ps.length->BindsTo s fd ⟨us,[]⟩ (ps.zip (us++ds))
theorem Binds.all{K:AE}{fd:C3}{ps:List Str}(h:∀us:List Ap,us.length=ps.length->bindArgs fd ⟨us,[]⟩=pure (ps.zip us)):Binds K fd ps []:=λs us _ hl=>by
 rw[DH] at hl |-;exact .of_eq (h us hl)
def QF(CX:CXT)(X:Cx)(E:XK):Prop:=∀(aa:List (ID×Obj)) (σ:St) (H:Hp) (s:AD) (e:Ap) (s':AD),Inv X aa σ H s->CX X.stack H s E e s'->X.xe e s'
section
variable {X:Cx}{CX:CXT}{k:Nat}{f C:ID}{fd:C3}{ps:List Str}{sp:Sp}{qD:List V}{ds:List Ap}{E:XK}{x m:Str}{p pos aw:Pos}{e o:Expr}{es:List Expr}{ta:TE}{t:TA}
theorem adp{aa:List (ID×Obj)}{σ:St}{H:Hp}{s:AD}{Q:VK}{us:List Ap}{vs:List V}(F:cT X.prog X.w X.K X.mg X.base CX k f fd ps sp)(hr:lX k X.A)(hb:Binds X.K fd ps ds)(hd:Vals qD ds)(hx:QF CX X E)
  (I:Inv X aa σ H s)(r:Vals vs us)(h:sp (vs++qD) H Q E):AO (A3 X.prog X.w) X.A (call (.ref f) us) (EP X aa σ Q) X.xe s:=by
 have r2:Vals (vs++qD) (us++ds):=r.append hd;have hl:(us++ds).length=ps.length:=by rw[<- r2.length];exact F.len _ _ _ _ h
 refine wpAny_call (FY (F.run X.A X.stack s H ⟨us,[]⟩ (us++ds) (vs++qD) Q E hr I.env0 (hb s us I.kIn hl) r2 h) λr s' hq=>?_);cases r with
 | error e=>exact hx aa σ H s e s' I hq
 | ok fl=>
  cases fl with
  | ret u=>exact I.after hq
  | next=>exact Fh hq
  | brk=>exact Fh hq
  | cont=>exact Fh hq
theorem abG(F:cT X.prog X.w X.K X.mg X.base CX k f fd ps sp)(hr:lX k X.A)(hg:Gl X x)(hm:X.mg x=GE (.ref f))(hk:keepIn X.K (.ref f)=true)(hb:Binds X.K fd ps ds)(hd:Vals qD ds)(hx:QF CX X E)
  (ha:PA X (e::es) t)(k6:(x == ("__debug__" : Str))=false:=by decide)(he:AM (e::es) X.env=(false,eval e X.env)::AM es X.env:=by rfl)(br:(CY pos (AM es X.env)).any (·.1)=false:=by rfl) :
  PE X (.Call (.Name x p) (e::es) [] pos) (CK sp qD E t):=by
 intro aa s σ H Q I h;refine EX (RX I hg hm ?_ k6);refine PySem.W.callWith_K (h₀:=X.base) I.ok.mod.kin hk (thA (ha pos aa s σ H _ I h) λus s1 vs H1 I1 r q=>⟨I1.kIn,?_⟩) he br;exact adp F hr hb hd hx I1 r q
end
def PK(X:Cx)(ku:List EH)(t:TA):Prop:=
 ∀(pos:Pos)(aa:List (ID×Obj)) (s:AD) (σ:St) (H:Hp) (Q:List V->Hp->Prop),Inv X aa σ H s->t σ H Q->AO (A3 X.prog X.w) X.A (evalAll ((EI pos (C6 ku X.env)).map (·.2))) (AP X aa σ Q) X.xe s
section
variable {X:Cx}{CX:CXT}{k:Nat}{f C:ID}{fd:C3}{ps ks:List Str}{sp:Sp}{E:XK}{x m:Str}{p pos aw PU:Pos}{e o:Expr}{es:List Expr}{ku:List EH}{te ta:TE}{t tk:TA}{nm:Option Str}
theorem adU:PK X [] TF:=λ_ _ _ _ H Q I h=>wpAny_evalAll_nil ⟨[],H,I,.nil,h⟩
theorem abq(ha:PE X e te)(hr:PK X ku t):PK X (⟨nm,e,PU⟩::ku) (GZ te t):=by
 intro pos aa s σ H Q I h;show AO _ _ (evalAll ((do let v <- eval e X.env;Ix pos;pure v)::(EI pos (C6 ku X.env)).map (·.2))) _ _ s;refine wpAny_evalAll_cons (An (thE (ha aa s σ H _ I h) λu s1 x H1 I1 r1 q1=>An (GG (AF ?_))));exact thA (hr pos aa s1 σ H1 _ I1 q1) λus s2 xs H2 I2 r2 q2=>⟨x::xs,H2,I2,.cons r1 r2,q2⟩
variable {g:List Ap->List Ap->List Ap}{gV:List V->List V->List V}
end
structure bx(N P:List Str)(sc:F9):Prop where
 kind:sc.kind=.function
 co:sc.isCoroutine=false
 gen:sc.isGenerator=false
 nd:N.Nodup
 pre:N.take P.length=P
 par:∀x∈P,sc.names.lookup x=GE .local\/sc.names.lookup x=GE .cell
 nofree:∀y∈sc.names,y.2≠.free
theorem IV{kindOf:Str->Option De}{x:Str}:∀{binds:List (Str×Ap)}{m:Str->Option Ap},(∀v,(x,v)∉binds)->bindL kindOf binds m x=m x
 | [],_,_=>rfl
 | (n,v)::r,m,h=>by
  unfold bindL;rw[IV λw hw=>h w (AG _ hw)];split
  ·have:x≠n:=by rintro rfl;exact h v AJ
   simp[this]
  rfl
theorem Ja{kindOf:Str->Option De}{x:Str}:∀{binds:List (Str×Ap)}{m:Str->Option Ap},(∀v,(x,v)∉binds)->bindC kindOf binds m x=m x
 | [],_,_=>rfl
 | (n,v)::r,m,h=>by
  unfold bindC;rw[Ja λw hw=>h w (AG _ hw)];split
  ·rfl
  have:x≠n:=by rintro rfl;exact h v AJ
  simp[this]
theorem IW{kindOf:Str->Option De}{x:Str}{v:Ap}:∀{P:List Str}{vs:List Ap}{i:Nat}{m:Str->Option Ap},P.Nodup->P[i]?=GE x->vs[i]?=GE v->kindOf x=GE .local ->
  bindL kindOf (P.zip vs) m x=GE v
 | [],_,_,_,_,h,_,_=>by simp at h
 | _::_,[],_,_,_,_,h,_=>by simp at h
 | p::P,w::vs,0,m,nd,h1,h2,hk=>by
  simp at h1 h2;subst h1;subst h2;show bindL kindOf ((p,w)::P.zip vs) m p=_;unfold bindL;rw[IV λv hv=>(Fk.mp nd).1 (of_mem_zip hv).1,if_pos hk];simp
 | p::P,w::vs,i+1,m,nd,h1,h2,hk=>by
  show bindL kindOf ((p,w)::P.zip vs) m x=_;unfold bindL;exact IW (i:=i) (Fk.mp nd).2 (by simpa using h1) (by simpa using h2) hk
theorem Jb{kindOf:Str->Option De}{x:Str}{v:Ap}:∀{P:List Str}{vs:List Ap}{i:Nat}{m:Str->Option Ap},P.Nodup->P[i]?=GE x->vs[i]?=GE v->kindOf x≠GE .local ->
  bindC kindOf (P.zip vs) m x=GE v
 | [],_,_,_,_,h,_,_=>by simp at h
 | _::_,[],_,_,_,_,h,_=>by simp at h
 | p::P,w::vs,0,m,nd,h1,h2,hk=>by
  simp at h1 h2;subst h1;subst h2;show bindC kindOf ((p,w)::P.zip vs) m p=_;unfold bindC;rw[Ja λv hv=>(Fk.mp nd).1 (of_mem_zip hv).1,if_neg hk];simp
 | p::P,w::vs,i+1,m,nd,h1,h2,hk=>by
  show bindC kindOf ((p,w)::P.zip vs) m x=_;unfold bindC;exact Jb (i:=i) (Fk.mp nd).2 (by simpa using h1) (by simpa using h2) hk
def start(N:List Str)(vs:List V):St:=vs.map GE++A8 (N.length-vs.length) GT
def Ng(CX:CXT)(P:A6)(w:BI)(K:AE)(mg:Str->Option Ap)(base:Heap)(N:List Str)(qual:Str)(scope:F9)(f:ID)(cd:Ap)(A:BE)(outer:List Env)(s:AD)(H:Hp)(E:XK):Cx where
 prog:=P
 w:=w
 K:=K
 mg:=mg
 base:=base
 A:=A.deeper (IA qual scope s.heap.objs.size f cd)
 N:=N
 s₀:=s
 H₀:=H
 env:=IA qual scope s.heap.objs.size f cd
 outer:=outer
 stack:=IA qual scope s.heap.objs.size f cd::outer
 ex:=[]
 calm:=true
 fn:=λ_=>true
 pn:=[]
 xe:=λe s'=>AO (A3 P w) (A.deeper (IA qual scope s.heap.objs.size f cd)) (leaving (IA qual scope s.heap.objs.size f cd) e) (λ_ xA=>CX outer H s E e xA) (λe' xA=>CX outer H s E e' xA) s'
theorem Ni{sc:F9}{n:Nat}{x:Str}(h:sc.names.lookup x=GE .cell):∃c,(cellsFrom n sc.names []).lookup x=GE c:=by
 have q:=PySem.W.cellsFrom_some sc.names n [] (.inl h);exact Option.isSome_iff_exists.mp q
theorem Vh{CX:CXT}{P:A6}{w:BI}{K:AE}{mg:Str->Option Ap}{base:Heap}{N ps:List Str}{qual:Str}{scope:F9}{f:ID}{cd:Ap}{A:BE}{outer:List Env}{s s1:AD}{H:Hp}{E:XK}{us:List Ap}{vs:List V}
  (S:bx N ps scope)(hd:A.handled=GT)(e0:acQ P w K mg base A outer s H)(hl:vs.length=ps.length)(r:Vals vs us)
  (x:InCallC s s.heap.objs.size (bindL (IA qual scope s.heap.objs.size f cd).kindOf (ps.zip us) λ_=>GT) (cellsFrom (s.heap.objs.size+1) scope.names []) (bindC (IA qual scope s.heap.objs.size f cd).kindOf (ps.zip us) λ_=>GT) s1) :
  Inv (Ng CX P w K mg base N qual scope f cd A outer s H E) [] (start N vs) H s1:=by
 have br:ps.length<=N.length:=by have:=congrArg List.length S.pre;rw[FM] at this;omega
 obtain⟨h1,tk,rfl,hk⟩:=x.done;have xN:∀b:ID,b∉(Ng CX P w K mg base N qual scope f cd A outer s H E).ex:=λb z=>absurd (show b∈([]:List ID) from z) ζ;refine⟨⟨e0.mod,S.kind,rfl,rfl,AW _,λy z c h1 h2=>?_,λy hy=>?_,λy c _ h=>?_,λ_=>hd,BE.frames_deeper e0.frames,.inr ⟨rfl,rfl⟩,λb z=>absurd z (xN b),e0.bs,e0.bsz,λb _ _=>xN b,λb z=>absurd z (xN b),e0.yP,e0.frf⟩,
  rfl,e0.bare,Un.kept hk,⟨_,x.toInCall.ns,λi y v h1 h2 h3=>?_⟩,λy c h=>⟨_,x.cell y c h⟩,e0.hok.fresh (AW _),λy c h=>?_,λp hp=>absurd (show p∈([]:List (ID×Obj)) from hp) ζ,e0.hok.kept hk,?_⟩
 ·exact name_of_addr x.apart (C4 h1) (C4 h2)
 ·have hy:scope.names.lookup y=GE .cell\/scope.names.lookup y=GE .free:=hy;rcases hy with hy|hy
  ·exact Ni hy
  exact absurd Z (S.nofree _ (C4 hy))
 ·exact GU (x.above y c (C4 h))
 ·have hi:i<vs.length:=by
   unfold start at h2;by_cases hi:i<vs.length
   ·exact hi
   rw[BF (by simpa using hi)] at h2;rw[List.getElem?_replicate] at h2;split at h2 <;> cases h2
  have ha:vs[i]?=GE v:=by
   unfold start at h2;rw[C0 (by simpa using hi),AZ] at h2;cases e:vs[i]? with
   | none=>rw[e] at h2;cases h2
   | some a=>rw[e] at h2;cases h2;rfl
  obtain⟨u,hu,rv⟩:=r.get ha;have hp:ps[i]?=GE y:=by
   rw[<- S.pre,List.getElem?_take_of_lt ω];exact h1
  have UX:ps.Nodup:=by rw[<- S.pre];exact S.nd.sublist (List.take_sublist _ _)
  refine⟨u,rv,?_⟩;rcases S.par y (AU hp) with k|k
  ·exact .inl ⟨k,IW UX hp hu k⟩
  obtain⟨c,e⟩:=Ni (n:=s.heap.objs.size+1) k;refine .inr ⟨.inl k,c,e,?_⟩;have q:=x.cell y c e;rw[Jb UX hp hu (by show scope.names.lookup y≠_;rw[k];decide)] at q;exact q
 ·exact e0.hok.fresh (GU (x.above y c (C4 h)))
 unfold start;show _=N.length;rw[AN,AI,Ex];omega
theorem afK{CX:CXT}{P:A6}{w:BI}{K:AE}{mg:Str->Option Ap}{base:Heap}{k:Nat}{f:ID}{name qual:Str}{params:Arguments}{body:List Stmt}{scope:F9}{dV kV dv pm ap ct oc:Ap}{an od:Option ID}
  {mT:Array (Option Ap)}{N ps:List Str}{sp:Sp}(lk:K.lookup f=GE ⟨oc,od,.func (fnOf name qual params body scope dV kV dv pm an ap ct),mT⟩)(hcd:codeIn K ap qual=true)(S:bx N ps scope)
  (len:∀vs H Q E,sp vs H Q E->vs.length=ps.length)
   (eK:∀(A:BE)(outer:List Env)(s:AD)(H:Hp)(vs:List V)(Q:VK)(E:XK),lX k (A.deeper (IA qual scope s.heap.objs.size f ap))->sp vs H Q E ->
   ∃t,PSs (Ng CX P w K mg base N qual scope f ap A outer s H E) body t/\t { nx:=λ_ H'=>Q .non H',rt:=Q } (start N vs) H) :
  cT P w K mg base CX (k+1) f (fnOf name qual params body scope dV kV dv pm an ap ct) ps sp:=by
 refine⟨len,λA outer s H args us vs Q E hr e0 hb r f8=>?_⟩;have hl:=len _ _ _ _ f8;have KX:K.In s.heap:=e0.mod.kin.keeps λb o e=>(e0.bs b o e).1;have lim:s.heap.NoLimit:=e0.mod.nolimit.keeps λb o e=>(e0.bs b o e).1;have y2:∀y∈ps.zip us,scope.names.lookup y.1=GE .local\/(scope.names.lookup y.1=GE .cell/\((cellsFrom (s.heap.objs.size+1) scope.names []).lookup y.1).isSome=true):=λ⟨n,v⟩ hy=>by
  rcases S.par n (of_mem_zip hy).1 with q|q
  ·exact .inl q
  exact .inr ⟨q,PySem.W.cellsFrom_some _ _ _ (.inl q)⟩
 refine codeAny_call_function hr.depth (KX _ _ lk) Z S.co S.gen Z (PySem.W.codeRec_of KX hcd) (hb _ _ _ _ ?_);refine wpAny_newFunctionEnv_cells S.kind y2 λenv he s1 x=>?_;subst he;refine⟨lim.keeps x.toInCall.keep,codeAny_func ?_⟩;obtain⟨t,ht,hq⟩:=eK A outer s H vs Q E (hr.deeper _) f8;have I:Inv (Ng CX P w K mg base N qual scope f ap A outer s H E) [] (start N vs) H s1:=Vh S hr.hd e0 hl r x;refine Da (ht [] s1 (start N vs) H _ I hq) (λfl s' hs=>?_) λe s' hs=>hs;have fin:∀{σ':St}{H':Hp}{v:V}{u:Ap},Inv (Ng CX P w K mg base N qual scope f ap A outer s H E) [] σ' H' s'->RelV v u->Q v H'->CE outer P w H s Q u s':=
  λ{σ' H' v u} J rv q=>⟨v,H',J.os,J.bare,J.base,J.hok,rv,q⟩
 cases fl with
 | ret u=>
  obtain⟨v,σ',H',J,rv,q⟩:=hs;exact fin J rv q
 | next=>
  obtain⟨σ',H',J,q⟩:=hs;exact fin (v:=V.non) (u:=Ap.none) J Z q
 | brk=>
  obtain⟨_,_,_,q⟩:=hs;exact Fh q
 | cont=>
  obtain⟨_,_,_,q⟩:=hs;exact Fh q
section
variable {X:Cx}{x:Str}{p pos:Pos}{e:Expr}{es:List Expr}{t:TA}{id T:String}{r:List V->Hp->VK->Prop}
def tCB(r:List V->Hp->VK->Prop)(t:TA):TE:=λσ H Q=>t σ H λvs H1=>r vs H1 Q
theorem Yo(hc:eY X (.builtin id) r)(hg:Gl X x)(hm:X.mg x=GT)(hv:D1 x=GE (.builtin id))(ha:PA X (e::es) t)(hn:x ≠ "__name__" := by decide)(k6:(x == ("__debug__" : Str))=false:=by decide)
  (he:AM (e::es) X.env=(false,eval e X.env)::AM es X.env:=by rfl) (br:(CY pos (AM es X.env)).any (·.1)=false:=by rfl):PE X (.Call (.Name x p) (e::es) [] pos) (tCB r t):=by
 intro aa s σ H Q I h;refine EX (mF I hg hm hv ?_ hn k6);exact PyProof.Rows.callWith_builtin1 (thA (ha pos aa s σ H _ I h) λus s1 vs H1 I1 r1 q1=>hc aa s1 σ H1 vs us Q I1 r1 q1) he br
theorem Um(hc:eY X (.type T) r)(hg:Gl X x)(hm:X.mg x=GT)(hv:D1 x=GE (.type T))(ha:PA X (e::es) t)(hn:x ≠ "__name__" := by decide)(k6:(x == ("__debug__" : Str))=false:=by decide)
  (he:AM (e::es) X.env=(false,eval e X.env)::AM es X.env:=by rfl) (br:(CY pos (AM es X.env)).any (·.1)=false:=by rfl):PE X (.Call (.Name x p) (e::es) [] pos) (tCB r t):=by
 intro aa s σ H Q I h;refine EX (mF I hg hm hv ?_ hn k6);exact Ch (thA (ha pos aa s σ H _ I h) λus s1 vs H1 I1 r1 q1=>hc aa s1 σ H1 vs us Q I1 r1 q1) he br
end
end L2
variable {prog P:A6}{w:BI}{A:BE}{E Q:Ap->AD->Prop}{s:AD}{lo hi l B lab high:Int}{n i j t' kk m ep:Nat}{X:L2.Cx}{e tg iter dQ:Expr}{te to td:L2.TE}{pos p2 aw ai dq aT pos2:Pos}{r:L2.V->Option Int->Option Int->L2.Hp->L2.VK->Prop}{α:Type}{xs us:List L2.V}{v oc u first ol:Ap}{a f q it I lr dd:ID}{b:Bool}{ta:L2.TA}{tb:L2.TS}{aa:List (ID×Obj)}{σ:L2.St}{H H1 H2 H' H0:L2.Hp}{ys zs os:List (Int×Int)}{ae vs:List Ap}{o:L2.HO}{es dE:List Expr}{t:AR}{T:String}{f7 N ps NX:List Str}{XP:(Str->Option Ap)->Heap->Prop}{YP:BI->Heap->Prop}{K:AE}{sp:L2.Sp}{mg:Str->Option Ap}{base h' h:Heap}{qual:Str}{fd:C3}{od an:Option ID}{mT:Array (Option Ap)}{R:L2.It->L2.Hp->Prop}{D:L2.Ends}{kX:List (Str×De)}{mp:List (Option Nat)}{scope:F9}{fp ch:List ID}{wi:L2.TI}{g:L2.TG}{tc:L2.TT}{op:Operator}{y:L2.V}{body:List Stmt}{ds:List Nat}{is PL ns:List Int}{af:List (L2.Key×L2.V)}{ws ss:List (Int×Int×Int)}{S:Int->List (Int×Int)}{a₀:Array CB}{pd:Array (Nat×Nat×Nat)}{out:List (Int×(Int×Int))}{items:Array Ap}{ZZ:Nat->Heap->Prop}
open L2.HO renaming lst → AT,tup → By
open L2.V renaming int → As,str → At,ref → AS
namespace HT
open PySem PyProof.Rows
def sIx(n d:Nat):Option Int->Nat
 | none=>d
 | some v=>if v<0 then (v+(n:Int)).toNat else min v.toNat n
theorem adn(n d:Nat)(hd:d<=n)(o:Option Int):sIx n d o<=n:=by
 cases o with
 | none=>exact hd
 | some v=>
  show(if v<0 then (v+(n:Int)).toNat else min v.toNat n)<=n;by_cases hv:v<0
  ·rw[if_pos hv];omega
  rw[if_neg hv];exact Nat.min_le_right _ _
theorem SX(v:Int)(n d:Nat):(if v<0 then max (v+(n:Int)) 0 else min v (n:Int))=((sIx n d (GE v):Nat):Int):=by
 show(if v<0 then max (v+(n:Int)) 0 else min v (n:Int))=(((if v<0 then (v+(n:Int)).toNat else min v.toNat n):Nat):Int);by_cases hv:v<0
 ·simp only[if_pos hv];omega
 simp only[if_neg hv];omega
theorem QD(lo hi:Option Int)(n:Nat):AX.Slice.sliceAdjust lo hi 1 (n:Int)=(((sIx n 0 lo:Nat):Int),((sIx n n hi:Nat):Int)):=by
 have h1:¬((1:Int)<0):=ω;unfold AX.Slice.sliceAdjust;simp only[h1,if_false];refine Prod.ext ?_ ?_
 ·cases lo with
  | none=>rfl
  | some v=>exact SX v n 0
 cases hi with
 | none=>rfl
 | some v=>exact SX v n n
theorem O1(i j:Nat):AX.Slice.slicePlaces (i:Int) (j:Int) 1=j-i:=by
 unfold AX.Slice.slicePlaces;have h1:(1:Int)>0:=ω;simp only[h1,if_true,Int.ediv_one];split <;> omega
theorem CV{v:Ap}{o:Option Int}{Q:Option Int->AD->Prop}(p:IsPart v o)(h:Q o s):AO (A3 prog w) A (AX.Slice.slicePartIndex v) Q E s:=by
 cases p with
 | none=>exact slicePart_none h
 | int i t=>exact slicePart_int h
theorem zc{sl:ID}{vl vu:Ap}{lo hi:Option Int}{Q:Int×Int×Nat->AD->Prop}(hs:s.heap.IsSliceOf sl vl vu .none)(pl:IsPart vl lo)(pu:IsPart vu hi)
  (h:Q (((sIx n 0 lo:Nat):Int),1,sIx n n hi-sIx n 0 lo) s):AO (A3 prog w) A (AX.Slice.sliceApplied (.ref sl) (pure (n:Int))) Q E s:=by
 obtain⟨os,yv,nN,MU⟩:=id hs;unfold AX.Slice.sliceApplied AX.Slice.sliceFields;refine An (An (D9 yv MU (x:=vl) Z (An (D9 yv MU (x:=vu) Z (An (D9 yv MU (x:=.none) Z (AF ?_)))))));refine An (slicePart_none ?_);show AO _ _ (if ((1:Int) == 0)=true then _ else _) _ _ s;rw[if_neg δ];refine An (CV pl (An (CV pu (An (AF ?_)))));show AO _ _ (match AX.Slice.sliceAdjust lo hi 1 (n:Int) with|(lo,hi)=>pure (lo,(1:Int),AX.Slice.slicePlaces lo hi 1)) _ _ s
 rw[QD lo hi n];show AO _ _ (pure (((sIx n 0 lo:Nat):Int),(1:Int),AX.Slice.slicePlaces ((sIx n 0 lo:Nat):Int) ((sIx n n hi:Nat):Int) 1)) _ _ s;rw[O1];exact AF h
theorem X8(xs:Array Ap)(i k:Nat):((AK k).filterMap λ(m:Nat)=>xs[((i:Int)+(m:Int)*1).toNat]?).toArray=((xs.toList.drop i).take k).toArray:=by
 have e:(λ(m:Nat)=>xs[((i:Int)+(m:Int)*1).toNat]?)=λm=>xs[i+m]?:=by
  funext m;have:((i:Int)+(m:Int)*1).toNat=i+m:=by omega
  rw[this]
 rw[e];have:=pick_run xs i k;rw[HI] at this;have e2:((λx=>xs[x]?)∘λx=>i+x)=λm=>xs[i+m]?:=rfl;rw[e2] at this;rw[this]
theorem yD{t sl:ID}{items:Array Ap}{vl vu:Ap}{lo hi:Option Int}{Q:Ap->AD->Prop}(ht:IsTup s.heap t items)(hs:s.heap.IsSliceOf sl vl vu .none)(pl:IsPart vl lo)(pu:IsPart vu hi)
  (hw:¬(sIx items.size 0 lo=0/\sIx items.size items.size hi=items.size))
  (h:Q (.ref s.heap.objs.size) { s with heap:=s.heap.push { cls:=.type "tuple",data:=.seq ((items.toList.drop (sIx items.size 0 lo)).take (sIx items.size items.size hi-sIx items.size 0 lo)).toArray } })
  (hsz:items.size<=AV):AO (A3 prog w) A (Kt (.ref t) (.ref sl)) Q E s:=by
 have eB:sizeOk (.seq ((items.toList.drop (sIx items.size 0 lo)).take (sIx items.size items.size hi-sIx items.size 0 lo)).toArray):=by
  show((items.toList.drop (sIx items.size 0 lo)).take (sIx items.size items.size hi-sIx items.size 0 lo)).toArray.size<=AV;rw[AY,FM,Fm,D2];omega
 have hj:sIx items.size items.size hi<=items.size:=adn _ _ (AW _) hi;obtain⟨os,yv,nN,MU⟩:=id hs;have hTs:s.TypeIs (.ref sl) "slice" := ⟨os,yv,nN⟩;unfold Kt
 try with_reducible refine C1 ?_
 first|refine An (AF ?_)|skip
 refine An (wpAny_sequenceKey ht.typeIs δ ?_);refine An (CU (name:=GM "__getitem__") ht.typeIs F7
  (Ct F7 ht.typeIs entry_tuple_getitem ?_ (args_tuple_getitem _ _)))
 show AO _ _ (AX.Tuple.tupleItemsOf (.ref t) >>= _) _ _ s;refine An (tupleItemsOf_ ht ?_);refine An (wpAny_typeOf hTs ?_);rw[if_pos δ];refine An (zc hs pl pu ?_);have pT:¬((((sIx items.size 0 lo:Nat):Int) == 0&&(1:Int) == 1&&(sIx items.size items.size hi-sIx items.size 0 lo) == items.size)=true):=by
  intro q;rw[BM,BM] at q;have q1:((sIx items.size 0 lo:Nat):Int)=0:=eq_of_beq q.1.1;have q2:sIx items.size items.size hi-sIx items.size 0 lo=items.size:=eq_of_beq q.2;exact hw ⟨ω,ω⟩
 show AO _ _ (if (((sIx items.size 0 lo:Nat):Int) == 0&&(1:Int) == 1&&(sIx items.size items.size hi-sIx items.size 0 lo) == items.size)=true then _ else _) _ _ s;rw[if_neg pT,X8]
 first
  | exact An (m:=AX.Tuple.tupleExact _) (BU (AF ⟨_,rfl,AF h⟩) eB)
  | exact An (m:=AX.Tuple.tupleExact _) (BU (An (AF (AF ⟨_,rfl,AF h⟩))) eB)
  | exact An (An (m:=AX.Tuple.tupleExact _) (BU (AF (AF ⟨_,rfl,AF h⟩)) eB))
  | exact An (An (m:=AX.Tuple.tupleExact _) (BU (AF ⟨_,rfl,AF h⟩) eB))
end HT
namespace L2
open PySem PySem.Spec PyProof.Rows
abbrev TO:=St->Hp->(Option Int->Hp->Prop)->Prop
def PO(X:Cx)(e:Option Expr)(t:TO):Prop:=
 ∀(aa:List (ID×Obj)) (s:AD) (σ:St) (H:Hp) (Q:Option Int->Hp->Prop),Inv X aa σ H s->t σ H Q ->
  AO (A3 X.prog X.w) X.A (evalPart e X.env) (λu s'=>∃o H',Inv X aa σ H' s'/\IsPart u o/\Q o H') X.xe s
def Ji:TO:=λ_ H Q=>Q GT H
def Ww(t:TE):TO:=λσ H Q=>t σ H λx H1=>∃i,x=.int i/\Q (GE i) H1
section
variable{lo hi:Option Expr}{tl th:TO}
theorem RL(h:PE X e te):PO X (GE e) (Ww te):=by
 intro aa s σ H Q I hw;rw[evalPart_some];refine thE (h aa s σ H _ I hw) λu s1 x H1 I1 r1 q1=>?_;obtain⟨i,rfl,q⟩:=q1;obtain⟨t,rfl⟩:=r1;exact⟨GE i,H1,I1,.int i t,q⟩
def SlR(X:Cx)(r:V->Option Int->Option Int->Hp->VK->Prop):Prop:=
 ∀(aa:List (ID×Obj)) (s:AD) (σ:St) (H:Hp) (x:V) (v vl vu:Ap) (lo hi:Option Int) (sl:ID) (Q:VK),Inv X aa σ H s->RelV x v->s.heap.IsSliceOf sl vl vu .none->IsPart vl lo->IsPart vu hi->r x lo hi H Q ->
  ∃T id,typeLookup (.type T) "__getitem__" = pure (GE (.builtin id))/\s.TypeIs v T/\AO (A3 X.prog X.w) X.A (Kt v (.ref sl)) (EP X aa σ Q) X.xe s
def tSl(r:V->Option Int->Option Int->Hp->VK->Prop)(te:TE)(tl th:TO):TE:=λσ H Q=>te σ H λx H1=>tl σ H1 λl H2=>th σ H2 λu H3=>r x l u H3 Q
def oK(xs:List V)(lo hi:Option Int):List V:=(xs.drop (HT.sIx xs.length 0 lo)).take (HT.sIx xs.length xs.length hi-HT.sIx xs.length 0 lo)
theorem Bo(xs:List V)(lo hi:Option Int):(oK xs lo hi).length<=xs.length:=by
 unfold oK;rw[FM,Fm];omega
def afV(K:AE):V->Option Int->Option Int->Hp->VK->Prop:=λx lo hi H Q=>∃a xs,x=.ref a/\SqT K H a xs /\
 ¬(HT.sIx xs.length 0 lo=0/\HT.sIx xs.length xs.length hi=xs.length)/\∀p,H p=GT->Q (.ref p) (upd H p (.tup (oK xs lo hi)))
theorem adk:SlR X (afV X.K):=by
 intro aa s σ H x v vl vu lo hi sl Q I rx hs pl pu h;obtain⟨a,xs,rfl,hx,hw,q⟩:=h;cases rx;obtain⟨ae,r,ht,hz⟩:=I.tuple hx;have am:ae.toArray.size=xs.length:=by rw[AY];exact r.length.symm
 refine⟨"tuple",_,F7.lookup,ht.typeIs,?_⟩;refine HT.yD ht hs pl pu (by rw[am];exact hw) ?_ (by rw[am];exact hz);rw[am];refine⟨.ref s.heap.objs.size,_,I.laid (t':=s.toks) (o:=.tup (oK xs lo hi)) (λb ob q=>AH _ q) (AW _) ?_,rfl,q _ (I.hok.fresh (AW _))⟩;exact⟨Cn (Bo xs lo hi) hz,_,(r.drop (HT.sIx xs.length 0 lo)).take (HT.sIx xs.length xs.length hi-HT.sIx xs.length 0 lo),IsTup.new _ _⟩
end
def ixN(n:Nat)(i:Int):Option Nat:=if 0<=i then (if i<n then GE i.toNat else GT) else if -(n:Int)<=i then GE (i+n).toNat else GT
def atI{α:Type}(xs:List α)(i:Int):Option α:=(ixN xs.length i).bind λj=>xs[j]?
theorem R8{i:Int}(h:ixN n i=GE j):seqIndex? i n=GE j/\j<n/\-(n:Int)<=i/\i<n:=by
 unfold ixN at h;by_cases h0:0<=i
 ·rw[if_pos h0] at h;by_cases h1:i<n
  ·rw[if_pos h1] at h;have e:i.toNat=j:=A0 h;exact⟨by rw[seqIndex_of h0 h1,e],ω,ω,h1⟩
  rw[if_neg h1] at h;cases h
 rw[if_neg h0] at h;by_cases h1:-(n:Int)<=i
 ·rw[if_pos h1] at h;have e:(i+n).toNat=j:=A0 h;exact⟨by rw[seqIndex_neg ω h1,e],ω,h1,ω⟩
 rw[if_neg h1] at h;cases h
theorem S9{α:Type}{xs:List α}{i:Int}{v:α}(h:atI xs i=GE v):∃j,seqIndex? i xs.length=GE j/\xs[j]?=GE v/\j<xs.length/\-(xs.length:Int)<=i/\i<xs.length:=by
 unfold atI at h;cases e:ixN xs.length i with
 | none=>rw[e] at h;cases h
 | some j=>
  rw[e] at h;obtain⟨h1,h2,h3,h4⟩:=R8 e;exact⟨j,h1,h,h2,h3,h4⟩
theorem bO{xs:List α}{v:α}(h:xs[j]?=GE v):atI xs (j:Int)=GE v:=by
 have hj:j<xs.length:=(AB.mp h).1;have e:ixN xs.length (j:Int)=GE j:=by
  unfold ixN;rw[if_pos ω,if_pos ω];simp
 unfold atI;rw[e];exact h
def Td(b:Expr):Prop:=∀o i,subscripted b false o i=operate [o,i] (Kt o i)
def IxR(X:Cx)(r:R2):Prop:=
 ∀(value slice:Expr)(aa:List (ID×Obj)) (s:AD) (σ:St) (H:Hp) (x y:V) (v u:Ap) (Q:VK),Inv X aa σ H s->RelV x v->RelV y u->r x y H Q ->
  subscripted slice false v u=operate [v,u] (Kt v u)->AO (A3 X.prog X.w) X.A (subscriptTail value slice v u) (EP X aa σ Q) X.xe s
section
variable{a b:Expr}{ta tb:TE}
def afg(K:AE):R2:=λx y H Q=>∃p xs i v,x=.ref p/\y=.int i/\SqL K H p xs/\atI xs i=GE v/\Q v H
def af0(K:AE):R2:=λx y H Q=>∃p xs i v,x=.ref p/\y=.int i/\SqT K H p xs/\atI xs i=GE v/\Q v H
theorem R6:IxR X (afg X.K):=by
 intro value slice aa s σ H x y v u Q I rx ry h hs;obtain⟨p,xs,i,z,rfl,rfl,hq,he,q⟩:=h;cases rx;obtain⟨t,rfl⟩:=ry;obtain⟨ae,r,pl,hz⟩:=I.list hq;obtain⟨j,h1,h2,h3,h4,h5⟩:=S9 he;obtain⟨w,ew,f6⟩:=r.get h2;have hl:=r.length;have hn:=En;have fin:EP X aa σ Q w s:=⟨z,H,I,f6,q⟩;by_cases h0:0<=i
 ·have hj:i.toNat=j:=by
   rw[seqIndex_of h0 h5] at h1;exact A0 h1
  exact item_listR pl.isList h0 ω (by rw[hj];simpa using ew) fin hs
 have hj:(i+(ae.toArray.size:Int)).toNat=j:=by
  rw[seqIndex_neg ω h4] at h1;rw[AY,<- hl];exact A0 h1
 exact subscriptTail_builtinR (x:=w) pl.isList.typeIs slot_list_getitem.lookup
  (wpAny_getItem_list_neg (Q:=λr s'=>r=w/\EP X aa σ Q r s') pl.isList ω (by rw[AY] <;> omega) ω (by rw[hj];simpa using ew) ⟨rfl,fin⟩) hs
theorem aeH:IxR X (af0 X.K):=by
 intro value slice aa s σ H x y v u Q I rx ry h hs;obtain⟨p,xs,i,z,rfl,rfl,hq,he,q⟩:=h;cases rx;obtain⟨t,rfl⟩:=ry;obtain⟨ae,r,pl,hz⟩:=I.tuple hq;obtain⟨j,h1,h2,h3,h4,h5⟩:=S9 he;obtain⟨w,ew,f6⟩:=r.get h2;have hl:=r.length;have hn:=En;have fin:EP X aa σ Q w s:=⟨z,H,I,f6,q⟩;exact subscriptTail_builtinR (x:=w) pl.typeIs slot_tuple_getitem.lookup
  (getItem_tuple (j:=j) (Q:=λr s'=>r=w/\EP X aa σ Q r s') pl ω ω (by rw[AY,<- hl];exact h1) (by simpa using ew) ⟨rfl,fin⟩) hs
theorem Px(ae:List Ap)(n j:Nat)(u:Ap):CA (·.setIfInBounds j u) { cls:=.type "list",data:=.seq ae.toArray n }={ cls:=.type "list",data:=.seq (ae.set j u).toArray n }:=by
 simp[CA]
theorem Inv.lst{aa:List (ID×Obj)}{σ:St}{H:Hp}{s:AD}{p:ID}{xs:List V}(I:Inv X aa σ H s)(h:H p=GE (.lst xs)) :
  ∃(ae:List Ap)(n:Nat),Vals xs ae/\s.heap.get? p=GE { cls:=.type "list",data:=.seq ae.toArray n }/\xs.length<=AV:=by
 obtain⟨z,ae,n,r,e⟩:=I.hok p _ h;exact⟨ae,n,r,e,z⟩
theorem Inv.aev{p:ID}{ys:List V}{its':List Ap}{n':Nat}{f:Obj->Obj}(I:Inv X aa σ H s)(h:H p=GE (.lst xs))
  (ho:s.heap.get? p=GE { cls:=.type "list",data:=.seq ae.toArray n })(hf:f { cls:=.type "list",data:=.seq ae.toArray n }={ cls:=.type "list",data:=.seq its'.toArray n' })(r:Vals ys its')(hz:ys.length<=AV)(t:Nat) :
  Inv X aa σ (upd H p (.lst ys)) { s with heap:=s.heap.update p f,toks:=t }:=by
 have e:(s.heap.update p f).get? p=GE { cls:=.type "list",data:=.seq its'.toArray n' }:=by
  rw[FC f ho (by rw[hf] <;> rfl),hf]
 refine I.write (x:=p) (e:=p) (by rw[h];trivial) (.inl Z) (λb u hb q=>(CO _ _ (EC hb)).trans q) ⟨_,e⟩ ?_;exact⟨hz,its',n',r,e⟩
def afe:V->V->V->Hp->(Hp->Prop)->Prop:=λo i v H Q=>∃p xs k j,o=.ref p/\i=.int k/\H p=GE (.lst xs)/\ixN xs.length k=GE j/\Q (upd H p (.lst (xs.set j v)))
theorem set_list:V8 X afe:=by
 intro aa s σ H o i v ov iv u Q I ro ri rv h;obtain⟨p,xs,k,j,rfl,rfl,hp,hj,q⟩:=h;cases ro;obtain⟨t,rfl⟩:=ri;obtain⟨ae,n,r,ho,hz⟩:=I.lst hp;obtain⟨h1,h2,h3,h4⟩:=R8 hj;have hl:=r.length;have hn:=En;have I':Inv X aa σ (upd H p (.lst (xs.set j v))) { s with heap:=s.heap.update p (CA (·.setIfInBounds j u)) }:=
  I.aev hp ho (Px ae n j u) (r.set rv j) (by rw[GW];exact hz) s.toks
 by_cases h0:0<=k
 ·have hk:k.toNat=j:=by
   rw[seqIndex_of h0 h4] at h1;exact A0 h1
  exact PySem.W.ki_setAt ho h0 ω (by rw[AY,<- hl];exact h4) (by rw[hk];exact⟨_,I',q⟩)
 have hk:(k+(ae.toArray.size:Int)).toNat=j:=by
  rw[seqIndex_neg ω h3] at h1;rw[AY,<- hl];exact A0 h1
 exact PySem.W.ki_setBack ho ω (by rw[AY,<- hl];exact h3) ω (by rw[hk];exact⟨_,I',q⟩)
theorem Jr(lo hi:Option Int)(n:Nat):(FO lo hi GT n).1=((HT.sIx n 0 lo:Nat):Int)/\(FO lo hi GT n).2.1=((HT.sIx n n hi:Nat):Int)/\(FO lo hi GT n).2.2=1:=by
 refine⟨?_,?_,rfl⟩
 ·cases lo with
  | none=>simp[FO,HT.sIx]
  | some i=>
   simp only[FO,HT.sIx,getD_none,show(1:Int)>0 by decide,if_true];by_cases h:i<0
   ·simp only[h,if_true] <;> omega
   simp only[h,if_false] <;> omega
 cases hi with
 | none=>simp[FO,HT.sIx]
 | some i=>
  simp only[FO,HT.sIx,getD_none,show(1:Int)>0 by decide,if_true];by_cases h:i<0
  ·simp only[h,if_true] <;> omega
  simp only[h,if_false] <;> omega
theorem FZ(ae:List Ap)(lo hi:Option Int):slicePick ae.toArray lo hi GT=((ae.drop (HT.sIx ae.length 0 lo)).take (HT.sIx ae.length ae.length hi-HT.sIx ae.length 0 lo)).toArray:=by
 obtain⟨h1,h2,h3⟩:=Jr lo hi ae.toArray.size;unfold slicePick;rw[h1,h2,h3];simp only[sliceRange_one,pick_run,AY] <;> rfl
def afW(K:AE):V->Option Int->Option Int->Hp->VK->Prop:=λx lo hi H Q=>∃a xs,x=.ref a/\SqL K H a xs/\∀p,H p=GT->Q (.ref p) (upd H p (.lst (oK xs lo hi)))
theorem aaK:SlR X (afW X.K):=by
 intro aa s σ H x v vl vu lo hi sl Q I rx hs pl pu h;obtain⟨a,xs,rfl,hx,q⟩:=h;cases rx;obtain⟨ae,r,ht,hz⟩:=I.list hx;have am:=r.length;refine⟨"list",_,slot_list_getitem.lookup,ht.isList.typeIs,?_⟩;refine wpAny_getItem_list_slice ht.isList hs pl pu .none ζ ?_ (by rw[AY] <;> omega)
 rw[FZ,<- am];refine⟨.ref s.heap.objs.size,_,I.laid (t':=s.toks) (o:=.lst (oK xs lo hi)) (λb ob q=>AH _ q) (AW _) ?_,rfl,q _ (I.hok.fresh (AW _))⟩;exact⟨Cn (Bo xs lo hi) hz,_,0,(r.drop (HT.sIx xs.length 0 lo)).take (HT.sIx xs.length xs.length hi-HT.sIx xs.length 0 lo),A7 _ rfl⟩
def iW:V->Bool
 | .non=>true
 | .bl _=>true
 | .int _=>true
 | .str _=>true
 | _=>false
def eqV:V->V->Bool
 | .non,.non=>true
 | .bl a,.bl b=>a == b
 | .bl a,.int b=>(if a then 1 else 0) == b
 | .int a,.bl b=>a == (if b then 1 else 0)
 | .int a,.int b=>a == b
 | .str a,.str b=>a == b
 | _,_=>false
theorem ZC{A:BE}{s:AD}{y x:V}{u v:Ap}(ry:RelV y u)(rx:RelV x v)(fy:iW y=true)(fx:iW x=true):B1 A s u v (eqV y x):=by
 cases y with
 | non=>
  cases ry;cases x with
  | non=>cases rx;exact B1.same _
  | bl b=>cases rx;exact B1.none_bool b
  | int b=>obtain⟨t,rfl⟩:=rx;exact B1.none_int b t
  | str b=>obtain⟨t,rfl⟩:=rx;exact B1.none_str b t
  | _=>exact absurd (show false=true from fx) A5
 | bl a=>
  cases ry;cases x with
  | non=>cases rx;exact B1.bool_none a
  | bl b=>cases rx;exact B1.bool_bool a b
  | int b=>obtain⟨t,rfl⟩:=rx;exact B1.bool_int a b t
  | str b=>obtain⟨t,rfl⟩:=rx;exact B1.bool_str a b t
  | _=>exact absurd (show false=true from fx) A5
 | int a=>
  obtain⟨t',rfl⟩:=ry;cases x with
  | non=>cases rx;exact B1.int_none a t'
  | bl b=>cases rx;exact B1.int_bool a t' b
  | int b=>obtain⟨t,rfl⟩:=rx;exact B1.int_int a t' b t
  | str b=>obtain⟨t,rfl⟩:=rx;exact B1.int_str a t' b t
  | _=>exact absurd (show false=true from fx) A5
 | str a=>
  obtain⟨t',rfl⟩:=ry;cases x with
  | non=>cases rx;exact B1.str_none a t'
  | bl b=>cases rx;exact B1.str_bool a t' b
  | int b=>obtain⟨t,rfl⟩:=rx;exact B1.str_int a t' b t
  | str b=>obtain⟨t,rfl⟩:=rx;exact B1.str_str a t' b t
  | _=>exact absurd (show false=true from fx) A5
 | _=>exact absurd (show false=true from fy) A5
def eqU(x:V)(u:Ap):Bool:=match u with
 | .none=>eqV .non x
 | .bool b=>eqV (.bl b) x
 | .int i _=>eqV (.int i) x
 | .str z _=>eqV (.str z) x
 | _=>false
theorem Zz{x y:V}{u:Ap}(r:RelV y u)(f:iW y=true):eqU x u=eqV y x:=by
 cases y with
 | non=>cases r;rfl
 | bl b=>cases r;rfl
 | int i=>obtain⟨t,rfl⟩:=r;rfl
 | str z=>obtain⟨t,rfl⟩:=r;rfl
 | _=>exact absurd (show false=true from f) A5
theorem yW{x:V}:∀{xs:List V}{us:List Ap},Vals xs us->xs.all iW=true->us.any (eqU x)=xs.any λy=>eqV y x
 | _,_,.nil,_=>rfl
 | y::xs,u::us,.cons r t,f=>by
  rw[all_cons,BM] at f;rw[GY,GY,Zz r f.1,yW t f.2]
theorem tQ{A:BE}{s:AD}{x:V}{v:Ap}(rx:RelV x v)(fx:iW x=true):∀{xs:List V}{us:List Ap},Vals xs us->xs.all iW=true->∀u∈us,B1 A s u v (eqU x u)
 | _,_,.nil,_=>λu hu=>by cases hu
 | y::xs,u::us,.cons r t,f=>λu' hu=>by
  rw[all_cons,BM] at f;rcases AL.mp hu with rfl|hu
  ·rw[Zz r f.1];exact ZC r rx f.1 fx
  exact tQ rx fx t f.2 u' hu
def inV(x:V)(xs:List V):Bool:=xs.any λy=>eqV y x
def rIn(K:AE)(neg:Bool):R2:=λx y H Q=>∃p xs,y=.ref p/\(SqL K H p xs\/SqT K H p xs)/\iW x=true/\xs.all iW=true/\Q (.bl (if neg then !inV x xs else inV x xs)) H
theorem Ur:OpR X (B0 .In) (rIn X.K false):=by
 intro aa s σ H x y v u Q I rx ry h;obtain⟨p,xs,rfl,hq,fx,fs,q⟩:=h;cases ry;rcases hq with hq|hq
 ·obtain⟨ae,r,pl,hz⟩:=I.list hq;refine SeqAt.in_listAt (eqU x) pl.isList (λw hw=>tQ rx fx r fs w (by simpa using hw)) ⟨.bl _,H,I,rfl,?_⟩;rw[show ae.toArray.any (eqU x)=ae.any (eqU x) by simp,yW r fs];exact q
 obtain⟨ae,r,pl,hz⟩:=I.tuple hq;refine SeqAt.in_tupleAt (eqU x) pl (λw hw=>tQ rx fx r fs w (by simpa using hw)) ⟨.bl _,H,I,rfl,?_⟩;rw[show ae.toArray.any (eqU x)=ae.any (eqU x) by simp,yW r fs];exact q
theorem JK:OpR X (B0 .NotIn) (rIn X.K true):=by
 intro aa s σ H x y v u Q I rx ry h;obtain⟨p,xs,rfl,hq,fx,fs,q⟩:=h;cases ry;rcases hq with hq|hq
 ·obtain⟨ae,r,pl,hz⟩:=I.list hq;refine SeqAt.notIn_listAt (eqU x) pl.isList (λw hw=>tQ rx fx r fs w (by simpa using hw)) ⟨.bl _,H,I,rfl,?_⟩;rw[show ae.toArray.any (eqU x)=ae.any (eqU x) by simp,yW r fs];exact q
 obtain⟨ae,r,pl,hz⟩:=I.tuple hq;refine SeqAt.notIn_tupleAt (eqU x) pl (λw hw=>tQ rx fx r fs w (by simpa using hw)) ⟨.bl _,H,I,rfl,?_⟩;rw[show ae.toArray.any (eqU x)=ae.any (eqU x) by simp,yW r fs];exact q
theorem m5:eY X (.builtin "len") (λxs H Q=>∃p ys,xs=[.ref p]/\(SqL X.K H p ys\/SqT X.K H p ys)/\Q (.int ys.length) H):=by
 intro aa s σ H xs us Q I r h;obtain⟨p,ys,rfl,hq,q⟩:=h;obtain⟨u,rfl,rx⟩:=vals1 r;cases rx;have hn:=En;rcases hq with hq|hq
 ·obtain⟨ae,r',pl,hz⟩:=I.list hq;have am:=r'.length;exact Calls.call_len_list pl.isList (by simp only[AY] <;> omega) ⟨.int ys.length,H,I.tok _,⟨s.toks+1,by rw[AY,am]⟩,q⟩
 obtain⟨ae,r',pl,hz⟩:=I.tuple hq;have am:=r'.length;exact len_tuple pl (by simp only[AY] <;> omega) ⟨.int ys.length,H,I.tok _,⟨s.toks+1,by rw[AY,am]⟩,q⟩
theorem Gx:eY X (.type "tuple") (λxs H Q=>∃p ys,xs=[.ref p]/\((SqL X.K H p ys/\∀l,H l=GT->Q (.ref l) (upd H l (.tup ys)))\/(SqT X.K H p ys/\Q (.ref p) H))):=by
 intro aa s σ H xs us Q I r h;obtain⟨p,ys,rfl,h⟩:=h;obtain⟨u,rfl,rx⟩:=vals1 r;cases rx;rcases h with⟨hq,q⟩|⟨hq,q⟩
 ·obtain⟨ae,r',pl,hz⟩:=I.list hq;have am:=r'.length;refine call_tuple_list pl.isList (λh' kp=>?_) (by simp only[AY] <;> omega)
  have I1:Inv X aa σ H { s with heap:=h' }:=I.kept (t':=s.toks) kp;have I2:Inv X aa σ (upd H h'.objs.size (.tup ys)) { s with heap:=h'.push { cls:=.type "tuple",data:=.seq ae.toArray } }:=
   I1.laid (t':=s.toks) (λb o e=>AH _ e) (AW _) (show cR X.prog X.w _ _ _ (.tup ys) from⟨hz,ae,r',IsTup.new _ _⟩)
  exact⟨.ref h'.objs.size,_,I2,rfl,q _ (I1.hok.fresh (AW _))⟩
 obtain⟨ae,r',pl,hz⟩:=I.tuple hq;exact call_tuple_same pl ⟨.ref p,H,I,rfl,q⟩
def tyV(K:AE)(T:String)(x:V)(H:Hp):Prop:=match x with
 | .str _=>T = "str"
 | .int _=>T = "int"
 | .ref p=>(T = "list" /\ ∃xs,SqL K H p xs)\/(T = "tuple" /\ ∃o,K.lookup p=GE o/\o.cls=.type "tuple" /\ o.dict=GT) \/
   (T = "dict" /\ ((∃af,H p=GE (.dK af))\/∃af,H p=GE (.dT af)))\/(T = "set" /\ ∃S n,H p=GE (.set S n))
 | _=>False
theorem Jg{aa:List (ID×Obj)}{σ:St}{H:Hp}{s:AD}{T:String}{x:V}{v:Ap}(I:Inv X aa σ H s)(r:RelV x v)(ty:tyV X.K T x H) :
  s.TypeIs v T/\∀a,v=.ref a->∃ob,s.heap.get? a=GE ob/\ob.dict=GT:=by
 cases x with
 | str z=>
  obtain⟨t,rfl⟩:=r;cases (show T = "str" from ty);exact⟨typeIs_str s z t,λ_ e=>nomatch e⟩
 | int i=>
  obtain⟨t,rfl⟩:=r;cases (show T = "int" from ty);exact⟨typeIs_int s i t,λ_ e=>nomatch e⟩
 | ref p=>
  cases r;rcases ty with⟨rfl,xs,hq⟩|⟨rfl,o,hk,hc,hd⟩|⟨rfl,hk⟩|⟨rfl,S,n,hk⟩
  ·obtain⟨ae,_,pl,_⟩:=I.list hq;refine⟨pl.isList.typeIs,λa e=>?_⟩;cases e;obtain⟨o,n,e,c,hd,_⟩:=pl;exact⟨o,e,hd⟩
  ·refine⟨⟨o,I.kIn p o hk,hc⟩,λa e=>?_⟩;cases e;exact⟨o,I.kIn _ o hk,hd⟩
  ·have z:∃o,s.heap.get? p=GE o/\o.ExactDict:=by
    rcases hk with⟨af,hk⟩|⟨af,hk⟩
    ·obtain⟨_,_,_,_,o,_,_,e,ex,_⟩:=I.hok p _ hk;exact⟨o,e,ex⟩
    obtain⟨_,_,_,_,o,_,_,e,ex,_⟩:=I.hok p _ hk;exact⟨o,e,ex⟩
   obtain⟨o,e,ex⟩:=z;refine⟨⟨o,e,ex.1⟩,λa e2=>?_⟩;cases e2;exact⟨o,e,ex.2.1⟩
  obtain⟨o,_,_,_,e,ex,_⟩:=I.hok p _ hk;refine⟨⟨o,e,ex.1⟩,λa e2=>?_⟩;cases e2;exact⟨o,e,ex.2.1⟩
 | _=>exact Fh ty
variable {o:Expr}{t:TA}{name:Str}{id:String}{r:V->List V->Hp->VK->Prop}
end
def MtM(X:Cx)(id:String)(r:V->List V->Hp->VK->Prop):Prop:=
 ∀(aa:List (ID×Obj)) (s:AD) (σ:St) (H:Hp) (x:V) (xs:List V) (v:Ap) (us:List Ap) (Q:VK),Inv X aa σ H s->RelV x v->Vals xs us->r x xs H Q ->
  AO (A3 X.prog X.w) X.A (call (.builtin id) (v::us)) (EP X aa σ Q) X.xe s
theorem Vals.one:∀{x:V}{us:List Ap},Vals [x] us->∃u,us=[u]/\RelV x u:=λh=>by
 cases h with
 | cons r h=>
  cases h;exact⟨_,rfl,r⟩
theorem Vals.zero:∀{us:List Ap},Vals [] us->us=[]
 | _,.nil=>rfl
theorem Vals.dropLast{xs:List V}{us:List Ap}(h:Vals xs us):Vals xs.dropLast us.dropLast:=by
 induction h with
 | nil=>exact .nil
 | cons r t ih=>
  cases t with
  | nil=>exact .nil
  | cons q t'=>exact .cons r ih
theorem Vals.reverse{xs:List V}{us:List Ap}(h:Vals xs us):Vals xs.reverse us.reverse:=by
 induction h with
 | nil=>exact .nil
 | cons r t ih=>rw[reverse_cons,reverse_cons];exact Vals.append ih (.cons r .nil)
theorem Vals.rep{xs:List V}{us:List Ap}(h:Vals xs us):∀k:Nat,Vals (A8 k xs).flatten (A8 k us).flatten
 | 0=>.nil
 | k+1=>by
  rw[F0,F0,flatten_cons,flatten_cons];exact Vals.append h (Vals.rep h k)
theorem Qm{α:Type}(l:List α):l.eraseIdx (l.length-1)=l.dropLast:=by
 induction l with
 | nil=>rfl
 | cons a r ih=>
  cases r with
  | nil=>rfl
  | cons b r=>
   have e:(a::b::r).length-1=((b::r).length-1)+1:=by
    have h1:(a::b::r).length=r.length+2:=rfl;have h2:(b::r).length=r.length+1:=rfl;omega
   rw[e,List.eraseIdx_cons_succ,ih]
   all_goals rfl
theorem foldl_rep(ae:List Ap):∀(k:Nat)(ac:List Ap),
  List.foldl (λx1 x2=>x1++x2) ac.toArray (A8 k ae.toArray)=(ac++(A8 k ae).flatten).toArray
 | 0,ac=>by simp
 | k+1,ac=>by
  have e:ac.toArray++ae.toArray=(ac++ae).toArray:=by simp
  have e2:(ac++ae)++(A8 k ae).flatten=ac++(A8 (k+1) ae).flatten:=by
   rw[F0,flatten_cons,CS]
  rw[<- e2,<- foldl_rep ae k (ac++ae),<- e,F0,List.foldl_cons]
section
variable{l b:ID}{ys zs:List V}
theorem Inv.aex{its':List Ap}{f:Array Ap->Array Ap}(I:Inv X aa σ H s)(hH:H l=GE (.lst xs))
  (e:s.heap.get? l=GE { cls:=.type "list",data:=.seq ae.toArray n })(hf:f ae.toArray=its'.toArray)(hv:Vals ys its')(hz:ys.length<=AV) :
  Inv X aa σ (upd H l (.lst ys)) { s with heap:=s.heap.update l (CA f),toks:=t' }:=by
 have q:=PySem.IsL.update e f;rw[hf] at q;refine I.write (x:=l) (e:=l) (by rw[hH];exact trivial) (.inl Z) (λb' u hb hu=>(CO s.heap (CA f) (EC hb)).trans hu) ⟨_,q⟩ ?_;exact⟨hz,its',_,hv,q⟩
theorem Inv.afC(I:Inv X aa σ H s)(hv:Vals ys ae)(hz:ys.length<=AV) :
  Inv X aa σ (upd H s.heap.objs.size (.lst ys)) { s with heap:=s.heap.push { cls:=.type "list",data:=.seq ae.toArray },toks:=t' }:=
 I.laid (λ_ _ q=>AH _ q) (AW _) ⟨hz,ae,0,hv,A7 _ rfl⟩
theorem Inv.fresh(I:Inv X aa σ H s):H s.heap.objs.size=GT:=I.hok.fresh (AW _)
theorem Inv.Pz(I:Inv X aa σ H s)(hH:H l=GE (.lst xs)):xs.length<=AV/\∃(ae:List Ap)(n:Nat),Vals xs ae/\xs.length=ae.length/\s.heap.get? l=GE { cls:=.type "list",data:=.seq ae.toArray n }:=by
 obtain⟨z,ae,n,r,e⟩:=I.hok l _ hH;exact⟨z,ae,n,r,r.length,e⟩
theorem Lx(h:n<=AV):AX.List.listTooLong n=false:=by
 unfold AX.List.listTooLong;exact decide_eq_false ω
end
def aa4:V->List V->Hp->VK->Prop:=λx vs H Q=>∃l xs y,x=.ref l/\vs=[y]/\H l=GE (.lst xs)/\xs.length<AV/\Q .non (upd H l (.lst (xs++[y])))
theorem U6:MtM X "list.append" aa4:=by
 intro aa s σ H x vs v us Q I rx rv h;obtain⟨l,xs,y,rfl,rfl,hH,hz,q⟩:=h;cases rx;obtain⟨u,rfl,ru⟩:=rv.one;obtain⟨z,ae,n,r,hl,e⟩:=I.Pz hH;refine FH F.slot_list_append ⟨_,e,rfl⟩ KA (JA _ _) (PySem.list_append l ae.toArray n u (by rw[AY];omega)) ⟨e,?_⟩;refine⟨.non,_,I.aex (its':=ae++[u]) hH e ζ (r.append (.cons ru .nil)) ?_,rfl,q⟩;rw[AN,AQ];omega
def aa0:V->List V->Hp->VK->Prop:=λx vs H Q=>∃l b xs zs,x=.ref l/\vs=[.ref b]/\H l=GE (.lst xs)/\H b=GE (.lst zs)/\xs.length+zs.length<=AV/\Q .non (upd H l (.lst (xs++zs)))
theorem U5:MtM X "list.extend" aa0:=by
 intro aa s σ H x vs v us Q I rx rv h;obtain⟨l,b,xs,zs,rfl,rfl,hH,hB,hz,q⟩:=h;cases rx;obtain⟨u,rfl,ru⟩:=rv.one;cases ru;obtain⟨z,ae,n,r,hl,e⟩:=I.Pz hH;obtain⟨z2,cz,n2,r2,ub,e2⟩:=I.Pz hB;have hsz:ae.toArray.size+cz.toArray.size<=AV:=by rw[AY,AY];omega
 have kS:¬(!ae.toArray.isEmpty&&AX.List.listTooLong (ae.toArray.size+cz.toArray.size))=true:=by
  rw[Lx hsz,Bool.and_false];exact A5
 refine FH F.slot_list_extend ⟨_,e,rfl⟩ F.entry_list_extend (F.args_list_extend_2 _ _)
  (AutoSeq1.list_extend_list_list_0 l ae.toArray n b cz.toArray n2 kS (by rw[AY];omega) ω) ⟨e,e2,?_⟩
 refine⟨.non,_,I.aex (its':=ae++cz) hH e ζ (r.append r2) ?_,rfl,q⟩;rw[AN];omega
def afY:V->List V->Hp->VK->Prop:=λx vs H Q=>∃l xs y,x=.ref l/\vs=[]/\H l=GE (.lst xs)/\xs[xs.length-1]?=GE y/\Q y (upd H l (.lst xs.dropLast))
theorem aer:MtM X "list.pop" afY:=by
 intro aa s σ H x vs v us Q I rx rv h;obtain⟨l,xs,y,rfl,rfl,hH,hy,q⟩:=h;cases rx;have oS:=rv.zero;subst oS;obtain⟨z,ae,n,r,hl,e⟩:=I.Pz hH;obtain⟨u,hu,ru⟩:=r.get hy;have oP:ae.toArray[ae.toArray.size-1]?=GE u:=by
  show ae.toArray[ae.length-1]?=GE u;rw[<- C2,<- hl];exact hu
 refine FH F.slot_list_pop ⟨_,e,rfl⟩ F.entry_list_pop (F.args_list_pop_1 _) (MeetsSeq.list_pop_last l ae.toArray n u oP (by rw[AY];omega)) ⟨e,?_⟩;refine⟨y,_,I.aex (its':=ae.dropLast) hH e ?_ r.dropLast ?_,ru,q⟩
 ·show ae.toArray.eraseIdxIfInBounds (ae.toArray.size-1)=ae.dropLast.toArray;rw[AY,List.eraseIdxIfInBounds_toArray,Qm]
 rw[List.length_dropLast];omega
def af5:R2:=λx y H Q=>∃l b xs zs,x=.ref l/\y=.ref b/\H l=GE (.lst xs)/\H b=GE (.lst zs)/\xs.length+zs.length<=AV/\∀p,H p=GT->Q (.ref p) (upd H p (.lst (xs++zs)))
theorem aec:OpR X (EU .Add) af5:=by
 intro aa s σ H x y v u Q I rx ry h;obtain⟨l,b,xs,zs,rfl,rfl,hH,hB,hz,q⟩:=h;cases rx;cases ry;obtain⟨z,ae,n,r,hl,e⟩:=I.Pz hH;obtain⟨z2,cz,n2,r2,ub,e2⟩:=I.Pz hB;refine PySem.P.add_list e e2 ?_ (by rw[AY,AY];omega);have ea:ae.toArray++cz.toArray=(ae++cz).toArray:=by simp
 rw[ea];exact⟨.ref _,_,I.afC (t':=s.toks) (r.append r2) (by rw[AN];omega),rfl,q _ I.fresh⟩
def afX:R2:=λx y H Q=>∃l k xs,x=.ref l/\y=.int k/\H l=GE (.lst xs)/\-(2^63)<=k/\k<2^63/\xs.length*k.toNat<=AV /\
 ∀p,H p=GT->Q (.ref p) (upd H p (.lst (A8 k.toNat xs).flatten))
theorem len_rep{α:Type}(xs:List α)(k:Nat):(A8 k xs).flatten.length=k*xs.length:=by
 induction k with
 | zero=>simp
 | succ k ih=>rw[F0,flatten_cons,AN,ih,Nat.succ_mul,add_comm]
theorem ad7:OpR X (EU .Mult) afX:=by
 intro aa s σ H x y v u Q I rx ry h;obtain⟨l,k,xs,rfl,rfl,hH,h1,h2,hz,q⟩:=h;cases rx;obtain⟨t,rfl⟩:=ry;obtain⟨z,ae,n,r,hl,e⟩:=I.Pz hH;have am:ae.toArray.size*k.toNat<=AV:=by rw[AY,<- hl];exact hz
 have RU:¬ae.toArray.size*k.toNat>(2^63-1)/8:=by
  have:(AV:Nat)<=(2^63-1)/8:=by decide
  omega
 have RI:¬(!Builtin.List.listFitsIndex k)=true:=by
  rw[fitsIndex_both h1 h2];exact A5
 have kS:¬AX.List.listTooLong (ae.toArray.size*k.toNat)=true:=by
  rw[Lx am];exact A5
 have Q3:List.foldl (λx1 x2=>x1++x2) #[] (A8 (if ae.toArray.isEmpty=true then 0 else k.toNat) ae.toArray)=(A8 k.toNat ae).flatten.toArray:=by
  have f0:∀m:Nat,List.foldl (λx1 x2=>x1++x2) #[] (A8 m ae.toArray)=(A8 m ae).flatten.toArray:=λm=>by
   have:=foldl_rep ae m [];rw[G0] at this;exact this
  rw[f0];cases ae with
  | nil=>simp
  | cons a r'=>rw[if_neg ζ]
 refine wpAny_binaryOp_repeat_ref (T := "list") (U := "int") δ ⟨_,e,rfl⟩ (λs'=>typeIs_int s' k t) noFill_list_mul F.fills_int_mul F.slot_int_rmul repeat_list F.slot_int_index.lookup
  (FH F.slot_int_rmul (typeIs_int s k t) F.entry_int_rmul (F.args_int_rmul_2 _ _) (int___rmul___int_list k t l ae.toArray n)
   ⟨e,rfl,⟨_,e,rfl⟩,FH F.slot_list_mul ⟨_,e,rfl⟩ F.entry_list_mul (F.args_list_mul_2 _ _) (AutoListH.list___mul___list_int_3 l ae.toArray n k t RI RU kS) ⟨e,?_⟩⟩)
 rw[Q3];exact⟨.ref _,_,I.afC (t':=s.toks) (r.rep k.toNat) (by rw[len_rep,Nat.mul_comm];exact hz),rfl,q _ I.fresh⟩
end L2
namespace Att
open PySem PySem.W PySem.Calls PyProof.Rows
theorem Bt{P:Params}{h:Heap}:∀(ns:List Int)(vs:List Ap),WellAll P h vs (ns.map WData.int)->ER vs ns:=by
 intro ns
 induction ns with
 | nil=>
  intro vs w;rw[map_nil] at w;cases w;exact .nil
 | cons n ns ih=>
  intro vs w;rw[DI] at w;cases w with
  | cons a b=>
   cases a;exact .cons _ _ (ih _ b)
theorem TY{l:OpenLaw}{n:Nat}(hn:l.most=GE n){P:Params}{h:Heap}{args:List WData}{qV:List Ap}
  (ny:l.row.toRowW.claim.pre args=true)(MD:WellAll P h qV args) :
  ∃a vs ns,qV=[BY a]/\args=[WData.list (ns.map WData.int)]/\h.get? a=GE { cls:=.type "list",data:=.seq vs.toArray }/\ER vs ns/\ns.length<=n:=by
 have hsh:WShape.hasAll [] args [.list .int]=true:=(pre_splitW ny).1;have hc:l.pre.holds [] { args:=args }=true:=(pre_splitW ny).2;obtain⟨d,r,rfl,h1,h2⟩:=hasAllW_cons hsh;obtain rfl:=hasAllW_nil h2;obtain⟨xs,rfl,h3⟩:=hasW_list h1;obtain⟨ns,rfl⟩:=items_int h3;have am:ns.length<=n:=by
  unfold OpenLaw.pre at hc;have h4:(WTm.not (.lt (.lit (.int (n:Int))) (.len (.arg 0)))).holds [] { args:=[.list (ns.map .int)] }=true:=by
   have h4:=(holds_andW hc).1;rw[hn] at h4;exact h4
  have h5:=condW_of h4 (w_not (w_lt w_lit (w_len_list (w_arg Z))));rw[AI] at h5;refine Nat.le_of_not_lt λq=>?_;have q':(n:Int)<((ns.length:Nat):Int):=ω
  first
   | (rw[decide_eq_true q'] at h5;exact absurd h5 δ)
   | (simp at h5;omega)
 cases MD with
 | cons w1 w2=>
  cases w2;cases w1 with
  | list ho cq=>exact⟨_,_,ns,rfl,rfl,ho,Bt ns _ cq,am⟩
theorem Ue(l:OpenLaw)(args:List WData):l.row.toRowW.claim.post args (.bool true) args=true:=
 postW_of (r:=l.row.toRowW) (X:=(true == true))
  (show WShape.has [] (.bool true) .bool=true by first|rfl|decide|simp[WShape.has,WShape.arms,WShape.armsAll])
  (show(WTm.eq .res (.lit (.bool true))).value [] { args:=args,res:=GE (.bool true),after:=args }=GE (.bool (true == true)) from w_eq_bool (w_res Z) w_lit) rfl
theorem NK{l:OpenLaw}{q:A6}{d:DefRec}
  (hn:l.most=GE n)(zi:d.params.defaults=[])
   (call:∀(w:BI)(s₀ s₁:AD)(mg mb:Str->Option Ap)(fa:ID)(o:Obj)(pm cd dv:Ap)(a:ID)(vs:List Ap)(ns:List Int),
   Ground q f7 [] XP w s₀ mg mb s₁.heap->YP w s₁.heap ->
   s₁.heap.get? fa=GE o->o.data=.func (docDef d.name d.params d.body d.scope pm cd dv)->s₁.heap.CodeRec cd d.name->mg d.name=GE (.ref fa) ->
   s₁.heap.get? a=GE { cls:=.type "list",data:=.seq vs.toArray }->ER vs ns->ns.length<=n->s₁.gens=#[] ->
   Iy (A3 l.prog w) Kx (.call (.ref fa) ⟨[.ref a],[]⟩) (λr s'=>r=.ok (.ret (.bool true))/\OldK s₁.heap s'.heap/\s'.os=s₁.os/\Iq s'.gens) s₁) :
  WalkO q f7 XP YP l.row.toRowW d [] (λf vs=>PySem.call f vs):=by
 intro w s₀ s₁ mg mb G Y fa o pm cd dv dV kV ho hd hcd hD hmg hg args qV as ny hlay hrd MD jp;obtain rfl:dV=.none:=Dflts.none hD zi;obtain rfl:kV=.none:=Dflts.noKw hD;obtain⟨a,vs,ns,rfl,rfl,tF,kT,am⟩:=TY hn ny MD;refine enter_call (FY (call w s₀ s₁ mg mb fa o pm cd dv a vs ns G Y ho (fd_plain hd) hcd hmg tF kT am hg) λr s' hq=>?_);obtain⟨rfl,h2,h3,h4⟩:=hq;exact⟨.inl ⟨.bool true,.bool true,[],rfl,λ_=>rfl,.bool true,Ue l _,λ_=>⟨List.Pairwise.nil,λ_ hm=>(nomatch hm)⟩⟩,h2,h3,h4⟩
end Att
namespace L2
open PySem PySem.Spec PyProof.Rows
theorem GQ:∀{vs:List Ap}{ns:List Int},ER vs ns->Vals (ns.map As) vs
 | _,_,.nil=>.nil
 | _,_,.cons n t h=>.cons ⟨t,rfl⟩ (GQ h)
def Only(H:Hp):Prop:=∀b,H b=GT\/∃o xs,H b=GE (.frz o (.lst xs))
theorem Y5{P:A6}{w:BI}{K:AE}{mg mb:Str->Option Ap}{CX:CXT}{k:Nat}{fa a:ID}{fd:C3}{x:Str}{sp:Sp}{s₁:AD}{vs:List Ap}{ns:List Int}
  (KX:K.In s₁.heap)(ir:s₁.heap.Ns Cs mg)(hb:s₁.heap.Ns builtinsNs mb)(RY:∀x:Str,x ≠ "__name__" -> mb x=D1 x)(RA:s₁.heap.NoLimit)(hg:s₁.gens=#[])
  (ha:s₁.heap.get? a=GE { cls:=.type "list",data:=.seq vs.toArray })(hi:ER vs ns)(hl:ns.length<=AV)(hr:lX k Kx)
  (F:∀base:Heap,K.In base->base.Ns Cs mg->cT P w K mg base CX k fa fd [x] sp)(zD:∀(s:AD)(u:Ap),BindsTo s fd ⟨[u],[]⟩ [(x,u)])
  (f8:∀H:Hp,Only H->SqL K H a (ns.map As)->sp [.ref a] H (λv _=>v=.bl true) λ_ _ _=>False)
  (So:∀H e s',CX [] H s₁ (λ_ _ _=>False) e s'->False) :
  Iy (A3 P w) Kx (.call (.ref fa) ⟨[.ref a],[]⟩) (λr s'=>r=.ok (.ret (.bool true))/\OldK s₁.heap s'.heap/\s'.os=s₁.os/\Iq s'.gens) s₁:=by
 have rv:=GQ hi;have PQ:=hi.length
 -- from an abstract heap in which nothing but the script may be tracked
 have core:∀H:Hp,Only H->SqL K H a (ns.map As)->HOk P w H s₁.heap->(∀b,H b≠GT->b=a)->(H a≠GT->K.lookup a=GT) ->
   Iy (A3 P w) Kx (.call (.ref fa) ⟨[.ref a],[]⟩) (λr s'=>r=.ok (.ret (.bool true))/\OldK s₁.heap s'.heap/\s'.os=s₁.os/\Iq s'.gens) s₁:=by
  intro H hO hS hok hA hK;have iF:∀{b:ID}{o:Obj},s₁.heap.get? b=GE o->H b=GT->(J5 s₁.heap H).get? b=GE o:=λe n=>Zj e n;have xN:∀{b:ID}{o:Obj}{es:Array DictEntry}{ep:Nat},s₁.heap.get? b=GE o->o.data=.dict es ep->H b=GT:=λ{b o es ep} e d=>by
   cases q:H b with
   | none=>rfl
   | some u=>
    have e':b=a:=hA b (by rw[q];simp);subst e';rw[ha] at e;cases e;have d':Data.seq vs.toArray _=Data.dict es ep:=d;cases d'
  have Mm:∀{b:ID}{m:Str->Option Ap},s₁.heap.Ns b m->(J5 s₁.heap H).Ns b m:=λ{b m} ⟨o,es,ep,e,d,r⟩=>⟨o,es,ep,iF e (xN e d),d,r⟩;have WU:K.In (J5 s₁.heap H):=λb o e=>iF (KX b o e) (by
   cases q:H b with
   | none=>rfl
   | some u=>
    have e':b=a:=hA b (by rw[q];simp);subst e';rw[hK (by rw[q];simp)] at e;cases e)
  have hM:Mod K mg (J5 s₁.heap H):=⟨WU,Mm ir,⟨mb,Mm hb,RY⟩,let ⟨mc,h1,h2⟩:=RA;⟨mc,Mm h1,h2⟩⟩;have e0:acQ P w K mg (J5 s₁.heap H) Kx [] s₁ H:=⟨rfl,hM,λb o e=>ab0 e,le_of_eq (Vk _ _),trivial,λb hb=>absurd (show b∈([]:List ID) from hb) ζ,hok,.of_eq hg⟩;refine FY ((F _ WU (Mm ir)).run Kx [] s₁ H ⟨[.ref a],[]⟩ [.ref a] [.ref a] _ _ hr e0 (zD s₁ (.ref a)) (.cons Z .nil) (f8 H hO hS)) λr s' h=>?_;cases r with
  | error e=>exact(So H e s' h).elim
  | ok fl=>
   cases fl with
   | next=>exact Fh h
   | brk=>exact Fh h
   | cont=>exact Fh h
   | ret u=>
    obtain⟨v,H',os,bare,un,QR,r',q⟩:=h;have q':v=.bl true:=q;subst q';obtain rfl:u=EQ true:=r';refine⟨rfl,OldK.of_keep λb o e=>?_,os,bare⟩;cases q:H b with
    | none=>exact un.keep b o e q (by intro z;exact absurd (show b∈([]:List ID) from z) ζ) ζ
    | some u=>
     rcases hO b with z|⟨ob,xs,z⟩
     ·rw[q] at z;cases z
     have z2:=un.frzs b ob _ z;obtain⟨e1,_⟩:=hok b _ z;obtain⟨e2,_⟩:=QR b _ z2;rw[e] at e1;cases e1;exact e2
 cases hk:K.lookup a with
 | some o=>
  -- the script is one of the module's own objects
  have e:=KX a o hk;rw[ha] at e;cases e;refine core (λ_=>GT) (λ_=>.inl Z) (.inr ⟨_,vs.toArray,_,hk,rfl,rfl,rfl,by rw[AY,PQ];exact hl,by simpa using rv⟩) (λb u z=>by have z':(GT:Option HO)=GE u:=z;cases z') (λb z=>absurd Z z) λz=>absurd Z z
 | none=>
  refine core (λb=>if b=a then GE (.frz { cls:=.type "list",data:=.seq vs.toArray } (.lst (ns.map As))) else GT) (λb=>?_) (.inl (.inr ⟨{ cls:=.type "list",data:=.seq vs.toArray },if_pos rfl⟩)) (λb u z=>?_) (λb z=>?_) λ_=>hk
  ·by_cases hb:b=a
   ·exact .inr ⟨_,_,if_pos hb⟩
   exact .inl (if_neg hb)
  ·by_cases hb:b=a
   ·have z':=(if_pos hb).symm.trans z;cases z';subst hb;exact⟨ha,by rw[AI];exact hl,vs,_,rv,ha⟩
   have z':=(if_neg hb).symm.trans z;cases z'
  by_cases hb:b=a
  ·exact hb
  exact absurd (if_neg hb) z
theorem aav{l:PySem.W.OpenLaw}{k:Nat}{q:A6}{d:DefRec}{K:Params->AE}{CX:BI->CXT}{sp:BI->Sp}{x:Str}
  (hn:l.most=GE n)(ib:n<=AV)(zi:d.params.defaults=[])(hr:lX k Kx)
  (hY:∀(w:BI)(h:Heap),YP w h->(K w.params).In h)
   (F:∀(w:BI)(mg:Str->Option Ap)(fa:ID)(h:Heap),(K w.params).In h->h.Ns Cs mg->mg d.name=GE (.ref fa) ->
   ∃fd:C3,(∀(s:AD)(u:Ap),BindsTo s fd ⟨[u],[]⟩ [(x,u)]) /\
    ∀base:Heap,(K w.params).In base->base.Ns Cs mg->cT l.prog w (K w.params) mg base (CX w) k fa fd [x] (sp w))
  (f8:∀(w:BI)(H:Hp)(a:ID)(ns:List Int),ns.length<=n->Only H->SqL (K w.params) H a (ns.map As)->sp w [.ref a] H (λv _=>v=.bl true) λ_ _ _=>False)
  (So:∀(w:BI)(H:Hp)(s:AD)(e:Ap)(s':AD),CX w [] H s (λ_ _ _=>False) e s'->False) :
  PySem.W.WalkO q f7 XP YP l.row.toRowW d [] (λf vs=>PySem.call f vs):=by
 refine Att.NK hn zi λw s₀ s₁ mg mb fa o pm cd dv a vs ns G Y ho hd hcd hmg tF kT am hg=>?_;have KX:=hY w _ Y;obtain⟨fd,hb,hF⟩:=F w mg fa _ KX G.T.g hmg;exact Y5 KX G.T.g G.T.b G.T.builtins G.T.nolimit hg tF kT (Cn am ib) hr hF hb (λH hO hS=>f8 w H a ns am hO hS) λH e s'=>So w H s₁ e s'
def je(s:Stmt):Arguments:=match s with
 | .FunctionDef _ a _ _ _ _ _ _ _ _=>a
 | _=>{ posonlyargs:=[],args:=[],vararg:=GT,kwonlyargs:=[],kw_defaults:=[],kwarg:=GT,defaults:=[] }
def fY(s:Stmt):List Stmt:=match s with
 | .FunctionDef _ _ b _ _ _ _ _ _ _=>b
 | _=>[]
def aj(s:Stmt):F9:=match s with
 | .FunctionDef _ _ _ _ _ _ sc _ _ _=>sc
 | _=>{ kind:=.function,names:=[],isGenerator:=false,isCoroutine:=false }
abbrev CX0:CXT:=λ_ _ _ _ _ _=>False
abbrev E0:XK:=λ_ _ _=>False
theorem afv:QF CX0 X E0:=λ_ _ _ _ _ _ _ h=>h.elim
structure Fun(K:AE)(x qual:Str)(st:Stmt)(f:ID)(fd:C3):Prop where
 ex:∃(oc:Ap)(od:Option ID)(kV dv pm:Ap)(an:Option ID)(ap ct:Ap)(mT:Array (Option Ap)),
  fd=fnOf x qual (je st) (fY st) (aj st) .none kV dv pm an ap ct/\K.lookup f=GE ⟨oc,od,.func fd,mT⟩/\codeIn K ap qual=true
 kp:keepIn K (.ref f)=true
theorem Fun.ok{x:Str}{st:Stmt}{k:Nat}(F:Fun K x qual st f fd)(S:bx N ps (aj st))(len:∀vs H Q E,sp vs H Q E->vs.length=ps.length)
   (eK:∀(ap:Ap)(A:BE)(outer:List Env)(s:AD)(H:Hp)(vs:List V)(Q:VK)(E:XK),lX k (A.deeper (IA qual (aj st) s.heap.objs.size f ap))->sp vs H Q E ->
   ∃t,PSs (Ng CX0 P w K mg base N qual (aj st) f ap A outer s H E).nox (fY st) t/\t { nx:=λ_ H'=>Q .non H',rt:=Q } (start N vs) H):cT P w K mg base CX0 (k+1) f fd ps sp:=by
 obtain⟨oc,od,kV,dv,pm,an,ap,ct,mT,rfl,lk,hcd⟩:=F.ex;refine afK lk hcd S len λA outer s H vs Q E hr f8=>?_;obtain⟨t,h,q⟩:=eK ap A outer s H vs Q E hr f8;exact⟨t,h.nox,q⟩
theorem Fun.binds{x:Str}{st:Stmt}(F:Fun K x qual st f fd)
  (h:∀(kV dv pm:Ap)(an:Option ID)(ap ct:Ap)(us:List Ap),us.length=ps.length->bindArgs (fnOf x qual (je st) (fY st) (aj st) .none kV dv pm an ap ct) ⟨us,[]⟩=pure (ps.zip us)):Binds K fd ps []:=by
 obtain⟨oc,od,kV,dv,pm,an,ap,ct,mT,rfl,lk,hcd⟩:=F.ex;exact .all (h kV dv pm an ap ct)
theorem Zr{x:Str}{st:Stmt}{kV dv pm ap ct:Ap}(l:K.lookup f=GE ⟨oc,od,.func (fnOf x qual (je st) (fY st) (aj st) .none kV dv pm an ap ct),mT⟩)
  (c:codeIn K ap qual=true)(k:keepIn K (.ref f)=true):Fun K x qual st f (fnOf x qual (je st) (fY st) (aj st) .none kV dv pm an ap ct):=⟨⟨oc,od,kV,dv,pm,an,ap,ct,mT,rfl,l,c⟩,k⟩
def Same(H H':Hp):Prop:=∀b o,H b=GE o->H' b=GE o
theorem Same.refl(H:Hp):Same H H:=λ_ _ h=>h
theorem Same.trans(a:Same H H1)(b:Same H1 H2):Same H H2:=λc o h=>b c o (a c o h)
theorem Same.seq(e:Same H H')(h:SqL K H a xs):SqL K H' a xs:=by
 rcases h with(h|⟨o,h⟩)|h
 ·exact .inl (.inl (e _ _ h))
 ·exact .inl (.inr ⟨o,e _ _ h⟩)
 exact .inr h
end L2
set_option maxHeartbeats 4000000
namespace L2
open PySem PySem.Spec PyProof.Rows
theorem Fw{env:Env}:∀(names:List (Str×De)) (ac:List (Str×ID)),
  (∀y∈names,y.2=.free->∃c,env.cells.lookup y.1=GE c)->(∀x c,ac.lookup x=GE c->env.cells.lookup x=GE c) ->
  ∃cl,(forIn names ac λ(y:Str×De)(r:List (Str×ID))=>(match y with
   | (name,kind)=>if (kind == .free)=true then (do let a <- cellOf env name;pure (EF ((name,a)::r))) else pure (EF r):Sem (ForInStep (List (Str×ID)))))=pure cl /\
   (∀x c,cl.lookup x=GE c->env.cells.lookup x=GE c)/\(∀y∈names,y.2=.free->∃c,cl.lookup y.1=GE c)/\(∀x c,ac.lookup x=GE c->∃c',cl.lookup x=GE c')
 | [],ac,_,ha=>⟨ac,rfl,ha,λ_ h=>(nomatch h),λx c h=>⟨c,h⟩⟩
 | (n,k)::r,ac,hf,ha=>by
  have WC:∀y∈r,y.2=.free->∃c,env.cells.lookup y.1=GE c:=λy hy=>hf y (AG _ hy);by_cases hk:k=.free
  ·subst hk;obtain⟨c0,e0⟩:=hf (n,.free) AJ rfl;have hce:cellOf env n=pure c0:=by unfold cellOf;rw[e0]
   have MY:∀x c,((n,c0)::ac).lookup x=GE c->env.cells.lookup x=GE c:=λx c h=>by
    rw[EJ] at h;cases hx:x == n with
    | true=>
     rw[hx] at h;have e1:x=n:=by simpa using hx
     rw[e1,e0];exact h
    | false=>
     rw[hx] at h;exact ha x c h
   obtain⟨cl,e,h1,h2,h3⟩:=Fw r ((n,c0)::ac) WC MY;refine⟨cl,?_,h1,λy hy hz=>?_,λx c h=>?_⟩
   ·rw[forIn_cons];simp only[beq_self_eq_true,if_true,hce];exact e
   ·rcases AL.mp hy with q|q
    ·subst q;exact h3 n c0 ζ
    exact h2 y q hz
   cases hx:x == n with
   | true=>exact h3 x c0 (by rw[EJ,hx])
   | false=>exact h3 x c (by rw[EJ,hx];exact h)
  have hb:(k == De.free)=false:=by simpa using hk
  obtain⟨cl,e,h1,h2,h3⟩:=Fw r ac WC ha;refine⟨cl,?_,h1,λy hy hz=>?_,h3⟩
  ·rw[forIn_cons];simp only[hb,KL,if_false];exact e
  rcases AL.mp hy with q|q
  ·subst q;exact absurd hz hk
  exact h2 y q hz
theorem SQ{env:Env}{scope:F9}(hf:∀y∈scope.names,y.2=.free->∃c,env.cells.lookup y.1=GE c) :
  ∃cl,closureFor scope env=pure cl/\(∀x c,cl.lookup x=GE c->env.cells.lookup x=GE c)/\(∀y∈scope.names,y.2=.free->∃c,cl.lookup y.1=GE c):=by
 obtain⟨cl,e,h1,h2,_⟩:=Fw (env:=env) scope.names [] hf (λx c h=>by simp at h);refine⟨cl,?_,h1,h2⟩;unfold closureFor;show(forIn scope.names [] _ >>= λr=>pure r)=_;rw[show(forIn scope.names ([]:List (Str×ID)) λ(y:Str×De)(r:List (Str×ID))=>(match y with
   | (name,kind)=>if (kind == .free)=true then (do let a <- cellOf env name;pure (EF ((name,a)::r))) else pure (EF r):Sem (ForInStep (List (Str×ID)))))=pure cl from e]
 rfl
section
variable{R:Result->AD->Prop}
theorem Ip{dQ tg iter:Expr}{dE:List Expr}{scope:F9}{pos:Pos}{it ac:Ap}{env:Env}(J:Nat->AD->Prop)
   (ff:∀n s,J n s->AO (A3 prog w) A (Go it) (λr s1=>match r with
   | none=>R (.ok .next) s1
   | some v=>AO (A3 prog w) A (IT tg it v) (λ_ s1'=>AO (A3 prog w) A (Gc tg env v) (λ_ s2=>
     AO (A3 prog w) A (forIn dE true λc r=>if r=true then do let ok <- isTrue c env (eval c env);pure (EF ok) else pure (EF r)) (λok s3=>
      if ok=true then AO (A3 prog w) A (eval dQ env) (λx s4=>
       AO (A3 prog w) A (call (.builtin "list.append") [ac,x]) (λ_ s5=>∃m,m<n/\J m s5) (notedBy (A3 prog w) A env λe z=>R (.error e) z) s4) (notedBy (A3 prog w) A env λe z=>R (.error e) z) s3
      else ∃m,m<n/\J m s3) (notedBy (A3 prog w) A env λe z=>R (.error e) z) s2) (notedBy (A3 prog w) A env λe z=>R (.error e) z) s1') (notedBy (A3 prog w) A env λe z=>R (.error e) z) s1) (notedBy (A3 prog w) A env λe z=>R (.error e) z) s)
  (n:Nat) (h:J n s):Iy (A3 prog w) A (.compLoop (.ListComp dQ [⟨tg,iter,dE,0⟩] scope pos) 0 it ac env) R s:=by
 refine codeAny_loop Z J (λn z hJ=>?_) n h;show AO _ A ((compTurn (.ListComp dQ [⟨tg,iter,dE,0⟩] scope pos) 0 it ac env).onRaise (λy=>do noteFrame y env;theTreesLotGoes y)) _ _ z;refine wpAny_noted ?_;rw[compTurn_list];refine An (GG (An (Da (ff n z hJ) (λr s1 h1=>?_) λ_ _ q=>q)));cases r with
 | none=>exact AF h1
 | some v=>
  refine An (Da h1 (λ_ s1' wm=>?_) λ_ _ q=>q);refine An (Da wm (λ_ s2 h2=>An (Da h2 (λok s3 h3=>?_) λ_ _ q=>q)) λ_ _ q=>q);cases ok with
  | false=>exact AF ⟨rfl,h3⟩
  | true=>
   exact An (An (Da h3 (λx s4 h4=>An (Da h4 (λ_ s5 h5=>AF (AF ⟨rfl,h5⟩)) λ_ _ q=>q)) λ_ _ q=>q))
end
def rM(mp:List (Option Nat))(σ:St):St:=mp.map λo=>match o with
 | some j=>(σ[j]?).join
 | none=>GT
def cH(X:Cx)(N:List Str)(scope:F9)(cl:List (Str×ID))(C:ID)(s:AD)(H:Hp)(fp:List ID):Cx:=
 { X with N:=N,s₀:=s,H₀:=H,env:=JE scope cl C X.env,outer:=X.stack,stack:=X.stack,ex:=fp,fn:=λ_=>false,pn:=[],xe:=λ_ _=>False }
def v9(NX:List Str)(names:List (Str×De)):List Str->List (Option Nat)->Bool
 | [],[]=>true
 | x::r,o::q=>(match o with
   | none=>names.lookup x == GE .local
   | some j=>NX[j]? == GE x&&names.lookup x == GE .free)&&v9 NX names r q
 | _,_=>false
theorem HX{NX:List Str}{names:List (Str×De)}:∀{N:List Str}{mp:List (Option Nat)}{i j:Nat}{x:Str},v9 NX names N mp=true->N[i]?=GE x->mp[i]?=GE (GE j)->NX[j]?=GE x/\names.lookup x=GE .free
 | [],_,i,_,_,_,h,_=>by simp at h
 | _::_,[],_,_,_,h,_,_=>by simp[v9] at h
 | y::r,o::q,0,j,x,h,h1,h2=>by
  simp at h1 h2;subst h1 h2;unfold v9 at h;simp only[BM,beq_iff_eq] at h;exact h.1
 | y::r,o::q,i+1,j,x,h,h1,h2=>by
  unfold v9 at h;rw[BM] at h;exact HX (i:=i) h.2 (by simpa using h1) (by simpa using h2)
theorem HW{NX:List Str}{names:List (Str×De)}:∀{N:List Str}{mp:List (Option Nat)},v9 NX names N mp=true->mp.length=N.length
 | [],[],_=>rfl
 | [],_::_,h=>by simp[v9] at h
 | _::_,[],h=>by simp[v9] at h
 | _::r,_::q,h=>by
  unfold v9 at h;rw[BM] at h;simp[HW h.2]
structure Bp(NX:List Str)(kX:List (Str×De))(N:List Str)(mp:List (Option Nat))(scope:F9):Prop where
 kind:scope.kind=.function
 nocell:∀y∈scope.names,y.2≠.cell
 locs:∀y∈scope.names,y.2=.local->scope.names.lookup y.1=GE .local
 fre:∀y∈scope.names,y.2=.free->kX.lookup y.1=GE .cell\/kX.lookup y.1=GE .free
 map:v9 NX scope.names N mp=true
def PTs(X:Cx)(cs:List Expr)(t:TT):Prop:=
 ∀(aa:List (ID×Obj)) (s:AD) (σ:St) (H:Hp) (Q:Bool->Hp->Prop),Inv X aa σ H s->t σ H Q ->
  AO (A3 X.prog X.w) X.A (forIn cs true λc r=>if r=true then do let ok <- isTrue c X.env (eval c X.env);pure (EF ok) else pure (EF r)) (TP X aa σ Q) X.xe s
def ac8:TT:=λ_ H Q=>Q true H
def G3(mp:List (Option Nat))(wi:TI)(g:TG)(tc:TT)(te:TE):TE:=λσ H Q=>wi σ H λJ H1=>
 ∃W:Nat->Nat->List V->St->Hp->Prop,(∃m,W 0 m [] (rM mp σ) H1)/\∀i m ac τ H2,W i m ac τ H2 ->
  (J.stop i H2/\∀d,H2 d=GT->Q (.ref d) (upd H2 d (.lst ac))) \/
  (J.go i H2/\ac.length<AV/\∃N:List V->St->Hp->Prop,(∀fc τ' H',N fc τ' H'->∃m',m'<m/\W (i+1) m' fc τ' H')/\∀x H3,J.yld i H2 x H3->g x τ H3 λτ1 H4=>tc τ1 H4 λb H5=>
   if b=true then te τ1 H5 λv H6=>N (ac++[v]) τ1 H6 else N ac τ1 H5)
theorem jO{env:Env}:∀{names:List (Str×De)}{x:Str}{k:De},(names.map λ(n,k)=>if (k == De.free&&env.scope.kind == .function&&env.kindOf n == GE .cell) then (n,De.cell) else (n,k)).lookup x=GE k ->
  names.lookup x=GE k\/(k=.cell/\names.lookup x=GE .free)
 | [],_,_,h=>by simp at h
 | (n,k0)::r,x,k,h=>by
  have ih:=@jO env r x k;rw[DI] at h;by_cases hc:(k0 == De.free&&env.scope.kind == .function&&env.kindOf n == GE .cell)=true
  ·simp only[hc,if_true] at h;cases hx:x == n with
   | true=>
    rw[EJ,hx] at h;have hk:k0=.free:=by
     rw[BM,BM] at hc;simpa using hc.1.1
    right;refine⟨(A0 h).symm,?_⟩;rw[EJ,hx,hk]
   | false=>
    rw[EJ,hx] at h;rw[EJ,hx];exact ih h
  simp only[hc,if_false] at h;cases hx:x == n with
  | true=>
   rw[if_neg ζ,EJ,hx] at h;rw[EJ,hx];exact .inl h
  | false=>
   rw[if_neg ζ,EJ,hx] at h;rw[EJ,hx];exact ih h
theorem na0{b D E:Nat}(h:b<E)(hD:E=D):b≠D:=by omega
theorem na1{b D E C:Nat}(h:b<E)(hD:E=D)(hC:C=D+1):b≠C:=by omega
theorem na2{C D:Nat}(hC:C=D+1):D≠C:=by omega
theorem na3{C D E:Nat}(hD:E=D)(hC:C=D+1):E<=C:=by omega
theorem na4{D E:Nat}(hD:E=D):E<=D:=by omega
section
variable{s':AD}{cl:List (Str×ID)}{C:ID}
theorem Qp(eI:X.env.scope.names=kX)(S:Bp NX kX N mp scope)(I:Inv X aa σ H s)(uk:∀b∈fp,BV X aa H b)(cK:∀b∈fp,b<s.heap.objs.size)(hC:s.heap.objs.size<=C)
  (bc:∀x c,cl.lookup x=GE c->X.env.cells.lookup x=GE c)(eW:∀y∈scope.names,y.2=.free->∃c,cl.lookup y.1=GE c):(cH X N scope cl C s H fp).Ok where
 mod:=I.ok.mod
 kind:=S.kind
 glob:=I.ok.glob
 blt:=I.ok.blt
 above:=hC
 inj:=λx y c h1 h2=>I.ok.inj x y c (bc x c h1) (bc y c h2)
 has:=λx h=>by
  have key:scope.names.lookup x=GE .free:=by
   rcases h with h|h
   ·rcases jO (env:=X.env) (names:=scope.names) h with q|⟨_,q⟩
    ·exact absurd Z (S.nocell _ (C4 q))
    exact q
   rcases jO (env:=X.env) (names:=scope.names) h with q|⟨q,_⟩
   ·exact q
   cases q
  exact eW _ (C4 key) rfl
 cab:=λx c h=>by cases h
 hd:=I.ok.hd
 frames:=I.ok.frames
 stk:=.inl rfl
 exf:=λb hb=>⟨BS (Bi (cK b hb) hC),λx c e=>(uk b hb).2.2.2.2.1 x c (bc x c e)⟩
 bs:=I.bs
 bsz:=Cn I.ok.bsz I.sz
 noex:=λb o e hb=>by
  rcases(uk b hb).2.2.2.1 with q|q
  ·exact I.ok.noex b o e q
  exact absurd (Bi (Bi (Bz e) I.ok.bsz) q) (FK _)
 exfs:=λb hb hz=>by
  obtain⟨_,h1,h2,_⟩:=uk b hb;rcases AL.mp (I.CN b hz) with q|q
  ·exact h1 q
  exact h2 q
 yP:=I.stack
 frf:=I.Q9
theorem SN(j3:X.N=NX)(eI:X.env.scope.names=kX)(S:Bp NX kX N mp scope)(I:Inv X aa σ H s)(uk:∀b∈fp,BV X aa H b)(cK:∀b∈fp,b<s.heap.objs.size)(hC:s.heap.objs.size<=C)
  (bc:∀x c,cl.lookup x=GE c->X.env.cells.lookup x=GE c)(eW:∀y∈scope.names,y.2=.free->∃c,cl.lookup y.1=GE c)
  (ho:s'.os=s.os)(hg:s'.gens=s.gens)(hn:∃m,s'.heap.Ns C m)(hk:∀b o,s.heap.get? b=GE o->s'.heap.get? b=GE o){pl:List (ID×Obj)}
  (hp:∀p∈pl,s'.heap.get? p.1=GE p.2/\H p.1=GT/\p.1≠C/\p.1∉frs X.stack/\∀v,p.2.data≠.cell v) :
  Inv (cH X N scope cl C s H fp) pl (rM mp σ) H s' where
 ok:=Qp eI S I uk cK hC bc eW
 os:=ho
 bare:=by rw[hg];exact I.bare
 base:=Un.kept hk
 loc:=by
  obtain⟨m,hm⟩:=hn;refine⟨m,hm,λi x v h1 h2 h3=>?_⟩;have j5:(mp.map λo=>match o with|some j=>(σ[j]?).join|none=>GT)[i]?=GE (GE v):=h2
  rw[AZ] at j5;cases e:mp[i]? with
  | none=>rw[e] at j5;cases j5
  | some o=>
   rw[e] at j5;cases o with
   | none=>cases j5
   | some j=>
    have h4:(σ[j]?).join=GE v:=by simpa using j5
    have h5:σ[j]?=GE (GE v):=by
     cases q:σ[j]? with
     | none=>rw[q] at h4;cases h4
     | some z=>rw[q] at h4;rw[show z=GE v from h4]
    obtain⟨g1,g2⟩:=HX S.map h1 e;have fk:=S.fre _ (C4 g2) rfl;obtain⟨m0,_,hl⟩:=I.loc;have NG:Vis X.env.scope x:=by
     rcases fk with q|q
     ·exact .inr (.inl (by rw[eI];exact q))
     exact .inr (.inr (by rw[eI];exact q))
    obtain⟨u,r,l⟩:=hl j x v (by rw[j3];exact g1) h5 NG;refine⟨u,r,.inr ?_⟩;have l':∃c,X.env.cells.lookup x=GE c/\s.heap.IsCell c (GE u):=by
     rcases l with⟨q,_⟩|⟨_,q⟩
     ·have q':X.env.scope.names.lookup x=GE .local:=q;rw[eI] at q';rcases fk with z|z
      ·rw[q'] at z;cases z
      rw[q'] at z;cases z
     exact q
    obtain⟨c,hc,oc,ML,hd⟩:=l';obtain⟨c',cp⟩:=eW _ (C4 g2) rfl;have ec:c'=c:=by
     have:=bc x c' cp;rw[hc] at this;exact(A0 this).symm
    subst ec;refine⟨?_,c',cp,oc,hk _ _ ML,hd⟩;rcases h3 with q|q|q
    ·rcases jO (env:=X.env) (names:=scope.names) q with z|⟨z,_⟩
     ·rw[g2] at z;cases z
     cases z
    ·exact .inl q
    exact .inr q
 cell:=λx c e=>by
  obtain⟨v,o,h1,h2⟩:=I.cell x c (bc x c e);exact⟨v,o,hk _ _ h1,h2⟩
 free:=I.hok.fresh hC
 freeC:=λx c e=>I.freeC x c (bc x c e)
 pin:=λp l6=>hp p (by simpa [cH] using l6)
 hok:=I.hok.kept hk
 len:=by
  show(mp.map _).length=N.length;rw[AI];exact HW S.map
set_option maxHeartbeats 8000000 in
theorem RN{tg iter dQ:Expr}{dE:List Expr}{pos:Pos}{wi:TI}{g:TG}{tc:TT}{te:TE}(N:List Str)(mp:List (Option Nat))(j3:X.N=NX)(eI:X.env.scope.names=kX)(S:Bp NX kX N mp scope)(hc:X.calm=true)
  (hi:PI X tg iter wi)(hg:∀cl C s H fp,PG (cH X N scope cl C s H fp) tg g)(ht:∀cl C s H fp,PTs (cH X N scope cl C s H fp) dE tc)(he:∀cl C s H fp,PE (cH X N scope cl C s H fp) dQ te)
  (hs:∀x,D5 iter X.env x=pure x:=by intro _;rfl):PE X (.ListComp dQ [⟨tg,iter,dE,0⟩] scope pos) (G3 mp wi g tc te):=by
 intro aa s σ H Q I h;obtain⟨cl,k7,bc,eW⟩:=SQ (env:=X.env) (scope:=scope) λy hy hf=>I.ok.has y.1 (by
  rcases S.fre y hy hf with q|q
  ·exact .inl (show X.env.scope.names.lookup y.1=_ by rw[eI];exact q)
  exact .inr (show X.env.scope.names.lookup y.1=_ by rw[eI];exact q))
 rw[eval_ListComp];refine wpAny_comprehension_free (use:=GT) Z hs k7 S.kind S.locs ?_;refine thn (hi aa s σ H _ I h) λv s1 h1=>thn h1 λMy s2 h2=>?_;obtain⟨it,fp,tn,J,H2,e,I2,T,gt,f2,W,⟨m0,w0⟩,ff⟩:=h2;subst e;refine BU (wpAny_newFunctionEnv S.nocell (by intro y hy;simp at hy) (λh3 ir hsb=>?_) S.kind);dsimp only at ir hsb |-;have cK:∀b∈fp,b<s2.heap.objs.size:=λb hb=>by
  obtain⟨o,q,_⟩:=T.obj _ _ gt b hb;exact Bz q
 generalize hD:s2.heap.objs.size=D at ir hsb;generalize uB:s2.heap.push { cls:=.type "list",dict:=GT,data:=.seq ([]:List Ap).toArray }=P2 at ir hsb |-;have hC:P2.objs.size=D+1:=by rw[<- uB,DU,hD]
 generalize Sr:P2.objs.size=C at ir hsb |-;rw[Sr] at hC;have cb:∀b o,s2.heap.get? b=GE o->h3.get? b=GE o:=λb o q=>by
  have hb:=Bz q;exact hsb.extBut b o (na1 hb hD hC) (AH _ (uB ▸ AH _ q))
 have vj:h3.get? D=GE { cls:=.type "list",data:=.seq ([]:List Ap).toArray }:=
  hsb.extBut _ _ (na2 hC) (AH _ (by rw[<- uB,<- hD];exact A7 _ Z))
 have nK:D∉frs X.stack:=λz=>by
  rcases AL.mp (I2.CN D z) with q|q
  ·exact na0 I2.lt hD q.symm
  exact I2.aem (na4 hD) q
 have I0:Inv (cH X N scope cl C s2 H2 fp) [(D,{ cls:=.type "list",data:=.seq ([]:List Ap).toArray })] (rM mp σ) H2 { s2 with heap:=h3,toks:=s2.toks+([]:List (Str×Ap)).length }:=
  SN (s':={ s2 with heap:=h3,toks:=s2.toks+([]:List (Str×Ap)).length }) j3 eI S I2 f2 cK (na3 hD hC) bc eW Z Z ⟨_,ir⟩ cb λp hp=>by
   have ep:=AA.mp hp;subst ep;exact⟨vj,I2.hok.fresh (na4 hD),na2 hC,nK,λv z=>by cases z⟩
 have T0:tn 0 h3:=T.keep _ _ _ gt λb _ o q=>cb b o q;have kH:∀z:AD,z={ s2 with heap:=h3,toks:=s2.toks+([]:List (Str×Ap)).length } ->
   Iy (A3 X.prog X.w) X.A (.compLoop (.ListComp dQ [⟨tg,iter,dE,0⟩] scope pos) 0 (.ref it) (.ref D) (JE scope cl C X.env))
    (compPost (A3 X.prog X.w) X.A X.xe GT (EP X aa σ Q) (.ref D) C) z:=by
  rintro z rfl;have ef:∀{H':Hp}{pl:List (ID×Obj)},(∀b∈fp,H' b=GT)->(∀p∈pl,p.1=D)->∀b∈fp,BV (cH X N scope cl C s2 H2 fp) pl H' b:=λhn hp b hb=>by
   have uu:=cK b hb;refine⟨hn b hb,na1 uu hD hC,(Qp eI S I2 f2 cK (na3 hD hC) bc eW).exfs b hb,.inl hb,λx c q=>(f2 b hb).2.2.2.2.1 x c (bc x c q),λp l6=>?_⟩;have QN:=hp p (by simpa [cH] using l6);rw[QN];exact(na0 uu hD).symm
  refine Ip (env:=JE scope cl C X.env) (λn z=>∃i ac τ H' ae k,Inv (cH X N scope cl C s2 H2 fp) [(D,{ cls:=.type "list",data:=.seq (GN ae) k })] τ H' z/\tn i z.heap/\(∀b∈fp,H' b=GT)/\Vals ac ae/\ac.length<=AV/\W i n ac τ H')
   ?_ m0 ⟨0,[],_,H2,[],0,I0,T0,λb hb=>(f2 b hb).1,.nil,D6 _,w0⟩
  rintro n s5 ⟨i,ac,τ,H5,ae,k,I5,mN,uC,va,hz,w5⟩;rcases ff i n ac τ H5 w5 with⟨stop,qn⟩|⟨go,di,N9,G',step⟩
  ·refine thn (T.done (cH X N scope cl C s2 H2 fp) Z Z Z hc i _ s5 τ H5 _ I5 (ef uC ζ) mN stop) λr s6 ⟨hr,I6⟩=>?_;subst hr;obtain⟨m6,kA,_⟩:=I6.loc;refine⟨m6,kA,λh' sb=>?_⟩;obtain⟨dD,nD,_,_,_⟩:=I6.pin (D,_) (A4 _ (AA.mpr Z));have U:=I6.base;have nC:H5 C=GT:=I6.free;have ne:∀b o,s2.heap.get? b=GE o->b≠C/\b≠D:=λb o q=>by
    exact⟨na1 (Bz q) hD hC,na0 (Bz q) hD⟩
   have cc:∀b o,b≠C->s6.heap.get? b=GE o->h'.get? b=GE o:=λb o hb q=>(sb.2 b hb).trans q;have U':Un (frs X.stack) fp H2 (upd H5 D (.lst ac)) s2.heap h':=by
    refine⟨λb o q n1 hb hx=>cc b o (ne b o q).1 (U.keep b o q n1 hb hx),λb o q n1 hb hx=>?_,λb o q n1 hx=>?_,λb o q hx=>?_,λb xs q=>?_,λb o xs q=>?_,λb ps q=>?_⟩
    ·obtain⟨sl,z⟩:=U.slot b o q n1 hb hx;exact⟨sl,cc b _ (ne b o q).1 z⟩
    ·rw[aL (ne b o q).2];exact U.free b o q n1 hx
    ·obtain⟨o',z⟩:=U.there b o q hx;exact⟨o',cc b _ (ne b o q).1 z⟩
    ·have z:=U.tups b xs q;rw[aL (aF z nD)];exact z
    ·have z:=U.frzs b o xs q;rw[aL (aF z nD)];exact z
    obtain⟨h8,z⟩:=U.tbls b ps q;exact⟨h8,by rw[aL (aF z nD)];exact z⟩
   have hok:HOk X.prog X.w (upd H5 D (.lst ac)) h':=λb u q=>by
    by_cases hb:b=D
    ·subst hb;rw[au] at q;cases q;exact⟨hz,ae,k,va,cc _ _ (na2 hC) dD⟩
    rw[aL hb] at q;refine(I6.hok b u q).stay (λc v hcc z=>cc c v ?_ z) (λc z=>by rw[aL (aF z nD)];exact z) λc xs z=>by rw[aL (aF z nD)];exact z
    rcases hcc with z1|z1
    ·subst z1;exact aF q nC
    exact aF z1 nC
   have I7:Inv X aa σ (upd H5 D (.lst ac)) { s6 with heap:=h' }:=I2.call' (s':={ s6 with heap:=h' }) (ch:=fp) I6.os U' hok I6.bare λb hb=>by
    obtain⟨_,a2,_,a4,a5,a6⟩:=f2 b hb;exact⟨a4,a2,a5,a6⟩
   exact⟨.ref D,_,I7,rfl,qn D nD⟩
  refine thn (T.item (cH X N scope cl C s2 H2 fp) Z Z Z hc i _ s5 τ H5 _ I5 (ef uC ζ) mN go) λr s6 ⟨u,hr,h6⟩=>?_;subst hr;refine thn h6 λ_ s7 ⟨x,H7,I7,r7,y7,se,SA⟩=>?_;have I7':=I7.pinned (ef SA ζ) (T.obj _ _ se);have no:∀{α:Type}{t:Sem α}{Q1 Q2:α->AD->Prop}{E:Ap->AD->Prop}{z:AD},AO (A3 X.prog X.w) X.A t Q1 (λ_ _=>False) z->(∀a z,Q1 a z->Q2 a z)->AO (A3 X.prog X.w) X.A t Q2 E z:=
   λq f=>Da q f λ_ _ z=>z.elim
  refine no (hg cl C s2 H2 fp _ s7 τ H7 x u _ I7' r7 (step x H7 y7)) λ_ s8 ⟨τ1,H8,I8,q8⟩=>?_;refine no (ht cl C s2 H2 fp _ s8 τ1 H8 _ I8 q8) λok s9 ⟨H9,I9,q9⟩=>?_;have again:∀{H':Hp}{z:AD}{its':List Ap}{k':Nat},Inv (cH X N scope cl C s2 H2 fp) ([(D,{ cls:=.type "list",data:=.seq (GN its') k' })]++pD fp s7.heap) τ1 H' z ->
    tn (i+1) z.heap/\(∀b∈fp,H' b=GT)/\Inv (cH X N scope cl C s2 H2 fp) [(D,{ cls:=.type "list",data:=.seq (GN its') k' })] τ1 H' z:=λ{H' z its' k'} Iz=>by
   have get:∀b∈fp,∀o,s7.heap.get? b=GE o->z.heap.get? b=GE o/\H' b=GT:=λb hb o q=>by
    obtain⟨a1,a2,_⟩:=Iz.pin (b,o) (A4 _ (A4 _ (qR hb q)));exact⟨a1,a2⟩
   refine⟨T.keep _ _ _ se λb hb o q=>(get b hb o q).1,λb hb=>?_,Iz.rK⟩;obtain⟨o,q,_⟩:=T.obj _ _ se b hb;exact(get b hb o q).2
  cases ok with
  | false=>
   rw[if_neg A5] at q9 |-;obtain⟨m',hm,w9⟩:=G' _ _ _ q9;obtain⟨a1,a2,a3⟩:=again I9;exact⟨m',hm,i+1,ac,τ1,H9,ae,k,a3,a1,a2,va,hz,w9⟩
  | true=>
   rw[if_pos rfl] at q9 |-;refine no (he cl C s2 H2 fp _ s9 τ1 H9 _ I9 q9) λy c6 ⟨v,H10,I10,rv,OS⟩=>?_;obtain⟨m',hm,NF⟩:=G' _ _ _ OS;obtain⟨a1,a2,a3⟩:=again I10;obtain⟨dD,nD,_,_,_⟩:=a3.pin (D,_) (A4 _ (AA.mpr Z));have am:=va.length;refine FH F.slot_list_append ⟨_,dD,rfl⟩ KA (JA _ _) (PySem.list_append D ae.toArray k y (by rw[AY];omega)) ⟨dD,?_⟩;obtain⟨k',q⟩:∃k',(c6.heap.update D (CA λa=>a.push y)).get? D=GE { cls:=.type "list",data:=.seq (ae++[y]).toArray k' }:=by
    have q:=PySem.IsL.update dD (λa=>a.push y);rw[show ae.toArray.push y=(ae++[y]).toArray by simp] at q;exact⟨_,q⟩
   have a4:Inv (cH X N scope cl C s2 H2 fp) (pD fp s7.heap) τ1 H10 c6:=I10.uM λp hp=>I10.pin p (A4 _ (A4 _ hp));have a5:Inv (cH X N scope cl C s2 H2 fp) (pD fp s7.heap) τ1 H10 { c6 with heap:=c6.heap.update D (CA λa=>a.push y),toks:=c6.toks }:=
    a4.turned (it:=D) (λb o hb z=>(CO _ _ (EC hb)).trans z) nD (na2 hC) (.inr (na4 hD))
     (λx c z=>by
      obtain⟨_,o,h1,_⟩:=I2.cell x c (bc x c z);exact na0 (Bz h1) hD) λp hp=>by
      have hb:=(zA (by simpa [cH] using hp)).1;exact na0 (cK _ hb) hD
   obtain⟨b1,b2,b3⟩:=(show tn (i+1) (c6.heap.update D (CA λa=>a.push y))/\(∀b∈fp,H10 b=GT)/\True from
    ⟨T.keep _ _ _ a1 λb hb o z=>(CO _ _ (na0 (cK b hb) hD).symm).trans z,a2,trivial⟩)
   refine⟨m',hm,i+1,ac++[v],τ1,H10,ae++[y],k',a5.uM λp hp=>?_,b1,b2,va.append (.cons rv .nil),by rw[AN,AQ];omega,NF⟩;have ep:=AA.mp hp;subst ep;exact⟨q,nD,na2 hC,nK,λv z=>by cases z⟩
 have e1:{ newEnv scope C X.env.globals cl X.env.qual GT .none (GE X.env) X.env.builtins with scope:=relabel scope X.env }=JE scope cl C X.env:=rfl;exact codeAny_compStart_list (kH _ Z) (T.self _ 0 _ _ _ T0 (kH _ Z))
end
theorem Inv.Q5(I:Inv X aa σ H s)(hf:∀b∈ch,BV X aa H b)(k:∀b o,b∉ch->s.heap.get? b=GE o->h'.get? b=GE o):Inv X aa σ H { s with heap:=h',toks:=t' }:=by
 have oI:∀b u,H b=GE u->b∉ch:=λb u e z=>by rw[(hf b z).1] at e;cases e
 refine I.step (g':=s.gens) (d':=s.drawn) (ch:=ch) (λb hb=>?_) (λb o _ _ hc e _=>k b o hc e) (λb o _ _ hc e _=>⟨o.slots,k b o hc e⟩) (λ_ _ _ _ n=>n)
  (λb o hc e=>⟨o,k b o hc e⟩) (λ_ _ e=>e) (λ_ _ _ e=>e) (λb ps e=>⟨#[],by rw[e];simp⟩) (λm hm=>?_) (λb u e=>?_) I.bare
 ·obtain⟨_,a2,_,a4,a5,a6⟩:=hf b hb;exact⟨a4,a2,a5,a6⟩
 ·obtain⟨o,es,ep,ho,r⟩:=hm;exact⟨o,es,ep,k _ o (λz=>(hf _ z).2.1 Z) ho,r⟩
 refine(I.hok b u e).stay (λc v hc q=>k c v ?_ q) (λ_ q=>q) λ_ _ q=>q;rcases hc with z|z
 ·rw[z];exact oI b u e
 exact oI c _ z
theorem Inv.Q0{p:ID}(I:Inv X aa σ H s)(hf:∀b∈ch,BV X aa H b)(k:∀b o,b∉ch->s.heap.get? b=GE o->h'.get? b=GE o)(hp:s.heap.objs.size<=p)
  (new:cR X.prog X.w (upd H p o) h' p o):Inv X aa σ (upd H p o) { s with heap:=h',toks:=t' }:=by
 have hn:H p=GT:=I.hok.fresh hp;have oI:∀b u,H b=GE u->b∉ch:=λb u e z=>by rw[(hf b z).1] at e;cases e
 have lt:∀b u,s.heap.get? b=GE u->b≠p:=λb u e=>BS (Bi (Bz e) hp);refine I.step (g':=s.gens) (d':=s.drawn) (ch:=ch) (λb hb=>?_) (λb o _ _ hc e _=>k b o hc e) (λb o _ _ hc e _=>⟨o.slots,k b o hc e⟩) (λb o _ e n=>by rw[aL (lt b o e)];exact n)
  (λb o hc e=>⟨o,k b o hc e⟩) (λb xs e=>by rw[aL (aF e hn)];exact e) (λb u xs e=>by rw[aL (aF e hn)];exact e) (λb ps e=>⟨#[],by rw[aL (aF e hn),e];simp⟩) (λm hm=>?_) (λb u e=>?_) I.bare
 ·obtain⟨_,a2,_,a4,a5,a6⟩:=hf b hb;exact⟨a4,a2,a5,a6⟩
 ·obtain⟨o,es,ep,ho,r⟩:=hm;exact⟨o,es,ep,k _ o (λz=>(hf _ z).2.1 Z) ho,r⟩
 by_cases hb:b=p
 ·subst hb;rw[au] at e;cases e;exact new
 rw[aL hb] at e;refine(I.hok b u e).stay (λc v hc q=>k c v ?_ q) (λc q=>by rw[aL (aF q hn)];exact q) λc xs q=>by rw[aL (aF q hn)];exact q
 rcases hc with z|z
 ·rw[z];exact oI b u e
 exact oI c _ z
def Itz(K:AE)(a b:ID):It:=
 ⟨λi H=>∃xs ys x y,SqL K H a xs/\SqL K H b ys/\xs[i]?=GE x/\ys[i]?=GE y,
  λi H v H'=>∃p x y,v=.ref p/\H p=GT/\H'=upd H p (.tup [x,y])/\(∀xs,SqL K H a xs->xs[i]?=GE x)/\∀ys,SqL K H b ys->ys[i]?=GE y,
  λi H=>∃xs ys,SqL K H a xs/\SqL K H b ys/\(xs[i]?=GT\/ys[i]?=GT)⟩
theorem Wl{z TI TO i1 i2 l1 l2:ID}(D:ZipApart z TI TO i1 i2 l1 l2) :
  Turn P w K (.Tuple es kk dq) (Itz K l1 l2) [z,TI,TO,i1,i2] z (λi h=>IsZip h z TI TO .none/\IsPair h TI (.ref i1) (.ref i2)/\(∃a b,IsPair h TO a b)/\h.IsListIter i1 l1 i/\h.IsListIter i2 l2 i) where
 mem:=by simp
 obj:=λi h st b hb=>by
  obtain⟨hz,nV,⟨a,b',p9⟩,⟨o1,e1,c1,d1⟩,⟨o2,e2,c2,d2⟩⟩:=st;simp only[AL,BC,or_false] at hb;rcases hb with rfl|rfl|rfl|rfl|rfl
  ·exact⟨_,hz,λv q=>by cases q⟩
  ·exact⟨_,nV,λv q=>by cases q⟩
  ·exact⟨_,p9,λv q=>by cases q⟩
  ·exact⟨o1,e1,λv q=>by rw[d1] at q;cases q⟩
  exact⟨o2,e2,λv q=>by rw[d2] at q;cases q⟩
 keep:=λi h h' st k=>by
  obtain⟨hz,nV,⟨a,b',p9⟩,h1,h2⟩:=st;exact⟨k z ζ _ hz,k TI ζ _ nV,⟨a,b',k TO ζ _ p9⟩,h1.at λo e=>k i1 ζ o e,h2.at λo e=>k i2 ζ o e⟩
 item:=by
  intro X hP hw hK hc i aa s σ H E I hf st hg;subst hP hw hK;obtain⟨xs,ys,x,y,q1,q2,hx,hy⟩:=hg;obtain⟨aE,fh,p1,eA⟩:=I.list q1;obtain⟨cz,L',p2,di⟩:=I.list q2;obtain⟨u1,kK,mS⟩:=fh.get hx;obtain⟨u2,nk,OR⟩:=L'.get hy;obtain⟨hz,nV,⟨a,b',p9⟩,h1,h2⟩:=st;refine wpAny_pyNext_zip_item D hz nV p9 h1 h2 p1.isList p2.isList (x:=u1) (y:=u2) (by simpa using kK) (by simpa using nk) λh' a1 a2 a3 a4 a5 a6 hk=>?_;have new:cR X.prog X.w (upd H s.heap.objs.size (.tup [x,y])) h' s.heap.objs.size (.tup [x,y]):=⟨by show 2<=AV;decide,[u1,u2],.cons mS (.cons OR .nil),_,a5,rfl,_,rfl⟩;have I1:Inv X aa σ (upd H s.heap.objs.size (.tup [x,y])) { s with heap:=h' }:=I.Q0 (t':=s.toks) (ch:=[z,TO,i1,i2]) (λb hb=>hf b (by
   simp only[AL,BC,or_false] at hb |-;rcases hb with r|r|r|r <;> simp[r]))
   (λb o hb e=>hk b o (λq=>hb (by simp[q])) (λq=>hb (by simp[q])) (λq=>hb (by simp[q])) (λq=>hb (by simp[q])) e) (AW _) new
  have Sk:IsPair h' TI (.ref i1) (.ref i2):=hk _ _ D.TIz D.TITO D.TIi1 D.TIi2 nV;have hsz:∀b,b∈[z,TI,TO,i1,i2]->b≠s.heap.objs.size:=λb hb=>by
   obtain⟨_,_,ba,_⟩:=hf b hb;have lt:∃o,s.heap.get? b=GE o:=by
    simp only[AL,BC,or_false] at hb;rcases hb with rfl|rfl|rfl|rfl|rfl
    ·exact⟨_,hz⟩
    ·exact⟨_,nV⟩
    ·exact⟨_,p9⟩
    ·obtain⟨o,e,_⟩:=h1;exact⟨o,e⟩
    obtain⟨o,e,_⟩:=h2;exact⟨o,e⟩
   obtain⟨o,e⟩:=lt;exact BS (Bz e)
  refine⟨_,rfl,wpAny_letOwnedTupleGo_zip (s:={ s with heap:=h' }) a1 λmd z2 sb=>?_⟩;have fz:=hf z ζ;have I2:Inv X aa σ (upd H s.heap.objs.size (.tup [x,y])) { s with heap:=md }:=Inv.turned (s:={ s with heap:=h' }) (it:=z) (t':=s.toks) I1 (λb o hb e=>(sb.2 b hb).trans e) (by rw[aL (hsz z ζ)];exact fz.1) fz.2.1 fz.2.2.2.1 fz.2.2.2.2.1 fz.2.2.2.2.2;refine⟨.ref s.heap.objs.size,_,I2,rfl,⟨_,x,y,rfl,I.fresh,rfl,λND q=>by rw[I.tU q q1];exact hx,λys' q=>by rw[I.tU q q2];exact hy⟩,
   ⟨z2,(sb.2 _ D.TIz).trans Sk,⟨_,_,(sb.2 _ D.TOz).trans a2⟩,a3.extBut sb.extBut D.i1z,a4.extBut sb.extBut D.i2z⟩,λb hb=>by rw[aL (hsz b hb)];exact(hf b hb).1⟩
 done:=by
  intro X hP hw hK hc i aa s σ H E I hf st hg;subst hP hw hK;obtain⟨xs,ys,q1,q2,hx⟩:=hg;obtain⟨aE,fh,p1,eA⟩:=I.list q1;obtain⟨cz,L',p2,di⟩:=I.list q2;obtain⟨hz,nV,⟨a,b',p9⟩,h1,h2⟩:=st;have ii:aE.toArray[i]?=GT\/cz.toArray[i]?=GT:=by
   rcases hx with r|r
   ·exact .inl (by simpa using fh.none_of r)
   exact .inr (by simpa using L'.none_of r)
  refine wpAny_pyNext_zip_end (I.ok.hd hc) D hz nV p9 h1 h2 p1.isList p2.isList ii λh' hk=>⟨rfl,?_⟩;exact I.Q5 (t':=s.toks) (ch:=[z,TO,i1,i2]) (λb hb=>hf b (by
   simp only[AL,BC,or_false] at hb |-;rcases hb with r|r|r|r <;> simp[r]))
   (λb o hb e=>hk b o (λq=>hb (by simp[q])) (λq=>hb (by simp[q])) (λq=>hb (by simp[q])) (λq=>hb (by simp[q])) e)
 self:=λ_ _ _ _ _ st h=>wpAny_pyIter_zip st.1 h
def aeK(K:AE)(ta:TA):TI:=λσ H R=>ta σ H λvs H1=>∃a b,vs=[.ref a,.ref b]/\(∃xs,SqL K H1 a xs)/\(∃ys,SqL K H1 b ys)/\R (Itz K a b) H1
def Ite(K:AE)(a:ID):It:=
 ⟨λi H=>∃xs x,SqL K H a xs/\xs[i]?=GE x,
  λi H v H'=>∃p x,v=.ref p/\H p=GT/\H'=upd H p (.tup [.int (i:Nat),x])/\∀xs,SqL K H a xs->xs[i]?=GE x,
  λi H=>∃xs,SqL K H a xs/\xs[i]?=GT⟩
theorem Tp{e l:ID}(a7:e≠it) :
  Turn P w K (.Tuple es kk dq) (Ite K l) [e,it] e (λi h=>(∃cb,HK h e it ((i:Nat):Int) cb)/\h.IsListIter it l i) where
 mem:=by simp
 obj:=λi h st b hb=>by
  obtain⟨⟨cb,he⟩,⟨o1,e1,c1,d1⟩⟩:=st;simp only[AL,BC,or_false] at hb;rcases hb with rfl|rfl
  ·exact⟨_,he,λv q=>by cases q⟩
  exact⟨o1,e1,λv q=>by rw[d1] at q;cases q⟩
 keep:=λi h h' st k=>by
  obtain⟨⟨cb,he⟩,h1⟩:=st;exact⟨⟨cb,k e ζ _ he⟩,h1.at λo q=>k it ζ o q⟩
 item:=by
  intro X hP hw hK hc i aa s σ H E I hf st hg;subst hP hw hK;obtain⟨xs,x,q1,hx⟩:=hg;obtain⟨aE,fh,p1,eA⟩:=I.list q1;obtain⟨u1,kK,mS⟩:=fh.get hx;obtain⟨⟨cb,he⟩,h1⟩:=st;refine wpAny_pyNext_enum_item he h1 p1.isList (x:=u1) (by simpa using kK) a7 λh' a1 a2 a3 a4 hk=>?_;have new:cR X.prog X.w (upd H s.heap.objs.size (.tup [.int (i:Nat),x])) h' s.heap.objs.size (.tup [.int (i:Nat),x]):=⟨by show 2<=AV;decide,[.int (i:Nat) s.toks,u1],.cons ⟨_,rfl⟩ (.cons mS .nil),_,a3,rfl,_,rfl⟩;have I1:Inv X aa σ (upd H s.heap.objs.size (.tup [.int (i:Nat),x])) { s with heap:=h',toks:=s.toks+1 }:=I.Q0 (ch:=[e,it]) hf
   (λb o hb q=>hk b o (λz=>hb (by simp[z])) (λz=>hb (by simp[z])) q) (AW _) new
  have hsz:∀b,b∈[e,it]->b≠s.heap.objs.size:=λb hb=>by
   have lt:∃o,s.heap.get? b=GE o:=by
    simp only[AL,BC,or_false] at hb;rcases hb with rfl|rfl
    ·exact⟨_,he⟩
    obtain⟨o,q,_⟩:=h1;exact⟨o,q⟩
   obtain⟨o,q⟩:=lt;exact BS (Bz q)
  refine⟨_,rfl,G1 (s:={ s with heap:=h',toks:=s.toks+1 }) a1 λmd z2 sb=>?_⟩;have fz:=hf e ζ;have I2:Inv X aa σ (upd H s.heap.objs.size (.tup [.int (i:Nat),x])) { s with heap:=md,toks:=s.toks+1 }:=Inv.turned (s:={ s with heap:=h',toks:=s.toks+1 }) (it:=e) I1 (λb o hb q=>(sb.2 b hb).trans q) (by rw[aL (hsz e ζ)];exact fz.1) fz.2.1 fz.2.2.2.1 fz.2.2.2.2.1 fz.2.2.2.2.2;refine⟨.ref s.heap.objs.size,_,I2,rfl,⟨_,x,rfl,I.fresh,rfl,λND q=>by rw[I.tU q q1];exact hx⟩,
   ⟨⟨_,by simpa using z2⟩,a2.extBut sb.extBut a7.symm⟩,λb hb=>by rw[aL (hsz b hb)];exact(hf b hb).1⟩
 done:=by
  intro X hP hw hK hc i aa s σ H E I hf st hg;subst hP hw hK;obtain⟨xs,q1,hx⟩:=hg;obtain⟨aE,fh,p1,eA⟩:=I.list q1;obtain⟨⟨cb,he⟩,h1⟩:=st;refine wpAny_pyNext_enum_end (I.ok.hd hc) he h1 p1.isList (by simpa using fh.none_of hx) λh' hk=>⟨rfl,?_⟩;exact I.Q5 (t':=s.toks) (ch:=[e,it]) hf (λb o hb q=>hk b o (λz=>hb (by simp[z])) q)
 self:=λ_ _ _ _ _ st h=>by
  obtain⟨⟨cb,he⟩,_⟩:=st;exact Fa he h
def Bd(K:AE)(ta:TA):TI:=λσ H R=>ta σ H λvs H1=>∃a,vs=[.ref a]/\(∃xs,SqL K H1 a xs)/\R (Ite K a) H1
theorem Vals.bools:∀{bs:List Bool}{us:List Ap},Vals (bs.map V.bl) us->us=bs.map EQ
 | [],_,.nil=>rfl
 | _::_,_,.cons r t=>by rw[Vals.bools t,(show _=EQ _ from r)];rfl
theorem V0(bs:List Bool):((AK bs.length).all λi=>(bs[i]?).getD true)=bs.all id:=by
 rw[E3,C7,C7];constructor
 ·intro h b hb;obtain⟨i,hi,rfl⟩:=List.getElem_of_mem hb;have:=h i (FL.mpr hi);rw[AC hi] at this;exact this
 intro h i hi;have l7:=FL.mp hi;rw[AC l7];exact h _ (Ee l7)
def adx(K:AE)(f:List Bool->Bool):List V->Hp->VK->Prop:=λxs H Q=>∃p bs,xs=[.ref p]/\SqL K H p (F1 V.bl bs)/\Q (.bl (f bs)) H
theorem ZX(hc:X.calm=true):eY X (.builtin "all") (adx X.K λbs=>bs.all id):=by
 intro aa s σ H xs us Q I r h;obtain⟨p,bs,rfl,hq,q⟩:=h;cases r with
 | cons r rr=>
  cases rr;cases r;obtain⟨ae,rv,pl,hz⟩:=I.list hq;have e:=rv.bools;subst e;have lt:p<s.heap.objs.size:=by obtain⟨_,e,_⟩:=pl.isList;exact Bz e
  refine call_all_walk (Fc pl.isList ?_);refine⟨s.heap.objs.size,[s.heap.objs.size,p],[s.heap.objs.size],(bs.map EQ).toArray.size,_,_,λi=>(bs[i]?).getD true,rfl,Walks.list (A:=X.A.in1) (I.ok.hd hc) _ p (BS lt) _,
   ⟨⟨_,A7 _ rfl,rfl,rfl⟩,pl.isList.push _⟩,λi v s' Q' E' hP hQ=>?_,λh' tk hk=>?_⟩
  ·have e:(bs.map EQ)[i]?=GE v:=by simpa using hP
   rw[AZ] at e;cases z:bs[i]? with
   | none=>rw[z] at e;cases e
   | some b=>
    rw[z] at e;have e':EQ b=v:=A0 e;subst e';dsimp only at hQ;rw[z] at hQ;exact C5 hQ
  rw[AY,AI,V0];refine⟨.bl _,H,I.kept λb o e=>hk b o (λhm=>?_) (AH _ e),rfl,q⟩;rw[AA.mp hm] at e;exact FK _ (Bz e)
def af2(K:AE):List V->Hp->VK->Prop:=λxs H Q=>∃x T t b,xs=[x,.ty T]/\vD K H x t/\kitOne K t (.type T)=GE b/\Q (.bl b) H
theorem ZW:eY X (.builtin "isinstance") (af2 X.K):=by
 intro aa s σ H xs us Q I r h;obtain⟨x,T,t,b,rfl,ty,e,q⟩:=h;cases r with
 | cons r rr=>
  cases rr with
  | cons r' rr=>
   cases rr;cases (show _=DO T from r');exact Vg I r ty e λtk=>⟨.bl b,H,I.tok tk,rfl,q⟩
def afh(K:AE):List V->Hp->VK->Prop:=λxs H Q=>∃x p Ts t b,xs=[x,.ref p]/\SqT K H p (F1 V.ty Ts)/\vD K H x t/\PySem.W.kitAny K t (Ts.map DO)=GE b/\Q (.bl b) H
theorem Vals.types:∀{bs:List String}{us:List Ap},Vals (bs.map V.ty) us->us=bs.map DO
 | [],_,.nil=>rfl
 | _::_,_,.cons r t=>by rw[Vals.types t,(show _=DO _ from r)];rfl
theorem aga{x:V}{u t:Ap}{aa:List (ID×Obj)}{σ:St}{H:Hp}{s:AD}(I:Inv X aa σ H s)(rx:RelV x u)(ty:vD X.K H x t)(hl:∀a C dx fs,H a=GE (.ins C dx fs)->x≠.ref a) :
  ∃Hh:Heap->Prop,PySem.W.KitX X.K u t Hh/\Hh s.heap/\u≠.builtin "__main__.__loader__#opaque" := by
 cases ty with
 | non=>cases (show u=Ap.none from rx);exact⟨_,PySem.W.kitx_none,DT,λz=>nomatch z⟩
 | bl y=>cases (show u=EQ y from rx);exact⟨_,PySem.W.kitx_bool,DT,λz=>nomatch z⟩
 | int i=>obtain⟨t,q⟩:=(show ∃t,u=Do i t from rx);cases q;exact⟨_,PySem.W.kitx_int,DT,λz=>nomatch z⟩
 | str y=>obtain⟨t,q⟩:=(show ∃t,u=Ap.str y t from rx);cases q;exact⟨_,PySem.W.kitx_str,DT,λz=>nomatch z⟩
 | flt y=>obtain⟨t,q⟩:=(show ∃t,u=Ap.float y t from rx);cases q;exact⟨_,PySem.W.kitx_float,DT,λz=>nomatch z⟩
 | @lst a xs ea=>
  cases (show u=BY a from rx);obtain⟨_,_,n,_,h1⟩:=(show cR X.prog X.w H s.heap a (.lst xs) from I.hok a _ ea);exact⟨_,Hm,⟨_,h1,rfl⟩,λz=>nomatch z⟩
 | @frz a ob xs ea=>
  cases (show u=BY a from rx);obtain⟨_,_,_,n,_,h1⟩:=(show cR X.prog X.w H s.heap a (.frz ob (.lst xs)) from I.hok a _ ea);exact⟨_,Hm,⟨_,h1,rfl⟩,λz=>nomatch z⟩
 | @tup a xs ea=>
  cases (show u=BY a from rx);obtain⟨_,_,_,p⟩:=(show cR X.prog X.w H s.heap a (.tup xs) from I.hok a _ ea);obtain⟨o,h1,h2,_⟩:=p;exact⟨_,PySem.W.kitx_tuple,⟨o,h1,h2⟩,λz=>nomatch z⟩
 | @dK a af ea=>
  cases (show u=BY a from rx);obtain⟨_,_,vs,_,p⟩:=(show cR X.prog X.w H s.heap a (.dK af) from I.hok a _ ea);obtain⟨o,es,ep,h1,h2,_⟩:=p;exact⟨_,Hn,⟨o,h1,h2.1⟩,λz=>nomatch z⟩
 | @dT a af ea=>
  cases (show u=BY a from rx);obtain⟨_,_,xs,_,o,es,ep,h1,h2,_⟩:=(show cR X.prog X.w H s.heap a (.dT af) from I.hok a _ ea);exact⟨_,Hn,⟨o,h1,h2.1⟩,λz=>nomatch z⟩
 | @ins a C dx fs ea cl ha hn l5 hm=>exact absurd rfl (hl a C dx fs ea)
theorem VH:eY X (.builtin "isinstance") (λxs H Q=>afh X.K xs H Q/\∀a C dx fs,H a=GE (.ins C dx fs)->xs.head?≠GE (.ref a)):=by
 intro aa s σ H xs us Q I r h;obtain⟨⟨x,p,Ts,t,b,rfl,hq,ty,e,q⟩,hl⟩:=h;cases r with
 | cons r rr=>
  cases rr with
  | cons r' rr=>
   cases rr;cases r';obtain⟨Hh,ZZ,hh,ne⟩:=aga I r ty λa C dx fs z w'=>hl a C dx fs z (by rw[w'];rfl);obtain⟨ae,rv,⟨o,ho,k7,n,hd⟩,hz⟩:=I.tuple hq;have ei:=rv.types;subst ei;obtain⟨c0,d0,dt0,UH⟩:=o;cases (show c0=DO "tuple" from k7);cases (show dt0=Data.seq (F1 DO Ts).toArray n from hd);exact PySem.W.kia_tup ZZ I.kIn hh ho e ne λtk=>⟨.bl b,H,I.tok tk,rfl,q⟩
inductive Tn (H:Hp):V->String->Prop where
 | non:Tn H .non "NoneType"
 | bl (b:Bool):Tn H (.bl b) "bool"
 | int (i:Int):Tn H (.int i) "int"
 | str (x:Str):Tn H (.str x) "str"
 | lst {a:ID} {xs:List V} (e:H a=GE (.lst xs)):Tn H (.ref a) "list"
 | tup {a:ID} {xs:List V} (e:H a=GE (.tup xs)):Tn H (.ref a) "tuple"
theorem Tn.ty{K:AE}{H:Hp}{x:V}{t:String}(h:Tn H x t):vD K H x (.type t):=by
 cases h with
 | non=>exact .non
 | bl b=>exact .bl b
 | int i=>exact .int i
 | str x=>exact .str x
 | lst e=>exact .lst e
 | tup e=>exact .tup e
def j8(t T:String):Bool:=t == T||(t == "bool" && T == "int")
def fX:List String:=["NoneType","bool","int","str","list","tuple"]
theorem RZ(K:AE):∀t∈fX,∀T∈fX,kitOne K (.type t) (.type T)=GE (j8 t T):=by
 intro t ht T hT;simp only[fX,AL,BC,or_false] at ht hT;rcases ht with rfl|rfl|rfl|rfl|rfl|rfl <;> rcases hT with rfl|rfl|rfl|rfl|rfl|rfl <;> first|rfl|kernel_rfl
theorem Tn.known{x:V}{t:String}(h:Tn H x t):t∈fX:=by cases h <;> decide
theorem VP:eY X (.builtin "isinstance") (λxs H Q=>∃x T t,xs=[x,.ty T]/\Tn H x t/\T∈fX/\Q (.bl (j8 t T)) H):=by
 intro aa s σ H xs us Q I r h;obtain⟨x,T,t,rfl,ty,hT,q⟩:=h;exact ZW aa s σ H _ us Q I r ⟨x,T,_,_,rfl,ty.ty,RZ X.K t ty.known T hT,q⟩
theorem R0(K:AE){t:String}(ht:t∈fX):∀Ts:List String,(∀T∈Ts,T∈fX)->PySem.W.kitAny K (.type t) (Ts.map DO)=GE (Ts.any λT=>j8 t T)
 | [],_=>rfl
 | T::r,h=>by
  have e:=RZ K t ht T (h T AJ);have ih:=R0 K ht r λT' h'=>h T' (AG _ h');show(match kitOne K (.type t) (.type T) with|some true=>GE true|some false=>PySem.W.kitAny K (.type t) (r.map DO)|none=>GT)=_
  rw[e,GY];cases j8 t T with
  | true=>rfl
  | false=>exact ih
theorem VN:eY X (.builtin "isinstance") (λxs H Q=>∃x p Ts t,xs=[x,.ref p]/\H p=GE (.tup (F1 V.ty Ts))/\Tn H x t/\(∀T∈Ts,T∈fX)/\Q (.bl (Ts.any λT=>j8 t T)) H):=by
 intro aa s σ H xs us Q I r h;obtain⟨x,p,Ts,t,rfl,hp,ty,hT,q⟩:=h;refine VH aa s σ H _ us Q I r ⟨⟨x,p,Ts,_,_,rfl,SqT.of hp,ty.ty,R0 X.K ty.known Ts hT,q⟩,λa C dx fs e z=>?_⟩;have z':x=.ref a:=by simpa using z
 subst z';cases ty with
 | lst e'=>rw[e] at e';cases e'
 | tup e'=>rw[e] at e';cases e'
def ac4(i j:Int):Prop:=0<j/\j<2^70
theorem Ls:OpR X (EU .FloorDiv) (rI ac4 λi j=>.int (i/j)):=opI λi j _ _ _ _ _ hc q=>by
 have h1:(0:Int)<j:=hc.1;have h2:j<2^70:=hc.2;refine floordiv_int ω (by rw[Int.fdiv_eq_ediv_of_nonneg i ω];exact q) (.inl (PyProof.noPylong_of_log2 ?_));have h3:j.natAbs≠0:=ω;have h4:j.natAbs.log2<70:=(Nat.log2_lt h3).mpr ω;omega
def b7(p:ID)(H H':Hp):Prop:=∀b o,b≠p->H b=GE o->H' b=GE o
theorem b7.refl(p:ID)(H:Hp):b7 p H H:=λ_ _ _ h=>h
theorem b7.trans{p:ID}(a:b7 p H H1)(b:b7 p H1 H2):b7 p H H2:=λc o n h=>b c o n (a c o n h)
theorem b7.upd{p:ID}:b7 p H (upd H p o):=λb u n h=>by rw[aL n];exact h
theorem Same.x{p:ID}(h:Same H H'):b7 p H H':=λb o _ q=>h b o q
theorem aB{p:ID}(h:H p=GT):Same H (upd H p o):=λb u q=>by rw[aL (aF q h)];exact q
structure Cal(P:A6)(w:BI)(K:AE)(mg:Str->Option Ap)(base:Heap)(x:Str)(k:Nat)(ps:List Str)(sp:Sp):Prop where
 ex:∃(f:ID)(fd:C3),cT P w K mg base CX0 k f fd ps sp/\Binds K fd ps []/\keepIn K (.ref f)=true/\mg x=GE (.ref f)
section
variable{k:Nat}{x:Str}{p:Pos}{t:TA}
theorem ad4(C:Cal X.prog X.w X.K X.mg X.base x k ps sp)(hr:lX k X.A)(hg:Gl X x)(ha:PA X (e::es) t)(k6:(x == ("__debug__" : Str))=false:=by decide)
  (he:AM (e::es) X.env=(false,eval e X.env)::AM es X.env:=by rfl) (br:(CY pos (AM es X.env)).any (·.1)=false:=by rfl):PE X (.Call (.Name x p) (e::es) [] pos) (CK sp [] E0 t):=by
 obtain⟨f,fd,F,b,kp,hm⟩:=C.ex;exact abG F hr hg hm kp b .nil afv ha k6 he br
end
structure aaq(K:AE)(mg:Str->Option Ap)(x:Str)(st:Stmt)(ps:List Str)(f:ID)(fd:C3):Prop where
 fn:Fun K x x st f fd
 bd:Binds K fd ps []
 nm:mg x=GE (.ref f)
theorem aaq.cal{x:Str}{st:Stmt}{k:Nat}(D:aaq K mg x st ps f fd)(F:cT P w K mg base CX0 k f fd ps sp):Cal P w K mg base x k ps sp:=
 ⟨f,fd,F,D.bd,D.fn.kp,D.nm⟩
theorem Xe(i j:Int):Xf (.int i) (.int j)=true:=rfl
theorem aaO(i j:Bool):Xf (.bl i) (.bl j)=true:=rfl
theorem Xd(i j:Str):Xf (.str i) (.str j)=true:=rfl
theorem afR{α:Type}(a:α)(r:List α):atI (a::r) 0=GE a:=bO (j:=0) rfl
theorem aaj{α:Type}(a b:α)(r:List α):atI (a::b::r) 1=GE b:=bO (j:=1) rfl
theorem afQ{α:Type}(a b c:α)(r:List α):atI (a::b::c::r) 2=GE c:=bO (j:=2) rfl
theorem Zb:ixN 3 0=GE 0/\ixN 3 1=GE 1/\ixN 3 2=GE 2:=⟨δ,δ,δ⟩
theorem aR(h:n<=1000000):n<=AV:=Cn h δ
def ixq(o:Option HO)(i:Int)(H:Hp)(Q:VK):Prop:=match o with
 | some (.lst xs)=>∃v,atI xs i=GE v/\Q v H
 | some (.tup xs)=>∃v,atI xs i=GE v/\Q v H
 | _=>False
def stq(o:Option HO)(p:ID)(k:Int)(v:V)(H:Hp)(Q:Hp->Prop):Prop:=match o with
 | some (.lst xs)=>∃j,ixN xs.length k=GE j/\Q (upd H p (.lst (xs.set j v)))
 | _=>False
def lnq(o:Option HO)(H:Hp)(Q:VK):Prop:=match o with
 | some (.lst ys)=>Q (.int ys.length) H
 | some (.tup ys)=>Q (.int ys.length) H
 | _=>False
def adC:R2:=λx y H Q=>match x,y with
 | .ref p,.int i=>ixq (H p) i H Q
 | _,_=>False
def Xm:V->V->V->Hp->(Hp->Prop)->Prop:=λo i v H Q=>match o,i with
 | .ref p,.int k=>stq (H p) p k v H Q
 | _,_=>False
def Xu:List V->Hp->VK->Prop:=λxs H Q=>match xs with
 | [.ref p]=>lnq (H p) H Q
 | _=>False
theorem Xv(p:ID)(i:Int)(H:Hp)(Q:VK):adC (.ref p) (.int i) H Q=ixq (H p) i H Q:=rfl
theorem T8(p:ID)(k:Int)(v:V)(H:Hp)(Q:Hp->Prop):Xm (.ref p) (.int k) v H Q=stq (H p) p k v H Q:=rfl
theorem Ub(p:ID)(H:Hp)(Q:VK):Xu [.ref p] H Q=lnq (H p) H Q:=rfl
theorem aaF(xs:List V)(p:ID)(k:Int)(v:V)(H:Hp)(Q:Hp->Prop):stq (GE (.lst xs)) p k v H Q=∃j,ixN xs.length k=GE j/\Q (upd H p (.lst (xs.set j v))):=rfl
theorem ab8(xs:List V)(H:Hp)(Q:VK):lnq (GE (.lst xs)) H Q=Q (.int xs.length) H:=rfl
theorem ab7(xs:List V)(H:Hp)(Q:VK):lnq (GE (.tup xs)) H Q=Q (.int xs.length) H:=rfl
theorem aP:IxR X adC:=by
 intro value slice aa s σ H x y v u Q I rx ry h hs;unfold adC at h;split at h
 ·rename_i p i;unfold ixq at h;split at h
  ·rename_i xs e;obtain⟨z,hz,q⟩:=h;exact R6 value slice aa s σ H _ _ v u Q I rx ry ⟨p,xs,i,z,rfl,rfl,SqL.of e,hz,q⟩ hs
  ·rename_i xs e;obtain⟨z,hz,q⟩:=h;exact aeH value slice aa s σ H _ _ v u Q I rx ry ⟨p,xs,i,z,rfl,rfl,SqT.of e,hz,q⟩ hs
  exact h.elim
 exact h.elim
theorem G8:V8 X Xm:=by
 intro aa s σ H o i v ov iv u Q I ro ri rv h;unfold Xm at h;split at h
 ·rename_i p k;unfold stq at h;split at h
  ·rename_i xs e;obtain⟨j,hj,q⟩:=h;exact set_list aa s σ H _ _ v ov iv u Q I ro ri rv ⟨p,xs,k,j,rfl,rfl,e,hj,q⟩
  exact h.elim
 exact h.elim
theorem bD:eY X (.builtin "len") Xu:=by
 intro aa s σ H xs us Q I r h;unfold Xu at h;split at h
 ·rename_i p;unfold lnq at h;split at h
  ·rename_i ys e;exact m5 aa s σ H _ us Q I r ⟨p,ys,rfl,.inl (SqL.of e),h⟩
  ·rename_i ys e;exact m5 aa s σ H _ us Q I r ⟨p,ys,rfl,.inr (SqT.of e),h⟩
  exact h.elim
 exact h.elim
def XC:List V->Hp->VK->Prop:=λxs H Q=>match xs with
 | [.int i]=>Q (.int i) H
 | [.bl k]=>Q (.int (if k then 1 else 0)) H
 | _=>False
theorem aaZ(k:Bool)(H:Hp)(Q:VK):XC [.bl k] H Q=Q (.int (if k then 1 else 0)) H:=rfl
theorem xj:eY X (.type "int") XC:=by
 intro aa s σ H xs us Q I r h;unfold XC at h;split at h
 ·exact Ir aa s σ H _ us Q I r (.inl ⟨_,rfl,h⟩)
 ·exact Ir aa s σ H _ us Q I r (.inr ⟨_,rfl,h⟩)
 exact h.elim
theorem aK{t u:TS}(h:∀k,k=u D->t { D with nx:=k } σ H):Tz t u D σ H:=h _ rfl
theorem jr(h:∀R:It->Hp->Prop,R=(λJ H1=>∃W:Nat->Nat->St->Hp->Prop,(∃m,W 0 m σ H1)/\∀i m σ H,W i m σ H ->
  (J.stop i H/\D.nx σ H)\/(J.go i H/\∃N:St->Hp->Prop,(∀σ' H',N σ' H'->∃m',m'<m/\W (i+1) m' σ' H')/\∀x H',J.yld i H x H'->g x σ H' λσ2 H2=>tb { D with nx:=N,ct:=N,bk:=D.nx } σ2 H2))->wi σ H R):adf wi g tb D σ H:=h _ rfl
theorem Zu(hR:R=(λJ H1=>∃W:Nat->Nat->St->Hp->Prop,(∃m,W 0 m σ H1)/\∀i m σ H,W i m σ H ->
  (J.stop i H/\D.nx σ H)\/(J.go i H/\∃N:St->Hp->Prop,(∀σ' H',N σ' H'->∃m',m'<m/\W (i+1) m' σ' H')/\∀x H',J.yld i H x H'->g x σ H' λσ2 H2=>tb { D with nx:=N,ct:=N,bk:=D.nx } σ2 H2)))
  (Pv:Nat->St->Hp->Prop)(h0:Pv 0 σ H)(hs:∀i σ H,i<n->Pv i σ H->g (.int (lo+i)) σ H λσ2 H2=>tb { D with nx:=Pv (i+1),ct:=Pv (i+1),bk:=D.nx } σ2 H2)(hd:∀σ H,Pv n σ H->D.nx σ H):R (Itr lo n) H:=by
 subst hR;exact Vo Pv h0 hs hd
theorem wg(hR:R=(λJ H1=>∃W:Nat->Nat->St->Hp->Prop,(∃m,W 0 m σ H1)/\∀i m σ H,W i m σ H ->
  (J.stop i H/\D.nx σ H)\/(J.go i H/\∃N:St->Hp->Prop,(∀σ' H',N σ' H'->∃m',m'<m/\W (i+1) m' σ' H')/\∀x H',J.yld i H x H'->g x σ H' λσ2 H2=>tb { D with nx:=N,ct:=N,bk:=D.nx } σ2 H2)))
  (Pv:Nat->St->Hp->Prop)(h0:Pv 0 σ H)(hl:∀i σ H,i<=xs.length->Pv i σ H->SqL K H a xs)(hs:∀i x σ H,xs[i]?=GE x->Pv i σ H->g x σ H λσ2 H2=>tb { D with nx:=Pv (i+1),ct:=Pv (i+1),bk:=D.nx } σ2 H2)(hd:∀σ H,Pv xs.length σ H->D.nx σ H):R (Itl K a) H:=by
 subst hR;exact Zv Pv h0 hl hs hd
def NZ(mp:List (Option Nat))(g:TG)(tc:TT)(te:TE)(σ:St)(Q:VK)(J:It)(H1:Hp):Prop:=∃W:Nat->Nat->List V->St->Hp->Prop,(∃m,W 0 m [] (rM mp σ) H1)/\∀i m ac τ H2,W i m ac τ H2 ->
  (J.stop i H2/\∀d,H2 d=GT->Q (.ref d) (upd H2 d (.lst ac))) \/
  (J.go i H2/\ac.length<AV/\∃N:List V->St->Hp->Prop,(∀fc τ' H',N fc τ' H'->∃m',m'<m/\W (i+1) m' fc τ' H')/\∀x H3,J.yld i H2 x H3->g x τ H3 λτ1 H4=>tc τ1 H4 λb H5=>
   if b=true then te τ1 H5 λv H6=>N (ac++[v]) τ1 H6 else N ac τ1 H5)
theorem iH{Q:VK}(h:∀R:It->Hp->Prop,R=NZ mp g tc te σ Q->wi σ H R):G3 mp wi g tc te σ H Q:=h _ rfl
theorem Cq{J:It}{Q:VK}(hR:R=NZ mp g tc te σ Q)(n:Nat)(hz:n<=AV)(Pv:Nat->List V->St->Hp->Prop)(h0:Pv 0 [] (rM mp σ) H)
  (hl:∀i ac τ H,Pv i ac τ H->ac.length<=i)(l8:∀i ac τ H,i<n->Pv i ac τ H->J.go i H)(ar:∀ac τ H,Pv n ac τ H->J.stop n H)
  (hs:∀i ac τ H x H3,i<n->Pv i ac τ H->J.yld i H x H3->g x τ H3 λτ1 H4=>tc τ1 H4 λb H5=>if b=true then te τ1 H5 λv H6=>Pv (i+1) (ac++[v]) τ1 H6 else Pv (i+1) ac τ1 H5)
  (hd:∀ac τ H d,Pv n ac τ H->H d=GT->Q (.ref d) (upd H d (.lst ac))):R J H:=by
 subst hR;refine⟨λi m ac τ H2=>m=n-i/\i<=n/\Pv i ac τ H2,⟨_,rfl,D6 _,h0⟩,?_⟩;rintro i m ac τ H2 ⟨rfl,hi,p⟩;have q3:=hl i ac τ H2 p;by_cases ba:i<n
 ·exact .inr ⟨l8 i ac τ H2 ba p,ω,Pv (i+1),λfc τ' H' q=>⟨_,ω,rfl,ba,q⟩,λx H3 y=>hs i ac τ H2 x H3 ba p y⟩
 have e:i=n:=ω;subst e;exact .inl ⟨ar ac τ H2 p,λd RO=>hd ac τ H2 d p RO⟩
structure Nm(N:List Str)(sc:F9)(i:Nat)(x:Str):Prop where
 hN:N[i]?=GE x
 hv:Loc sc x
 hd:(x == ("__debug__" : Str))=false
 hcd:(x == ("__classdict__" : Str))=false
def afz(N:List Str)(sc:F9)(i:Nat)(x:Str):Bool:=decide (N[i]?=GE x)&&(decide (sc.names.lookup x=GE .local)||decide (sc.names.lookup x=GE .cell)) && !(x == ("__debug__" : Str)) && !(x == ("__classdict__" : Str))
theorem Nm.of{sc:F9}{x:Str}(h:afz N sc i x=true):Nm N sc i x:=by
 unfold afz at h;rw[BM,BM,BM,Bool.or_eq_true] at h;obtain⟨⟨⟨h1,h2⟩,h3⟩,h4⟩:=h;exact⟨of_decide_eq_true h1,h2.elim (λz=>.inl (of_decide_eq_true z)) (λz=>.inr (of_decide_eq_true z)),by simpa using h3,by simpa using h4⟩
structure Bn(x:Str):Prop where
 hn:x ≠ "__name__"
 hd:(x == ("__debug__" : Str))=false
section
variable{x:Str}{p:Pos}{t:TA}{k:Nat}{id:String}{r:List V->Hp->VK->Prop}
theorem pn(n:Nm X.N X.env.scope i x):PE X (.Name x pos) (KD i):=Yd n.hN (n.hv.elim .inl λz=>.inr (.inl z)) n.hd n.hcd
end
theorem cN:Bn "len" := ⟨ψ,ψ⟩
theorem Z5:Bn "abs" := ⟨ψ,ψ⟩
theorem Fx:Bn "min" := ⟨ψ,ψ⟩
theorem xr:Bn "max" := ⟨ψ,ψ⟩
theorem Z4:Bn "all" := ⟨ψ,ψ⟩
theorem bN:Bn "isinstance" := ⟨ψ,ψ⟩
theorem Fy:Bn "int" := ⟨ψ,ψ⟩
theorem Kh:Bn "list" := ⟨ψ,ψ⟩
theorem uq:Bn "tuple" := ⟨ψ,ψ⟩
theorem Qt:Bn "str" := ⟨ψ,ψ⟩
theorem Cr:Bn "bool" := ⟨ψ,ψ⟩
theorem V1:Bn "sorted" := ⟨ψ,ψ⟩
def tyO:Option HO->Option String
 | some (.lst _)=>GE "list"
 | some (.tup _)=>GE "tuple"
 | _=>GT
def tyN(x:V)(H:Hp):Option String:=match x with
 | .non=>GE "NoneType"
 | .bl _=>GE "bool"
 | .int _=>GE "int"
 | .str _=>GE "str"
 | .ref a=>tyO (H a)
 | _=>GT
theorem Tn.of{x:V}{H:Hp}{t:String}(h:tyN x H=GE t):Tn H x t:=by
 cases x with
 | non=>cases h;exact .non
 | bl b=>cases h;exact .bl b
 | int i=>cases h;exact .int i
 | str s=>cases h;exact .str s
 | ref a=>
  have h':tyO (H a)=GE t:=h;cases e:H a with
  | none=>rw[e] at h';cases h'
  | some o=>
   rw[e] at h';cases o with
   | lst xs=>cases h';exact .lst e
   | tup xs=>cases h';exact .tup e
   | _=>cases h'
 | _=>cases h
def Xz:List V->Hp->VK->Prop:=λxs H Q=>match xs with
 | [x,.ty T]=>∃t,tyN x H=GE t/\fX.contains T=true/\Q (.bl (j8 t T)) H
 | _=>False
def i2q(o:Option HO)(x:V)(H:Hp)(Q:VK):Prop:=match o with
 | some (.tup [.ty T,.ty U])=>∃t,tyN x H=GE t/\fX.contains T=true/\fX.contains U=true/\Q (.bl (j8 t T||j8 t U)) H
 | _=>False
def Xx:List V->Hp->VK->Prop:=λxs H Q=>match xs with
 | [x,.ref p]=>i2q (H p) x H Q
 | _=>False
theorem dz:eY X (.builtin "isinstance") Xz:=by
 intro aa s σ H xs us Q I r h;unfold Xz at h;split at h
 ·obtain⟨t,e,k,q⟩:=h;exact VP aa s σ H _ us Q I r ⟨_,_,t,rfl,Tn.of e,by simpa using k,q⟩
 exact h.elim
theorem VJ:eY X (.builtin "isinstance") Xx:=by
 intro aa s σ H xs us Q I r h;unfold Xx at h;split at h
 ·rename_i x p;unfold i2q at h;split at h
  ·rename_i T U e;obtain⟨t,e1,k1,k2,q⟩:=h;refine VN aa s σ H _ us Q I r ⟨x,p,[T,U],t,rfl,e,Tn.of e1,λz hz=>?_,by simpa using q⟩;rcases AL.mp hz with rfl|hz
   ·simpa using k1
   obtain rfl:=AA.mp hz;simpa using k2
  exact h.elim
 exact h.elim
theorem Xy(x:V)(T:String)(H:Hp)(Q:VK):Xz [x,.ty T] H Q=∃t,tyN x H=GE t/\fX.contains T=true/\Q (.bl (j8 t T)) H:=rfl
theorem Xw(x:V)(p:ID)(H:Hp)(Q:VK):Xx [x,.ref p] H Q=i2q (H p) x H Q:=rfl
theorem aeL(x:V)(T U:String)(H:Hp)(Q:VK):i2q (GE (.tup [.ty T,.ty U])) x H Q=∃t,tyN x H=GE t/\fX.contains T=true/\fX.contains U=true/\Q (.bl (j8 t T||j8 t U)) H:=rfl
theorem acf:fX.contains "list" = true:=by decide
theorem Y7:fX.contains "tuple" = true:=by decide
theorem aeG:fX.contains "int" = true:=by decide
theorem aeF:fX.contains "str" = true:=by decide
theorem kc_bool:fX.contains "bool" = true:=by decide
theorem ty_int(i:Int)(H:Hp):tyN (.int i) H=GE "int" := rfl
theorem ae9(i:Bool)(H:Hp):tyN (.bl i) H=GE "bool" := rfl
theorem ty_str(i:Str)(H:Hp):tyN (.str i) H=GE "str" := rfl
theorem ac6(H:Hp):tyN .non H=GE "NoneType" := rfl
theorem ac5(p:ID)(H:Hp):tyN (.ref p) H=tyO (H p):=rfl
theorem aax(xs:List V):tyO (GE (.lst xs))=GE "list" := rfl
theorem aaw(xs:List V):tyO (GE (.tup xs))=GE "tuple" := rfl
theorem zm:j8 "NoneType" "bool" = false:=by decide
theorem Br:j8 "NoneType" "int" = false:=by decide
theorem JB:j8 "bool" "bool" = true:=by decide
theorem Le:j8 "bool" "int" = true:=by decide
theorem Ld:j8 "int" "bool" = false:=by decide
theorem Ot:j8 "int" "int" = true:=by decide
theorem Oq:j8 "int" "str" = false:=by decide
theorem Lb:j8 "int" "list" = false:=by decide
theorem Jz:j8 "int" "tuple" = false:=by decide
theorem K9:j8 "str" "bool" = false:=by decide
theorem Oo:j8 "str" "int" = false:=by decide
theorem Jy:j8 "list" "bool" = false:=by decide
theorem La:j8 "list" "int" = false:=by decide
theorem Gd:j8 "tuple" "bool" = false:=by decide
theorem Jx:j8 "tuple" "int" = false:=by decide
theorem Dd:j8 "tuple" "tuple" = true:=by decide
def gtq(o:Option HO)(n:Nat)(t:TGs)(σ:St)(H:Hp)(Q:St->Hp->Prop):Prop:=match o with
 | some (.tup xs)=>xs.length=n/\t xs σ H Q
 | _=>False
def Sg(n:Nat)(t:TGs):TG:=λv σ H Q=>match v with
 | .ref a=>gtq (H a) n t σ H Q
 | _=>False
theorem Vm(n:Nat)(t:TGs)(a:ID)(σ:St)(H:Hp)(Q:St->Hp->Prop):Sg n t (.ref a) σ H Q=gtq (H a) n t σ H Q:=rfl
theorem ack(xs:List V)(n:Nat)(t:TGs)(σ:St)(H:Hp)(Q:St->Hp->Prop):gtq (GE (.tup xs)) n t σ H Q=(xs.length=n/\t xs σ H Q):=rfl
def qtq(o:Option HO)(f:List Bool->Bool)(H:Hp)(Q:VK):Prop:=match o with
 | some (.lst xs)=>∃bs,xs=F1 V.bl bs/\Q (.bl (f bs)) H
 | _=>False
def JD(f:List Bool->Bool):List V->Hp->VK->Prop:=λxs H Q=>match xs with
 | [.ref p]=>qtq (H p) f H Q
 | _=>False
theorem Ln(f:List Bool->Bool)(p:ID)(H:Hp)(Q:VK):JD f [.ref p] H Q=qtq (H p) f H Q:=rfl
theorem aa7(f:List Bool->Bool)(xs:List V)(H:Hp)(Q:VK):qtq (GE (.lst xs)) f H Q=∃bs,xs=F1 V.bl bs/\Q (.bl (f bs)) H:=rfl
section
variable{k:Nat}{t:TGs}
theorem Iu(hc:X.calm=true):eY X (.builtin "all") (JD λbs=>bs.all id):=by
 intro aa s σ H xs us Q I r h;unfold JD at h;split at h
 ·rename_i p;unfold qtq at h;split at h
  ·rename_i ys e;obtain⟨bs,rfl,q⟩:=h;exact ZX hc aa s σ H _ us Q I r ⟨p,bs,rfl,SqL.of e,q⟩
  exact h.elim
 exact h.elim
end
def Xo:List V->Hp->VK->Prop:=λxs H Q=>match xs with
 | [.int i,.int j]=>Q (.int (if j<i then j else i)) H
 | _=>False
def Xq:List V->Hp->VK->Prop:=λxs H Q=>match xs with
 | [.int i,.int j]=>Q (.int (if j>i then j else i)) H
 | _=>False
theorem Xn(i j:Int)(H:Hp)(Q:VK):Xo [.int i,.int j] H Q=Q (.int (if j<i then j else i)) H:=rfl
theorem Xp(i j:Int)(H:Hp)(Q:VK):Xq [.int i,.int j] H Q=Q (.int (if j>i then j else i)) H:=rfl
theorem vg(hc:X.calm=true):eY X (.builtin "min") Xo:=by
 intro aa s σ H xs us Q I r h;unfold Xo at h;split at h
 ·exact VB hc aa s σ H _ us Q I r ⟨_,_,rfl,h⟩
 exact h.elim
theorem nu(hc:X.calm=true):eY X (.builtin "max") Xq:=by
 intro aa s σ H xs us Q I r h;unfold Xq at h;split at h
 ·exact VF hc aa s σ H _ us Q I r ⟨_,_,rfl,h⟩
 exact h.elim
structure QE(X:Cx)(e:Expr)(t:TE):Prop where
 h:PE X e t
structure QT(X:Cx)(e:Expr)(t:TT):Prop where
 h:PT X e t
structure QW(X:Cx)(e:Expr)(t:TT):Prop where
 h:PW X e t
structure QA(X:Cx)(es:List Expr)(t:TA):Prop where
 h:PA X es t
structure QS(X:Cx)(st:Stmt)(t:TS):Prop where
 h:PS X st t
structure QB(X:Cx)(st:List Stmt)(t:TS):Prop where
 h:PSs X st t
structure QG(X:Cx)(e:Expr)(t:TG):Prop where
 h:PG X e t
structure QGs(X:Cx)(es:List Expr)(t:TGs):Prop where
 h:PGs X es t
structure QI(X:Cx)(tg e:Expr)(t:TI):Prop where
 h:PI X tg e t
structure QC(X:Cx)(cs:List Expr)(t:TT):Prop where
 h:PTs X cs t
section
variable{x:Str}{p:Pos}{a b c o:Expr}{rest:List Expr}{ta tb tc ti:TE}{tA tB':TT}{t:TA}{k:Nat}{id:String}{r:List V->Hp->VK->Prop}{st:Stmt}{UE:List Stmt}{ts us:TS}{gs:TGs}
theorem afi(h:Nm X.N X.env.scope i x):QE X (.Name x pos) (KD i):=⟨pn h⟩
theorem af6(i:Nat){x:Str}(hN:X.N[i]?=GE x:=by rfl)(hv:Vis X.env.scope x:=by first|exact D8 rfl|exact Or.inr (D8 Z)|exact Or.inr (Or.inr Z))(hd:(x == ("__debug__" : Str))=false:=by decide)
  (hcd:(x == ("__classdict__" : Str))=false:=by decide):QE X (.Name x pos) (KD i):=⟨Yd hN hv hd hcd⟩
theorem aq{i j pos}:QE X (.Constant (.int i) j pos) (tC (.int i)):=⟨Yh⟩
theorem jY{b j pos}:QE X (.Constant (.bool b) j pos) (tC (.bl b)):=⟨λ_ _ _ H _ I h=>Constant_bool ⟨.bl b,H,I,rfl,h⟩⟩
theorem pC{j pos}:QE X (.Constant .none j pos) (tC .non):=⟨λ_ _ _ H _ I h=>Constant_none ⟨.non,H,I,rfl,h⟩⟩
theorem bf{x j pos}:QE X (.Constant (.str x) j pos) (tC (.str x)):=⟨λ_ _ _ H _ I h=>Calls.Constant_str ⟨.str x,H,I.tok _,⟨_,rfl⟩,h⟩⟩
theorem aX{r:R2}(ho:OpR X (EU op) r)(ha:QE X a ta)(hb:QE X b tb):QE X (.BinOp a op b pos) (tOp r ta tb):=⟨by
 intro aa s σ H Q I h;exact wpAny_BinOp (aeZ ha.h hb.h I h λv u s2 x y H2 I2 rx ry q=>ho aa s2 σ H2 x y v u Q I2 rx ry q)⟩
theorem jX{op:UnaryOp}{r:V->Hp->VK->Prop}(ho:UnR X (unaryOp op) r)(ha:QE X a ta):QE X (.UnaryOp op a pos) (tUn r ta):=⟨acY ho ha.h⟩
theorem XQ(ha:QE X a ta):QE X (.UnaryOp .Not a pos) (Wx ta):=⟨by
 intro aa s σ H Q I h;refine UnaryOp_ (thE (ha.h aa s σ H _ I h) λv s1 x H1 I1 r1 q1=>?_);obtain⟨c,rfl,q1⟩:=q1;cases r1;exact not_of (C5 ⟨.bl (!c),H1,I1,rfl,q1⟩)⟩
theorem dX{op:IY}{r:R2}(ho:OpR X (B0 op) r)(ha:QE X a ta)(hb:QE X b tb)(hm:E7 op b=false):QE X (.Compare a [op] [b] pos) (tOp r ta tb):=⟨by
 intro aa s σ H Q I h;exact wpAny_Compare1 (aeZ ha.h hb.h I h λv u s2 x y H2 I2 rx ry q=>ho aa s2 σ H2 x y v u Q I2 rx ry q) hm⟩
theorem aV{op:IY}{r:R2}(ho:OpR X (B0 op) r)(ha:QE X a ta)(hb:QE X b tb)(hm:E7 op b=false):QT X (.Compare a [op] [b] pos) (CG (tOp r ta tb)):=⟨by
 intro aa s σ H Q I h;refine wpAny_isTrue_Compare1 (thE (ha.h aa s σ H _ I h) λv s1 x H1 I1 r1 q1=>thE (hb.h aa s1 σ H1 _ I1 q1) λu s2 y H2 I2 r2 q2=>
  thn (ho aa s2 σ H2 x y v u _ I2 r1 r2 q2) λc s3 ⟨z,H3,I3,r3,k,e,q3⟩=>?_) hm
 subst e;cases r3;exact C5 ⟨H3,I3,q3⟩⟩
theorem Lp{op hZ:IY}{r r':R2}(ho:OpR X (B0 op) r)(fq:OpR X (B0 hZ) r')(ha:QE X a ta)(hb:QE X b tb)(hc:QE X c tc)
  (hm:lastMarks [op,hZ] [b,c]=false:=by with_unfolding_all rfl):QE X (.Compare a [op,hZ] [b,c] pos) (CJ r r' ta tb tc):=⟨by
 intro aa s σ H Q I h;refine Compare_chain (thE (ha.h aa s σ H _ I h) λv s1 x H1 I1 r1 q1=>chain_link (thE (hb.h aa s1 σ H1 _ I1 q1) λu s2 y H2 I2 r2 q2=>
  thn (ho aa s2 σ H2 x y v u _ I2 r1 r2 q2) λd s3 ⟨z,H3,I3,r3,k,e,q3⟩=>?_)) hm
 subst e;cases r3;refine C5 ?_;cases k with
 | false=>exact ite_ff ⟨.bl false,H3,I3,rfl,q3⟩
 | true=>exact ite_tt (chain_last (thn (hc.h aa s3 σ H3 _ I3 q3) λw' s4 ⟨z',H4,I4,r4,q4⟩=>fq aa s4 σ H4 y z' u w' Q I4 r2 r4 q4))⟩
theorem XF{op hZ:IY}{r r':R2}(ho:OpR X (B0 op) r)(fq:OpR X (B0 hZ) r')(ha:QE X a ta)(hb:QE X b tb)(hc:QE X c tc)
  (hm:lastMarks [op,hZ] [b,c]=false:=by with_unfolding_all rfl):QT X (.Compare a [op,hZ] [b,c] pos) (CG (CJ r r' ta tb tc)):=⟨by
 intro aa s σ H Q I h;refine isTrue_chain (thE (ha.h aa s σ H _ I h) λv s1 x H1 I1 r1 q1=>test_link (thE (hb.h aa s1 σ H1 _ I1 q1) λu s2 y H2 I2 r2 q2=>
  thn (ho aa s2 σ H2 x y v u _ I2 r1 r2 q2) λd s3 ⟨z,H3,I3,r3,k,e,q3⟩=>?_)) hm
 subst e;cases r3;refine C5 ?_;cases k with
 | false=>
  obtain⟨k',e',q'⟩:=q3;cases e';exact ite_ff ⟨H3,I3,q'⟩
 | true=>
  refine ite_tt (test_last (thn (hc.h aa s3 σ H3 _ I3 q3) λw' s4 ⟨z',H4,I4,r4,q4⟩=>thn (fq aa s4 σ H4 y z' u w' _ I4 r2 r4 q4) λd' s5 ⟨z2,H5,I5,r5,k2,e2,q5⟩=>?_));subst e2;cases r5;exact C5 ⟨H5,I5,q5⟩⟩
theorem rZ{op}(h:QE X a ta):QE X (.BoolOp op [a] pos) ta:=⟨λaa s σ H Q I hw=>BoolOp_one (h.h aa s σ H Q I hw)⟩
theorem qJ(ha:QE X a ta)(hb:QE X (.BoolOp .And (b::rest) pos) tb):QE X (.BoolOp .And (a::b::rest) pos) (WQ ta tb):=⟨by
 intro aa s σ H Q I h;refine BoolOp_and (thE (ha.h aa s σ H _ I h) λv s1 x H1 I1 r1 q1=>?_);obtain⟨c,rfl,q1⟩:=q1;cases r1;refine C5 ?_;cases c with
 | true=>exact hb.h aa s1 σ H1 Q I1 q1
 | false=>exact⟨.bl false,H1,I1,rfl,q1⟩⟩
theorem Dl(hc:QT X c tA)(ha:QE X a ta)(hb:QE X b tb):QE X (.IfExp c a b pos) (tIf tA ta tb):=⟨by
 intro aa s σ H Q I h;refine wpAny_IfExp (thT (hc.h aa s σ H _ I h) λd s1 H1 I1 q1=>?_);cases d with
 | true=>exact ha.h aa s1 σ H1 Q I1 q1
 | false=>exact hb.h aa s1 σ H1 Q I1 q1⟩
theorem aH{r:R2}(hr:IxR X r)(ha:QE X a ta)(hb:QE X b tb)(hs:Td b):QE X (.Subscript a b pos) (tOp r ta tb):=⟨by
 intro aa s σ H Q I h;exact Subscript_ (aeZ ha.h hb.h I h λv u s2 x y H2 I2 rx ry q=>hr a b aa s2 σ H2 x y v u Q I2 rx ry q (hs _ _))⟩
theorem bV(h:QA X es t):QE X (.List es pos) (Wz t):=⟨by
 intro aa s σ H Q I hq;refine wpAny_List_spliced (thn (h.h pos aa s σ H _ I hq) λus s1 ⟨xs,H1,I1,r,z,q⟩=>⟨by rw[<- r.length];exact z,?_⟩);have hf:H1 s1.heap.objs.size=GT:=I1.hok.fresh (AW _);refine⟨.ref s1.heap.objs.size,upd H1 s1.heap.objs.size (.lst xs),I1.laid (t':=s1.toks) (λb u e=>AH _ e) (AW _) ?_,rfl,q _ hf⟩;exact⟨z,us,0,r,A7 _ rfl⟩⟩
theorem bG{x1}(h:QA X es t):QE X (.Tuple es x1 pos) (Ws t):=⟨by
 intro aa s σ H Q I hq;refine wpAny_Tuple_spliced (thn (h.h pos aa s σ H _ I hq) λus s1 ⟨xs,H1,I1,r,z,q⟩=>⟨by rw[<- r.length];exact z,?_⟩);have hf:H1 s1.heap.objs.size=GT:=I1.hok.fresh (AW _);refine⟨.ref s1.heap.objs.size,upd H1 s1.heap.objs.size (.tup xs),I1.laid (t':=s1.toks) (λb u e=>AH _ e) (AW _) ?_,rfl,q _ hf⟩;exact⟨z,us,r,⟨_,A7 _ rfl,rfl,_,rfl⟩⟩⟩
theorem aA:QA X [] TF:=⟨λ_ _ _ _ H Q I h=>DF ⟨[],H,I,.nil,h⟩⟩
theorem ak(ha:QE X e te)(hr:QA X es t)(hs:AM (e::es) X.env=(false,eval e X.env)::AM es X.env:=by rfl):QA X (e::es) (GZ te t):=⟨by
 intro pos aa s σ H Q I h;rw[hs];show AO _ _ (spliced ((false,eval e X.env)::CY pos (AM es X.env))) _ _ s;refine CD (thE (ha.h aa s σ H _ I h) λu s1 x H1 I1 r1 q1=>?_);exact thA (hr.h pos aa s1 σ H1 _ I1 q1) λus s2 xs H2 I2 r2 q2=>⟨x::xs,H2,I2,.cons r1 r2,q2⟩⟩
theorem bA(C:Cal X.prog X.w X.K X.mg X.base x k ps sp)(hr:lX k X.A)(hg:Gl X x)(k6:Bn x)(ha:QA X (e::es) t)
  (he:AM (e::es) X.env=(false,eval e X.env)::AM es X.env:=by rfl)(br:(CY pos (AM es X.env)).any (·.1)=false:=by rfl):QE X (.Call (.Name x p) (e::es) [] pos) (CK sp [] E0 t):=⟨ ad4 C hr hg ha.h k6.hd he br⟩
theorem bJ(hc:eY X (.builtin id) r)(hg:Gl X x)(hm:X.mg x=GT)(hv:D1 x=GE (.builtin id))(b:Bn x)(ha:QA X (e::es) t)
  (he:AM (e::es) X.env=(false,eval e X.env)::AM es X.env:=by rfl)(br:(CY pos (AM es X.env)).any (·.1)=false:=by rfl):QE X (.Call (.Name x p) (e::es) [] pos) (tCB r t):=⟨Yo hc hg hm hv ha.h b.hn b.hd he br⟩
theorem RG(hc:eY X (.type T) r)(hg:Gl X x)(hm:X.mg x=GT)(hv:D1 x=GE (.type T))(b:Bn x)(ha:QA X (e::es) t)
  (he:AM (e::es) X.env=(false,eval e X.env)::AM es X.env:=by rfl)(br:(CY pos (AM es X.env)).any (·.1)=false:=by rfl):QE X (.Call (.Name x p) (e::es) [] pos) (tCB r t):=⟨Um hc hg hm hv ha.h b.hn b.hd he br⟩
theorem mL(n:String)(hg:Gl X x)(hm:X.mg x=GT)(hv:D1 x=GE (.type n))(b:Bn x):QE X (.Name x pos) (tC (.ty n)):=⟨abH hg hm hv Z b.hn b.hd⟩
theorem rY(ha:QT X a tA):QT X (.UnaryOp .Not a pos) (Wy tA):=⟨by
 intro aa s σ H Q I h;exact isTrue_not (ha.h aa s σ H (λc H1=>Q (!c) H1) I h)⟩
theorem mC(h:QE X e te)(he:∀bE,isTrue e X.env bE=(do let v <- bE;Ix e.pos;EW [v] (truthy v)):=by intro _;rfl):QT X e (tB te):=⟨by
 intro aa s σ H Q I hw;refine isTrue_plain (thE (h.h aa s σ H _ I hw) λv s1 x H1 I1 r1 q1=>?_) (he _);obtain⟨d,rfl,q⟩:=q1;cases r1;exact C5 ⟨H1,I1,q⟩⟩
theorem jC(ha:QT X a tA):QW X (.BoolOp .And [a] pos) tA:=⟨by
 intro wh aa s σ H Q I h;refine isTrue_and (thn (ha.h aa s σ H Q I h) λc s1 e=>?_);cases c with
 | true=>exact isTrue_and_nil e
 | false=>exact e⟩
theorem qH(ha:QT X a tA):QW X (.BoolOp .Or [a] pos) tA:=⟨by
 intro wh aa s σ H Q I h;refine isTrue_or (thn (ha.h aa s σ H Q I h) λc s1 e=>?_);cases c with
 | false=>exact isTrue_or_nil e
 | true=>exact e⟩
theorem lZ(ha:QT X a tA)(hb:QW X (.BoolOp .And (b::rest) pos) tB'):QW X (.BoolOp .And (a::b::rest) pos) (aaE tA tB'):=⟨by
 intro wh aa s σ H Q I h;refine isTrue_and (thT (ha.h aa s σ H _ I h) λc s1 H1 I1 q1=>?_);cases c with
 | true=>exact hb.h wh aa s1 σ H1 Q I1 q1
 | false=>exact⟨H1,I1,q1⟩⟩
theorem yd(ha:QT X a tA)(hb:QW X (.BoolOp .Or (b::rest) pos) tB'):QW X (.BoolOp .Or (a::b::rest) pos) (tOr tA tB'):=⟨by
 intro wh aa s σ H Q I h;refine isTrue_or (thT (ha.h aa s σ H _ I h) λc s1 H1 I1 q1=>?_);cases c with
 | true=>exact⟨H1,I1,q1⟩
 | false=>exact hb.h wh aa s1 σ H1 Q I1 q1⟩
theorem pW(h:QW X e tA):QT X e tA:=⟨h.h.pt⟩
theorem bB:QB X [] KH:=⟨λ_ _ σ H _ I h=>IR ⟨σ,H,I,h⟩⟩
theorem aJ(h:QS X st ts):QB X [st] ts:=⟨abh h.h⟩
theorem aD(h:QS X st ts)(h2:QB X UE us):QB X (st::UE) (Tz ts us):=⟨X5 h.h h2.h⟩
theorem aQ(he:QE X e te):QS X (.Return (GE e) pos) (Wt te):=⟨by
 intro aa s σ H D I h;exact wpAny_Return_some (thE (he.h aa s σ H _ I h) λv s1 x H1 I1 r1 q1=>⟨x,σ,H1,I1,r1,q1⟩)⟩
theorem bH{c:Expr}{a b:List Stmt}{tc:TT}(hc:QT X c tc)(ha:QB X a ts)(hb:QB X b us):QS X (.If c a b pos) (TQ tc ts us):=⟨by
 intro aa s σ H D I h;refine wpAny_If (thT (hc.h aa s σ H _ I h) λd s1 H1 I1 q1=>?_);cases d with
 | true=>exact ha.h aa s1 σ H1 D I1 q1
 | false=>exact hb.h aa s1 σ H1 D I1 q1⟩
theorem fj(he:QE X e te)(hs:HP e GT pos.line X.env=pure false:=by rfl):QS X (.Expr e pos) (WK te):=⟨by
 intro aa s σ H D I h;exact wpAny_Expr_any (thE (he.h aa s σ H _ I h) λv s1 x H1 I1 r1 q1=>⟨σ,H1,I1,q1⟩) I.quiet hs⟩
theorem bF(h:Nm X.N X.env.scope i x)(hN:X.N.Nodup)(he:QE X e te)(hs:HP e (GE (.Name x aT)) pos.line X.env=pure false:=by rfl)(hf:X.fn x=true\/X.env.scope.names.lookup x=GE .local:=by exact .inl Z) :
  QS X (.Assign [.Name x aT] e pos) (Jl te (qg i)):=⟨adN hN h.hN h.hv he.h hs hf⟩
theorem jD(he:QE X e te)(hg:QG X tg g)(hs:GH [tg] e pos.line X.env=pure false:=by rfl)(hw:KI [tg] e X.env=pure GT:=by rfl)
  (h1:(DS [tg] X.env).map (·.2)=[Gc tg X.env]:=by rfl):QS X (.Assign [tg] e pos) (Jl te g):=⟨by
 intro aa s σ H D I h;refine wpAny_Assign_stores (thE (he.h aa s σ H _ I h) λv s1 x H1 I1 r1 q1=>?_) hs hw;rw[h1];exact thn (hg.h aa s1 σ H1 x v _ I1 r1 q1) λ_ s2 q=>q⟩
theorem adF{x y:Str}{a b:Expr}{ta:TA}{px py pt:Pos}{kt k2 pt2}(hc:X.calm=true)(hN:X.N.Nodup)(hi:X.N[i]?=GE x)(hj:X.N[j]?=GE y)(eR:i≠j)
  (hx:X.env.scope.names.lookup x=GE .local)(hy:X.env.scope.names.lookup y=GE .local)(ha:QA X [a,b] ta)
  (hw:KI [.Tuple [.Name x px,.Name y py] kt pt] (.Tuple [a,b] k2 pt2) X.env=pure (GE [x,y]))
  (hs:GH [.Tuple [.Name x px,.Name y py] kt pt] (.Tuple [a,b] k2 pt2) pos.line X.env=pure false:=by rfl) :
  QS X (.Assign [.Tuple [.Name x px,.Name y py] kt pt] (.Tuple [a,b] k2 pt2) pos) (ade i j ta):=⟨by
 intro aa s σ H D I h;rw[exec_Assign_arm];refine An (GG ?_);rw[hs];refine An (AF ?_);rw[if_neg δ];refine An (Tuple_ (thA (ha.h _ aa s σ H _ I h) λus s1 vs H1 I1 r1 q1=>?_));obtain⟨v,w,e1,q1⟩:=q1;subst e1;obtain⟨u1,u2,rfl,rv,f6⟩:∃u1 u2,us=[u1,u2]/\RelV v u1/\RelV w u2:=by
  cases r1 with
  | cons p q=>
   cases q with
   | cons p' q'=>
    cases q';exact⟨_,_,rfl,p,p'⟩
 refine BU ?_ (by show 2<=AV;decide);have I2:Inv X aa σ H1 { s1 with heap:=s1.heap.push { cls:=.type "tuple",data:=.seq [u1,u2].toArray } }:=I1.kept (t':=s1.toks) λb o e=>AH _ e;rw[hw];refine An (AF ?_);show AO (A3 X.prog X.w) X.A (do rule "assign.swapped-stores";let items <- unpackItems (.ref s1.heap.objs.size) 2 GT;assignInOrder [λv=>bindName X.env y v,λv=>bindName X.env x v] items.reverse;pure Flow.next) _ _ _;refine An (EN (An (unpackItems_tuple (items:=#[u1,u2]) (I.ok.hd hc) (IsTup.new s1.heap _) λh' ky=>?_)));have I3:=I2.kept (h':=h') (t':=s1.toks) λb o e=>ky b o (BS (Bz e)) e;show AO _ _ (assignInOrder [λv=>bindName X.env y v,λv=>bindName X.env x v] [u2,u1] >>= λ_=>pure Flow.next) _ _ _;refine An (assignInOrder_cons (wpAny_bindName (rN I3 hN hj (.inl hy) f6 (λs2 I4=>?_) (.inr hy))));refine assignInOrder_cons (wpAny_bindName (rN I4 hN hi (.inl hx) rv (λs3 I5=>assignInOrder_nil (AF ?_)) (.inr hx)));rw[List.set_comm _ _ (EC eR)] at I5;exact⟨_,H1,I5,q1⟩⟩
theorem pX{c:Expr}{tc:TT}(hp:PassesOwn (A3 X.prog X.w) X.A X.env X.xe)(hc:QT X c tc)(hb:QB X body ts):QS X (.While c body [] pos) (Cz tc ts):=⟨by
 intro aa s σ H D I h;obtain⟨W,⟨m0,w0⟩,ff⟩:=h;refine wpAny_While (codeAny_whileLoop (λn s'=>∃σ' H',Inv X aa σ' H' s'/\W n σ' H') ?_ m0 ⟨σ,H,I,w0⟩);rintro n s1 ⟨σ1,H1,I1,w1⟩;refine EZ hp (thT (hc.h aa s1 σ1 H1 _ I1 (ff n σ1 H1 w1)) λb s2 H2 I2 q2=>?_);cases b with
 | true=>
  obtain⟨N,hN,q2⟩:=q2;rw[if_pos rfl];refine EZ hp (thn (hb.h aa s2 σ1 H2 _ I2 q2) λf s3 q3=>?_);cases f with
  | next=>
   obtain⟨σ3,H3,I3,n3⟩:=q3;obtain⟨m',hm,w3⟩:=hN σ3 H3 n3;exact⟨m',hm,σ3,H3,I3,w3⟩
  | cont=>
   obtain⟨σ3,H3,I3,n3⟩:=q3;obtain⟨m',hm,w3⟩:=hN σ3 H3 n3;exact⟨m',hm,σ3,H3,I3,w3⟩
  | brk=>exact q3
  | ret v=>exact q3
 | false=>
  rw[if_neg A5];exact IR ⟨σ1,H2,I2,q2⟩⟩
theorem fG(hp:PassesOwn (A3 X.prog X.w) X.A X.env X.xe)(hc:X.calm=true)(hi:QI X tg iter wi)(hg:QG X tg g)(hb:QB X body ts)
  (hs:∀x,D5 iter X.env x=pure x:=by intro _;rfl):QS X (.For tg iter body [] pos) (adf wi g ts):=⟨adQ hp hc hi.h hg.h hb.h hs⟩
theorem bK(h:Nm X.N X.env.scope i x)(hN:X.N.Nodup)(hf:X.fn x=true\/X.env.scope.names.lookup x=GE .local:=by exact .inl Z):QG X (.Name x pos) (qg i):=⟨RM hN h.hN h.hv hf⟩
theorem cU(i:Nat)(hN:X.N.Nodup)(hi:X.N[i]?=GE x)(hx:Loc X.env.scope x)(hf:X.fn x=true\/X.env.scope.names.lookup x=GE .local:=by first|exact .inl rfl|exact .inr Z):QG X (.Name x pos) (qg i):=⟨RM hN hi hx hf⟩
theorem cB:QGs X [] aeN:=⟨by
 intro aa s σ H vs us Q I r h;obtain⟨e,h⟩:=h;subst e;cases r;exact assignInOrder_nil ⟨σ,H,I,h⟩⟩
theorem aU(h1:QG X e g)(h2:QGs X es gs)(hs:(DS (e::es) X.env).map (·.2)=Gc e X.env::(DS es X.env).map (·.2):=by rfl):QGs X (e::es) (Zo g gs):=⟨by
 intro aa s σ H vs us Q I r h;obtain⟨v,vr,e1,h⟩:=h;subst e1;cases r with
 | cons r rr=>
  rw[hs];refine assignInOrder_cons (thn (h1.h aa s σ H _ _ _ I r h) λ_ s1 ⟨σ1,H1,I1,q1⟩=>?_);exact h2.h aa s1 σ1 H1 _ _ Q I1 rr q1⟩
theorem cV(hc:X.calm=true)(h:QGs X es gs)(hn:(DS es X.env).length=n:=by rfl)(ar:(DS es X.env).findIdx? (·.1)=GT:=by rfl):QG X (.Tuple es k pos) (Sg n gs):=⟨by
 intro aa s σ H v u Q I r hw;unfold Sg at hw;split at hw
 ·rename_i a;unfold gtq at hw;split at hw
  ·rename_i xs e;exact adW hc h.h hn ar aa s σ H _ u Q I r ⟨a,xs,rfl,SqT.of e,hw.1,hw.2⟩
  exact hw.elim
 exact hw.elim⟩
theorem aam(o:Expr)(c j)(p pos:Pos)(env:Env)(v:Ap):Gc (.Subscript o (.Constant c j p) pos) env v=(do
   let ov <- EW [v] (eval o env)
   let iv <- EW [v,ov] (eval (.Constant c j p) env)
   Ix pos
   EW [v,ov,iv] (setItem ov iv v)
   release [v,ov,iv] []):=rfl
theorem aal(o:Expr)(y)(p pos:Pos)(env:Env)(v:Ap):Gc (.Subscript o (.Name y p) pos) env v=(do
   let ov <- EW [v] (eval o env)
   let iv <- EW [v,ov] (eval (.Name y p) env)
   Ix pos
   EW [v,ov,iv] (setItem ov iv v)
   release [v,ov,iv] []):=rfl
theorem JG{c j}{t:V7}(ho:QE X o to)(hi:QE X (.Constant c j p) ti)(hs:V8 X t):QG X (.Subscript o (.Constant c j p) pos) (Zk to ti t):=⟨O3 ho.h hi.h hs (λv=>aam o c j p pos X.env v)⟩
theorem aa8{y}{t:V7}(ho:QE X o to)(hi:QE X (.Name y p) ti)(hs:V8 X t):QG X (.Subscript o (.Name y p) pos) (Zk to ti t):=⟨O3 ho.h hi.h hs (λv=>aal o y p pos X.env v)⟩
theorem uK(hg:Gl X "range")(hm:X.mg "range" = GT)(ha:QA X [a] t)(hs:AM [a] X.env=[(false,eval a X.env)]:=by rfl):QI X tg (.Call (.Name "range" p) [a] [] pos) (Ih t):=⟨by
 intro aa s σ H R I h;refine Call_ (mF I hg hm boot_range (Ch (thA (ha.h pos aa s σ H _ I h) λus s1 vs H1 I1 r1 q1=>?_) hs Z));obtain⟨j,e,q1,q2,q⟩:=q1;subst e;cases r1 with
 | cons r rr=>
  cases rr;obtain⟨t,rfl⟩:=r;exact call_range_1 (Lk I1 ω ω q1 q2 (by simpa using q))⟩
theorem Ud(hg:Gl X "range")(hm:X.mg "range" = GT)(ha:QA X [a,b] t)(hs:AM [a,b] X.env=[(false,eval a X.env),(false,eval b X.env)]:=by rfl)(i5:AM [b] X.env=[(false,eval b X.env)]:=by rfl):QI X tg (.Call (.Name "range" p) [a,b] [] pos) (Zi t):=⟨by
 intro aa s σ H R I h;refine Call_ (mF I hg hm boot_range (Ch (thA (ha.h pos aa s σ H _ I h) λus s1 vs H1 I1 r1 q1=>?_) (by rw[hs,i5]) (by rw[i5];rfl)));obtain⟨i,j,e,⟨q1,q2,q3,q4⟩,q⟩:=q1;subst e;cases r1 with
 | cons r rr=>
  cases rr with
  | cons r' rr=>
   cases rr;obtain⟨t,rfl⟩:=r;obtain⟨t',rfl⟩:=r';exact call_range_2 (Lk I1 q1 q2 q3 q4 q)⟩
theorem XJ(hg:Gl X "zip")(hm:X.mg "zip" = GT)(ha:QA X [a,b] t)(hs:AM [a,b] X.env=[(false,eval a X.env),(false,eval b X.env)]:=by rfl)(i5:AM [b] X.env=[(false,eval b X.env)]:=by rfl):QI X (.Tuple es kk dq) (.Call (.Name "zip" p) [a,b] [] pos) (aeK X.K t):=⟨by
 intro aa s σ H R I h;refine Call_ (mF I hg hm boot_zip (Ch (thA (ha.h pos aa s σ H _ I h) λus s1 vs H1 I1 r1 q1=>?_) (by rw[hs,i5]) (by rw[i5];rfl)));obtain⟨l1,l2,e,⟨xs,g1⟩,⟨ys,g2⟩,q⟩:=q1;subst e;cases r1 with
 | cons r rr=>
  cases rr with
  | cons r' rr=>
   cases rr;cases r;cases r';obtain⟨aE,fh,p1,eA⟩:=I1.list g1;obtain⟨cz,L',p2,di⟩:=I1.list g2;have PH:l1<s1.heap.objs.size:=by obtain⟨_,e,_⟩:=p1.isList;exact Bz e
   have PF:l2<s1.heap.objs.size:=by obtain⟨_,e,_⟩:=p2.isList;exact Bz e
   refine call_zip_2 p1.isList p2.isList λh' b1 b2 b3 b4 b5 b6 hk=>?_;refine wpAny_pyIter_zip (s:={ s1 with heap:=h' }) b1 ?_;have I2:Inv X aa σ H1 { s1 with heap:=h' }:=I1.kept (t':=s1.toks) hk;have D:ZipApart (s1.heap.objs.size+4) (s1.heap.objs.size+2) (s1.heap.objs.size+3) s1.heap.objs.size (s1.heap.objs.size+1) l1 l2:=by
    revert PH PF;generalize s1.heap.objs.size=n;intro PH PF;have lt1':@LT.lt Nat _ l1 n:=PH;have lt2':@LT.lt Nat _ l2 n:=PF;constructor <;> (intro(z:@Eq Nat _ _);omega)
   refine⟨_,_,_,_,H1,rfl,I2,Wl D,⟨b1,b2,⟨_,_,b3⟩,b4,b5⟩,λb hb=>?_,q⟩;have bS:s1.heap.objs.size<=b:=by
    simp only[AL,BC,or_false] at hb;rcases hb with rfl|rfl|rfl|rfl|rfl <;> simp
   exact I1.MN bS (I1.hok.fresh bS)⟩
theorem uL(hg:Gl X "enumerate")(hm:X.mg "enumerate" = GT)(ha:QA X [a] t)(hs:AM [a] X.env=[(false,eval a X.env)]:=by rfl):QI X (.Tuple es kk dq) (.Call (.Name "enumerate" p) [a] [] pos) (Bd X.K t):=⟨by
 intro aa s σ H R I h;refine Call_ (mF I hg hm PyProof.Rows.Boot.«enumerate» (Ch (thA (ha.h pos aa s σ H _ I h) λus s1 vs H1 I1 r1 q1=>?_) hs Z));obtain⟨l1,e,⟨xs,g1⟩,q⟩:=q1;subst e;cases r1 with
 | cons r rr=>
  cases rr;cases r;obtain⟨aE,fh,p1,eA⟩:=I1.list g1;refine call_enumerate_list p1.isList λh' b1 b2 b3 hk=>?_;refine Fa (s:={ s1 with heap:=h' }) b1 ?_;have I2:Inv X aa σ H1 { s1 with heap:=h' }:=I1.kept (t':=s1.toks) hk;refine⟨_,_,_,_,H1,rfl,I2,Tp (IZ (CF _)),⟨⟨_,b1⟩,b2⟩,λb hb=>?_,q⟩;have bS:s1.heap.objs.size<=b:=by
   simp only[AL,BC,or_false] at hb;rcases hb with rfl|rfl <;> simp
  exact I1.MN bS (I1.hok.fresh bS)⟩
theorem qL:QC X [] ac8:=⟨λ_ _ _ H _ I h=>wpAny_tests_nil ⟨H,I,h⟩⟩
theorem qK(h:QT X c tA):QC X [c] tA:=⟨λaa s σ H Q I q=>wpAny_tests_one (h.h aa s σ H Q I q)⟩
theorem jE{tc:TT}(N:List Str)(mp:List (Option Nat))(j3:X.N=NX)(eI:X.env.scope.names=kX)(S:Bp NX kX N mp scope)(hc:X.calm=true)
  (hi:QI X tg iter wi)(hg:∀cl C s H fp,QG (cH X N scope cl C s H fp) tg g)(ht:∀cl C s H fp,QC (cH X N scope cl C s H fp) dE tc)(he:∀cl C s H fp,QE (cH X N scope cl C s H fp) dQ te)
  (hs:∀x,D5 iter X.env x=pure x:=by intro _;rfl):QE X (.ListComp dQ [⟨tg,iter,dE,0⟩] scope pos) (G3 mp wi g tc te):=
 ⟨RN N mp j3 eI S hc hi.h (λcl C s H fp=>(hg cl C s H fp).h) (λcl C s H fp=>(ht cl C s H fp).h) (λcl C s H fp=>(he cl C s H fp).h) hs⟩
end
theorem Fun.okq{x:Str}{st:Stmt}{k:Nat}(F:Fun K x qual st f fd)(S:bx N ps (aj st))(len:∀vs H Q E,sp vs H Q E->vs.length=ps.length)
   (eK:∀(ap:Ap)(A:BE)(outer:List Env)(s:AD)(H:Hp)(vs:List V)(Q:VK)(E:XK),lX k (A.deeper (IA qual (aj st) s.heap.objs.size f ap))->sp vs H Q E ->
   ∃t,QB (Ng CX0 P w K mg base N qual (aj st) f ap A outer s H E).nox (fY st) t/\t { nx:=λ_ H'=>Q .non H',rt:=Q } (L2.start N vs) H):cT P w K mg base CX0 (k+1) f fd ps sp:=
 F.ok S len λap A outer s H vs Q E hr f8=>by
  obtain⟨t,h,q⟩:=eK ap A outer s H vs Q E hr f8;exact⟨t,h.h,q⟩
def Di(i:Int)(n:Nat):List V:=(AK n).map λk=>As (i+(k:Nat))
theorem QZ:∀{xs:List V}{us:List Ap},xs.length=us.length->(∀(i:Nat) x u,xs[i]?=GE x->us[i]?=GE u->RelV x u)->Vals xs us
 | [],[],_,_=>.nil
 | [],_::_,h,_=>by cases h
 | _::_,[],h,_=>by cases h
 | x::xs,u::us,h,f=>.cons (f 0 x u rfl rfl) (QZ (by simpa using h) λi y v h1 h2=>f (i+1) y v h1 h2)
theorem aez:AV<=2^24:=by decide
def adq(a b:Option HO)(H:Hp)(Q:VK):Prop:=match a,b with
 | some (.lst xs),GE (.lst zs)=>xs.length+zs.length<=AV/\∀p,H p=GT->Q (.ref p) (upd H p (.lst (xs++zs)))
 | _,_=>False
def Rx:R2:=λx y H Q=>match x,y with
 | .int i,.int j=>Q (.int (i+j)) H
 | .ref p,.ref q=>adq (H p) (H q) H Q
 | _,_=>False
theorem aa6(i j:Int)(H:Hp)(Q:VK):Rx (.int i) (.int j) H Q=Q (.int (i+j)) H:=rfl
theorem aa5(p q:ID)(H:Hp)(Q:VK):Rx (.ref p) (.ref q) H Q=adq (H p) (H q) H Q:=rfl
theorem ae3(xs zs:List V)(H:Hp)(Q:VK):adq (GE (.lst xs)) (GE (.lst zs)) H Q=(xs.length+zs.length<=AV/\∀p,H p=GT->Q (.ref p) (upd H p (.lst (xs++zs)))):=rfl
theorem bw:OpR X (EU .Add) Rx:=by
 intro aa s σ H x y v u Q I rx ry h;unfold Rx at h;split at h
 ·exact aed aa s σ H _ _ v u Q I rx ry ⟨_,_,rfl,rfl,h⟩
 ·rename_i p q;unfold adq at h;split at h
  ·rename_i xs zs e1 e2;exact aec aa s σ H _ _ v u Q I rx ry ⟨p,q,xs,zs,rfl,rfl,e1,e2,h.1,h.2⟩
  exact h.elim
 exact h.elim
def eqL:List V->List V->Bool
 | [],[]=>true
 | x::xs,y::ys=>eqV x y&&eqL xs ys
 | _,_=>false
def ab5(a b:Option HO)(H:Hp)(Q:VK):Prop:=match a,b with
 | some (.lst xs),GE (.lst zs)=>xs.all iW=true/\zs.all iW=true/\Q (.bl (!eqL xs zs)) H
 | _,_=>False
def T9:R2:=λx y H Q=>match x,y with
 | .ref p,.ref q=>ab5 (H p) (H q) H Q
 | x,y=>rNe x y H Q
theorem adz(p q:ID)(H:Hp)(Q:VK):T9 (.ref p) (.ref q) H Q=ab5 (H p) (H q) H Q:=rfl
theorem adA(i j:Int)(H:Hp)(Q:VK):T9 (.int i) (.int j) H Q=rNe (.int i) (.int j) H Q:=rfl
theorem adB(i j:Bool)(H:Hp)(Q:VK):T9 (.bl i) (.bl j) H Q=rNe (.bl i) (.bl j) H Q:=rfl
theorem ady(i j:Str)(H:Hp)(Q:VK):T9 (.str i) (.str j) H Q=rNe (.str i) (.str j) H Q:=rfl
theorem ab4(xs zs:List V)(H:Hp)(Q:VK):ab5 (GE (.lst xs)) (GE (.lst zs)) H Q=(xs.all iW=true/\zs.all iW=true/\Q (.bl (!eqL xs zs)) H):=rfl
theorem Sw:∀(xs zs:List V),xs.length=zs.length->((AK xs.length).all λj=>match xs[j]?,zs[j]? with|some a,GE b=>eqV a b|_,_=>true)=eqL xs zs
 | [],[],_=>rfl
 | [],_::_,h=>by cases h
 | _::_,[],h=>by cases h
 | x::xs,z::zs,h=>by
  have ih:=Sw xs zs (by simpa using h);rw[BG,List.range_succ_eq_map,all_cons,all_map];show(eqV x z&&_)=(eqV x z&&eqL xs zs);rw[<- ih];rfl
theorem Sv:∀(xs zs:List V),xs.length≠zs.length->eqL xs zs=false
 | [],[],h=>absurd rfl h
 | [],_::_,_=>rfl
 | _::_,[],_=>rfl
 | x::xs,z::zs,h=>by
  show(eqV x z&&eqL xs zs)=false;rw[Sv xs zs (by simpa using h),Bool.and_false]
theorem nP(hu:X.A.units<E4):OpR X (B0 .NotEq) T9:=by
 intro aa s σ H x y v u Q I rx ry h;unfold T9 at h;split at h
 ·rename_i p q;unfold ab5 at h;split at h
  ·rename_i xs zs e1 e2;obtain⟨f1,f2,q⟩:=h;cases rx;cases ry;obtain⟨aE,r1,gx,eA⟩:=I.list (SqL.of e1);obtain⟨cz,r2,kq,di⟩:=I.list (SqL.of e2);have l1:=r1.length;have l2:=r2.length;by_cases hl:xs.length=zs.length
   ·refine SeqAt.RcNeAt.lists (e:=λj=>match xs[j]?,zs[j]? with|some a,GE b=>eqV a b|_,_=>true) gx.isList kq.isList (by simp only[AY];omega) hu (λj h1 h2=>?_) X.prog X.w X.xe (EP X aa σ Q) ?_
    ·have j1:j<xs.length:=by simp only[AY] at h1;omega
     have j2:j<zs.length:=ω;have g1:xs[j]?=GE xs[j]:=AC j1;have g2:zs[j]?=GE zs[j]:=AC j2;obtain⟨u1,kK,mS⟩:=r1.get g1;obtain⟨u2,nk,OR⟩:=r2.get g2;have k1:aE.toArray[j]=u1:=by
      have:=AB.mp kK;obtain⟨_,z⟩:=this;simpa using z
     have k2:cz.toArray[j]=u2:=by
      have:=AB.mp nk;obtain⟨_,z⟩:=this;simpa using z
     rw[k1,k2,g1,g2];exact ZC mS OR (C7.mp f1 _ (Ee j1)) (C7.mp f2 _ (Ee j2))
    rw[show aE.toArray.size=xs.length by simp only[AY];omega,Sw xs zs hl];exact⟨.bl _,H,I,rfl,q⟩
   rw[Sv xs zs hl] at q;refine SeqAt.RcNeAt.lists_lengths gx.isList kq.isList (by simp only[AY,bne_iff_ne,ne_eq];omega) hu X.prog X.w X.xe (EP X aa σ Q) ⟨.bl _,H,I,rfl,q⟩
  exact h.elim
 exact afw aa s σ H _ _ v u Q I rx ry h
def inq(neg:Bool)(o:Option HO)(x:V)(H:Hp)(Q:VK):Prop:=match o with
 | some (.lst xs)=>iW x=true/\xs.all iW=true/\Q (.bl (if neg then !inV x xs else inV x xs)) H
 | some (.tup xs)=>iW x=true/\xs.all iW=true/\Q (.bl (if neg then !inV x xs else inV x xs)) H
 | _=>False
def XD(neg:Bool):R2:=λx y H Q=>match y with
 | .ref p=>inq neg (H p) x H Q
 | _=>False
theorem adD(neg:Bool)(x:V)(p:ID)(H:Hp)(Q:VK):XD neg x (.ref p) H Q=inq neg (H p) x H Q:=rfl
theorem afH(neg:Bool)(x:V)(xs:List V)(H:Hp)(Q:VK):inq neg (GE (.lst xs)) x H Q=(iW x=true/\xs.all iW=true/\Q (.bl (if neg then !inV x xs else inV x xs)) H):=rfl
theorem afG(neg:Bool)(x:V)(xs:List V)(H:Hp)(Q:VK):inq neg (GE (.tup xs)) x H Q=(iW x=true/\xs.all iW=true/\Q (.bl (if neg then !inV x xs else inV x xs)) H):=rfl
theorem Ze{neg:Bool}{o:Option HO}{x:V}{Q:VK}{p:ID}(e:H p=o)(h:inq neg o x H Q):rIn K neg x (.ref p) H Q:=by
 unfold inq at h;split at h
 ·rename_i xs;exact⟨p,xs,rfl,.inl (SqL.of e),h.1,h.2.1,h.2.2⟩
 ·rename_i xs;exact⟨p,xs,rfl,.inr (SqT.of e),h.1,h.2.1,h.2.2⟩
 exact h.elim
theorem aea:OpR X (B0 .In) (XD false):=by
 intro aa s σ H x y v u Q I rx ry h;unfold XD at h;split at h
 ·exact Ur aa s σ H _ _ v u Q I rx ry (Ze Z h)
 exact h.elim
theorem Hj:OpR X (B0 .NotIn) (XD true):=by
 intro aa s σ H x y v u Q I rx ry h;unfold XD at h;split at h
 ·exact JK aa s σ H _ _ v u Q I rx ry (Ze Z h)
 exact h.elim
theorem aai{α:Type}(a b c:α):atI [a,b,c] (-1)=GE c:=rfl
structure cu(H:Hp)(p:ID)(B:Int):Prop where
 ex:∃a b c:Int,H p=GE (.lst [.int a,.int b,.int c])/\0<=a/\0<=b/\b<2147483629/\0<=c/\c<=B
theorem cu.same{p:ID}(h:cu H p B)(s:Same H H'):cu H' p B:=by
 obtain⟨a,b,c,e,r⟩:=h;exact⟨a,b,c,s _ _ e,r⟩
theorem cu.le{p:ID}{B':Int}(h:cu H p B)(l:B<=B'):cu H p B':=by
 obtain⟨a,b,c,e,r1,r2,r3,r4,r5⟩:=h;exact⟨a,b,c,e,r1,r2,r3,r4,ω⟩
theorem cu.ne{p:ID}(h:cu H p B)(n:H q=GT):q≠p:=by
 obtain⟨a,b,c,e,_⟩:=h;exact(aF e n).symm
def W6(K:AE):Sp:=λvs H Q _=>∃(a:ID)(ns:List Int)(k:Int),vs=[.ref a,.int k]/\SqL K H a (ns.map As)/\0<=k/\∀v:Int,Q (.int v) H
def WX(K:AE):Sp:=λvs H Q _=>∃(a:ID)(ns:List Int)(k:Int),vs=[.ref a,.int k]/\SqL K H a (ns.map As)/\0<=k/\k<=100/\∀p H',H p=GT->Same H H'->cu H' p 0->Q (.ref p) H'
def qz(n:Nat):Sp:=λvs H Q _=>∃(p:ID)(m B:Int),vs=[.ref p,.int m]/\cu H p B/\B+(n:Int)<=1000100/\0<m/\m<2^70/\1<=n/\(1000000<=m->2<=n) /\
 ∀r H',0<=r->r<m->b7 p H H'->cu H' p (B+n)->Q (.int r) H'
theorem adT(c:Int):∃v:Int,atI [As 2147483587,As 2147483579,As 2147483563,As 2147483549,As 2147483543,As 2147483497,As 2147483489] (c%7)=GE (.int v)/\0<v:=by
 have h1:0<=c%7:=Fn _ δ;have h2:c%7<7:=EB _ δ;generalize c%7=d at h1 h2;have h3:d=0\/d=1\/d=2\/d=3\/d=4\/d=5\/d=6:=ω;rcases h3 with rfl|rfl|rfl|rfl|rfl|rfl|rfl
 ·exact⟨_,bO (j:=0) rfl,δ⟩
 ·exact⟨_,bO (j:=1) rfl,δ⟩
 ·exact⟨_,bO (j:=2) rfl,δ⟩
 ·exact⟨_,bO (j:=3) rfl,δ⟩
 ·exact⟨_,bO (j:=4) rfl,δ⟩
 ·exact⟨_,bO (j:=5) rfl,δ⟩
 exact⟨_,bO (j:=6) rfl,δ⟩
theorem aeY(X k:Nat):((X:Int)/2^k)%2=if X.testBit k then 1 else 0:=by
 have e:(X:Int)/2^k%2=((X/2^k%2:Nat):Int):=by
  rw[Int.natCast_emod,Int.natCast_ediv,natCast_pow];rfl
 rw[e,Nat.testBit_eq_decide_div_mod_eq];have:=mod_lt (X/2^k) (show 0<2 by decide);by_cases h:X/2^k%2=1
 ·simp[h]
 have h0:X/2^k%2=0:=ω;simp[h0]
theorem Tc(y:Int):AX.bitAnd y 1=y%2:=by
 have:=PySem.W.kbt_mask y 1;simpa using this
theorem Ro(X k:Nat):AX.bitAnd ((X:Int)/2^k) 1=if X.testBit k then 1 else 0:=by
 rw[Tc,aeY]
section
variable{Q:VK}
theorem ZS(hR:R=NZ mp g tc te σ Q)(hz:n<=AV)(Pv:Nat->List V->St->Hp->Prop)(h0:Pv 0 [] (rM mp σ) H)(hl:∀i ac τ H,Pv i ac τ H->ac.length<=i)
  (hs:∀i ac τ H,i<n->Pv i ac τ H->g (.int (lo+i)) τ H λτ1 H4=>tc τ1 H4 λb H5=>if b=true then te τ1 H5 λv H6=>Pv (i+1) (ac++[v]) τ1 H6 else Pv (i+1) ac τ1 H5)
  (hd:∀ac τ H d,Pv n ac τ H->H d=GT->Q (.ref d) (upd H d (.lst ac))):R (Itr lo n) H:=by
 refine Cq hR n hz Pv h0 hl (λi ac τ H hi _=>hi) (λac τ H _=>AW n) (λi ac τ H x H3 hi p y=>?_) hd;obtain⟨rfl,rfl⟩:=y;exact hs i ac τ _ hi p
theorem Ag(hR:R=NZ mp g tc te σ Q)(hz:xs.length<=AV)(Pv:Nat->List V->St->Hp->Prop)(h0:Pv 0 [] (rM mp σ) H)(hl:∀i ac τ H,Pv i ac τ H->ac.length<=i)
  (hq:∀i ac τ H,Pv i ac τ H->SqL K H a xs)
  (hs:∀i x ac τ H,xs[i]?=GE x->Pv i ac τ H->g x τ H λτ1 H4=>tc τ1 H4 λb H5=>if b=true then te τ1 H5 λv H6=>Pv (i+1) (ac++[v]) τ1 H6 else Pv (i+1) ac τ1 H5)
  (hd:∀ac τ H d,Pv xs.length ac τ H->H d=GT->Q (.ref d) (upd H d (.lst ac))):R (Itl K a) H:=by
 refine Cq hR xs.length hz Pv h0 hl (λi ac τ H hi p=>⟨xs,xs[i],hq i ac τ H p,AC hi⟩) (λac τ H p=>⟨xs,hq _ ac τ H p,AW _⟩) (λi ac τ H x H3 hi p y=>?_) hd;obtain⟨rfl,hx⟩:=y;exact hs i x ac τ _ (hx xs (hq i ac τ _ p)) p
theorem aeW(hR:R=NZ mp g tc te σ Q)(hz:xs.length<=AV)(Pv:Nat->List V->St->Hp->Prop)(h0:Pv 0 [] (rM mp σ) H)(hl:∀i ac τ H,Pv i ac τ H->ac.length<=i)
  (hq:∀i ac τ H,Pv i ac τ H->SqL K H a xs)
  (hs:∀(i:Nat) x ac τ H p,xs[i]?=GE x->Pv i ac τ H->H p=GT->g (.ref p) τ (upd H p (.tup [.int (i:Nat),x])) λτ1 H4=>tc τ1 H4 λb H5=>if b=true then te τ1 H5 λv H6=>Pv (i+1) (ac++[v]) τ1 H6 else Pv (i+1) ac τ1 H5)
  (hd:∀ac τ H d,Pv xs.length ac τ H->H d=GT->Q (.ref d) (upd H d (.lst ac))):R (Ite K a) H:=by
 refine Cq hR xs.length hz Pv h0 hl (λi ac τ H hi p=>⟨xs,xs[i],hq i ac τ H p,AC hi⟩) (λac τ H p=>⟨xs,hq _ ac τ H p,FD (AW _)⟩) (λi ac τ H x H3 hi p y=>?_) hd;obtain⟨q,x1,rfl,gz,rfl,hx⟩:=y;exact hs i x1 ac τ _ q (hx xs (hq i ac τ _ p)) p gz
end
def aen(l:List Nat):List V:=l.map λk=>As (k:Nat)
theorem acj(k:Nat)(l:List Nat):inV (.int (k:Nat)) (aen l)=l.contains k:=by
 unfold inV aen;rw[List.any_map]
 induction l with
 | nil=>rfl
 | cons a r ih=>
  rw[GY,List.contains_cons,ih];congr 1;show((a:Int) == (k:Int))=(k == a);rw[E3,beq_iff_eq,beq_iff_eq];omega
theorem aco(g:TG)(gs:TGs)(x:V)(xs:List V)(σ:St)(H:Hp)(Q:St->Hp->Prop):Zo g gs (x::xs) σ H Q=g x σ H λσ1 H1=>gs xs σ1 H1 Q:=
 propext ⟨λ⟨_,_,e,h⟩=>by cases e;exact h,λh=>⟨x,xs,rfl,h⟩⟩
theorem aeM(σ:St)(H:Hp)(Q:St->Hp->Prop):aeN [] σ H Q=Q σ H:=propext ⟨λh=>h.2,λh=>⟨rfl,h⟩⟩
theorem Zx{a b:Int}{P:Int->Int->Prop}:(∃v w,(a=v/\b=w)/\P v w)=P a b:=propext ⟨λ⟨_,_,⟨h1,h2⟩,h⟩=>h1 ▸ h2 ▸ h,λh=>⟨a,b,⟨rfl,rfl⟩,h⟩⟩
theorem iV{ts us:TS}(h:∀kt ke,kt=ts D->ke=us D->tc σ H λb H1=>if b=true then kt σ H1 else ke σ H1):TQ tc ts us D σ H:=h _ _ Z rfl
theorem aaS{p:ID}(h:b7 p H H')(e:H p=GT):Same H H':=λb o hb=>h b o (aF hb e) hb
section
variable{o:Expr}
def apq(ob:Option HO)(l:ID)(y:V)(H:Hp)(Q:VK):Prop:=match ob with
 | some (.lst xs)=>xs.length<AV/\Q .non (upd H l (.lst (xs++[y])))
 | _=>False
def isq(ob:Option HO):Prop:=match ob with
 | some (.lst _)=>True
 | _=>False
theorem uZ(xs:List V):isq (GE (.lst xs))=True:=rfl
theorem acN(xs:List V)(l:ID)(y:V)(H:Hp)(Q:VK):apq (GE (.lst xs)) l y H Q=(xs.length<AV/\Q .non (upd H l (.lst (xs++[y])))):=rfl
def ae1(x:V)(te:TE)(σ:St)(H1:Hp)(Q:VK):Prop:=match x with
 | .ref l=>isq (H1 l)/\te σ H1 λy H2=>apq (H2 l) l y H2 Q
 | _=>False
def WN(to te:TE):TE:=λσ H Q=>to σ H λx H1=>ae1 x te σ H1 Q
theorem WM(to te:TE)(σ:St)(H:Hp)(Q:VK):WN to te σ H Q=to σ H λx H1=>ae1 x te σ H1 Q:=rfl
theorem aan(l:ID)(te:TE)(σ:St)(H1:Hp)(Q:VK):ae1 (.ref l) te σ H1 Q=(isq (H1 l)/\te σ H1 λy H2=>apq (H2 l) l y H2 Q):=rfl
theorem jF(ho:QE X o to)(he:QE X e te)
  (bo:Ev o "append" X.env (eval o X.env)=eval o X.env:=by rfl)
   (eJ:((CY ai (AM [e] X.env)).all (λx=>!x.1)&&(EI ai (C6 [] X.env)).all (λx=>x.1.isSome)
   && decide ([e].length+([]:List EH).length+(if ([]:List EH).isEmpty then 0 else 1)<30))=true:=by rfl)
  (bn:(aw.endLine == ai.line)=true:=by rfl) (hs:AM [e] X.env=(false,eval e X.env)::AM [] X.env:=by rfl) (bm:(CY ai (AM [] X.env)).any (·.1)=false:=by rfl) :
  QE X (.Call (.Attribute o "append" aw) [e] [] ai) (WN to te):=⟨by
 intro aa s σ H Q I h;refine IB bo eJ bn Z (thE (ho.h aa s σ H _ I h) λv s1 x H1 I1 r1 q=>?_);cases x with
 | ref l=>
  obtain⟨q1,q2⟩:=q;cases el:H1 l with
  | none=>rw[el] at q1;exact q1.elim
  | some ob=>
   cases ob with
   | lst xs=>
    obtain⟨h1,h2⟩:=Jg (T := "list") I1 r1 (.inl ⟨rfl,xs,SqL.of el⟩);refine⟨"list","list.append",FR,PySem.F.slot_list_append,PySem.F.type_list_append,h1,h2,?_⟩;rw[hs];refine DJ (by show(false||(CY ai (AM [] X.env)).any (·.1))=false;rw[bm] <;> rfl) (EK ?_)
    refine CD (thE (he.h aa s1 σ H1 _ I1 q2) λu s2 y H2 I2 r2 q3=>DF ?_);replace q3:apq (H2 l) l y H2 Q:=q3;cases lv:H2 l with
    | none=>rw[lv] at q3;exact q3.elim
    | some ob2=>
     cases ob2 with
     | lst ys=>
      rw[lv] at q3;exact U6 aa s2 σ H2 (.ref l) [y] v [u] Q I2 r1 (.cons r2 .nil) ⟨l,ys,y,rfl,rfl,lv,q3.1,q3.2⟩
     | _=>rw[lv] at q3;exact q3.elim
   | _=>rw[el] at q1;exact q1.elim
 | _=>exact q.elim⟩
def slq(ob:Option HO)(lo hi:Option Int)(H:Hp)(Q:VK):Prop:=match ob with
 | some (.lst xs)=>∀p,H p=GT->Q (.ref p) (upd H p (.lst (oK xs lo hi)))
 | some (.tup xs)=>¬(HT.sIx xs.length 0 lo=0/\HT.sIx xs.length xs.length hi=xs.length)/\∀p,H p=GT->Q (.ref p) (upd H p (.tup (oK xs lo hi)))
 | _=>False
def adw:V->Option Int->Option Int->Hp->VK->Prop:=λx lo hi H Q=>match x with
 | .ref p=>slq (H p) lo hi H Q
 | _=>False
theorem Xl(p:ID)(lo hi:Option Int)(H:Hp)(Q:VK):adw (.ref p) lo hi H Q=slq (H p) lo hi H Q:=rfl
theorem aaJ(xs:List V)(lo hi:Option Int)(H:Hp)(Q:VK):slq (GE (.lst xs)) lo hi H Q=∀p,H p=GT->Q (.ref p) (upd H p (.lst (oK xs lo hi))):=rfl
theorem aaI(xs:List V)(lo hi:Option Int)(H:Hp)(Q:VK):slq (GE (.tup xs)) lo hi H Q=(¬(HT.sIx xs.length 0 lo=0/\HT.sIx xs.length xs.length hi=xs.length)/\∀p,H p=GT->Q (.ref p) (upd H p (.tup (oK xs lo hi)))):=rfl
theorem K4:SlR X adw:=by
 intro aa s σ H x v vl vu lo hi sl Q I rx hs pl pu h;unfold adw at h;split at h
 ·rename_i p;unfold slq at h;split at h
  ·rename_i xs e;exact aaK aa s σ H _ v vl vu lo hi sl Q I rx hs pl pu ⟨p,xs,rfl,SqL.of e,h⟩
  ·rename_i xs e;exact adk aa s σ H _ v vl vu lo hi sl Q I rx hs pl pu ⟨p,xs,rfl,SqT.of e,h.1,h.2⟩
  exact h.elim
 exact h.elim
structure QO(X:Cx)(e:Option Expr)(t:TO):Prop where
 h:PO X e t
theorem qI:QO X GT Ji:=⟨by
 intro aa s σ H Q I h;rw[evalPart_none];exact AF ⟨GT,H,I,.none,h⟩⟩
theorem mU(h:QE X e te):QO X (GE e) (Ww te):=⟨RL h.h⟩
theorem lN{lo hi:Option Expr}{tl th:TO}(hr:SlR X r)(he:QE X e te)(hl:QO X lo tl)(hu:QO X hi th):QE X (.Subscript e (.Slice lo hi GT p2) pos) (tSl r te tl th):=⟨by
 intro aa s σ H Q I h;refine Subscript_ (thE (he.h aa s σ H _ I h) λv s1 x H1 I1 r1 q1=>?_);refine wpAny_Slice (thn (hl.h aa s1 σ H1 _ I1 q1) λvl s2 ⟨l,H2,I2,pl,q2⟩=>thn (hu.h aa s2 σ H2 _ I2 q2) λvu s3 ⟨u,H3,I3,pu,q3⟩=>?_);rw[evalPart_none];refine AF ?_;have I4:Inv X aa σ H3 { s3 with heap:=s3.heap.push { cls:=.type "slice",data:=.fields #[vl,vu,.none] } }:=I3.kept (t':=s3.toks) λb ob q=>AH _ q;obtain⟨T,id,hT,ht,hg⟩:=hr aa { s3 with heap:=s3.heap.push { cls:=.type "slice",data:=.fields #[vl,vu,.none] } } σ H3 x v vl vu l u s3.heap.objs.size Q I4 r1 (Heap.IsSliceOf.new ..) pl pu q3;show AO (A3 X.prog X.w) X.A (subscriptTail e (.Slice lo hi GT p2) v (.ref s3.heap.objs.size)) (EP X aa σ Q) X.xe { s3 with heap:=s3.heap.push { cls:=.type "slice",data:=.fields #[vl,vu,.none] } };exact tail_any (ops:=[.ref s3.heap.objs.size,v]) ht hT hg (by with_unfolding_all rfl)⟩
def rpq(ob:Option HO)(k:Int)(H:Hp)(Q:VK):Prop:=match ob with
 | some (.lst xs)=>-(2^63)<=k/\k<2^63/\xs.length*k.toNat<=AV/\∀p,H p=GT->Q (.ref p) (upd H p (.lst (A8 k.toNat xs).flatten))
 | _=>False
def Rw:R2:=λx y H Q=>match x,y with
 | .ref p,.int k=>rpq (H p) k H Q
 | x,y=>rI V9 (λi j=>.int (i*j)) x y H Q
theorem aaX(p:ID)(k:Int)(H:Hp)(Q:VK):Rw (.ref p) (.int k) H Q=rpq (H p) k H Q:=rfl
theorem aaY(i j:Int)(H:Hp)(Q:VK):Rw (.int i) (.int j) H Q=rI V9 (λi j=>.int (i*j)) (.int i) (.int j) H Q:=rfl
theorem aaV(xs:List V)(k:Int)(H:Hp)(Q:VK):rpq (GE (.lst xs)) k H Q=(-(2^63)<=k/\k<2^63/\xs.length*k.toNat<=AV/\∀p,H p=GT->Q (.ref p) (upd H p (.lst (A8 k.toNat xs).flatten))):=rfl
theorem jd:OpR X (EU .Mult) Rw:=by
 intro aa s σ H x y v u Q I rx ry h;unfold Rw at h;split at h
 ·rename_i p k;unfold rpq at h;split at h
  ·rename_i xs e;exact ad7 aa s σ H _ _ v u Q I rx ry ⟨p,k,xs,rfl,rfl,e,h.1,h.2.1,h.2.2.1,h.2.2.2⟩
  exact h.elim
 exact ad9 aa s σ H _ _ v u Q I rx ry h
def eqo(ob:Option HO)(H:Hp)(Q:VK):Prop:=match ob with
 | some (.lst _)=>Q (.bl false) H
 | some (.tup _)=>Q (.bl false) H
 | _=>False
def Uc:R2:=λx y H Q=>match x,y with
 | .ref p,.str _=>eqo (H p) H Q
 | x,y=>rEq x y H Q
theorem aa2(i j:Int)(H:Hp)(Q:VK):Uc (.int i) (.int j) H Q=rEq (.int i) (.int j) H Q:=rfl
theorem aa3(i j:Bool)(H:Hp)(Q:VK):Uc (.bl i) (.bl j) H Q=rEq (.bl i) (.bl j) H Q:=rfl
theorem aa1(i j:Str)(H:Hp)(Q:VK):Uc (.str i) (.str j) H Q=rEq (.str i) (.str j) H Q:=rfl
theorem bC(hu:X.A.units<E4):OpR X (B0 .Eq) Uc:=by
 intro aa s σ H x y v u Q I rx ry h;unfold Uc at h;split at h
 ·rename_i p z;cases rx;obtain⟨t,rfl⟩:=ry;unfold eqo at h;split at h
  ·rename_i xs e;obtain⟨ae,r,pl,hz⟩:=I.list (SqL.of e);exact SeqAt.RcAt.list_str z t pl.isList hu X.prog X.w X.xe (EP X aa σ Q) ⟨.bl false,H,I,rfl,h⟩
  ·rename_i xs e;obtain⟨ae,r,pl,hz⟩:=I.tuple (SqT.of e);exact SeqAt.RcAt.tuple_str z t pl hu X.prog X.w X.xe (EP X aa σ Q) ⟨.bl false,H,I,rfl,h⟩
  exact h.elim
 exact afx aa s σ H _ _ v u Q I rx ry h
theorem Rz{x:Str}{v:V}(hg:Gl X x)(hm:X.mg x=GE u)(r:RelV v u)(b:Bn x):QE X (.Name x pos) (tC v):=⟨ λ_ _ _ H _ I h=>RX I hg hm ⟨v,H,I,r,h⟩ b.hd⟩
end
mutual
inductive aG (ok:ID->Prop)(H:Hp):V->A9->Prop
 | non:aG ok H .non .none
 | bl (b:Bool):aG ok H (.bl b) (.bool b)
 | int (i:Int):aG ok H (.int i) (.int i)
 | str (x:Str):aG ok H (.str x) (.str x)
 | lst {p:ID} {xs:List V} {ds:List A9}:ok p->H p=GE (.lst xs)->xs.length<=1000000->aN ok H xs ds->aG ok H (.ref p) (.list ds)
 | tup {p:ID} {xs:List V} {ds:List A9}:ok p->H p=GE (.tup xs)->xs.length<=1000000->aN ok H xs ds->aG ok H (.ref p) (.tuple ds)
inductive aN (ok:ID->Prop)(H:Hp):List V->List A9->Prop
 | nil:aN ok H [] []
 | cons {x:V} {d:A9} {xs:List V} {ds:List A9}:aG ok H x d->aN ok H xs ds->aN ok H (x::xs) (d::ds)
end
mutual
theorem aG.keep{ok ok':ID->Prop}{H H':Hp}(k:∀a o,ok a->H a=GE o->ok' a/\H' a=GE o):∀{v:V}{d:A9},aG ok H v d->aG ok' H' v d
 | _,_,.non=>.non
 | _,_,.bl b=>.bl b
 | _,_,.int i=>.int i
 | _,_,.str x=>.str x
 | _,_,.lst o e z t=>.lst (k _ _ o e).1 (k _ _ o e).2 z (aN.keep k t)
 | _,_,.tup o e z t=>.tup (k _ _ o e).1 (k _ _ o e).2 z (aN.keep k t)
theorem aN.keep{ok ok':ID->Prop}{H H':Hp}(k:∀a o,ok a->H a=GE o->ok' a/\H' a=GE o):∀{vs:List V}{ds:List A9},aN ok H vs ds->aN ok' H' vs ds
 | _,_,.nil=>.nil
 | _,_,.cons t r=>.cons (aG.keep k t) (aN.keep k r)
end
theorem aG.same{ok:ID->Prop}{v:V}{d:A9}(t:aG ok H v d)(s:Same H H'):aG ok H' v d:=t.keep λa o h e=>⟨h,s a o e⟩
theorem aN.same{ok:ID->Prop}{v:List V}{d:List A9}(t:aN ok H v d)(s:Same H H'):aN ok H' v d:=t.keep λa o h e=>⟨h,s a o e⟩
theorem aG.jk{p:ID}{v:V}{d:A9}(t:aG (·≠p) H v d)(s:b7 p H H'):aG (·≠p) H' v d:=t.keep λa o h e=>⟨h,s a o h e⟩
theorem aN.jk{p:ID}{v:List V}{d:List A9}(t:aN (·≠p) H v d)(s:b7 p H H'):aN (·≠p) H' v d:=t.keep λa o h e=>⟨h,s a o h e⟩
theorem aN.length{ok:ID->Prop}{H:Hp}:∀{vs:List V}{ds:List A9},aN ok H vs ds->vs.length=ds.length
 | _,_,.nil=>rfl
 | _,_,.cons _ r=>by rw[BG,BG,r.length]
theorem aN.append{ok:ID->Prop}{H:Hp}:∀{vs ws:List V}{ds es:List A9},aN ok H vs ds->aN ok H ws es->aN ok H (vs++ws) (ds++es)
 | _,_,_,_,.nil,t=>t
 | _,_,_,_,.cons h r,t=>.cons h (r.append t)
theorem aN.get{ok:ID->Prop}{H:Hp}:∀{vs:List V}{ds:List A9}{i:Nat}{v:V},aN ok H vs ds->vs[i]?=GE v->∃d,ds[i]?=GE d/\aG ok H v d
 | _,_,0,_,.cons h _,e=>by cases e;exact⟨_,rfl,h⟩
 | _,_,i+1,_,.cons _ r,e=>aN.get r (i:=i) e
theorem aN.take{ok:ID->Prop}{H:Hp}:∀{vs:List V}{ds:List A9}(n:Nat),aN ok H vs ds->aN ok H (vs.take n) (ds.take n)
 | _,_,0,_=>.nil
 | _,_,_+1,.nil=>.nil
 | _,_,n+1,.cons h r=>.cons h (r.take n)
mutual
def nodes:A9->Nat
 | .list ds=>1+Dy ds
 | .tuple ds=>1+Dy ds
 | _=>1
def Dy:List A9->Nat
 | []=>0
 | d::ds=>nodes d+Dy ds
end
mutual
def smD:A9->Bool
 | .none=>true
 | .bool _=>true
 | .int i=>decide (i.natAbs<2^50\/i.natAbs=10^20\/i.natAbs<2^55)
 | .str x=>decide ((reprText x).length<=50)
 | .list ds=>W9 ds
 | .tuple ds=>W9 ds
 | .dict _=>false
def W9:List A9->Bool
 | []=>true
 | d::ds=>smD d&&W9 ds
end
section
variable{l:Expr}{tl:TE}
def itq(K:AE)(ob:Option HO)(a:ID)(H:Hp)(R:It->Hp->Prop):Prop:=match ob with
 | some (.lst _)=>R (Itl K a) H
 | some (.tup _)=>R (Itt K a) H
 | _=>False
def itK(K:AE)(x:V)(H:Hp)(R:It->Hp->Prop):Prop:=match x with
 | .ref a=>itq K (H a) a H R
 | _=>False
def Zh(K:AE)(tl:TE):TI:=λσ H R=>tl σ H λx H1=>itK K x H1 R
theorem Er(K:AE)(tl:TE)(σ:St)(H:Hp)(R:It->Hp->Prop):Zh K tl σ H R=tl σ H λx H1=>itK K x H1 R:=rfl
theorem J3(K:AE)(a:ID)(H:Hp)(R:It->Hp->Prop):itK K (.ref a) H R=itq K (H a) a H R:=rfl
theorem J2(K:AE)(xs:List V)(a:ID)(H:Hp)(R:It->Hp->Prop):itq K (GE (.lst xs)) a H R=R (Itl K a) H:=rfl
theorem cQ(hl:QE X l tl):QI X tg l (Zh X.K tl):=⟨by
 intro aa s σ H R I h;refine thn (hl.h aa s σ H _ I h) λv s1 ⟨x,H1,I1,r1,q1⟩=>?_;cases x with
 | ref a=>
  replace q1:itq X.K (H1 a) a H1 R:=q1;cases r1;unfold itq at q1;split at q1
  ·rename_i xs e;obtain⟨ae,rv,p,hz⟩:=I1.list (SqL.of e);refine Fc p.isList ?_;refine⟨s1.heap.objs.size,[s1.heap.objs.size],_,_,H1,rfl,I1.kept (t':=s1.toks) λb o e=>AH _ e,Ti a _,⟨_,A7 _ rfl,rfl,rfl⟩,λb hb=>?_,q1⟩;have e:b=s1.heap.objs.size:=by simpa using hb
   subst e;exact I1.MN (AW _) (I1.hok.fresh (AW _))
  ·rename_i xs e;obtain⟨ae,rv,p,hz⟩:=I1.tuple (SqT.of e);refine G2 (show s1.heap.IsTuple a ae.toArray from p) ?_;refine⟨s1.heap.objs.size,[s1.heap.objs.size],_,_,H1,rfl,I1.kept (t':=s1.toks) λb o e=>AH _ e,Ob a _,⟨_,A7 _ rfl,rfl,rfl⟩,λb hb=>?_,q1⟩;have e:b=s1.heap.objs.size:=by simpa using hb
   subst e;exact I1.MN (AW _) (I1.hok.fresh (AW _))
  exact q1.elim
 | _=>exact q1.elim⟩
end
def iD(ok:ID->Prop)(H0:Hp):Prop:=∀H p,Same H0 H->H p=GT->ok p
theorem YJ{p:ID}(h:H0 p=GE o):iD (·≠p) H0:=λH q s hq=>(aF (s _ _ h) hq).symm
theorem iD.same{ok:ID->Prop}(n:iD ok H0)(s:Same H0 H1):iD ok H1:=λH p s2 h=>n H p (s.trans s2) h
def tY:A9->Bool
 | .int _=>true
 | _=>false
def W3:Sp:=λvs H Q _=>∃v ok d,vs=[v]/\aG ok H v d/\Q (.bl (tY d)) H
set_option maxHeartbeats 8000000 in
theorem abj{tg iter dQ:Expr}{dE:List Expr}{pos aT pos2:Pos}{wi:TI}{g:TG}{tc:TT}{te:TE}{i:Nat}{x:Str}(N:List Str)(mp:List (Option Nat))(hn:Nm X.N X.env.scope i x)(Sn:X.N.Nodup)(j3:X.N=NX)(eI:X.env.scope.names=kX)(S:Bp NX kX N mp scope)(hc:X.calm=true)
  (hi:PI X tg iter wi)(hg:∀cl C s H fp,PG (cH X N scope cl C s H fp) tg g)(ht:∀cl C s H fp,PTs (cH X N scope cl C s H fp) dE tc)(he:∀cl C s H fp,PE (cH X N scope cl C s H fp) dQ te)
  (hf:X.fn x=true\/X.env.scope.names.lookup x=GE .local:=by exact .inl Z)
  (P6:GH [.Name x aT] (.ListComp dQ [⟨tg,iter,dE,0⟩] scope pos) pos2.line X.env=pure true:=by rfl)
  (h1:(DS [.Name x aT] X.env).map (·.2)=[Gc (.Name x aT) X.env]:=by rfl)
  (hs:∀x,D5 iter X.env x=pure x:=by intro _;rfl):PS X (.Assign [.Name x aT] (.ListComp dQ [⟨tg,iter,dE,0⟩] scope pos) pos2) (Jl (G3 mp wi g tc te) (qg i)):=by
 intro aa s σ H Dn I h;rw[exec_Assign_arm];refine An (GG ?_);rw[P6];refine An (AF ?_);rw[if_pos rfl,h1];replace h:G3 mp wi g tc te σ H (λv H1=>Dn.nx (σ.set i (GE v)) H1):=h;obtain⟨cl,k7,bc,eW⟩:=SQ (env:=X.env) (scope:=scope) λy hy hf=>I.ok.has y.1 (by
  rcases S.fre y hy hf with q|q
  ·exact .inl (show X.env.scope.names.lookup y.1=_ by rw[eI];exact q)
  exact .inr (show X.env.scope.names.lookup y.1=_ by rw[eI];exact q))
 generalize hQ:(λ(v:V)(H1:Hp)=>Dn.nx (σ.set i (GE v)) H1)=Q at h
 let QQ:Ap->AD->Prop:=λ_ s'=>∃τ H',Inv X aa τ H' s'/\Dn.nx τ H'
 refine An (An (thn (Q:=QQ) (wpAny_comprehension_free (e:=.ListComp dQ [⟨tg,iter,dE,0⟩] scope pos) (use:=GE λv=>assignAll v [Gc (.Name x aT) X.env]) Z hs k7 S.kind S.locs ?_) λ_ s' ⟨τ,H',I',q'⟩=>AF (AF ⟨τ,H',I',q'⟩)));refine thn (hi aa s σ H _ I h) λv s1 h1=>thn h1 λMy s2 h2=>?_;obtain⟨it,fp,tn,J,H2,e,I2,T,gt,f2,W,⟨m0,w0⟩,ff⟩:=h2;subst e;refine BU (wpAny_newFunctionEnv S.nocell (by intro y hy;simp at hy) (λh3 ir hsb=>?_) S.kind);dsimp only at ir hsb |-;have cK:∀b∈fp,b<s2.heap.objs.size:=λb hb=>by
  obtain⟨o,q,_⟩:=T.obj _ _ gt b hb;exact Bz q
 generalize hD:s2.heap.objs.size=D at ir hsb;generalize uB:s2.heap.push { cls:=.type "list",dict:=GT,data:=.seq ([]:List Ap).toArray }=P2 at ir hsb |-;have hC:P2.objs.size=D+1:=by rw[<- uB,DU,hD]
 generalize Sr:P2.objs.size=C at ir hsb |-;rw[Sr] at hC;have cb:∀b o,s2.heap.get? b=GE o->h3.get? b=GE o:=λb o q=>by
  have hb:=Bz q;exact hsb.extBut b o (na1 hb hD hC) (AH _ (uB ▸ AH _ q))
 have vj:h3.get? D=GE { cls:=.type "list",data:=.seq ([]:List Ap).toArray }:=
  hsb.extBut _ _ (na2 hC) (AH _ (by rw[<- uB,<- hD];exact A7 _ Z))
 have nK:D∉frs X.stack:=λz=>by
  rcases AL.mp (I2.CN D z) with q|q
  ·exact na0 I2.lt hD q.symm
  exact I2.aem (na4 hD) q
 have I0:Inv (cH X N scope cl C s2 H2 fp) [(D,{ cls:=.type "list",data:=.seq ([]:List Ap).toArray })] (rM mp σ) H2 { s2 with heap:=h3,toks:=s2.toks+([]:List (Str×Ap)).length }:=
  SN (s':={ s2 with heap:=h3,toks:=s2.toks+([]:List (Str×Ap)).length }) j3 eI S I2 f2 cK (na3 hD hC) bc eW Z Z ⟨_,ir⟩ cb λp hp=>by
   have ep:=AA.mp hp;subst ep;exact⟨vj,I2.hok.fresh (na4 hD),na2 hC,nK,λv z=>by cases z⟩
 have T0:tn 0 h3:=T.keep _ _ _ gt λb _ o q=>cb b o q;have kH:∀z:AD,z={ s2 with heap:=h3,toks:=s2.toks+([]:List (Str×Ap)).length } ->
   Iy (A3 X.prog X.w) X.A (.compLoop (.ListComp dQ [⟨tg,iter,dE,0⟩] scope pos) 0 (.ref it) (.ref D) (JE scope cl C X.env))
    (compPost (A3 X.prog X.w) X.A X.xe (GE λv=>assignAll v [Gc (.Name x aT) X.env]) QQ (.ref D) C) z:=by
  rintro z rfl;have ef:∀{H':Hp}{pl:List (ID×Obj)},(∀b∈fp,H' b=GT)->(∀p∈pl,p.1=D)->∀b∈fp,BV (cH X N scope cl C s2 H2 fp) pl H' b:=λhn hp b hb=>by
   have uu:=cK b hb;refine⟨hn b hb,na1 uu hD hC,(Qp eI S I2 f2 cK (na3 hD hC) bc eW).exfs b hb,.inl hb,λx c q=>(f2 b hb).2.2.2.2.1 x c (bc x c q),λp l6=>?_⟩;have QN:=hp p (by simpa [cH] using l6);rw[QN];exact(na0 uu hD).symm
  refine Ip (env:=JE scope cl C X.env) (λn z=>∃i ac τ H' ae k,Inv (cH X N scope cl C s2 H2 fp) [(D,{ cls:=.type "list",data:=.seq (GN ae) k })] τ H' z/\tn i z.heap/\(∀b∈fp,H' b=GT)/\Vals ac ae/\ac.length<=AV/\W i n ac τ H')
   ?_ m0 ⟨0,[],_,H2,[],0,I0,T0,λb hb=>(f2 b hb).1,.nil,D6 _,w0⟩
  rintro n s5 ⟨i,ac,τ,H5,ae,k,I5,mN,uC,va,hz,w5⟩;rcases ff i n ac τ H5 w5 with⟨stop,qn⟩|⟨go,di,N9,G',step⟩
  ·refine thn (T.done (cH X N scope cl C s2 H2 fp) Z Z Z hc i _ s5 τ H5 _ I5 (ef uC ζ) mN stop) λr s6 ⟨hr,I6⟩=>?_;subst hr;obtain⟨m6,kA,_⟩:=I6.loc;obtain⟨dD,nD,_,_,_⟩:=I6.pin (D,_) (A4 _ (AA.mpr Z));have U:=I6.base;have nC:H5 C=GT:=I6.free;have ne:∀b o,s2.heap.get? b=GE o->b≠C/\b≠D:=λb o q=>by
    exact⟨na1 (Bz q) hD hC,na0 (Bz q) hD⟩
   have key:∀h',BO C s6.heap h'->Inv X aa σ (upd H5 D (.lst ac)) { s6 with heap:=h' }:=λh' sb=>by
    have cc:∀b o,b≠C->s6.heap.get? b=GE o->h'.get? b=GE o:=λb o hb q=>(sb.2 b hb).trans q;have U':Un (frs X.stack) fp H2 (upd H5 D (.lst ac)) s2.heap h':=by
     refine⟨λb o q n1 hb hx=>cc b o (ne b o q).1 (U.keep b o q n1 hb hx),λb o q n1 hb hx=>?_,λb o q n1 hx=>?_,λb o q hx=>?_,λb xs q=>?_,λb o xs q=>?_,λb ps q=>?_⟩
     ·obtain⟨sl,z⟩:=U.slot b o q n1 hb hx;exact⟨sl,cc b _ (ne b o q).1 z⟩
     ·rw[aL (ne b o q).2];exact U.free b o q n1 hx
     ·obtain⟨o',z⟩:=U.there b o q hx;exact⟨o',cc b _ (ne b o q).1 z⟩
     ·have z:=U.tups b xs q;rw[aL (aF z nD)];exact z
     ·have z:=U.frzs b o xs q;rw[aL (aF z nD)];exact z
     obtain⟨h8,z⟩:=U.tbls b ps q;exact⟨h8,by rw[aL (aF z nD)];exact z⟩
    have hok:HOk X.prog X.w (upd H5 D (.lst ac)) h':=λb u q=>by
     by_cases hb:b=D
     ·subst hb;rw[au] at q;cases q;exact⟨hz,ae,k,va,cc _ _ (na2 hC) dD⟩
     rw[aL hb] at q;refine(I6.hok b u q).stay (λc v hcc z=>cc c v ?_ z) (λc z=>by rw[aL (aF z nD)];exact z) λc xs z=>by rw[aL (aF z nD)];exact z
     rcases hcc with z1|z1
     ·subst z1;exact aF q nC
     exact aF z1 nC
    have I7:Inv X aa σ (upd H5 D (.lst ac)) { s6 with heap:=h' }:=I2.call' (s':={ s6 with heap:=h' }) (ch:=fp) I6.os U' hok I6.bare λb hb=>by
     obtain⟨_,a2,_,a4,a5,a6⟩:=f2 b hb;exact⟨a4,a2,a5,a6⟩
    exact I7
   have I7:Inv X aa σ (upd H5 D (.lst ac)) s6:=key s6.heap (BO.refl _ _);have lC:X.env.locals≠C:=na1 I2.lt hD hC;have cC:∀y c,X.env.cells.lookup y=GE c->c≠C:=λy c z=>by
    obtain⟨_,o,h1,_⟩:=I2.cell y c z;exact na1 (Bz h1) hD hC
   show AO _ _ (Gc (.Name x aT) X.env (.ref D)) _ _ s6;refine wpAny_assign_Name (G4 (v:=.ref D) I7 Sn hn.hN hn.hv Z (λs7 I8 ⟨a,sa,ha⟩=>?_) hf);have aC:a≠C:=by
    rcases ha with rfl|ha
    ·exact lC
    exact cC _ _ ha
   obtain⟨o6,wo,Nn,g1,g2,g3,g4⟩:=kA;refine⟨m6,⟨o6,wo,Nn,(sa.2 C (EC aC)).trans g1,g2,g3,g4⟩,λh' sb=>?_⟩;have q9:=qn D nD;rw[<- hQ] at q9;refine⟨_,_,I8.turned (it:=C) (t':=s7.toks) (λb o hb q=>(sb.2 b hb).trans q) ?_ (EC lC) (.inr (Cn I2.sz (na3 hD hC))) cC (λp hp=>?_),q9⟩
   ·rw[aL (EC (na2 hC))];exact nC
   obtain⟨h1,_⟩:=I2.pin p hp;exact na1 (Bz h1) hD hC
  refine thn (T.item (cH X N scope cl C s2 H2 fp) Z Z Z hc i _ s5 τ H5 _ I5 (ef uC ζ) mN go) λr s6 ⟨u,hr,h6⟩=>?_;subst hr;refine thn h6 λ_ s7 ⟨x,H7,I7,r7,y7,se,SA⟩=>?_;have I7':=I7.pinned (ef SA ζ) (T.obj _ _ se);have no:∀{α:Type}{t:Sem α}{Q1 Q2:α->AD->Prop}{E:Ap->AD->Prop}{z:AD},AO (A3 X.prog X.w) X.A t Q1 (λ_ _=>False) z->(∀a z,Q1 a z->Q2 a z)->AO (A3 X.prog X.w) X.A t Q2 E z:=
   λq f=>Da q f λ_ _ z=>z.elim
  refine no (hg cl C s2 H2 fp _ s7 τ H7 x u _ I7' r7 (step x H7 y7)) λ_ s8 ⟨τ1,H8,I8,q8⟩=>?_;refine no (ht cl C s2 H2 fp _ s8 τ1 H8 _ I8 q8) λok s9 ⟨H9,I9,q9⟩=>?_;have again:∀{H':Hp}{z:AD}{its':List Ap}{k':Nat},Inv (cH X N scope cl C s2 H2 fp) ([(D,{ cls:=.type "list",data:=.seq (GN its') k' })]++pD fp s7.heap) τ1 H' z ->
    tn (i+1) z.heap/\(∀b∈fp,H' b=GT)/\Inv (cH X N scope cl C s2 H2 fp) [(D,{ cls:=.type "list",data:=.seq (GN its') k' })] τ1 H' z:=λ{H' z its' k'} Iz=>by
   have get:∀b∈fp,∀o,s7.heap.get? b=GE o->z.heap.get? b=GE o/\H' b=GT:=λb hb o q=>by
    obtain⟨a1,a2,_⟩:=Iz.pin (b,o) (A4 _ (A4 _ (qR hb q)));exact⟨a1,a2⟩
   refine⟨T.keep _ _ _ se λb hb o q=>(get b hb o q).1,λb hb=>?_,Iz.rK⟩;obtain⟨o,q,_⟩:=T.obj _ _ se b hb;exact(get b hb o q).2
  cases ok with
  | false=>
   rw[if_neg A5] at q9 |-;obtain⟨m',hm,w9⟩:=G' _ _ _ q9;obtain⟨a1,a2,a3⟩:=again I9;exact⟨m',hm,i+1,ac,τ1,H9,ae,k,a3,a1,a2,va,hz,w9⟩
  | true=>
   rw[if_pos rfl] at q9 |-;refine no (he cl C s2 H2 fp _ s9 τ1 H9 _ I9 q9) λy c6 ⟨v,H10,I10,rv,OS⟩=>?_;obtain⟨m',hm,NF⟩:=G' _ _ _ OS;obtain⟨a1,a2,a3⟩:=again I10;obtain⟨dD,nD,_,_,_⟩:=a3.pin (D,_) (A4 _ (AA.mpr Z));have am:=va.length;refine FH F.slot_list_append ⟨_,dD,rfl⟩ KA (JA _ _) (PySem.list_append D ae.toArray k y (by rw[AY];omega)) ⟨dD,?_⟩;obtain⟨k',q⟩:∃k',(c6.heap.update D (CA λa=>a.push y)).get? D=GE { cls:=.type "list",data:=.seq (ae++[y]).toArray k' }:=by
    have q:=PySem.IsL.update dD (λa=>a.push y);rw[show ae.toArray.push y=(ae++[y]).toArray by simp] at q;exact⟨_,q⟩
   have a4:Inv (cH X N scope cl C s2 H2 fp) (pD fp s7.heap) τ1 H10 c6:=I10.uM λp hp=>I10.pin p (A4 _ (A4 _ hp));have a5:Inv (cH X N scope cl C s2 H2 fp) (pD fp s7.heap) τ1 H10 { c6 with heap:=c6.heap.update D (CA λa=>a.push y),toks:=c6.toks }:=
    a4.turned (it:=D) (λb o hb z=>(CO _ _ (EC hb)).trans z) nD (na2 hC) (.inr (na4 hD))
     (λx c z=>by
      obtain⟨_,o,h1,_⟩:=I2.cell x c (bc x c z);exact na0 (Bz h1) hD) λp hp=>by
      have hb:=(zA (by simpa [cH] using hp)).1;exact na0 (cK _ hb) hD
   obtain⟨b1,b2,b3⟩:=(show tn (i+1) (c6.heap.update D (CA λa=>a.push y))/\(∀b∈fp,H10 b=GT)/\True from
    ⟨T.keep _ _ _ a1 λb hb o z=>(CO _ _ (na0 (cK b hb) hD).symm).trans z,a2,trivial⟩)
   refine⟨m',hm,i+1,ac++[v],τ1,H10,ae++[y],k',a5.uM λp hp=>?_,b1,b2,va.append (.cons rv .nil),by rw[AN,AQ];omega,NF⟩;have ep:=AA.mp hp;subst ep;exact⟨q,nD,na2 hC,nK,λv z=>by cases z⟩
 have e1:{ newEnv scope C X.env.globals cl X.env.qual GT .none (GE X.env) X.env.builtins with scope:=relabel scope X.env }=JE scope cl C X.env:=rfl;exact codeAny_compStart_list (kH _ Z) (T.self _ 0 _ _ _ T0 (kH _ Z))
theorem uJ{x:Str}(N:List Str)(mp:List (Option Nat))(hn:Nm X.N X.env.scope i x)(Sn:X.N.Nodup)(j3:X.N=NX)(eI:X.env.scope.names=kX)(S:Bp NX kX N mp scope)(hc:X.calm=true)
  (hi:QI X tg iter wi)(hg:∀cl C s H fp,QG (cH X N scope cl C s H fp) tg g)(ht:∀cl C s H fp,QC (cH X N scope cl C s H fp) dE tc)(he:∀cl C s H fp,QE (cH X N scope cl C s H fp) dQ te)
  (hf:X.fn x=true\/X.env.scope.names.lookup x=GE .local:=by exact .inl Z)
  (P6:GH [.Name x aT] (.ListComp dQ [⟨tg,iter,dE,0⟩] scope pos) pos2.line X.env=pure true:=by rfl)
  (h1:(DS [.Name x aT] X.env).map (·.2)=[Gc (.Name x aT) X.env]:=by rfl)
  (hs:∀x,D5 iter X.env x=pure x:=by intro _;rfl):QS X (.Assign [.Name x aT] (.ListComp dQ [⟨tg,iter,dE,0⟩] scope pos) pos2) (Jl (G3 mp wi g tc te) (qg i)):=
 ⟨abj N mp hn Sn j3 eI S hc hi.h (λcl C s H fp=>(hg cl C s H fp).h) (λcl C s H fp=>(ht cl C s H fp).h) (λcl C s H fp=>(he cl C s H fp).h) hf P6 h1 hs⟩
section
variable{Q:VK}{ds:List A9}{ok:ID->Prop}
theorem take_snoc{l:List α}{x:α}(h:l[i]?=GE x):l.take (i+1)=l.take i++[x]:=by
 rw[F2,h];rfl
end
def wM(d:A9)(z:Str):Bool:=match d with
 | .str x=>decide (x=z)
 | _=>false
theorem Zt{p c:ID}{H Hk:Hp}{B:Int}(s:b7 p H Hk)(t:cu Hk p B)(h:Hk c=GT):c≠p/\H c=GT:=by
 have n:=t.ne h;refine⟨n,?_⟩;cases e:H c with
 | none=>rfl
 | some o=>rw[s _ _ n e] at h;cases h
theorem T4{p c:ID}(s:b7 p H H')(h:H c=GT):b7 p H (upd H' c o):=λb u n e=>by
 rw[aL (aF e h)];exact s b u n e
theorem cu.upd{p c:ID}(t:cu H p B)(n:c≠p):cu (upd H c o) p B:=by
 obtain⟨a,b,c',e,r⟩:=t;exact⟨a,b,c',by rw[aL (EC n)];exact e,r⟩
theorem aaf(l:List α)(x:α):atI (l++[x]) (-1)=GE x:=by
 unfold atI ixN;rw[if_neg δ,if_pos (by rw[AN,AQ];omega)];show(l++[x])[_]?=GE x;rw[BF (by rw[AN,AQ];omega)];rw[show(-1+((l++[x]).length:Int)).toNat-l.length=0 by rw[AN,AQ];omega];rfl
theorem aN.set{ok:ID->Prop}{H:Hp}{x:V}{d:A9}(t:aG ok H x d):∀{xs:List V}{ds:List A9}(j:Nat),aN ok H xs ds->aN ok H (xs.set j x) (ds.set j d)
 | _,_,_,.nil=>.nil
 | _,_,0,.cons _ r=>.cons t r
 | _,_,j+1,.cons h r=>.cons h (aN.set t j r)
theorem kJ{α:Type}(l:List α)(h:0<l.length):∃a b,l=a++[b]:=by
 induction l with
 | nil=>cases h
 | cons x r ih=>
  cases r with
  | nil=>exact⟨[],x,rfl⟩
  | cons y r=>
   obtain⟨a,b,e⟩:=ih ζ;exact⟨x::a,b,by rw[e];rfl⟩
theorem acg{i:Int}(h0:0<=i)(h:i<n):ixN n i=GE i.toNat:=by
 unfold ixN;rw[if_pos h0,if_pos h]
theorem cu.newOk{p:ID}(t:cu H p B):iD (·≠p) H:=by
 obtain⟨a,b,c,e,_⟩:=t;exact YJ e
theorem yg{prog:A6}{w:BI}{A:BE}{E:Ap->AD->Prop}{s:AD}{it t:ID}{i:Nat}{items:Array Ap}{x:Ap}{Q:Ap->AD->Prop}(ue:s.heap.IsTupleIter it t i)(ht:s.heap.IsTuple t items)(hx:items[i]?=GE x)
  (hQ:∀h',h'.IsTupleIter it t (i+1)->BO it s.heap h'->Q x { s with heap:=h' }):AO (A3 prog w) A (AX.SmallTypes.nextOf (BY it)) Q E s:=by
 obtain⟨o,ho,hc,hd⟩:=id ue;obtain⟨ol,v4,k7,nl,kU⟩:=ht;unfold AX.SmallTypes.nextOf;refine An (CU ue.typeIs Fs (Ct Fs ue.typeIs F.entry_tuple_iterator_next ?_ (F.args_tuple_iterator_next_1 _)));refine An (AF (An (D9 ho hd (i:=0) Z ?_)));refine B9 Z (An (D9 ho hd (i:=1) Z ?_));refine An (JJ v4 kU ?_);show AO _ _ (match items[(i:Int).toNat]? with
  | some x=>(do setField (.ref it) 1 (ET ((i:Int)+1));ret x)
  | none=>_) _ _ _
 rw[B3,hx];refine An (wpAny_setField ho hd (CF 1) (AF ⟨x,rfl,AF (hQ _ ?_ ?_)⟩))
 ·refine⟨_,FC _ ho (Obj.isFreed_of_fields (Obj.data_mapFields hd _)),(Obj.cls_mapFields o _).trans hc,?_⟩;rw[Obj.data_mapFields hd];rfl
 exact BO.update s.heap it _
theorem zB{prog:A6}{w:BI}{A:BE}{E:Ap->AD->Prop}{s:AD}{it t:ID}{i:Nat}{items:Array Ap}{Q:Ap->AD->Prop}(hh:A.handled=GT)(ue:s.heap.IsTupleIter it t i)(ht:s.heap.IsTuple t items)(hx:items[i]?=GT)
  (hE:∀h' e,Heap.ExtBut it s.heap h'->(∃o,h'.get? e=GE o/\o.cls=DO "StopIteration")->E (.ref e) { s with heap:=h' }):AO (A3 prog w) A (AX.SmallTypes.nextOf (BY it)) Q E s:=by
 obtain⟨o,ho,hc,hd⟩:=id ue;obtain⟨ol,v4,k7,nl,kU⟩:=ht;unfold AX.SmallTypes.nextOf;refine An (CU ue.typeIs Fs (Ct Fs ue.typeIs F.entry_tuple_iterator_next ?_ (F.args_tuple_iterator_next_1 _)));refine An (AF (An (D9 ho hd (i:=0) Z ?_)));refine B9 Z (An (D9 ho hd (i:=1) Z ?_));refine An (JJ v4 kU ?_);show AO _ _ (match items[(i:Int).toNat]? with
  | some x=>_
  | none=>(do rule (toString "tuple_iterator.__next__" ++ toString ".end");setField (.ref it) 0 .none;AX.SmallTypes.stopIteration)) _ _ _
 rw[B3,hx];refine An (EN (An (wpAny_setField ho hd (Nat.zero_lt_succ 1) ?_)));unfold AX.SmallTypes.stopIteration newExc;refine An (An (BU ?_));refine An (B7 (a:=.none) Z ?_);refine BU ?_;refine wpAny_raiseNew_none hh (hE _ _ ?_ ?_)
 ·exact λb ob hb e=>AH _ (AH _ ((CO _ _ (EC hb)).trans e))
 exact⟨_,A7 _ rfl,rfl⟩
theorem Bl(hh:A.handled=GT)(it t:ID)(a7:t≠it)(items:Array Ap):Draws prog w A it [it,t] items.size (λi v=>items[i]?=GE v) λi h=>h.IsTupleIter it t i/\h.IsTuple t items where
 live:=λ_ _ st=>by
  obtain⟨⟨o,ho,_⟩,_⟩:=st;exact⟨o,ho⟩
 frame:=λ_ _ _ st hk=>by
  obtain⟨h1,⟨o,e,r⟩⟩:=st;exact⟨h1.at λo e=>hk it ζ o e,o,hk t ζ o e,r⟩
 item:=λi s Q E hi st hQ=>by
  have e:items[i]?=GE items[i]:=by simp[hi]
  refine yg st.1 st.2 e λh' h1 sb=>hQ _ _ s.toks e ⟨h1,?_⟩ sb;obtain⟨o,g,r⟩:=st.2;exact⟨o,(sb.2 t a7).trans g,r⟩
 done:=λs Q E st hE=>zB hh st.1 st.2 ζ hE
def Iet(K:AE)(a:ID):It:=
 ⟨λi H=>∃xs x,SqT K H a xs/\xs[i]?=GE x,
  λi H v H'=>∃p x,v=.ref p/\H p=GT/\H'=upd H p (.tup [.int (i:Nat),x])/\∀xs,SqT K H a xs->xs[i]?=GE x,
  λi H=>∃xs,SqT K H a xs/\xs.length=i⟩
def ieq(K:AE)(ob:Option HO)(a:ID)(H:Hp)(R:It->Hp->Prop):Prop:=match ob with
 | some (.lst _)=>R (Ite K a) H
 | some (.tup _)=>R (Iet K a) H
 | _=>False
theorem R9(K:AE)(xs:List V)(a:ID)(H:Hp)(R:It->Hp->Prop):ieq K (GE (.lst xs)) a H R=R (Ite K a) H:=rfl
theorem Ql{J:It}(hR:R=(λJ H1=>∃W:Nat->Nat->St->Hp->Prop,(∃m,W 0 m σ H1)/\∀i m σ H,W i m σ H ->
  (J.stop i H/\D.nx σ H)\/(J.go i H/\∃N:St->Hp->Prop,(∀σ' H',N σ' H'->∃m',m'<m/\W (i+1) m' σ' H')/\∀x H',J.yld i H x H'->g x σ H' λσ2 H2=>tb { D with nx:=N,ct:=N,bk:=D.nx } σ2 H2)))
  (n:Nat)(Pv:Nat->St->Hp->Prop)(h0:Pv 0 σ H)(l8:∀i σ H,i<n->Pv i σ H->J.go i H)(ar:∀σ H,Pv n σ H->J.stop n H)
  (hs:∀i σ H x H3,i<n->Pv i σ H->J.yld i H x H3->g x σ H3 λσ2 H2=>tb { D with nx:=Pv (i+1),ct:=Pv (i+1),bk:=D.nx } σ2 H2)(hd:∀σ H,Pv n σ H->D.nx σ H):R J H:=by
 subst hR;refine⟨λi m σ H2=>m=n-i/\i<=n/\Pv i σ H2,⟨_,rfl,D6 _,h0⟩,?_⟩;rintro i m σ H2 ⟨rfl,hi,p⟩;by_cases ba:i<n
 ·exact .inr ⟨l8 i σ H2 ba p,Pv (i+1),λσ' H' q=>⟨_,ω,rfl,ba,q⟩,λx H3 y=>hs i σ H2 x H3 ba p y⟩
 have e:i=n:=ω;subst e;exact .inl ⟨ar σ H2 p,hd σ H2 p⟩
section
variable{o:Expr}
def exq(ob oc:Option HO)(l:ID)(H:Hp)(Q:VK):Prop:=match ob,oc with
 | some (.lst xs),GE (.lst zs)=>xs.length+zs.length<=AV/\Q .non (upd H l (.lst (xs++zs)))
 | _,_=>False
def Zy(l:ID)(y:V)(H:Hp)(Q:VK):Prop:=match y with
 | .ref b=>exq (H l) (H b) l H Q
 | _=>False
def exK(x:V)(te:TE)(σ:St)(H1:Hp)(Q:VK):Prop:=match x with
 | .ref l=>isq (H1 l)/\te σ H1 λy H2=>Zy l y H2 Q
 | _=>False
def WD(to te:TE):TE:=λσ H Q=>to σ H λx H1=>exK x te σ H1 Q
theorem xK(to te:TE)(σ:St)(H:Hp)(Q:VK):WD to te σ H Q=to σ H λx H1=>exK x te σ H1 Q:=rfl
theorem Ck(l:ID)(te:TE)(σ:St)(H1:Hp)(Q:VK):exK (.ref l) te σ H1 Q=(isq (H1 l)/\te σ H1 λy H2=>Zy l y H2 Q):=rfl
theorem yR(l b:ID)(H:Hp)(Q:VK):Zy l (.ref b) H Q=exq (H l) (H b) l H Q:=rfl
theorem Kc(xs zs:List V)(l:ID)(H:Hp)(Q:VK):exq (GE (.lst xs)) (GE (.lst zs)) l H Q=(xs.length+zs.length<=AV/\Q .non (upd H l (.lst (xs++zs)))):=rfl
theorem Ca(ho:QE X o to)(he:QE X e te)
  (bo:Ev o "extend" X.env (eval o X.env)=eval o X.env:=by rfl)
   (eJ:((CY ai (AM [e] X.env)).all (λx=>!x.1)&&(EI ai (C6 [] X.env)).all (λx=>x.1.isSome)
   && decide ([e].length+([]:List EH).length+(if ([]:List EH).isEmpty then 0 else 1)<30))=true:=by rfl)
  (bn:(aw.endLine == ai.line)=true:=by rfl) (hs:AM [e] X.env=(false,eval e X.env)::AM [] X.env:=by rfl) (bm:(CY ai (AM [] X.env)).any (·.1)=false:=by rfl) :
  QE X (.Call (.Attribute o "extend" aw) [e] [] ai) (WD to te):=⟨by
 intro aa s σ H Q I h;refine IB bo eJ bn Z (thE (ho.h aa s σ H _ I h) λv s1 x H1 I1 r1 q=>?_);cases x with
 | ref l=>
  obtain⟨q1,q2⟩:=q;cases el:H1 l with
  | none=>rw[el] at q1;exact q1.elim
  | some ob=>
   cases ob with
   | lst xs=>
    obtain⟨h1,h2⟩:=Jg (T := "list") I1 r1 (.inl ⟨rfl,xs,SqL.of el⟩);refine⟨"list","list.extend",FR,PySem.F.slot_list_extend,PySem.F.type_list_extend,h1,h2,?_⟩;rw[hs];refine DJ (by show(false||(CY ai (AM [] X.env)).any (·.1))=false;rw[bm] <;> rfl) (EK ?_)
    refine CD (thE (he.h aa s1 σ H1 _ I1 q2) λu s2 y H2 I2 r2 q3=>DF ?_);replace q3:Zy l y H2 Q:=q3;unfold Zy at q3;split at q3
    ·rename_i b;unfold exq at q3;split at q3
     ·rename_i ys zs e1 e2;exact U5 aa s2 σ H2 (.ref l) [.ref b] v [u] Q I2 r1 (.cons r2 .nil) ⟨l,b,ys,zs,rfl,rfl,e1,e2,q3.1,q3.2⟩
     exact q3.elim
    exact q3.elim
   | _=>rw[el] at q1;exact q1.elim
 | _=>exact q.elim⟩
theorem Lr:∀(l:List Ap),(AK l.length).filterMap (λk=>l[k]?)=l
 | []=>rfl
 | x::l=>by
  rw[BG,List.range_succ_eq_map,FU];show x::((AK l.length).map Nat.succ).filterMap _=_;rw[HI];congr 1;exact Lr l
theorem M5{α β:Type}{f g:α->Option β}:∀{l:List α},(∀x∈l,f x=g x)->l.filterMap f=l.filterMap g
 | [],_=>rfl
 | x::l,h=>by
  rw[FU,FU,h x AJ,M5 λy hy=>h y (AG _ hy)]
theorem FW(ae:List Ap):slicePick ae.toArray GT GT (GE (-1))=ae.reverse.toArray:=by
 unfold slicePick FO sliceRange;simp only[getD_some,AY,show ¬((-1:Int)>0) by decide,if_false];congr 1;have key:(if ((ae.length:Int)-1) > -1 then ((ae.length:Int)-1 - -1 - -1-1)/(- -1) else 0).toNat=ae.length:=by
  rw[show(- -1:Int)=1 from rfl,Int.ediv_one];split <;> omega
 rw[key,HI];rw[<- Lr ae.reverse,JO];refine M5 λk hk=>?_;have gE:=FL.mp hk;show ae.toArray[((ae.length:Int)-1 + -1*(k:Int)).toNat]?=ae.reverse[k]?;rw[List.getElem?_reverse gE,show((ae.length:Int)-1 + -1*(k:Int)).toNat=ae.length-1-k by omega];simp
def rvq(ob:Option HO)(H:Hp)(Q:VK):Prop:=match ob with
 | some (.lst xs)=>∀p,H p=GT->Q (.ref p) (upd H p (.lst xs.reverse))
 | _=>False
def rvK(x:V)(H:Hp)(Q:VK):Prop:=match x with
 | .ref p=>rvq (H p) H Q
 | _=>False
def adb(te:TE):TE:=λσ H Q=>te σ H λx H1=>rvK x H1 Q
theorem aaC(te:TE)(σ:St)(H:Hp)(Q:VK):adb te σ H Q=te σ H λx H1=>rvK x H1 Q:=rfl
theorem aaU(p:ID)(H:Hp)(Q:VK):rvK (.ref p) H Q=rvq (H p) H Q:=rfl
theorem aaT(xs:List V)(H:Hp)(Q:VK):rvq (GE (.lst xs)) H Q=∀p,H p=GT->Q (.ref p) (upd H p (.lst xs.reverse)):=rfl
end
mutual
def szD(a:Nat):A9->Prop
 | .none=>True
 | .bool _=>True
 | .int i=>i.natAbs<=10^20*2^a
 | .str x=>x.length<=30+a/\∀c∈x.cps.toList,c<16^8
 | .list ds=>ds.length<=210*5^a/\WR a ds
 | .tuple ds=>ds.length<=210*5^a/\WR a ds
 | .dict _=>False
def WR(a:Nat):List A9->Prop
 | []=>True
 | d::ds=>szD a d/\WR a ds
end
def okS(a:Nat)(x:Str):Prop:=x.length<=30+a/\∀c∈x.cps.toList,c<16^8
theorem cD{l:ID}(s:Same H H')(h:H l=GT):Same H (upd H' l o):=λb u e=>by
 rw[aL (aF e h)];exact s b u e
theorem iD.new{ok:ID->Prop}(n:iD ok H)(h:H q=GT):ok q:=n H q (Same.refl _) h
section
variable{a:Expr}{ta:TE}
def trq(ob:Option HO)(H:Hp)(Q:Bool->Hp->Prop):Prop:=match ob with
 | some (.lst xs)=>Q (!xs.isEmpty) H
 | some (.tup xs)=>Q (!xs.isEmpty) H
 | _=>False
def aay(x:V)(H:Hp)(Q:Bool->Hp->Prop):Prop:=match x with
 | .ref p=>trq (H p) H Q
 | .bl b=>Q b H
 | .int i=>Q (i != 0) H
 | .non=>Q false H
 | _=>False
def ac9(te:TE):TT:=λσ H Q=>te σ H λx H1=>aay x H1 Q
theorem aaB(te:TE)(σ:St)(H:Hp)(Q:Bool->Hp->Prop):ac9 te σ H Q=te σ H λx H1=>aay x H1 Q:=rfl
theorem Wm(p:ID)(H:Hp)(Q:Bool->Hp->Prop):aay (.ref p) H Q=trq (H p) H Q:=rfl
theorem Wn(i:Int)(H:Hp)(Q:Bool->Hp->Prop):aay (.int i) H Q=Q (i != 0) H:=rfl
theorem aaA(xs:List V)(H:Hp)(Q:Bool->Hp->Prop):trq (GE (.lst xs)) H Q=Q (!xs.isEmpty) H:=rfl
theorem aaz(xs:List V)(H:Hp)(Q:Bool->Hp->Prop):trq (GE (.tup xs)) H Q=Q (!xs.isEmpty) H:=rfl
theorem adK(ha:PE X a ta)(he:∀bE,isTrue a X.env bE=(do let v <- bE;Ix a.pos;EW [v] (truthy v))):PT X a (ac9 ta):=by
 intro aa s σ H Q I h;refine isTrue_plain (thE (ha aa s σ H _ I h) λv s1 x H1 I1 r1 q1=>ac7 aa s1 σ H1 x v Q I1 r1 ?_) (he _);cases x with
 | ref p=>
  replace q1:trq (H1 p) H1 Q:=q1;unfold trq at q1;split at q1
  ·rename_i xs e;exact⟨_,.inl ⟨xs,SqL.of e,rfl⟩,q1⟩
  ·rename_i xs e;exact⟨_,.inr (.inl ⟨xs,SqT.of e,rfl⟩),q1⟩
  exact q1.elim
 | bl b=>exact⟨_,rfl,q1⟩
 | int i=>exact⟨_,rfl,q1⟩
 | non=>exact⟨_,rfl,q1⟩
 | _=>exact(show False from q1).elim
theorem zu(h:QE X a ta)(he:∀bE,isTrue a X.env bE=(do let v <- bE;Ix a.pos;EW [v] (truthy v)):=by intro _;rfl):QT X a (ac9 ta):=⟨adK h.h he⟩
def af4:R2:=λx y H Q=>∃p q xs,x=.ref p/\y=.ref q/\H p=GE (.lst xs)/\H q=GE (.lst [])/\Q (.bl xs.isEmpty) H
def afZ:R2:=λx y H Q=>∃p q xs,x=.ref p/\y=.ref q/\H p=GE (.lst xs)/\H q=GE (.lst [])/\Q (.bl (!xs.isEmpty)) H
theorem aeb(hu:X.A.units<E4):OpR X (B0 .Eq) af4:=by
 intro aa s σ H x y v u Q I rx ry h;obtain⟨p,q,xs,rfl,rfl,e1,e2,qq⟩:=h;cases rx;cases ry;obtain⟨aE,r1,gx,eA⟩:=I.list (SqL.of e1);obtain⟨cz,r2,kq,di⟩:=I.list (SqL.of e2);cases r2;cases xs with
 | nil=>
  cases r1;exact SeqAt.RcAt.lists (e:=λ_=>true) gx.isList kq.isList Z hu (λj h1 h2=>absurd h2 (HA _)) X.prog X.w X.xe (EP X aa σ Q) ⟨.bl true,H,I,rfl,qq⟩
 | cons a b=>
  cases r1;exact SeqAt.RcAt.lists_lengths gx.isList kq.isList ζ hu X.prog X.w X.xe (EP X aa σ Q) ⟨.bl false,H,I,rfl,qq⟩
theorem ad8(hu:X.A.units<E4):OpR X (B0 .NotEq) afZ:=by
 intro aa s σ H x y v u Q I rx ry h;obtain⟨p,q,xs,rfl,rfl,e1,e2,qq⟩:=h;cases rx;cases ry;obtain⟨aE,r1,gx,eA⟩:=I.list (SqL.of e1);obtain⟨cz,r2,kq,di⟩:=I.list (SqL.of e2);cases r2;cases xs with
 | nil=>
  cases r1;exact SeqAt.RcNeAt.lists (e:=λ_=>true) gx.isList kq.isList Z hu (λj h1 h2=>absurd h2 (HA _)) X.prog X.w X.xe (EP X aa σ Q) ⟨.bl false,H,I,rfl,qq⟩
 | cons a b=>
  cases r1;exact SeqAt.RcNeAt.lists_lengths gx.isList kq.isList ζ hu X.prog X.w X.xe (EP X aa σ Q) ⟨.bl true,H,I,rfl,qq⟩
end
theorem afJ{b:ID}{ys:List V}(hR:R=(λJ H1=>∃W:Nat->Nat->St->Hp->Prop,(∃m,W 0 m σ H1)/\∀i m σ H,W i m σ H ->
  (J.stop i H/\D.nx σ H)\/(J.go i H/\∃N:St->Hp->Prop,(∀σ' H',N σ' H'->∃m',m'<m/\W (i+1) m' σ' H')/\∀x H',J.yld i H x H'->g x σ H' λσ2 H2=>tb { D with nx:=N,ct:=N,bk:=D.nx } σ2 H2)))
  (hyx:ys.length<=xs.length)(Pv:Nat->St->Hp->Prop)(h0:Pv 0 σ H)(hl:∀i σ H,Pv i σ H->H a=GE (.lst xs)/\H b=GE (.lst ys))
  (hs:∀i x y σ H p,xs[i]?=GE x->ys[i]?=GE y->Pv i σ H->H p=GT->g (.ref p) σ (upd H p (.tup [x,y])) λσ2 H2=>tb { D with nx:=Pv (i+1),ct:=Pv (i+1),bk:=D.nx } σ2 H2)(hd:∀σ H,Pv ys.length σ H->D.nx σ H):R (Itz K a b) H:=by
 refine Ql hR ys.length Pv h0 (λi σ H hi p=>?_) (λσ H p=>?_) (λi σ H x H3 hi p y=>?_) hd
 ·obtain⟨e1,e2⟩:=hl i σ H p;exact⟨xs,ys,_,_,SqL.of e1,SqL.of e2,AC ω,AC hi⟩
 ·obtain⟨e1,e2⟩:=hl _ σ H p;exact⟨xs,ys,SqL.of e1,SqL.of e2,.inr (FD (AW _))⟩
 obtain⟨e1,e2⟩:=hl i σ H p;obtain⟨q,x1,y1,rfl,hq,rfl,hx,hy⟩:=y;exact hs i x1 y1 σ H q (hx _ (SqL.of e1)) (hy _ (SqL.of e2)) p hq
def stD(s:Int×Int×Int):A9:=.tuple [.int s.1,.int s.2.1,.int s.2.2]
theorem aG.st{ok:ID->Prop}{H:Hp}{x:V}{s:Int×Int×Int}(t:aG ok H x (stD s)):∃a,x=.ref a/\ok a/\H a=GE (.tup [.int s.1,.int s.2.1,.int s.2.2]):=by
 cases t with
 | tup o e z ts=>
  rename_i p xs;refine⟨p,rfl,o,?_⟩;cases ts with
  | cons t1 ts=>
   cases t1;cases ts with
   | cons t2 ts=>
    cases t2;cases ts with
    | cons t3 ts=>
     cases t3;cases ts;exact e
theorem aN.st{ok:ID->Prop}{H:Hp}{xs:List V}{ss:List (Int×Int×Int)}{i:Nat}{x:V}(t:aN ok H xs (ss.map stD))(h:xs[i]?=GE x):∃a s,x=.ref a/\ok a/\ss[i]?=GE s/\H a=GE (.tup [.int s.1,.int s.2.1,.int s.2.2]):=by
 obtain⟨d,hd,td⟩:=t.get h;rw[AZ] at hd;cases hs:ss[i]? with
 | none=>rw[hs] at hd;cases hd
 | some s=>
  rw[hs] at hd;cases hd;obtain⟨a,h1,h2,h3⟩:=td.st;exact⟨a,s,h1,h2,rfl,h3⟩
theorem Dp{r:Int}(h0:0<=r)(h:r<is.length):∃i,i∈is/\atI (is.map As) r=GE (.int i):=by
 have h1:r.toNat<is.length:=ω;refine⟨is[r.toNat],Ee h1,?_⟩;unfold atI;rw[acg h0 (by rw[AI];omega)];show(is.map As)[r.toNat]?=_;rw[AZ,AC h1];rfl
structure dF(ss:List (Int×Int×Int)):Prop where
 lh:∀(i:Nat) s,ss[i]?=GE s->s.1<=s.2.1/\0<=s.2.2/\s.2.2<=9
 nx:∀(i:Nat) s t,ss[i]?=GE s->ss[i+1]?=GE t->t.1=s.2.1+1
 bd:∀(i:Nat) s,ss[i]?=GE s->-(10^12)<=s.1/\s.2.1<=10^9+(10^12+10)*(i+1)
theorem dF.nil:dF []:=⟨λi s h=>(by cases h),λi s t h=>(by cases h),λi s h=>(by cases h)⟩
theorem dF.snoc{ss:List (Int×Int×Int)}(h:dF ss){lo hi b:Int}(h1:lo<=hi)(h2:0<=b/\b<=9)(h3:-(10^12)<=lo/\hi<=10^9+(10^12+10)*(ss.length+1))(h4:∀s,ss[ss.length-1]?=GE s->lo=s.2.1+1):dF (ss++[(lo,hi,b)]):=by
 have get:∀(i:Nat) s,(ss++[(lo,hi,b)])[i]?=GE s->(i<ss.length/\ss[i]?=GE s)\/(i=ss.length/\s=(lo,hi,b)):=λi s e=>by
  rcases Fu i ss.length with z|z
  ·rw[C0 z] at e;exact .inl ⟨z,e⟩
  rw[BF z] at e;cases hk:i-ss.length with
  | zero=>rw[hk] at e;cases e;exact .inr ⟨ω,rfl⟩
  | succ k=>rw[hk] at e;cases e
 refine⟨λi s e=>?_,λi s t e1 e2=>?_,λi s e=>?_⟩
 ·rcases get i s e with⟨z,e⟩|⟨z,rfl⟩
  ·exact h.lh i s e
  exact⟨h1,h2.1,h2.2⟩
 ·rcases get i s e1 with⟨z,e1⟩|⟨z,rfl⟩
  ·rcases get (i+1) t e2 with⟨z2,e2⟩|⟨z2,rfl⟩
   ·exact h.nx i s t e1 e2
   exact h4 s (by rw[show ss.length-1=i by omega];exact e1)
  rcases get (i+1) t e2 with⟨z2,e2⟩|⟨z2,rfl⟩ <;> omega
 rcases get i s e with⟨z,e⟩|⟨z,rfl⟩
 ·exact h.bd i s e
 rw[z];exact h3
theorem aas{c:TT}(Pv:St->Hp->Prop)(μ:St->Nat)(h0:Pv σ H)
  (hs:∀σ H,Pv σ H->c σ H λb H1=>if b=true then ∃N:St->Hp->Prop,(∀σ' H',N σ' H'->∃m',m'<μ σ/\m'=μ σ'/\Pv σ' H')/\tb { D with nx:=N,ct:=N,bk:=D.nx } σ H1 else D.nx σ H1):Cz c tb D σ H:=
 ⟨λm σ H=>m=μ σ/\Pv σ H,⟨_,rfl,h0⟩,by rintro m σ H ⟨rfl,p⟩;exact hs σ H p⟩
def abL:Option Int->V
 | some i=>.int i
 | none=>.non
theorem dF.rise{ss:List (Int×Int×Int)}(h:dF ss){i:Nat}{s:Int×Int×Int}(hs:ss[i]?=GE s):∀(k:Nat)(t:Int×Int×Int),ss[i+k+1]?=GE t->s.2.1<t.1
 | 0,t,ht=>by
  have:=h.nx i s t hs ht;omega
 | k+1,t,ht=>by
  have hl:=(AB.mp ht).1;have hu:ss[i+k+1]?=GE ss[i+k+1]:=AC ω;have h1:=h.rise hs k _ hu;have h2:=h.nx _ _ t hu ht;have h3:=(h.lh _ _ hu).1;omega
theorem dF.lt{ss:List (Int×Int×Int)}(h:dF ss){i j:Nat}{s t:Int×Int×Int}(hs:ss[i]?=GE s)(ht:ss[j]?=GE t)(eR:i<j):s.2.1<t.1:=
 h.rise hs (j-i-1) t (by rw[show i+(j-i-1)+1=j by omega];exact ht)
section
variable {κ:Type}[DecidableEq κ]
def fL(af:List (κ×V))(k:κ):Option V:=(af.find? λkv=>decide (kv.1=k)).map (·.2)
def putK(af:List (κ×V))(k:κ)(v:V):List (κ×V):=
 if (af.any λkv=>decide (kv.1=k))=true then af.map (λkv=>if kv.1=k then (kv.1,v) else kv) else af++[(k,v)]
theorem jx{p:κ×V}{r:List (κ×V)}{k:κ}(e:p.1=k):fL (p::r) k=GE p.2:=by simp[fL,IC,e]
theorem gF{p:κ×V}{r:List (κ×V)}{k:κ}(e:¬p.1=k):fL (p::r) k=fL r k:=by simp[fL,IC,e]
theorem Cv(k:κ):∀af:List (κ×V),(af.any λkv=>decide (kv.1=k))=(fL af k).isSome
 | []=>rfl
 | p::r=>by
  rw[GY];by_cases e:p.1=k
  ·simp only[jx e,decide_eq_true e,Bool.true_or,Option.isSome_some]
  rw[gF e,decide_eq_false e,Bool.false_or];exact Cv k r
theorem yZ(k j:κ)(y:V):∀af:List (κ×V),fL af k=GT->fL (af++[(k,y)]) j=if j=k then GE y else fL af j
 | [],_=>by
  by_cases e:k=j
  ·rw[if_pos e.symm];exact jx (p:=(k,y)) e
  rw[if_neg (λz=>e z.symm)];exact gF (p:=(k,y)) e
 | p::r,hn=>by
  rw[cons_append];have hk:¬p.1=k:=λz=>by rw[jx z] at hn;cases hn
  rw[gF hk] at hn;have ih:=yZ k j y r hn;by_cases e:p.1=j
  ·rw[jx e,jx e,if_neg (λz=>hk (e.trans z))]
  rw[gF e,gF e,ih]
theorem Bb(af:List (κ×V))(k:κ)(v:V):(putK af k v).length<=af.length+1:=by
 unfold putK;split
 ·rw[AI];omega
 rw[AN,BG,length_nil];omega
theorem Lq{af:List (κ×V)}{k:κ}(v:V)(h:fL af k=GT):putK af k v=af++[(k,v)]:=by
 unfold putK;rw[Cv,h];exact if_neg δ
theorem uy.zV{o:Option V}{u:Option Ap}(r:uy o u):o.isSome=u.isSome:=by
 cases o with
 | none=>cases u with
  | none=>rfl
  | some _=>exact(show False from r).elim
 | some _=>cases u with
  | none=>exact(show False from r).elim
  | some _=>rfl
theorem uy.getD{o:Option V}{u:Option Ap}{d:V}{d':Ap}(r:uy o u)(rd:RelV d d'):RelV (o.getD d) (u.getD d'):=by
 cases o with
 | none=>cases u with
  | none=>exact rd
  | some _=>exact(show False from r).elim
 | some _=>cases u with
  | none=>exact(show False from r).elim
  | some _=>exact r
theorem KV.val{af:List (κ×V)}{vs:List (κ×Ap)}(r:KV af vs)(k:κ):uy (fL af k) (HC vs k):=by
 unfold KV at r
 induction r with
 | nil=>exact DT
 | @cons p q ps qs h t ih=>
  obtain⟨h1,h2⟩:=h;by_cases e:p.1=k
  ·have e':q.1=k:=h1.symm.trans e;have b:HC (q::qs) k=GE q.2:=by simp[HC,IC,e']
   rw[jx e,b];exact h2
  have e':¬q.1=k:=λz=>e (h1.trans z);have b:HC (q::qs) k=HC qs k:=by simp[HC,IC,e']
  rw[gF e,b];exact ih
theorem KV.any{af:List (κ×V)}{vs:List (κ×Ap)}(r:KV af vs)(k:κ):(af.any λkv=>decide (kv.1=k))=vs.any λkv=>decide (kv.1=k):=by
 unfold KV at r
 induction r with
 | nil=>rfl
 | cons h t ih=>rw[GY,GY,ih,h.1]
theorem KV.repl{af:List (κ×V)}{vs:List (κ×Ap)}(r:KV af vs)(k:κ){y:V}{u:Ap}(ry:RelV y u) :
  KV (af.map λkv=>if kv.1=k then (kv.1,y) else kv) (vs.map λkv=>if kv.1=k then (kv.1,u) else kv):=by
 unfold KV at r |-
 induction r with
 | nil=>exact .nil
 | @cons p q ps qs h t ih=>
  rw[DI,DI];refine .cons ?_ ih;obtain⟨h1,h2⟩:=h;by_cases e:p.1=k
  ·rw[if_pos e,if_pos (h1.symm.trans e)];exact⟨h1,ry⟩
  rw[if_neg e,if_neg (λz=>e (h1.trans z))];exact⟨h1,h2⟩
theorem KV.put{af:List (κ×V)}{vs:List (κ×Ap)}(r:KV af vs)(k:κ)(ry:RelV y u):KV (putK af k y) (stored vs k u):=by
 unfold putK stored;rw[r.any k];by_cases e:(vs.any λkv=>decide (kv.1=k))=true
 ·rw[if_pos e,if_pos e];exact r.repl k ry
 rw[if_neg e,if_neg e];exact Paired.snoc r ⟨rfl,ry⟩
theorem KV.keys{af:List (κ×V)}{vs:List (κ×Ap)}(r:KV af vs):af.map (·.1)=vs.map (·.1):=by
 unfold KV at r
 induction r with
 | nil=>rfl
 | cons h t ih=>rw[DI,DI,ih,h.1]
theorem KV.length{af:List (κ×V)}{vs:List (κ×Ap)}(r:KV af vs):af.length=vs.length:=KG r
end
theorem Bc{P:A6}{w:BI}{k:Key}{u:Ap}(r:RelV (kV k) u):(cL P w).is k u=true:=by
 cases k with
 | inl i=>obtain⟨t,e⟩:=(show ∃t,u=Do i t from r);subst e;exact Ms P w i t
 | inr x=>obtain⟨t,e⟩:=(show ∃t,u=Ap.str x t from r);subst e;exact Mr P w x t
theorem Ie{P:A6}{w:BI}:∀{ks:List Key}{us:List Ap},Vals (ks.map kV) us->ItemsAre (cL P w) ks us
 | [],_,r=>by rw[map_nil] at r;cases r;exact .nil
 | k::ks,_,r=>by
  rw[DI] at r;cases r with
  | cons h t=>exact .cons (Bc h) (Ie t)
abbrev KT(H:Hp):List (List Key×V)->List (List Key×ID×Ap)->Prop:=Paired λp q=>p.1=q.1/\H q.2.1=GE (.tup (p.1.map kV))/\RelV p.2 q.2.2
theorem KT.val{H:Hp}{af:List (List Key×V)}{xs:List (List Key×ID×Ap)}(r:KT H af xs)(k:List Key):uy (fL af k) ((atKey xs k).map (·.2)):=by
 induction r with
 | nil=>exact DT
 | @cons p q ps qs h t ih=>
  obtain⟨h1,_,h2⟩:=h;by_cases e:p.1=k
  ·have e':q.1=k:=h1.symm.trans e;have b:atKey (q::qs) k=GE q.2:=by simp[atKey,IC,e']
   rw[jx e,b];exact h2
  have e':¬q.1=k:=λz=>e (h1.trans z);have b:atKey (q::qs) k=atKey qs k:=by simp[atKey,IC,e']
  rw[gF e,b];exact ih
theorem KT.repl{H:Hp}{af:List (List Key×V)}{xs:List (List Key×ID×Ap)}(r:KT H af xs)(k:List Key){y:V}{u:Ap}(ry:RelV y u) :
  KT H (af.map λkv=>if kv.1=k then (kv.1,y) else kv) (xs.map (putAt k u)):=by
 induction r with
 | nil=>exact .nil
 | @cons p q ps qs h t ih=>
  rw[DI,DI];refine .cons ?_ ih;obtain⟨h1,h2,h3⟩:=h;unfold putAt;by_cases e:p.1=k
  ·rw[if_pos e,if_pos (h1.symm.trans e)];exact⟨h1,h2,ry⟩
  rw[if_neg e,if_neg (λz=>e (h1.trans z))];exact⟨h1,h2,h3⟩
theorem KT.put{af:List (List Key×V)}{xs:List (List Key×ID×Ap)}(r:KT H af xs)(k:List Key){b:ID}(hb:H b=GE (.tup (k.map kV)))(ry:RelV y u) :
  KT H (putK af k y) (storedH xs k b u):=by
 have e:(af.any λkv=>decide (kv.1=k))=(atKey xs k).isSome:=by
  rw[Cv,(r.val k).zV,isSome_map]
 unfold putK storedH;rw[e];by_cases q:(atKey xs k).isSome=true
 ·rw[if_pos q,if_pos q];exact r.repl k ry
 rw[if_neg q,if_neg q];exact Paired.snoc r ⟨rfl,hb,ry⟩
theorem KT.keeps{af:List (List Key×V)}{xs:List (List Key×ID×Ap)}(r:KT H af xs)(ht:∀b ys,H b=GE (.tup ys)->H' b=GE (.tup ys)):KT H' af xs:=
 Paired.aes r λ_ _ z=>⟨z.1,ht _ _ z.2.1,z.2.2⟩
theorem acW{u:HO}(ok:HOk P w H h)(e:Rd H a u):cR P w H h a u:=e.ok ok
theorem Bm(ok:HOk P w H h)(e:Rd H a (.dK af)):af.length<=AV/\(a == EM)=false/\∃vs,KV af vs/\h.DictOf (cL P w) a vs:=
 show cR P w H h a (.dK af) from acW ok e
theorem ZJ(ok:HOk P w H h)(e:H a=GE (.dK af)):af.length<=AV/\(a == EM)=false/\∃vs,KV af vs/\h.DictOf (cL P w) a vs:=Bm ok (.inl e)
theorem zU{ks:List Key}(ok:HOk P w H h)(e:H a=GE (.tup (ks.map kV))):(HM (cL P w)).is h ks a:=by
 obtain⟨_,ae,r,o,h1,h2,n,h3⟩:=(show cR P w H h a (.tup (ks.map kV)) from ok a _ e);exact⟨o,ae.toArray,n,h1,h2,h3,by simpa using Ie r⟩
theorem Ft{af:List (List Key×V)}(ok:HOk P w H h)(e:Rd H a (.dT af)):af.length<=AV/\(a == EM)=false /\
  ∃xs,KT H af xs/\h.DictOfH (HM (cL P w)) a xs:=by
 obtain⟨z,y,xs,r,o,es,ep,h1,h2,h3,h4,h5⟩:=(show cR P w H h a (.dT af) from acW ok e);refine⟨z,y,xs,r,o,es,ep,h1,h2,h3,h4,λx hx=>?_,h5⟩;have all:∀{l:List (List Key×V)}{m:List (List Key×ID×Ap)},KT H l m->∀x∈m,(HM (cL P w)).is h x.1 x.2.1:=by
  intro l m q
  induction q with
  | nil=>intro x hx;exact nomatch hx
  | @cons p q ps qs hq t ih=>
   intro x hx;rcases AL.mp hx with e|hx
   ·subst e;exact zU ok (by rw[<- hq.1];exact hq.2.1)
   exact ih x hx
 exact all r x hx
theorem afL{af:List (List Key×V)}(ok:HOk P w H h)(e:H a=GE (.dT af)):af.length<=AV/\(a == EM)=false /\
  ∃xs,KT H af xs/\h.DictOfH (HM (cL P w)) a xs:=Ft ok (.inl e)
def oR(H:Hp)(a:ID)(y:V)(r:Option V):Prop:=
 (∃af k,Rd H a (.dK af)/\y=kV k/\r=fL af k)\/∃af k b,Rd H a (.dT af)/\y=.ref b/\H b=GE (.tup (k.map kV))/\r=fL af k
def QV(H:Hp)(a:ID)(y v:V)(H':Hp):Prop:=
 (∃af k,H a=GE (.dK af)/\y=kV k/\af.length<AV/\H'=upd H a (.dK (putK af k v))) \/
 ∃af k b,H a=GE (.dT af)/\y=.ref b/\H b=GE (.tup (k.map kV))/\af.length<AV/\H'=upd H a (.dT (putK af k v))
theorem oR.k{k:Key}(e:H a=GE (.dK af)):oR H a (kV k) (fL af k):=.inl ⟨af,k,.inl e,rfl,rfl⟩
theorem QV.k{k:Key}{v:V}(e:H a=GE (.dK af))(hl:af.length<AV):QV H a (kV k) v (upd H a (.dK (putK af k v))):=.inl ⟨af,k,e,rfl,hl,rfl⟩
section
variable{v:V}{r:Ap}{o:Option V}
theorem Inv.big(I:Inv X aa σ H s):EM<s.heap.objs.size:=by
 have h:Cs<s.heap.objs.size:=(I.mod.glob.keeps I.bk).lt;exact lt_trans δ h
theorem Vw(hu:A.units+1<E4)(I:Inv X aa σ H s)(g:oR H a y (GE v))(ry:RelV y u)(h:∀w' s',Inv X aa σ H s'->RelV v w'->Q w' s') :
  AO (A3 X.prog X.w) A (Kt (.ref a) u) Q E s:=by
 rcases g with⟨af,k,e,ey,l⟩|⟨af,k,b,e,ey,eb,l⟩
 ·subst ey;obtain⟨z,hd,vs,rel,dd⟩:=Bm I.hok e;obtain⟨w',hw,f6⟩:=uy.some_of (v:=v) (o:=HC vs k) (by rw[l];exact rel.val k);exact wpAny_getItem_of (Bc ry) dd.mapOf hw (h w' _ (I.tok _) f6)
 subst ey;cases (show u=BY b from ry);obtain⟨z,hd,xs,rel,dd⟩:=Ft I.hok e;obtain⟨w',hw,f6⟩:=uy.some_of (v:=v) (o:=(atKey xs k).map (·.2)) (by rw[l];exact rel.val k);obtain⟨p,hp,i6⟩:=B5.mp hw;refine wpAny_getItem_heap (FI hu) (zU I.hok eb) dd hp ?_;rw[i6];exact h w' _ (I.tok _) f6
theorem acE(hu:A.units+1<E4)(I:Inv X aa σ H s)(g:oR H a y o)(ry:RelV y u)(h:∀s',Inv X aa σ H s'->Q (.bool (!o.isSome)) s') :
  AO (A3 X.prog X.w) A (B0 .NotIn u (.ref a)) Q E s:=by
 rcases g with⟨af,k,e,ey,l⟩|⟨af,k,b,e,ey,eb,l⟩
 ·subst ey;obtain⟨z,hd,vs,rel,dd⟩:=Bm I.hok e;refine wpAny_notIn_of (Bc ry) hd dd.mapOf ?_;rw[<- (rel.val k).zV,<- l];exact h _ (I.tok _)
 subst ey;cases (show u=BY b from ry);obtain⟨z,hd,xs,rel,dd⟩:=Ft I.hok e;refine wpAny_notIn_heap (FI hu) (zU I.hok eb) hd dd ?_;have q:=(rel.val k).zV;rw[isSome_map] at q;rw[<- q,<- l];exact h _ (I.tok _)
theorem Kf{ob:HO}(I:Inv X aa σ H s)(mu:Mut (H a))(hs:BO a s.heap h')(he:∃q,h'.get? a=GE q)(new:cR X.prog X.w (upd H a ob) h' a ob) :
  Inv X aa σ (upd H a ob) { s with heap:=h',toks:=t' }:=
 I.write (x:=a) (e:=a) mu (.inl Z) (λb q hb z=>(hs.2 b hb).trans z) he new
theorem ZK{vs:List (Key×Ap)}(z:af.length<=AV)(hd:(a == EM)=false)(rel:KV af vs)(dd:h'.DictOf (cL P w) a vs) :
  cR P w H' h' a (.dK af):=⟨z,hd,vs,rel,dd⟩
theorem Vv{Q:Unit->AD->Prop}(hu:A.units+1<E4)(I:Inv X aa σ H s)(g:QV H a y v H')(ry:RelV y u)(rv:RelV v r)(h:∀s',Inv X aa σ H' s'->Q () s') :
  AO (A3 X.prog X.w) A (setItem (.ref a) u r) Q E s:=by
 rcases g with⟨af,k,e,ey,l,eH⟩|⟨af,k,b,e,ey,eb,l,eH⟩
 ·subst ey eH;obtain⟨z,hd,vs,rel,dd⟩:=ZJ I.hok e;have hz:vs.length<=AV:=by rw[<- rel.length];exact z
  have hl:(putK af k v).length<=AV:=by have:=Bb af k v;omega
  refine wpAny_setItem_pairs (hsz:=hz) (Bc ry) dd λh' dd' hs=>h _ ?_;have he:∃q,h'.get? a=GE q:=let ⟨q,_,_,hq,_⟩:=dd';⟨q,hq⟩;exact Kf I (by rw[e];exact DT) hs he (ZK hl hd (rel.put k rv) dd')
 subst ey eH;cases (show u=BY b from ry);obtain⟨z,hd,xs,rel,dd⟩:=afL I.hok e;have hz:xs.length<=AV:=by rw[<- KG rel];exact z
 have hl:(putK af k v).length<=AV:=by have:=Bb af k v;omega
 refine wpAny_setItem_heap (hsz:=hz) (FI hu) (zU I.hok eb) dd λh' dd' hs=>h _ ?_;obtain⟨q,es,ep,hq,h2,h3,h4,_,h5⟩:=dd';refine Kf I (by rw[e];exact DT) hs ⟨q,hq⟩ ⟨hl,hd,_,(rel.put k eb rv).keeps λc ys ec=>?_,q,es,ep,hq,h2,h3,h4,h5⟩;rw[aL (afB ec e (λz=>nomatch z))];exact ec
end
section
variable{k:Key}
theorem afM(I:Inv X aa σ H s)(e:Rd H a (.dK af))(h:∀t s',Inv X aa σ H s'->Q (.int af.length t) s'):AO (A3 X.prog X.w) A (call (.builtin "len") [.ref a]) Q E s:=by
 obtain⟨z,hd,vs,rel,dd⟩:=Bm I.hok e;refine call_len_dict hd dd (by rw[<- rel.length];rw[Jn] at z;omega) ?_;rw[<- rel.length];exact h _ _ (I.tok _)
end
def ae6(i:Expr):Prop:=∀ov iv,subscripted i false ov iv=operate [ov,iv] (Kt ov iv)
theorem Q7{prog:A6}{w:BI}{A:BE}{E:Ap->AD->Prop}{s:AD}{env:Env}{value slice:Expr}{pos:Pos}{T id:String}{Q:Ap->AD->Prop}
  (hl:typeLookup (.type T) "__getitem__" = pure (GE (.builtin id)))(hs:ae6 slice)
  (h:AO (A3 prog w) A (eval value env) (λo s₁=>AO (A3 prog w) A (eval slice env) (λi s₂=>s₂.TypeIs o T/\AO (A3 prog w) A (Kt o i) Q E s₂) E s₁) E s) :
  AO (A3 prog w) A (eval (.Subscript value slice pos) env) Q E s:=by
 refine Subscript_ (Da h (λo s₁ h₁=>Da h₁ (λi s₂ h₂=>?_) λ_ _ x=>x) λ_ _ x=>x);obtain⟨hT,h₂⟩:=h₂;unfold subscriptTail;refine An ?_;rw[getitemInPython_of_ne hT.not_modules];refine An (wpAny_specialOf hT hl ?_);have fin:AO (A3 prog w) A (subscripted slice false o i) (λr s₃=>AO (A3 prog w) A (letTemporaryGo value o r >>= λ_=>pure r) Q E s₃) E s₂:=by
  rw[hs o i];exact wpAny_operating (Da h₂ (λr s₃ h₃=>An (wpAny_letTemporaryGo (AF h₃))) λ_ _ x=>x)
 first
  | exact AF (An fin)
  | exact An (AF (An fin))
  | exact An fin
theorem Nf{o:Option V}(I:Inv X aa σ H s)(g:oR H a y o):s.TypeIs (.ref a) "dict" := by
 rcases g with⟨af,k,e,_,_⟩|⟨af,k,b,e,_,_,_⟩
 ·obtain⟨_,_,vs,_,dd⟩:=Bm I.hok e;exact dd.typeIs
 obtain⟨_,_,xs,_,dd⟩:=Ft I.hok e;exact dd.typeIs
def aaD(ty td:TE):TE:=λσ H Q=>ty σ H λy H1=>td σ H1 λx H2=>∃a o,x=.ref a/\oR H2 a y o/\Q (.bl (!o.isSome)) H2
section
variable{o i value:Expr}{ty tv:TE}
theorem Uo(hu:X.A.units+1<E4)(hi:PE X i ty)(ho:PE X o td):PC X .NotIn i o (aaD ty td):=by
 intro aa s σ H Q I h;refine thE (hi aa s σ H _ I h) λiv s1 y H1 I1 ry q1=>thn (ho aa s1 σ H1 _ I1 q1) λu s2 ⟨x,H2,I2,rx,a,ov,ex,g,q2⟩=>?_;subst ex;obtain rfl:u=BY a:=rx;exact acE hu I2 g ry λs3 I3=>⟨.bl (!ov.isSome),H2,I3,rfl,q2⟩
end
theorem ZL(h:Heap)(hb:EM<h.objs.size):cR P w H (h.push { cls:=.type "dict",data:=.dict #[] }) h.objs.size (.dK []):=
 ⟨D6 _,beq_eq_false_iff_ne.mpr (EC (BS hb)),[],.nil,Heap.DictOf.new h⟩
def Jj:TE:=λ_ H Q=>∀p,H p=GT->Q (.ref p) (upd H p (.dK []))
structure M1(X:Cx)(o:Expr)(m:Str)(aw:Pos)(e:Expr)(ai:Pos):Prop where
 base:Ev o m X.env (eval o X.env)=eval o X.env
 few:((CY ai (AM [e] X.env)).all (λx=>!x.1)&&(EI ai (C6 [] X.env)).all (λx=>x.1.isSome)
  && decide (([e]:List Expr).length+([]:List EH).length+(if ([]:List EH).isEmpty then 0 else 1)<30))=true
 line:(aw.endLine == ai.line)=true
 trees:CY ai (AM [e] X.env)=[(false,eval e X.env)]
structure M2(X:Cx)(o:Expr)(m:Str)(aw:Pos)(e f:Expr)(ai:Pos):Prop where
 base:Ev o m X.env (eval o X.env)=eval o X.env
 few:((CY ai (AM [e,f] X.env)).all (λx=>!x.1)&&(EI ai (C6 [] X.env)).all (λx=>x.1.isSome)
  && decide (([e,f]:List Expr).length+([]:List EH).length+(if ([]:List EH).isEmpty then 0 else 1)<30))=true
 line:(aw.endLine == ai.line)=true
 trees:CY ai (AM [e,f] X.env)=[(false,eval e X.env),(false,eval f X.env)]
def IsD(H:Hp)(a:ID):Prop:=(∃af,Rd H a (.dK af))\/∃af,Rd H a (.dT af)
theorem P0(I:Inv X aa σ H s)(d:IsD H a) :
  s.TypeIs (.ref a) "dict" /\ (∀b,BY a=.ref b->∃ob,s.heap.get? b=GE ob/\ob.dict=GT)/\(a == EM)=false:=by
 rcases d with⟨af,e⟩|⟨af,e⟩
 ·obtain⟨_,hd,vs,_,dd⟩:=Bm I.hok e;refine⟨dd.typeIs,λb q=>?_,hd⟩;cases q;obtain⟨ob,_,_,h1,h2,_⟩:=dd;exact⟨ob,h1,h2.2.1⟩
 obtain⟨_,hd,xs,_,dd⟩:=Ft I.hok e;refine⟨dd.typeIs,λb q=>?_,hd⟩;cases q;obtain⟨ob,_,_,h1,h2,_⟩:=dd;exact⟨ob,h1,h2.2.1⟩
section
variable{d:V}{r:Ap}{o:Option V}
theorem aeT(hu:A.units+1<E4)(I:Inv X aa σ H s)(g:oR H a y o)(ry:RelV y u)(h:∀w' s',Inv X aa σ H s'->RelV (o.getD .non) w'->Q w' s') :
  AO (A3 X.prog X.w) A (call (.builtin "dict.get") [.ref a,u]) Q E s:=by
 rcases g with⟨af,k,e,ey,l⟩|⟨af,k,b,e,ey,eb,l⟩
 ·subst ey;obtain⟨z,hd,vs,rel,dd⟩:=Bm I.hok e;refine IE ED dd.typeIs F3 (PySem.F.args_dict_get_2 _ _) (meets_dict_get (cL X.prog X.w) a (Bc ry) hd) ⟨_,dd.mapOf,h _ _ (I.tok _) ?_⟩;rw[l];exact(rel.val k).getD rfl
 subst ey;cases (show u=BY b from ry);obtain⟨z,hd,xs,rel,dd⟩:=Ft I.hok e;refine IE ED dd.typeIs F3 (PySem.F.args_dict_get_2 _ _) (meetsH_dict_get (HM (cL X.prog X.w)) a b hd) ⟨FI hu,k,xs,zU I.hok eb,dd,h _ _ (I.tok _) ?_⟩;rw[l];exact(rel.val k).getD rfl
theorem aeS(hu:A.units+1<E4)(I:Inv X aa σ H s)(g:oR H a y o)(ry:RelV y u)(rd:RelV d r)(h:∀w' s',Inv X aa σ H s'->RelV (o.getD d) w'->Q w' s') :
  AO (A3 X.prog X.w) A (call (.builtin "dict.get") [.ref a,u,r]) Q E s:=by
 rcases g with⟨af,k,e,ey,l⟩|⟨af,k,b,e,ey,eb,l⟩
 ·subst ey;obtain⟨z,hd,vs,rel,dd⟩:=Bm I.hok e;refine IE ED dd.typeIs F3 (PySem.F.args_dict_get_3 _ _ _) (meets_dict_get_default (cL X.prog X.w) a (Bc ry) hd r) ⟨_,dd.mapOf,h _ _ (I.tok _) ?_⟩;rw[l];exact(rel.val k).getD rd
 subst ey;cases (show u=BY b from ry);obtain⟨z,hd,xs,rel,dd⟩:=Ft I.hok e;refine IE ED dd.typeIs F3 (PySem.F.args_dict_get_3 _ _ _) (meetsH_dict_get_default (HM (cL X.prog X.w)) a b hd r) ⟨FI hu,k,xs,zU I.hok eb,dd,h _ _ (I.tok _) ?_⟩;rw[l];exact(rel.val k).getD rd
end
def Oh(td ty:TE):TE:=λσ H Q=>td σ H λx H1=>∃a,x=.ref a/\IsD H1 a/\ty σ H1 λy H2=>∃o,oR H2 a y o/\Q (o.getD .non) H2
def Jk(td ty tx:TE):TE:=λσ H Q=>td σ H λx H1=>∃a,x=.ref a/\IsD H1 a/\ty σ H1 λy H2=>tx σ H2 λz H3=>∃o,oR H3 a y o/\Q (o.getD z) H3
section
variable{o f:Expr}{ty tx:TE}
end
theorem lX.qw{k:Nat}(r:lX k A):A.units+1<E4:=by have:=r.un;omega
theorem lX.un1{k:Nat}(r:lX k A):A.in1.units<E4:=by
 have:=r.un;show A.units+1<E4;omega
theorem XR{o f:Expr}{ty tx:TE}(hu:X.A.units+1<E4)(ho:QE X o td)(he:QE X e ty)(hf:QE X f tx)(m:M2 X o "get" aw e f ai):QE X (.Call (.Attribute o "get" aw) [e,f] [] ai) (Jk td ty tx):=⟨by
 intro aa s σ H Q I h;refine wpAny_Call_method m.base m.few m.line HQ ED PySem.F.type_dict_get (thn (ho.h aa s σ H _ I h) λu s1 ⟨x,H1,I1,rx,a,ex,d,q1⟩=>?_);subst ex;obtain rfl:u=BY a:=rx;obtain⟨t1,t2,_⟩:=P0 I1 d;refine⟨t1,t2,?_⟩;rw[m.trees];refine DJ Z (EK (CD (thE (he.h aa s1 σ H1 _ I1 q1) λiv s2 y H2 I2 ry q2=>
  CD (thn (hf.h aa s2 σ H2 _ I2 q2) λfv s3 ⟨z,H3,I3,rz,ov,g,q3⟩=>DF ?_))))
 exact aeS hu I3 g ry rz λw' s4 I4 f6=>⟨_,H3,I4,f6,q3⟩⟩
theorem XH{st:Stmt}:QS X st (λ_ _ _=>False):=⟨λ_ _ _ _ _ _ h=>h.elim⟩
def af3:R2:=λx y H Q=>∃(p:ID)(ws:List Str)(d:A9)(ok:ID->Prop),y=.ref p/\H p=GE (.tup (ws.map At))/\aG ok H x d/\Q (.bl (ws.any (wM d))) H
theorem O5(hu:X.A.in1.units<E4):OpR X (B0 .In) af3:=by
 intro aa s σ H x y v u Q I rx ry h;obtain⟨p,ws,d,ok,rfl,e,t,q⟩:=h;cases ry;obtain⟨ae,r,pl,hz⟩:=I.tuple (SqT.of e);have key:∀u∈ae,∃y t,u=Ap.str y t:=λu hu=>by
  obtain⟨j,hj,ej⟩:=D7.mp hu;have hl:=r.length;have hx:(ws.map At)[j]?=GE (ws.map At)[j]:=AC ω;obtain⟨u',VE,ru⟩:=r.get hx;rw[AC hj,ej] at VE;cases VE;rw[List.getElem_map] at ru;obtain⟨t,e⟩:=ru;exact⟨_,t,e⟩
 let g:Ap->Bool:=λu=>match u with | .str y _=>wM d y|_=>false
 refine SeqAt.in_tupleAt g pl (λw hw=>?_) ⟨.bl _,H,I,rfl,?_⟩
 ·obtain⟨y,t',rfl⟩:=key w (by simpa using hw);cases t with
  | non=>cases rx;exact B1.str_none y t'
  | bl b=>cases rx;exact B1.str_bool y t' b
  | int i=>obtain⟨t2,rfl⟩:=rx;exact B1.str_int y t' i t2
  | str z=>
   obtain⟨t2,rfl⟩:=rx;have h2:=B1.str_str (A:=X.A.in1) (s:=s) y t' z t2;have e3:(y == z)=wM (.str z) y:=by
    show(y == z)=decide (z=y);rw[Bool.beq_eq_decide_eq];exact decide_eq_decide.mpr ⟨Eq.symm,Eq.symm⟩
   rw[e3] at h2;exact h2
  | lst o e1 z1 ts=>
   cases rx;obtain⟨aE,r1,gx,eA⟩:=I.list (SqL.of e1);exact B1.str_list y t' gx.isList hu
  | tup o e1 z1 ts=>
   cases rx;obtain⟨aE,r1,gx,eA⟩:=I.tuple (SqT.of e1);exact B1.str_tuple y t' gx hu
 have:∀(ws:List Str)(ae:List Ap),Vals (ws.map At) ae->ae.any g=ws.any (wM d):=by
  intro ws
  induction ws with
  | nil=>intro ae r;cases r;rfl
  | cons a ws ih=>
   intro ae r;cases r with
   | cons r1 r2=>
    obtain⟨t1,rfl⟩:=r1;rw[GY,GY,ih _ r2]
 rw[show ae.toArray.any g=ae.any g by simp,this ws ae r];exact q
def ab1:A9->Int
 | .int i=>i
 | _=>0
def zf(w:Str):List Int->Bool
 | [a]=>decide (w = "pick")&&decide (0<=a)
 | [_,_]=>decide (w = "is")||decide (w = "below")
 | [a,b,_]=>decide (w = "within")&&decide (a<=b)
 | [_,wd,bits,_]=>decide (w = "mask")&&((decide (1<=wd)&&decide (wd<=64))&&(decide (0<=bits)&&decide (bits<2^wd.toNat)))
 | _=>false
def ac2(is:List Int):List Int:=match is.getLast? with
 | some t=>[t]
 | none=>[]
def Mv(w:Str)(is:List Int):List Int:=if w = "pick" then [] else ac2 is
def Wr:List A9->Option (List A9)
 | [.int _,.tuple gs]=>if (!gs.isEmpty&&gs.all tY)=true then GE gs else GT
 | _=>GT
def qC:A9->Bool
 | .tuple (.str w::ps)=>if w = "table" then (Wr ps).isSome else ps.all tY&&zf w (ps.map ab1)
 | _=>false
def wO:A9->List Int
 | .tuple (.str w::ps)=>if w = "table" then ((Wr ps).getD []).map ab1 else Mv w (ps.map ab1)
 | _=>[]
def btw(own many:Int)(t:Int):Bool:=decide (own<t)&&decide (t<many)
def Dh(own many:Int)(d:A9):Bool:=qC d&&(wO d).all (btw own many)
def rT(many:Int):Nat->List A9->Bool
 | _,[]=>true
 | i,d::ds=>Dh i many d&&rT many (i+1) ds
def Cj:A9->Bool
 | .list ds=>!ds.isEmpty&&rT ds.length 0 ds
 | _=>false
theorem GX{ok:ID->Prop}{H:Hp}:∀(is:List Int),aN ok H (is.map As) (is.map A9.int)
 | []=>.nil
 | i::is=>.cons (.int i) (GX is)
theorem acO{p:Prop}[Decidable p](h:¬p):(decide p&&b)=false:=by rw[decide_eq_false h,FX]
theorem agi{p:Prop}[Decidable p](h:p):(decide p&&b)=b:=by rw[decide_eq_true h,DD]
theorem Dw(is:List Int):(is.map A9.int).map ab1=is:=by
 rw[IG];exact(JP λa _=>rfl).trans (List.map_id is)
theorem zW(is:List Int):(is.map A9.int).all tY=true:=by
 rw[C7];intro d hd;obtain⟨i,_,rfl⟩:=C8.mp hd;rfl
theorem qT{w:Str}{t:Int}(h:w ≠ "pick")(hl:is.getLast?=GE t):Mv w is=[t]:=by
 unfold Mv ac2;rw[if_neg h,hl]
theorem vG{w:Str}(h:w = "is" \/ w = "below")(is:List Int):zf w is=decide (is.length=2):=by
 have h3:decide (w = "pick")=false:=decide_eq_false (by rcases h with rfl|rfl <;> decide +kernel)
 have h4:decide (w = "within")=false:=decide_eq_false (by rcases h with rfl|rfl <;> decide +kernel)
 have h5:decide (w = "mask")=false:=decide_eq_false (by rcases h with rfl|rfl <;> decide +kernel)
 match is with
 | []=>rfl
 | [a]=>show(decide (w = "pick")&&_)=_;rw[h3];rfl
 | [a,b]=>
  show(decide (w = "is")||decide (w = "below"))=true;rcases h with z|z
  ·rw[decide_eq_true z,Bool.true_or]
  rw[decide_eq_true z,Bool.or_true]
 | [a,b,c]=>show(decide (w = "within")&&_)=_;rw[h4];rfl
 | [a,b,c,d]=>show(decide (w = "mask")&&_)=_;rw[h5];rfl
 | a::b::c::d::e::r=>show false=decide (r.length+5=2);exact(decide_eq_false ω).symm
theorem Js(is:List Int):zf "within" is=(match is with | [a,b,_]=>decide (a<=b)|_=>false):=by
 match is with
 | []=>rfl
 | [a]=>exact acO (p:=("within" : Str) = "pick") (b:=decide (0<=a)) ψ
 | [a,b]=>exact(by decide +kernel:(decide (("within" : Str) = "is")||decide (("within" : Str) = "below"))=false)
 | [a,b,c]=>show(decide (("within" : Str) = "within")&&decide (a<=b))=decide (a<=b);rw[decide_eq_true rfl,DD]
 | [a,b,c,d]=>exact acO (p:=("within" : Str) = "mask") (b:=(decide (1<=b)&&decide (b<=64))&&(decide (0<=c)&&decide (c<2^b.toNat))) ψ
 | a::b::c::d::e::r=>rfl
theorem Oj(is:List Int):zf "mask" is=(match is with | [_,wd,bits,_]=>(decide (1<=wd)&&decide (wd<=64))&&(decide (0<=bits)&&decide (bits<2^wd.toNat))|_=>false):=by
 match is with
 | []=>rfl
 | [a]=>exact acO (p:=("mask" : Str) = "pick") (b:=decide (0<=a)) ψ
 | [a,b]=>exact(by decide +kernel:(decide (("mask" : Str) = "is")||decide (("mask" : Str) = "below"))=false)
 | [a,b,c]=>exact acO (p:=("mask" : Str) = "within") (b:=decide (a<=b)) ψ
 | [a,b,c,d]=>exact agi (p:=("mask" : Str) = "mask") (b:=(decide (1<=b)&&decide (b<=64))&&(decide (0<=c)&&decide (c<2^b.toNat))) rfl
 | a::b::c::d::e::r=>rfl
theorem xZ(many:Int):∀(ds:List A9)(k:Nat),rT many k ds=true ↔ ∀(j:Nat) d,ds[j]?=GE d->Dh ((k+j:Nat):Int) many d=true
 | [],k=>⟨λ_ j d h=>(by cases h),λ_=>rfl⟩
 | x::ds,k=>by
  show(Dh k many x&&rT many (k+1) ds)=true↔_;rw[BM,xZ many ds (k+1)];constructor
  ·rintro⟨h1,h2⟩ j d hd;cases j with
   | zero=>cases hd;exact h1
   | succ j=>
    have:=h2 j d hd;rw[show k+1+j=k+(j+1) by omega] at this;exact this
  intro h;refine⟨h 0 x rfl,λj d hd=>?_⟩;have:=h (j+1) d hd;rw[show k+(j+1)=k+1+j by omega] at this;exact this
theorem Ao:(("is" : Str) = "below")=False:=eq_false ψ
theorem Dv:(("is" : Str) = "mask")=False:=eq_false ψ
theorem Du:(("is" : Str) = "pick")=False:=eq_false ψ
theorem Am:(("is" : Str) = "table")=False:=eq_false ψ
theorem JL:(("within" : Str) = "is")=False:=eq_false ψ
theorem rD:(("within" : Str) = "below")=False:=eq_false ψ
theorem sG:(("within" : Str) = "mask")=False:=eq_false ψ
theorem sE:(("within" : Str) = "pick")=False:=eq_false ψ
theorem rC:(("within" : Str) = "table")=False:=eq_false ψ
theorem Lw:(("below" : Str) = "is")=False:=eq_false ψ
theorem Bs:(("below" : Str) = "within")=False:=eq_false ψ
theorem Gh:(("below" : Str) = "mask")=False:=eq_false ψ
theorem vM:(("below" : Str) = "pick")=False:=eq_false ψ
theorem sH:(("below" : Str) = "table")=False:=eq_false ψ
theorem O9:(("mask" : Str) = "is")=False:=eq_false ψ
theorem Dt:(("mask" : Str) = "within")=False:=eq_false ψ
theorem vL:(("mask" : Str) = "below")=False:=eq_false ψ
theorem ye:(("mask" : Str) = "pick")=False:=eq_false ψ
theorem vK:(("mask" : Str) = "table")=False:=eq_false ψ
theorem Gg:(("pick" : Str) = "below")=False:=eq_false ψ
theorem JM:(("pick" : Str) = "mask")=False:=eq_false ψ
theorem Gf:(("pick" : Str) = "table")=False:=eq_false ψ
theorem Ds:(("table" : Str) = "below")=False:=eq_false ψ
theorem Ge:(("table" : Str) = "mask")=False:=eq_false ψ
theorem vJ:(("table" : Str) = "pick")=False:=eq_false ψ
def rdW:=Au @Ao (Au @Dv (Au @Du (Au @Am (Au @JL (Au @rD (Au @sG (Au @sE (Au @rC (Au @Lw (Au @Bs (Au @vM (Au @sH (Au @O9 (Au @Dt (Au @vL (Au @ye (Au @vK @vJ)))))))))))))))))
theorem MT(hR:R=(λJ H1=>∃W:Nat->Nat->St->Hp->Prop,(∃m,W 0 m σ H1)/\∀i m σ H,W i m σ H ->
  (J.stop i H/\D.nx σ H)\/(J.go i H/\∃N:St->Hp->Prop,(∀σ' H',N σ' H'->∃m',m'<m/\W (i+1) m' σ' H')/\∀x H',J.yld i H x H'->g x σ H' λσ2 H2=>tb { D with nx:=N,ct:=N,bk:=D.nx } σ2 H2)))
  (Pv:Nat->St->Hp->Prop)(h0:Pv 0 σ H)(hl:∀i σ H,Pv i σ H->H a=GE (.lst xs))
  (hs:∀(i:Nat) x σ H p,xs[i]?=GE x->Pv i σ H->H p=GT->g (.ref p) σ (upd H p (.tup [.int (i:Nat),x])) λσ2 H2=>tb { D with nx:=Pv (i+1),ct:=Pv (i+1),bk:=D.nx } σ2 H2)(hd:∀σ H,Pv xs.length σ H->D.nx σ H):R (Ite K a) H:=by
 refine Ql hR xs.length Pv h0 (λi σ H hi p=>?_) (λσ H p=>?_) (λi σ H x H3 hi p y=>?_) hd
 ·exact⟨xs,_,SqL.of (hl i σ H p),AC hi⟩
 ·exact⟨xs,SqL.of (hl _ σ H p),FD (AW _)⟩
 obtain⟨q,x1,rfl,hq,rfl,hx⟩:=y;exact hs i x1 σ H q (hx _ (SqL.of (hl i σ H p))) p hq
theorem K5{w:Str}(h:w ≠ "table"):qC (.tuple (.str w::is.map A9.int))=zf w is:=by
 unfold qC;simp only[if_neg h,zW,Dw,DD]
theorem Jt(ps:List A9):qC (.tuple (.str "table" :: ps))=(Wr ps).isSome:=by
 unfold qC;simp only[if_true]
theorem Cw{l p:ID}(h:upd H l o p=GT):H p=GT/\p≠l:=by
 have hp:p≠l:=λz=>by rw[z,au] at h;cases h
 rw[aL hp] at h;exact⟨h,hp⟩
theorem Same.none{H H':Hp}(s:Same H H'){p:ID}(h:H' p=GT):H p=GT:=by
 cases e:H p with
 | none=>rfl
 | some o=>rw[s _ _ e] at h;cases h
theorem Wq(n:Int)(gs:List A9):(Wr [.int n,.tuple gs]).isSome=(!gs.isEmpty&&gs.all tY):=by
 show(if (!gs.isEmpty&&gs.all tY)=true then GE gs else GT).isSome=_;cases (!gs.isEmpty&&gs.all tY) <;> rfl
theorem PN{ds:List A9}(h:ds≠[]):Cj (.list ds)=true ↔ ∀(j:Nat) d,ds[j]?=GE d->qC d=true/\(wO d).all (btw j ds.length)=true:=by
 have e:Cj (.list ds)=rT ds.length 0 ds:=by
  cases ds with
  | nil=>exact absurd rfl h
  | cons a b=>exact DD _
 rw[e,xZ];constructor
 ·intro hh j d hd;have:=hh j d hd;rw[F4] at this;unfold Dh at this;rw[BM] at this;exact this
 intro hh j d hd;rw[F4];unfold Dh;rw[BM];exact hh j d hd
def uF(n:Nat):Sp:=λvs H Q _=>(∃a:Int,vs=[.int a,.int a]/\1<=n/\∀H',Same H H'->Q (.bl true) H') \/
 (∃(p q:ID)(zs:List Int),vs=[.ref p,.ref q]/\2<=n/\H p=GE (.lst (zs.map As))/\H q=GE (.lst (zs.map As))/\zs.length<=1000000/\∀H',Same H H'->Q (.bl true) H')
mutual
def szB:A9->Bool
 | .none=>true
 | .bool _=>true
 | .int i=>decide (i.natAbs<=10^20)
 | .str x=>decide (x.length<=30)&&x.cps.toList.all λc=>decide (c<16^8)
 | .list ds=>decide (ds.length<=210)&&adi ds
 | .tuple ds=>decide (ds.length<=210)&&adi ds
 | .dict _=>false
def adi:List A9->Bool
 | []=>true
 | d::ds=>szB d&&adi ds
end
inductive RowC where
 | one (n t:Int)
 | rng (a b t:Int)
 | low (n t:Int)
 | msk (lo wd bits t:Int)
 | tab (lo:Int) (gs:List Int)
 | pik (l:Int)
def iB:RowC->A9
 | .one n t=>.tuple [.str "is",.int n,.int t]
 | .rng a b t=>.tuple [.str "within",.int a,.int b,.int t]
 | .low n t=>.tuple [.str "below",.int n,.int t]
 | .msk lo wd bits t=>.tuple [.str "mask",.int lo,.int wd,.int bits,.int t]
 | .tab lo gs=>.tuple [.str "table",.int lo,.tuple (gs.map A9.int)]
 | .pik l=>.tuple [.str "pick",.int l]
def ur(m o:Int):RowC->Prop
 | .one _ t=>btw o m t=true
 | .rng _ _ t=>btw o m t=true
 | .low _ t=>btw o m t=true
 | .msk _ wd bits t=>btw o m t=true/\1<=wd/\wd<=64/\0<=bits
 | .tab _ gs=>gs.all (btw o m)=true
 | .pik _=>True
def fJ:RowC->Bool
 | .pik _=>true
 | _=>false
def bitAt(bits place:Int):Bool:=decide (AX.bitAnd (bits/2^place.toNat) 1=1)
def dG(c:RowC)(o n:Int):Option Int:=match c with
 | .one a t=>GE (if n=a then t else o+1)
 | .rng a b t=>GE (if a<=n/\n<=b then t else o+1)
 | .low a t=>GE (if n<a then t else o+1)
 | .msk lo wd bits t=>if 0<=n-lo/\n-lo<wd then GE (if bitAt bits (n-lo)=true then t else o+1) else GT
 | .tab lo gs=>if 0<=n-lo/\n-lo<gs.length then gs[(n-lo).toNat]? else GT
 | .pik _=>GT
def iC(cs:List RowC):Prop:=1<=cs.length/\∀(j:Nat) c,cs[j]?=GE c->ur cs.length j c
theorem pP{cs:List RowC}(h:iC cs){j:Nat}{c:RowC}(hc:cs[j]?=GE c){n t:Int}(ht:dG c j n=GE t):(j:Int)<t/\t<cs.length:=by
 have hl:=(AB.mp hc).1;have hk:=h.2 j c hc;have bt:∀{t:Int},btw (j:Int) cs.length t=true->(j:Int)<t/\t<cs.length:=λ{t} hb=>by
  unfold btw at hb;rwa [BM,decide_eq_true_eq,decide_eq_true_eq] at hb
 have nx:fJ c=false->(j:Int)+1<cs.length:=λhp=>by
  have key:∀{t:Int},btw (j:Int) cs.length t=true->(j:Int)+1<cs.length:=λ{t} hb=>by have:=bt hb;omega
  cases c with
  | one a t=>exact key hk
  | rng a b t=>exact key hk
  | low a t=>exact key hk
  | msk lo wd bits t=>exact key hk.1
  | tab lo gs=>
   have h2:(if 0<=n-lo/\n-lo<gs.length then gs[(n-lo).toNat]? else GT)=GE t:=ht;split at h2
   ·exact key (C7.mp hk t (AU h2))
   cases h2
  | pik l=>cases hp
 cases c with
 | one a t'=>
  have h2:GE (if n=a then t' else (j:Int)+1)=GE t:=ht;split at h2 <;> cases h2
  ·exact bt hk
  exact⟨ω,nx rfl⟩
 | rng a b t'=>
  have h2:GE (if a<=n/\n<=b then t' else (j:Int)+1)=GE t:=ht;split at h2 <;> cases h2
  ·exact bt hk
  exact⟨ω,nx rfl⟩
 | low a t'=>
  have h2:GE (if n<a then t' else (j:Int)+1)=GE t:=ht;split at h2 <;> cases h2
  ·exact bt hk
  exact⟨ω,nx rfl⟩
 | msk lo wd bits t'=>
  have h2:(if 0<=n-lo/\n-lo<wd then GE (if bitAt bits (n-lo)=true then t' else (j:Int)+1) else GT)=GE t:=ht;split at h2
  ·split at h2 <;> cases h2
   ·exact bt hk.1
   exact⟨ω,nx rfl⟩
  cases h2
 | tab lo gs=>
  have h2:(if 0<=n-lo/\n-lo<gs.length then gs[(n-lo).toNat]? else GT)=GE t:=ht;split at h2
  ·exact bt (C7.mp hk t (AU h2))
  cases h2
 | pik l=>cases ht
def runC(cs:List RowC)(n:Int):Nat->Int->Option Int×List Int
 | 0,a=>(GT,[a])
 | k+1,a=>match cs[a.toNat]? with
  | some (.pik l)=>(GE l,[a])
  | some c=>match dG c a n with
   | none=>(GT,[a])
   | some t=>((runC cs n k t).1,a::(runC cs n k t).2)
  | none=>(GT,[a])
theorem lK{cs:List RowC}{n:Int}{k:Nat}{a:Int}(h:cs[a.toNat]?=GE (.pik l)):runC cs n (k+1) a=(GE l,[a]):=by
 show(match cs[a.toNat]? with|some (.pik l)=>_|some c=>_|none=>_)=_
 rw[h]
theorem uH{cs:List RowC}{n:Int}{k:Nat}{a:Int}{c:RowC}{t:Int}(h:cs[a.toNat]?=GE c)(hp:fJ c=false)(ht:dG c a n=GE t):runC cs n (k+1) a=((runC cs n k t).1,a::(runC cs n k t).2):=by
 show(match cs[a.toNat]? with|some (.pik l)=>_|some c=>_|none=>_)=_
 rw[h];cases c with
 | pik l=>cases hp
 | _=>simp only[ht]
theorem xY{cs:List RowC}{n:Int}{k:Nat}{a:Int}{c:RowC}(h:cs[a.toNat]?=GE c)(hp:fJ c=false)(ht:dG c a n=GT):runC cs n (k+1) a=(GT,[a]):=by
 show(match cs[a.toNat]? with|some (.pik l)=>_|some c=>_|none=>_)=_
 rw[h];cases c with
 | pik l=>cases hp
 | _=>simp only[ht]
def runOf(cs:List RowC)(n:Int):Option Int×List Int:=runC cs n cs.length 0
def G6:Sp:=λvs H Q _=>∃(l:ID)(ok:ID->Prop)(cs:List RowC)(j:Nat)(n:Int)(c:RowC)(t:Int),vs=[.ref l,.int (j:Int),.int n]/\aG ok H (.ref l) (.list (cs.map iB))/\iC cs/\cs[j]?=GE c/\fJ c=false/\dG c j n=GE t/\∀H',Same H H'->Q (.int t) H'
def acU(Pt:Bool):Sp:=λvs H Q _=>∃(l:ID)(ok:ID->Prop)(cs:List RowC)(n:Int),vs=[.ref l,.int n]/\aG ok H (.ref l) (.list (cs.map iB))/\iC cs/\(Pt=true->∃lab,(runOf cs n).1=GE lab) /\
 ∀(t ld:ID) H',Same H H'->H t=GT->H ld=GT->t≠ld->H' t=GE (.tup [abL (runOf cs n).1,.ref ld])->H' ld=GE (.lst ((runOf cs n).2.map As))->(runOf cs n).2.length<=cs.length->Q (.ref t) H'
def jg:RowC->ID->List V
 | .one n t,_=>[.str "is",.int n,.int t]
 | .rng a b t,_=>[.str "within",.int a,.int b,.int t]
 | .low n t,_=>[.str "below",.int n,.int t]
 | .msk lo wd bits t,_=>[.str "mask",.int lo,.int wd,.int bits,.int t]
 | .tab lo _,g=>[.str "table",.int lo,.ref g]
 | .pik l,_=>[.str "pick",.int l]
def ux(H:Hp)(x:V)(c:RowC):Prop:=∃a g,x=.ref a/\H a=GE (.tup (jg c g))/\∀lo gs,c=.tab lo gs->H g=GE (.tup (gs.map As))
def scV:A9->Option V
 | .int i=>GE (.int i)
 | .str z=>GE (.str z)
 | _=>GT
theorem aG.sc{ok:ID->Prop}{H:Hp}{x v:V}{d:A9}(t:aG ok H x d)(h:scV d=GE v):x=v:=by
 cases t with
 | int i=>exact A0 h
 | str z=>exact A0 h
 | _=>cases h
theorem aN.sc{ok:ID->Prop}{H:Hp}:∀{xs vs:List V}{ds:List A9},aN ok H xs ds->ds.map scV=vs.map GE->xs=vs
 | _,[],_,.nil,_=>rfl
 | _,v::vs,_,.nil,h=>by cases h
 | _,[],_,.cons _ _,h=>by cases h
 | _,v::vs,_,.cons t ts,h=>by
  rw[DI,DI] at h;injection h with h1 h2;rw[t.sc h1,ts.sc h2]
theorem aN.N8{ok:ID->Prop}{H:Hp}{xs:List V}{d:A9}{ds:List A9}(t:aN ok H xs (d::ds)):∃x r,xs=x::r/\aG ok H x d/\aN ok H r ds:=by
 cases t with
 | cons h r=>exact⟨_,_,rfl,h,r⟩
theorem aG.Cy{ok:ID->Prop}{H:Hp}{x:V}{ds:List A9}(t:aG ok H x (.tuple ds)):∃p xs,x=.ref p/\H p=GE (.tup xs)/\aN ok H xs ds:=by
 cases t with
 | tup o e z ts=>exact⟨_,_,rfl,e,ts⟩
theorem aG.row{ok:ID->Prop}{H:Hp}{x:V}{c:RowC}(t:aG ok H x (iB c)):ux H x c:=by
 cases c with
 | tab lo gs=>
  obtain⟨p,xs,rfl,e,ts⟩:=aG.Cy t;obtain⟨a,b,g,rfl,h1,h2,h3⟩:∃a b g,xs=[a,b,g]/\aG ok H a (.str "table")/\aG ok H b (.int lo)/\aG ok H g (.tuple (gs.map A9.int)):=by
   obtain⟨a,r,rfl,h1,ts⟩:=ts.N8;obtain⟨b,r,rfl,h2,ts⟩:=ts.N8;obtain⟨g,r,rfl,h3,ts⟩:=ts.N8;have:=ts.length;have hr:r=[]:=BQ.mp this;exact⟨a,b,g,by rw[hr],h1,h2,h3⟩
  obtain⟨q,ys,rfl,e2,YR⟩:=aG.Cy h3;rw[h1.sc rfl,h2.sc rfl] at e;refine⟨p,q,rfl,e,λlo' gs' z=>?_⟩;cases z;rw[<- YR.sc (vs:=gs.map As) (by rw[IG,IG];rfl)];exact e2
 | one n t'=>
  obtain⟨p,xs,rfl,e,ts⟩:=aG.Cy t;exact⟨p,0,rfl,by rw[e,ts.sc (vs:=[.str "is",.int n,.int t']) rfl];rfl,λ_ _ z=>nomatch z⟩
 | rng a b t'=>
  obtain⟨p,xs,rfl,e,ts⟩:=aG.Cy t;exact⟨p,0,rfl,by rw[e,ts.sc (vs:=[.str "within",.int a,.int b,.int t']) rfl];rfl,λ_ _ z=>nomatch z⟩
 | low n t'=>
  obtain⟨p,xs,rfl,e,ts⟩:=aG.Cy t;exact⟨p,0,rfl,by rw[e,ts.sc (vs:=[.str "below",.int n,.int t']) rfl];rfl,λ_ _ z=>nomatch z⟩
 | msk lo wd bits t'=>
  obtain⟨p,xs,rfl,e,ts⟩:=aG.Cy t;exact⟨p,0,rfl,by rw[e,ts.sc (vs:=[.str "mask",.int lo,.int wd,.int bits,.int t']) rfl];rfl,λ_ _ z=>nomatch z⟩
 | pik l=>
  obtain⟨p,xs,rfl,e,ts⟩:=aG.Cy t;exact⟨p,0,rfl,by rw[e,ts.sc (vs:=[.str "pick",.int l]) rfl];rfl,λ_ _ z=>nomatch z⟩
theorem aN.row{ok:ID->Prop}{cs:List RowC}(t:aN ok H xs (cs.map iB)){c:RowC}(hc:cs[j]?=GE c):∃x,xs[j]?=GE x/\ux H x c:=by
 have hl:=t.length;rw[AI] at hl;have hj:=(AB.mp hc).1;have hx:xs[j]?=GE xs[j]:=AC ω;obtain⟨d,hd,td⟩:=t.get hx;rw[AZ,hc] at hd;cases hd;exact⟨_,hx,td.row⟩
theorem ux.same{x:V}{c:RowC}(h:ux H x c)(s:Same H H'):ux H' x c:=by
 obtain⟨a,g,e,h1,h2⟩:=h;exact⟨a,g,e,s _ _ h1,λlo gs hh=>s _ _ (h2 lo gs hh)⟩
def Bk:RowC->Option (Int×Int)
 | .msk lo wd _ _=>GE (lo,lo+wd-1)
 | .tab lo gs=>GE (lo,lo+gs.length-1)
 | _=>GT
def Oi:Sp:=λvs H Q _=>∃x c,vs=[x]/\ux H x c/\(Bk c=GT->Q .non H)/\∀lo hi,Bk c=GE (lo,hi)->∀p,H p=GT->Q (.ref p) (upd H p (.tup [.int lo,.int hi]))
def Es(c:RowC)(n:Int):Bool:=match c with
 | .one a _=>decide (n=a)
 | .rng a b _=>decide (a<=n)&&decide (n<=b)
 | .low a _=>decide (n<a)
 | .msk lo _ bits _=>bitAt bits (n-lo)
 | _=>false
def afF:RowC->Bool
 | .tab _ _=>true
 | _=>false
def Rm:Sp:=λvs H Q _=>∃x c n,vs=[x,.int n]/\ux H x c/\fJ c=false/\afF c=false/\(∀lo wd bits t,c=.msk lo wd bits t->0<=n-lo)/\Q (.bl (Es c n)) H
def μRun(m:Nat):St->Nat
 | _::_::GE (.int a)::_=>m-a.toNat
 | _=>0
def mK:RowC->Str
 | .one _ _ => "is"
 | .rng _ _ _ => "within"
 | .low _ _ => "below"
 | .msk _ _ _ _ => "mask"
 | .tab _ _ => "table"
 | .pik _ => "pick"
theorem yc(c:RowC)(g:ID):atI (jg c g) 0=GE (At (mK c)):=by cases c <;> rfl
theorem Kv{c:RowC}(h:fJ c=false):mK c ≠ "pick" := by
 cases c with
 | pik l=>cases h
 | one a b=>exact(by decide +kernel:("is" : Str) ≠ "pick")
 | rng a b c=>exact(by decide +kernel:("within" : Str) ≠ "pick")
 | low a b=>exact(by decide +kernel:("below" : Str) ≠ "pick")
 | msk a b c d=>exact(by decide +kernel:("mask" : Str) ≠ "pick")
 | tab a b=>exact(by decide +kernel:("table" : Str) ≠ "pick")
theorem aau{c:TT}(m:Nat)(Pv:Nat->St->Hp->Prop)(j0:Nat)(h0:Pv j0 σ H)
  (hs:∀j σ H,Pv j σ H->c σ H λb H1=>if b=true then ∃N:St->Hp->Prop,(∀σ' H',N σ' H'->∃m',m'<m-j/\∃j',m'=m-j'/\Pv j' σ' H')/\tb { D with nx:=N,ct:=N,bk:=D.nx } σ H1 else D.nx σ H1):Cz c tb D σ H:=
 ⟨λk σ H=>∃j,k=m-j/\Pv j σ H,⟨_,j0,rfl,h0⟩,by rintro k σ H ⟨j,rfl,p⟩;exact hs j σ H p⟩
theorem Vd(pre:List Int)(j:Int):atI ((pre++[j]).map As) (-1)=GE (As j):=by
 unfold atI ixN;rw[if_neg δ,if_pos (by rw[AI,AN,AQ];omega)];show((pre++[j]).map As)[_]?=_;rw[show(-1+(((pre++[j]).map As).length:Int)).toNat=pre.length by rw[AI,AN,AQ];omega,AZ,BF (AW _),HR];rfl
section
variable{o:Expr}
def ppq(ob:Option HO)(l:ID)(H:Hp)(Q:VK):Prop:=match ob with
 | some (.lst xs)=>∃y,xs[xs.length-1]?=GE y/\Q y (upd H l (.lst xs.dropLast))
 | _=>False
def ppK(x:V)(H:Hp)(Q:VK):Prop:=match x with
 | .ref l=>ppq (H l) l H Q
 | _=>False
def Wv(to:TE):TE:=λσ H Q=>to σ H λx H1=>ppK x H1 Q
theorem Wu(to:TE)(σ:St)(H:Hp)(Q:VK):Wv to σ H Q=to σ H λx H1=>ppK x H1 Q:=rfl
theorem abo(l:ID)(H:Hp)(Q:VK):ppK (.ref l) H Q=ppq (H l) l H Q:=rfl
theorem abn(xs:List V)(l:ID)(H:Hp)(Q:VK):ppq (GE (.lst xs)) l H Q=∃y,xs[xs.length-1]?=GE y/\Q y (upd H l (.lst xs.dropLast)):=rfl
theorem JH(ho:QE X o to)(bo:Ev o "pop" X.env (eval o X.env)=eval o X.env:=by rfl)(bn:(aw.endLine == ai.line)=true:=by rfl) :
  QE X (.Call (.Attribute o "pop" aw) [] [] ai) (Wv to):=⟨by
 intro aa s σ H Q I h;refine wpAny_Call_method0_late bo bn (thE (ho.h aa s σ H _ I h) λv s1 x H1 I1 r1 q=>?_);cases x with
 | ref l=>
  replace q:ppq (H1 l) l H1 Q:=q;cases el:H1 l with
  | none=>rw[el] at q;exact q.elim
  | some ob=>
   cases ob with
   | lst xs=>
    rw[el] at q;obtain⟨y,hy,q⟩:=q;obtain⟨h1,h2⟩:=Jg (T := "list") I1 r1 (.inl ⟨rfl,xs,SqL.of el⟩);exact⟨"list","list.pop",FR,PySem.F.slot_list_pop,PySem.F.type_list_pop,h1,h2,DJ Z (PySem.evalArgs_none (aer aa s1 σ H1 (.ref l) [] v [] Q I1 r1 .nil ⟨l,xs,y,rfl,rfl,el,hy,q⟩))⟩
   | _=>rw[el] at q;exact q.elim
 | _=>exact q.elim⟩
theorem JF{x:Str}{ti:TIp}(h:Nm X.N X.env.scope i x)(hN:X.N.Nodup)(he:QE X e te)(ho:PIp X op ti)(hf:X.fn x=true\/X.env.scope.names.lookup x=GE .local:=by exact .inl Z) :
  QS X (.AugAssign (.Name x aT) op e pos) (adh i te ti):=⟨adR hN h.hN h.hv he.h ho hf⟩
def ints1(H:Hp)(p:ID)(is:List Int):Prop:=H p=GE (.lst (is.map As))\/H p=GE (.tup (is.map As))
theorem j7(r:Vals (is.map As) ae)(i:Nat)(v:Ap)(h:ae.toArray[i]?=GE v):∃t,v=Do (is.getD i 0) t:=by
 have hl:=r.length;rw[AI] at hl;have hi:i<ae.length:=by
  rcases Fu i ae.length with z|z
  ·exact z
  rw[GA,FD z] at h;cases h
 have hx:(is.map As)[i]?=GE (As (is.getD i 0)):=by
  rw[AZ,AC ω,EE,AC ω];rfl
 obtain⟨u,hu,ru⟩:=r.get hx;rw[GA,hu] at h;cases h;exact ru
theorem VD(hc:X.calm=true):eY X (.builtin "min") (λxs H Q=>∃p is,xs=[.ref p]/\ints1 H p is/\is≠[]/\∀M,M∈is->(∀a∈is,M<=a)->Q (.int M) H):=by
 intro aa s σ H xs us Q I r h;obtain⟨p,is,rfl,hp,a7,q⟩:=h;obtain⟨u,rfl,rv⟩:=vals1 r;cases rv;have f':0<is.length:=D3.mpr a7;have fin:∀{ae:List Ap}(eh:Vals (is.map As) ae) (v:Ap) (h':Heap) (tk:Nat),ae.toArray[argBest (λi j=>decide (is.getD i 0<is.getD j 0)) (ae.toArray.size-1)]?=GE v->Inv X aa σ H { s with heap:=h',toks:=tk }->EP X aa σ Q v { s with heap:=h',toks:=tk }:=λ{ae} eh v h' tk hv I3=>by
  have hl:=eh.length;rw[AI] at hl;obtain⟨t,rfl⟩:=j7 eh _ v hv;have hb:=argBest_lt (λi=>is.getD i 0) (ae.toArray.size-1);rw[AY] at hb |-;refine⟨.int _,H,I3,⟨_,rfl⟩,q _ ?_ ?_⟩
  ·rw[EE,AC ω];exact Ee _
  intro a ha;obtain⟨j,hj,e⟩:=D7.mp ha;have:=hb.2 j ω;rw[show is.getD j 0=a by rw[EE,AC hj];exact e] at this;exact this
 have kept:∀{ob:Obj}{h':Heap}{tk:Nat},(∀(b:ID)(o:Obj),¬b∈[s.heap.objs.size]->(s.heap.push ob).get? b=GE o->h'.get? b=GE o)->Inv X aa σ H { s with heap:=h',toks:=tk }:=λ{ob h' tk} hk=>
  I.kept (t':=tk) λb o e=>hk b o (λz=>BS (Bz e) (AA.mp z)) (AH _ e)
 rcases hp with hp|hp
 ·obtain⟨ae,eh,pl,hz⟩:=I.list (SqL.of hp);have hl:=eh.length;rw[AI] at hl;have hX:s.heap.IsList p ae.toArray:=pl.isList;have ba:p<s.heap.objs.size:=by obtain⟨_,e,_⟩:=hX;exact Bz e
  refine call_min_walk (Fc hX ?_);refine⟨s.heap.objs.size,_,_,_,_,_,_,rfl,Walks.list (A:=X.A.in1) (I.ok.hd hc) s.heap.objs.size p (BS ba) ae.toArray,?_,λb hb=>?_,?_,CmpOf.ints_lt (λi=>is.getD i 0) λi v hv=>j7 eh i v hv,λv h' tk hv hk=>fin eh v h' tk hv (kept hk)⟩
  ·obtain⟨ob,e,r⟩:=hX;exact⟨⟨_,A7 _ rfl,rfl,rfl⟩,ob,AH _ e,r⟩
  ·rw[DU];simp only[AL,BC,or_false] at hb;rcases hb with rfl|rfl
   ·exact CF _
   exact DE ba
  rw[AY];omega
 obtain⟨ae,eh,pl,hz⟩:=I.tuple (SqT.of hp);have hl:=eh.length;rw[AI] at hl;have hX:s.heap.IsTuple p ae.toArray:=pl;have ba:p<s.heap.objs.size:=by obtain⟨_,e,_⟩:=hX;exact Bz e
 refine call_min_walk (G2 hX ?_);refine⟨s.heap.objs.size,_,_,_,_,_,_,rfl,Walks.tuple (A:=X.A.in1) (I.ok.hd hc) s.heap.objs.size p (BS ba) ae.toArray,?_,λb hb=>?_,?_,CmpOf.ints_lt (λi=>is.getD i 0) λi v hv=>j7 eh i v hv,λv h' tk hv hk=>fin eh v h' tk hv (kept hk)⟩
 ·obtain⟨ob,e,r⟩:=hX;exact⟨⟨_,A7 _ rfl,rfl,rfl⟩,ob,AH _ e,r⟩
 ·rw[DU];simp only[AL,BC,or_false] at hb;rcases hb with rfl|rfl
  ·exact CF _
  exact DE ba
 rw[AY];omega
theorem VG(hc:X.calm=true):eY X (.builtin "max") (λxs H Q=>∃p is,xs=[.ref p]/\ints1 H p is/\is≠[]/\∀M,M∈is->(∀a∈is,a<=M)->Q (.int M) H):=by
 intro aa s σ H xs us Q I r h;obtain⟨p,is,rfl,hp,a7,q⟩:=h;obtain⟨u,rfl,rv⟩:=vals1 r;cases rv;have f':0<is.length:=D3.mpr a7;have fin:∀{ae:List Ap}(eh:Vals (is.map As) ae) (v:Ap) (h':Heap) (tk:Nat),ae.toArray[argBest (λi j=>decide (is.getD i 0>is.getD j 0)) (ae.toArray.size-1)]?=GE v->Inv X aa σ H { s with heap:=h',toks:=tk }->EP X aa σ Q v { s with heap:=h',toks:=tk }:=λ{ae} eh v h' tk hv I3=>by
  have hl:=eh.length;rw[AI] at hl;obtain⟨t,rfl⟩:=j7 eh _ v hv;have hb:=argBest_gt (λi=>is.getD i 0) (ae.toArray.size-1);rw[AY] at hb |-;refine⟨.int _,H,I3,⟨_,rfl⟩,q _ ?_ ?_⟩
  ·rw[EE,AC ω];exact Ee _
  intro a ha;obtain⟨j,hj,e⟩:=D7.mp ha;have:=hb.2 j ω;rw[show is.getD j 0=a by rw[EE,AC hj];exact e] at this;exact this
 have kept:∀{ob:Obj}{h':Heap}{tk:Nat},(∀(b:ID)(o:Obj),¬b∈[s.heap.objs.size]->(s.heap.push ob).get? b=GE o->h'.get? b=GE o)->Inv X aa σ H { s with heap:=h',toks:=tk }:=λ{ob h' tk} hk=>
  I.kept (t':=tk) λb o e=>hk b o (λz=>BS (Bz e) (AA.mp z)) (AH _ e)
 rcases hp with hp|hp
 ·obtain⟨ae,eh,pl,hz⟩:=I.list (SqL.of hp);have hl:=eh.length;rw[AI] at hl;have hX:s.heap.IsList p ae.toArray:=pl.isList;have ba:p<s.heap.objs.size:=by obtain⟨_,e,_⟩:=hX;exact Bz e
  refine call_max_walk (Fc hX ?_);refine⟨s.heap.objs.size,_,_,_,_,_,_,rfl,Walks.list (A:=X.A.in1) (I.ok.hd hc) s.heap.objs.size p (BS ba) ae.toArray,?_,λb hb=>?_,?_,CmpOf.ints_gt (λi=>is.getD i 0) λi v hv=>j7 eh i v hv,λv h' tk hv hk=>fin eh v h' tk hv (kept hk)⟩
  ·obtain⟨ob,e,r⟩:=hX;exact⟨⟨_,A7 _ rfl,rfl,rfl⟩,ob,AH _ e,r⟩
  ·rw[DU];simp only[AL,BC,or_false] at hb;rcases hb with rfl|rfl
   ·exact CF _
   exact DE ba
  rw[AY];omega
 obtain⟨ae,eh,pl,hz⟩:=I.tuple (SqT.of hp);have hl:=eh.length;rw[AI] at hl;have hX:s.heap.IsTuple p ae.toArray:=pl;have ba:p<s.heap.objs.size:=by obtain⟨_,e,_⟩:=hX;exact Bz e
 refine call_max_walk (G2 hX ?_);refine⟨s.heap.objs.size,_,_,_,_,_,_,rfl,Walks.tuple (A:=X.A.in1) (I.ok.hd hc) s.heap.objs.size p (BS ba) ae.toArray,?_,λb hb=>?_,?_,CmpOf.ints_gt (λi=>is.getD i 0) λi v hv=>j7 eh i v hv,λv h' tk hv hk=>fin eh v h' tk hv (kept hk)⟩
 ·obtain⟨ob,e,r⟩:=hX;exact⟨⟨_,A7 _ rfl,rfl,rfl⟩,ob,AH _ e,r⟩
 ·rw[DU];simp only[AL,BC,or_false] at hb;rcases hb with rfl|rfl
  ·exact CF _
  exact DE ba
 rw[AY];omega
def Og(ta:TA):TE:=λσ H Q=>ta σ H λvs H1=>∃j:Int,vs=[.int j]/\(-(2^62)<=j/\j<2^62)/\(j-0).toNat<=AV/\∀p,H1 p=GT->Q (.ref p) (upd H1 p (.lst (Di 0 (j-0).toNat)))
theorem Dk{a:Expr}{p:Pos}(hc:X.calm=true)(nE:Gl X "list")(tP:X.mg "list" = GT)(hg:Gl X "range")(hm:X.mg "range" = GT)(ha:QA X [a] ta)
  (hs:AM [a] X.env=[(false,eval a X.env)]:=by rfl)
  (he:AM [.Call (.Name "range" p2) [a] [] pos2] X.env=[(false,eval (.Call (.Name "range" p2) [a] [] pos2) X.env)]:=by rfl) :
  QE X (.Call (.Name "list" p) [.Call (.Name "range" p2) [a] [] pos2] [] pos) (Og ta):=⟨by
 intro aa s σ H Q I h;refine EX (mF I nE tP boot_list ?_ δ δ);refine Ch ?_ he rfl;rw[he];show AO _ _ (spliced ((false,eval (.Call (.Name "range" p2) [a] [] pos2) X.env)::[])) _ _ s;refine CD ?_;refine Call_ (mF I hg hm boot_range (Ch (thA (ha.h pos2 aa s σ H _ I h) λus s1 vs H1 I1 r1 q1=>?_) hs Z));obtain⟨j,e,⟨q3,q4⟩,hz,q⟩:=q1;have q1:(-(2^62):Int)<=0:=by decide
 have q2:(0:Int)<2^62:=by decide
 subst e;cases r1 with
 | cons r' rr=>
  cases rr;obtain⟨t',rfl⟩:=r';refine call_range_1 (DF ?_);refine call_list_range (n:=(j-0).toNat) (I1.ok.hd hc) (IsRange.new ..) (small_one q1 q2 q3 q4) (by rw[rangeSize_one];split <;> omega) (Cn hz aez) λh' tk fc c' kp e it=>?_
  have I2:Inv X aa σ H1 { s1 with heap:=s1.heap.push { cls:=.type "range",data:=.fields #[.int 0 s1.toks,.int j t',.int 1 (s1.toks+1)] },toks:=s1.toks+1+1 }:=I1.kept λb o e=>AH _ e;have hf:H1 (s1.heap.push { cls:=.type "range",data:=.fields #[.int 0 s1.toks,.int j t',.int 1 (s1.toks+1)] }).objs.size=GT:=I2.hok.fresh (AW _);refine⟨.ref _,_,I2.laid (t':=tk) kp (AW _) (show cR X.prog X.w _ h' _ (.lst (Di 0 (j-0).toNat)) from⟨?_,fc.toList,c',?_,by simpa using e⟩),rfl,q _ hf⟩
  ·simpa [Di] using hz
  obtain⟨it1,it2⟩:=it;refine QZ (by simp[Di,it1]) λk x u h1 h2=>?_;have j5:fc[k]?=GE u:=by simpa using h2
  obtain⟨t9,rfl⟩:=it2 k u j5;unfold Di at h1;rw[AZ] at h1;have hk:k<(j-0).toNat:=by
   rcases Fu k (j-0).toNat with z|z
   ·exact z
   rw[FD (by simpa using z)] at h1;cases h1
  rw[List.getElem?_range hk] at h1;cases h1;exact⟨t9,by rw[Int.mul_one]⟩⟩
theorem N5{ws:List Str}(r:Vals (ws.map At) ae)(h:ae[i]?=GE v):∃w t,ws[i]?=GE w/\v=Ap.str w t:=by
 have hl:=r.length;rw[AI] at hl;have hi:=(AB.mp h).1;have hx:(ws.map At)[i]?=GE (At ws[i]):=by rw[AZ,AC ω];rfl
 obtain⟨u,hu,ru⟩:=r.get hx;rw[hu] at h;cases h;obtain⟨t,rfl⟩:=ru;exact⟨ws[i],t,AC ω,rfl⟩
end
inductive Pl where
 | pick (l:Int)
 | one (k:Nat) (r:Pl)
 | wit (k:Nat) (r:Pl)
 | low (k:Nat) (a b:Pl)
 | msk (l:Int) (r:Pl)
 | tab
def plD:Pl->A9
 | .pick l=>.tuple [.str "pick",.int l]
 | .one k r=>.tuple [.str "is",.int (k:Int),plD r]
 | .wit k r=>.tuple [.str "within",.int (k:Int),plD r]
 | .low k a b=>.tuple [.str "below",.int (k:Int),plD a,plD b]
 | .msk l r=>.tuple [.str "mask",.int l,plD r]
 | .tab=>.tuple [.str "table"]
def Dq:Pl->Nat
 | .pick _=>0
 | .one _ r=>Dq r+1
 | .wit _ r=>Dq r+1
 | .low _ a b=>max (Dq a) (Dq b)+1
 | .msk _ r=>Dq r+1
 | .tab=>0
def aW:Pl->Nat
 | .pick _=>1
 | .one _ r=>aW r+1
 | .wit _ r=>aW r+1
 | .low _ a b=>aW a+aW b+1
 | .msk _ r=>aW r+1
 | .tab=>1
abbrev Sts:=List (Int×Int×Int)
def aO(ss:Sts)(k:Nat):Int×Int×Int:=ss.getD k (0,0,0)
structure Lf(ss:Sts)(left:List Nat):Prop where
 ne:left≠[]
 lt:∀k∈left,k<ss.length
 up:left.Pairwise (· < ·)
def kids(ss:Sts):Pl->List Nat->List (List Nat×Pl)
 | .pick _,_=>[]
 | .tab,_=>[]
 | .one k r,left=>[(left.filter (·≠k),r)]
 | .wit k r,left=>[(left.filter (·≠k),r)]
 | .low k a b,left=>[(left.filter (· < k),a),(left.filter (k<=·),b)]
 | .msk l r,left=>[(left.filter λk=>(aO ss k).2.2≠l,r)]
def xH(ss:Sts):Pl->List Nat->Prop
 | .pick _,left=>Lf ss left
 | .tab,left=>Lf ss left
 | .one k r,left=>Lf ss left/\xH ss r (left.filter (·≠k))
 | .wit k r,left=>Lf ss left/\xH ss r (left.filter (·≠k))
 | .low k a b,left=>Lf ss left/\xH ss a (left.filter (· < k))/\xH ss b (left.filter (k<=·))
 | .msk l r,left=>Lf ss left/\xH ss r (left.filter λk=>(aO ss k).2.2≠l)
theorem xH.lf{ss:Sts}{p:Pl}{left:List Nat}(h:xH ss p left):Lf ss left:=by
 cases p with
 | pick l=>exact h
 | tab=>exact h
 | one k r=>exact h.1
 | wit k r=>exact h.1
 | low k a b=>exact h.1
 | msk l r=>exact h.1
theorem xH.kids{ss:Sts}{p:Pl}{left:List Nat}(h:xH ss p left):∀x∈kids ss p left,xH ss x.2 x.1:=by
 intro x hx;cases p with
 | pick l=>cases hx
 | tab=>cases hx
 | one k r=>rw[AA.mp hx];exact h.2
 | wit k r=>rw[AA.mp hx];exact h.2
 | low k a b=>
  rcases AL.mp hx with rfl|hx
  ·exact h.2.1
  rw[AA.mp hx];exact h.2.2
 | msk l r=>rw[AA.mp hx];exact h.2
def jw(W:List (List Nat×Pl)):Nat:=(W.map λx=>aW x.2).sum
theorem lF(A B:List (List Nat×Pl)):jw (A++B)=jw A+jw B:=by
 unfold jw;rw[BH,List.sum_append]
theorem xO(ss:Sts)(p:Pl)(left:List Nat):jw (kids ss p left)<aW p:=by
 cases p <;> simp[jw,kids,aW]
def oF(left:List Nat):A9:=.list (left.map λ(k:Nat)=>.int (k:Int))
def wD(x:List Nat×Pl):A9:=.tuple [oF x.1,plD x.2]
def dN(ss:Sts)(left:List Nat):Int:=(aO ss (left.getLast?.getD 0)).2.1-(aO ss (left.head?.getD 0)).1+1
def rP:Sp:=λvs H Q _=>∃(s l:V)(ok:ID->Prop)(ss:Sts)(left:List Nat),vs=[s,l]/\aG ok H s (.list (ss.map stD))/\aG ok H l (oF left)/\Lf ss left/\Q (.int (dN ss left)) H
theorem yQ{k:Nat}:∀{left:List Nat},left.Pairwise (· < ·)->left.drop (left.filter (· < k)).length=left.filter (k<=·)
 | [],_=>rfl
 | a::left,h=>by
  rw[B4] at h;by_cases ha:a<k
  ·rw[DV (by simpa using ha),DZ (by simpa using ha),BG,List.drop_succ_cons];exact yQ h.2
  have h1:left.filter (· < k)=[]:=List.filter_eq_nil_iff.mpr λb hb=>by have:=h.1 b hb;simp;omega
  have h2:left.filter (k<=·)=left:=List.filter_eq_self.mpr λb hb=>by have:=h.1 b hb;simp;omega
  rw[DZ (by simpa using ha),h1,DV (by simp;omega),h2];rfl
theorem ab6{ok:ID->Prop}{H:Hp}(left:List Nat):aN ok H (left.map λ(k:Nat)=>As (k:Int)) (left.map λ(k:Nat)=>A9.int (k:Int)):=by
 induction left with
 | nil=>exact .nil
 | cons a l ih=>exact .cons (.int _) ih
theorem aN.nats{ok:ID->Prop}{H:Hp}:∀{xs:List V}{left:List Nat},aN ok H xs (left.map λ(k:Nat)=>A9.int (k:Int))->xs=left.map λ(k:Nat)=>As (k:Int)
 | _,[],.nil=>rfl
 | _,a::l,.cons h r=>by
  cases h;rw[r.nats];rfl
theorem aG.left{ok:ID->Prop}{H:Hp}{x:V}{left:List Nat}(t:aG ok H x (oF left)):∃a,x=.ref a/\ok a/\H a=GE (.lst (left.map λ(k:Nat)=>As (k:Int)))/\left.length<=1000000:=by
 cases t with
 | lst o e z ts=>
  rw[ts.nats] at e z;rw[AI] at z;exact⟨_,rfl,o,e,z⟩
theorem fO{ss:Sts}{k:Nat}(h:k<ss.length):ss[k]?=GE (aO ss k):=by
 unfold aO;rw[EE,AC h];rfl
theorem aN.stN{ok:ID->Prop}{ss:Sts}(t:aN ok H xs (ss.map stD)){k:Nat}(h:k<ss.length):∃a,atI xs (k:Int)=GE (.ref a)/\H a=GE (.tup [.int (aO ss k).1,.int (aO ss k).2.1,.int (aO ss k).2.2]):=by
 have hl:=t.length;rw[AI] at hl;have hx:xs[k]?=GE xs[k]:=AC ω;obtain⟨a,s,h1,_,h2,h3⟩:=t.st hx;rw[fO h] at h2;cases h2;refine⟨a,?_,h3⟩;rw[<- h1];exact bO hx
def nv(left:List Nat):List V:=left.map λ(k:Nat)=>As (k:Int)
theorem gB(left:List Nat):(nv left).length=left.length:=by unfold nv;rw[AI]
theorem YH{left:List Nat}{i:Nat}{x:V}(h:(nv left)[i]?=GE x):∃k,left[i]?=GE k/\x=.int (k:Int):=by
 unfold nv at h;rw[AZ] at h;cases e:left[i]? with
 | none=>rw[e] at h;cases h
 | some k=>rw[e] at h;cases h;exact⟨k,rfl,rfl⟩
theorem JN{left:List Nat}(h:left≠[]):∃k,left.getLast?=GE k/\k∈left/\atI (nv left) (-1)=GE (.int (k:Int)):=by
 obtain⟨a,b,rfl⟩:=kJ left (D3.mpr h);refine⟨b,by simp,by simp,?_⟩;have:=Vd (a.map λ(k:Nat)=>(k:Int)) (b:Int);unfold nv;rw[show((a++[b]).map λ(k:Nat)=>As (k:Int))=((a.map λ(k:Nat)=>(k:Int))++[(b:Int)]).map As by simp];exact this
theorem Ce{left:List Nat}(h:left≠[]):∃k,left.head?=GE k/\k∈left/\atI (nv left) 0=GE (.int (k:Int)):=by
 cases left with
 | nil=>exact absurd rfl h
 | cons a l=>exact⟨a,rfl,AJ,bO (j:=0) (show(nv (a::l))[0]?=_ from rfl)⟩
theorem Ij{left:List Nat}{P:Nat->Bool}{i k:Nat}(h:left[i]?=GE k):(left.take (i+1)).filter P=(left.take i).filter P++(if P k=true then [k] else []):=by
 rw[take_snoc h,HL];cases hp:P k with
 | true=>rw[DV hp];rfl
 | false=>rw[DZ (by rw[hp];decide)];rfl
theorem Pa(a b:List Nat):nv (a++b)=nv a++nv b:=by unfold nv;rw[BH]
theorem dB{ok:ID->Prop}{left:List Nat}(h:ok a)(e:H a=GE (.lst (nv left)))(hl:left.length<=1000000):aG ok H (.ref a) (oF left):=.lst h e (by rw[gB];exact hl) (ab6 left)
theorem kW{Q:VK}{left:List Nat}(P:Nat->Bool)(kr:St->Prop)(hR:R=NZ mp g tc te σ Q)(e:H a=GE (.lst (nv left)))(hz:left.length<=1000000)(h0:kr (rM mp σ))
  (hs:∀(i k:Nat) τ (ac:List V) (Pn:List V->St->Hp->Prop),left[i]?=GE k->kr τ->(P k=true->∀τ1,kr τ1->Pn (ac++[As (k:Int)]) τ1 H)->(P k=false->∀τ1,kr τ1->Pn ac τ1 H)->g (.int (k:Int)) τ H λτ1 H4=>tc τ1 H4 λb H5=>if b=true then te τ1 H5 λv H6=>Pn (ac++[v]) τ1 H6 else Pn ac τ1 H5)
  (hd:∀d,H d=GT->Q (.ref d) (upd H d (.lst (nv (left.filter P))))):R (Itl K a) H:=by
 refine Ag hR (xs:=nv left) (aR (by rw[gB];exact hz)) (λi ac τ H'=>H'=H/\ac=nv ((left.take i).filter P)/\kr τ) ⟨rfl,rfl,h0⟩ ?_ ?_ ?_ ?_
 ·rintro i ac τ H' ⟨_,rfl,_⟩;rw[gB];exact Cn (D0 _ _) (JU _ _)
 ·rintro i ac τ H' ⟨rfl,_,_⟩;exact SqL.of e
 ·rintro i x ac τ H' hx ⟨rfl,rfl,ht⟩;obtain⟨k,hk,rfl⟩:=YH hx;refine hs i k τ _ (λac τ H1=>H1=H'/\ac=nv ((left.take (i+1)).filter P)/\kr τ) hk ht (λhp τ1 h1=>⟨rfl,?_,h1⟩) (λhp τ1 h1=>⟨rfl,?_,h1⟩)
  ·rw[Ij hk,Pa,if_pos hp];rfl
  rw[Ij hk,if_neg (by rw[hp];decide),DH]
 rintro ac τ H' d ⟨rfl,rfl,_⟩ hdn;rw[F5 (by rw[gB];exact AW _)];exact hd d hdn
theorem Fv(xs:List V)(n:Nat)(h:n<=xs.length):oK xs (GE (n:Int)) GT=xs.drop n:=by
 unfold oK;have e1:HT.sIx xs.length 0 (GE (n:Int))=n:=by
  simp only[HT.sIx];split
  ·omega
  omega
 have e2:HT.sIx xs.length xs.length GT=xs.length:=by simp[HT.sIx]
 rw[e1,e2];exact F5 (by rw[Fm];exact AW _)
theorem Vx{left:List Nat}{k:Nat}(h:left.Pairwise (· < ·)):oK (nv left) (GE ((left.filter (· < k)).length:Int)) GT=nv (left.filter (k<=·)):=by
 rw[Fv _ _ (by rw[gB];exact D0 _ _),<- yQ h];unfold nv;rw[map_drop]
theorem YK{ok:ID->Prop}{b:ID}{o1 o2:HO}(hn:iD ok H)(s:Same H H2)(h1:H2 a=GE o1)(h2:H2 b=GE o2):iD (λx=>ok x/\x≠a/\x≠b) H2:=λH' q s' hq=>by
 refine⟨hn H' q (s.trans s') hq,λz=>?_,λz=>?_⟩
 ·rw[z,s' _ _ h1] at hq;cases hq
 rw[z,s' _ _ h2] at hq;cases hq
theorem aN.dropLast{ok:ID->Prop}{ds:List A9}{d:A9}(t:aN ok H xs (ds++[d])):aN ok H xs.dropLast ds/\∃y,xs[xs.length-1]?=GE y/\aG ok H y d:=by
 have hl:=t.length;rw[AN,AQ] at hl;constructor
 ·have:=t.take ds.length;rw[List.take_left,show xs.take ds.length=xs.dropLast by rw[List.dropLast_eq_take,hl,Ha]] at this;exact this
 have hx:xs[xs.length-1]?=GE xs[xs.length-1]:=AC ω;obtain⟨d',hd,td⟩:=t.get hx;rw[hl,Ha,BF (AW _),HR] at hd;cases hd;exact⟨_,hx,td⟩
theorem RW(W:List (List Nat×Pl)):W.length<=jw W:=by
 induction W with
 | nil=>exact AW _
 | cons x W ih=>
  have h1:1<=aW x.2:=by cases x.2 <;> simp[aW]
  have h2:jw (x::W)=aW x.2+jw W:=by simp[jw]
  rw[BG,h2];omega
def dj:Pl->Str
 | .pick _ => "pick"
 | .one _ _ => "is"
 | .wit _ _ => "within"
 | .low _ _ _ => "below"
 | .msk _ _ => "mask"
 | .tab => "table"
def Gn:Pl->Nat
 | .pick _=>0
 | .one _ _=>0
 | .wit _ _=>1
 | .low _ _ _=>2
 | .msk _ _=>3
 | .tab=>4
def Tv:List Str:=["is","within","below","mask","table"]
theorem aG.Dm{ok:ID->Prop}{H:Hp}{x:V}{p:Pl}(t:aG ok H x (plD p)):∃a ys,x=.ref a/\H a=GE (.tup ys)/\atI ys 0=GE (.str (dj p)):=by
 cases p <;> (cases t with
  | tup o e z ts=>
   cases ts with
   | cons t1 ts=>cases t1;exact⟨_,_,rfl,e,bO (j:=0) (show(_::_)[0]?=_ from rfl)⟩)
def W4:Sp:=λvs H Q _=>∃(p:ID)(B:Int),vs=[.ref p]/\cu H p B/\0<=B/\B<=900000 /\
 ∀(m:Int) H',b7 p H H'->cu H' p (B+4)->1<=m->m<=59->Q (.int m) H'
theorem Io{Q:VK}{left:List Nat}(fI:Nat->Int)(kr:St->Prop)(hR:R=NZ mp g tc te σ Q)(e:H a=GE (.lst (nv left)))(hz:left.length<=1000000)(h0:kr (rM mp σ))
  (hs:∀(i k:Nat) τ (ac:List V) (Pn:List V->St->Hp->Prop),left[i]?=GE k->kr τ->(∀τ1,kr τ1->Pn (ac++[As (fI k)]) τ1 H)->g (.int (k:Int)) τ H λτ1 H4=>tc τ1 H4 λb H5=>if b=true then te τ1 H5 λv H6=>Pn (ac++[v]) τ1 H6 else Pn ac τ1 H5)
  (hd:∀d,H d=GT->Q (.ref d) (upd H d (.lst ((left.map fI).map As)))):R (Itl K a) H:=by
 refine Ag hR (xs:=nv left) (aR (by rw[gB];exact hz)) (λi ac τ H'=>H'=H/\ac=((left.take i).map fI).map As/\kr τ) ⟨rfl,rfl,h0⟩ ?_ ?_ ?_ ?_
 ·rintro i ac τ H' ⟨_,rfl,_⟩;rw[AI,AI];exact JU _ _
 ·rintro i ac τ H' ⟨rfl,_,_⟩;exact SqL.of e
 ·rintro i x ac τ H' hx ⟨rfl,rfl,ht⟩;obtain⟨k,hk,rfl⟩:=YH hx;refine hs i k τ _ (λac τ H1=>H1=H'/\ac=((left.take (i+1)).map fI).map As/\kr τ) hk ht (λτ1 h1=>⟨rfl,?_,h1⟩);rw[take_snoc hk,BH,BH];rfl
 rintro ac τ H' d ⟨rfl,rfl,_⟩ hdn;rw[F5 (by rw[gB];exact AW _)];exact hd d hdn
theorem Lf.acr{ss:Sts}{left:List Nat}(lf:Lf ss left){P:Nat->Bool}(h:left.filter P≠[]):Lf ss (left.filter P):=
 ⟨h,λk hk=>lf.lt k (BD.mp hk).1,lf.up.filter _⟩
theorem Ss{left:List Nat}{P:Nat->Bool}{k:Nat}(h:k∈left)(hp:P k=false):(left.filter P).length<left.length:=
 List.length_filter_lt_length_iff_exists.mpr ⟨k,h,by rw[hp];decide⟩
theorem M7(k:Nat):∀left:List Nat,(left.filter (· < k)).length+(left.filter (k<=·)).length=left.length
 | []=>rfl
 | a::left=>by
  have ih:=M7 k left;by_cases h:a<k
  ·rw[DV (by simpa using h),DZ (by simpa using h),BG,BG];omega
  rw[DZ (by simpa using h),DV (by simpa using h),BG,BG];omega
theorem oE{a:α}{l:List α}(h:a∈l):l≠[]:=λz=>by rw[z] at h;cases h
theorem Lf.rest{ss:Sts}{left:List Nat}(lf:Lf ss left)(h2:2<=left.length)(k:Nat):Lf ss (left.filter (·≠k)):=by
 refine lf.acr ?_
 match left,h2,lf with
 | a::b::l,_,lf=>
  have zS:a<b:=(B4.mp lf.up).1 b AJ;by_cases c:a=k
  ·exact oE (BD.mpr ⟨AG _ AJ,by simp;omega⟩:b∈_)
  exact oE (BD.mpr ⟨AJ,by simpa using c⟩:a∈_)
theorem Lf.cuts{ss:Sts}{left:List Nat}(lf:Lf ss left){i k:Nat}(h:left[i+1]?=GE k):k∈left/\Lf ss (left.filter (· < k))/\Lf ss (left.filter (k<=·)):=by
 have hm:=AU h;refine⟨hm,lf.acr ?_,lf.acr (oE (BD.mpr ⟨hm,by simp⟩:k∈_))⟩
 match left,h,lf with
 | a::l,h,lf=>
  rw[Hb] at h;have hak:a<k:=(B4.mp lf.up).1 k (AU h);exact oE (BD.mpr ⟨AJ,by simpa using hak⟩:a∈_)
theorem ac0{left:List Nat}{r:Int}(h0:0<=r)(h1:r<(left.length:Int)):∃k,left[r.toNat]?=GE k/\k∈left/\atI (nv left) r=GE (.int (k:Int)):=by
 obtain⟨i,rfl⟩:=ES h0;have hi:i<left.length:=ω;refine⟨left[i],by rw[B3];exact AC hi,Ee hi,bO ?_⟩;unfold nv;rw[AZ,AC hi];rfl
theorem JQ(l:List Nat):(nv l).all iW=true:=by
 unfold nv;rw[all_map,C7];intro x _;rfl
theorem ael{l:List Nat}(h:l≠[]):eqL (nv l) []=false:=by
 cases l with
 | nil=>exact absurd rfl h
 | cons a l=>rfl
theorem aaW(n:Nat):Di 0 n=nv (AK n):=by
 unfold Di nv;apply JP;intro x _;simp
section
variable{o:Expr}
def agd(xs:List V)(y:V)(n:Nat):Prop:=(∃(is:List Int)(i:Int),xs=is.map As/\y=.int i/\n=is.count i)\/(∃(ws:List Str)(w:Str),xs=ws.map At/\y=.str w/\n=ws.count w)
def acS(K:AE)(to te:TE):TE:=λσ H Q=>to σ H λx H1=>∃(p:ID),x=.ref p/\(∃xs,SqL K H1 p xs)/\te σ H1 λy H2=>∃(xs:List V)(n:Nat),SqL K H2 p xs/\agd xs y n/\Q (.int (n:Nat)) H2
theorem N6{ws:List Int}(r:Vals (ws.map As) ae)(h:ae[i]?=GE v):∃w t,ws[i]?=GE w/\v=Do w t:=by
 have hl:=r.length;rw[AI] at hl;have hi:=(AB.mp h).1;have hx:(ws.map As)[i]?=GE (As ws[i]):=by rw[AZ,AC ω];rfl
 obtain⟨u,hu,ru⟩:=r.get hx;rw[hu] at h;cases h;obtain⟨t,rfl⟩:=ru;exact⟨ws[i],t,AC ω,rfl⟩
def isI(w:Int):Ap->Bool
 | .int z _=>z == w
 | _=>false
def isS(w:Str):Ap->Bool
 | .str z _=>z == w
 | _=>false
theorem cnt_ints(w:Int):∀{is:List Int}{ae:List Ap},Vals (is.map As) ae->ae.countP (isI w)=is.count w
 | [],_,.nil=>rfl
 | i::is,_,.cons r rs=>by
  obtain⟨t,rfl⟩:=r;rw[List.countP_cons,List.count_cons,cnt_ints w rs];rfl
theorem cnt_strs(w:Str):∀{is:List Str}{ae:List Ap},Vals (is.map At) ae->ae.countP (isS w)=is.count w
 | [],_,.nil=>rfl
 | i::is,_,.cons r rs=>by
  obtain⟨t,rfl⟩:=r;rw[List.countP_cons,List.count_cons,cnt_strs w rs];rfl
theorem abE{aw ai:Pos}(hu:X.A.in1.units<E4)(ho:PE X o to)(he:PE X e te)
  (bo:Ev o "count" X.env (eval o X.env)=eval o X.env:=by rfl)
   (eJ:((CY ai (AM [e] X.env)).all (λx=>!x.1)&&(EI ai (C6 [] X.env)).all (λx=>x.1.isSome)
   && decide ([e].length+([]:List EH).length+(if ([]:List EH).isEmpty then 0 else 1)<30))=true:=by rfl)
  (bn:(aw.endLine == ai.line)=true:=by rfl) (hs:AM [e] X.env=(false,eval e X.env)::AM [] X.env:=by rfl) (bm:(CY ai (AM [] X.env)).any (·.1)=false:=by rfl) :
  PE X (.Call (.Attribute o "count" aw) [e] [] ai) (acS X.K to te):=by
 intro aa s σ H Q I h;refine IB bo eJ bn Z (thE (ho aa s σ H _ I h) λv s1 x H1 I1 r1 q=>?_);obtain⟨p,rfl,⟨xs0,hq⟩,q⟩:=q;obtain⟨h1,h2⟩:=Jg (T := "list") I1 r1 (.inl ⟨rfl,_,hq⟩);refine⟨"list","list.count",FR,PySem.F.slot_list_count,PySem.F.type_list_count,h1,h2,?_⟩;rw[hs];refine DJ (by show(false||(CY ai (AM [] X.env)).any (·.1))=false;rw[bm] <;> rfl) (EK ?_)
 refine CD (thn (he aa s1 σ H1 _ I1 q) λu s2 ⟨y,H2,I2,r2,xs,n,VM,hc,q3⟩=>DF ?_);cases r1;obtain⟨ae,rv,pl,hz⟩:=I2.list VM;obtain⟨ob,nn,eo,ec,ed,es⟩:=pl;cases ob with
 | mk cls dict data slots=>
  cases ec;cases es;rcases hc with⟨is,i,rfl,rfl,rfl⟩|⟨ws,w,rfl,rfl,rfl⟩
  ·obtain⟨t,rfl⟩:=r2;refine FH F.slot_list_count ⟨_,eo,rfl⟩ F.entry_list_count (F.args_list_count_2 _ _) (SeqAt.list_countAt p ae.toArray nn _ _ _ (isI i)) ⟨eo,λy hy=>?_,?_⟩
   ·have oP:y∈ae:=by simpa using hy
    obtain⟨m,hm,em⟩:=D7.mp oP;obtain⟨w',t',h1,h2⟩:=N6 rv (AC hm);rw[em] at h2;rw[h2];exact B1.int_int w' t' i t
   rw[show ae.toArray.toList=ae from rfl,cnt_ints i rv];exact⟨.int (is.count i:Nat),H2,I2.tok _,⟨_,rfl⟩,q3⟩
  obtain⟨t,rfl⟩:=r2;refine FH F.slot_list_count ⟨_,eo,rfl⟩ F.entry_list_count (F.args_list_count_2 _ _) (SeqAt.list_countAt p ae.toArray nn _ _ _ (isS w)) ⟨eo,λy hy=>?_,?_⟩
  ·have oP:y∈ae:=by simpa using hy
   obtain⟨m,hm,em⟩:=D7.mp oP;obtain⟨w',t',h1,h2⟩:=N5 rv (AC hm);rw[em] at h2;rw[h2];exact B1.str_str w' t' w t
  rw[show ae.toArray.toList=ae from rfl,cnt_strs w rv];exact⟨.int (ws.count w:Nat),H2,I2.tok _,⟨_,rfl⟩,q3⟩
theorem RJ(K:AE)(hu:X.A.in1.units<E4)(ho:QE X o to)(he:QE X e te)(hK:X.K=K:=by rfl)
  (bo:Ev o "count" X.env (eval o X.env)=eval o X.env:=by rfl)
  (eJ:((CY ai (AM [e] X.env)).all (λx=>!x.1)&&(EI ai (C6 [] X.env)).all (λx=>x.1.isSome)
   && decide ([e].length+([]:List EH).length+(if ([]:List EH).isEmpty then 0 else 1)<30))=true:=by rfl)
  (bn:(aw.endLine == ai.line)=true:=by rfl) (hs:AM [e] X.env=(false,eval e X.env)::AM [] X.env:=by rfl) (bm:(CY ai (AM [] X.env)).any (·.1)=false:=by rfl) :
  QE X (.Call (.Attribute o "count" aw) [e] [] ai) (acS K to te):=by
 subst hK;exact⟨abE hu ho.h he.h bo eJ bn hs bm⟩
end
def ig(ss:Sts)(k:Nat):Pl->List Nat
 | .pick _=>[]
 | .tab=>[4]
 | .one j r=>0::(if k=j then [] else ig ss k r)
 | .wit j r=>1::(if k=j then [] else ig ss k r)
 | .low j a b=>2::(if k<j then ig ss k a else ig ss k b)
 | .msk l r=>3::(if (aO ss k).2.2=l then [] else ig ss k r)
def eV(i:Nat):Str:=Tv.getD i ""
def acT:Sp:=λvs H Q _=>∃(s p:V)(k:Nat)(ok:ID->Prop)(ss:Sts)(pl:Pl)(left:List Nat),vs=[s,p,.int (k:Int)]/\iD ok H/\aG ok H s (.list (ss.map stD))/\aG ok H p (plD pl)/\xH ss pl left/\k<ss.length/\aW pl<=4000 /\
 ∀(a:ID) H',Same H H'->ok a->H a=GT->H' a=GE (.lst ((ig ss k pl).map λi=>At (eV i)))->Q (.ref a) H'
def lbl(ss:Sts)(k:Nat):Int:=(aO ss k).2.2
def bh(ss:Sts):Pl->List Nat->List (List Nat×Pl)
 | .pick l,left=>[(left,.pick l)]
 | .tab,left=>[(left,.tab)]
 | .one k r,left=>(left,.one k r)::bh ss r (left.filter (·≠k))
 | .wit k r,left=>(left,.wit k r)::bh ss r (left.filter (·≠k))
 | .low k a b,left=>(left,.low k a b)::(bh ss b (left.filter (k<=·))++bh ss a (left.filter (· < k)))
 | .msk l r,left=>(left,.msk l r)::bh ss r (left.filter λk=>(aO ss k).2.2≠l)
def jy(ss:Sts)(W:List (List Nat×Pl)):List (List Nat×Pl):=(W.reverse.map λx=>bh ss x.2 x.1).flatten
theorem wk(ss:Sts)(A B:List (List Nat×Pl)):jy ss (A++B)=jy ss B++jy ss A:=by
 unfold jy;rw[List.reverse_append,BH,List.flatten_append]
theorem nF(ss:Sts)(x:List Nat×Pl):jy ss [x]=bh ss x.2 x.1:=by simp[jy]
theorem qx(ss:Sts)(p:Pl)(left:List Nat):bh ss p left=(left,p)::jy ss (kids ss p left):=by
 cases p <;> simp[bh,jy,kids]
theorem gm(ss:Sts):∀(p:Pl)(left:List Nat),(bh ss p left).length=aW p
 | .pick l,left=>rfl
 | .tab,left=>rfl
 | .one k r,left=>by show(bh ss r _).length+1=_;rw[gm ss r];rfl
 | .wit k r,left=>by show(bh ss r _).length+1=_;rw[gm ss r];rfl
 | .msk k r,left=>by show(bh ss r _).length+1=_;rw[gm ss r];rfl
 | .low k a b,left=>by
  show(bh ss b _++bh ss a _).length+1=aW a+aW b+1;rw[AN,gm ss a,gm ss b];omega
def VL(ss:Sts)(left:List Nat):Pl->Prop
 | .pick l=>∀k∈left,lbl ss k=l
 | .tab=>dN ss left<=200
 | .one k _=>k∈left/\(aO ss k).1=(aO ss k).2.1
 | .wit k _=>k∈left
 | .low k _ _=>k∈left
 | .msk l _=>dN ss left<=64/\∃k∈left,lbl ss k=l
def PlV(ss:Sts):Pl->List Nat->Prop
 | .pick l,left=>Lf ss left/\VL ss left (.pick l)
 | .tab,left=>Lf ss left/\VL ss left .tab
 | .one k r,left=>(Lf ss left/\VL ss left (.one k r))/\PlV ss r (left.filter (·≠k))
 | .wit k r,left=>(Lf ss left/\VL ss left (.wit k r))/\PlV ss r (left.filter (·≠k))
 | .low k a b,left=>(Lf ss left/\VL ss left (.low k a b))/\PlV ss a (left.filter (· < k))/\PlV ss b (left.filter (k<=·))
 | .msk l r,left=>(Lf ss left/\VL ss left (.msk l r))/\PlV ss r (left.filter λk=>(aO ss k).2.2≠l)
theorem PlV.ok{ss:Sts}:∀{p:Pl}{left:List Nat},PlV ss p left->xH ss p left
 | .pick l,left,h=>h.1
 | .tab,left,h=>h.1
 | .one k r,left,h=>⟨h.1.1,PlV.ok h.2⟩
 | .wit k r,left,h=>⟨h.1.1,PlV.ok h.2⟩
 | .msk k r,left,h=>⟨h.1.1,PlV.ok h.2⟩
 | .low k a b,left,h=>⟨h.1.1,PlV.ok h.2.1,PlV.ok h.2.2⟩
theorem PlV.steps{ss:Sts}:∀{p:Pl}{left:List Nat},PlV ss p left->∀x∈bh ss p left,Lf ss x.1/\VL ss x.1 x.2
 | .pick l,left,h,x,hx=>by rw[AA.mp hx];exact h
 | .tab,left,h,x,hx=>by rw[AA.mp hx];exact h
 | .one k r,left,h,x,hx=>by
  rcases AL.mp hx with rfl|hx
  ·exact h.1
  exact PlV.steps h.2 x hx
 | .wit k r,left,h,x,hx=>by
  rcases AL.mp hx with rfl|hx
  ·exact h.1
  exact PlV.steps h.2 x hx
 | .msk k r,left,h,x,hx=>by
  rcases AL.mp hx with rfl|hx
  ·exact h.1
  exact PlV.steps h.2 x hx
 | .low k a b,left,h,x,hx=>by
  rcases AL.mp hx with rfl|hx
  ·exact h.1
  rcases BA.mp hx with hx|hx
  ·exact PlV.steps h.2.2 x hx
  exact PlV.steps h.2.1 x hx
def jV(ss:Sts)(left:List Nat):Pl->List Int
 | .msk l _=>[l]
 | .one k _=>[lbl ss k]
 | .wit k _=>[lbl ss k]
 | .tab=>left.map (lbl ss)
 | _=>[]
def Btw(ss:Sts)(PL:List Int)(left:List Nat):Prop:=∀a∈left,∀b∈left,∀j:Nat,a<=j->j<=b->j∈left\/lbl ss j∈PL
theorem nA{ss:Sts}{PL:List Int}:∀{p:Pl}{left:List Nat},Btw ss PL left->(∀x∈bh ss p left,∀l∈jV ss x.1 x.2,l∈PL)->∀x∈bh ss p left,Btw ss PL x.1
 | .pick l,left,h,_,x,hx=>by rw[AA.mp hx];exact h
 | .tab,left,h,_,x,hx=>by rw[AA.mp hx];exact h
 | .one k r,left,h,hl,x,hx=>by
  rcases AL.mp hx with rfl|hx
  ·exact h
  refine nA (p:=r) (left:=left.filter (·≠k)) (λa ha b hb j h1 h2=>?_) (λy hy=>hl y (AG _ hy)) x hx;rcases h a (BD.mp ha).1 b (BD.mp hb).1 j h1 h2 with z|z
  ·by_cases e:j=k
   ·exact .inr (by rw[e];exact hl _ AJ _ (AA.mpr Z))
   exact .inl (BD.mpr ⟨z,by simpa using e⟩)
  exact .inr z
 | .wit k r,left,h,hl,x,hx=>by
  rcases AL.mp hx with rfl|hx
  ·exact h
  refine nA (p:=r) (left:=left.filter (·≠k)) (λa ha b hb j h1 h2=>?_) (λy hy=>hl y (AG _ hy)) x hx;rcases h a (BD.mp ha).1 b (BD.mp hb).1 j h1 h2 with z|z
  ·by_cases e:j=k
   ·exact .inr (by rw[e];exact hl _ AJ _ (AA.mpr Z))
   exact .inl (BD.mpr ⟨z,by simpa using e⟩)
  exact .inr z
 | .msk l r,left,h,hl,x,hx=>by
  rcases AL.mp hx with rfl|hx
  ·exact h
  refine nA (p:=r) (left:=left.filter λk=>(aO ss k).2.2≠l) (λa ha b hb j h1 h2=>?_) (λy hy=>hl y (AG _ hy)) x hx;rcases h a (BD.mp ha).1 b (BD.mp hb).1 j h1 h2 with z|z
  ·by_cases e:lbl ss j=l
   ·exact .inr (by rw[e];exact hl _ AJ _ (AA.mpr Z))
   exact .inl (BD.mpr ⟨z,by simpa [lbl] using e⟩)
  exact .inr z
 | .low k a b,left,h,hl,x,hx=>by
  have dL:∀y∈bh ss b (left.filter (k<=·)),∀l∈jV ss y.1 y.2,l∈PL:=λy hy=>hl y (AG _ (BN _ hy));have ix:∀y∈bh ss a (left.filter (· < k)),∀l∈jV ss y.1 y.2,l∈PL:=λy hy=>hl y (AG _ (A4 _ hy));rcases AL.mp hx with rfl|hx
  ·exact h
  rcases BA.mp hx with hx|hx
  ·refine nA (p:=b) (λc hc d hd j h1 h2=>?_) dL x hx;have MW:=(BD.mp hc);rcases h c MW.1 d (BD.mp hd).1 j h1 h2 with z|z
   ·refine .inl (BD.mpr ⟨z,?_⟩);have:=MW.2;simp at this |-;omega
   exact .inr z
  refine nA (p:=a) (λc hc d hd j h1 h2=>?_) ix x hx;have WE:=(BD.mp hd);rcases h c (BD.mp hc).1 d WE.1 j h1 h2 with z|z
  ·refine .inl (BD.mpr ⟨z,?_⟩);have:=WE.2;simp at this |-;omega
  exact .inr z
def bU:Pl->Nat->List (Nat×Nat)
 | .pick _,_=>[]
 | .tab,_=>[]
 | .one _ r,p=>bU r (p+1)
 | .wit _ r,p=>bU r (p+1)
 | .msk _ r,p=>bU r (p+1)
 | .low _ a b,p=>bU b (p+1)++(p,p+1+aW b)::bU a (p+1+aW b)
theorem nO(p:Pl):1<=aW p:=by cases p <;> simp[aW]
theorem jt:∀(q:Pl)(p:Nat),∀x∈bU q p,p<=x.1/\x.1<p+aW q/\x.1<x.2/\x.2<p+aW q
 | .pick _,p,x,hx=>by cases hx
 | .tab,p,x,hx=>by cases hx
 | .one _ r,p,x,hx=>by have:=jt r (p+1) x hx;simp only[aW];omega
 | .wit _ r,p,x,hx=>by have:=jt r (p+1) x hx;simp only[aW];omega
 | .msk _ r,p,x,hx=>by have:=jt r (p+1) x hx;simp only[aW];omega
 | .low _ a b,p,x,hx=>by
  have ha:=nO a;simp only[aW];rcases BA.mp hx with hx|hx
  ·have:=jt b (p+1) x hx;omega
  rcases AL.mp hx with rfl|hx
  ·show p<=p/\p<p+_/\p<p+1+aW b/\p+1+aW b<p+_;omega
  have:=jt a (p+1+aW b) x hx;omega
theorem kY:∀(q:Pl)(p:Nat),((bU q p).map (·.1)).Nodup
 | .pick _,p=>HU
 | .tab,p=>HU
 | .one _ r,p=>kY r (p+1)
 | .wit _ r,p=>kY r (p+1)
 | .msk _ r,p=>kY r (p+1)
 | .low _ a b,p=>by
  show((bU b (p+1)++(p,p+1+aW b)::bU a (p+1+aW b)).map (·.1)).Nodup;rw[BH,DI,GO,Fk];refine⟨kY b (p+1),⟨λh=>?_,kY a _⟩,λx hx y hy=>?_⟩
  ·obtain⟨z,hz,e⟩:=C8.mp h;have:=jt a _ z hz;omega
  obtain⟨z,hz,rfl⟩:=C8.mp hx;have h1:=jt b _ z hz;rcases AL.mp hy with hy|hy
  ·rw[hy];show z.1≠p;omega
  obtain⟨z2,di,rfl⟩:=C8.mp hy;have h2:=jt a _ z2 di;omega
def yO:List Pl->List Nat->Nat->List (Nat×Nat)
 | [],_,_=>[]
 | c::rest,T,p=>bU c p++(match T with | []=>[]|t::T'=>match rest with | []=>[]|_::_=>(t,p+aW c)::yO rest T' (p+aW c))
theorem Ii(c r:Pl)(rest:List Pl)(t:Nat)(T:List Nat)(p:Nat):yO (c::r::rest) (t::T) p=bU c p++(t,p+aW c)::yO (r::rest) T (p+aW c):=rfl
theorem MJ(c:Pl)(T:List Nat)(p:Nat):yO [c] T p=bU c p:=by
 cases T <;> exact DH _
theorem acp{c r:Pl}{rest:List Pl}{T:List Nat}{p:Nat}(h:bU c p=bU r (p+1))(hs:aW c=aW r+1):yO (c::rest) T p=yO (r::rest) T (p+1):=by
 show bU c p++_=bU r (p+1)++_;rw[h,hs,show p+(aW r+1)=p+1+aW r by omega]
theorem Zq{k:Nat}{a b:Pl}{rest:List Pl}{T:List Nat}{p:Nat}:yO (.low k a b::rest) T p=yO (b::a::rest) (p::T) (p+1):=by
 rw[Ii];show(bU b (p+1)++(p,p+1+aW b)::bU a (p+1+aW b))++_=bU b (p+1)++(p,p+1+aW b)::(bU a (p+1+aW b)++_);rw[CS,cons_append,show p+aW (.low k a b)=p+1+aW b+aW a by simp only[aW];omega]
def oU(ss:Sts)(k:Nat):Nat:=((aO ss k).2.1-(aO ss k).1+1).toNat
def yV(ss:Sts)(base:Int)(l:Int)(k:Nat):Nat:=if lbl ss k=l then (2^oU ss k-1)*2^((aO ss k).1-base).toNat else 0
def lW(ss:Sts)(base l:Int)(ac:Nat)(left:List Nat):Nat:=left.foldl (λac k=>ac+yV ss base l k) ac
theorem xM{ss:Sts}(r:dF ss)(eR:i<j)(hj:j<ss.length):(aO ss i).2.1<(aO ss j).1:=r.lt (fO ω) (fO hj) eR
theorem jW{ss:Sts}(r:dF ss)(hi:i<ss.length):(aO ss i).1<=(aO ss i).2.1:=(r.lh _ _ (fO hi)).1
theorem S7{ss:Sts}(r:dF ss){base:Int}{k ac:Nat}(hk:k<ss.length)(hb:base<=(aO ss k).1)(ha:ac<2^((aO ss k).1-base).toNat) :
  (ac+yV ss base l k<2^((aO ss k).2.1+1-base).toNat)/\(∀i:Nat,(i:Int)<(aO ss k).1-base->(ac+yV ss base l k).testBit i=ac.testBit i)/\(∀n:Int,(aO ss k).1<=n->n<=(aO ss k).2.1->(ac+yV ss base l k).testBit (n-base).toNat=decide (lbl ss k=l)):=by
 have bS:=jW r hk;obtain⟨o,ho⟩:∃o,((aO ss k).1-base).toNat=o:=⟨_,rfl⟩;obtain⟨wd,hw⟩:∃wd,oU ss k=wd:=⟨_,rfl⟩;have fq:(aO ss k).1-base=(o:Int):=ω;have hw':(aO ss k).2.1-(aO ss k).1+1=(wd:Int):=by unfold oU at hw;omega
 have e1:((aO ss k).2.1+1-base).toNat=o+wd:=ω;rw[ho] at ha;have pw:2^(o+wd)=2^o*2^wd:=Nat.pow_add 2 o wd;have p1:1<=2^wd:=Nat.one_le_two_pow;unfold yV;rw[ho,hw,e1];by_cases c:lbl ss k=l
 ·rw[if_pos c];have ec:ac+(2^wd-1)*2^o=2^o*(2^wd-1)+ac:=by rw[Nat.mul_comm,add_comm]
  rw[ec];refine⟨?_,λi hi=>?_,λn h1 h2=>?_⟩
  ·rw[pw,Nat.mul_sub,Nat.mul_one];have:2^o<=2^o*2^wd:=Nat.le_mul_of_pos_right _ p1;omega
  ·rw[Nat.testBit_two_pow_mul_add _ ha,if_pos ω]
  rw[Nat.testBit_two_pow_mul_add _ ha,if_neg ω,Nat.testBit_two_pow_sub_one,decide_eq_true ω,decide_eq_true c]
 rw[if_neg c,Nat.add_zero];have ba:ac<2^(o+wd):=Bi ha (EA δ ω);refine⟨ba,λi hi=>rfl,λn h1 h2=>?_⟩;rw[decide_eq_false c];exact IH (Bi ha (EA δ ω))
theorem Ny{ss:Sts}(r:dF ss){base l:Int}:∀(left:List Nat)(ac:Nat),left.Pairwise (· < ·)->(∀k∈left,k<ss.length/\base<=(aO ss k).1/\ac<2^((aO ss k).1-base).toNat) ->
  (∀i:Nat,(∀k∈left,(i:Int)<(aO ss k).1-base)->(lW ss base l ac left).testBit i=ac.testBit i) /\
  (∀k∈left,∀n:Int,(aO ss k).1<=n->n<=(aO ss k).2.1->(lW ss base l ac left).testBit (n-base).toNat=decide (lbl ss k=l)) /\
  (∀e:Int,base<=e->ac<2^(e-base).toNat->(∀k∈left,(aO ss k).2.1<e)->lW ss base l ac left<2^(e-base).toNat)
 | [],ac,_,_=>⟨λi _=>rfl,λk hk=>absurd hk BC,λe _ h _=>h⟩
 | a::left,ac,hp,h=>by
  obtain⟨ha,hb,fm⟩:=h a AJ;obtain⟨b1,b2,b3⟩:=S7 r (l:=l) ha hb fm;have pS:=B4.mp hp;have nx:∀k∈left,(aO ss a).2.1+1<=(aO ss k).1:=λk hk=>by
   have:=xM r (pS.1 k hk) (h k (AG _ hk)).1;omega
  obtain⟨i1,i2,i3⟩:=Ny r (base:=base) (l:=l) left (ac+yV ss base l a) pS.2 (λk hk=>by
   obtain⟨g1,g2,g3⟩:=h k (AG _ hk);refine⟨g1,g2,Bi b1 (EA δ ?_)⟩;have:=nx k hk;omega)
  have bS:=jW r ha;refine⟨λi hi=>?_,λk hk n h1 h2=>?_,λe he hae hk=>?_⟩
  ·show(lW ss base l (ac+yV ss base l a) left).testBit i=_;rw[i1 i λk hk=>hi k (AG _ hk),b2 i (hi a AJ)]
  ·show(lW ss base l (ac+yV ss base l a) left).testBit _=_;rcases AL.mp hk with rfl|hk
   ·rw[i1 _ λj hj=>by have:=nx j hj;omega];exact b3 n h1 h2
   exact i2 k hk n h1 h2
  show lW ss base l (ac+yV ss base l a) left<_;refine i3 e he (Bi b1 (EA δ ?_)) λk gE=>hk k (AG _ gE);have:=hk a AJ;omega
def bZ(left:List Nat):Nat:=left.head?.getD 0
def eN(left:List Nat):Nat:=left.getLast?.getD 0
theorem fK{left:List Nat}(h:left.Pairwise (· < ·)):∀k∈left,bZ left<=k:=by
 cases left with
 | nil=>intro k hk;cases hk
 | cons a l=>
  intro k hk;show a<=k;rcases AL.mp hk with rfl|hk
  ·exact AW _
  exact GU ((B4.mp h).1 k hk)
theorem tX{left:List Nat}(h:left.Pairwise (· < ·)):∀k∈left,k<=eN left:=by
 intro k hk;obtain⟨a,b,rfl⟩:=kJ left (D3.mpr (oE hk));unfold eN;rw[JY];show k<=b;rw[CL] at h;rcases BA.mp hk with z|z
 ·exact GU (h.2.2 k z b (AA.mpr Z))
 rw[AA.mp z];exact AW _
theorem kO{left:List Nat}(h:left≠[]):bZ left∈left:=by
 cases left with
 | nil=>exact absurd rfl h
 | cons a l=>exact AJ
theorem dZ{left:List Nat}(h:left≠[]):eN left∈left:=by
 obtain⟨a,b,rfl⟩:=kJ left (D3.mpr h);unfold eN;rw[JY];simp
def bT(ss:Sts)(left:List Nat):Int:=(aO ss (bZ left)).1
def oZ(ss:Sts)(left:List Nat)(l:Int):Nat:=lW ss (bT ss left) l 0 left
theorem mO(ss:Sts)(left:List Nat):dN ss left=(aO ss (eN left)).2.1-(aO ss (bZ left)).1+1:=rfl
theorem dU{ss:Sts}(r:dF ss)(eR:i<=j)(hj:j<ss.length):(aO ss i).1<=(aO ss j).1/\(aO ss i).2.1<=(aO ss j).2.1:=by
 rcases Fu i j with z|z
 ·have h1:=xM r z hj;have h2:=jW r hj;have h3:=jW r (i:=i) ω;omega
 have:i=j:=by omega
 rw[this];omega
theorem zR{ss:Sts}(r:dF ss){left:List Nat}(lf:Lf ss left)(l:Int) :
  (∀k∈left,∀n:Int,(aO ss k).1<=n->n<=(aO ss k).2.1->(oZ ss left l).testBit (n-bT ss left).toNat=decide (lbl ss k=l))/\oZ ss left l<2^(dN ss left).toNat:=by
 have hb:=Ny r (base:=bT ss left) (l:=l) left 0 lf.up (λk hk=>⟨lf.lt k hk,(dU r (fK lf.up k hk) (lf.lt k hk)).1,GL _⟩);refine⟨hb.2.1,?_⟩;have hl:=dZ lf.ne;have h1:=(dU r (fK lf.up _ hl) (lf.lt _ hl)).1;have h2:=jW r (lf.lt _ hl);have:=hb.2.2 ((aO ss (eN left)).2.1+1) (by unfold bT;omega) (GL _) λk hk=>by
  have:=(dU r (tX lf.up k hk) (lf.lt _ hl)).2;omega
 rw[show(dN ss left).toNat=((aO ss (eN left)).2.1+1-bT ss left).toNat by rw[mO];unfold bT;omega];exact this
def jh(ss:Sts)(g:Int->Int):Nat->Nat->List Int
 | _,0=>[]
 | a,m+1=>A8 (oU ss a) (g (lbl ss a))++jh ss g (a+1) m
theorem Bf(ss:Sts)(g:Int->Int):∀(m a:Nat),jh ss g a (m+1)=jh ss g a m++A8 (oU ss (a+m)) (g (lbl ss (a+m)))
 | 0,a=>by show A8 _ _++[]=[]++_;rw[DH,G0];rfl
 | m+1,a=>by
  show A8 _ _++jh ss g (a+1) (m+1)=(A8 _ _++jh ss g (a+1) m)++_;rw[Bf ss g m (a+1),CS,show a+1+m=a+(m+1) by omega]
theorem wN{ss:Sts}(r:dF ss)(g:Int->Int):∀(m a:Nat),a+m+1<=ss.length->((jh ss g a (m+1)).length:Int)=(aO ss (a+m)).2.1-(aO ss a).1+1
 | 0,a,h=>by
  have:=jW r (i:=a) ω;show((A8 _ _++[]).length:Int)=_;rw[DH,Ex];unfold oU;rw[Nat.add_zero];omega
 | m+1,a,h=>by
  have ih:=wN r g m (a+1) ω;have h1:=jW r (i:=a) ω;have h2:=r.nx a _ _ (fO ω) (fO (k:=a+1) ω);show((A8 _ _++jh ss g (a+1) (m+1)).length:Int)=_;rw[AN,Ex];unfold oU;rw[show a+(m+1)=a+1+m by omega];omega
theorem vd{ss:Sts}(r:dF ss)(g:Int->Int):∀(m a:Nat),a+m<=ss.length->∀k:Nat,a<=k->k<a+m->∀n:Int,(aO ss k).1<=n->n<=(aO ss k).2.1->(jh ss g a m)[(n-(aO ss a).1).toNat]?=GE (g (lbl ss k))
 | 0,a,_,k,h1,h2,_,_,_=>by omega
 | m+1,a,h,k,h1,h2,n,n1,n2=>by
  have bS:=jW r (i:=a) ω;show(A8 (oU ss a) (g (lbl ss a))++jh ss g (a+1) m)[_]?=_;rcases Fu a k with z|z
  ·have hnx:=r.nx a _ _ (fO ω) (fO (k:=a+1) ω);have ba:=xM r z ω;have ih:=vd r g m (a+1) ω k ω ω n n1 n2;rw[BF (by rw[Ex];unfold oU;omega),Ex,show(n-(aO ss a).1).toNat-oU ss a=(n-(aO ss (a+1)).1).toNat by unfold oU;omega];exact ih
  have e:k=a:=ω;subst e;rw[C0 (by rw[Ex];unfold oU;omega),List.getElem?_replicate,if_pos (by unfold oU;omega)]
theorem Et(ss:Sts)(g:Int->Int):∀(m a:Nat)(x:Int),x∈jh ss g a m->∃k,a<=k/\k<a+m/\x=g (lbl ss k)
 | 0,a,x,h=>by cases h
 | m+1,a,x,h=>by
  rcases BA.mp h with z|z
  ·exact⟨a,AW _,ω,List.eq_of_mem_replicate z⟩
  obtain⟨k,h1,h2,h3⟩:=Et ss g m (a+1) x z;exact⟨k,ω,ω,h3⟩
def mG(ss:Sts)(g:Int->Int)(left:List Nat):List Int:=jh ss g (bZ left) (eN left-bZ left+1)
theorem oH{ss:Sts}(r:dF ss)(g:Int->Int){left:List Nat}(lf:Lf ss left):((mG ss g left).length:Int)=dN ss left:=by
 have hl:=lf.lt _ (dZ lf.ne);have bS:=tX lf.up _ (kO lf.ne);unfold mG;rw[wN r g _ _ ω,mO,show bZ left+(eN left-bZ left)=eN left by omega]
theorem uD(ss:Sts)(k:Nat):∀pl:Pl,(ig ss k pl).length<=aW pl
 | .pick _=>D6 _
 | .tab=>AW _
 | .one j r=>by
  have:=uD ss k r;show(0::(if k=j then [] else ig ss k r)).length<=aW r+1;split <;> simp <;> omega
 | .wit j r=>by
  have:=uD ss k r;show(1::(if k=j then [] else ig ss k r)).length<=aW r+1;split <;> simp <;> omega
 | .msk l r=>by
  have:=uD ss k r;show(3::(if (aO ss k).2.2=l then [] else ig ss k r)).length<=aW r+1;split <;> simp <;> omega
 | .low j a b=>by
  have:=uD ss k a;have:=uD ss k b;show(2::(if k<j then ig ss k a else ig ss k b)).length<=aW a+aW b+1;split <;> simp <;> omega
theorem aeU(xs:List V)(n:Nat)(h:n<=xs.length):oK xs GT (GE (n:Int))=xs.take n:=by
 unfold oK;have e1:HT.sIx xs.length 0 GT=0:=by simp[HT.sIx]
 have e2:HT.sIx xs.length xs.length (GE (n:Int))=n:=by
  simp only[HT.sIx];split
  ·omega
  omega
 rw[e1,e2];rfl
def dgQ(x y:V)(H:Hp)(Q:VK):Prop:=∃a v,x=.ref a/\oR H a y (GE v)/\Q v H
def tDG(td ty:TE):TE:=λσ H Q=>td σ H λx H1=>ty σ H1 λy H2=>dgQ x y H2 Q
theorem adg(td ty:TE)(σ:St)(H:Hp)(Q:VK):tDG td ty σ H Q=td σ H λx H1=>ty σ H1 λy H2=>dgQ x y H2 Q:=rfl
def dpQ(x y v:V)(H:Hp)(R:Hp->Prop):Prop:=∃a H4,x=.ref a/\QV H a y v H4/\R H4
def sDP(td ty tv:TE):TS:=λD σ H=>tv σ H λv H1=>td σ H1 λx H2=>ty σ H2 λy H3=>dpQ x y v H3 λH4=>D.nx σ H4
theorem ado(td ty tv:TE)(D:Ends)(σ:St)(H:Hp):sDP td ty tv D σ H=tv σ H λv H1=>td σ H1 λx H2=>ty σ H2 λy H3=>dpQ x y v H3 λH4=>D.nx σ H4:=rfl
section
variable{o i value:Expr}{ty tv:TE}
theorem RD(hu:X.A.units+1<E4)(ho:QE X o td)(hi:QE X i ty)(hs:ae6 i):QE X (.Subscript o i pos) (tDG td ty):=⟨by
 intro aa s σ H Q I h;refine Q7 PySem.F.slot_dict_getitem.lookup hs (thE (ho.h aa s σ H _ I h) λu s1 x H1 I1 rx q1=>thn (hi.h aa s1 σ H1 _ I1 q1) λiv s2 ⟨y,H2,I2,ry,a,v,ex,g,q2⟩=>?_);subst ex;obtain rfl:u=BY a:=rx;exact⟨Nf I2 g,Vw hu I2 g ry λw' s3 I3 f6=>⟨v,H2,I3,f6,q2⟩⟩⟩
theorem acX(hu:X.A.units+1<E4)(ho:QE X o td)(hi:QE X i ty)(hv:QE X value tv)(hs:HP value (GE (.Subscript o i aT)) pos.line X.env=pure false) :
  QS X (.Assign [.Subscript o i aT] value pos) (sDP td ty tv):=⟨by
 intro aa s σ H D I h;refine wpAny_Assign_Subscript (thE (hv.h aa s σ H _ I h) λr s1 v H1 I1 rv q1=>thE (ho.h aa s1 σ H1 _ I1 q1) λu s2 x H2 I2 rx q2=>thn (hi.h aa s2 σ H2 _ I2 q2) λiv s3 ⟨y,H3,I3,ry,a,H4,ex,g,q3⟩=>?_) hs;subst ex;obtain rfl:u=BY a:=rx;exact Vv hu I3 g ry rv λs4 I4=>⟨σ,H4,I4,q3⟩⟩
end
def rdA:=Au @adg @ado
def pk(c:Int×Int):List Int:=[c.1,c.2]
def LeP(a b:Int×Int):Prop:=a.1<b.1\/(a.1=b.1/\a.2<=b.2)
open PySem.W (Frag clsIn findIn takerIn InstAt looks_clsIn looks_findIn looks_takesIn Looks check_slot looks_mroIn mroIn set_plain osa_eq)
open Builtin Builtin.ObjectAttr
open PySem.W (Frag clsIn findIn takerIn InstAt looks_clsIn looks_findIn looks_takesIn Looks check_slot looks_mroIn mroIn handedIn handedOut_of)
def unt(H:Hp)(a:ID):Hp:=λb=>if b=a then GT else H b
theorem KC:unt H a a=GT:=by unfold unt;rw[if_pos rfl]
theorem N7{b:ID}(h:b≠a):unt H a b=H b:=by unfold unt;rw[if_neg h]
open PySem.W (Frag clsIn findIn takerIn InstAt looks_clsIn looks_findIn looks_takesIn looks_specialIn specialIn takesIn Looks check_slot looks_mroIn mroIn handedIn handedOut_of class_get KitX)
open Builtin
mutual
def noL:A9->Bool
 | .list _=>false
 | .tuple ds=>afy ds
 | _=>true
def afy:List A9->Bool
 | []=>true
 | d::ds=>noL d&&afy ds
end
theorem Za(h:j<n):ixN n (j:Int)=GE j:=by
 unfold ixN;rw[if_pos ω,if_pos ω];rfl
def rowOf(ss:Sts)(g:Int->Int)(left:List Nat)(LX:Int):Pl->RowC
 | .pick l=>.pik l
 | .tab=>.tab (bT ss left) (mG ss g left)
 | .one k _=>.one (aO ss k).1 (g (lbl ss k))
 | .wit k _=>.rng (aO ss k).1 (aO ss k).2.1 (g (lbl ss k))
 | .low k _ _=>.low (aO ss k).1 LX
 | .msk l _=>.msk (bT ss left) (dN ss left) (oZ ss left l:Nat) (g l)
def iM(ss:Sts)(g:Int->Int):Pl->List Nat->Nat->List RowC
 | .pick l,left,p=>[rowOf ss g left 0 (.pick l)]
 | .tab,left,p=>[rowOf ss g left 0 .tab]
 | .one k r,left,p=>rowOf ss g left 0 (.one k r)::iM ss g r (left.filter (·≠k)) (p+1)
 | .wit k r,left,p=>rowOf ss g left 0 (.wit k r)::iM ss g r (left.filter (·≠k)) (p+1)
 | .low k a b,left,p=>rowOf ss g left ((p+1+aW b:Nat):Int) (.low k a b)::(iM ss g b (left.filter (k<=·)) (p+1)++iM ss g a (left.filter (· < k)) (p+1+aW b))
 | .msk l r,left,p=>rowOf ss g left 0 (.msk l r)::iM ss g r (left.filter λk=>(aO ss k).2.2≠l) (p+1)
theorem fD(ss:Sts)(g:Int->Int):∀(q:Pl)(left:List Nat)(p:Nat),(iM ss g q left p).length=aW q
 | .pick l,left,p=>rfl
 | .tab,left,p=>rfl
 | .one k r,left,p=>by show(iM ss g r _ _).length+1=_;rw[fD ss g r];rfl
 | .wit k r,left,p=>by show(iM ss g r _ _).length+1=_;rw[fD ss g r];rfl
 | .msk k r,left,p=>by show(iM ss g r _ _).length+1=_;rw[fD ss g r];rfl
 | .low k a b,left,p=>by
  show(iM ss g b _ _++iM ss g a _ _).length+1=aW a+aW b+1;rw[AN,fD ss g a,fD ss g b];omega
def dM(ss:Sts)(g:Int->Int)(A:Nat->Int):Nat->List (List Nat×Pl)->List RowC
 | _,[]=>[]
 | i,x::S=>rowOf ss g x.1 (A i) x.2::dM ss g A (i+1) S
theorem qy(ss:Sts)(g:Int->Int)(A:Nat->Int):∀(S T:List (List Nat×Pl)) (i:Nat),dM ss g A i (S++T)=dM ss g A i S++dM ss g A (i+S.length) T
 | [],T,i=>rfl
 | x::S,T,i=>by
  show rowOf ss g x.1 (A i) x.2::dM ss g A (i+1) (S++T)=rowOf ss g x.1 (A i) x.2::dM ss g A (i+1) S++_;rw[qy ss g A S T (i+1),BG,show i+1+S.length=i+(S.length+1) by omega];rfl
theorem jm(ss:Sts)(g:Int->Int)(A:Nat->Int):∀(q:Pl)(left:List Nat)(p:Nat),(∀x∈bU q p,A x.1=(x.2:Int))->dM ss g A p (bh ss q left)=iM ss g q left p
 | .pick l,left,p,h=>rfl
 | .tab,left,p,h=>rfl
 | .one k r,left,p,h=>by
  show rowOf ss g left (A p) (.one k r)::dM ss g A (p+1) (bh ss r _)=_;rw[jm ss g A r _ (p+1) h];rfl
 | .wit k r,left,p,h=>by
  show rowOf ss g left (A p) (.wit k r)::dM ss g A (p+1) (bh ss r _)=_;rw[jm ss g A r _ (p+1) h];rfl
 | .msk k r,left,p,h=>by
  show rowOf ss g left (A p) (.msk k r)::dM ss g A (p+1) (bh ss r _)=_;rw[jm ss g A r _ (p+1) h];rfl
 | .low k a b,left,p,h=>by
  show rowOf ss g left (A p) (.low k a b)::dM ss g A (p+1) (bh ss b _++bh ss a _)=_;have h1:A p=((p+1+aW b:Nat):Int):=h (p,p+1+aW b) (A4 _ AJ);rw[qy,gm,jm ss g A b _ (p+1) λx hx=>h x (BN _ hx),jm ss g A a _ (p+1+aW b) λx hx=>h x (A4 _ (AG _ hx)),h1];rfl
def Fit(cs:List RowC)(p:Nat)(R:List RowC):Prop:=∀(i:Nat) c,R[i]?=GE c->cs[p+i]?=GE c
theorem Fit.hd{cs:List RowC}{p:Nat}{c:RowC}{R:List RowC}(h:Fit cs p (c::R)):cs[p]?=GE c:=h 0 c rfl
theorem Fit.tl{cs:List RowC}{p:Nat}{c:RowC}{R:List RowC}(h:Fit cs p (c::R)):Fit cs (p+1) R:=λi d hd=>by
 have:=h (i+1) d hd;rwa [show p+(i+1)=p+1+i by omega] at this
theorem Fit.left{cs:List RowC}{p:Nat}{R T:List RowC}(h:Fit cs p (R++T)):Fit cs p R:=λi d hd=>h i d (by rw[C0 (AB.mp hd).1];exact hd)
theorem Fit.right{cs:List RowC}{p:Nat}{R T:List RowC}(h:Fit cs p (R++T)):Fit cs (p+R.length) T:=λi d hd=>by
 have:=h (R.length+i) d (by rw[BF ω,Nat.add_sub_cancel_left];exact hd);rwa [<- Nat.add_assoc] at this
def wordAt(cs:List RowC)(a:Int):Str:=match cs[a.toNat]? with
 | some c=>mK c
 | none => ""
theorem GK{cs:List RowC}{p:Nat}{c:RowC}(h:cs[p]?=GE c):wordAt cs (p:Int)=mK c:=by
 unfold wordAt;rw[B3,h]
theorem rR{cs:List RowC}{n:Int}{K p:Nat}(h:cs[p]?=GE (.pik l))(hK:cs.length<=p+K):∃c9,runC cs n K (p:Int)=(GE l,c9)/\c9.map (wordAt cs)=[("pick" : Str)]:=by
 have hp:=(AB.mp h).1;obtain⟨K,rfl⟩:∃k',K=k'+1:=⟨K-1,ω⟩;refine⟨[(p:Int)],lK (by rw[B3];exact h),?_⟩;show [wordAt cs (p:Int)]=_;rw[GK h];rfl
theorem jB{cs:List RowC}{n:Int}{K p t:Nat}{c:RowC}{c9:List Int}{ws:List Str}(h:cs[p]?=GE c)(hp:fJ c=false)(hs:dG c (p:Int) n=GE (t:Int))(hr:runC cs n K (t:Int)=(GE lab,c9))(hw:c9.map (wordAt cs)=ws) :
  ∃bP,runC cs n (K+1) (p:Int)=(GE lab,bP)/\bP.map (wordAt cs)=mK c::ws:=by
 refine⟨(p:Int)::c9,?_,?_⟩
 ·rw[uH (by rw[B3];exact h) hp hs,hr]
 rw[DI,GK h,hw]
theorem Xh{ss:Sts}(r:dF ss){cs:List RowC}{g:Int->Int}{n:Int}{k:Nat}(h1:(aO ss k).1<=n)(h2:n<=(aO ss k).2.1)(hk:k<ss.length) :
  ∀(q:Pl)(left:List Nat)(p K:Nat),PlV ss q left->k∈left->(∀x∈bh ss q left,∀l∈jV ss x.1 x.2,∃t:Nat,g l=(t:Int)/\cs[t]?=GE (.pik l))->(∀l (t:Nat),g l=(t:Int)->p+aW q<=t)->Fit cs p (iM ss g q left p)->cs.length<=p+K ->
   ∃c9,runC cs n K (p:Int)=(GE (lbl ss k),c9)/\c9.map (wordAt cs)=(ig ss k q).map eV++[("pick" : Str)]:=by
 have aI:∀{p K:Nat}{c:RowC},cs[p]?=GE c->cs.length<=p+K->∃K',K=K'+1:=λ{p K c} h hK=>by
  have hp:=(AB.mp h).1;exact⟨K-1,ω⟩
 have apart:∀{j:Nat},j<ss.length->k≠j->n<(aO ss j).1\/(aO ss j).2.1<n:=λ{j} hj a7=>by
  rcases Nat.lt_or_gt_of_ne a7 with z|z
  ·have:=xM r z hj;omega
  have:=xM r z hk;omega
 intro q
 induction q with
 | pick l=>
  intro left p K pv hm _ _ fit hK;have hl:lbl ss k=l:=pv.2 k hm;obtain⟨c9,e1,e2⟩:=rR (n:=n) (K:=K) fit.hd hK;exact⟨c9,by rw[hl];exact e1,by rw[e2];rfl⟩
 | tab=>
  intro left p K pv hm led hg fit hK;have h0:cs[p]?=GE (.tab (bT ss left) (mG ss g left)):=fit.hd;obtain⟨K,rfl⟩:=aI h0 hK;obtain⟨t,ht,nL⟩:=led (left,.tab) (AA.mpr Z) (lbl ss k) (C8.mpr ⟨k,hm,rfl⟩);have hge:=hg _ t ht;obtain⟨c9,e1,e2⟩:=rR (n:=n) (K:=K) nL (by simp only[aW] at hge;omega);have lf:=pv.1;have hl:=lf.lt _ (dZ lf.ne);have hf:=fK lf.up k hm;have ix:=tX lf.up k hm;have jp:=(dU r hf hk).1;have hhi:=(dU r ix hl).2;have fi:=vd r g (eN left-bZ left+1) (bZ left) ω k hf ω n h1 h2;have am:=oH r g lf;rw[mO] at am;have ar:dG (.tab (bT ss left) (mG ss g left)) (p:Int) n=GE (t:Int):=by
   show(if 0<=n-bT ss left/\n-bT ss left<(mG ss g left).length then (mG ss g left)[(n-bT ss left).toNat]? else GT)=_;rw[if_pos (by rw[am];unfold bT;omega),<- ht];exact fi
  obtain⟨bP,e3,e4⟩:=jB h0 Z ar e1 e2;exact⟨bP,e3,e4⟩
 | one j q ih=>
  intro left p K pv hm led hg fit hK;have h0:cs[p]?=GE (.one (aO ss j).1 (g (lbl ss j))):=fit.hd;obtain⟨K,rfl⟩:=aI h0 hK;have hj:j<ss.length:=pv.1.1.lt j pv.1.2.1;by_cases c:k=j
  ·subst c;obtain⟨t,ht,nL⟩:=led (left,.one k q) AJ (lbl ss k) (AA.mpr Z);have hge:=hg _ t ht;obtain⟨c9,e1,e2⟩:=rR (n:=n) (K:=K) nL (by simp only[aW] at hge;omega);have hs:(aO ss k).1=(aO ss k).2.1:=pv.1.2.2;have ar:dG (.one (aO ss k).1 (g (lbl ss k))) (p:Int) n=GE (t:Int):=by
    show GE (if n=(aO ss k).1 then g (lbl ss k) else (p:Int)+1)=_;rw[if_pos ω,ht]
   obtain⟨bP,e3,e4⟩:=jB h0 Z ar e1 e2;refine⟨bP,e3,?_⟩;rw[e4];show _=(0::(if k=k then [] else ig ss k q)).map eV++_;rw[if_pos rfl];rfl
  obtain⟨c9,e1,e2⟩:=ih (left.filter (·≠j)) (p+1) K pv.2 (BD.mpr ⟨hm,by simpa using c⟩) (λx hx=>led x (AG _ hx)) (λl t ht=>by have:=hg l t ht;simp only[aW] at this;omega) fit.tl ω;have ar:dG (.one (aO ss j).1 (g (lbl ss j))) (p:Int) n=GE ((p+1:Nat):Int):=by
   show GE (if n=(aO ss j).1 then g (lbl ss j) else (p:Int)+1)=_;have h3:=apart hj c;have h4:=jW r hj;rw[if_neg ω];rfl
  obtain⟨bP,e3,e4⟩:=jB h0 Z ar e1 e2;refine⟨bP,e3,?_⟩;rw[e4];show _=(0::(if k=j then [] else ig ss k q)).map eV++_;rw[if_neg c];rfl
 | wit j q ih=>
  intro left p K pv hm led hg fit hK;have h0:cs[p]?=GE (.rng (aO ss j).1 (aO ss j).2.1 (g (lbl ss j))):=fit.hd;obtain⟨K,rfl⟩:=aI h0 hK;have hj:j<ss.length:=pv.1.1.lt j pv.1.2;by_cases c:k=j
  ·subst c;obtain⟨t,ht,nL⟩:=led (left,.wit k q) AJ (lbl ss k) (AA.mpr Z);have hge:=hg _ t ht;obtain⟨c9,e1,e2⟩:=rR (n:=n) (K:=K) nL (by simp only[aW] at hge;omega);have ar:dG (.rng (aO ss k).1 (aO ss k).2.1 (g (lbl ss k))) (p:Int) n=GE (t:Int):=by
    show GE (if (aO ss k).1<=n/\n<=(aO ss k).2.1 then g (lbl ss k) else (p:Int)+1)=_;rw[if_pos ⟨h1,h2⟩,ht]
   obtain⟨bP,e3,e4⟩:=jB h0 Z ar e1 e2;refine⟨bP,e3,?_⟩;rw[e4];show _=(1::(if k=k then [] else ig ss k q)).map eV++_;rw[if_pos rfl];rfl
  obtain⟨c9,e1,e2⟩:=ih (left.filter (·≠j)) (p+1) K pv.2 (BD.mpr ⟨hm,by simpa using c⟩) (λx hx=>led x (AG _ hx)) (λl t ht=>by have:=hg l t ht;simp only[aW] at this;omega) fit.tl ω;have ar:dG (.rng (aO ss j).1 (aO ss j).2.1 (g (lbl ss j))) (p:Int) n=GE ((p+1:Nat):Int):=by
   show GE (if (aO ss j).1<=n/\n<=(aO ss j).2.1 then g (lbl ss j) else (p:Int)+1)=_;have h3:=apart hj c;rw[if_neg ω];rfl
  obtain⟨bP,e3,e4⟩:=jB h0 Z ar e1 e2;refine⟨bP,e3,?_⟩;rw[e4];show _=(1::(if k=j then [] else ig ss k q)).map eV++_;rw[if_neg c];rfl
 | msk l q ih=>
  intro left p K pv hm led hg fit hK;have h0:cs[p]?=GE (.msk (bT ss left) (dN ss left) (oZ ss left l:Nat) (g l)):=fit.hd;obtain⟨K,rfl⟩:=aI h0 hK;have lf:=pv.1.1;have hl:=lf.lt _ (dZ lf.ne);have jp:=(dU r (fK lf.up k hm) hk).1;have hhi:=(dU r (tX lf.up k hm) hl).2;have ie:0<=n-bT ss left/\n-bT ss left<dN ss left:=by rw[mO];unfold bT;omega
  have zC:bitAt (oZ ss left l:Nat) (n-bT ss left)=decide (lbl ss k=l):=by
   unfold bitAt;rw[Ro,(zR r lf l).1 k hm n h1 h2];by_cases c:lbl ss k=l
   ·rw[decide_eq_true c];rfl
   rw[decide_eq_false c];rfl
  by_cases c:lbl ss k=l
  ·obtain⟨t,ht,nL⟩:=led (left,.msk l q) AJ l (AA.mpr Z);have hge:=hg _ t ht;obtain⟨c9,e1,e2⟩:=rR (n:=n) (K:=K) nL (by simp only[aW] at hge;omega);have ar:dG (.msk (bT ss left) (dN ss left) (oZ ss left l:Nat) (g l)) (p:Int) n=GE (t:Int):=by
    show(if 0<=n-bT ss left/\n-bT ss left<dN ss left then GE (if bitAt (oZ ss left l:Nat) (n-bT ss left)=true then g l else (p:Int)+1) else GT)=_;rw[if_pos ie,zC,if_pos (decide_eq_true c),ht]
   obtain⟨bP,e3,e4⟩:=jB h0 Z ar e1 e2;refine⟨bP,by rw[c];exact e3,?_⟩;rw[e4];show _=(3::(if lbl ss k=l then [] else ig ss k q)).map eV++_;rw[if_pos c];rfl
  obtain⟨c9,e1,e2⟩:=ih (left.filter λk=>(aO ss k).2.2≠l) (p+1) K pv.2 (BD.mpr ⟨hm,by simpa [lbl] using c⟩) (λx hx=>led x (AG _ hx)) (λl t ht=>by have:=hg l t ht;simp only[aW] at this;omega) fit.tl ω;have ar:dG (.msk (bT ss left) (dN ss left) (oZ ss left l:Nat) (g l)) (p:Int) n=GE ((p+1:Nat):Int):=by
   show(if 0<=n-bT ss left/\n-bT ss left<dN ss left then GE (if bitAt (oZ ss left l:Nat) (n-bT ss left)=true then g l else (p:Int)+1) else GT)=_;rw[if_pos ie,zC,if_neg (by simpa using c)];rfl
  obtain⟨bP,e3,e4⟩:=jB h0 Z ar e1 e2;refine⟨bP,e3,?_⟩;rw[e4];show _=(3::(if lbl ss k=l then [] else ig ss k q)).map eV++_;rw[if_neg c];rfl
 | low j a b yf x9=>
  intro left p K pv hm led hg fit hK;have h0:cs[p]?=GE (.low (aO ss j).1 ((p+1+aW b:Nat):Int)):=fit.hd;obtain⟨K,rfl⟩:=aI h0 hK;have hj:j<ss.length:=pv.1.1.lt j pv.1.2;have fb:=fit.tl.left;have fa:=fit.tl.right;rw[fD] at fa;by_cases c:k<j
  ·obtain⟨c9,e1,e2⟩:=yf (left.filter (· < j)) (p+1+aW b) K pv.2.1 (BD.mpr ⟨hm,by simpa using c⟩) (λx hx=>led x (AG _ (A4 _ hx))) (λl t ht=>by have:=hg l t ht;simp only[aW] at this;omega) fa ω;have ar:dG (.low (aO ss j).1 ((p+1+aW b:Nat):Int)) (p:Int) n=GE ((p+1+aW b:Nat):Int):=by
    show GE (if n<(aO ss j).1 then ((p+1+aW b:Nat):Int) else (p:Int)+1)=_;have:=xM r c hj;rw[if_pos ω]
   obtain⟨bP,e3,e4⟩:=jB h0 Z ar e1 e2;refine⟨bP,e3,?_⟩;rw[e4];show _=(2::(if k<j then ig ss k a else ig ss k b)).map eV++_;rw[if_pos c];rfl
  obtain⟨c9,e1,e2⟩:=x9 (left.filter (j<=·)) (p+1) K pv.2.2 (BD.mpr ⟨hm,by simpa using c⟩) (λx hx=>led x (AG _ (BN _ hx))) (λl t ht=>by have:=hg l t ht;simp only[aW] at this;omega) fb ω;have ar:dG (.low (aO ss j).1 ((p+1+aW b:Nat):Int)) (p:Int) n=GE ((p+1:Nat):Int):=by
   show GE (if n<(aO ss j).1 then ((p+1+aW b:Nat):Int) else (p:Int)+1)=_;have:=(dU r (Nat.le_of_not_lt c) hk).1;rw[if_neg ω];rfl
  obtain⟨bP,e3,e4⟩:=jB h0 Z ar e1 e2;refine⟨bP,e3,?_⟩;rw[e4];show _=(2::(if k<j then ig ss k a else ig ss k b)).map eV++_;rw[if_neg c];rfl
section
variable{o i:Expr}{ty:TE}
theorem Ox:QE X (.Dict [] [] pos) Jj:=⟨λaa s σ H Q I h=>
 wpAny_Dict_empty ⟨.ref s.heap.objs.size,_,I.laid (a:=s.heap.objs.size) (o:=.dK []) (t':=s.toks) (λ_ _ q=>AH _ q) (AW _) (ZL s.heap I.big),rfl,h _ (I.hok.fresh (AW _))⟩⟩
theorem XS(hu:X.A.units+1<E4)(ho:QE X o td)(he:QE X e ty)(m:M1 X o "get" aw e ai):QE X (.Call (.Attribute o "get" aw) [e] [] ai) (Oh td ty):=⟨by
 intro aa s σ H Q I h;refine wpAny_Call_method m.base m.few m.line HQ ED PySem.F.type_dict_get (thn (ho.h aa s σ H _ I h) λu s1 ⟨x,H1,I1,rx,a,ex,d,q1⟩=>?_);subst ex;obtain rfl:u=BY a:=rx;obtain⟨t1,t2,_⟩:=P0 I1 d;refine⟨t1,t2,?_⟩;rw[m.trees];refine DJ Z (EK (CD (thn (he.h aa s1 σ H1 _ I1 q1) λiv s2 ⟨y,H2,I2,ry,ov,g,q2⟩=>DF ?_)));exact aeT hu I2 g ry λw' s3 I3 f6=>⟨_,H2,I3,f6,q2⟩⟩
def dnQ(x y:V)(H:Hp)(Q:VK):Prop:=∃a o,x=.ref a/\oR H a y o/\Q (.bl (!o.isSome)) H
def afU(ty td:TE):TE:=λσ H Q=>ty σ H λy H1=>td σ H1 λx H2=>dnQ x y H2 Q
theorem adE(hu:X.A.units+1<E4)(hi:QE X i ty)(ho:QE X o td)(hm:E7 .NotIn o=false):QT X (.Compare i [.NotIn] [o] pos) (tB (afU ty td)):=⟨adM (Uo hu hi.h ho.h) hm⟩
def lkq(ob:Option HO)(H:Hp)(Q:VK):Prop:=match ob with
 | some (.dK af)=>Q (.int af.length) H
 | _=>False
def Xr:List V->Hp->VK->Prop:=λxs H Q=>match xs with
 | [.ref p]=>lkq (H p) H Q
 | _=>False
theorem Ua(p:ID)(H:Hp)(Q:VK):Xr [.ref p] H Q=lkq (H p) H Q:=rfl
theorem aey(af:List (Key×V))(H:Hp)(Q:VK):lkq (GE (.dK af)) H Q=Q (.int af.length) H:=rfl
theorem Qs:eY X (.builtin "len") Xr:=by
 intro aa s σ H xs us Q I r h;unfold Xr at h;split at h
 ·rename_i p;unfold lkq at h;split at h
  ·rename_i af e;cases r with
   | cons r rr=>
    cases rr;cases r;exact afM I (.inl e) λt s' I'=>⟨.int af.length,H,I',⟨t,rfl⟩,h⟩
  exact h.elim
 exact h.elim
theorem Inv.acq{d:ID}(I:Inv X aa σ H s)(he:H d=GE (.dK af)):Inv X aa σ (unt H d) s:=by
 have oD:∀b u,H b=GE u->u≠.dK af->unt H d b=GE u:=λb u h n=>by
  rw[N7 (λz=>n (by rw[z,he] at h;exact(A0 h).symm)),h]
 have non:∀b,H b=GT->unt H d b=GT:=λb h=>by
  unfold unt;split
  ·rfl
  exact h
 have B:=I.base;refine⟨I.ok,I.os,I.bare,⟨B.keep,B.slot,λb o g n hx=>non b (B.free b o g n hx),B.there,λb xs h=>oD b _ (B.tups b xs h) (λz=>nomatch z),λb o u h=>oD b _ (B.frzs b o u h) (λz=>nomatch z),λb ps h=>?_⟩,I.loc,I.cell,non _ I.free,λx c h=>non _ (I.freeC x c h),λp hp=>?_,λa o ha=>?_,I.len⟩
 ·obtain⟨m,hm⟩:=B.tbls b ps h;exact⟨m,oD b _ hm (λz=>nomatch z)⟩
 ·obtain⟨z1,z2,z3⟩:=I.pin p hp;exact⟨z1,non _ z2,z3⟩
 have a7:a≠d:=λz=>by rw[z,KC] at ha;cases ha
 rw[N7 a7] at ha;exact(I.hok a o ha).stay (λb u _ g=>g) (λb h=>oD b _ h (λz=>nomatch z)) λb xs h=>oD b _ h (λz=>nomatch z)
def Itk(ks:List Key):It:=⟨λi _=>i<ks.length,λi H x H'=>H'=H/\∃k,ks[i]?=GE k/\x=kV k,λi _=>ks.length<=i⟩
theorem afE{k:Key}(h:(cL P w).is k u=true):RelV (kV k) u:=by
 rcases dH h with⟨i,t,rfl,rfl⟩|⟨x,t,rfl,rfl⟩
 ·exact⟨t,rfl⟩
 exact⟨t,rfl⟩
theorem Tj(it d:ID)(a7:d≠it)(vs:List (Key×Ap))(ep:Nat):Turn P w K tg (Itk (vs.map (·.1))) [it,d] it (λi h=>h.IsKeyIter it d i vs.length ep/\Heap.DictAt (cL P w) h d vs ep) where
 mem:=by simp
 obj:=λi h st b hb=>by
  simp only[AL,BC,or_false] at hb;rcases hb with rfl|rfl
  ·obtain⟨o,g,_,hd⟩:=st.1;exact⟨o,g,λv z=>by rw[hd] at z;cases z⟩
  obtain⟨o,es,g,_,hd,_⟩:=st.2;exact⟨o,g,λv z=>by rw[hd] at z;cases z⟩
 keep:=λi h h' st k=>(Walks.dictKeys (prog:=P) (w:=w) (knd:=cL P w) (A:=Kx) Z it d a7 vs ep).frame i h h' st k
 item:=by
  intro X hP hw hK hc i aa s σ H E I hf st hg;subst hP hw hK;obtain⟨f0,f1,f2,f3,f4,f5⟩:=hf it ζ;have W:=Walks.dictKeys (prog:=X.prog) (w:=X.w) (knd:=cL X.prog X.w) (I.ok.hd hc) it d a7 vs ep;replace hg:i<(vs.map (·.1)).length:=hg;refine W.item i s _ _ (by rw[AI] at hg;exact hg) st λv h' tk hv dt kk=>?_;obtain⟨k,x,hk,hv⟩:=hv;have I1:Inv X aa σ H { s with heap:=h',toks:=tk }:=I.turned (λb o hb e=>kk b o (by simpa using hb) e) f0 f1 f3 f4 f5;obtain⟨ob,go,gc,gd⟩:=dt.1;refine⟨_,rfl,Sd (s:={ s with heap:=h',toks:=tk }) (n := "dict_keyiterator") go gc gd δ ⟨kV k,H,I1,afE hv,⟨rfl,k,by rw[AZ,hk];rfl,rfl⟩,dt,λb hb=>(hf b hb).1⟩⟩
 done:=by
  intro X hP hw hK hc i aa s σ H E I hf st hg;subst hP hw hK;obtain⟨f0,f1,f2,f3,f4,f5⟩:=hf it ζ;replace hg:(vs.map (·.1)).length<=i:=hg;rw[AI] at hg;exact wpAny_pyNext_dict_end (I.ok.hd hc) st.1 st.2 (FD hg) λh' eb=>⟨rfl,I.turned (t':=s.toks) (λb o hb e=>eb b o hb e) f0 f1 f3 f4 f5⟩
 self:=λA i s Q E st h=>wpAny_pyIter_keyiter st.1 h
abbrev Kd(X:Cx)(d:ID):Cx:={ X with ex:=d::X.ex }
theorem Inv.exD{d:ID}{u:HO}(I:Inv X aa σ H s)(e:H d=GE u):Inv (Kd X d) aa σ H s:=by
 have B:=I.base;have no:∀b,H b=GT->b≠d:=λb h z=>by rw[z,e] at h;cases h
 have ok:(Kd X d).Ok:={ I.ok with
  exf:=λb hb=>by
   rcases AL.mp hb with rfl|hb
   ·exact⟨λz=>no _ I.free z.symm,λx c h z=>no _ (I.freeC x c h) z⟩
   exact I.ok.exf b hb
  noex:=λb o g hb=>by
   rcases AL.mp hb with rfl|hb
   ·exact no _ (I.bs b o g).2 rfl
   exact I.ok.noex b o g hb
  exfs:=λb hb hz=>by
   rcases AL.mp hb with rfl|hb
   ·obtain⟨_,o,ho,_⟩:=I.ok.yP.mem hz;exact no _ (I.base.free b o ho (I.ok.frf b hz) λz=>I.ok.exfs b z hz) rfl
   exact I.ok.exfs b hb hz }
 refine⟨ok,I.os,I.bare,⟨λb o g n h1 h2=>B.keep b o g n h1 (λz=>h2 (AG _ z)),λb o g n h1 h2=>B.slot b o g n h1 (λz=>h2 (AG _ z)),λb o g n h2=>B.free b o g n (λz=>h2 (AG _ z)),λb o g h2=>B.there b o g (λz=>h2 (AG _ z)),B.tups,B.frzs,B.tbls⟩,I.loc,I.cell,I.free,I.freeC,I.pin,I.hok,I.len⟩
theorem Inv.ae8{d:ID}(ok:X.Ok)(h0:X.s₀.heap.get? d=GT)(I:Inv (Kd X d) aa σ H s):Inv X aa σ H s:=by
 have B:=I.base;have nd:∀b o,X.s₀.heap.get? b=GE o->b∉X.ex->b∉(Kd X d).ex:=λb o g h z=>by
  rcases AL.mp z with rfl|z
  ·rw[h0] at g;cases g
  exact h z
 exact⟨ok,I.os,I.bare,⟨λb o g n h1 h2=>B.keep b o g n h1 (nd b o g h2),λb o g n h1 h2=>B.slot b o g n h1 (nd b o g h2),λb o g n h2=>B.free b o g n (nd b o g h2),λb o g h2=>B.there b o g (nd b o g h2),B.tups,B.frzs,B.tbls⟩,I.loc,I.cell,I.free,I.freeC,I.pin,I.hok,I.len⟩
theorem afm{d:ID}(he:PE (Kd X d) e (KD j)):PI (Kd X d) tg e (λσ H R=>σ[j]?=GE (GE (.ref d))/\∃af,H d=GE (.dK af)/\R (Itk (af.map (·.1))) (unt H d)):=by
 intro aa s σ H R I h;obtain⟨hj,af,ed,q⟩:=h;refine thn (he aa s σ H (λx H1=>x=.ref d/\H1=H) I ⟨_,hj,rfl,rfl⟩) λv s1 ⟨x,H1,I1,r1,ex,eH⟩=>?_;subst ex;subst eH;cases r1;obtain⟨z,hd,vs,rel,dd⟩:=ZJ I1.hok ed;obtain⟨o,es,ep,g,hex,zo,hk,hp,eT⟩:=dd;have dat:Heap.DictAt (cL X.prog X.w) s1.heap d vs ep:=⟨o,es,g,hex,zo,hk,hp,eT⟩;have ltd:=Bz g;have I2:=(I1.acq ed).kept (t':=s1.toks) (h':=s1.heap.push { cls:=.type "dict_keyiterator",data:=.fields #[.ref d,.int 0 0,.int (vs.length:Nat) 0,.int (ep:Nat) 0] }) λb o e=>AH _ e;refine wpAny_pyIter_dict hd dat ?_;have jI:af.map (·.1)=vs.map (·.1):=rel.keys;rw[jI] at q;refine⟨s1.heap.objs.size,[s1.heap.objs.size,d],_,_,unt H1 d,rfl,I2,Tj s1.heap.objs.size d (BS ltd) vs ep,⟨⟨_,A7 _ rfl,rfl,rfl⟩,⟨o,es,AH _ g,hex,zo,hk,hp,eT⟩⟩,λb hb=>?_,q⟩;simp only[AL,BC,or_false] at hb;have no:∀b,H1 b=GT->b≠d:=λb h z=>by rw[z,ed] at h;cases h
 rcases hb with rfl|rfl
 ·exact I1.MN (AW _) (by unfold unt;split;rfl;exact I1.hok.fresh (AW _))
 refine⟨KC,λz=>no _ I1.free z.symm,λz=>?_,.inl AJ,λx c h z=>no _ (I1.freeC x c h) z,λp hp z=>no _ (I1.pin p hp).2.1 z⟩;obtain⟨_,o,ho,_⟩:=I1.ok.yP.mem z;exact no _ (I1.base.free b o ho (I1.ok.frf b z) λy=>I1.ok.exfs b y z) rfl
def WL(H₀:Hp)(j:Nat)(mp:List (Option Nat))(g:TG)(tc:TT)(te:TE):TE:=λσ H Q=>∃d af,σ[j]?=GE (GE (.ref d))/\H d=GE (.dK af)/\H₀ d=GT/\NZ mp g tc te σ Q (Itk (af.map (·.1))) (unt H d)
theorem Ym{tg dQ iter:Expr}{dE:List Expr}{scope:F9}{NX:List Str}{kX:List (Str×De)}{g:TG}{tc:TT}{j:Nat}(N:List Str)(mp:List (Option Nat))(j3:X.N=NX)(eI:X.env.scope.names=kX)(S:Bp NX kX N mp scope)(hc:X.calm=true)
  (hv:∀d,PE (Kd X d) iter (KD j))(hg:∀cl C s H fp,PG (cH X N scope cl C s H fp) tg g)(ht:∀cl C s H fp,PTs (cH X N scope cl C s H fp) dE tc)(he:∀cl C s H fp,PE (cH X N scope cl C s H fp) dQ te)(hx:X.ex=[])
  (hs:∀x,D5 iter X.env x=pure x:=by intro _;rfl):PE X (.ListComp dQ [⟨tg,iter,dE,0⟩] scope pos) (WL X.H₀ j mp g tc te):=by
 intro aa s σ H Q I h;obtain⟨d,af,hj,ed,h0,q⟩:=h;have yy:X.s₀.heap.get? d=GT:=by
  cases e:X.s₀.heap.get? d with
  | none=>rfl
  | some o=>
   have:=I.base.free d o e h0 (by rw[hx];exact BC);rw[ed] at this;cases this
 have:=RN (X:=Kd X d) (pos:=pos) N mp j3 eI S hc (afm (hv d)) (λcl C s H fp=>hg cl C s H fp) (λcl C s H fp=>ht cl C s H fp) (λcl C s H fp=>he cl C s H fp) hs aa s σ H Q (I.exD ed) ⟨hj,af,ed,q⟩;exact thE this λv s1 x H1 I1 r1 q1=>⟨x,H1,I1.ae8 I.ok yy,r1,q1⟩
end
def KN:Sp:=λvs H Q _=>∃(s p:V)(ok:ID->Prop)(ss:Sts)(pl:Pl),vs=[s,p]/\iD ok H/\aG ok H s (.list (ss.map stD))/\aG ok H p (plD pl)/\ss.length<=60/\aW pl<=4000/\xH ss pl (AK ss.length) /\
 ∀(v:V) H',Same H H'->aG ok H' v (.list ((bh ss pl (AK ss.length)).map wD))->Q v H'
def encA(A:List (Nat×Nat)):List (Key×V):=A.map λx=>((B6 (x.1:Int):Key),As (x.2:Int))
theorem Vs{A:List (Nat×Nat)}{t:Nat}(h:t∉A.map (·.1)):fL (encA A) (B6 (t:Int))=GT:=by
 induction A with
 | nil=>rfl
 | cons x A ih=>
  rw[DI,AL,not_or] at h;show fL ((B6 (x.1:Int),As (x.2:Int))::encA A) _=_;rw[gF (λz=>h.1 (by have:=B6.inj z;omega))];exact ih h.2
theorem Im{A:List (Nat×Nat)}(eT:(A.map (·.1)).Nodup){x:Nat×Nat}(h:x∈A):fL (encA A) (B6 (x.1:Int))=GE (As (x.2:Int)):=by
 induction A with
 | nil=>cases h
 | cons y A ih=>
  rw[DI,Fk] at eT;show fL ((B6 (y.1:Int),As (y.2:Int))::encA A) _=_;rcases AL.mp h with rfl|h
  ·rw[jx rfl]
  rw[gF (λz=>eT.1 (C8.mpr ⟨x,h,by have:=B6.inj z;omega⟩))];exact ih eT.2 h
theorem ZF{A:List (Nat×Nat)}{t:Nat}(h:t∉A.map (·.1)):putK (encA A) (B6 (t:Int)) (As (i:Int))=encA (A++[(t,i)]):=by
 rw[Lq _ (Vs h)];unfold encA;rw[BH];rfl
theorem ZG(A:List (Nat×Nat)):(encA A).length=A.length:=by unfold encA;rw[AI]
def iG:Pl->Bool
 | .pick _=>true
 | .tab=>true
 | _=>false
def Sh(ss:Sts)(C:List (List Nat×Pl)):List (List Nat×Pl):=(C.map λx=>bh ss x.2 x.1).flatten
def oG(S:List (List Nat×Pl)):Nat->Bool
 | 0=>false
 | i+1=>match S[i]? with
  | some x=>iG x.2
  | none=>false
structure BW(ss:Sts)(S:List (List Nat×Pl))(gp:List (Nat×Nat))(i:Nat)(C:List (List Nat×Pl))(T:List Nat)(done:List (Nat×Nat)):Prop where
 fl:S.drop i=Sh ss C
 no:oG S i=false->T.length+1=C.length/\gp=done++yO (C.map (·.2)) T i
 yes:oG S i=true->T.length=C.length/\((C=[]/\gp=done)\/∃t T',T=t::T'/\gp=done++(t,i)::yO (C.map (·.2)) T' i)
theorem ql(ss:Sts)(x:List Nat×Pl)(C:List (List Nat×Pl)):Sh ss (x::C)=bh ss x.2 x.1++Sh ss C:=rfl
theorem acB{S R:List α}{x:α}(h:S.drop i=x::R):S[i]?=GE x/\S.drop (i+1)=R:=by
 have hi:i<S.length:=by
  rcases Fu i S.length with z|z
  ·exact z
  rw[HE z] at h;cases h
 rw[Hd hi] at h;injection h with h1 h2;exact⟨by rw[AC hi,h1],h2⟩
theorem BW.start(ss:Sts)(q:Pl)(left:List Nat):BW ss (bh ss q left) (bU q 0) 0 [(left,q)] [] []:=by
 refine⟨by rw[List.drop_zero];exact(DH _).symm,λ_=>⟨rfl,?_⟩,λh=>by cases h⟩;show _=[]++yO [q] [] 0;rw[G0,MJ]
theorem BW.step{ss:Sts}{S:List (List Nat×Pl)}{gp:List (Nat×Nat)}{i:Nat}{C:List (List Nat×Pl)}{T:List Nat}{done:List (Nat×Nat)}(h:BW ss S gp i C T done){x:List Nat×Pl}(hx:S[i]?=GE x) :
  ∃T1 ay,((oG S i=false/\T1=T/\ay=done)\/(oG S i=true/\∃t,T=t::T1/\ay=done++[(t,i)]))/\(∃r,gp=ay++r) /\
   ((∃k a b,x.2=.low k a b/\∃C',BW ss S gp (i+1) C' (i::T1) ay)\/((∀k a b,x.2≠.low k a b)/\∃C',BW ss S gp (i+1) C' T1 ay)):=by
 have hi:i<S.length:=(AB.mp hx).1;cases C with
 | nil=>
  have:=h.fl;rw[Hd hi] at this;cases this
 | cons y rest=>
  obtain⟨left,q⟩:=y;have hf:S.drop i=(left,q)::(jy ss (kids ss q left)++Sh ss rest):=by
   rw[h.fl,ql];show bh ss q left++_=_;rw[qx];rfl
  obtain⟨h1,h2⟩:=acB hf;rw[hx] at h1;cases h1;have sK:oG S (i+1)=iG q:=by
   show(match S[i]? with|some x=>iG x.2|none=>false)=_
   rw[hx]
  obtain⟨T1,ay,hc,hT,ia⟩:∃T1 ay,((oG S i=false/\T1=T/\ay=done)\/(oG S i=true/\∃t,T=t::T1/\ay=done++[(t,i)]))/\T1.length=rest.length/\gp=ay++yO (q::rest.map (·.2)) T1 i:=by
   cases hl:oG S i with
   | false=>
    obtain⟨g1,g2⟩:=h.no hl;exact⟨T,done,.inl ⟨rfl,rfl,rfl⟩,by simpa using g1,g2⟩
   | true=>
    obtain⟨g1,g2⟩:=h.yes hl;rcases g2 with⟨z,_⟩|⟨t,T',rfl,g3⟩
    ·cases z
    refine⟨T',done++[(t,i)],.inr ⟨rfl,t,rfl,rfl⟩,by simpa using g1,?_⟩;rw[g3,CS];rfl
  refine⟨T1,ay,hc,⟨_,ia⟩,?_⟩;have one:∀r l2,kids ss q left=[(l2,r)]->bU q i=bU r (i+1)->aW q=aW r+1->iG q=false->∃C',BW ss S gp (i+1) C' T1 ay:=λr l2 hk ha hs hl=>by
   refine⟨(l2,r)::rest,?_,λ_=>⟨by rw[BG,hT],?_⟩,λz=>by rw[sK,hl] at z;cases z⟩
   ·rw[h2,hk,nF,ql]
   rw[ia,acp ha hs];rfl
  have leaf:iG q=true->aW q=1->bU q i=[]->kids ss q left=[]->∃C',BW ss S gp (i+1) C' T1 ay:=λhl hs ha hk=>by
   refine⟨rest,by rw[h2,hk];rfl,λz=>(by rw[sK,hl] at z;cases z),λ_=>⟨hT,?_⟩⟩;cases rest with
   | nil=>
    refine .inl ⟨rfl,?_⟩;rw[ia];show ay++yO [q] T1 i=ay;rw[MJ,ha,DH]
   | cons z rest'=>
    cases T1 with
    | nil=>cases hT
    | cons t T'=>
     refine .inr ⟨t,T',rfl,?_⟩;rw[ia];show ay++yO (q::z.2::rest'.map (·.2)) (t::T') i=_;rw[Ii,ha,hs];rfl
  cases q with
  | pick l=>exact .inr ⟨(λ_ _ _ z=>nomatch z),leaf rfl rfl rfl rfl⟩
  | tab=>exact .inr ⟨(λ_ _ _ z=>nomatch z),leaf rfl rfl rfl rfl⟩
  | one k r=>exact .inr ⟨(λ_ _ _ z=>nomatch z),one r _ rfl rfl rfl rfl⟩
  | wit k r=>exact .inr ⟨(λ_ _ _ z=>nomatch z),one r _ rfl rfl rfl rfl⟩
  | msk l r=>exact .inr ⟨(λ_ _ _ z=>nomatch z),one r _ rfl rfl rfl rfl⟩
  | low k a b=>
   refine .inl ⟨k,a,b,rfl,(left.filter (k<=·),b)::(left.filter (· < k),a)::rest,?_,λ_=>⟨by rw[BG,BG,BG,hT],?_⟩,λz=>by rw[sK] at z;cases z⟩
   ·rw[h2];show jy ss [(left.filter (· < k),a),(left.filter (k<=·),b)]++_=_;rw[show [(left.filter (· < k),a),(left.filter (k<=·),b)]=[(left.filter (· < k),a)]++[(left.filter (k<=·),b)] from rfl,wk,nF,nF,ql,ql,CS]
   rw[ia,Zq];rfl
theorem BW.fin{ss:Sts}{S:List (List Nat×Pl)}{gp:List (Nat×Nat)}{C:List (List Nat×Pl)}{T:List Nat}{done:List (Nat×Nat)}(h:BW ss S gp S.length C T done)(hS:S≠[])(eD:oG S S.length=true):gp=done:=by
 obtain⟨g1,g2⟩:=h.yes eD;rcases g2 with⟨_,z⟩|⟨t,T',rfl,_⟩
 ·exact z
 cases C with
 | nil=>cases g1
 | cons y rest=>
  have:=h.fl;rw[List.drop_length,ql,qx] at this;cases this
theorem qd(ss:Sts):∀(q:Pl)(left:List Nat),∃S' x,bh ss q left=S'++[x]/\iG x.2=true
 | .pick l,left=>⟨[],(left,.pick l),rfl,rfl⟩
 | .tab,left=>⟨[],(left,.tab),rfl,rfl⟩
 | .one k r,left=>by
  obtain⟨S',x,h1,h2⟩:=qd ss r (left.filter (·≠k));exact⟨(left,.one k r)::S',x,by show _::bh ss r _=_;rw[h1];rfl,h2⟩
 | .wit k r,left=>by
  obtain⟨S',x,h1,h2⟩:=qd ss r (left.filter (·≠k));exact⟨(left,.wit k r)::S',x,by show _::bh ss r _=_;rw[h1];rfl,h2⟩
 | .msk l r,left=>by
  obtain⟨S',x,h1,h2⟩:=qd ss r (left.filter λk=>(aO ss k).2.2≠l);exact⟨(left,.msk l r)::S',x,by show _::bh ss r _=_;rw[h1];rfl,h2⟩
 | .low k a b,left=>by
  obtain⟨S',x,h1,h2⟩:=qd ss a (left.filter (· < k));exact⟨(left,.low k a b)::(bh ss b (left.filter (k<=·))++S'),x,by show _::(bh ss b _++bh ss a _)=_;rw[h1,cons_append,CS],h2⟩
theorem PB(ss:Sts)(q:Pl)(left:List Nat):oG (bh ss q left) (bh ss q left).length=true:=by
 obtain⟨S',x,h1,h2⟩:=qd ss q left;rw[h1,AN,AQ];show(match (S'++[x])[S'.length]? with|some x=>iG x.2|none=>false)=true
 rw[BF (AW _),HR];exact h2
def Rn:Sp:=λvs H Q _=>∃(l:ID)(ok:ID->Prop)(ss:Sts)(pl:Pl)(left:List Nat),vs=[.ref l]/\aG ok H (.ref l) (.list ((bh ss pl left).map wD))/\aW pl<=4000 /\
 ∀(d:ID) H',Same H H'->H d=GT->H' d=GE (.dK (encA (bU pl 0)))->Q (.ref d) H'
theorem aN.cI{ok:ID->Prop}{H:Hp}{xs:List V}{d:A9}{ds:List A9}(t:aN ok H xs (d::ds)):∃x r,xs=x::r/\aG ok H x d/\aN ok H r ds:=by
 cases t with
 | cons h r=>exact⟨_,_,rfl,h,r⟩
theorem aG.pB{ok:ID->Prop}{H:Hp}{x:V}{ds:List A9}(t:aG ok H x (.tuple ds)):∃p xs,x=.ref p/\H p=GE (.tup xs)/\aN ok H xs ds:=by
 cases t with
 | tup o e z ts=>exact⟨_,_,rfl,e,ts⟩
theorem Tf{p:Pl}(h:∀k a b,p≠.low k a b):dj p ≠ "below" := by
 cases p with
 | low k a b=>exact absurd rfl (h k a b)
 | pick l=>exact(by decide +kernel:("pick" : Str) ≠ "below")
 | one k r=>exact(by decide +kernel:("is" : Str) ≠ "below")
 | wit k r=>exact(by decide +kernel:("within" : Str) ≠ "below")
 | msk l r=>exact(by decide +kernel:("mask" : Str) ≠ "below")
 | tab=>exact(by decide +kernel:("table" : Str) ≠ "below")
theorem U9(p:Pl):([("pick" : Str), "table"].any λw=>decide (dj p=w))=iG p:=by
 cases p with
 | low k a b=>exact(by decide +kernel:([("pick" : Str), "table"].any λw=>decide (("below" : Str)=w))=false)
 | pick l=>exact(by decide +kernel:([("pick" : Str), "table"].any λw=>decide (("pick" : Str)=w))=true)
 | one k r=>exact(by decide +kernel:([("pick" : Str), "table"].any λw=>decide (("is" : Str)=w))=false)
 | wit k r=>exact(by decide +kernel:([("pick" : Str), "table"].any λw=>decide (("within" : Str)=w))=false)
 | msk l r=>exact(by decide +kernel:([("pick" : Str), "table"].any λw=>decide (("mask" : Str)=w))=false)
 | tab=>exact(by decide +kernel:([("pick" : Str), "table"].any λw=>decide (("table" : Str)=w))=true)
def gY(PL:List Int)(l:Int):List Int:=if l∈PL then PL else PL++[l]
def jG(ss:Sts)(S:List (List Nat×Pl)):List Int:=(S.flatMap λx=>jV ss x.1 x.2).foldl gY []
theorem aao(PL:List Int)(l:Int):l∈gY PL l/\∀x∈PL,x∈gY PL l:=by
 unfold gY;split
 ·rename_i h;exact⟨h,λx hx=>hx⟩
 exact⟨A4 _ (AA.mpr Z),λx hx=>BN _ hx⟩
theorem acP(h:PL.Nodup)(l:Int):(gY PL l).Nodup:=by
 unfold gY;split
 ·exact h
 rename_i hl;rw[GO];refine⟨h,Fk.mpr ⟨BC,HU⟩,λx hx y hy z=>hl ?_⟩;rw[AA.mp hy] at z;rw[<- z];exact hx
theorem M4(L:List Int):∀PL:List Int,PL.Nodup->(L.foldl gY PL).Nodup/\(∀x∈PL,x∈L.foldl gY PL)/\(∀x∈L,x∈L.foldl gY PL)/\∀x∈L.foldl gY PL,x∈PL\/x∈L:=by
 induction L with
 | nil=>exact λPL h=>⟨h,λx hx=>hx,λx hx=>absurd hx BC,λx hx=>.inl hx⟩
 | cons l L ih=>
  intro PL h;obtain⟨h1,h2,h3,h4⟩:=ih (gY PL l) (acP h l);obtain⟨m1,m2⟩:=aao PL l;refine⟨h1,λx hx=>h2 x (m2 x hx),λx hx=>?_,λx hx=>?_⟩
  ·rcases AL.mp hx with rfl|hx
   ·exact h2 x m1
   exact h3 x hx
  rcases h4 x hx with z|z
  ·unfold gY at z;split at z
   ·exact .inl z
   rcases BA.mp z with z|z
   ·exact .inl z
   exact .inr (by rw[AA.mp z];exact AJ)
  exact .inr (AG _ z)
theorem sy{ss:Sts}{S:List (List Nat×Pl)}{x:List Nat×Pl}(hx:x∈S)(hl:l∈jV ss x.1 x.2):l∈jG ss S:=(M4 _ [] HU).2.2.1 l (List.mem_flatMap.mpr ⟨x,hx,hl⟩)
def qp:Nat->List Int->List (Key×V)
 | _,[]=>[]
 | m,l::r=>((B6 l:Key),As (m:Int))::qp (m+1) r
theorem Ik:∀(m:Nat)(PL:List Int)(l:Int),qp m (PL++[l])=qp m PL++[((B6 l:Key),As ((m+PL.length:Nat):Int))]
 | m,[],l=>rfl
 | m,x::r,l=>by
  show _::qp (m+1) (r++[l])=_::(qp (m+1) r++_);rw[Ik (m+1) r l,BG,show m+1+r.length=m+(r.length+1) by omega]
theorem Fp:∀(m:Nat)(PL:List Int),(qp m PL).length=PL.length
 | m,[]=>rfl
 | m,x::r=>by show(qp (m+1) r).length+1=r.length+1;rw[Fp]
theorem Il:∀(m:Nat)(PL:List Int),(qp m PL).map (·.1)=PL.map λl=>(B6 l:Key)
 | m,[]=>rfl
 | m,x::r=>by show _::(qp (m+1) r).map (·.1)=_::r.map _;rw[Il]
def gP(m:Nat)(PL:List Int)(l:Int):Int:=((m+PL.idxOf l:Nat):Int)
theorem nj:∀{PL:List Int}(m:Nat){l:Int},l∈PL->fL (qp m PL) (B6 l)=GE (As (gP m PL l))
 | [],m,l,h=>by cases h
 | x::r,m,l,h=>by
  show fL ((B6 x,As (m:Int))::qp (m+1) r) _=_;by_cases c:x=l
  ·rw[jx (by rw[c])];unfold gP;rw[c,List.idxOf_cons_self];rfl
  rw[gF (λz=>c (B6.inj z))];rcases AL.mp h with z|z
  ·exact absurd z.symm c
  rw[nj (m+1) z];unfold gP;rw[show(x::r).idxOf l=r.idxOf l+1 by rw[List.idxOf_cons,show(x == l)=false from beq_eq_false_iff_ne.mpr c];rfl,show m+1+r.idxOf l=m+(r.idxOf l+1) by omega]
theorem Af:∀{PL:List Int}(m:Nat){l:Int},l∉PL->fL (qp m PL) (B6 l)=GT
 | [],m,l,h=>rfl
 | x::r,m,l,h=>by
  show fL ((B6 x,As (m:Int))::qp (m+1) r) _=_;rw[AL,not_or] at h;rw[gF (λz=>h.1 (B6.inj z).symm),Af (m+1) h.2]
def acV:Sp:=λvs H Q _=>∃(s l p:V)(ok:ID->Prop)(ss:Sts)(left:List Nat)(pl:Pl),vs=[s,l,p]/\aG ok H s (.list (ss.map stD))/\aG ok H l (oF left)/\aG ok H p (plD pl)/\Lf ss left/\VL ss left pl /\
 ∀(a:ID) H',Same H H'->H a=GT->H' a=GE (.lst ((jV ss left pl).map As))->Q (.ref a) H'
def Jm:Sp:=λvs H Q _=>∃(s l:V)(ok:ID->Prop)(ss:Sts)(left:List Nat),vs=[s,l]/\aG ok H s (.list (ss.map stD))/\aG ok H l (oF left)/\Lf ss left /\
 ∀(a:ID),H a=GT->Q (.ref a) (upd H a (.lst ((left.map (lbl ss)).map As)))
def K1:Sp:=λvs H Q _=>∃(s:V)(l:ID)(ok:ID->Prop)(ss:Sts)(S:List (List Nat×Pl)),vs=[s,.ref l]/\aG ok H s (.list (ss.map stD))/\aG ok H (.ref l) (.list (S.map wD))/\(∀x∈S,Lf ss x.1/\VL ss x.1 x.2)/\S.length<=1000000/\(jG ss S).length<=1000000 /\
 ∀(d:ID) H',Same H H'->H d=GT->H' d=GE (.dK (qp S.length (jG ss S)))->Q (.ref d) H'
def adl:A9->Option V
 | .int i=>GE (.int i)
 | .str z=>GE (.str z)
 | _=>GT
theorem aG.sc2{ok:ID->Prop}{H:Hp}{x v:V}{d:A9}(t:aG ok H x d)(h:adl d=GE v):x=v:=by
 cases t with
 | int i=>exact A0 h
 | str z=>exact A0 h
 | _=>cases h
def aeI:Pl->Bool
 | .one _ _=>true
 | .wit _ _=>true
 | _=>false
theorem ach(p:Pl):([("is" : Str), "within"].any λw=>decide (dj p=w))=aeI p:=by
 cases p with
 | low k a b=>exact(by decide +kernel:([("is" : Str), "within"].any λw=>decide (("below" : Str)=w))=false)
 | pick l=>exact(by decide +kernel:([("is" : Str), "within"].any λw=>decide (("pick" : Str)=w))=false)
 | one k r=>exact(by decide +kernel:([("is" : Str), "within"].any λw=>decide (("is" : Str)=w))=true)
 | wit k r=>exact(by decide +kernel:([("is" : Str), "within"].any λw=>decide (("within" : Str)=w))=true)
 | msk l r=>exact(by decide +kernel:([("is" : Str), "within"].any λw=>decide (("mask" : Str)=w))=false)
 | tab=>exact(by decide +kernel:([("is" : Str), "within"].any λw=>decide (("table" : Str)=w))=false)
theorem Zw{L M:List Int}(h:PL.Nodup):(L.foldl gY PL).length<=((L++M).foldl gY PL).length:=by
 rw[II];obtain⟨h1,_⟩:=M4 L PL h;exact B8.length_le_of_subset h1 λx hx=>(M4 M _ h1).2.1 x hx
theorem ZD(h:l∉PL):putK (qp m PL) (B6 l) (As ((m:Int)+(PL.length:Int)))=qp m (gY PL l):=by
 rw[Lq _ (Af m h)];unfold gY;rw[if_neg h,Ik,Int.natCast_add]
def Rf:Sp:=λvs H Q _=>∃(s l:V)(m g:Int)(ok:ID->Prop)(ss:Sts)(left:List Nat),vs=[s,l,.int m,.int g]/\aG ok H s (.list (ss.map stD))/\aG ok H l (oF left)/\Lf ss left/\dF ss/\dN ss left<=64 /\
 ∀(a:ID),H a=GT->Q (.ref a) (upd H a (.tup [.str "mask",.int (bT ss left),.int (dN ss left),.int (oZ ss left m:Nat),.int g]))
def KJ:Sp:=λvs H Q _=>∃(s l:V)(d:ID)(n:Nat)(PL:List Int)(ok:ID->Prop)(ss:Sts)(left:List Nat),vs=[s,l,.ref d]/\aG ok H s (.list (ss.map stD))/\aG ok H l (oF left)/\H d=GE (.dK (qp n PL))/\Lf ss left/\dF ss/\dN ss left<=200 /\
 (∀j:Nat,bZ left<=j->j<=eN left->lbl ss j∈PL) /\
 ∀(a t:ID)(H':Hp),Same H H'->H a=GT->H' a=GE (.tup [.str "table",.int (bT ss left),.ref t])->H t=GT->H' t=GE (.tup ((mG ss (gP n PL) left).map As))->Q (.ref a) H'
theorem acG(xs:List V)(a b:Nat)(h:a<=b)(hb:b<xs.length):oK xs (GE (a:Int)) (GE ((b:Int)+1))=(xs.drop a).take (b+1-a):=by
 unfold oK;have e1:HT.sIx xs.length 0 (GE (a:Int))=a:=by
  simp only[HT.sIx];split
  ·omega
  omega
 have e2:HT.sIx xs.length xs.length (GE ((b:Int)+1))=b+1:=by
  simp only[HT.sIx];split
  ·omega
  omega
 rw[e1,e2]
def Rb:Sp:=λvs H Q _=>∃(s l p av:V)(A:Int)(d:ID)(n:Nat)(PL:List Int)(ok:ID->Prop)(ss:Sts)(left:List Nat)(pl:Pl),vs=[s,l,p,av,.ref d]/\iD ok H/\aG ok H s (.list (ss.map stD))/\aG ok H l (oF left)/\aG ok H p (plD pl)/\H d=GE (.dK (qp n PL))/\Lf ss left/\dF ss/\VL ss left pl /\
 (∀k a b,pl=.low k a b->av=.int A)/\(∀x∈jV ss left pl,x∈PL)/\(pl=.tab->∀j:Nat,bZ left<=j->j<=eN left->lbl ss j∈PL) /\
 ∀v H',Same H H'->aG ok H' v (iB (rowOf ss (gP n PL) left A pl))->Q v H'
theorem X3(N:List Str)(mp:List (Option Nat))(j3:X.N=NX)(eI:X.env.scope.names=kX)(S:Bp NX kX N mp scope)(hc:X.calm=true)
  (hv:∀d,QE (Kd X d) iter (KD j))(hg:∀cl C s H fp,QG (cH X N scope cl C s H fp) tg g)(ht:∀cl C s H fp,QC (cH X N scope cl C s H fp) dE tc)(he:∀cl C s H fp,QE (cH X N scope cl C s H fp) dQ te)(hx:X.ex=[])
  (hs:∀x,D5 iter X.env x=pure x:=by intro _;rfl):QE X (.ListComp dQ [⟨tg,iter,dE,0⟩] scope pos) (WL X.H₀ j mp g tc te):=
 ⟨Ym N mp j3 eI S hc (λd=>(hv d).h) (λcl C s H fp=>(hg cl C s H fp).h) (λcl C s H fp=>(ht cl C s H fp).h) (λcl C s H fp=>(he cl C s H fp).h) hx hs⟩
def qM(ss:Sts)(pl:Pl):List Int:=jG ss (bh ss pl (AK ss.length))
def cJ(ss:Sts)(pl:Pl):List RowC:=iM ss (gP (aW pl) (qM ss pl)) pl (AK ss.length) 0++(qM ss pl).map RowC.pik
def KR:Sp:=λvs H Q _=>∃(s p:V)(ok:ID->Prop)(ss:Sts)(pl:Pl),vs=[s,p]/\iD ok H/\aG ok H s (.list (ss.map stD))/\aG ok H p (plD pl)/\ss.length<=60/\aW pl<=130/\PlV ss pl (AK ss.length)/\dF ss /\
 ∀(l:ID)(xs:List V) H',Same H H'->H l=GT->H' l=GE (.lst xs)->aN (λa=>ok a/\a≠l) H' xs ((cJ ss pl).map iB)->Q (.ref l) H'
def af8:Option V->Int
 | some (.int t)=>t
 | _=>0
def ahA(L:List (Nat×Nat))(i:Nat):Int:=af8 (fL (encA L) (B6 (i:Int)))
theorem ae2{L:List (Nat×Nat)}(eT:(L.map (·.1)).Nodup){x:Nat×Nat}(h:x∈L):ahA L x.1=(x.2:Int):=by
 unfold ahA;rw[Im eT h];rfl
theorem zT(ss:Sts):∀(q:Pl)(left:List Nat)(p j:Nat)(l':List Nat)(k:Nat)(a b:Pl),(bh ss q left)[j]?=GE (l',.low k a b)->∃t,(p+j,t)∈bU q p
 | .pick l,left,p,j,l',k,a,b,h=>by
  cases j with
  | zero=>cases h
  | succ j=>cases h
 | .tab,left,p,j,l',k,a,b,h=>by
  cases j with
  | zero=>cases h
  | succ j=>cases h
 | .one m r,left,p,j,l',k,a,b,h=>by
  cases j with
  | zero=>cases h
  | succ j=>
   obtain⟨t,ht⟩:=zT ss r (left.filter (·≠m)) (p+1) j l' k a b h;exact⟨t,by rw[show p+(j+1)=p+1+j by omega];exact ht⟩
 | .wit m r,left,p,j,l',k,a,b,h=>by
  cases j with
  | zero=>cases h
  | succ j=>
   obtain⟨t,ht⟩:=zT ss r (left.filter (·≠m)) (p+1) j l' k a b h;exact⟨t,by rw[show p+(j+1)=p+1+j by omega];exact ht⟩
 | .msk m r,left,p,j,l',k,a,b,h=>by
  cases j with
  | zero=>cases h
  | succ j=>
   obtain⟨t,ht⟩:=zT ss r (left.filter λk=>(aO ss k).2.2≠m) (p+1) j l' k a b h;exact⟨t,by rw[show p+(j+1)=p+1+j by omega];exact ht⟩
 | .low m x y,left,p,j,l',k,a,b,h=>by
  cases j with
  | zero=>exact⟨p+1+aW y,A4 _ AJ⟩
  | succ j=>
   replace h:(bh ss y (left.filter (m<=·))++bh ss x (left.filter (· < m)))[j]?=GE (l',.low k a b):=h;rcases Fu j (bh ss y (left.filter (m<=·))).length with z|z
   ·rw[C0 z] at h;obtain⟨t,ht⟩:=zT ss y _ (p+1) j l' k a b h;exact⟨t,BN _ (by rw[show p+(j+1)=p+1+j by omega];exact ht)⟩
   rw[BF z] at h;rw[gm] at h z;obtain⟨t,ht⟩:=zT ss x _ (p+1+aW y) (j-aW y) l' k a b h;exact⟨t,A4 _ (AG _ (by rw[show p+(j+1)=p+1+aW y+(j-aW y) by omega];exact ht))⟩
theorem Ou(s:b7 a H1 H2)(s1:Same H H1)(h:H a=GT):Same H H2:=λb o e=>s b o (aF e h) (s1 b o e)
theorem Lf.len{ss:Sts}{left:List Nat}(lf:Lf ss left):left.length<=ss.length:=by
 have h1:left.Nodup:=lf.up.imp λh=>BS h;have:=B8.length_le_of_subset h1 (l₂:=AK ss.length) λx hx=>FL.mpr (lf.lt x hx);rwa [DL] at this
theorem Vp(L:List Int):∀PL:List Int,(L.foldl gY PL).length<=PL.length+L.length:=by
 induction L with
 | nil=>exact λPL=>AW _
 | cons l L ih=>
  intro PL;have h1:=ih (gY PL l);have h2:(gY PL l).length<=PL.length+1:=by
   unfold gY;split
   ·omega
   rw[AN,AQ];omega
  rw[List.foldl_cons,BG];omega
theorem acd{ss:Sts}{left:List Nat}(lf:Lf ss left)(q:Pl):(jV ss left q).length<=ss.length:=by
 have h1:=lf.len;have h2:1<=left.length:=D3.mpr lf.ne;cases q with
 | tab=>show(left.map (lbl ss)).length<=_;rw[AI];exact h1
 | pick l=>exact D6 _
 | low k a b=>exact D6 _
 | one k r=>show 1<=_;omega
 | wit k r=>show 1<=_;omega
 | msk k r=>show 1<=_;omega
theorem M6{α:Type}{β:Type}(f:α->List β){n:Nat}:∀{S:List α},(∀x∈S,(f x).length<=n)->(S.flatMap f).length<=n*S.length
 | [],_=>D6 _
 | x::S,h=>by
  have h1:=M6 f (S:=S) λy hy=>h y (AG _ hy);have h2:=h x AJ;rw[List.flatMap_cons,AN,BG,Nat.mul_succ];omega
theorem Hg{ss:Sts}{S:List (List Nat×Pl)}(gI:ss.length<=60)(h:∀x∈S,Lf ss x.1/\VL ss x.1 x.2):(jG ss S).length<=60*S.length:=by
 have h1:=Vp (S.flatMap λx=>jV ss x.1 x.2) [];have h2:=M6 (λx:List Nat×Pl=>jV ss x.1 x.2) (n:=60) (S:=S) λx hx=>Cn (acd (h x hx).1 x.2) gI;unfold jG;rw[length_nil] at h1;omega
theorem FT{ss:Sts}{g:Int->Int}{A:Nat->Int}{S:List (List Nat×Pl)}{x:List Nat×Pl}(h:S[i]?=GE x):dM ss g A 0 (S.take (i+1))=dM ss g A 0 (S.take i)++[rowOf ss g x.1 (A i) x.2]:=by
 have hi:=(AB.mp h).1;rw[F2,h,qy,FM,Nat.min_eq_left ω,F4];rfl
theorem VR(ss:Sts)(PL:List Int):Btw ss PL (AK ss.length):=λa _ b hb j _ h2=>.inl (FL.mpr (CM h2 (FL.mp hb)))
theorem Q6{ss:Sts}{pl:Pl}{x:List Nat×Pl}(lf:Lf ss x.1)(hx:x∈bh ss pl (AK ss.length))(ht:x.2=.tab)(j:Nat)(h1:bZ x.1<=j)(h2:j<=eN x.1):lbl ss j∈jG ss (bh ss pl (AK ss.length)):=by
 rcases nA (VR ss (jG ss (bh ss pl (AK ss.length)))) (λy hy l hl=>sy hy hl) x hx _ (kO lf.ne) _ (dZ lf.ne) j h1 h2 with z|z
 ·refine sy hx ?_;rw[ht];exact C8.mpr ⟨j,z,rfl⟩
 exact z
def G5:Sp:=λvs H Q _=>∃(p:ID)(lo hi B:Int),vs=[.ref p,.int lo,.int hi]/\cu H p B/\0<=B/\B<=900000/\lo<=hi/\hi-lo<2^60 /\
 ∀(a:ID)(ns:List Int) H',b7 p H H'->cu H' p (B+2)->a≠p->H' a=GE (.lst (ns.map As))->ns.length=5->(∀n∈ns,lo<=n/\n<=hi)->Q (.ref a) H'
theorem ZQ(xs:List V):oK xs GT (GE (-1))=xs.dropLast:=by
 unfold oK;have e1:HT.sIx xs.length 0 GT=0:=by simp[HT.sIx]
 have e2:HT.sIx xs.length xs.length (GE (-1))=xs.length-1:=by
  simp only[HT.sIx];split
  ·omega
  omega
 rw[e1,e2,List.drop_zero,Nat.sub_zero,List.dropLast_eq_take]
def uG(n:Nat):Sp:=λvs H Q _=>∃(p:ID)(s l:V)(B:Int)(ss:Sts)(left:List Nat),vs=[.ref p,s,l]/\cu H p B/\0<=B/\B+12*(left.length:Int)<=900000/\aG (·≠p) H s (.list (ss.map stD))/\aG (·≠p) H l (oF left)/\Lf ss left/\left.length<=n/\left.length<=60 /\
 ∀(v:V)(pl:Pl) H',b7 p H H'->cu H' p (B+12*(left.length:Int)-6)->aG (·≠p) H' v (plD pl)->PlV ss pl left->Dq pl<left.length->aW pl+1<=2*left.length->Q v H'
section
variable{o:Expr}
theorem Yq:OpR X (B0 .IsNot) (λx y H Q=>∃a b,x=.bl a/\y=.bl b/\Q (.bl (!decide (a=b))) H):=by
 intro aa s σ H x y v u Q I rx ry h;obtain⟨a,b,rfl,rfl,q⟩:=h;cases rx;cases ry;cases a <;> cases b <;> exact AF ⟨.bl _,H,I,rfl,q⟩
end
def FJ(many own:Int):RowC->Prop
 | .one _ t=>btw own many t=true
 | .rng a b t=>a<=b/\btw own many t=true
 | .low _ t=>btw own many t=true
 | .msk _ wd bits t=>(1<=wd/\wd<=64)/\(0<=bits/\bits<2^wd.toNat)/\btw own many t=true
 | .tab _ gs=>gs≠[]/\gs.all (btw own many)=true
 | .pik l=>0<=l
theorem Xj{many own:Int}{c:RowC}(h:FJ many own c):qC (iB c)=true/\(wO (iB c)).all (btw own many)=true:=by
 have key:∀(w:Str)(is:List Int),w ≠ "table" -> zf w is=true->(Mv w is).all (btw own many)=true->qC (.tuple (.str w::is.map A9.int))=true/\(wO (.tuple (.str w::is.map A9.int))).all (btw own many)=true:=by
  intro w is hw hs hg;refine⟨by rw[K5 hw];exact hs,?_⟩;unfold wO;simp only[if_neg hw,Dw];exact hg
 cases c with
 | one n t=>
  exact key "is" [n,t] ψ (by rw[vG (.inl Z)];rfl) (by rw[qT ψ (show [n,t].getLast?=GE t from Z)];simp[show btw own many t=true from h])
 | low n t=>
  exact key "below" [n,t] ψ (by rw[vG (.inr Z)];rfl) (by rw[qT ψ (show [n,t].getLast?=GE t from Z)];simp[show btw own many t=true from h])
 | rng a b t=>
  exact key "within" [a,b,t] ψ (by rw[Js];exact decide_eq_true h.1) (by rw[qT ψ (show [a,b,t].getLast?=GE t from Z)];simp[h.2])
 | msk lo wd bits t=>
  refine key "mask" [lo,wd,bits,t] ψ ?_ (by rw[qT ψ (show [lo,wd,bits,t].getLast?=GE t from Z)];simp[h.2.2]);rw[Oj];show((decide (1<=wd)&&decide (wd<=64))&&(decide (0<=bits)&&decide (bits<2^wd.toNat)))=true;rw[decide_eq_true h.1.1,decide_eq_true h.1.2,decide_eq_true h.2.1.1,decide_eq_true h.2.1.2];rfl
 | pik l=>
  exact key "pick" [l] ψ (by show(decide (("pick" : Str) = "pick")&&decide (0<=l))=true;rw[decide_eq_true rfl,decide_eq_true (show 0<=l from h)];rfl) (by rw[show Mv "pick" [l]=[] from if_pos rfl];rfl)
 | tab lo gs=>
  obtain⟨hn,hg⟩:=h;have he:(gs.map A9.int).isEmpty=false:=by
   cases gs with
   | nil=>exact absurd rfl hn
   | cons a b=>rfl
  refine⟨?_,?_⟩
  ·show qC (.tuple (.str "table" :: [.int lo,.tuple (gs.map A9.int)]))=true;rw[Jt,Wq,he,zW];rfl
  show(wO (.tuple (.str "table" :: [.int lo,.tuple (gs.map A9.int)]))).all (btw own many)=true;unfold wO Wr;simp only[if_true,he,zW,D4,Bool.and_self,getD_some,Dw];exact hg
theorem FJ.c{many own:Int}{c:RowC}(h:FJ many own c):ur many own c:=by
 cases c with
 | one n t=>exact h
 | low n t=>exact h
 | rng a b t=>exact h.2
 | msk lo wd bits t=>exact⟨h.2.2,h.1.1,h.1.2,h.2.1.1⟩
 | tab lo gs=>exact h.2
 | pik l=>trivial
theorem T5{cs:List RowC}(h1:cs≠[])(h:∀(j:Nat) c,cs[j]?=GE c->FJ cs.length j c):Cj (.list (cs.map iB))=true/\iC cs:=by
 refine⟨(PN (λz=>h1 (KB.mp z))).mpr λj d hd=>?_,D3.mpr h1,λj c hc=>(h j c hc).c⟩;rw[AZ] at hd;obtain⟨c,hc,rfl⟩:=B5.mp hd;rw[AI];exact Xj (h j c hc)
theorem Xi{ss:Sts}(rs:dF ss){g:Int->Int}{many:Int}:∀(q:Pl)(left:List Nat)(p:Nat),PlV ss q left ->
  (∀x∈bh ss q left,(∀l∈jV ss x.1 x.2,((p+aW q:Nat):Int)<=g l/\g l<many)/\(x.2=.tab->∀j:Nat,bZ x.1<=j->j<=eN x.1->((p+aW q:Nat):Int)<=g (lbl ss j)/\g (lbl ss j)<many))->((p+aW q:Nat):Int)<=many ->
  ∀(j:Nat) c,(iM ss g q left p)[j]?=GE c->FJ many ((p+j:Nat):Int) c:=by
 have bt:∀{o t:Int}{e:Nat},(e:Int)<=t->t<many->o<(e:Int)->btw o many t=true:=λ{o t e} h1 h2 h3=>by
  unfold btw;rw[decide_eq_true ω,decide_eq_true h2];rfl
 intro q
 induction q with
 | pick l=>
  intro left p pv _ _ j c hc;cases j with
  | zero=>
   cases hc;have lf:=pv.1;have hm:=kO lf.ne;have:lbl ss (bZ left)=l:=pv.2 _ hm;show 0<=l;rw[<- this];exact(rs.lh _ _ (fO (lf.lt _ hm))).2.1
  | succ j=>cases hc
 | tab=>
  intro left p pv hl _ j c hc;cases j with
  | zero=>
   cases hc;obtain⟨lf,f8⟩:=pv;have h1:=hl (left,.tab) AJ;have am:=oH rs g lf;refine⟨λz=>?_,?_⟩
   ·rw[z] at am;have hf:=lf.lt _ (dZ lf.ne);have:=(dU rs (fK lf.up _ (dZ lf.ne)) hf).1;have:=jW rs hf;rw[mO] at am;simp at am;omega
   rw[C7];intro t ht;unfold mG at ht;obtain⟨k,k1,k2,rfl⟩:=Et ss g _ _ _ ht;have hfl:=fK lf.up _ (dZ lf.ne);have:=h1.2 Z k k1 (show k<=eN left by omega);exact bt this.1 this.2 (by simp only[aW];omega)
  | succ j=>cases hc
 | one k r ih=>
  intro left p pv hl hm j c hc;cases j with
  | zero=>
   cases hc;have:=(hl (left,.one k r) AJ).1 _ (AA.mpr Z);exact bt this.1 this.2 (by simp only[aW];omega)
  | succ j=>
   have:=ih (left.filter (·≠k)) (p+1) pv.2 (λx hx=>by rw[show p+1+aW r=p+aW (.one k r) by simp only[aW];omega];exact hl x (AG _ hx)) (by rw[show p+1+aW r=p+aW (.one k r) by simp only[aW];omega];exact hm) j c hc;rwa [show p+(j+1)=p+1+j by omega]
 | wit k r ih=>
  intro left p pv hl hm j c hc;cases j with
  | zero=>
   cases hc;have:=(hl (left,.wit k r) AJ).1 _ (AA.mpr Z);exact⟨jW rs (pv.1.1.lt _ pv.1.2),bt this.1 this.2 (by simp only[aW];omega)⟩
  | succ j=>
   have:=ih (left.filter (·≠k)) (p+1) pv.2 (λx hx=>by rw[show p+1+aW r=p+aW (.wit k r) by simp only[aW];omega];exact hl x (AG _ hx)) (by rw[show p+1+aW r=p+aW (.wit k r) by simp only[aW];omega];exact hm) j c hc;rwa [show p+(j+1)=p+1+j by omega]
 | msk m r ih=>
  intro left p pv hl hm j c hc;cases j with
  | zero=>
   cases hc;have:=(hl (left,.msk m r) AJ).1 _ (AA.mpr Z);obtain⟨lf,f8,_⟩:=pv.1;have hb:=(zR rs lf m).2;have hf:=lf.lt _ (dZ lf.ne);have h1:=(dU rs (fK lf.up _ (dZ lf.ne)) hf).1;have h2:=jW rs hf;have P':1<=dN ss left:=by rw[mO];omega
   refine⟨⟨P',f8⟩,⟨Int.natCast_nonneg _,?_⟩,bt this.1 this.2 (by simp only[aW];omega)⟩;have:((oZ ss left m:Nat):Int)<((2^(dN ss left).toNat:Nat):Int):=Int.ofNat_lt.mpr hb;rwa [natCast_pow] at this
  | succ j=>
   have:=ih (left.filter λk=>(aO ss k).2.2≠m) (p+1) pv.2 (λx hx=>by rw[show p+1+aW r=p+aW (.msk m r) by simp only[aW];omega];exact hl x (AG _ hx)) (by rw[show p+1+aW r=p+aW (.msk m r) by simp only[aW];omega];exact hm) j c hc;rwa [show p+(j+1)=p+1+j by omega]
 | low k a b yf x9=>
  intro left p pv hl hm j c hc;have v3:=nO a;cases j with
  | zero=>
   cases hc;show btw _ many ((p+1+aW b:Nat):Int)=true;refine bt (e:=p+1+aW b) (Cf _) ?_ ?_
   ·simp only[aW] at hm;omega
   omega
  | succ j=>
   have e:p+1+aW b+aW a=p+aW (.low k a b):=by simp only[aW];omega
   replace hc:(iM ss g b (left.filter (k<=·)) (p+1)++iM ss g a (left.filter (· < k)) (p+1+aW b))[j]?=GE c:=hc;rcases Fu j (iM ss g b (left.filter (k<=·)) (p+1)).length with z|z
   ·rw[C0 z] at hc;have:=x9 (left.filter (k<=·)) (p+1) pv.2.2 (λx hx=>by
     obtain⟨h1,h2⟩:=hl x (AG _ (BN _ hx));simp only[aW] at h1 h2;exact⟨λl hl'=>by have:=h1 l hl';omega,λht j' a1 a2=>by have:=h2 ht j' a1 a2;omega⟩) (by simp only[aW] at hm;omega) j c hc
    rwa [show p+(j+1)=p+1+j by omega]
   rw[BF z] at hc;rw[fD] at hc z;have:=yf (left.filter (· < k)) (p+1+aW b) pv.2.1 (λx hx=>by rw[e];exact hl x (AG _ (A4 _ hx))) (by rw[e];exact hm) (j-aW b) c hc;rwa [show p+(j+1)=p+1+aW b+(j-aW b) by omega]
theorem ace{ss:Sts}{left:List Nat}{q:Pl}(lf:Lf ss left)(vl:VL ss left q):∀l∈jV ss left q,∃k,k<ss.length/\l=lbl ss k:=by
 intro l hl;cases q with
 | pick m=>cases hl
 | low k a b=>cases hl
 | tab=>
  obtain⟨k,hk,rfl⟩:=C8.mp hl;exact⟨k,lf.lt _ hk,rfl⟩
 | one k r=>exact⟨k,lf.lt _ vl.1,AA.mp hl⟩
 | wit k r=>exact⟨k,lf.lt _ vl,AA.mp hl⟩
 | msk m r=>
  obtain⟨k,hk,e⟩:=vl.2;exact⟨k,lf.lt _ hk,by rw[AA.mp hl,e]⟩
theorem Uh{ss:Sts}{S:List (List Nat×Pl)}(h:∀x∈S,Lf ss x.1/\VL ss x.1 x.2):∀l∈jG ss S,∃k,k<ss.length/\l=lbl ss k:=by
 intro l hl;rcases(M4 _ [] HU).2.2.2 l hl with z|z
 ·cases z
 obtain⟨x,hx,hlx⟩:=List.mem_flatMap.mp z;exact ace (h x hx).1 (h x hx).2 l hlx
theorem afI{R:List RowC}(hR:R.length=m)(h:l∈PL):(R++PL.map RowC.pik)[m+PL.idxOf l]?=GE (.pik l):=by
 have hi:=List.idxOf_lt_length_of_mem h;rw[BF ω,show m+PL.idxOf l-R.length=PL.idxOf l by omega,AZ,AC hi,List.getElem_idxOf hi];rfl
theorem Al(ss:Sts)(pl:Pl):(cJ ss pl).length=aW pl+(qM ss pl).length:=by
 unfold cJ;rw[AN,fD,AI]
theorem Ov{ss:Sts}{pl:Pl}(rs:dF ss)(pv:PlV ss pl (AK ss.length)):Cj (.list ((cJ ss pl).map iB))=true/\iC (cJ ss pl):=by
 have am:=Al ss pl;have iq:=nO pl;refine T5 (λz=>by rw[z] at am;simp at am;omega) λj c hc=>?_;rw[am];unfold cJ at hc;have We:∀l∈qM ss pl,((0+aW pl:Nat):Int)<=gP (aW pl) (qM ss pl) l/\gP (aW pl) (qM ss pl) l<((aW pl+(qM ss pl).length:Nat):Int):=λl hl=>by
  have:=List.idxOf_lt_length_of_mem hl;unfold gP;omega
 rcases Fu j (aW pl) with z|z
 ·rw[C0 (by rw[fD];exact z)] at hc;have:=Xi rs pl (AK ss.length) 0 pv (λx hx=>⟨λl hl=>We l (sy hx hl),λht j' h1 h2=>We _ (Q6 (pv.steps x hx).1 hx ht j' h1 h2)⟩) ω j c hc;rwa [F4] at this
 rw[BF (by rw[fD];exact z),AZ] at hc;obtain⟨l,hl,rfl⟩:=B5.mp hc;obtain⟨k,hk,rfl⟩:=Uh pv.steps l (AU hl);exact(rs.lh _ _ (fO hk)).2.1
theorem rW{ss:Sts}{pl:Pl}(rs:dF ss)(pv:PlV ss pl (AK ss.length)){k:Nat}(hk:k<ss.length){n:Int}(h1:(aO ss k).1<=n)(h2:n<=(aO ss k).2.1) :
  ∃c9,runC (cJ ss pl) n (cJ ss pl).length 0=(GE (lbl ss k),c9)/\c9.map (wordAt (cJ ss pl))=(ig ss k pl).map eV++[("pick" : Str)]:=by
 refine Xh rs (g:=gP (aW pl) (qM ss pl)) h1 h2 hk pl (AK ss.length) 0 _ pv (FL.mpr hk) (λx hx l hl=>⟨_,rfl,afI (fD _ _ _ _ _) (sy hx hl)⟩) (λl t ht=>?_) (λi c hc=>?_) ω
 ·unfold gP at ht;omega
 rw[F4];unfold cJ;rw[C0 (AB.mp hc).1];exact hc
theorem oR.k'{k:Key}{v:V}(e:H a=GE (.dK af))(hv:fL af k=GE v):oR H a (kV k) (GE v):=by
 rw[<- hv];exact oR.k e
theorem ln1{α:Type}{us:List α}(h:us.length=1):∃a,us=[a]:=by
 cases us with
 | nil=>cases h
 | cons a r=>
  cases r with
  | nil=>exact⟨a,rfl⟩
  | cons b r=>cases h
theorem ln2{α:Type}{us:List α}(h:us.length=2):∃a0 a1,us=[a0,a1]:=by
 cases us with
 | nil=>cases h
 | cons a0 r=>
  obtain⟨a1,rfl⟩:=ln1 (Nat.succ.inj h);exact⟨a0,a1,rfl⟩
theorem ln3{α:Type}{us:List α}(h:us.length=3):∃a0 a1 a2,us=[a0,a1,a2]:=by
 cases us with
 | nil=>cases h
 | cons a0 r=>
  obtain⟨a1,a2,rfl⟩:=ln2 (Nat.succ.inj h);exact⟨a0,a1,a2,rfl⟩
theorem ln4{α:Type}{us:List α}(h:us.length=4):∃a0 a1 a2 a3,us=[a0,a1,a2,a3]:=by
 cases us with
 | nil=>cases h
 | cons a0 r=>
  obtain⟨a1,a2,a3,rfl⟩:=ln3 (Nat.succ.inj h);exact⟨a0,a1,a2,a3,rfl⟩
theorem ln5{α:Type}{us:List α}(h:us.length=5):∃a0 a1 a2 a3 a4,us=[a0,a1,a2,a3,a4]:=by
 cases us with
 | nil=>cases h
 | cons a0 r=>
  obtain⟨a1,a2,a3,a4,rfl⟩:=ln4 (Nat.succ.inj h);exact⟨a0,a1,a2,a3,a4,rfl⟩
def tV(i:Nat):TE:=λσ H Q=>match σ[i]? with
 | some (GE x)=>Q x H
 | _=>False
theorem acR{Q:VK}(h:tV i σ H Q):KD i σ H Q:=by
 unfold tV at h;split at h
 ·rename_i x e;exact⟨x,e,h⟩
 exact h.elim
section
variable{x:Str}
theorem ao(h:Nm X.N X.env.scope i x):QE X (.Name x pos) (tV i):=⟨λaa s σ H Q I q=>(afi h).h aa s σ H Q I (acR q)⟩
theorem cg(i:Nat){x:Str}(hN:X.N[i]?=GE x:=by rfl)(hv:Vis X.env.scope x:=by first|exact D8 rfl|exact Or.inr (D8 Z)|exact Or.inr (Or.inr Z))(hd:(x == ("__debug__" : Str))=false:=by decide)
  (hcd:(x == ("__classdict__" : Str))=false:=by decide):QE X (.Name x pos) (tV i):=⟨λaa s σ H Q I q=>(af6 i hN hv hd hcd).h aa s σ H Q I (acR q)⟩
end
def atq(o:Option V)(H:Hp)(Q:VK):Prop:=∃v,o=GE v/\Q v H
theorem aae(v:V)(H:Hp)(Q:VK):atq (GE v) H Q=Q v H:=propext ⟨λ⟨_,e,h⟩=>by cases e;exact h,λh=>⟨v,rfl,h⟩⟩
theorem Y9(xs:List V)(i:Int)(H:Hp)(Q:VK):ixq (GE (.lst xs)) i H Q=atq (atI xs i) H Q:=rfl
theorem Y8(xs:List V)(i:Int)(H:Hp)(Q:VK):ixq (GE (.tup xs)) i H Q=atq (atI xs i) H Q:=rfl
theorem aeQ{b:Bool}{P:Bool->Prop}:(∃k,V.bl b=V.bl k/\P k)=P b:=propext ⟨λ⟨_,e,h⟩=>by cases e;exact h,λh=>⟨b,rfl,h⟩⟩
theorem acA{a:Int}{P:Int->Prop}:(∃k,As a=As k/\P k)=P a:=propext ⟨λ⟨_,e,h⟩=>by cases e;exact h,λh=>⟨a,rfl,h⟩⟩
theorem acz{a b:Int}{P:Int->Int->Prop}:(∃i j,As a=As i/\As b=As j/\P i j)=P a b:=propext ⟨λ⟨_,_,e,f,h⟩=>by cases e;cases f;exact h,λh=>⟨a,b,rfl,rfl,h⟩⟩
theorem acy{a b:V}{P:V->V->Prop}:(∃i j,[a,b]=[i,j]/\P i j)=P a b:=propext ⟨λ⟨_,_,e,h⟩=>by cases e;exact h,λh=>⟨a,b,rfl,h⟩⟩
theorem afP{α:Type}(a b c d:α)(l:List α):atI (a::b::c::d::l) 3=GE d:=bO (j:=3) rfl
theorem aah{α:Type}(a b c d:α):atI [a,b,c,d] (-1)=GE d:=rfl
theorem aag{α:Type}(a b c d e:α):atI [a,b,c,d,e] (-1)=GE e:=rfl
def ry0:=Au @Tz.eq_1 (Au @TQ.eq_1 (Au @CG.eq_1 (Au @tOp.eq_1 (Au @rI.eq_1 (Au @rI0.eq_1 (Au @rU.eq_1 (Au @tUn.eq_1 (Au @tC.eq_1 (Au @Wt.eq_1 (Au @KH.eq_1 (Au @CK.eq_1 (Au @GZ.eq_1 (Au @TF.eq_1 (Au @tCB.eq_1 (Au @Wy.eq_1 (Au @tB.eq_1 (Au @WQ.eq_1 (Au @Wx.eq_1 (Au @Wz.eq_1 (Au @Ws.eq_1 (Au @qg.eq_1 (Au @Zk.eq_1 (Au @Vm (Au @ack (Au @Ln (Au @Xn (Au @Xp (Au @aa7 (Au @ac8.eq_1 (Au @aco @aeM))))))))))))))))))))))))))))))
def ry1:=Au @Xv (Au @T8 (Au @Ub (Au @aaZ (Au @Y9 (Au @Y8 (Au @aaF (Au @ab8 (Au @ab7 (Au Zb.1 (Au Zb.2.1 (Au Zb.2.2 (Au @afR (Au @aaj (Au @afQ (Au @au (Au @Xy (Au @Xw (Au @aeL (Au @acf (Au @Y7 (Au @aeG (Au @aeF (Au @kc_bool (Au @ty_int (Au @ae9 (Au @ty_str (Au @ac6 (Au @ac5 (Au @aax (Au @aaw (Au @zm (Au @Br (Au @JB @Le)))))))))))))))))))))))))))))))))
def ry2:=Au @Ld (Au @Ot (Au @Oq (Au @Lb (Au @Jz (Au @K9 (Au @Oo (Au @Jy (Au @La (Au @Gd (Au @Jx (Au @Dd (Au @Bool.or_self (Au @EO (Au @D4 (Au @KL (Au @decide_true (Au @decide_false (Au @WK.eq_1 (Au @rEq.eq_1 (Au @rNe.eq_1 @aa6))))))))))))))))))))
def ry3:=Au @aa5 (Au @ae3 (Au @adz (Au @adA (Au @adB (Au @ady (Au @ab4 (Au @adD (Au @afH (Au @afG (Au @aai (Au @ade.eq_1 (Au @CJ.eq_1 (Au @Xe (Au @aaO (Au @Xd (Au @V9.eq_1 (Au @ae7.eq_1 (Au @ac4.eq_1 (Au @L2.start.eq_1 (Au @DI.{0,0} (Au @map_nil.{0,0} (Au @BG.{0} (Au @length_nil.{0} (Au @cons_append.{0} (Au @G0.{0} (Au @F0.{0} (Au @List.replicate_zero.{0} (Au @DH.{0} (Au @Hc.{0} @Hb.{0})))))))))))))))))))))))))))))
def ry4:=Au @set_cons_zero.{0} (Au @set_cons_succ.{0} (Au @HR (Au @Option.some.injEq.{0} (Au @exists_eq_left'.{1} (Au @Zx (Au @V.int.injEq (Au @V.str.injEq (Au @V.bl.injEq (Au @V.ref.injEq (Au @List.cons.injEq.{0} (Au @and_true (Au @true_and (Au @exists_and_left.{1} (Au @decide_eq_true_eq (Au @WM (Au @aan (Au @uZ (Au @acN (Au @Xl (Au @aaJ (Au @aaI (Au @tSl.eq_1 (Au @Ji.eq_1 (Au @Ww.eq_1 @aaX))))))))))))))))))))))))
def ry5:=Au @aaY (Au @aaV (Au @aa2 (Au @aa3 (Au @aa1 (Au @Er (Au @J3 (Au @J2 (Au @aaB (Au @Wm (Au @Wn (Au @aaA (Au @aaz (Au @Jk.eq_1 (Au @Wu (Au @abo (Au @abn (Au @Og.eq_1 (Au @adh.eq_1 @ipI.eq_1))))))))))))))))))
def ry6:=Au @afP (Au @aah (Au @aag (Au @aae (Au @aeQ (Au @acA (Au @acz @acy))))))
def rdy:=Au ry0 (Au ry1 (Au ry2 (Au ry3 (Au ry4 (Au ry5 (Au ry6 @tV.eq_1))))))
theorem ab2(r:Pl):inV (At (dj r)) [At "pick",At "table"]=iG r:=by
 cases r with
 | pick l=>exact(by decide +kernel:inV (At "pick") [At "pick",At "table"]=true)
 | tab=>exact(by decide +kernel:inV (At "table") [At "pick",At "table"]=true)
 | one k r=>exact(by decide +kernel:inV (At "is") [At "pick",At "table"]=false)
 | wit k r=>exact(by decide +kernel:inV (At "within") [At "pick",At "table"]=false)
 | low k a b=>exact(by decide +kernel:inV (At "below") [At "pick",At "table"]=false)
 | msk l r=>exact(by decide +kernel:inV (At "mask") [At "pick",At "table"]=false)
theorem Y0{ss:Sts}{k:Nat}{r:Pl}(h:iG r=true):(A8 (if dj r = "table" then (1:Int) else 0).toNat [At "table"]).flatten=(ig ss k r).map λi=>At (eV i):=by
 cases r with
 | pick l=>rw[if_neg (show ¬dj (.pick l) = "table" from show ¬("pick" : Str) = "table" by decide +kernel)];rfl
 | tab=>rw[if_pos (show dj .tab = "table" from rfl)];rfl
 | _=>cases h
theorem Wa{r:Pl}(h:iG r=false):dj r=eV (Gn r):=by
 cases r with
 | pick l=>cases h
 | tab=>cases h
 | _=>rfl
theorem QX{c:TT}(Pv:Nat->St->Hp->Prop)(h0:∃m,Pv m σ H)
  (hs:∀m σ H,Pv m σ H->∀kt:Hp->Prop,(kt=λH1=>∃N:St->Hp->Prop,(∀σ' H',N σ' H'->∃m',m'<m/\Pv m' σ' H')/\tb { D with nx:=N,ct:=N,bk:=D.nx } σ H1)->c σ H λb H1=>if b=true then kt H1 else D.nx σ H1):Cz c tb D σ H:=
 ⟨Pv,h0,λm σ H p=>hs m σ H p _ rfl⟩
theorem aeR{x:Str}{st:Stmt}{kV dv pm ap ct:Ap}(X:K.In h)(G:h.Ns Cs mg)(a:nsIn K Cs x=GE (GE (.ref f)))
  (l:K.lookup f=GE ⟨oc,od,.func (fnOf x x (je st) (fY st) (aj st) .none kV dv pm an ap ct),mT⟩)(c:codeIn K ap x=true)(k:keepIn K (.ref f)=true)
  (hb:∀(kV dv pm:Ap)(an:Option ID)(ap ct:Ap)(us:List Ap),us.length=ps.length->bindArgs (fnOf x x (je st) (fY st) (aj st) .none kV dv pm an ap ct) ⟨us,[]⟩=pure (ps.zip us)):aaq K mg x st ps f (fnOf x x (je st) (fY st) (aj st) .none kV dv pm an ap ct):=
 ⟨Zr (st:=st) l c k,(Zr (st:=st) l c k).binds hb,mg_of X G a⟩
end L2
variable {cs:List L2.RowC}{pl:L2.Pl}
set_option maxHeartbeats 4100000
namespace SRT
open PySem PyProof.Rows
def Ris(xs:Array Nat):Prop:=xs.toList.Pairwise (· < ·)
theorem Ris.lt{xs:Array Nat}(h:Ris xs){i k x y:Nat}(hx:xs[i]?=GE x)(hy:xs[k]?=GE y)(hik:i<k):x<y:=by
 rw[<- C2] at hx hy;obtain⟨h1,rfl⟩:=AB.mp hx;obtain⟨h2,rfl⟩:=AB.mp hy;exact FG.mp h i k h1 h2 hik
theorem acn{xs:Array Nat}(hr:Ris xs)(j:Nat):∀aI lo hi,hi-lo<=aI->lo<=hi->hi<=xs.size->(∀i x,xs[i]?=GE x->i<lo->x<j)->(∀i x,xs[i]?=GE x->hi<=i->j<=x) ->
  (∀i x,xs[i]?=GE x->(i<AR.below.go xs j aI lo hi↔x<j))/\AR.below.go xs j aI lo hi<=xs.size:=by
 intro aI
 induction aI with
 | zero=>
  intro lo hi h1 h2 h3 h4 h5;have e:hi=lo:=ω;subst e;refine⟨λi x hx=>⟨λhl=>h4 i x hx hl,λhl=>?_⟩,h3⟩;show i<hi;refine Nat.lt_of_not_le λbS=>?_;have:=h5 i x hx bS;omega
 | succ aI ih=>
  intro lo hi h1 h2 h3 h4 h5;show(∀i x,xs[i]?=GE x->(i<(if lo<hi then if xs.getD ((lo+hi)/2) j<j then AR.below.go xs j aI ((lo+hi)/2+1) hi else AR.below.go xs j aI lo ((lo+hi)/2) else lo)↔x<j))/\(if lo<hi then if xs.getD ((lo+hi)/2) j<j then AR.below.go xs j aI ((lo+hi)/2+1) hi else AR.below.go xs j aI lo ((lo+hi)/2) else lo)<=xs.size;by_cases hl:lo<hi
  ·rw[if_pos hl];have hm:(lo+hi)/2<xs.size:=ω;have hg:xs[(lo+hi)/2]?=GE xs[(lo+hi)/2]:=by simp[hm]
   have hd:xs.getD ((lo+hi)/2) j=xs[(lo+hi)/2]:=by simp[Array.getD,hm]
   rw[hd];by_cases hc:xs[(lo+hi)/2]<j
   ·rw[if_pos hc];refine ih _ _ ω ω h3 (λi x hx l7=>?_) h5;by_cases e:i=(lo+hi)/2
    ·subst e;rw[hg] at hx;cases hx;exact hc
    exact lt_trans (hr.lt hx hg ω) hc
   rw[if_neg hc];refine ih _ _ ω ω ω h4 (λi x hx l7=>?_);by_cases e:i=(lo+hi)/2
   ·subst e;rw[hg] at hx;cases hx;omega
   have:=hr.lt hg hx ω;omega
  rw[if_neg hl];have e:hi=lo:=ω;subst e;refine⟨λi x hx=>⟨λhl=>h4 i x hx hl,λhl=>?_⟩,h3⟩;refine Nat.lt_of_not_le λbS=>?_;have:=h5 i x hx bS;omega
theorem xu{xs:Array Nat}(hr:Ris xs)(j:Nat):(∀i x,xs[i]?=GE x->(i<AR.below xs j↔x<j))/\AR.below xs j<=xs.size:=by
 unfold AR.below;refine acn hr j _ _ _ ω ω (AW _) (λ_ _ _ h=>absurd h ω) λi x hx hi=>?_;have:=(Array.getElem?_eq_some_iff.mp hx).1;omega
theorem Nz{xs:Array Nat}(hr:Ris xs)(hn:xs[AR.below xs j]?≠GE j):∀x∈xs.toList,x≠j:=by
 intro x hx e;subst e;obtain⟨i,hi,e⟩:=D7.mp hx;have hg:xs[i]?=GE x:=by rw[<- C2,AC hi,e]
 have hs:=xu hr x;have h1:=(hs.1 i x hg);have h2:AR.below xs x<=i:=by
  refine Nat.le_of_not_lt λh=>?_;exact FK _ (h1.mp h)
 rcases Fu (AR.below xs x) i with h|h
 ·have l7:i<xs.size:=by simpa using hi
  have hb:AR.below xs x<xs.size:=ω;have Wp:xs[AR.below xs x]?=GE xs[AR.below xs x]:=by simp[hb]
  have l1:=hr.lt Wp hg h;have:=(hs.1 _ _ Wp).mpr l1;omega
 have e:AR.below xs x=i:=ω;rw[e] at hn;exact hn hg
theorem Gm(xs:Array α)(p:Nat)(x:α):(AR.insertAt xs p x).toList=xs.toList.take p++x::xs.toList.drop p:=by
 unfold AR.insertAt;simp[Array.toList_extract,List.extract,F5]
theorem Ow{xs:Array Nat}(hr:Ris xs)(hn:xs[AR.below xs j]?≠GE j):Ris (AR.insertAt xs (AR.below xs j) j):=by
 have hs:=xu hr j;have a7:=Nz hr hn;show(AR.insertAt xs (AR.below xs j) j).toList.Pairwise (· < ·);rw[Gm];have hx:xs.toList.Pairwise (· < ·):=hr;rw[CL,B4];refine⟨hx.sublist (List.take_sublist _ _),⟨λy hy=>?_,hx.sublist (IJ _ _)⟩,λa ha b hb=>?_⟩
 ·obtain⟨i,hi,e⟩:=D7.mp hy;rw[List.getElem_drop] at e;have hl:AR.below xs j+i<xs.toList.length:=by rw[Fm] at hi;omega
  have hg:xs[AR.below xs j+i]?=GE y:=by rw[<- C2,AC hl,e]
  have h1:=hs.1 _ _ hg;have h2:=a7 y (IU hy);have:¬(y<j):=λh=>by have:=h1.mpr h;omega
  omega
 have l1:a<j:=by
  obtain⟨i,hi,e⟩:=D7.mp ha;rw[List.getElem_take] at e;have hl:i<AR.below xs j/\i<xs.toList.length:=by rw[FM] at hi;omega
  have hg:xs[i]?=GE a:=by rw[<- C2,AC hl.2,e]
  exact(hs.1 _ _ hg).mp hl.1
 rcases AL.mp hb with rfl|hb
 ·exact l1
 obtain⟨i,hi,e⟩:=D7.mp hb;rw[List.getElem_drop] at e;have hl:AR.below xs j+i<xs.toList.length:=by rw[Fm] at hi;omega
 have hg:xs[AR.below xs j+i]?=GE b:=by rw[<- C2,AC hl,e]
 have h1:=hs.1 _ _ hg;have:¬(b<j):=λh=>by have:=h1.mpr h;omega
 omega
def TOk(b:Bool)(t:AR):Prop:=Ris t.place/\t.dummies=#[]/\t.led=b
theorem Tq(h:TOk b t)(p:Bool):TOk b { t with plain:=p }:=h
theorem T6(n:Nat):Ris (Array.range n):=by
 show(Array.range n).toList.Pairwise (· < ·);rw[Array.toList_range];exact HG
theorem oV(h:TOk b t)(n:Nat):TOk b (t.standIn n):=⟨T6 n,rfl,h.2.2⟩
theorem FQ(h:TOk b t)(n:Nat):TOk b (t.orStandIn n):=by
 unfold AR.orStandIn;split
 ·exact h
 exact oV h n
theorem Tt(f m:Nat)(b:Bool):TOk b (AR.fresh f m b):=⟨List.Pairwise.nil,rfl,rfl⟩
theorem Oz{t:AR}(hd:t.dummies=#[]){f:Nat->Int}{h:Int}(hf:∀i,(f i == h)=false):∀(aI:Nat)(p:AR.Probe),p.dummy=GT ->
  ∀m,AR.probe.go t f h aI p=GE m->∃j,m=.empty j GT/\t.place[AR.below t.place j]?≠GE j:=by
 intro aI
 induction aI with
 | zero=>intro p _ m e;exact absurd e (by simp[AR.probe.go])
 | succ aI ih=>
  intro p hp m e;unfold AR.probe.go at e;have eT:∀j,AR.has t.dummies j=false:=λj=>by rw[hd];simp[AR.has]
  have Se:∀q:AR.Probe,q.dummy=GT->(t.advance q).dummy=GT:=λq hq=>by
   unfold AR.advance;split
   ·exact hq
   exact hq
  split at e
  ·rename_i hs;cases e;refine⟨p.j,by rw[hp],λhc=>?_⟩;unfold AR.slot at hs;simp[hc] at hs
  ·rename_i hs;unfold AR.slot at hs;dsimp only at hs;split at hs
   ·cases hs
   rw[eT] at hs;simp at hs
  rw[hf,if_neg ζ] at e;exact ih _ (Se _ hp) m e
theorem MK(hd:t.dummies=#[]){h:Int}(e:t.freeSlot h=GE (j,b)):t.place[AR.below t.place j]?≠GE j:=by
 unfold AR.freeSlot AR.probe at e;split at e
 ·rename_i j' d hp;obtain⟨j2,e2,hn⟩:=Oz hd (f:=λ_=>h+1) (h:=h) (λi=>by simp;omega) _ _ Z _ hp;cases e2;simp at e;rw[<- e.1];exact hn
 cases e
theorem PJ(ht:TOk b t)(es:Array (Int×Ap))(h:Int)(x:Ap):TOk b (layNew t es h x).2.1:=by
 unfold layNew;split
 ·rename_i slot wd hs;have hn:=MK ht.2.1 hs;refine FQ ?_ _;unfold AR.put;refine⟨Ow ht.1 hn,?_,ht.2.2⟩;show(if AR.has t.dummies slot=true then AR.eraseAt t.dummies (AR.below t.dummies slot) else t.dummies)=#[];rw[ht.2.1];rfl
 exact oV ht _
theorem JC{b:Bool}{t:AR}(ht:TOk b t)(es:Array (Int×Ap))(n:Nat):TOk b (relayAll t es n).2.1:=by
 unfold relayAll;split
 ·rename_i t' order hr;dsimp only;split
  ·unfold AR.relaid AR.laid at hr;cases ho:AR.layClean (AR.sizeAbove n-1) (es.map (·.1)) with
   | none=>rw[ho] at hr;cases hr
   | some owner=>
    rw[ho] at hr;simp only[Option.bind_eq_bind,Option.bind_some,Option.pure_def,Option.some.injEq,Prod.mk.injEq] at hr;obtain⟨rfl,-⟩:=hr;refine⟨?_,rfl,ht.2.2⟩;show(F1 _ _).toArray.toList.Pairwise (· < ·);rw[List.toList_toArray,IL,List.pairwise_filterMap];refine HG.imp λ{a c} hac p hp q hq=>?_;simp only[B5] at hp hq;obtain⟨_,_,rfl⟩:=hp;obtain⟨_,_,rfl⟩:=hq;exact hac
  exact oV ht _
 exact oV ht _
section
variable{K:Type}[DecidableEq K]
def SetT(knd:KeyKind prog w K)(b:Bool)(h:Heap)(a:ID)(S:K->Bool)(n:Nat):Prop:=
 ∃o es ep t,h.get? a=GE o/\o.ExactSet/\o.data=.set es ep t/\(ElemsOf knd es.toList/\(∀k,S k=true ↔ ∃e∈es.toList,knd.is k e.2=true)/\es.size<FS)/\t.fits es.size=true/\es.size=n/\TOk b t
variable {knd:KeyKind prog w K}
theorem SetT.get{S:K->Bool}(hS:SetT knd b h a S n)(hk:∀o,h.get? a=GE o->h'.get? a=GE o):SetT knd b h' a S n:=
 let ⟨o,es,ep,t,ho,r⟩:=hS;⟨o,es,ep,t,hk o ho,r⟩
theorem SetT.congr{S S':K->Bool}{n':Nat}(hS:SetT knd b h a S n)(e:∀k,S k=S' k)(en:n=n'):SetT knd b h a S' n':=by
 have:S=S':=funext e;subst this;subst en;exact hS
theorem G7{o:Obj}{es:Array (Int×Ap)}(ho:h.get? a=GE o)(hex:o.ExactSet)(hd:o.data=.set es ep t)
  {fw:Array (Int×Ap)}{t':AR}{S':K->Bool}(dP:ElemsOf knd fw.toList/\(∀k,S' k=true ↔ ∃e∈fw.toList,knd.is k e.2=true)/\fw.size<FS)(hf:t'.fits fw.size=true)(ht:TOk b t') :
  (h.update a (Obj.putSet fw t')).get? a=GE { o with data:=.set fw (ep+1) t' }/\SetT knd b (h.update a (Obj.putSet fw t')) a S' fw.size:=by
 have hg:(h.update a (Obj.putSet fw t')).get? a=GE { o with data:=.set fw (ep+1) t' }:=by
  have q:=FC (Obj.putSet fw t') ho (by rw[putSet_of fw t' hd];rfl);rw[putSet_of fw t' hd] at q;exact q
 exact⟨hg,_,fw,ep+1,t',hg,hex,rfl,dP,hf,rfl,ht⟩
theorem NP{g:Bool->Sem Unit}(hg:∀(c:Bool)(s₁:AD)(Q':Unit->AD->Prop),Q' () s₁->AO (A3 prog w) A (g c) Q' E s₁){o:Obj}{es:Array (Int×Ap)}(ho:s.heap.get? a=GE o)(hex:o.ExactSet)(hd:o.data=.set es ep t)
  {bq:Array (Int×Ap)}{t2:AR}{S':K->Bool}(dP:ElemsOf knd bq.toList/\(∀k,S' k=true ↔ ∃e∈bq.toList,knd.is k e.2=true)/\bq.size<FS)
  (hf:t2.fits bq.size=true)(ht:TOk b t2){wd:Bool}{R:Option Bool->AD->Prop}
  (h:∀h',BO a s.heap h'->SetT knd b h' a S' bq.size->R (GE true) { s with heap:=h' }) :
  AO (A3 prog w) A (storeSet a bq t2 >>= λ_=>if (!wd&&t2.tooFull)=true then (g (relayAll t2 bq (AR.grown bq.size)).2.2 >>= λ_=>storeSet a (relayAll t2 bq (AR.grown bq.size)).1 (relayAll t2 bq (AR.grown bq.size)).2.1 >>= λ_=>pure (GE true)) else pure (GE true)) R E s:=by
 refine An (wpAny_storeSet_of ho hd ?_ (fits_of_scanBound dP.2.2));obtain⟨MM,qa⟩:=G7 (knd:=knd) ho hex hd dP hf ht;have yn:=BO.update s.heap a (Obj.putSet bq t2);by_cases hc:(!wd&&t2.tooFull)=true
 ·rw[if_pos hc];have hp:=relayAll_perm t2 bq (AR.grown bq.size);have nK:=relayAll_fits t2 bq (AR.grown bq.size);have P4:=JC ht bq (AR.grown bq.size);generalize relayAll t2 bq (AR.grown bq.size)=Rl at hp nK P4 |-;obtain⟨iE,t3,gv⟩:=Rl;dsimp only at hp nK P4 |-;have hsz:iE.size=bq.size:=by rw[<- D2,hp.length_eq,D2]
  have ze:ElemsOf knd iE.toList/\(∀k,S' k=true ↔ ∃e∈iE.toList,knd.is k e.2=true)/\iE.size<FS:=
   ⟨dP.1.perm hp,λk=>(dP.2.1 k).trans ⟨λ⟨e,he,q⟩=>⟨e,hp.mem_iff.mpr he,q⟩,λ⟨e,he,q⟩=>⟨e,hp.mem_iff.mp he,q⟩⟩,by rw[hsz];exact dP.2.2⟩
  refine An (hg _ _ _ (An (wpAny_storeSet_of MM Z ?_ (fits_of_scanBound ze.2.2))));obtain⟨_,MZ⟩:=G7 (knd:=knd) MM hex Z ze nK P4;rw[hsz] at MZ;exact AF (h _ (yn.trans (BO.update _ a _)) MZ)
 rw[if_neg hc];exact AF (h _ yn qa)
theorem Xb{a:ID}{S:K->Bool}{n:Nat}{k:K}{x:Ap}{Q:Bool->AD->Prop}(dA:knd.is k x=true)(P9:x.scannable=true)(hS:SetT knd b s.heap a S n)(kN:n+1<FS)
  (h:∀h',BO a s.heap h'->SetT knd b h' a (λk'=>S k'||decide (k'=k)) (if S k then n else n+1)->Q (!S k) { s with heap:=h' }) :
  AO (A3 prog w) A (setAddHashed a x (knd.hash k)) Q E s:=by
 obtain⟨o,es,ep,t,ho,hex,hd,dP,hf,hn,ht⟩:=hS;unfold setAddHashed setAddHashedIn;refine C1 (An (wpAny_setState_of ho hd hf ?_));dsimp only;rw[byScan_of P9 dP.2.2 dP.1,if_pos rfl];unfold setAddByScan;refine An (An (EN (An (wpAny_setScan_of dA ho hd hf dP.1 ?_))));cases hr:List.findIdx? (λe=>knd.is k e.2) es.toList with
 | some j=>
  dsimp only;obtain⟨hj,VS,_⟩:=List.findIdx?_eq_some_iff_getElem.mp hr;have D':S k=true:=(dP.2.1 k).mpr ⟨es.toList[j],Ee hj,VS⟩;refine AF (AF ?_);have q:=h s.heap (BO.refl a s.heap) ⟨o,es,ep,t,ho,hex,hd,⟨dP.1,λk'=>by
   rw[Bool.or_eq_true,decide_eq_true_eq,<- dP.2.1 k'];exact⟨λhk=>hk.elim id (λe=>e ▸ D'),.inl⟩,dP.2.2⟩,hf,by rw[D'];exact hn,ht⟩
  rw[D'] at q;exact q
 | none=>
  dsimp only;have D':S k=false:=by
   cases hk:S k with
   | false=>rfl
   | true=>
    obtain⟨e,he,hp⟩:=(dP.2.1 k).mp hk;have q:=List.findIdx?_eq_none_iff.mp hr e he;rw[hp] at q;exact Bool.noConfusion q
  have hgw:∀(c:Bool){s₁:AD}{Q':Unit->AD->Prop},Q' () s₁->AO (A3 prog w) A (match c with|true=>rule "set.scan.the-table-gave-way" | false=>pure ()) Q' E s₁:=
   λc s₁ Q' hq=>by cases c <;> first|exact AF hq|exact EN hq
  have dy:=layNew_perm t es (knd.hash k) x;have gf:=layNew_fits t es (knd.hash k) x;have kL:=PJ ht es (knd.hash k) x;generalize layNew t es (knd.hash k) x=L at dy gf kL |-;obtain⟨bq,t1,wd,gv⟩:=L;dsimp only at dy gf kL |-;rw[toList_push] at dy;have i4:bq.size=n+1:=by rw[<- D2,dy.length_eq,AN,D2,hn];rfl
  have zg:ElemsOf knd bq.toList/\(∀k',(S k'||decide (k'=k))=true ↔ ∃e∈bq.toList,knd.is k' e.2=true)/\bq.size<FS:=
   ⟨(dP.1.push dA P9).perm dy,mem_push_iff dA dP.2.1 dy,by rw[i4];exact kN⟩
  have ii:∀h',BO a s.heap h'->SetT knd b h' a (λk'=>S k'||decide (k'=k)) bq.size->Q true { s with heap:=h' }:=by
   intro h' hsb ij;have q:=h h' hsb;rw[D'] at q;rw[i4] at ij;exact q ij
  refine An (hgw _ ?_);by_cases br:t1.plain=true
  ·rw[if_pos br,hashByValue_scannable 8 P9];refine An (AF ?_);refine NP (b:=b) ?_ ho hex hd zg (t2:=if plainKind x=true then t1 else { t1 with plain:=false }) ?_ ?_ ?_
   ·intro c s₁ Q' hq;cases c <;> first|exact AF hq|exact EN hq
   ·split
    ·exact gf
    exact AR.fits_plain_off gf
   ·split
    ·exact kL
    exact Tq kL false
   intro h' hsb ij;dsimp only;exact AF (ii h' hsb ij)
  rw[if_neg br];refine An (AF ?_);refine NP (b:=b) ?_ ho hex hd zg gf kL ?_
  ·intro c s₁ Q' hq;cases c <;> first|exact AF hq|exact EN hq
  intro h' hsb ij;dsimp only;exact AF (ii h' hsb ij)
end
abbrev bt(w:BI):Bool:=w.params.followText "set-order"
section
variable{R:Result->AD->Prop}{wr:List ID}{G:Array GenState->Array GenState->Prop}{P:Nat->Ap->Prop}{St:Nat->AD->Prop}
theorem Wj(W:WalksS prog w A.in1 I fp wr G n P St)(S:ID)(uA:S∉fp)(val:Nat->Int)(sQ:∀i v,P i v->∃t,v=.int (val i) t)(hb:n+1<FS) :
  ∀(k i:Nat)(s:AD),n-i=k->i<=n->St i s->SetT (GB prog w) b s.heap S (λk'=>(E5 val i).any (· == k')) (E5 val i).length ->
   (∀s',Moved (S::wr) G s s'->SetT (GB prog w) b s'.heap S (λk'=>(E5 val n).any (· == k')) (E5 val n).length->R (.ok (.ret .none)) s') ->
   Iy (A3 prog w) A (.builtin "set.update.loop" ⟨[.ref S,.ref I],[]⟩) R s:=by
 have WJ:S∉wr:=λh=>uA (W.sub _ h);have bc:∀c∈wr,c∈S::wr:=λc hc=>AG _ hc;intro k
 induction k with
 | zero=>
  intro i s hk hi ar hS hR;have ie:i=n:=ω;subst ie;refine E6 F.entry_set_update_loop ?_;rw[BE.under_plainId HV _];show AO _ A.in1 (Go (.ref I) >>= _) _ _ s;refine An (W.done s _ _ ar λs' hm=>?_);show AO _ A.in1 (ret Ap.none) _ _ s';exact AF (hR s' (hm.mono bc) (hS.get λo e=>hm.heap S _ WJ e))
 | succ k ih=>
  intro i s hk hi ar hS hR;have ba:i<n:=ω;refine E6 F.entry_set_update_loop ?_;rw[BE.under_plainId HV _];show AO _ A.in1 (Go (.ref I) >>= _) _ _ s;refine An (W.item i s _ _ ba ar λv s' hP hst' hm=>?_);obtain⟨t,rfl⟩:=sQ i v hP;have ij:=hS.get λo e=>hm.heap S _ WJ e;show AO _ A.in1 (EW [Do (val i) t] (setAdd S (.int (val i) t)) >>= _) _ _ s';refine An (C1 ?_);unfold setAdd;refine C1 (An ((GB prog w).pyHash (k:=val i) (intKind_is _ _ _ _) ?_));have kN:(E5 val i).length+1<FS:=by have:=firstMet_length_le val i;omega
  refine Xb (knd:=GB prog w) (s:={ s' with toks:=s'.toks+1 }) (intKind_is _ _ _ _) Z ij kN λh' hsb MZ=>?_;have hSi:SetT (GB prog w) b h' S (λk'=>(E5 val (i+1)).any (· == k')) (E5 val (i+1)).length:=
   MZ.congr (λk'=>by rw[firstMet_succ,step_any]) (by rw[firstMet_succ,step_length])
  refine AF ⟨KM HV _,ih (i+1) _ ω ba (W.frame _ s' _ _ hst' (le_succ _) λc hc o e=>?_) hSi λxA hm'' hS''=>?_⟩
  ·rw[hsb.2 c (λh:c=S=>uA (by rw[<- h];exact hc))];exact e
  refine hR xA (Moved.trans W.gtrans ((hm.mono bc).then_heap (le_succ _) λc o hc e=>?_) hm'') hS'';rw[hsb.2 c (λh:c=S=>hc (by rw[h];exact AJ))];exact e
end
abbrev Ga(w:BI):Obj:={ cls:=.type "set",dict:=GT,data:=.set #[] 0 (.fresh 0 0 (!bt w)) }
theorem Vy(a:Ap){Q₁:Ap->AD->Prop}(h:Q₁ (.ref s.heap.objs.size) { s with heap:=s.heap.push (Ga w) }) :
  Iy (A3 prog w) A (.call (.builtin "set.__new__") ⟨[.type "set",a],[]⟩) (wants Q₁ E) s:=by
 refine codeAny_of_tree (show AO _ A.in1 (checkBuiltinCall "set.__new__" ⟨[.type "set",a],[]⟩ >>= λ_=>again (.builtin "set.__new__" ⟨[.type "set",a],[]⟩)) _ _ s from ?_);refine An (B7 (F.newCall_set_1 a) (AF ⟨KM F.plain_set_new _,E6 F.entry_set_new ?_⟩));rw[BE.under_plainId F.plain_set_new _];unfold AX.«set.__new__» AX.Frozenset.newClass;have bc:=sub_set_self;obtain⟨hp,g,d,tk,os⟩:=s;dsimp only
 wp_walk
 refine FE (AF ?_);dsimp only;simp only[newObj];exact An (wpAny_alloc (AF (AF h)))
set_option maxHeartbeats 3200000 in
theorem Vz{l:ID}{items:Array Ap}{ns:List Int}{Q:Ap->AD->Prop}(hh:A.handled=GT)(hl:s.heap.IsList l items)(hi:ER items.toList ns)(hb:items.size+1<FS)
   (h:∀(h':Heap)(tk:Nat),SetT (GB prog w) (!bt w) h' s.heap.objs.size (λk'=>(E5 (λi=>ns.getD i 0) items.size).any (· == k')) (E5 (λi=>ns.getD i 0) items.size).length ->
   (∀c o,c<s.heap.objs.size->s.heap.get? c=GE o->h'.get? c=GE o)->Q (.ref s.heap.objs.size) { s with heap:=h',toks:=tk }) :
  AO (A3 prog w) A (call (.type "set") [.ref l]) Q E s:=by
 obtain⟨c,tl,Re⟩:=FF.mro;have yA:=FF.made;have bc:=FF.sub;refine wpAny_call (codeAny_of_tree (show AO _ _ (callAny (.type "set") _) _ _ _ from AF ⟨Code.quiet_builtin _ ψ,E6 F.entry_type_call ?_⟩));rw[BE.under_plain (weight_type_call_type "set" [.ref l] []) rfl];have h1:=FF.notType;have h2:=FF.canCreate;have nL:=F.typeCall_set_1 (.ref l)
 repeat (any_goals (first|assumption|wp_step))
 refine FY (Vy (.ref l) (E:=E) (Q₁:=λobj s₁=>obj=.ref s.heap.objs.size/\s₁={ s with heap:=s.heap.push (Ga w) }) ⟨rfl,rfl⟩) λr s₁ hr=>?_;cases r with
 | error e=>exact hr
 | ok fl=>
  cases fl with
  | ret obj=>
   obtain⟨rfl,rfl⟩:=hr;have hS:(s.heap.push (Ga w)).get? s.heap.objs.size=GE (Ga w):=A7 _ rfl;have hT:AD.TypeIs { s with heap:=s.heap.push (Ga w) } (.ref s.heap.objs.size) "set" := ⟨_,hS,rfl⟩;have hli:=FF.init.lookup;have hbi:=FF.init.bind (.ref s.heap.objs.size)
   repeat (any_goals (first|assumption|wp_step))
   refine FY (Kb (R:=wants (λr s₂=>r=.none/\∃h' tk,s₂={ s with heap:=h',toks:=tk } /\
     SetT (GB prog w) (!bt w) h' s.heap.objs.size (λk'=>(E5 (λi=>ns.getD i 0) items.size).any (· == k')) (E5 (λi=>ns.getD i 0) items.size).length /\
     (∀c o,c<s.heap.objs.size->s.heap.get? c=GE o->h'.get? c=GE o)) E) FF.init.plain F.entry_set_init (check_set_init_1 hT ?_)) λr₂ s₂ hr₂=>?_
   ·obtain⟨ol,v4,k7,nl,kU⟩:=hl;obtain⟨ZT,xI,UP,so⟩:=ol;simp only at k7 kU;subst k7;subst kU;have QP:(s.heap.push (Ga w)).get? l=GE { cls:=.type "list",dict:=xI,data:=.seq items nl,slots:=so }:=AH _ v4;have hsls:=F.sub_list_set;have hslf:=F.sub_list_frozenset;have a7:(DO "list" == DO "dict")=false:=by decide
    have jv:(s.heap.push (Ga w)).IsList l items:=⟨_,QP,rfl,nl,rfl⟩;unfold AX.«set.__init__» noKeywords AX.Frozenset.updateFrom;generalize hPI:pyIter=PI
    wp_walk
    subst hPI;refine Fc jv (An (wpAny_runValue ?_));have VV:l<s.heap.objs.size:=Bz v4;have hh3:A.in1.in1.in1.handled=GT:=by simp[hh]
    have Q4:l≠(s.heap.push (Ga w)).objs.size:=by
     rw[DU];exact BS (DE VV)
    have uA:s.heap.objs.size∉[(s.heap.push (Ga w)).objs.size,l]:=by
     rw[DU];simp only[AL,AA,BC,or_false,not_or];exact⟨BS (CF _),IZ VV⟩
    have sQ:∀(i:Nat)(v:Ap),items[i]?=GE v->∃t,v=.int ((λi=>ns.getD i 0) i) t:=λi v hv=>ER.int_at hi i v (by rw[C2];exact hv);refine Wj (b:=!bt w) ((Walks.list hh3 _ l Q4 items).toS) s.heap.objs.size uA (λi=>ns.getD i 0) sQ hb (items.size-0) 0 _ ω (D6 _)
     ⟨⟨_,A7 _ rfl,rfl,rfl⟩,(jv.push _)⟩ ?hS0 ?hR
    case hS0=>exact⟨_,#[],0,_,AH _ hS,⟨rfl,rfl,rfl⟩,rfl,⟨λe he=>by simp at he,λk=>by simp[firstMet_zero],δ⟩,by rfl,rfl,Tt _ _ _⟩
    case hR=>
     intro s' hm ij;obtain⟨h',g',d',Y1,OV⟩:=s';have eg:g'=s.gens:=hm.gens;have ed:d'=s.drawn:=hm.drawn;have eo:OV=s.os:=hm.os;subst eg;subst ed;subst eo;show AO _ _ _ _ _ _;refine AF (show AO _ _ (ret Ap.none) _ _ _ from AF ⟨rfl,h',Y1,rfl,ij,λc o hc e=>?_⟩);have MX:c≠s.heap.objs.size:=BS hc;have MW:c≠(s.heap.push (Ga w)).objs.size:=by
      rw[DU];exact BS (DE hc)
     exact hm.heap c o (by simp only[AL,AA,BC,or_false,not_or];exact⟨MX,MW⟩) (AH _ (AH _ e))
   cases r₂ with
   | error e=>exact hr₂
   | ok fl₂=>
    cases fl₂ with
    | ret r=>
     obtain⟨rfl,h',tk,rfl,ij,gE⟩:=hr₂
     repeat (any_goals (first|assumption|wp_step))
     exact h _ _ ij gE
    | _=>exact hr₂.elim
  | _=>exact hr.elim
theorem wu{α:Type}:∀{l:List α}{i:Nat}(h:i<l.length),(l[i]::l.eraseIdx i).Perm l
 | x::l,0,_=>E8.refl _
 | x::l,i+1,h=>by
  have h':i<l.length:=by simpa using h
  show(l[i]::x::l.eraseIdx i).Perm (x::l);exact(E8.swap _ _ _).trans (E8.cons _ (wu h'))
theorem wp_choose{src:Source}{Q:Nat->AD->Prop}(hn:n≠0)(h:∀k d,k<n->Q k { s with drawn:=d }):AO (A3 prog w) A (choose src n) Q E s:=
 λ_ _ _=>⟨hn,h _ _ (mod_lt _ (Nat.pos_of_ne_zero hn))⟩
theorem acC{α:Type}:∀(n:Nat)(xs:List α)(s:AD){Q:List α->AD->Prop},xs.length=n->(∀ys d,ys.Perm xs->Q ys { s with drawn:=d })->AO (A3 prog w) A (drawOrder n xs) Q E s:=by
 intro n
 induction n with
 | zero=>
  intro xs s Q hl h;have e:xs=[]:=BQ.mp hl;subst e;exact AF (h [] s.drawn (E8.refl _))
 | succ n ih=>
  intro xs s Q hl h;cases xs with
  | nil=>cases hl
  | cons x xs=>
   unfold drawOrder;refine An (wp_choose ζ λi d hi=>?_);have hg:(x::xs)[i]?=GE (x::xs)[i]:=AC hi;rw[hg];dsimp only;refine An (ih _ _ (by rw[List.length_eraseIdx,if_pos hi];simpa using hl) λys d' hp=>AF (h _ d' ?_));exact(E8.cons _ hp).trans (wu hi)
theorem abr{α:Type}(next:Nat->Nat):∀(aI k:Nat)(left:List α)(out:Array α),left.length=aI->(GS.go next aI k left out).toList.Perm (out.toList++left):=by
 intro aI
 induction aI with
 | zero=>
  intro k left out hl;have e:left=[]:=BQ.mp hl;subst e;show out.toList.Perm _;rw[DH]
 | succ aI ih=>
  intro k left out hl;unfold GS.go;have hi:next k%left.length<left.length:=mod_lt _ ω;rw[AC hi];dsimp only;refine(ih (k+1) _ _ (by rw[List.length_eraseIdx,if_pos hi];omega)).trans ?_;rw[toList_push,CS];exact E8.append_left _ (wu hi)
theorem Ui(next:Nat->Nat)(xs:Array α):(GS next xs).toList.Perm xs.toList:=by
 have:=abr next xs.size 0 xs.toList #[] ζ;simpa [GS] using this
def jR(h:Heap)(S:ID)(es:Array (Int×Ap))(ep:Nat)(t:AR):Prop:=∃o,h.get? S=GE o/\o.ExactSet/\o.data=.set es ep t
def iI(h:Heap)(I:ID)(first:Ap)(i:Nat)(S:ID)(n ep:Nat):Prop:=
 h.get? I=GE { cls:=.type "set_iterator",dict:=GT,data:=.fields #[first,.int i 0,.ref S,.int n 0,.int ep 0],slots:=#[] }
theorem jR.get{S:ID}{es:Array (Int×Ap)}(hS:jR h S es ep t)(hk:∀o,h.get? S=GE o->h'.get? S=GE o):jR h' S es ep t:=
 let ⟨o,ho,r⟩:=hS;⟨o,hk o ho,r⟩
section
variable{S:ID}{es:Array (Int×Ap)}
theorem rO{Q:(Array (Int×Ap)×Nat×AR)->AD->Prop}(hS:jR s.heap S es ep t)(hf:t.fits es.size=true)(h:Q (es,ep,t) s):AO (A3 prog w) A (setState S) Q E s:=
 let ⟨_,ho,_,hd⟩:=hS;wpAny_setState_of ho hd hf h
theorem below_at{xs:Array Nat}(hr:Ris xs)(hi:i<=xs.size):AR.below xs (if i=0 then 0 else xs.getD (i-1) 0+1)=i:=by
 have hs:=xu hr (if i=0 then 0 else xs.getD (i-1) 0+1);generalize hb:AR.below xs (if i=0 then 0 else xs.getD (i-1) 0+1)=b at hs;by_cases h0:i=0
 ·subst h0;simp only[↓reduceIte] at hs;rcases Nat.eq_zero_or_pos b with h|h
  ·exact h
  have hl:0<xs.size:=ω;have hg:xs[0]?=GE xs[0]:=by simp[hl]
  have:=(hs.1 0 _ hg).mp h;omega
 rw[if_neg h0] at hs;have hl:i-1<xs.size:=ω;have hg:xs[i-1]?=GE xs[i-1]:=by simp[hl]
 have hd:xs.getD (i-1) 0=xs[i-1]:=by simp[Array.getD,hl]
 rw[hd] at hs;have h1:i-1<b:=(hs.1 _ _ hg).mpr ω;rcases Fu i b with h|h
 ·have ub:i<xs.size:=ω;have y6:xs[i]?=GE xs[i]:=by simp[ub]
  have h2:=(hs.1 _ _ y6).mp h;have h3:=hr.lt hg y6 ω;omega
 omega
theorem ab3(hf:t.fits es.size=true)(ht:TOk (!bt w) t)(hd:bt w=true\/(!t.plain&&decide (es.size>1))=false) :
  ∃(vs:List Ap)(sl:Nat->Nat),sl 0=0/\vs.Perm (es.toList.map (·.2))/\∀(i:Nat)(s:AD)(A:BE)(E:Ap->AD->Prop)(Q:Option (Ap×Nat)->AD->Prop),i<=vs.length->jR s.heap S es ep t ->
   Q (vs[i]?.map λx=>(x,sl (i+1))) s->AO (A3 prog w) A (setNext S (sl i) i ep) Q E s:=by
 by_cases hb:bt w=true
 ·refine⟨(GS (w.params.setOrder S ep) es).toList.map (·.2),λ_=>0,rfl,(Ui _ es).map _,λi s A E Q hi hS h=>?_⟩;unfold setNext;refine An (rO hS hf ?_);dsimp only;unfold setsByText;refine An (An (FE (AF ?_)));show AO _ _ (if bt w=true then _ else _) _ _ _;rw[if_pos hb,if_neg ζ];unfold setWalk;refine An (An (rO hS hf ?_));dsimp only;unfold setsByText;refine An (An (FE (AF ?_)));show AO _ _ (if bt w=true then _ else _) _ _ _;rw[if_pos hb];refine An (FE (AF (AF ?_)));have e:((GS (w.params.setOrder S ep) es)[i]?).map (λe=>(e.2,0))=(((GS (w.params.setOrder S ep) es).toList.map (·.2))[i]?).map λx=>(x,0):=by
   rw[AZ,Option.map_map,C2];rfl
  show Q (((GS (w.params.setOrder S ep) es)[i]?).map (λe=>(e.2,0))) s;rw[e];exact h
 have hb':bt w=false:=by simpa using hb
 have MV:=hd.resolve_left hb;have ip:t.place.size=es.size:=by
  have:=hf;unfold AR.fits at this;simp only[BM,beq_iff_eq] at this;exact this.1
 refine⟨es.toList.map (·.2),λi=>if i=0 then 0 else t.place.getD (i-1) 0+1,rfl,E8.refl _,λi s A E Q hi hS h=>?_⟩;unfold setNext;refine An (rO hS hf ?_);dsimp only;unfold setsByText;refine An (An (FE (AF ?_)));show AO _ _ (if bt w=true then _ else _) _ _ _;rw[if_neg hb];show AO _ _ (if (!t.plain&&decide (es.size>1))=true then _ else _) _ _ _;rw[if_neg (by rw[MV];simp)];refine An ?_;show AO _ _ (if (!t.led && !es.isEmpty)=true then _ else _) _ _ _;have eC:t.led=true:=by rw[ht.2.2,hb'];rfl
 rw[if_neg (by rw[eC];simp)];refine AF (AF ?_);have l7:i<=es.size:=by simpa using hi
 rw[below_at ht.1 (by rw[ip];exact l7)];rcases Fu i es.size with ba|hge
 ·have g1:es[i]?=GE es[i]:=by simp[ba]
  have g2:t.place[i]?=GE t.place[i]:=by simp[ip,ba]
  have g3:(es.toList.map (·.2))[i]?=GE es[i].2:=by rw[AZ,C2,g1];rfl
  rw[g1,g2];rw[g3] at h;have g4:t.place.getD i 0=t.place[i]'(by rw[ip];exact ba):=by simp[Array.getD,ip,ba]
  simp only[Option.map_some,Nat.add_one_ne_zero,if_false,Ha,g4] at h;exact h
 have g1:es[i]?=GT:=by simp[hge]
 have g3:(es.toList.map (·.2))[i]?=GT:=by rw[AZ,C2,g1];rfl
 rw[g1];rw[g3] at h;exact h
end
theorem Nb:entryFor table "set.__iter__" = GE AX.«frozenset.__iter__»:=entryFor_alias (id' := "frozenset.__iter__") (by kernel_rfl) Z ψ (by kernel_rfl)
theorem dO:Slot "set_iterator" "__next__" "set_iterator.__next__" :=
 .of (owner := "set_iterator") (n := "__next__") (by rw[typeLookup_type,builtinLookup_eq_fast];kernel_rfl) ψ ψ ψ (by first|exact .inl ψ|exact .inr ψ) (by rw[isSubtype_type];kernel_rfl)
theorem CT:Slot "set_iterator" "__iter__" "set_iterator.__iter__" :=
 .of (owner := "set_iterator") (n := "__iter__") (by rw[typeLookup_type,builtinLookup_eq_fast];kernel_rfl) ψ ψ ψ (by first|exact .inl ψ|exact .inr ψ) (by rw[isSubtype_type];kernel_rfl)
theorem oY:entryFor table "set_iterator.__next__" = GE AX.«set_iterator.__next__»:=entryFor_of_tree (by kernel_rfl)
theorem M9:entryFor table "set_iterator.__iter__" = GE AX.«dict_keyiterator.__iter__»:=entryFor_alias (id' := "dict_keyiterator.__iter__") (by kernel_rfl) Z ψ (by kernel_rfl)
theorem rA(a:Ap):argsOk "set_iterator.__next__" ⟨[a],[]⟩:=by unfold argsOk;kernel_rfl
theorem Qz(a:Ap):argsOk "set_iterator.__iter__" ⟨[a],[]⟩:=by unfold argsOk;kernel_rfl
section
variable{S:ID}{es:Array (Int×Ap)}
theorem iI.ty{h:AD}(hI:iI h.heap I first i S n ep):h.TypeIs (.ref I) "set_iterator" := ⟨_,hI,rfl⟩
theorem iI.get(hI:iI h I first i S n ep)(hk:∀o,h.get? I=GE o->h'.get? I=GE o):iI h' I first i S n ep:=hk _ hI
theorem oJ{Q:Array (Int×Ap)->AD->Prop}(hS:jR s.heap S es ep t)(hf:t.fits es.size=true)(h:Q es s):AO (A3 prog w) A (setEntries S) Q E s:=
 let ⟨_,ho,_,hd⟩:=hS;wpAny_setEntries_of ho hd hf h
theorem M8{Q:Nat->AD->Prop}(hS:jR s.heap S es ep t)(hf:t.fits es.size=true)(h:Q ep s):AO (A3 prog w) A (setEpoch S) Q E s:=
 let ⟨_,ho,_,hd⟩:=hS;wpAny_setEpoch_of ho hd hf h
theorem Q8(hh:A.handled=GT){P:Fin->AD->Prop}{E':Ap->AD->Prop}(h:∀(h':Heap)(e:Ap),(∀c o,s.heap.get? c=GE o->h'.get? c=GE o)->AD.TypeIs { s with heap:=h' } e "StopIteration" -> E' e { s with heap:=h' }) :
  AO (A3 prog w) A (newExc (.type "StopIteration") [] >>= λe=>(raiseNew e:Sem Fin)) P E' s:=by
 refine An ?_;simp only[newExc,newTuple];refine An (BU (An (m:=firstArgMember _ _) (B7 (a:=Ap.none) (by first|rfl|(simp only[firstArgMember];rfl)) ?_)) (by size_fits))
 refine BU ?_ (by size_fits);simp only[raiseNew];refine An (wpAny_handled ?_);rw[hh];refine An (AF (wpAny_throw (h _ (.ref _) (λc o e=>AH _ (AH _ e)) ⟨_,A7 _ rfl,rfl⟩)))
theorem next_item{first:Nat}{sl:Nat}{Q:Option Ap->AD->Prop}(hI:iI s.heap I (.int first 0) i S es.size ep)(hS:jR s.heap S es ep t)(hf:t.fits es.size=true)
  (hn:∀(s:AD)(A:BE)(E:Ap->AD->Prop)(Q:Option (Ap×Nat)->AD->Prop),jR s.heap S es ep t->Q (GE (v,sl)) s->AO (A3 prog w) A (setNext S first i ep) Q E s)
  (a7:S≠I)(hQ:∀h',iI h' I (.int sl 0) (i+1) S es.size ep->BO I s.heap h'->Q (GE v) { s with heap:=h' }):AO (A3 prog w) A (Go (.ref I)) Q E s:=by
 unfold Go;refine An (GI (CU (name:=GM "__next__") hI.ty dO (Ct dO hI.ty oY ?_ (rA _))));show AO _ _ (fieldsOf (.ref I) >>= _) _ _ s;refine An (Ki hI Z ?_);refine An (oJ hS hf ?_);rw[if_neg ζ];dsimp only;refine An (hn s _ _ _ hS ?_);dsimp only;refine An (CH hI ζ λh1 g1 b1=>?_);refine An (CH (s:={ s with heap:=h1 }) g1 ζ λh2 g2 b2=>?_);exact AF ⟨_,rfl,AF (hQ h2 g2 (b1.trans b2))⟩
end
section
variable{S T:ID}{es:Array (Int×Ap)}
theorem Lg{md:Heap}(b:BO a h h')(k:∀c o,h'.get? c=GE o->md.get? c=GE o)(c:ID)(o:Obj)(hc:c≠a)(e:h.get? c=GE o):md.get? c=GE o:=k c o (b.extBut c o hc e)
theorem next_end{first:Nat}{Q:Option Ap->AD->Prop}(hh:A.handled=GT)(hI:iI s.heap I (.int first 0) i S es.size ep)(hS:jR s.heap S es ep t)(hf:t.fits es.size=true)
  (hn:∀(s:AD)(A:BE)(E:Ap->AD->Prop)(Q:Option (Ap×Nat)->AD->Prop),jR s.heap S es ep t->Q GT s->AO (A3 prog w) A (setNext S first i ep) Q E s)
  (hQ:∀h',(∀c o,c≠I->s.heap.get? c=GE o->h'.get? c=GE o)->Q GT { s with heap:=h' }):AO (A3 prog w) A (Go (.ref I)) Q E s:=by
 unfold Go;refine An (GI (CU (name:=GM "__next__") hI.ty dO (Ct dO hI.ty oY ?_ (rA _))));show AO _ _ (fieldsOf (.ref I) >>= _) _ _ s;refine An (Ki hI Z (An (oJ hS hf ?_)));rw[if_neg ζ];dsimp only;refine An (hn s _ _ _ hS ?_);dsimp only;refine An (CH hI ζ λh1 g1 b1=>?_);refine Q8 (s:={ s with heap:=h1 }) (by simpa using hh) λh2 e k2 ty=>An (wpAny_isInstance ty isSubtype_stop (AF (hQ h2 λc o hc x=>Lg b1 k2 c o hc x)))
def TupAt(h:Heap)(T:ID)(ds:List Nat):Prop:=h.get? T=GE { cls:=.type "tuple",data:=.seq (ds.map λ(i:Nat)=>ET i).toArray }
theorem Qo{d:Nat}{Q:Option Ap->AD->Prop}(hI:iI s.heap I (.ref T) i S es.size ep)(hS:jR s.heap S es ep t)(hT:TupAt s.heap T ds)(hf:t.fits es.size=true)
  (hd:ds[i]?=GE d)(hv:(es[d]?).map (·.2)=GE v)(a7:S≠I)
  (hQ:∀h',iI h' I (.ref T) (i+1) S es.size ep->BO I s.heap h'->Q (GE v) { s with heap:=h' }):AO (A3 prog w) A (Go (.ref I)) Q E s:=by
 unfold Go;refine An (GI (CU (name:=GM "__next__") hI.ty dO (Ct dO hI.ty oY ?_ (rA _))));show AO _ _ (fieldsOf (.ref I) >>= _) _ _ s;refine An (Ki hI Z (An (oJ hS hf ?_)));rw[if_neg ζ];dsimp only;refine An (JJ hT Z ?_);dsimp only;have hg:(ds.map λ(i:Nat)=>ET i).toArray[(i:Int).toNat]?=GE (.int (d:Int) 0):=by
  rw[B3,GA,AZ,hd];rfl
 rw[hg];dsimp only;unfold setNextDrawn;refine An (An (rO hS hf ?_));dsimp only;rw[if_neg ζ];obtain⟨⟨hh,x⟩,he,rfl⟩:=B5.mp hv;rw[B3,he];dsimp only;refine AF ?_;refine An (CH hI ζ λh1 g1 b1=>?_);exact AF ⟨_,rfl,AF (hQ h1 g1 b1)⟩
theorem Vt{Q:Option Ap->AD->Prop}(hh:A.handled=GT)(hI:iI s.heap I (.ref T) i S es.size ep)(hS:jR s.heap S es ep t)(hT:TupAt s.heap T ds)(hf:t.fits es.size=true)
  (hd:ds[i]?=GT)(hQ:∀h',(∀c o,c≠I->s.heap.get? c=GE o->h'.get? c=GE o)->Q GT { s with heap:=h' }):AO (A3 prog w) A (Go (.ref I)) Q E s:=by
 unfold Go;refine An (GI (CU (name:=GM "__next__") hI.ty dO (Ct dO hI.ty oY ?_ (rA _))));show AO _ _ (fieldsOf (.ref I) >>= _) _ _ s;refine An (Ki hI Z (An (oJ hS hf ?_)));rw[if_neg ζ];dsimp only;refine An (JJ hT Z ?_);dsimp only;have hg:(ds.map λ(i:Nat)=>ET i).toArray[(i:Int).toNat]?=GT:=by
  rw[B3,GA,AZ,hd];rfl
 rw[hg];dsimp only;refine An (CH hI ζ λh1 g1 b1=>?_);refine An (CH (s:={ s with heap:=h1 }) g1 ζ λh2 g2 b2=>?_);refine Q8 (s:={ s with heap:=h2 }) (by simpa using hh) λh3 e k3 ty=>An (wpAny_isInstance ty isSubtype_stop (AF (hQ h3 λc o hc x=>Lg (b1.trans b2) k3 c o hc x)))
theorem Rq(hI:iI s.heap I first i S n ep)(h:Q (.ref I) s):AO (A3 prog w) A (pyIter (.ref I)) Q E s:=by
 refine wpAny_pyIter_slot hI.ty CT (Ct CT hI.ty M9 ?_ (Qz _));show AO _ _ (ret (.ref I)) _ _ s;exact AF ⟨_,rfl, "set_iterator",_,hI.ty,dO.lookup,h⟩
theorem Xa{Q:Ap->AD->Prop}(hh:A.handled=GT)(hS:jR s.heap S es ep t)(hf:t.fits es.size=true)(ht:TOk (!bt w) t)(hz:es.size<=AV)
   (h:∀(s':AD)(I:ID)(fp:List ID)(vs:List Ap)(St:Nat->AD->Prop),(∀c o,s.heap.get? c=GE o->s'.heap.get? c=GE o)->s'.gens=s.gens->s'.os=s.os->s'.toks=s.toks->vs.Perm (es.toList.map (·.2))->I=s'.heap.objs.size-1->s.heap.objs.size<=I->I<s'.heap.objs.size ->
   (∀A':BE,A'.handled=GT->WalksS prog w A' I fp [I] (λa b=>b=a) vs.length (λi v=>vs[i]?=GE v) St)->St 0 s'->(∀b∈fp,b<s'.heap.objs.size/\(b=S\/s.heap.objs.size<=b))->Q (.ref I) s') :
  AO (A3 prog w) A (pyIter (.ref S)) Q E s:=by
 obtain⟨o,ho,hx,hd⟩:=id hS;have P3:s.TypeIs (.ref S) "set" := ⟨o,ho,hx.1⟩;have lt:S<s.heap.objs.size:=Bz ho;refine wpAny_pyIter_slot P3 F.slot_set_iter (Ct F.slot_set_iter P3 Nb ?_ (F.args_set_iter_1 _));unfold AX.«frozenset.__iter__»;show AO _ _ (AX.Frozenset.sizeOf S >>= _) _ _ s;unfold AX.Frozenset.sizeOf;refine An (An (oJ hS hf (AF ?_)));unfold setDrawn setsByText;refine An (An (rO hS hf ?_));dsimp only;refine An (An (FE (AF (AF ?_))));show AO _ _ (if (!bt w&&(!t.plain&&decide (es.size>1)))=true then _ else _) _ _ _;have arith:∀{n m:Nat},m=n+1->n=m-1:=by intros;omega
 by_cases hc:(!bt w&&(!t.plain&&decide (es.size>1)))=true
 ·rw[if_pos hc];refine An (acC es.size (AK es.size) _ (DL) λds d hp=>?_);have kU:ds.length=es.size:=by rw[hp.length_eq,DL]
  refine An (wpAny_newTuple ?_ (by rw[AI,kU];exact hz));have qa:jR (s.heap.push { cls:=.type "tuple",data:=.seq (ds.map λ(i:Nat)=>ET i).toArray }) S es ep t:=hS.get λo e=>AH _ e;have Sl:TupAt (s.heap.push { cls:=.type "tuple",data:=.seq (ds.map λ(i:Nat)=>ET i).toArray }) s.heap.objs.size ds:=A7 _ rfl;have eA:(s.heap.push { cls:=.type "tuple",data:=.seq (ds.map λ(i:Nat)=>ET i).toArray }).objs.size=s.heap.objs.size+1:=DU ..;have a9:∀c o,s.heap.get? c=GE o->(s.heap.push { cls:=.type "tuple",data:=.seq (ds.map λ(i:Nat)=>ET i).toArray }).get? c=GE o:=λc o e=>AH _ e;generalize s.heap.push { cls:=.type "tuple",data:=.seq (ds.map λ(i:Nat)=>ET i).toArray }=h1 at qa Sl eA a9 |-;refine An (M8 (s:={ s with drawn:=d,heap:=h1 }) qa hf (An (BU ?_)));have hI:iI (h1.push { cls:=.type "set_iterator",data:=.fields #[.ref s.heap.objs.size,.int (0:Nat) 0,.ref S,.int (es.size:Nat) 0,.int (ep:Nat) 0] }) h1.objs.size (.ref s.heap.objs.size) 0 S es.size ep:=A7 _ rfl;refine AF ⟨_,rfl, "set_iterator",_,⟨_,hI,rfl⟩,dO.lookup,?_⟩;have di:(h1.push { cls:=.type "set_iterator",data:=.fields #[.ref s.heap.objs.size,.int (0:Nat) 0,.ref S,.int (es.size:Nat) 0,.int (ep:Nat) 0] }).objs.size=h1.objs.size+1:=DU ..;have bg:∀c o,h1.get? c=GE o->(h1.push { cls:=.type "set_iterator",data:=.fields #[.ref s.heap.objs.size,.int (0:Nat) 0,.ref S,.int (es.size:Nat) 0,.int (ep:Nat) 0] }).get? c=GE o:=λc o e=>AH _ e;show Q (.ref h1.objs.size) { s with drawn:=d,heap:=h1.push { cls:=.type "set_iterator",data:=.fields #[.ref s.heap.objs.size,.int (0:Nat) 0,.ref S,.int (es.size:Nat) 0,.int (ep:Nat) 0] } };generalize h1.push { cls:=.type "set_iterator",data:=.fields #[.ref s.heap.objs.size,.int (0:Nat) 0,.ref S,.int (es.size:Nat) 0,.int (ep:Nat) 0] }=h2 at hI di bg |-;have n1:S≠h1.objs.size:=by rw[eA];exact BS (DE lt)
  have n2:s.heap.objs.size≠h1.objs.size:=by rw[eA];exact BS (CF _)
  have tT:∀i d:Nat,ds[i]?=GE d->∃x:Ap,(es[d]?).map (λ(e:Int×Ap)=>e.2)=GE x/\(ds.map λd=>(es.toList.map (·.2)).getD d .none)[i]?=GE x:=by
   intro i d hi;have:d<es.size:=by have:=hp.mem_iff.mp (AU hi);simpa using this
   refine⟨es[d].2,by simp[this],?_⟩;rw[AZ,hi];simp[this]
  refine h { s with drawn:=d,heap:=h2 } h1.objs.size [h1.objs.size,S,s.heap.objs.size] (ds.map λd=>(es.toList.map (·.2)).getD d .none)
   (λi s'=>iI s'.heap h1.objs.size (.ref s.heap.objs.size) i S es.size ep/\jR s'.heap S es ep t/\TupAt s'.heap s.heap.objs.size ds)
   (λc o e=>bg c o (a9 c o e)) Z Z Z ?_ (arith di) (by rw[eA];exact le_succ _) (by show h1.objs.size<h2.objs.size;rw[di];exact CF _) (λA' hh'=>?_) ⟨hI,qa.get (bg S),bg _ _ Sl⟩ ?_
  ·have e:(AK es.size).map (λd=>(es.toList.map (·.2)).getD d .none)=es.toList.map (·.2):=by
    refine ext_getElem ζ λi h1 h2=>?_;simp at h1 h2;simp[h2]
   exact(hp.map λd=>(es.toList.map λ(x:Int×Ap)=>x.2).getD d Ap.none).trans (E8.of_eq e)
  ·have am:(ds.map λd=>(es.toList.map (·.2)).getD d .none).length=ds.length:=AI _;exact {
    sub:=λb hb=>by simp at hb;simp[hb]
    grefl:=λ_=>rfl
    gtrans:=λa b c e f=>f.trans e
    frame:=λi s1 h' tk st _ hk=>⟨st.1.get λo e=>hk _ ζ o e,st.2.1.get λo e=>hk _ ζ o e,hk _ ζ _ st.2.2⟩
    item:=λi s1 Q1 E1 hi st hQ1=>by
     rw[am] at hi;obtain⟨x,e1,e2⟩:=tT i ds[i] (AC hi);refine Qo st.1 st.2.1 st.2.2 hf (AC hi) e1 n1 λh' i' b'=>?_;exact hQ1 x { s1 with heap:=h' } e2 ⟨i',st.2.1.get λo e=>b'.extBut _ o n1 e,b'.extBut _ _ n2 st.2.2⟩ ⟨λb o hb e=>b'.extBut b o (λz=>hb (by simp[z])) e,rfl,rfl,rfl,AW _⟩
    done:=λs1 Q1 E1 st hQ1=>by
     refine Vt hh' st.1 st.2.1 st.2.2 hf (by rw[am];simp) λh' k'=>?_;exact hQ1 { s1 with heap:=h' } ⟨λb o hb e=>k' b o (λz=>hb (by simp[z])) e,rfl,rfl,rfl,AW _⟩
    self:=λi s1 Q1 E1 st hQ1=>Rq st.1 hQ1 }
  intro b hb;show b<h2.objs.size/\_;have l0:=DE lt;simp only[AL,BC,or_false] at hb;rw[di,eA];rcases hb with rfl|rfl|rfl
  ·rw[eA];exact⟨CF _,.inr (le_succ _)⟩
  ·exact⟨DE l0,.inl rfl⟩
  exact⟨DE (CF _),.inr (AW _)⟩
 rw[if_neg hc];obtain⟨vs,sl,UH,hp,hn⟩:=ab3 (prog:=prog) (w:=w) (S:=S) (ep:=ep) hf ht (by
  cases hb:bt w with
  | true=>exact .inl rfl
  | false=>rw[hb] at hc;exact .inr (by simpa using hc))
 refine An (AF (An (M8 hS hf (An (BU ?_)))));have hI:iI (s.heap.push { cls:=.type "set_iterator",data:=.fields #[.int (0:Nat) 0,.int (0:Nat) 0,.ref S,.int (es.size:Nat) 0,.int (ep:Nat) 0] }) s.heap.objs.size (.int (sl 0) 0) 0 S es.size ep:=by rw[UH];exact A7 _ rfl
 refine AF ⟨_,rfl, "set_iterator",_,⟨_,hI,rfl⟩,dO.lookup,?_⟩;have di:(s.heap.push { cls:=.type "set_iterator",data:=.fields #[.int (0:Nat) 0,.int (0:Nat) 0,.ref S,.int (es.size:Nat) 0,.int (ep:Nat) 0] }).objs.size=s.heap.objs.size+1:=DU ..;have bg:∀c o,s.heap.get? c=GE o->(s.heap.push { cls:=.type "set_iterator",data:=.fields #[.int (0:Nat) 0,.int (0:Nat) 0,.ref S,.int (es.size:Nat) 0,.int (ep:Nat) 0] }).get? c=GE o:=λc o e=>AH _ e;show Q (.ref s.heap.objs.size) { s with heap:=s.heap.push { cls:=.type "set_iterator",data:=.fields #[.int (0:Nat) 0,.int (0:Nat) 0,.ref S,.int (es.size:Nat) 0,.int (ep:Nat) 0] } };generalize s.heap.push { cls:=.type "set_iterator",data:=.fields #[.int (0:Nat) 0,.int (0:Nat) 0,.ref S,.int (es.size:Nat) 0,.int (ep:Nat) 0] }=h2 at hI di bg |-;have n1:S≠s.heap.objs.size:=BS lt;refine h { s with heap:=h2 } s.heap.objs.size [s.heap.objs.size,S] vs (λi s'=>iI s'.heap s.heap.objs.size (.int (sl i) 0) i S es.size ep/\jR s'.heap S es ep t)
  (λc o e=>bg c o e) Z Z Z hp (arith di) (AW _) (by show s.heap.objs.size<h2.objs.size;rw[di];exact CF _) (λA' hh'=>?_) ⟨hI,hS.get (bg S)⟩ ?_
 ·exact {
   sub:=λb hb=>by simp at hb;simp[hb]
   grefl:=λ_=>rfl
   gtrans:=λa b c e f=>f.trans e
   frame:=λi s1 h' tk st _ hk=>⟨st.1.get λo e=>hk _ ζ o e,st.2.get λo e=>hk _ ζ o e⟩
   item:=λi s1 Q1 E1 hi st hQ1=>by
    have hv:vs[i]?=GE vs[i]:=AC hi;refine next_item st.1 st.2 hf (v:=vs[i]) (sl:=sl (i+1)) (λs2 A2 E2 Q2 gt hQ2=>hn i s2 A2 E2 Q2 (GU hi) gt (by rw[hv];exact hQ2)) n1 λh' i' b'=>?_;exact hQ1 vs[i] { s1 with heap:=h' } hv ⟨i',st.2.get λo e=>b'.extBut _ o n1 e⟩ ⟨λb o hb e=>b'.extBut b o (λz=>hb (by simp[z])) e,rfl,rfl,rfl,AW _⟩
   done:=λs1 Q1 E1 st hQ1=>by
    have hv:vs[vs.length]?=GT:=by simp
    refine next_end hh' st.1 st.2 hf (λs2 A2 E2 Q2 gt hQ2=>hn vs.length s2 A2 E2 Q2 (AW _) gt (by rw[hv];exact hQ2)) λh' k'=>?_;exact hQ1 { s1 with heap:=h' } ⟨λb o hb e=>k' b o (λz=>hb (by simp[z])) e,rfl,rfl,rfl,AW _⟩
   self:=λi s1 Q1 E1 st hQ1=>Rq st.1 hQ1 }
 intro b hb;show b<h2.objs.size/\_;rw[di];simp only[AL,BC,or_false] at hb;rcases hb with rfl|rfl
 ·exact⟨CF _,.inr (AW _)⟩
 exact⟨DE lt,.inl rfl⟩
end
theorem Sx{st:DC}{xs:Array CB}{Q:CB->DC->Prop}(hi:i<xs.size)(h:∀p,xs[i]?=GE p->Q p st):wpS (A3 prog w) A E s (elem' xs i) Q st:=by
 rw[elem'_eq];have e:xs[i]?=GE xs[i]:=getElem?_pos xs i hi;rw[e];exact DM (h _ e)
theorem aar{σ:Type}{c:Prop}[Decidable c]{m n:StateT σ Sem α}{st:σ}{Q:α->σ->Prop}(h1:c->wpS (A3 prog w) A E s m Q st)(h2:¬c->wpS (A3 prog w) A E s n Q st):wpS (A3 prog w) A E s (if c then m else n) Q st:=by
 by_cases h:c
 ·rw[if_pos h];exact h1 h
 rw[if_neg h];exact h2 h
theorem Hi(vs:List Ap):((Ff vs).map (·.2)).toList=vs:=by
 unfold Ff;simp[List.map_snd_zip]
theorem Vi{vs xs:List Ap}(hp:xs.Perm vs):∀{ns:List Int},ER vs ns->∃lT,ER xs lT/\lT.Perm ns:=by
 induction hp with
 | nil=>intro ns h;exact⟨ns,h,E8.refl _⟩
 | cons x _ ih=>
  intro ns h;cases h with
  | cons n t h=>
   obtain⟨lT,h1,h2⟩:=ih h;exact⟨n::lT,.cons n t h1,h2.cons n⟩
 | swap x y l=>
  intro ns h;cases h with
  | cons n t h=>
   cases h with
   | cons m u h=>exact⟨m::n::_,.cons m u (.cons n t h),E8.swap _ _ _⟩
 | trans _ _ ih1 ih2=>
  intro ns h;obtain⟨n1,a1,b1⟩:=ih2 h;obtain⟨n2,a2,b2⟩:=ih1 a1;exact⟨n2,a2,b2.trans b1⟩
theorem vH{α:Type}[DecidableEq α]:∀{l ks:List α},l.Nodup->(∀x∈l,x∈ks)->ks.length=l.length->ks.Perm l
 | [],ks,_,_,h=>by rw[BQ.mp h]
 | x::l,ks,hn,hs,hl=>by
  obtain⟨h1,h2⟩:=Fk.mp hn;have hx:x∈ks:=hs x (AJ ..);refine(List.perm_cons_erase hx).trans (E8.cons _ (vH h2 (λy hy=>?_) ?_))
  ·have:y≠x:=λe=>h1 (e ▸ hy);exact(List.mem_erase_of_ne this).mpr (hs y (AG _ hy))
  rw[List.length_erase_of_mem hx,hl];rfl
theorem uo(val:Nat->Int):∀i,(E5 val i).Nodup
 | 0=>HU
 | i+1=>by
  rw[firstMet_succ];unfold step_dedup;have ih:=uo val i;split
  ·exact ih
  rename_i h;rw[GO];refine⟨ih,by simp,λa ha b hb e=>?_⟩;simp only[AA] at hb;exact h (any_eq_true.mpr ⟨a,ha,by simp[e,hb]⟩)
def ded(ns:List Int):List Int:=E5 (λi=>ns.getD i 0) ns.length
theorem Vu(ns:List Int):(ded ns).Nodup:=uo _ _
theorem Ke(ns:List Int):(ded ns).length<=ns.length:=firstMet_length_le _ _
theorem acD{k:Int}:k∈ded ns↔k∈ns:=by
 have e:=firstMet_any (λi=>ns.getD i 0) ns.length k;have hr:(AK ns.length).map (λi=>ns.getD i 0)=ns:=by
  refine ext_getElem ζ λi h1 h2=>?_;simp at h1 h2;simp[h2]
 rw[hr] at e;have a1:∀l:List Int,l.any (· == k)=true↔k∈l:=λl=>by simp
 rw[<- a1,<- a1];unfold ded;rw[e]
section
variable{S:ID}{es:Array (Int×Ap)}
theorem Fq:∀{l:List (Int×Ap)},ElemsOf (GB prog w) l->∃ks:List Int,ER (l.map (·.2)) ks/\∀k,k∈ks ↔ ∃e∈l,(GB prog w).is k e.2=true
 | [],_=>⟨[],.nil,λk=>by simp⟩
 | (h,v)::l,he=>by
  obtain⟨⟨k,hk,_⟩,_⟩:=he.head;obtain⟨tk,e⟩:=Ap.isInt_shape hk;dsimp only at e hk;subst e;obtain⟨ks,h1,h2⟩:=Fq he.tail;refine⟨k::ks,.cons k tk h1,λj=>?_⟩;rw[AL,h2];constructor
  ·rintro(rfl|⟨e,a,b⟩)
   ·exact⟨_,AJ ..,hk⟩
   exact⟨e,AG _ a,b⟩
  rintro⟨e,a,b⟩;rcases AL.mp a with rfl|a
  ·exact .inl ((GB prog w).inj _ _ _ b hk)
  exact .inr ⟨e,a,b⟩
theorem Zc{ac:Array Ap}(h:ItemsOf (λi v=>vs[i]?=GE v) ac vs.length):ac.toList=vs:=by
 refine ext_getElem (by simpa using h.1) λi h1 h2=>?_;have:vs[i]?=GE ac[i]:=h.2 i ac[i] ζ;rw[AC h2] at this;simpa using this.symm
theorem Nh{Q:List Ap->AD->Prop}(hh:A.handled=GT)(hS:jR s.heap S es ep t)(hf:t.fits es.size=true)(ht:TOk (!bt w) t)(hz:es.size<=AV)
  (hQ:∀(s':AD)(vs:List Ap),vs.Perm (es.toList.map (·.2))->(∀c o,s.heap.get? c=GE o->s'.heap.get? c=GE o)->s'.gens=s.gens->s'.os=s.os->s.heap.objs.size<=s'.heap.objs.size->Q vs s') :
  AO (A3 prog w) A (collect (.ref S)) Q E s:=by
 obtain⟨o,ho,hx,hd⟩:=id hS;have P3:s.TypeIs (.ref S) "set" := ⟨o,ho,hx.1⟩;have lt:S<s.heap.objs.size:=Bz ho;unfold collect;refine An (wpAny_runValue (E6 F.entry_proto_collect ?_));rw[BE.under_plainId F.plain_proto_collect _];show AO _ A.in1 (newList [] >>= λl=>again (.builtin "list.__iadd__" ⟨[l,.ref S],[]⟩)) _ _ s;refine An (BU ?_);refine AF ⟨KM F.plain_list_iadd _,E6 F.entry_list_iadd ?_⟩;rw[BE.under_plainId F.plain_list_iadd _];have qa:jR (s.heap.push { cls:=.type "list",data:=.seq ([]:List Ap).toArray }) S es ep t:=hS.get λo e=>AH _ e;have M3:(s.heap.push { cls:=.type "list",data:=.seq ([]:List Ap).toArray }).get? s.heap.objs.size=GE { cls:=.type "list",data:=.seq ([]:List Ap).toArray }:=A7 _ rfl;have a9:∀c o,s.heap.get? c=GE o->(s.heap.push { cls:=.type "list",data:=.seq ([]:List Ap).toArray }).get? c=GE o:=λc o e=>AH _ e;have yi:AD.TypeIs { s with heap:=s.heap.push { cls:=.type "list",data:=.seq ([]:List Ap).toArray } } (.ref S) "set" := ⟨o,a9 _ _ ho,hx.1⟩;generalize s.heap.push { cls:=.type "list",data:=.seq ([]:List Ap).toArray }=h1 at qa M3 a9 yi |-;have UV:s.heap.objs.size≠S:=IZ lt;show AO _ A.in1 (AX.List.listExtendWith (.ref s.heap.objs.size) (.ref S) (.ref s.heap.objs.size)) _ _ _;unfold AX.List.listExtendWith;refine An (wpAny_typeOf yi ?_);have q1:AX.List.listSameRef (.ref s.heap.objs.size) (.ref S)=false:=by simp[AX.List.listSameRef,UV]
 rw[if_neg (by rw[q1];decide)];refine An (Xa (s:={ s with heap:=h1 }) hh qa hf ht hz λs2 I fp vs St bg y6 ho2 ht2 hp hI bS ba W st0 uk=>?_);have sR:s2.TypeIs (.ref S) "set" := ⟨o,bg _ _ (a9 _ _ ho),hx.1⟩;refine An (C1 ?_);unfold AX.List.listLengthHint;refine An (wpAny_specialOf sR F.slot_set_len.lookup ?_)
 (generalize RF:("set.__len__" : String)=id0;(fail_if_success (clear RF id0));wp_delta;rw[show splitId id0=GE ("set","__len__") from by subst RF;decide +kernel];subst RF)
 refine An (wpAny_isInstance (b:=true) sR sub_set_self ?_);refine B9 Z (wpAny_ite_true ψ (An (wpAny_typeOf sR (AF ?_))));rw[if_pos δ];have uA:s.heap.objs.size∉fp:=λz=>by
  have l1:s.heap.objs.size<h1.objs.size:=Bz M3;rcases(uk _ z).2 with e|e
  ·exact UV e
  exact FK _ (Bi l1 e)
 have WS:=bg _ _ M3;refine An (EN (An ?_));show AO _ A.in1 (updateSeq s.heap.objs.size (·.push .none) >>= λ_=>updateSeq s.heap.objs.size (·.pop)) _ _ _;refine An (wpAny_updateSeq WS Z ?_);have WP:=FC (CA (·.push Ap.none)) WS rfl;refine wpAny_updateSeq WP Z ?_;have hL4:=FC (CA (·.pop)) WP rfl;have oD:∀b o,b≠s.heap.objs.size->s2.heap.get? b=GE o->((s2.heap.update s.heap.objs.size (CA (·.push Ap.none))).update s.heap.objs.size (CA (·.pop))).get? b=GE o:=
  λb o hb e=>(CO _ _ (EC hb)).trans ((CO _ _ (EC hb)).trans e)
 have W1:=W A.in1 (by simpa using hh);refine AF ⟨KM F.plain_extend_loop _,codeAny_extend_loopS W1 (by rw[hp.length_eq,AI,D2];exact hz) _ uA _ vs.length 0 _ _ _ Z (D6 _)
  (W1.frame 0 s2 _ s2.toks st0 (AW _) λb hb o e=>oD b o (λz=>uA (z ▸ hb)) e) hL4 (ItemsOf.nil _) λs' fc c' hm ij fm=>?_⟩
 show AO _ A (load s.heap.objs.size >>= _) _ _ s';refine An (wpAny_load ij (AF ?_));rw[Zc fm];have l2:s.heap.objs.size<s'.heap.objs.size:=Bz ij;refine hQ s' vs hp (λc o e=>?_) (hm.gens.trans y6) (hm.os.trans ho2) (GU l2);have lc:c<s.heap.objs.size:=Bz e;have nI:c≠I:=λz=>by
  have l3:s.heap.objs.size<h1.objs.size:=Bz M3;have l4:h1.objs.size<=I:=bS;rw[z] at lc;exact FK _ (Bi (lt_trans lc l3) l4)
 exact hm.heap c o (by simp only[AL,BC,or_false,not_or];exact⟨BS lc,nI⟩) (oD c o (BS lc) (bg _ _ (a9 _ _ e)))
theorem W8{l:List Int}(hh:A.handled=GT)(hS:SetT (GB prog w) (!bt w) s.heap S (λk'=>l.any (· == k')) l.length)(eT:l.Nodup)(Su:l.length<64)
   (h:∀(s':AD)(L:ID)(xs:List Ap)(lT:List Int)(k:Nat),s'.heap.get? L=GE (FA "list" xs.toArray k)->ER xs lT->lT.Perm l->(l.length<64->lT.Pairwise (·<=·)) ->
   (∀c o,s.heap.get? c=GE o->s'.heap.get? c=GE o)->s'.gens=s.gens->s'.os=s.os->s.heap.objs.size<=L->Q (.ref L) s'):AO (A3 prog w) A (call (.builtin "sorted") [.ref S]) Q E s:=by
 obtain⟨o,es,ep,t,ho,hex,hd,⟨dP,tT,hb⟩,hf,hn,ht⟩:=hS;have hz:es.size<=AV:=fits_of_scanBound hb;obtain⟨ks,jI,hkm⟩:=Fq dP;have VW:ks.Perm l:=vH eT (λx hx=>(hkm x).mpr ((tT x).mp (by simpa using hx))) (by rw[<- hn,<- D2,<- ER.length jI,AI]);refine Calls.call_function_entry kind_sorted plain_sorted entry_sorted (args_sorted1 (.ref S)) ?_;unfold AX.«sorted»;refine An (m:=checkCount "sorted" 1 1 _) (AF (An (Nh (by simpa using hh) ⟨o,ho,hex,hd⟩ hf ht hz λs1 vs hp a9 hg1 MM jv=>An (wpAny_newList ?_ ?_))))
 ·obtain⟨ms,VT,VU⟩:=Vi hp jI;have hvl:vs.length=l.length:=by rw[ER.length VT,VU.length_eq,VW.length_eq]
  have hL:(s1.heap.push (FA "list" vs.toArray 0)).get? s1.heap.objs.size=GE (FA "list" vs.toArray 0):=A7 _ rfl;show AO (A3 prog w) A.in1 _ _ E { s1 with heap:=s1.heap.push (FA "list" vs.toArray 0) };refine An (C1 (Ct slot_list_sort ⟨_,hL,rfl⟩ entry_list_sort (list_sort_tree hL VT ?_ λxs lT a1 a2 a3=>⟨_,rfl,AF ⟨_,rfl,?_⟩⟩) (args_list_sort _)))
  ·rw[hvl];exact Su
  obtain⟨e,he⟩:=sortedHeap_at (out:=xs) hL;refine h _ _ xs.toList lT e (by simpa using he) a1 (a2.trans (VU.trans VW)) (λ_=>a3) (λc o x=>?_) hg1 MM jv;have lc:c<s1.heap.objs.size:=Bz (a9 c o x);show(sortedHeap _ _ _ _).get? c=GE o;rw[sortedHeap_old (BS lc) (by rw[size_push'];exact DE lc)];exact AH _ (a9 c o x)
 rw[hp.length_eq,AI,D2];exact hz
end
end SRT
set_option maxHeartbeats 4000000
namespace L2
open PySem PySem.Spec PyProof.Rows
theorem Cu:∀{xs:List Int}{us:List Ap},Vals (xs.map As) us->ER us xs
 | [],_,h=>by cases h;exact .nil
 | x::xs,_,h=>by
  cases h with
  | cons r h=>
   obtain⟨t,rfl⟩:=r;exact .cons x t (Cu h)
theorem Ig:∀{us:List Ap}{xs:List Int},ER us xs->Vals (xs.map As) us
 | _,_,.nil=>.nil
 | _,_,.cons n t h=>.cons ⟨t,rfl⟩ (Ig h)
def tSS(K:AE)(ta:TA):TE:=λσ H Q=>ta σ H λvs H1=>∃(l:ID)(xs:List Int),vs=[.ref l]/\SqL K H1 l (xs.map As)/\xs.length<64 /\
 ∀(p:ID)(ys:List Int),H1 p=GT->ys.Perm (SRT.ded xs)->((SRT.ded xs).length<64->ys.Pairwise (·<=·))->Q (.ref p) (upd H1 p (.lst (ys.map As)))
theorem Inv.drawn(I:Inv X aa σ H s)(d:Drawn):Inv X aa σ H { s with drawn:=d }:=
 I.step (g':=s.gens) (d':=d) (t':=s.toks) (h':=s.heap) (ch:=[]) (λ_ z=>nomatch z) (λb o _ _ _ e _=>e) (λb o _ _ _ e _=>⟨o.slots,e⟩) (λ_ _ _ _ n=>n) (λb o _ e=>⟨o,e⟩) (λ_ _ e=>e) (λ_ _ _ e=>e) (λb ps e=>⟨#[],by rw[e];simp⟩) (λ_ h=>h) I.hok I.bare
theorem aa9{a:Expr}{p:Pos}(hc:X.calm=true)(nE:Gl X "sorted")(tP:X.mg "sorted" = GT)(hg:Gl X "set")(hm:X.mg "set" = GT)(ha:QA X [a] ta)
  (hs:AM [a] X.env=[(false,eval a X.env)]:=by rfl)
  (he:AM [.Call (.Name "set" p2) [a] [] pos2] X.env=[(false,eval (.Call (.Name "set" p2) [a] [] pos2) X.env)]:=by rfl) :
  QE X (.Call (.Name "sorted" p) [.Call (.Name "set" p2) [a] [] pos2] [] pos) (tSS X.K ta):=⟨by
 intro aa s σ H Q I h;refine EX (mF I nE tP PyProof.Rows.boot_sorted ?_ δ δ);refine PyProof.Rows.callWith_builtin1 ?_ he rfl;rw[he];show AO _ _ (spliced ((false,eval (.Call (.Name "set" p2) [a] [] pos2) X.env)::[])) _ _ s;refine CD ?_;refine Call_ (mF I hg hm PyProof.Rows.boot_set (Ch (thA (ha.h pos2 aa s σ H _ I h) λus s1 vs H1 I1 r1 q1=>?_) hs Z));obtain⟨l,xs,rfl,sq,hn,q⟩:=q1;cases r1 with
 | cons r rr=>
  cases rr;cases r;obtain⟨ae,rv,pl,hz⟩:=I1.list sq;have hI:=Cu rv;have am:ae.length=xs.length:=ER.length hI;refine SRT.Vz (I1.ok.hd hc) pl.isList (by simpa using hI) (by simp[am,FS];omega) λh2 t2 hS hk=>DF ?_;have eq:E5 (λi=>xs.getD i 0) ae.toArray.size=SRT.ded xs:=by unfold SRT.ded;rw[AY,am]
  rw[eq] at hS;have bg:∀c o,s1.heap.get? c=GE o->h2.get? c=GE o:=λc o e=>hk c o (Bz e) e;refine SRT.W8 (s:={ s1 with heap:=h2,toks:=t2 }) (I1.ok.hd hc) hS (SRT.Vu xs) (CM (SRT.Ke xs) hn) λs3 L ys ns k gL iL pL oL k3 g3 o3 l3=>?_;have le:s1.heap.objs.size<=L:=by
   obtain⟨o,_,_,_,e,_⟩:=hS;exact Cn (GU (Bz e)) l3
  have hf:H1 L=GT:=I1.hok.fresh le;obtain⟨h3,g3',d3,t3,Mk⟩:=s3;cases g3;cases o3;have hl:ns.length<=AV:=by
   rw[pL.length_eq];exact Cn (SRT.Ke xs) (Cn (GU hn) δ)
  refine⟨.ref L,_,((I1.drawn d3).laid (t':=t3) (h':=h3) (λc o e=>k3 c o (bg c o e)) le (show cR X.prog X.w _ h3 _ (.lst (ns.map As)) from⟨by simpa using hl,ys,k,Ig iL,gL⟩)),rfl,q L ns hf pL oL⟩⟩
structure DA(K:AE)(x:Str)(st:Stmt)(f:ID)(od an:Option ID)(sl:Array (Option Ap))(oc kV dc pm cd ct:Ap):Prop where
 a:nsIn K Cs x=GE (GE (.ref f))
 l:K.lookup f=GE ⟨oc,od,.func (fnOf x x (je st) (fY st) (aj st) .none kV dc pm an cd ct),sl⟩
 c:codeIn K cd x=true
 k:keepIn K (.ref f)=true
theorem DA.d{x:Str}{st:Stmt}{sl:Array (Option Ap)}{kV dc pm cd ct:Ap}(D:DA K x st f od an sl oc kV dc pm cd ct)(ps:List Str)(X:K.In h)(G:h.Ns Cs mg)
  (hb:∀(kV dv pm:Ap)(an:Option ID)(ap ct:Ap)(us:List Ap),us.length=ps.length->bindArgs (fnOf x x (je st) (fY st) (aj st) .none kV dv pm an ap ct) ⟨us,[]⟩=pure (ps.zip us)):aaq K mg x st ps f (fnOf x x (je st) (fY st) (aj st) .none kV dc pm an cd ct):=
 aeR X G D.a D.l D.c D.k hb
def DB(K:AE)(x:Str)(st:Stmt):Prop:=∃(f:ID)(od an:Option ID)(sl:Array (Option Ap)) (oc kV dc pm cd ct:Ap),DA K x st f od an sl oc kV dc pm cd ct
theorem DB.d{K:AE}{h:Heap}{mg:Str->Option Ap}{x:Str}{st:Stmt}(D:DB K x st)(ps:List Str)(X:K.In h)(G:h.Ns Cs mg)
   (hb:∀(kV dv pm:Ap)(an:Option ID)(ap ct:Ap)(us:List Ap),us.length=ps.length->bindArgs (fnOf x x (je st) (fY st) (aj st) .none kV dv pm an ap ct) ⟨us,[]⟩=pure (ps.zip us):=by
   intro _ _ _ _ _ _ us hl
   first
   | (obtain⟨z0,rfl⟩:=ln1 hl;rfl)
   | (obtain⟨z0,z1,rfl⟩:=ln2 hl;rfl)
   | (obtain⟨z0,z1,z2,rfl⟩:=ln3 hl;rfl)
   | (obtain⟨z0,z1,z2,z3,rfl⟩:=ln4 hl;rfl)
   | (obtain⟨z0,z1,z2,z3,z4,rfl⟩:=ln5 hl;rfl)):∃f fd,aaq K mg x st ps f fd:=by
 obtain⟨f,od,an,sl,oc,kV,dc,pm,cd,ct,a⟩:=D;exact⟨_,_,a.d ps X G hb⟩
def NS(K:AE):List Str->Prop
 | []=>True
 | x::r=>nsIn K Cs x=GE GT/\NS K r
theorem NS.all{K:AE}:∀{l:List Str},NS K l->∀x∈l,nsIn K Cs x=GE GT
 | y::r,h,x,hx=>(AL.mp hx).elim (λe=>e ▸ h.1) (NS.all h.2 x)
theorem Fun.okz{x:Str}{st:Stmt}{k:Nat}(F:Fun K x qual st f fd)(S:bx N ps (aj st))
   (eK:∀(ap:Ap)(A:BE)(outer:List Env)(s:AD)(H:Hp)(vs:List V)(Q:VK)(E:XK),lX k (A.deeper (IA qual (aj st) s.heap.objs.size f ap))->sp vs H Q E ->
   ∃t,QB (Ng CX0 P w K mg base N qual (aj st) f ap A outer s H E).nox (fY st) t/\t { nx:=λ_ H'=>Q .non H',rt:=Q } (L2.start N vs) H)
  (len:∀vs H Q E,sp vs H Q E->vs.length=ps.length:=by
   intro vs H Q E h
   repeat (first|(obtain⟨rfl,_⟩:=h;rfl)|obtain⟨_,h⟩:=h)):cT P w K mg base CX0 (k+1) f fd ps sp:=F.okq S len eK
def cov(xs:List (Int×Int))(n:Int):Prop:=∃s,s∈xs/\s.1<=n/\n<=s.2
theorem Cp{n:Int}:¬cov [] n:=λ⟨s,m,_⟩=>by cases m
theorem mZ{xs:List (Int×Int)}{n:Int}:cov (xs++ys) n↔cov xs n\/cov ys n:=by
 constructor
 ·rintro⟨s,m,h⟩;rcases BA.mp m with m|m
  ·exact .inl ⟨s,m,h⟩
  exact .inr ⟨s,m,h⟩
 rintro(⟨s,m,h⟩|⟨s,m,h⟩)
 ·exact⟨s,BN _ m,h⟩
 exact⟨s,A4 _ m,h⟩
theorem vf{s:Int×Int}{n:Int}:cov [s] n↔s.1<=n/\n<=s.2:=by
 constructor
 ·rintro⟨t,m,h⟩;rw[AA.mp m] at h;exact h
 exact λh=>⟨s,AA.mpr rfl,h⟩
theorem iY{s:Int×Int}{xs:List (Int×Int)}{n:Int}:cov (s::xs) n↔(s.1<=n/\n<=s.2)\/cov xs n:=by
 rw[<- List.singleton_append,mZ,vf]
theorem ZR{xs:List (Int×Int)}(h:xs.Perm ys){n:Int}:cov xs n↔cov ys n:=
 ⟨λ⟨s,m,q⟩=>⟨s,h.mem_iff.mp m,q⟩,λ⟨s,m,q⟩=>⟨s,h.mem_iff.mpr m,q⟩⟩
structure Gap(xs:List (Int×Int)):Prop where
 ne:∀s,s∈xs->s.1<=s.2
 up:xs.Pairwise λa b=>a.2+1<b.1
structure Dis(xs:List (Int×Int)):Prop where
 ne:∀s,s∈xs->s.1<=s.2
 df:xs.Pairwise λa b=>a.2<b.1\/b.2<a.1
theorem Gap.nil:Gap []:=⟨λs m=>(by cases m),.nil⟩
theorem Dis.nil:Dis []:=⟨λs m=>(by cases m),.nil⟩
theorem Dis.one{a b:Int}(h:a<=b):Dis [(a,b)]:=⟨λs m=>by rw[AA.mp m];exact h,Db _ _⟩
theorem Dis.app{xs:List (Int×Int)}(h:Dis xs)(k:Dis ys)(hd:∀n,cov xs n->cov ys n->False):Dis (xs++ys):=by
 refine⟨λs m=>?_,CL.mpr ⟨h.df,k.df,λa ma b mb=>?_⟩⟩
 ·rcases BA.mp m with m|m
  ·exact h.ne s m
  exact k.ne s m
 have ha:=h.ne a ma;have hb:=k.ne b mb;by_cases c1:a.2<b.1
 ·exact .inl c1
 by_cases c2:b.2<a.1
 ·exact .inr c2
 exfalso;by_cases c3:a.1<=b.1
 ·exact hd b.1 ⟨a,ma,c3,ω⟩ ⟨b,mb,Cf _,hb⟩
 exact hd a.1 ⟨a,ma,Cf _,ha⟩ ⟨b,mb,ω,ω⟩
theorem Dis.firsts{xs:List (Int×Int)}(h:Dis xs):(xs.map (·.1)).Nodup:=by
 refine IL.mpr (h.df.imp_of_mem λ{a b} ma mb q=>?_);have ha:=h.ne a ma;have hb:=h.ne b mb;intro e;have e:a.1=b.1:=e;omega
theorem Dis.rising{xs:List (Int×Int)}(h:Dis xs)(p:zs.Perm xs)(hz:(zs.map (·.1)).Pairwise (· < ·)):(∀s,s∈zs->s.1<=s.2)/\zs.Pairwise λa b=>a.2<b.1:=by
 have d2:zs.Pairwise λa b=>a.2<b.1\/b.2<a.1:=p.symm.pairwise h.df λ{a b} q=>q.symm;have ne:∀s,s∈zs->s.1<=s.2:=λs m=>h.ne s (p.mem_iff.mp m);refine⟨ne,?_⟩;have di:=IL.mp hz;refine(d2.and di).imp_of_mem λ{a b} ma mb q=>?_;have ha:=ne a ma;have hb:=ne b mb;omega
theorem Ho{α:Type}[DecidableEq α]:∀{xs ps:List α},xs.Nodup->(∀x,x∈xs->x∈ps)->xs.length<=ps.length
 | [],_,_,_=>D6 _
 | x::xs,ps,hn,hs=>by
  have hx:x∈ps:=hs x (AJ ..);have h2:=Fk.mp hn;have:=Ho (xs:=xs) (ps:=ps.erase x) h2.2 λy hy=>by
   refine(List.mem_erase_of_ne ?_).mpr (hs y (AG _ hy));rintro rfl;exact h2.1 hy
  rw[List.length_erase_of_mem hx] at this;have l1:0<ps.length:=HH hx;rw[BG];omega
theorem Dis.count{xs:List (Int×Int)}(h:Dis xs){ps:List Int}(hp:∀s,s∈xs->s.1∈ps):xs.length<=ps.length:=by
 have:=Ho h.firsts (ps:=ps) λx hx=>by
  obtain⟨s,m,rfl⟩:=C8.mp hx;exact hp s m
 rwa [AI] at this
structure JI(zs az:List (Int×Int))(i:Nat):Prop where
 gap:Gap az
 cv:∀n,cov az n↔cov (zs.take i) n
 be:∀t,t∈az->∀z,z∈zs.drop i->t.2<z.1
 fs:∀t,t∈az->∃z,z∈zs/\z.1=t.1
 ln:az.length<=i
theorem JI.start(zs:List (Int×Int)):JI zs [] 0:=⟨.nil,λn=>Iff.rfl,λt m=>(by cases m),λt m=>(by cases m),AW _⟩
theorem xJ{zs:List α}{z:α}(h:zs[i]?=GE z):zs.take (i+1)=zs.take i++[z]:=by
 rw[F2,h];rfl
theorem jQ{zs:List α}{z:α}(h:zs[i]?=GE z):zs.drop i=z::zs.drop (i+1):=by
 obtain⟨hi,e⟩:=AB.mp h;rw[Hd hi,e]
theorem JI.fresh{az:List (Int×Int)}{z:Int×Int}(h:JI zs az i)(hz:zs[i]?=GE z)(hn:∀s,s∈zs->s.1<=s.2)(hu:zs.Pairwise λa b=>a.2<b.1)
  (hl:∀t,az.getLast?=GE t->¬z.1<=t.2+1):JI zs (az++[z]) (i+1):=by
 have mz:z∈zs:=AU hz;have e:=jQ hz;have nk:(zs.drop i).Pairwise λa b=>a.2<b.1:=hu.sublist (IJ _ _);rw[e] at nk;have P1:=B4.mp nk;refine⟨⟨λs m=>?_,CL.mpr ⟨h.gap.up,Db _ _,λa ma b mb=>?_⟩⟩,λn=>?_,λt m z' mz'=>?_,λt m=>?_,by rw[AN,AQ];have:=h.ln;omega⟩
 ·rcases BA.mp m with m|m
  ·exact h.gap.ne s m
  rw[AA.mp m];exact hn z mz
 ·rw[AA.mp mb];rcases IX az with e0|⟨pre,t,e0⟩
  ·rw[e0] at ma;cases ma
  subst e0;have h1:=hl t ζ;have ma:a∈pre++[t]:=by simpa using ma
  have hup:(pre++[t]).Pairwise λa b=>a.2+1<b.1:=by simpa using h.gap.up
  rcases BA.mp ma with m|m
  ·have:=(CL.mp hup).2.2 a m t ζ;have:=h.gap.ne t ζ;omega
  rw[AA.mp m];omega
 ·rw[mZ,xJ hz,mZ,h.cv]
 ·rcases BA.mp m with m|m
  ·exact h.be t m z' (by rw[e];exact AG _ mz')
  rw[AA.mp m];exact P1.1 z' mz'
 rcases BA.mp m with m|m
 ·exact h.fs t m
 exact⟨z,mz,by rw[AA.mp m]⟩
theorem JI.grown{pre:List (Int×Int)}{t:Int×Int}{z:Int×Int}(h:JI zs (pre++[t]) i)(hz:zs[i]?=GE z)(hn:∀s,s∈zs->s.1<=s.2)(hu:zs.Pairwise λa b=>a.2<b.1)
  (hl:z.1<=t.2+1):JI zs (pre++[(t.1,max z.2 t.2)]) (i+1):=by
 have mz:z∈zs:=AU hz;have e:=jQ hz;have nk:(zs.drop i).Pairwise λa b=>a.2<b.1:=hu.sublist (IJ _ _);rw[e] at nk;have P1:=B4.mp nk;have hg:=CL.mp h.gap.up;have nt:=h.gap.ne t ζ;have nz:=hn z mz;have tz:=h.be t ζ z (by rw[e];exact AJ ..);refine⟨⟨λs m=>?_,CL.mpr ⟨hg.1,Db _ _,λa ma b mb=>?_⟩⟩,λn=>?_,λs m z' mz'=>?_,λs m=>?_,by have:=h.ln;simp only[AN,AQ] at this |-;omega⟩
 ·rcases BA.mp m with m|m
  ·exact h.gap.ne s (BN _ m)
  rw[AA.mp m];show t.1<=max z.2 t.2;omega
 ·rw[AA.mp mb];exact hg.2.2 a ma t ζ
 ·rw[xJ hz,mZ,mZ,<- h.cv,mZ,vf,vf,vf];show(cov pre n\/t.1<=n/\n<=max z.2 t.2)↔_;constructor
  ·rintro(q|⟨q1,q2⟩)
   ·exact .inl (.inl q)
   by_cases c:n<=t.2
   ·exact .inl (.inr ⟨q1,c⟩)
   exact .inr ⟨ω,ω⟩
  rintro((q|⟨q1,q2⟩)|⟨q1,q2⟩)
  ·exact .inl q
  ·exact .inr ⟨q1,ω⟩
  exact .inr ⟨ω,ω⟩
 ·rcases BA.mp m with m|m
  ·exact h.be s (BN _ m) z' (by rw[e];exact AG _ mz')
  rw[AA.mp m];have:=P1.1 z' mz';have:=h.be t ζ z' (by rw[e];exact AG _ mz');show max z.2 t.2<z'.1;omega
 rcases BA.mp m with m|m
 ·exact h.fs s (BN _ m)
 rw[AA.mp m];exact h.fs t ζ
def jz:Nat->List (Int×Int)->List (Int×Int×Int)->List (Int×(Int×Int))
 | k+1,s::ss,w::ws=>(if max w.1 s.1<=min w.2.1 s.2 then [(w.2.2,(max w.1 s.1,min w.2.1 s.2))] else [])++(if s.2<w.2.1 then jz k ss (w::ws) else jz k (s::ss) ws)
 | _,_,_=>[]
def newOf(out:List (Int×(Int×Int)))(g:Int):List (Int×Int):=(out.filter λx=>x.1 == g).map (·.2)
theorem Hq(a b:List (Int×(Int×Int)))(g:Int):newOf (a++b) g=newOf a g++newOf b g:=by
 unfold newOf;rw[HL,BH]
theorem ni{g:Int}{s:Int×Int}:s∈newOf out g↔(g,s)∈out:=by
 unfold newOf;rw[C8];constructor
 ·rintro⟨x,m,rfl⟩;have:=BD.mp m;have e:x.1=g:=by simpa using this.2
  rw[<- e];exact this.1
 intro m;exact⟨(g,s),BD.mpr ⟨m,by simp⟩,rfl⟩
structure NQ(ss:List (Int×Int))(ws:List (Int×Int×Int))(out:List (Int×(Int×Int))):Prop where
 fr:∀x,x∈out->x.2.1<=x.2.2/\∃s w,s∈ss/\w∈ws/\w.2.2=x.1/\w.1<=x.2.1/\x.2.2<=w.2.1/\s.1<=x.2.1/\x.2.2<=s.2/\(x.2.1=w.1\/x.2.1=s.1)
 up:out.Pairwise λx y=>x.2.2<y.2.1
 al:∀s w n,s∈ss->w∈ws->s.1<=n->n<=s.2->w.1<=n->n<=w.2.1->cov (newOf out w.2.2) n
theorem Xc:∀(k:Nat){ss:List (Int×Int)}{ws:List (Int×Int×Int)},ss.length+ws.length<=k->(ss.Pairwise λa b=>a.2<b.1)->(ws.Pairwise λa b=>a.2.1<b.1)->NQ ss ws (jz k ss ws):=by
 intro k
 induction k with
 | zero=>
  intro ss ws hk _ _;have:ss=[]:=BQ.mp ω;subst this;exact⟨λx m=>(by cases m),.nil,λs w n m=>(by cases m)⟩
 | succ k ih=>
  intro ss ws hk hs hw
  match ss,ws,hk,hs,hw with
  | [],ws,_,_,_=>exact⟨λx m=>(by cases m),.nil,λs w n m=>(by cases m)⟩
  | s::ss,[],_,_,_=>exact⟨λx m=>(by cases m),.nil,λs w n _ m=>(by cases m)⟩
  | s::ss,w::ws,hk,hs,hw=>
   have i5:=B4.mp hs;have PZ:=B4.mp hw;have bg:ss.length+ws.length+1<=k:=by simp only[BG] at hk;omega
   have rest:NQ (if s.2<w.2.1 then ss else s::ss) (if s.2<w.2.1 then w::ws else ws) (if s.2<w.2.1 then jz k ss (w::ws) else jz k (s::ss) ws):=by
    by_cases c:s.2<w.2.1
    ·rw[if_pos c,if_pos c,if_pos c];exact ih (by simp only[BG];omega) i5.2 hw
    rw[if_neg c,if_neg c,if_neg c];exact ih (by simp only[BG];omega) hs PZ.2
   show NQ (s::ss) (w::ws) ((if max w.1 s.1<=min w.2.1 s.2 then [(w.2.2,(max w.1 s.1,min w.2.1 s.2))] else [])++(if s.2<w.2.1 then jz k ss (w::ws) else jz k (s::ss) ws));generalize hr:(if s.2<w.2.1 then jz k ss (w::ws) else jz k (s::ss) ws)=r at rest |-;have OL:∀z,z∈(if s.2<w.2.1 then ss else s::ss)->z∈s::ss:=λz m=>by
    split at m
    ·exact AG _ m
    exact m
   have OK:∀z,z∈(if s.2<w.2.1 then w::ws else ws)->z∈w::ws:=λz m=>by
    split at m
    ·exact m
    exact AG _ m
   have hd:∀x,x∈(if max w.1 s.1<=min w.2.1 s.2 then [(w.2.2,(max w.1 s.1,min w.2.1 s.2))] else [])->x=(w.2.2,(max w.1 s.1,min w.2.1 s.2))/\max w.1 s.1<=min w.2.1 s.2:=λx m=>by
    split at m
    ·exact⟨AA.mp m,by assumption⟩
    cases m
   refine⟨λx m=>?_,CL.mpr ⟨?_,rest.up,λa ma b mb=>?_⟩,λs' w' n ms mw h1 h2 h3 h4=>?_⟩
   ·rcases BA.mp m with m|m
    ·obtain⟨rfl,bS⟩:=hd x m;refine⟨bS,s,w,AJ ..,AJ ..,rfl,?_,?_,?_,?_,?_⟩
     ·show w.1<=max w.1 s.1;omega
     ·show min w.2.1 s.2<=w.2.1;omega
     ·show s.1<=max w.1 s.1;omega
     ·show min w.2.1 s.2<=s.2;omega
     show max w.1 s.1=w.1\/max w.1 s.1=s.1;omega
    obtain⟨q1,s',w',q2,q3,q4⟩:=rest.fr x m;exact⟨q1,s',w',OL _ q2,OK _ q3,q4⟩
   ·split
    ·exact Db _ _
    exact .nil
   ·obtain⟨rfl,bS⟩:=hd a ma;obtain⟨q1,s',w',q2,q3,q4,q5,q6,q7,q8,q9⟩:=rest.fr b mb;show min w.2.1 s.2<b.2.1;by_cases c:s.2<w.2.1
    ·rw[if_pos c] at q2;have:=i5.1 s' q2;omega
    rw[if_neg c] at q3;have:=PZ.1 w' q3;omega
   rw[Hq,mZ];have cb:s'∈(if s.2<w.2.1 then ss else s::ss)->w'∈(if s.2<w.2.1 then w::ws else ws)->cov (newOf r w'.2.2) n:=λa b=>rest.al s' w' n a b h1 h2 h3 h4;by_cases c:s.2<w.2.1
   ·rw[if_pos c,if_pos c] at cb;rcases AL.mp ms with rfl|ms
    ·rcases AL.mp mw with rfl|mw
     ·left;have bS:max w'.1 s'.1<=min w'.2.1 s'.2:=ω;rw[if_pos bS];exact⟨_,ni.mpr (AA.mpr Z),by show max w'.1 s'.1<=n;omega,by show n<=min w'.2.1 s'.2;omega⟩
     have:=PZ.1 w' mw;omega
    exact .inr (cb ms mw)
   rw[if_neg c,if_neg c] at cb;rcases AL.mp mw with rfl|mw
   ·rcases AL.mp ms with rfl|ms
    ·left;have bS:max w'.1 s'.1<=min w'.2.1 s'.2:=ω;rw[if_pos bS];exact⟨_,ni.mpr (AA.mpr Z),by show max w'.1 s'.1<=n;omega,by show n<=min w'.2.1 s'.2;omega⟩
    have:=i5.1 s' ms;omega
   exact .inr (cb ms mw)
theorem NQ.dis{ss:List (Int×Int)}(h:NQ ss ws out)(g:Int):Dis (newOf out g):=by
 refine⟨λs m=>(h.fr _ (ni.mp m)).1,IL.mpr ((h.up.sublist KE).imp λq=>.inl q)⟩
theorem NQ.cov{ss:List (Int×Int)}(h:NQ ss ws out)(g n:Int):L2.cov (newOf out g) n↔L2.cov ss n/\∃w,w∈ws/\w.2.2=g/\w.1<=n/\n<=w.2.1:=by
 constructor
 ·rintro⟨s,m,h1,h2⟩;obtain⟨q1,s',w',q2,q3,q4,q5,q6,q7,q8,q9⟩:=h.fr _ (ni.mp m);have q5:w'.1<=s.1:=q5;have q6:s.2<=w'.2.1:=q6;have q7:s'.1<=s.1:=q7;have q8:s.2<=s'.2:=q8;exact⟨⟨s',q2,ω,ω⟩,w',q3,q4,ω,ω⟩
 rintro⟨⟨s,m,h1,h2⟩,w,mw,rfl,h3,h4⟩;exact h.al s w n m mw h1 h2 h3 h4
def Goes(cs:List RowC)(n:Int)(y:Nat)(x:Int):Prop:=∃c,cs[y]?=GE c/\fJ c=false/\dG c (y:Int) n=GE x
theorem Goes.lt{cs:List RowC}{n:Int}{y:Nat}{x:Int}(hr:iC cs)(h:Goes cs n y x):(y:Int)<x/\x<cs.length:=by
 obtain⟨c,hc,_,hs⟩:=h;exact pP hr hc hs
theorem Goes.inj{n:Int}{y:Nat}{x z:Int}(h:Goes cs n y x)(k:Goes cs n y z):x=z:=by
 obtain⟨c,hc,_,hs⟩:=h;obtain⟨d,hd,_,ht⟩:=k;rw[hc] at hd;cases hd;rw[hs] at ht;cases ht;rfl
structure ac3(cs:List RowC)(n:Int)(j:Nat)(o:Option Int)(L:List Int):Prop where
 rg:∀x,x∈L->(j:Int)<=x/\x<cs.length
 hd:(j:Int)∈L
 pr:∀x,x∈L->x=j\/∃y:Nat,(y:Int)∈L/\Goes cs n y x
 nx:∀(y:Nat) x,(y:Int)∈L->Goes cs n y x->x∈L
 bt:∀(y z:Nat) x,(y:Int)∈L->(z:Int)∈L->y<z->Goes cs n y x->x<=z
 pk:∀(y:Nat) l,(y:Int)∈L->cs[y]?=GE (.pik l)->o=GE l
 bd:∀(y:Nat) c,(y:Int)∈L->cs[y]?=GE c->fJ c=false->dG c y n=GT->o=GT
 en:(∃(y:Nat)(l:Int),(y:Int)∈L/\cs[y]?=GE (.pik l)/\o=GE l)\/∃(y:Nat)(c:RowC),(y:Int)∈L/\cs[y]?=GE c/\fJ c=false/\dG c y n=GT/\o=GT
theorem abJ{cs:List RowC}{n:Int}(hr:iC cs):∀(k j:Nat),j<cs.length->cs.length<=j+k->ac3 cs n j (runC cs n k j).1 (runC cs n k j).2:=by
 intro k
 induction k with
 | zero=>intro j h1 h2;omega
 | succ k ih=>
  intro j h1 h2;have hc:cs[j]?=GE cs[j]:=AC h1;have cp:cs[((j:Nat):Int).toNat]?=GE cs[j]:=by rw[B3];exact hc
  cases hp:fJ cs[j] with
  | true=>
   cases e:cs[j] with
   | pik l=>
    rw[e] at hc cp;rw[lK cp];have only:∀{y:Nat},(y:Int)∈[(j:Int)]->y=j:=λm=>by have:=AA.mp m;omega
    have ng:∀{x:Int},¬Goes cs n j x:=λ⟨c,q,q2,_⟩=>by rw[hc] at q;cases q;cases q2
    refine⟨λx m=>?_,AA.mpr rfl,λx m=>.inl (AA.mp m),λy x m g=>?_,λy z x m1 m2 lt _=>?_,λy l' m q=>?_,λy c m q q2 _=>?_,.inl ⟨j,l,AA.mpr rfl,hc,rfl⟩⟩
    ·rw[AA.mp m];omega
    ·rw[only m] at g;exact absurd g ng
    ·have:=only m1;have:=only m2;omega
    ·rw[only m,hc] at q;cases q;rfl
    rw[only m,hc] at q;cases q;cases q2
   | _=>rw[e] at hp;cases hp
  | false=>
   cases hs:dG cs[j] (j:Int) n with
   | none=>
    rw[xY cp hp hs];have only:∀{y:Nat},(y:Int)∈[(j:Int)]->y=j:=λm=>by have:=AA.mp m;omega
    have ng:∀{x:Int},¬Goes cs n j x:=λ⟨c,q,q2,q3⟩=>by rw[hc] at q;cases q;rw[hs] at q3;cases q3
    refine⟨λx m=>?_,AA.mpr rfl,λx m=>.inl (AA.mp m),λy x m g=>?_,λy z x m1 m2 lt _=>?_,λy l' m q=>?_,λy c m q q2 _=>rfl,.inr ⟨j,_,AA.mpr rfl,hc,hp,hs,rfl⟩⟩
    ·rw[AA.mp m];omega
    ·rw[only m] at g;exact absurd g ng
    ·have:=only m1;have:=only m2;omega
    rw[only m,hc] at q;rw[A0 q] at hp;cases hp
   | some t=>
    have hb:=pP hr hc hs;obtain⟨tn,rfl⟩:=ES (show 0<=t by omega);rw[uH cp hp hs];have I:=ih tn ω ω;have gj:Goes cs n j (tn:Int):=⟨_,hc,hp,hs⟩;generalize (runC cs n k (tn:Int)).1=o at I;generalize (runC cs n k (tn:Int)).2=L at I;have sp:∀{y:Nat},(y:Int)∈(j:Int)::L->y=j\/(y:Int)∈L:=λm=>by
     rcases AL.mp m with m|m
     ·left;omega
     exact .inr m
    refine⟨λx m=>?_,AJ ..,λx m=>?_,λy x m g=>?_,λy z x m1 m2 lt g=>?_,λy l m q=>?_,λy c m q q2 q3=>?_,?_⟩
    ·rcases AL.mp m with rfl|m
     ·omega
     have:=I.rg x m;omega
    ·rcases AL.mp m with e|m
     ·exact .inl e
     rcases I.pr x m with e|⟨y,m2,g⟩
     ·rw[e];exact .inr ⟨j,AJ ..,gj⟩
     exact .inr ⟨y,AG _ m2,g⟩
    ·rcases sp m with rfl|m
     ·rw[g.inj gj];exact AG _ I.hd
     exact AG _ (I.nx y x m g)
    ·rcases sp m2 with e2|m4
     ·rcases sp m1 with e1|m3
      ·omega
      have:=(I.rg _ m3).1;omega
     rcases sp m1 with e1|m3
     ·subst e1;rw[g.inj gj];exact(I.rg _ m4).1
     exact I.bt y z x m3 m4 lt g
    ·rcases sp m with rfl|m
     ·rw[hc] at q;rw[A0 q] at hp;cases hp
     exact I.pk y l m q
    ·rcases sp m with rfl|m
     ·rw[hc] at q;cases q;rw[hs] at q3;cases q3
     exact I.bd y c m q q2 q3
    rcases I.en with⟨y,l,m,q⟩|⟨y,c,m,q⟩
    ·exact .inl ⟨y,l,AG _ m,q⟩
    exact .inr ⟨y,c,AG _ m,q⟩
def Cm(cs:List RowC)(n:Int)(j:Nat):Prop:=(j:Int)∈(runOf cs n).2
theorem lO{n:Int}(hr:iC cs):ac3 cs n 0 (runOf cs n).1 (runOf cs n).2:=abJ hr cs.length 0 hr.1 ω
theorem Cm.iff{n:Int}(hr:iC cs)(j:Nat):Cm cs n j↔j=0\/∃y:Nat,y<j/\Cm cs n y/\Goes cs n y (j:Int):=by
 have I:=lO (n:=n) hr;constructor
 ·intro h;rcases I.pr _ h with e|⟨y,m,g⟩
  ·left;omega
  exact .inr ⟨y,by have:=g.lt hr;omega,m,g⟩
 rintro(rfl|⟨y,_,m,g⟩)
 ·exact I.hd
 exact I.nx y _ m g
def stC:RowC->Int->Prop
 | .one a _,n=>n=a\/n=a+1
 | .rng a b _,n=>n=a\/n=b+1
 | .low a _,n=>n=a
 | .msk lo wd b _,n=>lo<=n/\n<lo+wd/\(n=lo\/bitAt b (n-lo)≠bitAt b (n-1-lo))
 | .tab lo gs,n=>lo<=n/\n<lo+gs.length/\(n=lo\/gs[(n-lo).toNat]?≠gs[(n-1-lo).toNat]?)
 | .pik _,_=>False
structure Kp(m:Nat)(c:RowC)(j:Nat)(lo hi:Int)(ws:List (Int×Int×Int)):Prop where
 up:ws.Pairwise λa b=>a.2.1<b.1
 cv:∀n g,lo<=n->n<=hi->((∃w,w∈ws/\w.2.2=g/\w.1<=n/\n<=w.2.1)↔fJ c=false/\dG c j n=GE g)
 gl:∀w,w∈ws->(j:Int)<w.2.2/\w.2.2<m
 st:∀w,w∈ws->w.1=lo\/stC c w.1
def ae4(cs:List RowC)(low n:Int):Prop:=n=low\/∃(i:Nat)(c:RowC),cs[i]?=GE c/\stC c n
structure CI(cs:List RowC)(low high:Int)(X:Nat->List (Int×Int))(k:Nat):Prop where
 dn:∀j,j<k->Gap (X j)
 dc:∀j n,j<k->(cov (X j) n↔low<=n/\n<=high/\Cm cs n j)
 ra:∀j,k<=j->Dis (X j)
 rc:∀j n,k<=j->(cov (X j) n↔low<=n/\n<=high/\(j=0\/∃y:Nat,y<k/\Cm cs n y/\Goes cs n y (j:Int)))
 fs:∀j s,s∈X j->ae4 cs low s.1
theorem CI.start{low:Int}(h:low<=high):CI cs low high (λj=>if j=0 then [(low,high)] else []) 0:=by
 refine⟨λj z=>absurd z (HA _),λj n z=>absurd z (HA _),λj _=>?_,λj n _=>?_,λj s m=>?_⟩
 ·split
  ·exact Dis.one h
  exact Dis.nil
 ·by_cases c:j=0
  ·rw[if_pos c,vf];exact⟨λq=>⟨q.1,q.2,.inl c⟩,λq=>⟨q.1,q.2.1⟩⟩
  rw[if_neg c];exact⟨λq=>absurd q Cp,λ⟨_,_,q⟩=>by rcases q with q|⟨y,q,_⟩ <;> omega⟩
 split at m
 ·rw[AA.mp m];exact .inl rfl
 cases m
theorem CI.at{low:Int}{X:Nat->List (Int×Int)}{k:Nat}(hr:iC cs)(h:CI cs low high X k)(n:Int):cov (X k) n↔low<=n/\n<=high/\Cm cs n k:=by
 rw[h.rc k n (AW _),Cm.iff hr]
theorem CI.step{low:Int}{X:Nat->List (Int×Int)}{k:Nat}{c:RowC}(hr:iC cs)(hc:cs[k]?=GE c)(h:CI cs low high X k)
  (gy:Gap ys)(cy:∀n,cov ys n↔cov (X k) n)(fy:∀s,s∈ys->∃z,z∈X k/\z.1=s.1)(hw:Kp cs.length c k low high ws)(hs:NQ ys ws out):CI cs low high (λj=>(if j=k then ys else X j)++newOf out (j:Int)) (k+1):=by
 have em:∀j:Nat,j<=k->newOf out (j:Int)=[]:=λj hj=>by
  refine List.eq_nil_iff_forall_not_mem.mpr λs m=>?_;obtain⟨_,s',w,_,mw,e,_⟩:=hs.fr _ (ni.mp m);have:=(hw.gl w mw).1;have e:w.2.2=(j:Int):=e;omega
 have nw:∀(j:Nat) n,cov (newOf out (j:Int)) n↔low<=n/\n<=high/\Cm cs n k/\Goes cs n k (j:Int):=λj n=>by
  rw[hs.cov,cy,h.at hr];constructor
  ·rintro⟨⟨a,b,cm⟩,w⟩;obtain⟨p,st⟩:=(hw.cv n _ a b).mp w;exact⟨a,b,cm,c,hc,p,st⟩
  rintro⟨a,b,cm,c',cp,p,st⟩;rw[hc] at cp;cases cp;exact⟨⟨a,b,cm⟩,(hw.cv n _ a b).mpr ⟨p,st⟩⟩
 refine⟨λj hj=>?_,λj n hj=>?_,λj hj=>?_,λj n hj=>?_,λj s m=>?_⟩
 ·rw[em j ω,DH];by_cases e:j=k
  ·rw[if_pos e];exact gy
  rw[if_neg e];exact h.dn j ω
 ·rw[em j ω,DH];by_cases e:j=k
  ·rw[if_pos e,cy,e];exact h.at hr n
  rw[if_neg e];exact h.dc j n ω
 ·rw[if_neg ω];refine(h.ra j ω).app (hs.dis _) λn a b=>?_;obtain⟨_,_,cm,g⟩:=(nw j n).mp b;obtain⟨_,_,q⟩:=(h.rc j n ω).mp a;rcases q with q|⟨y,hy,cy',gy'⟩
  ·omega
  have:=(lO (n:=n) hr).bt y k _ cy' cm hy gy';omega
 ·rw[if_neg ω,mZ,h.rc j n ω,nw];constructor
  ·rintro(⟨a,b,q⟩|⟨a,b,cm,g⟩)
   ·refine⟨a,b,?_⟩;rcases q with q|⟨y,hy,q⟩
    ·exact .inl q
    exact .inr ⟨y,ω,q⟩
   exact⟨a,b,.inr ⟨k,ω,cm,g⟩⟩
  rintro⟨a,b,q⟩;rcases q with q|⟨y,hy,cm,g⟩
  ·exact .inl ⟨a,b,.inl q⟩
  by_cases e:y=k
  ·subst e;exact .inr ⟨a,b,cm,g⟩
  exact .inl ⟨a,b,.inr ⟨y,ω,cm,g⟩⟩
 have cb:∀s,s∈ys->ae4 cs low s.1:=λs m=>by
  obtain⟨z,mz,e⟩:=fy s m;rw[<- e];exact h.fs k z mz
 rcases BA.mp m with m|m
 ·split at m
  ·exact cb s m
  exact h.fs j s m
 obtain⟨_,s',w,ms,mw,_,_,_,_,_,e⟩:=hs.fr _ (ni.mp m);have e:s.1=w.1\/s.1=s'.1:=e;rcases e with e|e
 ·rw[e];rcases hw.st w mw with q|q
  ·exact .inl q
  exact .inr ⟨k,c,hc,q⟩
 rw[e];exact cb s' ms
theorem CI.inside{low:Int}{X:Nat->List (Int×Int)}{k:Nat}(h:CI cs low high X k)(j:Nat)(s:Int×Int)(m:s∈X j):s.1<=s.2/\low<=s.1/\s.2<=high:=by
 have ne:s.1<=s.2:=by
  by_cases c:j<k
  ·exact(h.dn j c).ne s m
  exact(h.ra j ω).ne s m
 have cv:∀n,cov (X j) n->low<=n/\n<=high:=λn q=>by
  by_cases c:j<k
  ·have:=(h.dc j n c).mp q;exact⟨this.1,this.2.1⟩
  have:=(h.rc j n ω).mp q;exact⟨this.1,this.2.1⟩
 exact⟨ne,(cv s.1 ⟨s,m,Cf _,ne⟩).1,(cv s.2 ⟨s,m,ne,Cf _⟩).2⟩
def QM(cs:List RowC)(low high:Int):Prop:=∃P:List Int,P.length<64/\∀n,low<=n->n<=high->ae4 cs low n->n∈P
theorem Gap.dis{xs:List (Int×Int)}(h:Gap xs):Dis xs:=⟨h.ne,h.up.imp λ{a b} q=>.inl ω⟩
theorem CI.aeP{low:Int}{X:Nat->List (Int×Int)}{k:Nat}(h:CI cs low high X k)(hf:QM cs low high)(j:Nat):(X j).length<64:=by
 obtain⟨P,hp,hq⟩:=hf;have hd:Dis (X j):=by
  by_cases c:j<k
  ·exact(h.dn j c).dis
  exact h.ra j ω
 refine CM (hd.count λs m=>?_) hp;have:=h.inside j s m;exact hq _ this.2.1 ω (h.fs j s m)
def Dj:RowC->Prop
 | .rng a b _=>a<=b
 | _=>True
theorem Kg{o m t:Int}(h:btw o m t=true):o<t/\t<m:=by
 unfold btw at h;rwa [BM,decide_eq_true_eq,decide_eq_true_eq] at h
theorem Wf:Kp m (.pik l) j lo hi []:=⟨.nil,λn g _ _=>⟨λ⟨w,q,_⟩=>(by cases q),λ⟨q,_⟩=>(by cases q)⟩,λw q=>(by cases q),λw q=>(by cases q)⟩
theorem Wi{a t:Int}(h:ur m j (.low a t)):Kp m (.low a t) j lo hi [(lo,a-1,t),(a,hi,(j:Int)+1)]:=by
 have hb:=Kg (o:=(j:Int)) (m:=m) (t:=t) h;refine⟨B4.mpr ⟨λb mb=>?_,Db _ _⟩,λn g h1 h2=>?_,λw mw=>?_,λw mw=>?_⟩
 ·rw[AA.mp mb];show a-1<a;omega
 ·show _↔_/\GE (if n<a then t else (j:Int)+1)=GE g;constructor
  ·rintro⟨w,mw,e,q1,q2⟩;refine⟨rfl,?_⟩;rcases AL.mp mw with rfl|mw
   ·rw[if_pos (show n<a by have q2:n<=a-1:=q2;omega)];exact congrArg _ e
   rw[AA.mp mw] at e q1;rw[if_neg (show ¬n<a by have q1:a<=n:=q1;omega)];exact congrArg _ e
  rintro⟨_,e⟩;by_cases c:n<a
  ·rw[if_pos c] at e;exact⟨_,AJ ..,A0 e,h1,by show n<=a-1;omega⟩
  rw[if_neg c] at e;exact⟨_,AG _ (AA.mpr Z),A0 e,by show a<=n;omega,h2⟩
 ·rcases AL.mp mw with rfl|mw
  ·exact hb
  rw[AA.mp mw];exact⟨by show(j:Int)<j+1;omega,by show(j:Int)+1<m;omega⟩
 rcases AL.mp mw with rfl|mw
 ·exact .inl rfl
 rw[AA.mp mw];exact .inr rfl
theorem Kz{c:RowC}{a b t:Int}(hp:fJ c=false)(hs:∀n,dG c (j:Int) n=GE (if a<=n/\n<=b then t else (j:Int)+1))(ar:∀n,n=a\/n=b+1->stC c n)(hb:btw (j:Int) m t=true)(zS:a<=b) :
  Kp m c j lo hi [(lo,a-1,(j:Int)+1),(a,b,t),(b+1,hi,(j:Int)+1)]:=by
 have hb:=Kg hb;refine⟨B4.mpr ⟨λx mx=>?_,B4.mpr ⟨λx mx=>?_,Db _ _⟩⟩,λn g h1 h2=>?_,λw mw=>?_,λw mw=>?_⟩
 ·show a-1<x.1;rcases AL.mp mx with rfl|mx
  ·show a-1<a;omega
  rw[AA.mp mx];show a-1<b+1;omega
 ·rw[AA.mp mx];show b<b+1;omega
 ·rw[hs n];constructor
  ·rintro⟨w,mw,e,q1,q2⟩;refine⟨hp,?_⟩;rcases AL.mp mw with rfl|mw
   ·rw[if_neg (show ¬(a<=n/\n<=b) by have q2:n<=a-1:=q2;omega)];exact congrArg _ e
   rcases AL.mp mw with rfl|mw
   ·rw[if_pos (show a<=n/\n<=b from⟨q1,q2⟩)];exact congrArg _ e
   rw[AA.mp mw] at e q1;rw[if_neg (show ¬(a<=n/\n<=b) by have q1:b+1<=n:=q1;omega)];exact congrArg _ e
  rintro⟨_,e⟩;by_cases c1:a<=n/\n<=b
  ·rw[if_pos c1] at e;exact⟨_,AG _ (AJ ..),A0 e,c1.1,c1.2⟩
  rw[if_neg c1] at e;by_cases c2:n<a
  ·exact⟨_,AJ ..,A0 e,h1,by show n<=a-1;omega⟩
  exact⟨_,AG _ (AG _ (AA.mpr Z)),A0 e,by show b+1<=n;omega,h2⟩
 ·rcases AL.mp mw with rfl|mw
  ·exact⟨by show(j:Int)<j+1;omega,by show(j:Int)+1<m;omega⟩
  rcases AL.mp mw with rfl|mw
  ·exact hb
  rw[AA.mp mw];exact⟨by show(j:Int)<j+1;omega,by show(j:Int)+1<m;omega⟩
 rcases AL.mp mw with rfl|mw
 ·exact .inl rfl
 rcases AL.mp mw with rfl|mw
 ·exact .inr (ar _ (.inl Z))
 rw[AA.mp mw];exact .inr (ar _ (.inr Z))
theorem Wg{a t:Int}(h:ur m j (.one a t)):Kp m (.one a t) j lo hi [(lo,a-1,(j:Int)+1),(a,a,t),(a+1,hi,(j:Int)+1)]:=by
 refine Kz Z (λn=>?_) (λn h=>h) h (Cf _);show GE (if n=a then t else (j:Int)+1)=_;by_cases c:n=a
 ·rw[if_pos c,if_pos ω]
 rw[if_neg c,if_neg ω]
theorem Wd{a b t:Int}(h:ur m j (.rng a b t))(zS:a<=b):Kp m (.rng a b t) j lo hi [(lo,a-1,(j:Int)+1),(a,b,t),(b+1,hi,(j:Int)+1)]:=
 Kz Z (λn=>rfl) (λn h=>h) h zS
structure rE(first:Int)(bb:List Int)(ws:List (Int×Int×Int))(i:Nat):Prop where
 up:ws.Pairwise λa b=>a.2.1<b.1
 cv:∀n g,(∃w,w∈ws/\w.2.2=g/\w.1<=n/\n<=w.2.1)↔first<=n/\n<first+i/\bb[(n-first).toNat]?=GE g
 rg:∀w,w∈ws->first<=w.1/\w.1<=w.2.1/\w.2.1<first+i/\w.2.2∈bb
 ls:∀w,ws.getLast?=GE w->w.2.1=first+i-1
 ln:ws.length<=i
 df:∀w,w∈ws->w.1=first\/bb[(w.1-first).toNat]?≠bb[(w.1-1-first).toNat]?
theorem rE.start(first:Int)(bb:List Int):rE first bb [] 0:=
 ⟨.nil,λn g=>⟨λ⟨w,q,_⟩=>(by cases q),λ⟨a,b,_⟩=>ω⟩,λw q=>(by cases q),λw q=>(by cases q),AW _,λw q=>(by cases q)⟩
theorem rE.fresh{first:Int}{bb:List Int}{ws:List (Int×Int×Int)}{i:Nat}{g:Int}(h:rE first bb ws i)(hg:bb[i]?=GE g)(a7:∀w,ws.getLast?=GE w->w.2.2≠g):rE first bb (ws++[(first+i,first+i,g)]) (i+1):=by
 refine⟨CL.mpr ⟨h.up,Db _ _,λa ma b mb=>?_⟩,λn g'=>?_,λw mw=>?_,λw q=>?_,by rw[AN,AQ];have:=h.ln;omega,λw mw=>?_⟩
 ·rw[AA.mp mb];exact(h.rg a ma).2.2.1
 ·constructor
  ·rintro⟨w,mw,e,q1,q2⟩;rcases BA.mp mw with mw|mw
   ·have:=(h.cv n g').mp ⟨w,mw,e,q1,q2⟩;exact⟨this.1,ω,this.2.2⟩
   rw[AA.mp mw] at e q1 q2;have q1:first+i<=n:=q1
   have q2:n<=first+i:=q2
   have e:g=g':=e;exact⟨ω,ω,by rw[show(n-first).toNat=i by omega,hg,e]⟩
  rintro⟨a,b,e⟩;by_cases c:n<first+i
  ·obtain⟨w,mw,q⟩:=(h.cv n g').mpr ⟨a,c,e⟩;exact⟨w,BN _ mw,q⟩
  rw[show(n-first).toNat=i by omega,hg] at e
  exact⟨_,A4 _ (AA.mpr Z),A0 e,by show first+i<=n;omega,by show n<=first+i;omega⟩
 ·rcases BA.mp mw with mw|mw
  ·have:=h.rg w mw;exact⟨this.1,this.2.1,ω,this.2.2.2⟩
  rw[AA.mp mw];exact⟨by show first<=first+i;omega,Cf _,by show first+(i:Int)<first+((i+1:Nat):Int);omega,AU hg⟩
 ·have:w=(first+i,first+i,g):=by simpa using q.symm
  rw[this];show first+(i:Int)=first+((i+1:Nat):Int)-1
  omega
 rcases BA.mp mw with mw|mw
 ·exact h.df w mw
 rw[AA.mp mw];show first+(i:Int)=first\/bb[(first+(i:Int)-first).toNat]?≠bb[(first+(i:Int)-1-first).toNat]?
 cases i with
 | zero=>exact .inl ω
 | succ i=>
  refine .inr λz=>?_;have ba:=(AB.mp hg).1;rw[show(first+((i+1:Nat):Int)-first).toNat=i+1 by omega,show(first+((i+1:Nat):Int)-1-first).toNat=i by omega,hg] at z
  obtain⟨w,mw,e,q1,q2⟩:=(h.cv (first+i) g).mpr ⟨ω,ω,by rw[show(first+(i:Int)-first).toNat=i by omega];exact z.symm⟩
  obtain⟨pre,t,et⟩:=kJ ws (HH mw);have hl:=h.ls t (by rw[et];simp);have ht:=h.rg t (by rw[et];simp);refine a7 w ?_ e;rw[et] at mw |-;rcases BA.mp mw with mw|mw
  ·have up:=h.up;rw[et] at up;have:=(CL.mp up).2.2 w mw t ζ;omega
  rw[AA.mp mw];simp
theorem rE.grown{first:Int}{bb:List Int}{pre:List (Int×Int×Int)}{t:Int×Int×Int}{g:Int}(h:rE first bb (pre++[t]) i)(hg:bb[i]?=GE g)(hl:t.2.2=g):rE first bb (pre++[(t.1,first+i,g)]) (i+1):=by
 have hu:=CL.mp h.up;have ht:=h.rg t ζ;have eD:=h.ls t ζ;refine⟨CL.mpr ⟨hu.1,Db _ _,λa ma b mb=>?_⟩,λn g'=>?_,λw mw=>?_,λw q=>?_,by have:=h.ln;simp only[AN,AQ] at this |-;omega,λw mw=>?_⟩
 ·rw[AA.mp mb];exact hu.2.2 a ma t ζ
 ·constructor
  ·rintro⟨w,mw,e,q1,q2⟩;rcases BA.mp mw with mw|mw
   ·have:=(h.cv n g').mp ⟨w,BN _ mw,e,q1,q2⟩;exact⟨this.1,ω,this.2.2⟩
   rw[AA.mp mw] at e q1 q2;have q1:t.1<=n:=q1;have q2:n<=first+i:=q2
   have e:g=g':=e;by_cases c:n<=t.2.1
   ·have:=(h.cv n g').mp ⟨t,by simp,by rw[hl,e],q1,c⟩;exact⟨this.1,ω,this.2.2⟩
   exact⟨ω,ω,by rw[show(n-first).toNat=i by omega,hg,e]⟩
  rintro⟨a,b,e⟩;by_cases c:n<first+i
  ·obtain⟨w,mw,e1,q1,q2⟩:=(h.cv n g').mpr ⟨a,c,e⟩;rcases BA.mp mw with mw|mw
   ·exact⟨w,BN _ mw,e1,q1,q2⟩
   rw[AA.mp mw] at e1 q1 q2;exact⟨_,A4 _ (AA.mpr Z),by show g=g';rw[<- hl];exact e1,q1,by show n<=first+i;omega⟩
  rw[show(n-first).toNat=i by omega,hg] at e
  exact⟨_,A4 _ (AA.mpr Z),A0 e,by show t.1<=n;omega,by show n<=first+i;omega⟩
 ·rcases BA.mp mw with mw|mw
  ·have:=h.rg w (BN _ mw);exact⟨this.1,this.2.1,ω,this.2.2.2⟩
  rw[AA.mp mw];exact⟨ht.1,by show t.1<=first+i;omega,by show first+(i:Int)<first+((i+1:Nat):Int);omega,AU hg⟩
 ·have:w=(t.1,first+i,g):=by simpa using q.symm
  rw[this];show first+(i:Int)=first+((i+1:Nat):Int)-1
  omega
 rcases BA.mp mw with mw|mw
 ·exact h.df w (BN _ mw)
 rw[AA.mp mw];exact h.df t ζ
theorem Wc{first:Int}{gs:List Int}(h:ur m j (.tab first gs))(hw:rE first gs ws gs.length):Kp m (.tab first gs) j lo hi ws:=by
 refine⟨hw.up,λn g h1 h2=>?_,λw mw=>?_,λw mw=>?_⟩
 ·rw[hw.cv];show _↔_/\(if 0<=n-first/\n-first<gs.length then gs[(n-first).toNat]? else GT)=GE g
  constructor
  ·rintro⟨a,b,e⟩;exact⟨rfl,by rw[if_pos ω];exact e⟩
  rintro⟨_,e⟩;split at e
  ·exact⟨ω,ω,e⟩
  cases e
 ·exact Kg (C7.mp h _ (hw.rg w mw).2.2.2)
 have:=hw.rg w mw;exact .inr ⟨this.1,ω,hw.df w mw⟩
def Ek(j:Int)(wd bits t:Int):List Int:=(AK wd.toNat).map λ(p:Nat)=>if bitAt bits (p:Int)=true then t else j+1
theorem U7(j wd bits t:Int):(Ek j wd bits t).length=wd.toNat:=by unfold Ek;simp
theorem yC{j wd bits t:Int}{p:Nat}(h:p<wd.toNat):(Ek j wd bits t)[p]?=GE (if bitAt bits (p:Int)=true then t else j+1):=by
 unfold Ek;rw[AZ,List.getElem?_range h];rfl
theorem Wh{first wd bits t:Int}(h:ur m j (.msk first wd bits t))(hw:rE first (Ek j wd bits t) ws wd.toNat):Kp m (.msk first wd bits t) j lo hi ws:=by
 obtain⟨hb,h1,h2,h3⟩:=h;have hb:=Kg hb;refine⟨hw.up,λn g l1 l2=>?_,λw mw=>?_,λw mw=>?_⟩
 ·rw[hw.cv];show _↔_/\(if 0<=n-first/\n-first<wd then GE (if bitAt bits (n-first)=true then t else (j:Int)+1) else GT)=GE g
  constructor
  ·rintro⟨a,b,e⟩;rw[yC ω,show(((n-first).toNat:Nat):Int)=n-first by omega] at e
   exact⟨rfl,by rw[if_pos ω];exact e⟩
  rintro⟨_,e⟩;split at e
  ·refine⟨ω,ω,?_⟩;rw[yC ω,show(((n-first).toNat:Nat):Int)=n-first by omega]
   exact e
  cases e
 ·have:=(hw.rg w mw).2.2.2;unfold Ek at this;obtain⟨p,_,e⟩:=C8.mp this;rw[<- e];split
  ·exact hb
  exact⟨ω,ω⟩
 have:=hw.rg w mw;refine .inr ⟨this.1,ω,?_⟩;rcases hw.df w mw with z|z
 ·exact .inl z
 by_cases c:w.1=first
 ·exact .inl c
 refine .inr λe=>z ?_;rw[yC ω,yC ω,show(((w.1-first).toNat:Nat):Int)=w.1-first by omega,show(((w.1-1-first).toNat:Nat):Int)=w.1-1-first by omega,e]
def lbL(lo hi:Int):List (Int×Int)->Option Int
 | []=>GT
 | s::ss=>if s.1<lo then GE s.1 else if s.2>hi then GE (max s.1 (hi+1)) else lbL lo hi ss
def lbC(c:RowC)(ss:List (Int×Int)):Option Int:=match Bk c with
 | none=>GT
 | some e=>lbL e.1 e.2 ss
theorem Mu{lo hi:Int}:∀{ss:List (Int×Int)},(∀s,s∈ss->s.1<=s.2)->(lbL lo hi ss=GT ↔ ∀n,cov ss n->lo<=n/\n<=hi)
 | [],_=>⟨λ_ n q=>absurd q Cp,λ_=>rfl⟩
 | s::ss,hn=>by
  have h1:=hn s (AJ ..);unfold lbL;by_cases c1:s.1<lo
  ·rw[if_pos c1];exact⟨λq=>(by cases q),λq=>by have:=(q s.1 (iY.mpr (.inl ⟨Cf _,h1⟩))).1;omega⟩
  rw[if_neg c1];by_cases c2:s.2>hi
  ·rw[if_pos c2];exact⟨λq=>(by cases q),λq=>by have:=(q s.2 (iY.mpr (.inl ⟨h1,Cf _⟩))).2;omega⟩
  rw[if_neg c2,Mu λt m=>hn t (AG _ m)];constructor
  ·intro q n hc;rcases iY.mp hc with hc|hc
   ·omega
   exact q n hc
  exact λq n hc=>q n (iY.mpr (.inr hc))
theorem Mt{lo hi m:Int}:∀{ss:List (Int×Int)},Gap ss->lbL lo hi ss=GE m->cov ss m/\¬(lo<=m/\m<=hi)/\∀n,cov ss n->¬(lo<=n/\n<=hi)->m<=n
 | [],_,h=>(by cases h)
 | s::ss,hg,h=>by
  have h1:=hg.ne s (AJ ..);have hu:=B4.mp hg.up;have U1:∀n,cov ss n->s.2<n:=λn ⟨t,mt,q,_⟩=>by have:=hu.1 t mt;omega
  unfold lbL at h;by_cases c1:s.1<lo
  ·rw[if_pos c1] at h;cases h;refine⟨iY.mpr (.inl ⟨Cf _,h1⟩),ω,λn hc _=>?_⟩;rcases iY.mp hc with hc|hc
   ·exact hc.1
   have:=U1 n hc;omega
  rw[if_neg c1] at h;by_cases c2:s.2>hi
  ·rw[if_pos c2] at h;cases h;refine⟨iY.mpr (.inl ⟨ω,ω⟩),ω,λn hc hn=>?_⟩;rcases iY.mp hc with hc|hc
   ·omega
   have:=U1 n hc;omega
  rw[if_neg c2] at h;obtain⟨q1,q2,q3⟩:=Mt ⟨λt mt=>hg.ne t (AG _ mt),hu.2⟩ h;refine⟨iY.mpr (.inr q1),q2,λn hc hn=>?_⟩;rcases iY.mp hc with hc|hc
  ·omega
  exact q3 n hc hn
theorem qm{c:RowC}{o:Int}(hp:fJ c=false):∀n,(∀e,Bk c=GE e->e.1<=n/\n<=e.2)↔dG c o n≠GT:=by
 intro n;cases c with
 | pik l=>cases hp
 | msk lo wd bits t=>
  show(∀e,GE (lo,lo+wd-1)=GE e->_)↔(if 0<=n-lo/\n-lo<wd then GE (if bitAt bits (n-lo)=true then t else o+1) else GT)≠GT;constructor
  ·intro h;have:=h _ rfl;have h1:lo<=n:=this.1;have h2:n<=lo+wd-1:=this.2;rw[if_pos ω];simp
  intro h e he;cases he;split at h
  ·exact⟨by show lo<=n;omega,by show n<=lo+wd-1;omega⟩
  exact absurd Z h
 | tab lo gs=>
  show(∀e,GE (lo,lo+(gs.length:Int)-1)=GE e->_)↔(if 0<=n-lo/\n-lo<gs.length then gs[(n-lo).toNat]? else GT)≠GT;constructor
  ·intro h;have:=h _ rfl;have h1:lo<=n:=this.1;have h2:n<=lo+(gs.length:Int)-1:=this.2;rw[if_pos ω,AC ω];simp
  intro h e he;cases he;split at h
  ·exact⟨by show lo<=n;omega,by show n<=lo+(gs.length:Int)-1;omega⟩
  exact absurd Z h
 | _=>exact⟨λ_=>by simp[dG],λ_ e he=>by cases he⟩
theorem Eo{c:RowC}{ss:List (Int×Int)}{o:Int}(hp:fJ c=false)(hn:∀s,s∈ss->s.1<=s.2):lbC c ss=GT ↔ ∀n,cov ss n->dG c o n≠GT:=by
 unfold lbC;cases he:Bk c with
 | none=>exact⟨λ_ n _=>(qm (o:=o) hp n).mp λe q=>(by rw[he] at q;cases q),λ_=>rfl⟩
 | some e=>
  show lbL e.1 e.2 ss=GT↔_;rw[Mu hn];constructor
  ·intro q n hc;exact(qm (o:=o) hp n).mp λe' q'=>by rw[he] at q';cases q';exact q n hc
  intro q n hc;exact(qm (o:=o) hp n).mpr (q n hc) e he
structure WI(ss os:List (Int×Int))(i k:Nat):Prop where
 ins:∀n,cov (ss.take i) n->cov os n
 pre:∀o,o∈os.take k->∀s,s∈ss.drop i->o.2<s.2
 le:k<=os.length
theorem WI.start(ss os:List (Int×Int)):WI ss os 0 0:=⟨λn q=>absurd q Cp,λo m=>(by cases m),D6 _⟩
theorem WI.skip{ss:List (Int×Int)}{k:Nat}{s o:Int×Int}(h:WI ss os i k)(hg:Gap ss)(hs:ss[i]?=GE s)(ho:os[k]?=GE o)(hl:o.2<s.2):WI ss os i (k+1):=by
 refine⟨h.ins,λx mx t mt=>?_,(AB.mp ho).1⟩;rw[xJ ho] at mx;rcases BA.mp mx with mx|mx
 ·exact h.pre x mx t mt
 rw[AA.mp mx];have e:=jQ hs;rw[e] at mt;rcases AL.mp mt with rfl|mt
 ·exact hl
 have hu:(ss.drop i).Pairwise λa b=>a.2+1<b.1:=hg.up.sublist (IJ _ _);rw[e] at hu;have:=(B4.mp hu).1 t mt;have mt2:t∈ss.drop i:=by rw[e];exact AG _ mt
 have:=hg.ne t (IU mt2);omega
theorem WI.next{ss:List (Int×Int)}{k:Nat}{s o:Int×Int}(h:WI ss os i k)(hs:ss[i]?=GE s)(ho:os[k]?=GE o)(h1:s.2<=o.2)(h2:o.1<=s.1):WI ss os (i+1) k:=by
 refine⟨λn q=>?_,λx mx t mt=>h.pre x mx t (by rw[jQ hs];exact AG _ mt),h.le⟩;rw[xJ hs,mZ,vf] at q;rcases q with q|q
 ·exact h.ins n q
 exact⟨o,AU ho,ω,ω⟩
theorem WI.not{ss:List (Int×Int)}{k:Nat}{s:Int×Int}(h:WI ss os i k)(hg:Gap ss)(l8:Gap os)(hs:ss[i]?=GE s)(hk:k=os.length\/∃o,os[k]?=GE o/\s.2<=o.2/\s.1<o.1):¬ ∀n,cov ss n->cov os n:=by
 intro q;have ms:s∈ss:=AU hs;have UT:=hg.ne s ms;have pre:∀o,o∈os.take k->o.2<s.2:=λo mo=>h.pre o mo s (by rw[jQ hs];exact AJ ..);rcases hk with rfl|⟨o,ho,h1,h2⟩
 ·obtain⟨o,mo,a,b⟩:=q s.2 ⟨s,ms,UT,Cf _⟩;have:=pre o (by rw[FB];exact mo);omega
 have sp:∀x,x∈os->x∈os.take k\/o.1<=x.1:=λx mx=>by
  rw[<- Ic k os] at mx;rcases BA.mp mx with mx|mx
  ·exact .inl mx
  right;rw[jQ ho] at mx;rcases AL.mp mx with rfl|mx
  ·exact Cf _
  have hu:(os.drop k).Pairwise λa b=>a.2+1<b.1:=l8.up.sublist (IJ _ _);rw[jQ ho] at hu;have:=(B4.mp hu).1 x mx;have:=l8.ne o (AU ho);omega
 by_cases c:o.1<=s.2+1
 ·obtain⟨x,mx,a,b⟩:=q (o.1-1) ⟨s,ms,ω,ω⟩;rcases sp x mx with m|m
  ·have hu:=l8.up;rw[<- Ic k os] at hu;have:=(CL.mp hu).2.2 x m o (by rw[jQ ho];exact AJ ..);omega
  omega
 obtain⟨x,mx,a,b⟩:=q s.2 ⟨s,ms,UT,Cf _⟩;rcases sp x mx with m|m
 ·have:=pre x m;omega
 omega
def nG(ss:List (Int×Int×Int))(l:Int):List (Int×Int):=(ss.filter λs=>s.2.2 == l).map λs=>(s.1,s.2.1)
theorem zQ{x:Int×Int}:x∈nG ss l↔(x.1,x.2,l)∈ss:=by
 unfold nG;rw[C8];constructor
 ·rintro⟨s,m,rfl⟩;have:=BD.mp m;have e:s.2.2=l:=by simpa using this.2
  rw[<- e];exact this.1
 intro m;exact⟨_,BD.mpr ⟨m,by simp⟩,rfl⟩
theorem dF.cover{ss:List (Int×Int×Int)}(h:dF ss){s0:Int×Int×Int}(h0:ss[0]?=GE s0){n:Int}(hn:s0.1<=n):∀(k:Nat)(t:Int×Int×Int),ss[k]?=GE t->n<=t.2.1->∃s,s∈ss/\s.1<=n/\n<=s.2.1:=by
 intro k
 induction k with
 | zero=>
  intro t ht hl;rw[h0] at ht;cases ht;exact⟨s0,AU h0,hn,hl⟩
 | succ k ih=>
  intro t ht hl;have hk:k<ss.length:=by have:=(AB.mp ht).1;omega
  have e:ss[k]?=GE ss[k]:=AC hk;have:=h.nx k _ _ e ht;by_cases c:n<=ss[k].2.1
  ·exact ih _ e c
  exact⟨t,AU ht,ω,hl⟩
theorem dF.sole(h:dF ss){s t:Int×Int×Int}{n:Int}(hs:s∈ss)(ht:t∈ss)(h1:s.1<=n)(h2:n<=s.2.1)(h3:t.1<=n)(h4:n<=t.2.1):s=t:=by
 obtain⟨i,hi⟩:=Dx.mp hs;obtain⟨j,hj⟩:=Dx.mp ht;rcases Nat.lt_trichotomy i j with c|c|c
 ·have:=h.lt hi hj c;omega
 ·rw[c,hj] at hi;cases hi;rfl
 have:=h.lt hj hi c;omega
def Right(cs:List RowC)(ss:List (Int×Int×Int)):Prop:=∀s,s∈ss->∀n,s.1<=n->n<=s.2.1->(runOf cs n).1=GE s.2.2
theorem T7{cs:List RowC}{ss:List (Int×Int×Int)}{X:Nat->List (Int×Int)}{s0 t0:Int×Int×Int}(hr:iC cs)(rs:dF ss)(h0:ss[0]?=GE s0)(h1:ss[ss.length-1]?=GE t0)(hC:CI cs s0.1 t0.2.1 X cs.length) :
  ((∀(j:Nat) c,cs[j]?=GE c->lbC c (X j)=GT)/\∀(j:Nat) l,cs[j]?=GE (.pik l)->∀n,cov (X j) n->cov (nG ss l) n)↔Right cs ss:=by
 have lt:∀{j:Nat}{c:RowC},cs[j]?=GE c->j<cs.length:=λq=>(AB.mp q).1;have MA:∀s,s∈ss->∀n,s.1<=n->n<=s.2.1->s0.1<=n/\n<=t0.2.1:=λs ms n a b=>by
  obtain⟨i,hi⟩:=Dx.mp ms;have li:=(AB.mp hi).1;have e1:s0.1<=s.1:=by
   by_cases c:i=0
   ·rw[c,h0] at hi;cases hi;exact Cf _
   have:=rs.lt h0 hi ω;have:=(rs.lh _ _ h0).1;omega
  have e2:s.2.1<=t0.2.1:=by
   by_cases c:i=ss.length-1
   ·rw[c,h1] at hi;cases hi;exact Cf _
   have:=rs.lt hi h1 ω;have:=(rs.lh _ _ h1).1;omega
  omega
 constructor
 ·rintro⟨q1,q2⟩ s ms n a b;have hb:=MA s ms n a b;have I:=lO (n:=n) hr;rcases I.en with⟨y,l,m,hy,ho⟩|⟨y,c,m,hy,hp,hs,ho⟩
  ·obtain⟨x,mx,a1,b1⟩:=q2 y l hy n ((hC.dc y n (lt hy)).mpr ⟨hb.1,hb.2,m⟩);have:=rs.sole ms (zQ.mp mx) a b a1 b1;rw[ho,this]
  have:=(Eo (o:=(y:Int)) hp (hC.dn y (lt hy)).ne).mp (q1 y c hy) n ((hC.dc y n (lt hy)).mpr ⟨hb.1,hb.2,m⟩);exact absurd hs this
 intro R;have run:∀n,s0.1<=n->n<=t0.2.1->∃s,s∈ss/\s.1<=n/\n<=s.2.1/\(runOf cs n).1=GE s.2.2:=λn a b=>by
  obtain⟨s,ms,a1,b1⟩:=rs.cover h0 a _ _ h1 b;exact⟨s,ms,a1,b1,R s ms n a1 b1⟩
 refine⟨λj c hc=>?_,λj l hc n hn=>?_⟩
 ·cases hp:fJ c with
  | true=>cases c with
   | pik l=>rfl
   | _=>cases hp
  | false=>
   refine(Eo (o:=(j:Int)) hp (hC.dn j (lt hc)).ne).mpr λn hn hs=>?_;obtain⟨a,b,m⟩:=(hC.dc j n (lt hc)).mp hn;obtain⟨s,_,_,_,e⟩:=run n a b;rw[(lO (n:=n) hr).bd j c m hc hp hs] at e;cases e
 obtain⟨a,b,m⟩:=(hC.dc j n (lt hc)).mp hn;obtain⟨s,ms,a1,b1,e⟩:=run n a b;rw[(lO (n:=n) hr).pk j l m hc] at e;cases e;exact⟨(s.1,s.2.1),zQ.mpr ms,a1,b1⟩
def Unlike(ss:List (Int×Int×Int)):Prop:=∀(i:Nat) s t,ss[i]?=GE s->ss[i+1]?=GE t->s.2.2≠t.2.2
theorem TV(rs:dF ss)(hu:Unlike ss)(l:Int):Gap (nG ss l):=by
 refine⟨λx mx=>?_,?_⟩
 ·obtain⟨i,hi⟩:=Dx.mp (zQ.mp mx);exact(rs.lh i _ hi).1
 have key:ss.Pairwise λa b=>a.2.2=b.2.2->a.2.1+1<b.1:=by
  refine FG.mpr λi j hi hj eR e=>?_;have ei:ss[i]?=GE ss[i]:=AC hi;have ej:ss[j]?=GE ss[j]:=AC hj;by_cases c:j=i+1
  ·subst c;exact absurd e (hu i _ _ ei ej)
  have em:ss[i+1]?=GE ss[i+1]:=AC ω;have l1:=rs.lt em ej ω;have l2:=rs.nx i _ _ ei em;have l3:=(rs.lh _ _ em).1;omega
 unfold nG;refine IL.mpr ((key.sublist KE).imp_of_mem λ{a b} ma mb q=>?_);have e1:a.2.2=l:=by simpa using (BD.mp ma).2
 have e2:b.2.2=l:=by simpa using (BD.mp mb).2
 exact q (by rw[e1,e2])
inductive bW {α:Type}(en:α->List V)(H:Hp):List V->List α->Prop
 | nil:bW en H [] []
 | cons {p:ID} {x:α} {us:List V} {xs:List α}:H p=GE (.tup (en x))->bW en H us xs->bW en H (.ref p::us) (x::xs)
section
variable{en:α->List V}
theorem bW.length:∀{us:List V}{xs:List α},bW en H us xs->us.length=xs.length
 | _,_,.nil=>rfl
 | _,_,.cons _ t=>by rw[BG,BG,t.length]
theorem bW.keep:∀{us:List V}{xs:List α},bW en H us xs->(∀p ys,H p=GE (.tup ys)->H' p=GE (.tup ys))->bW en H' us xs
 | _,_,.nil,_=>.nil
 | _,_,.cons e t,k=>.cons (k _ _ e) (t.keep k)
theorem bW.same{xs:List α}(h:bW en H us xs)(s:Same H H'):bW en H' us xs:=h.keep λp ys e=>s _ _ e
theorem bW.Jf{xs:List α}(h:bW en H us xs){l:ID}{ys:List V}(e:H l=GE (.lst ys)):bW en (upd H l o) us xs:=h.keep λp zs ep=>by
 rw[aL (λz=>by rw[z,e] at ep;cases ep)];exact ep
theorem bW.Tg{xs:List α}(h:bW en H us xs){l:ID}(e:H l=GT):bW en (upd H l o) us xs:=h.same (aB e)
theorem bW.get:∀{us:List V}{xs:List α},bW en H us xs->∀{i:Nat}{x:α},xs[i]?=GE x->∃p,us[i]?=GE (.ref p)/\H p=GE (.tup (en x))
 | _,_,.nil,_,_,h=>by cases h
 | _,_,.cons (p:=p) e t,0,_,h=>by cases h;exact⟨p,rfl,e⟩
 | _,_,.cons e t,i+1,_,h=>t.get (i:=i) h
theorem bW.got:∀{us:List V}{xs:List α},bW en H us xs->∀{i:Nat}{u:V},us[i]?=GE u->∃p x,u=.ref p/\xs[i]?=GE x/\H p=GE (.tup (en x))
 | _,_,.nil,_,_,h=>by cases h
 | _,_,.cons (p:=p) e t,0,_,h=>by cases h;exact⟨p,_,rfl,rfl,e⟩
 | _,_,.cons e t,i+1,_,h=>t.got (i:=i) h
theorem bW.app:∀{us vs:List V}{xs ys:List α},bW en H us xs->bW en H vs ys->bW en H (us++vs) (xs++ys)
 | _,_,_,_,.nil,k=>k
 | _,_,_,_,.cons e t,k=>.cons e (t.app k)
theorem bW.snoc{xs:List α}(h:bW en H us xs){p:ID}{x:α}(e:H p=GE (.tup (en x))):bW en H (us++[.ref p]) (xs++[x]):=h.app (.cons e .nil)
theorem bW.split:∀{xs:List α}{us:List V}{x:α},bW en H us (xs++[x])->∃vs p,us=vs++[.ref p]/\bW en H vs xs/\H p=GE (.tup (en x))
 | [],us,x,h=>by
  cases h with
  | cons e t=>cases t;exact⟨[],_,rfl,.nil,e⟩
 | y::xs,us,x,h=>by
  cases h with
  | cons e t=>
   obtain⟨vs,p,rfl,k,ep⟩:=bW.split t;exact⟨_::vs,p,rfl,.cons e k,ep⟩
theorem bW.refs:∀{us:List V}{xs:List α},bW en H us xs->∃ps:List ID,us=ps.map AS
 | _,_,.nil=>⟨[],rfl⟩
 | _,_,.cons (p:=p) e t=>by
  obtain⟨ps,rfl⟩:=t.refs;exact⟨p::ps,rfl⟩
theorem bW.read{dec:ID->α}:∀{ps:List ID}{xs:List α},bW en H (ps.map AS) xs->(∀p x,H p=GE (.tup (en x))->dec p=x)->xs=ps.map dec/\∀p,p∈ps->H p=GE (.tup (en (dec p)))
 | [],xs,h,_=>by cases h;exact⟨rfl,λp m=>by cases m⟩
 | p::ps,xs,h,hd=>by
  cases h with
  | cons e t=>
   obtain⟨e1,e2⟩:=bW.read t hd;have ep:=hd _ _ e;refine⟨by rw[DI,ep,<- e1],λq m=>?_⟩;rcases AL.mp m with rfl|m
   ·rw[ep];exact e
   exact e2 q m
theorem bW.of_map{dec:ID->α}:∀{ps:List ID},(∀p,p∈ps->H p=GE (.tup (en (dec p))))->bW en H (ps.map AS) (ps.map dec)
 | [],_=>.nil
 | p::ps,h=>.cons (h p (AJ ..)) (bW.of_map λq m=>h q (AG _ m))
end
def prE(s:Int×Int):List V:=[.int s.1,.int s.2]
def trE(w:Int×Int×Int):List V:=[.int w.1,.int w.2.1,.int w.2.2]
def OJ(H:Hp)(p:ID):Int×Int:=match H p with
 | some (.tup [.int a,.int b])=>(a,b)
 | _=>(0,0)
theorem abm(p:ID)(x:Int×Int)(h:H p=GE (.tup (prE x))):OJ H p=x:=by
 unfold OJ;rw[h];rfl
theorem S8(xs:List α)(x:α):atI (xs++[x]) (-1)=GE x:=by
 unfold atI ixN;rw[if_neg δ,if_pos (by rw[AN,AQ];omega)];show(xs++[x])[(-1+((xs++[x]).length:Int)).toNat]?=_;rw[show(-1+((xs++[x]).length:Int)).toNat=xs.length by rw[AN,AQ];omega];rw[BF (AW _),HR];rfl
theorem R7(xs:List α)(x:α):ixN (xs++[x]).length (-1)=GE xs.length:=by
 unfold ixN;rw[if_neg δ,if_pos (by rw[AN,AQ];omega)];rw[AN,AQ];congr 1;omega
theorem K7(xs:List α)(x y:α):(xs++[x]).set xs.length y=xs++[y]:=by
 rw[List.set_append_right _ _ (AW _),HR];rfl
def W5:Sp:=λvs H Q _=>∃(l:ID)(us:List V)(ss:List (Int×Int)),vs=[.ref l]/\H l=GE (.lst us)/\bW prE H us ss/\Dis ss/\ss.length<64 /\
 ∀(r:ID)(H':Hp)(db:List V)(ys:List (Int×Int)),Same H H'->H r=GT->H' r=GE (.lst db)->bW prE H' db ys->Gap ys->(∀n,cov ys n↔cov ss n)->(∀s,s∈ys->∃z,z∈ss/\z.1=s.1)->ys.length<=ss.length->Q (.ref r) H'
def KQ:Sp:=λvs H Q _=>∃(g:ID)(first:Int)(gs:List Int),vs=[.int first,.ref g]/\(H g=GE (.tup (gs.map As))\/H g=GE (.lst (gs.map As)))/\-(2^62)<=first/\first<2^62/\gs.length<=1000000 /\
 ∀(r:ID)(H':Hp)(us:List V)(ws:List (Int×Int×Int)),Same H H'->H r=GT->H' r=GE (.lst us)->bW trE H' us ws->rE first gs ws gs.length->Q (.ref r) H'
def Rg:Sp:=λvs H Q _=>∃(x:V)(mf lo wd bits t:Int),vs=[x,.int mf]/\ux H x (.msk lo wd bits t)/\1<=wd/\wd<=64/\0<=bits /\
 ∀(r:ID)(H':Hp),Same H H'->H r=GT->H' r=GE (.lst ((Ek mf wd bits t).map As))->Q (.ref r) H'
def bdC:RowC->Prop
 | .msk lo _ _ _=>-(2^62)<=lo/\lo<2^62
 | .tab lo gs=>-(2^62)<=lo/\lo<2^62/\gs.length<=1000
 | _=>True
def WW:Sp:=λvs H Q _=>∃(x:V)(c:RowC)(m j:Nat)(lo hi:Int),vs=[x,.int (j:Int),.int lo,.int hi]/\ux H x c/\ur m j c/\Dj c/\bdC c /\
 ∀(r:ID)(H':Hp)(us:List V)(ws:List (Int×Int×Int)),Same H H'->H r=GT->H' r=GE (.lst us)->bW trE H' us ws->Kp m c j lo hi ws->ws.length<=1000000->Q (.ref r) H'
structure RAt(H:Hp)(lr:ID)(ps:List ID)(X:Nat->List (Int×Int)):Prop where
 e:H lr=GE (.lst (ps.map AS))
 nr:lr∉ps
 nd:ps.Nodup
 el:∀(j:Nat) p,ps[j]?=GE p->∃us,H p=GE (.lst us)/\bW prE H us (X j)
theorem RAt.same{ps:List ID}{X:Nat->List (Int×Int)}(h:RAt H lr ps X)(s:Same H H'):RAt H' lr ps X:=
 ⟨s _ _ h.e,h.nr,h.nd,λj p hp=>by
  obtain⟨us,e,t⟩:=h.el j p hp;exact⟨us,s _ _ e,t.same s⟩⟩
theorem ac1{ps:List α}(h:ps.Nodup){p q:α}(hi:ps[i]?=GE p)(hj:ps[j]?=GE q)(n:i≠j):p≠q:=λe=>by
 obtain⟨li,ei⟩:=AB.mp hi;obtain⟨lj,ej⟩:=AB.mp hj;exact n ((getElem_inj (h₀:=li) (h₁:=lj) h).mp (by rw[ei,ej,e]))
theorem RAt.push{ps:List ID}{X:Nat->List (Int×Int)}(h:RAt H lr ps X){g:Nat}{p:ID}{s:Int×Int}(hp:ps[g]?=GE p)(e:H p=GE (.lst us))(eq:H q=GE (.tup (prE s))) :
  RAt (upd H p (.lst (us++[.ref q]))) lr ps λj=>X j++(if j=g then [s] else []):=by
 have np:∀{b:ID}{ys:List V},H b=GE (.tup ys)->b≠p:=λeb z=>by rw[z,e] at eb;cases eb
 have mp:p∈ps:=AU hp;refine⟨by rw[aL (show lr≠p from λz=>h.nr (z ▸ mp))];exact h.e,h.nr,h.nd,λj b hb=>?_⟩;obtain⟨db,e',t⟩:=h.el j b hb;by_cases c:j=g
 ·subst c;rw[hp] at hb;cases hb;rw[e] at e';cases e';refine⟨_,au,?_⟩;rw[if_pos rfl];exact(t.Jf e).snoc (by rw[aL (np eq)];exact eq)
 rw[if_neg c,DH];exact⟨db,by rw[aL (ac1 h.nd hb hp c)];exact e',t.Jf e⟩
theorem RAt.put{ps:List ID}{X:Nat->List (Int×Int)}(h:RAt H lr ps X){k:Nat}{r:ID}(hk:k<ps.length)(hr:r∉ps)(hl:lr≠r)(e:H r=GE (.lst us))(t:bW prE H us ys) :
  RAt (upd H lr (.lst ((ps.set k r).map AS))) lr (ps.set k r) λj=>if j=k then ys else X j:=by
 refine⟨au,λm=>?_,?_,λj p hp=>?_⟩
 ·rcases He m with m|m
  ·exact h.nr m
  exact hl m
 ·refine FG.mpr λi j hi hj eR=>?_;rw[GW] at hi hj;rw[List.getElem_set,List.getElem_set];have m1:ps[i]∈ps:=Ee hi;have m2:ps[j]∈ps:=Ee hj;split
  ·rw[if_neg ω];exact λz=>hr (z ▸ m2)
  split
  ·exact λz=>hr (z ▸ m1)
  exact λz=>absurd ((getElem_inj h.nd).mp z) ω
 by_cases c:j=k
 ·subst c;rw[FV hk] at hp;cases hp;rw[if_pos rfl];exact⟨us,by rw[aL hl.symm];exact e,t.Jf h.e⟩
 rw[IQ (EC c)] at hp;rw[if_neg c];obtain⟨db,e',t'⟩:=h.el j p hp;have:p≠lr:=λz=>h.nr (z ▸ AU hp);exact⟨db,by rw[aL this];exact e',t'.Jf h.e⟩
def oM(ps:List ID)(H H':Hp):Prop:=∀b o,b∉ps->H b=GE o->H' b=GE o
theorem oM.refl(ps:List ID)(H:Hp):oM ps H H:=λ_ _ _ h=>h
theorem oM.trans{ps:List ID}(a:oM ps H H1)(b:oM ps H1 H2):oM ps H H2:=λc o n h=>b c o n (a c o n h)
theorem Same.p{ps:List ID}(h:Same H H'):oM ps H H':=λb o _ q=>h b o q
theorem oM.upd{ps:List ID}{p:ID}(m:p∈ps):oM ps H (upd H p o):=λb u n h=>by rw[aL (show b≠p from λz=>n (z ▸ m))];exact h
def W2:Sp:=λvs H Q _=>∃(lr ls lw:ID)(ps:List ID)(X:Nat->List (Int×Int)) (us uw:List V) (ss:List (Int×Int)) (ws:List (Int×Int×Int)),vs=[.ref lr,.ref ls,.ref lw]/\RAt H lr ps X/\H ls=GE (.lst us)/\bW prE H us ss/\H lw=GE (.lst uw)/\bW trE H uw ws/\lw∉ps /\
 (∀w,w∈ws->0<=w.2.2/\w.2.2<ps.length/\∀p,ps[w.2.2.toNat]?=GE p->p≠ls)/\(∀j,(X j).length+ss.length+ws.length<2000000) /\
 ∀(H':Hp),oM ps H H'->RAt H' lr ps (λj=>X j++newOf (jz (ss.length+ws.length) ss ws) (j:Int))->Q .non H'
def Jp:Sp:=λvs H Q _=>∃(l:ID)(ok:ID->Prop)(cs:List RowC)(low high:Int),vs=[.ref l,.int low,.int high]/\aG ok H (.ref l) (.list (cs.map iB))/\iC cs/\(∀c,c∈cs->Dj c/\bdC c)/\low<=high/\QM cs low high /\
 ∀(r:ID)(ps:List ID)(X:Nat->List (Int×Int)) (H':Hp),Same H H'->H r=GT->(∀p,p∈ps->H p=GT)->RAt H' r ps X->ps.length=cs.length->CI cs low high X cs.length->Q (.ref r) H'
def Rh:Sp:=λvs H Q _=>∃(x:V)(c:RowC)(ls:ID)(us:List V)(ss:List (Int×Int)),vs=[x,.ref ls]/\ux H x c/\H ls=GE (.lst us)/\bW prE H us ss/\∀H',Same H H'->Q (abL (lbC c ss)) H'
def Jq:Sp:=λvs H Q _=>∃(l r:ID)(ok:ID->Prop)(cs:List RowC)(ps:List ID)(X:Nat->List (Int×Int)),vs=[.ref l,.ref r]/\aG ok H (.ref l) (.list (cs.map iB))/\RAt H r ps X/\ps.length=cs.length /\
 (∀H',Same H H'->(∀(j:Nat) c,cs[j]?=GE c->lbC c (X j)=GT)->Q .non H') /\
 ∀(p:ID)(H':Hp)(j:Nat)(c:RowC)(n:Int),Same H H'->H p=GT->H' p=GE (.tup [.int (j:Int),.int n])->cs[j]?=GE c->lbC c (X j)=GE n->(∀i c,i<j->cs[i]?=GE c->lbC c (X i)=GT)->Q (.ref p) H'
def CP:Sp:=λvs H Q _=>∃(a b:ID)(us qS:List V)(ss os:List (Int×Int)),vs=[.ref a,.ref b]/\H a=GE (.lst us)/\bW prE H us ss/\H b=GE (.lst qS)/\bW prE H qS os/\Gap ss/\Gap os /\
 ∀(t:Bool),(t=true ↔ ∀n,cov ss n->cov os n)->Q (.bl t) H
def Ri:Sp:=λvs H Q _=>∃(l s:ID)(ok:ID->Prop)(cs:List RowC)(ss:List (Int×Int×Int)) (s0 t0:Int×Int×Int),vs=[.ref l,.ref s]/\aG ok H (.ref l) (.list (cs.map iB))/\aG ok H (.ref s) (.list (ss.map stD))/\iC cs/\(∀c,c∈cs->Dj c/\bdC c)/\dF ss/\Unlike ss/\ss.length<=60/\ss[0]?=GE s0/\ss[ss.length-1]?=GE t0/\QM cs s0.1 t0.2.1 /\
 ∀(t:Bool)(H':Hp),Same H H'->(t=true↔Right cs ss)->Q (.bl t) H'
section
variable{en:α->List V}
theorem bW.push{xs:List α}{r:ID}(t:bW en H us xs)(x:α)(er:H r=GE (.lst us))(hq:H q=GT):bW en (upd (upd H q (.tup (en x))) r (.lst (us++[.ref q]))) (us++[.ref q]) (xs++[x]):=by
 have nq:r≠q:=aF er hq;have KW:upd H q (.tup (en x)) r=GE (.lst us):=by rw[aL nq];exact er
 exact((t.Tg hq).Jf KW).snoc (by rw[aL nq.symm];exact au)
theorem bW.swap{xs:List α}{r p:ID}(t:bW en H us xs)(x:α)(er:H r=GE (.lst (us++[.ref p])))(hq:H q=GT):bW en (upd (upd H q (.tup (en x))) r (.lst (us++[.ref q]))) (us++[.ref q]) (xs++[x]):=by
 have nq:r≠q:=aF er hq;have KW:upd H q (.tup (en x)) r=GE (.lst (us++[.ref p])):=by rw[aL nq];exact er
 exact((t.Tg hq).Jf KW).snoc (by rw[aL nq.symm];exact au)
end
theorem RT(us:List α)(x:α):(us++[x]).isEmpty=false:=by cases us <;> rfl
theorem nJ{r:ID}{u:HO}(s:Same H H')(hr:H r=GT)(hq:H' q=GT):Same H (upd (upd H' q o) r u):=cD (s.trans (aB hq)) hr
theorem Jh{r d:ID}{u v:HO}(e:H d=GE v)(n:d≠r)(hq:H q=GT):upd (upd H q o) r u d=GE v:=by
 rw[aL n,aL (aF e hq)];exact e
theorem acM(bits p:Int):(AX.bitAnd (bits/2^p.toNat) 1 != 0)=bitAt bits p:=by
 unfold bitAt;generalize bits/2^p.toNat=x;have h:AX.bitAnd x 1=0\/AX.bitAnd x 1=1:=by rw[Tc];omega
 rcases h with h|h <;> rw[h] <;> rfl
theorem Kw{c:RowC}(h:mK c = "pick"):∃l,c=.pik l:=by
 cases c with
 | one n t=>exact(cast Du h).elim
 | rng a b t=>exact(cast sE h).elim
 | low n t=>exact(cast vM h).elim
 | msk l wd bits t=>exact(cast ye h).elim
 | tab l gs=>exact(cast vJ h).elim
 | pik l=>exact⟨l,rfl⟩
theorem Ai{c:RowC}(h:mK c = "table"):∃l gs,c=.tab l gs:=by
 cases c with
 | one n t=>exact(cast Am h).elim
 | rng a b t=>exact(cast rC h).elim
 | low n t=>exact(cast sH h).elim
 | msk l wd bits t=>exact(cast vK h).elim
 | tab l gs=>exact⟨l,gs,rfl⟩
 | pik l=>exact(cast Gf h).elim
theorem Aj{c:RowC}(h:mK c = "mask"):∃l wd bits t,c=.msk l wd bits t:=by
 cases c with
 | one n t=>exact(cast Dv h).elim
 | rng a b t=>exact(cast sG h).elim
 | low n t=>exact(cast Gh h).elim
 | msk l wd bits t=>exact⟨l,wd,bits,t,rfl⟩
 | tab l gs=>exact(cast Ge h).elim
 | pik l=>exact(cast JM h).elim
theorem Ky{c:RowC}(h:mK c = "below"):∃n t,c=.low n t:=by
 cases c with
 | one n t=>exact(cast Ao h).elim
 | rng a b t=>exact(cast rD h).elim
 | low n t=>exact⟨n,t,rfl⟩
 | msk l wd bits t=>exact(cast vL h).elim
 | tab l gs=>exact(cast Ds h).elim
 | pik l=>exact(cast Gg h).elim
section
variable{K:Type}[DecidableEq K]{knd:KeyKind prog w K}
theorem aaN{d:ID}{af:List (K×Ap)}{k:K}{key:Ap}(dA:knd.is k key=true)(hm:s.heap.DictOf knd d af)(tN:k∉af.map (·.1))(hsz:af.length<=AV)
  (hQ:∀h',h'.DictOf knd d (af++[(k,v)])->BO d s.heap h'->Q v { s with heap:=h',toks:=s.toks+1 }):AO (A3 prog w) A (dictSetDefault d key v) Q E s:=by
 obtain⟨o,es,ep,ho,hc,hd,hk,hp,hn⟩:=hm;have e0:es.toList.length=es.size:=by simp
 have e1:=hp.length;have ei:(es.findIdx? λe=>knd.is k e.key)=GT:=by
  have q:(es.findIdx? λe=>knd.is k e.key)=af.findIdx? λkv=>decide (kv.1=k):=by
   rw[<- hp.findIdx k];obtain⟨l⟩:=es;simp
  rw[q,List.findIdx?_eq_none_iff];intro x hx;exact decide_eq_false λz=>tN (C8.mpr ⟨x,hx,z⟩)
 unfold dictSetDefault;refine C1 (An (knd.pyHash dA (An (wpAny_dictFind_of (s:={ s with toks:=s.toks+1 }) dA ho hd hk ?_))));rw[ei];refine An (EN (An (wpAny_updateDictKeys (hz:=by omega) (s:={ s with toks:=s.toks+1 }) ho hd (AF (hQ _ ?_ (BO.update ..))))));refine⟨_,_,ep+1,FC _ ho (Obj.isFreed_of_dict (Obj.data_mapDictKeys hd _)),hc.mapDictKeys _,Obj.data_mapDictKeys hd _,hk.push dA _,?_,?_⟩
 ·have r:=hp.append dA (knd.hash k) v;obtain⟨l⟩:=es;simpa using r
 rw[BH,GO];refine⟨hn,by simp,λa ha b hb e=>?_⟩;cases AA.mp hb;exact tN (by rw[<- show a=k from e];exact ha)
theorem ZV{d:ID}{af:List (K×Ap)}{k:K}{key:Ap}(dA:knd.is k key=true)(hm:s.heap.DictOf knd d af)(hd:(d == EM)=false)(tN:k∉af.map (·.1))(hsz:af.length<=AV)
  (hQ:∀h',h'.DictOf knd d (af++[(k,v)])->BO d s.heap h'->Q v { s with heap:=h',toks:=s.toks+1 }):AO (A3 prog w) A (call (.builtin "dict.setdefault") [.ref d,key,v]) Q E s:=by
 refine Ct F.slot_dict_setdefault hm.typeIs F.entry_dict_setdefault ?_ (F.args_dict_setdefault_3 _ _ _);unfold AX.«dict.setdefault» AX.Dict.keyAndDefault;refine An (An (wpAny_notOrdered_dict hm.typeIs (AF ?_)));dsimp only;rw[if_neg (by rw[hd];exact A5)];exact An (aaN dA hm tN hsz λh' a b=>AF ⟨v,rfl,hQ h' a b⟩)
end
def ada(td ty tx:TE):TE:=λσ H Q=>td σ H λx H1=>∃a,x=.ref a/\IsD H1 a/\ty σ H1 λy H2=>tx σ H2 λz H3=>∃af k,H3 a=GE (.dK af)/\y=kV k/\af.length<AV /\
 (∀v,fL af k=GE v->Q v H3)/\(fL af k=GT->Q z (upd H3 a (.dK (af++[(k,z)]))))
section
variable{o f:Expr}{ty tx:TE}
theorem adG(ho:QE X o td)(he:QE X e ty)(hf:QE X f tx)(m:M2 X o "setdefault" aw e f ai):QE X (.Call (.Attribute o "setdefault" aw) [e,f] [] ai) (ada td ty tx):=⟨by
 intro aa s σ H Q I h;refine wpAny_Call_method m.base m.few m.line HQ PySem.F.slot_dict_setdefault PySem.F.type_dict_setdefault (thn (ho.h aa s σ H _ I h) λu s1 ⟨x,H1,I1,rx,a,ex,d,q1⟩=>?_);subst ex;obtain rfl:u=BY a:=rx;obtain⟨t1,t2,_⟩:=P0 I1 d;refine⟨t1,t2,?_⟩;rw[m.trees];refine DJ Z (EK (CD (thE (he.h aa s1 σ H1 _ I1 q1) λiv s2 y H2 I2 ry q2=>
  CD (thn (hf.h aa s2 σ H2 _ I2 q2) λfv s3 ⟨z,H3,I3,rz,af,k,ek,ey,hl,q3,q4⟩=>DF ?_))))
 subst ey;obtain⟨zz,hd,vs,rel,dd⟩:=ZJ I3.hok ek;have am:vs.length<=AV:=by rw[<- rel.length];exact zz
 cases ev:fL af k with
 | some v=>
  obtain⟨w',hw,f6⟩:=uy.some_of (v:=v) (o:=HC vs k) (by rw[<- ev];exact rel.val k);refine IE PySem.F.slot_dict_setdefault dd.typeIs PySem.F.entry_dict_setdefault (PySem.F.args_dict_setdefault_3 _ _ _) (meets_dict_setdefault (cL X.prog X.w) a (Bc ry) hd fv) ⟨_,dd.mapOf,?_,λv' e'=>?_,λe'=>?_⟩
  ·obtain⟨o1,es,ep,g1,g2,g3,g4,g5,g6⟩:=dd;intro o2 iE SO k1 k2;rw[g1] at k1;cases k1;rw[g3] at k2;cases k2;have:=g5.length;have e0:es.toList.length=es.size:=by simp
   omega
  ·rw[hw] at e';cases e';exact⟨_,H3,I3.tok _,f6,q3 v ev⟩
  rw[hw] at e';cases e'
 | none=>
  have hn:HC vs k=GT:=uy.none_of (by rw[<- ev];exact rel.val k);have tN:k∉vs.map (·.1):=λz=>by
   obtain⟨kv,yY,rfl⟩:=C8.mp z;unfold HC at hn;rw[Option.map_eq_none_iff,List.find?_eq_none] at hn;exact hn kv yY ζ
  refine ZV (Bc ry) dd hd tN am λh' dd' hs=>?_;have he':∃q,h'.get? a=GE q:=let ⟨q,_,_,hq,_⟩:=dd';⟨q,hq⟩;have hlk:(af++[(k,z)]).length<=AV:=by rw[AN,AQ];omega
  have st:stored vs k fv=vs++[(k,fv)]:=by
   unfold stored;rw[if_neg];intro q;obtain⟨kv,yY,e1⟩:=any_eq_true.mp q;exact tN (C8.mpr ⟨kv,yY,of_decide_eq_true e1⟩)
  have pk:putK af k z=af++[(k,z)]:=by
   unfold putK;rw[if_neg];intro q;obtain⟨kv,yY,e1⟩:=any_eq_true.mp q;have:=rel.put k rz;exact absurd ev (by
    unfold fL;intro n0;rw[Option.map_eq_none_iff,List.find?_eq_none] at n0;exact n0 kv yY e1)
  have rp:=rel.put k rz;rw[st,pk] at rp;exact⟨_,_,Kf I3 (by rw[ek];exact DT) hs he' (ZK hlk hd rp dd'),rz,q4 ev⟩⟩
end
theorem aN.els{ok:ID->Prop}{H:Hp}:∀{ss:List (Int×Int×Int)}{xs:List V},aN ok H xs (ss.map stD)->bW trE H xs ss
 | [],_,h=>by cases h;exact .nil
 | s::ss,_,h=>by
  cases h with
  | cons t ts=>
   obtain⟨a,rfl,_,e⟩:=t.st;exact .cons e (aN.els ts)
def DAt(H0 H:Hp)(dd:ID)(S:Int->List (Int×Int))(m:Nat):Prop:=∃af:List (Key×V),H dd=GE (.dK af)/\af.length<=m/\H0 dd=GT/\(∀l,fL af (.inl l)=GT->S l=[]) /\
 (∀l v,fL af (.inl l)=GE v->∃p us,v=.ref p/\H0 p=GT/\H p=GE (.lst us)/\bW prE H us (S l))/\∀l l' p,fL af (.inl l)=GE (.ref p)->fL af (.inl l')=GE (.ref p)->l=l'
theorem DAt.start(e:H dd=GE (.dK []))(h0:H0 dd=GT):DAt H0 H dd (λ_=>[]) 0:=
 ⟨[],e,AW _,h0,λ_ _=>rfl,λl v h=>(by cases h),λl l' p h=>(by cases h)⟩
theorem DAt.same(h:DAt H0 H dd S m)(s:Same H H'):DAt H0 H' dd S m:=by
 obtain⟨af,e,l,h0,a,b,c⟩:=h;refine⟨af,s _ _ e,l,h0,a,λl v q=>?_,c⟩;obtain⟨p,us,e1,e2,e3,t⟩:=b l v q;exact⟨p,us,e1,e2,s _ _ e3,t.same s⟩
theorem DAt.push{p:ID}{s:Int×Int}(h:DAt H0 H dd S m)(ek:H dd=GE (.dK af))(hv:fL af (.inl l)=GE (.ref p))(e:H p=GE (.lst us))(eq:H q=GE (.tup (prE s))) :
  DAt H0 (upd H p (.lst (us++[.ref q]))) dd (λj=>S j++(if j=l then [s] else [])) m:=by
 obtain⟨PR,e',le,h0,a,b,c⟩:=h;rw[ek] at e';cases e';have nd:dd≠p:=λz=>by rw[z,e] at ek;cases ek
 refine⟨af,by rw[aL nd];exact ek,le,h0,λj hj=>?_,λj v hj=>?_,c⟩
 ·show S j++(if j=l then [s] else [])=[];rw[a j hj,if_neg (λz=>by rw[z,hv] at hj;cases hj)];rfl
 obtain⟨p',db,rfl,e2,e3,t⟩:=b j v hj;by_cases cj:j=l
 ·subst cj;rw[hv] at hj;cases hj;rw[e] at e3;cases e3;refine⟨_,_,rfl,e2,au,?_⟩;show bW prE _ _ (S j++(if j=j then [s] else []));rw[if_pos rfl];exact(t.Jf e).snoc (by rw[aL (show q≠p from λz=>by rw[z,e] at eq;cases eq)];exact eq)
 have np:p'≠p:=λz=>cj (c j l p (z ▸ hj) hv);refine⟨p',db,rfl,e2,by rw[aL np];exact e3,?_⟩;show bW prE _ _ (S j++(if j=l then [s] else []));rw[if_neg cj,DH];exact t.Jf e
theorem DAt.add{z:ID}(h:DAt H0 H dd S m)(ek:H dd=GE (.dK af))(hv:fL af (.inl l)=GT)(ez:H z=GE (.lst []))(h0z:H0 z=GT)(nz:∀j,fL af (.inl j)≠GE (.ref z)) :
  DAt H0 (upd H dd (.dK (af++[(.inl l,.ref z)]))) dd S (m+1):=by
 obtain⟨PR,e',le,h0,a,b,c⟩:=h;rw[ek] at e';cases e';have vs:∀j,fL (af++[((.inl l:Key),AS z)]) (.inl j)=if j=l then GE (.ref z) else fL af (.inl j):=λj=>by
  rw[yZ _ _ _ _ hv];by_cases cj:j=l
  ·rw[if_pos cj,if_pos (by rw[cj])]
  rw[if_neg cj,if_neg (λq=>cj (B6.inj q))]
 have x8:∀{us:List V}{xs:List (Int×Int)},bW prE H us xs->bW prE (upd H dd (.dK (af++[(.inl l,.ref z)]))) us xs:=λt=>t.keep λp ys ep=>by
  rw[aL (show p≠dd from λq=>by rw[q,ek] at ep;cases ep)];exact ep
 refine⟨_,au,by rw[AN,AQ];omega,h0,λj hj=>?_,λj v hj=>?_,λj j' p hj hj'=>?_⟩
 ·rw[vs] at hj;split at hj
  ·cases hj
  exact a j hj
 ·rw[vs] at hj;split at hj
  ·rename_i cj;cases hj;refine⟨z,[],rfl,h0z,by rw[aL (show z≠dd from λq=>by rw[q,ek] at ez;cases ez)];exact ez,?_⟩;rw[cj,a l hv];exact .nil
  obtain⟨p',db,rfl,e2,e3,t⟩:=b j v hj;exact⟨p',db,rfl,e2,by rw[aL (show p'≠dd from λq=>by rw[q,ek] at e3;cases e3)];exact e3,x8 t⟩
 rw[vs] at hj hj';split at hj
 ·split at hj'
  ·omega
  cases hj;exact absurd hj' (nz j')
 split at hj'
 ·cases hj';exact absurd hj (nz j)
 exact c j j' p hj hj'
theorem WT{s:Int×Int×Int}(h:ss[i]?=GE s):nG (ss.take (i+1))=λl=>nG (ss.take i) l++(if l=s.2.2 then [(s.1,s.2.1)] else []):=by
 funext l;unfold nG;rw[xJ h,HL,BH];congr 1;by_cases c:l=s.2.2
 ·rw[if_pos c,DV (by simp;omega)];rfl
 rw[if_neg c,DZ (by simp;omega)];rfl
def WY:Sp:=λvs H Q _=>∃(p:ID)(m B:Int),vs=[.ref p,.int m]/\cu H p B/\0<=B/\B<=900000/\1<=m/\m<=60 /\
 ∀(l:ID)(ss:List (Int×Int×Int)) H',b7 p H H'->cu H' p (B+2000)->aG (·≠p) H' (.ref l) (.list (ss.map stD))->(ss.length:Int)=m->dF ss->Unlike ss->(∀s,s∈ss->s.2.2<=5)->Q (.ref l) H'
theorem Unlike.nil:Unlike []:=λi s t h=>by cases h
theorem CQ{α:Type}{ss:List α}{x s:α}{i:Nat}(h:(ss++[x])[i]?=GE s):(i<ss.length/\ss[i]?=GE s)\/(i=ss.length/\s=x):=by
 rcases Fu i ss.length with z|z
 ·rw[C0 z] at h;exact .inl ⟨z,h⟩
 rw[BF z] at h;cases hk:i-ss.length with
 | zero=>rw[hk] at h;cases h;exact .inr ⟨ω,rfl⟩
 | succ k=>rw[hk] at h;cases h
theorem Unlike.snoc(h:Unlike ss){x:Int×Int×Int}(hl:∀s,ss[ss.length-1]?=GE s->s.2.2≠x.2.2):Unlike (ss++[x]):=by
 intro i s t hs ht;rcases CQ hs with⟨z,MG⟩|⟨z,e⟩
 ·rcases CQ ht with⟨z2,ht'⟩|⟨z2,e2⟩
  ·exact h i s t MG ht'
  rw[e2];exact hl s (by rw[show ss.length-1=i by omega];exact MG)
 rcases CQ ht with⟨z2,_⟩|⟨z2,_⟩ <;> omega
theorem afO{xs:List α}(h:1<=xs.length):atI xs (-1)=xs[xs.length-1]?:=by
 unfold atI ixN;rw[if_neg δ,if_pos ω];show xs[(-1+(xs.length:Int)).toNat]?=_;rw[show(-1+(xs.length:Int)).toNat=xs.length-1 by omega]
theorem Pu{u m:Int}(h0:0<=lab)(h1:lab<m)(u0:0<=u)(u1:u<m-1):(lab+1+u)%m≠lab:=by
 by_cases c:lab+1+u<m
 ·rw[Int.emod_eq_of_lt ω c];omega
 rw[show lab+1+u=(lab+1+u-m)+m by omega,Int.add_emod_right,Int.emod_eq_of_lt ω ω];omega
open Classical in
def qt(ss:Sts)(left:List Nat)(l:Int):Nat:=(left.map (lbl ss)).count l
def E9(ss:Sts)(left:List Nat):Pl->Bool
 | .tab=>decide (dN ss left<=200)
 | .pick l=>decide (qt ss left l=left.length)
 | .low k _ _=>(left.drop 1).contains k
 | .msk l _=>(decide (0<qt ss left l)&&decide (qt ss left l<left.length))&&decide (dN ss left<=64)
 | .one k _=>(left.contains k&&decide (left.length≠1))&&decide ((aO ss k).1=(aO ss k).2.1)
 | .wit k _=>left.contains k&&decide (left.length≠1)
def okP(ss:Sts):Pl->List Nat->Bool
 | .tab,left=>E9 ss left .tab
 | .pick l,left=>E9 ss left (.pick l)
 | .low k a b,left=>E9 ss left (.low k a b)&&(okP ss a (left.filter (· < k))&&okP ss b (left.filter (k<=·)))
 | .msk l r,left=>E9 ss left (.msk l r)&&okP ss r (left.filter λk=>(aO ss k).2.2≠l)
 | .one k r,left=>E9 ss left (.one k r)&&okP ss r (left.filter (·≠k))
 | .wit k r,left=>E9 ss left (.wit k r)&&okP ss r (left.filter (·≠k))
theorem pY(ss:Sts)(p:Pl)(left:List Nat):okP ss p left=(E9 ss left p&&(kids ss p left).all λx=>okP ss x.2 x.1):=by
 cases p with
 | tab=>simp[okP,kids]
 | pick l=>simp[okP,kids]
 | one k r=>simp[okP,kids]
 | wit k r=>simp[okP,kids]
 | msk l r=>simp[okP,kids]
 | low k a b=>simp[okP,kids]
theorem Sq{left:List Nat}{k:Nat}(hk:k∈left)(hu:left.Pairwise (· < ·))(h1:left.length≠1):left.filter (·≠k)≠[]:=by
 intro e;have all:∀x∈left,x=k:=λx hx=>by
  rcases Decidable.em (x=k) with h|h
  ·exact h
  have:x∈left.filter (·≠k):=BD.mpr ⟨hx,by simpa using h⟩;rw[e] at this;cases this
 cases left with
 | nil=>cases hk
 | cons a r=>
  cases r with
  | nil=>exact h1 rfl
  | cons b r=>
   have h2:=(B4.mp hu).1 b (AJ ..);have h3:=all a (AJ ..);have h4:=all b (AG _ (AJ ..));omega
theorem m8{ss:Sts}{left:List Nat}{p:Pl}(lf:Lf ss left)(h:E9 ss left p=true):∀x∈kids ss p left,Lf ss x.1:=by
 have mk:∀q:Nat->Bool,left.filter q≠[]->Lf ss (left.filter q):=λq hq=>⟨hq,λk hk=>lf.lt k (BD.mp hk).1,lf.up.sublist (KE ..)⟩;intro x hx;cases p with
 | tab=>cases hx
 | pick l=>cases hx
 | one k r=>
  simp only[kids,AA] at hx;subst hx;simp only[E9,BM,EV,decide_eq_true_eq] at h;exact mk _ (Sq h.1.1 lf.up h.1.2)
 | wit k r=>
  simp only[kids,AA] at hx;subst hx;simp only[E9,BM,EV,decide_eq_true_eq] at h;exact mk _ (Sq h.1 lf.up h.2)
 | msk l r=>
  simp only[kids,AA] at hx;subst hx;simp only[E9,BM,decide_eq_true_eq] at h;refine mk _ λe=>?_;have:qt ss left l=left.length:=by
   unfold qt;have e2:∀y∈left.map (lbl ss),l=y:=λy hy=>by
    obtain⟨k,hk,rfl⟩:=C8.mp hy;rcases Decidable.em ((aO ss k).2.2=l) with h|h
    ·exact h.symm
    have:k∈left.filter λk=>decide ((aO ss k).2.2≠l):=BD.mpr ⟨hk,by simpa using h⟩;rw[e] at this;cases this
   rw[List.count_eq_length.mpr e2,AI]
  omega
 | low k a b=>
  simp only[E9,EV] at h;have hk:k∈left:=IU h;simp only[kids,AL,BC,or_false] at hx;rcases hx with rfl|rfl
  ·refine mk _ λe=>?_;cases left with
   | nil=>cases hk
   | cons c r=>
    have h2:=(B4.mp lf.up).1 k (by simpa using h);have:c∈(c::r).filter (λx=>decide (x<k)):=BD.mpr ⟨AJ ..,by simpa using h2⟩;rw[e] at this;cases this
  refine mk _ λe=>?_;have:k∈left.filter (λx=>decide (k<=x)):=BD.mpr ⟨hk,by simp⟩;rw[e] at this;cases this
def Rc:Sp:=λvs H Q _=>∃(s l:V)(ok:ID->Prop)(ss:Sts)(left:List Nat)(m:Int),vs=[s,l,.int m]/\aG ok H s (.list (ss.map stD))/\aG ok H l (oF left)/\Lf ss left/\left.length<=1000000 /\
 ∀H',Same H H'->Q (.bl (decide (0<qt ss left m)&&decide (qt ss left m<left.length))) H'
def Ra:Sp:=λvs H Q _=>∃(s l p:V)(ok:ID->Prop)(ss:Sts)(left:List Nat)(pl:Pl),vs=[s,l,p]/\aG ok H s (.list (ss.map stD))/\aG ok H l (oF left)/\aG ok H p (plD pl)/\Lf ss left /\
 ∀H',Same H H'->Q (.bl (E9 ss left pl)) H'
def K3:Sp:=λvs H Q _=>∃(s p:V)(ok:ID->Prop)(ss:Sts)(pl:Pl),vs=[s,p]/\iD ok H/\aG ok H s (.list (ss.map stD))/\aG ok H p (plD pl)/\0<ss.length/\ss.length<=100/\aW pl<=4000 /\
 ∀H',Same H H'->Q (.bl (okP ss pl (AK ss.length))) H'
theorem Wo{ok:ID->Prop}{H:Hp}{x:V}{ss:Sts}(t:aG ok H x (.list (ss.map stD))):∃a xs,x=.ref a/\ok a/\H a=GE (.lst xs)/\xs.length<=1000000/\aN ok H xs (ss.map stD):=by
 cases t with
 | lst o e z ts=>exact⟨_,_,rfl,o,e,z,ts⟩
end L2
set_option maxHeartbeats 8000000
namespace L2
open PySem PySem.Spec PyProof.Rows
end L2
set_option maxHeartbeats 4000000
namespace L2
open PySem PySem.Spec PyProof.Rows
section
variable{o:Expr}{p:Pos}{ti:TE}
theorem aak(o:Expr)(u)(e:Expr)(p pos:Pos)(env:Env)(v:Ap):Gc (.Subscript o (.UnaryOp u e p) pos) env v=(do
   let ov <- EW [v] (eval o env)
   let iv <- EW [v,ov] (eval (.UnaryOp u e p) env)
   Ix pos
   EW [v,ov,iv] (setItem ov iv v)
   release [v,ov,iv] []):=rfl
theorem Ry{u}{t:V7}(ho:QE X o to)(hi:QE X (.UnaryOp u e p) ti)(hs:V8 X t):QG X (.Subscript o (.UnaryOp u e p) pos) (Zk to ti t):=⟨O3 ho.h hi.h hs (λv=>aak o u e p pos X.env v)⟩
end
end L2
namespace SRT
open PySem PySem.Builtin PySem.Builtin.List PyProof.Rows
def BX:SortKind:=(sortPriv% PySem.Builtin.KeyKind.tuples) true
end SRT
namespace SRT
open PySem PyProof.Rows
def Rk(f:CB->Int)(xs:Array CB)(i:Nat):Int:=match xs[i]? with
 | some p=>f p
 | none=>0
theorem Rk.at{f:CB->Int}{xs ys:Array CB}(h:xs[i]?=ys[j]?):Rk f xs i=Rk f ys j:=by
 unfold Rk;rw[h]
def Asc(f:CB->Int)(xs:Array CB)(n:Nat):Prop:=∀i j,i<j->j<n->Rk f xs i<Rk f xs j
def Dsc(f:CB->Int)(xs:Array CB)(n:Nat):Prop:=∀i j,i<j->j<n->Rk f xs j<Rk f xs i
theorem Asc.snoc{f:CB->Int}{xs:Array CB}(h:Asc f xs n)(h1:1<=n)(hl:Rk f xs (n-1)<Rk f xs n):Asc f xs (n+1):=λi j eR hj=>by
 by_cases e:j=n
 ·subst e;by_cases e2:i=j-1
  ·subst e2;exact hl
  have:=h i (j-1) ω ω;omega
 exact h i j eR ω
theorem Dsc.snoc{f:CB->Int}{xs:Array CB}(h:Dsc f xs n)(h1:1<=n)(hl:Rk f xs n<Rk f xs (n-1)):Dsc f xs (n+1):=λi j eR hj=>by
 by_cases e:j=n
 ·subst e;by_cases e2:i=j-1
  ·subst e2;exact hl
  have:=h i (j-1) ω ω;omega
 exact h i j eR ω
theorem Dsc.mirror{f:CB->Int}{xs:Array CB}(h:Dsc f xs n)(hn:n<=xs.size):Asc f (mirror xs 0 n ((n-0)/2)) n:=λi j eR hj=>by
 have e1:=getElem?_mirror_all (i:=0) hn i;have e2:=getElem?_mirror_all (i:=0) hn j;rw[if_pos ⟨D6 _,ω⟩] at e1 e2;rw[Rk.at e1,Rk.at e2];exact h _ _ ω ω
structure RB(a₀:Array CB)(st:DC):Prop where
 kind:kindOf st=BX
 perm:(B2 st).toList.Perm a₀.toList
 fail:HZ st=GT
 pend:Cb st=#[]
theorem RB.size{st:DC}(h:RB a₀ st):(B2 st).size=a₀.size:=by
 have:=h.perm.length_eq;simpa using this
theorem RB.set{xs:Array CB}{st:DC}(h:RB a₀ st)(hp:xs.Perm (B2 st)):RB a₀ (setArr st xs):=
 ⟨h.kind,(Array.perm_iff_toList_perm.mp hp).trans h.perm,h.fail,h.pend⟩
section
variable{f:CB->Int}
def Asks(prog:A6)(w:BI)(A:BE)(E:Ap->AD->Prop)(s:AD)(a₀:Array CB)(f:CB->Int):Prop:=
 ∀(st:DC)(x y:CB)(Q:Option Bool->DC->Prop),kindOf st=BX->x∈a₀.toList->y∈a₀.toList->f x≠f y->Q (GE (decide (f x<f y))) st->wpS (A3 prog w) A E s (lt' x y) Q st
theorem Li{st:DC}(hB:RB a₀ st)(hf:(a₀.toList.map f).Nodup)(hi:i<a₀.size)(hj:j<a₀.size)(eR:i≠j):Rk f (B2 st) i≠Rk f (B2 st) j:=by
 have hn:((B2 st).toList.map f).Nodup:=(hB.perm.map f).nodup_iff.mpr hf;have hz:=hB.size;have e1:(B2 st)[i]?=GE (B2 st)[i]:=getElem?_pos _ i ω;have e2:(B2 st)[j]?=GE (B2 st)[j]:=getElem?_pos _ j ω;unfold Rk;rw[e1,e2];show f _≠f _;intro e;refine eR ((getElem_inj (xs:=(B2 st).toList.map f) (i:=i) (j:=j) (h₀:=by simp;omega) (h₁:=by simp;omega) hn).mp ?_);simpa using e
theorem ltR{st:DC}{i' j':Nat}{Q:Option Bool->DC->Prop}(O:Asks prog w A E s a₀ f)(hf:(a₀.toList.map f).Nodup)(hB:RB a₀ st)(i j:Nat)(ei:i'=i)(ej:j'=j)(hi:i<a₀.size)(hj:j<a₀.size)(eR:i≠j)
  (h:Q (GE (decide (Rk f (B2 st) i<Rk f (B2 st) j))) st):wpS (A3 prog w) A E s (ltAt' i' j') Q st:=by
 subst ei;subst ej;have hz:=hB.size;have a7:=Li hB hf hi hj eR;rw[ltAt'_eq];refine Co (wpS_get ?_);refine Co (Sx ω λp hp=>?_);refine Co (Sx ω λq hq=>?_);have mp:p∈a₀.toList:=hB.perm.mem_iff.mp (by simpa using Array.mem_of_getElem? hp);have mq:q∈a₀.toList:=hB.perm.mem_iff.mp (by simpa using Array.mem_of_getElem? hq);unfold Rk at h a7;rw[hp,hq] at h a7;exact O st p q Q hB.kind mp mq a7 h
theorem aeV{st:DC}{Q:Option Nat->DC->Prop}(O:Asks prog w A E s a₀ f)(hf:(a₀.toList.map f).Nodup)(hB:RB a₀ st)(eu:Nat)(en:eu=a₀.size)(h1:1<=eu)
  (h:∀n dt,1<=n->n<=eu->RB a₀ dt->Asc f (B2 dt) n->Q (GE n) dt):wpS (A3 prog w) A E s (countRun' 0 eu) Q st:=by
 refine Co (Kj (F6 (I:=λx c z=>z=st/\c=(GT,x)/\Asc f (B2 st) x) (Q:=λc z=>z=st/\∃n,c=(GT,n)/\1<=n/\n<=eu/\Asc f (B2 st) n/\(n<eu->Rk f (B2 st) n<Rk f (B2 st) (n-1))) ?_ ?_ ⟨rfl,rfl,λi j _ _=>ω⟩) ?_)
 ·rintro x c z Sz hx ⟨rfl,rfl,ha⟩;dsimp only;refine Co (ltR O hf hB x (x-1) ω ω ω ω ω ?_);by_cases e:Rk f (B2 z) x<Rk f (B2 z) (x-1)
  ·rw[decide_eq_true e];exact DM ⟨rfl,x,rfl,Sz,ω,ha,λ_=>e⟩
  rw[decide_eq_false e];have:=Li hB hf (i:=x) (j:=x-1) ω ω ω;exact DM ⟨rfl,rfl,ha.snoc Sz ω⟩
 ·rintro c z ⟨rfl,rfl,ha⟩;exact⟨rfl,_,rfl,ω,ω,(by rw[IP h1] at ha;rw[IP h1];exact ha),λq=>ω⟩
 rintro c z ⟨rfl,n,rfl,k1,k2,ha,hx⟩;dsimp only;by_cases he:(n == eu)=true
 ·rw[if_pos he];exact DM (h n z k1 k2 hB ha)
 rw[if_neg he];have k3:n<eu:=by have:¬(n=eu):=(by simpa using he);omega
 by_cases hg:n>1
 ·rw[if_pos hg];refine Co (ltR O hf hB 0 (n-1) Z ω ω ω ω ?_);rw[decide_eq_true (ha 0 (n-1) ω ω)];exact DM (h n z k1 k2 hB ha)
 rw[if_neg hg];have e1:n=1:=ω;subst e1;have hd:Dsc f (B2 z) 2:=λi j eR hj=>by
  have:i=0:=by omega
  have:j=1:=by omega
  subst i;subst j;exact hx k3
 refine Co (wpS_lift (EN (Au Z ?_)));refine Co (Kj (F6 (I:=λx c z'=>z'=z/\c=(GT,x,0)/\Dsc f (B2 z) x) (Q:=λc z'=>z'=z/\∃n,c=(GT,n,0)/\2<=n/\n<=eu/\Dsc f (B2 z) n) ?_ ?_ ⟨rfl,rfl,hd⟩) ?_)
 ·rintro x c z' h2x hx2 ⟨rfl,rfl,hd⟩;dsimp only;refine Co (ltR O hf hB x (x-1) ω ω ω ω ω ?_);have a7:=Li hB hf (i:=x) (j:=x-1) ω ω ω;by_cases e:Rk f (B2 z') x<Rk f (B2 z') (x-1)
  ·rw[decide_eq_true e];dsimp only;rw[if_pos rfl,if_neg δ];exact DM ⟨rfl,rfl,hd.snoc ω e⟩
  rw[decide_eq_false e];dsimp only;rw[if_neg (A5)];refine Co (ltR O hf hB (x-1) x ω ω ω ω ω ?_);have ba:Rk f (B2 z') (x-1)<Rk f (B2 z') x:=ω;rw[decide_eq_true ba];exact DM ⟨rfl,x,rfl,h2x,ω,hd⟩
 ·rintro c z' ⟨rfl,rfl,hd⟩;rw[IP ω] at hd |-;exact⟨rfl,_,rfl,ω,AW _,hd⟩
 rintro c z' ⟨rfl,n,rfl,q1,q2,hd⟩;dsimp only;rw[if_neg δ];have hz:=hB.size;apply Co;apply wpS_reverse;have Na:RB a₀ (setArr z' (mirror (B2 z') 0 (0+n) ((0+n-0)/2))):=hB.set (mirror_perm _ _ _ _);have WG:Asc f (B2 (setArr z' (mirror (B2 z') 0 (0+n) ((0+n-0)/2)))) n:=by
  have:=hd.mirror ω;rw[F4];exact this
 generalize setArr z' (mirror (B2 z') 0 (0+n) ((0+n-0)/2))=gt at Na WG |-;refine Co (Kj (F6 (I:=λx c z=>z=gt/\c=(GT,x)/\Asc f (B2 gt) x) (Q:=λc z=>z=gt/\∃n,c=(GT,n)/\1<=n/\n<=eu/\Asc f (B2 gt) n) ?_ ?_ ⟨rfl,rfl,WG⟩) ?_)
 ·rintro x c z Sz hx ⟨rfl,rfl,ha⟩;dsimp only;refine Co (ltR O hf Na x (x-1) ω ω ω ω ω ?_);by_cases e:Rk f (B2 z) x<Rk f (B2 z) (x-1)
  ·rw[decide_eq_true e];exact DM ⟨rfl,x,rfl,ω,ω,ha⟩
  rw[decide_eq_false e];have:=Li Na hf (i:=x) (j:=x-1) ω ω ω;exact DM ⟨rfl,rfl,ha.snoc ω ω⟩
 ·rintro c z ⟨rfl,rfl,ha⟩;rw[IP ω] at ha |-;exact⟨rfl,_,rfl,ω,AW _,ha⟩
 rintro c z ⟨rfl,n,rfl,k1,k2,ha⟩;exact DM (h n z k1 k2 Na ha)
end
theorem Qy{f:CB->Int}{xs:Array CB}{k l:Nat}(h:Asc f xs k)(hk:k<xs.size)(hl:l<=k)(h1:∀i,i<l->Rk f xs i<Rk f xs k)(h2:∀i,l<=i->i<k->Rk f xs k<Rk f xs i):Asc f (bubble xs k (k-l)) (k+1):=by
 have g:∀i,Rk f (bubble xs k (k-l)) i=if i=l then Rk f xs k else if l<i/\i<=k then Rk f xs (i-1) else Rk f xs i:=λi=>by
  have e:=getElem?_bubble hk (k-l) ω i;rw[show k-(k-l)=l by omega] at e;split
  ·rename_i c;rw[if_pos c] at e;exact Rk.at e
  rename_i c;rw[if_neg c] at e;split
  ·rename_i c2;rw[if_pos c2] at e;exact Rk.at e
  rename_i c2;rw[if_neg c2] at e;exact Rk.at e
 intro i j eR hj;rw[g i,g j];by_cases a1:i=l
 ·rw[if_pos a1,if_neg ω,if_pos ω];exact h2 _ ω ω
 rw[if_neg a1];by_cases a2:l<i/\i<=k
 ·rw[if_pos a2,if_neg ω,if_pos ω];exact h _ _ ω ω
 rw[if_neg a2];by_cases b1:j=l
 ·rw[if_pos b1];exact h1 _ ω
 rw[if_neg b1];by_cases b2:l<j/\j<=k
 ·rw[if_pos b2];by_cases c:i=j-1
  ·omega
  exact h _ _ ω ω
 rw[if_neg b2];exact h _ _ ω ω
section
variable{f:CB->Int}
theorem agf{st:DC}{ok:Nat}{Q:Bool->DC->Prop}(O:Asks prog w A E s a₀ f)(hf:(a₀.toList.map f).Nodup)(hB:RB a₀ st)(hn:n<=a₀.size)(hok:1<=ok)(hon:ok<=n)(ha:Asc f (B2 st) ok)
  (h:∀dt,RB a₀ dt->Asc f (B2 dt) n->Q true dt):wpS (A3 prog w) A E s (binarySort' 0 n ok) Q st:=by
 have hm:max ok 1=ok:=ω;refine Co (Kj (F6 (I:=λx c z=>RB a₀ z/\c=(GT,())/\Asc f (B2 z) x) (Q:=λc z=>RB a₀ z/\c=(GT,())/\Asc f (B2 z) n) ?_ (λc z hh=>by rw[hm,IP hon] at hh;exact hh) ⟨hB,rfl,by rw[hm];exact ha⟩) ?_)
 ·rintro k c z a9 hk ⟨hz,rfl,bg⟩;dsimp only;have hsz:=hz.size;refine Co (Kj (F6 (I:=λx c z'=>z'=z/\∃l r,c=(GT,l,r)/\l<=r/\r<=k/\r-l<=k-x/\(∀i,i<l->Rk f (B2 z) i<Rk f (B2 z) k)/\(∀i,r<=i->i<k->Rk f (B2 z) k<Rk f (B2 z) i)) (Q:=λc z'=>z'=z/\∃l,c=(GT,l,l)/\l<=k/\(∀i,i<l->Rk f (B2 z) i<Rk f (B2 z) k)/\(∀i,l<=i->i<k->Rk f (B2 z) k<Rk f (B2 z) i)) ?_ ?_ ⟨rfl,0,k,rfl,D6 _,AW _,AW _,λi hi=>ω,λi h1 h2=>ω⟩) ?_)
  ·rintro x c z' _ hx ⟨rfl,l,r,rfl,q1,q2,q3,q4,q5⟩;dsimp only;by_cases hl:l≥r
   ·rw[if_pos hl];have:l=r:=by omega
    subst this;exact DM ⟨rfl,l,rfl,q2,q4,q5⟩
   rw[if_neg hl];refine Co (ltR O hf hz k ((l+r)/2) ω ω ω ω ω ?_);have a7:=Li hz hf (i:=k) (j:=(l+r)/2) ω ω ω;by_cases e:Rk f (B2 z') k<Rk f (B2 z') ((l+r)/2)
   ·rw[decide_eq_true e];refine DM ⟨rfl,l,(l+r)/2,rfl,ω,ω,ω,q4,λi h1 h2=>?_⟩;by_cases c:i=(l+r)/2
    ·rw[c];exact e
    have:=bg ((l+r)/2) i ω h2;omega
   rw[decide_eq_false e];refine DM ⟨rfl,(l+r)/2+1,r,rfl,ω,q2,ω,λi h1=>?_,q5⟩;by_cases c:i=(l+r)/2
   ·rw[c];omega
   have:=bg i ((l+r)/2) ω ω;omega
  ·rintro c z' ⟨rfl,l,r,rfl,q1,q2,q3,q4,q5⟩;have:l=r:=by omega
   subst this;exact⟨rfl,l,rfl,q2,q4,q5⟩
  rintro c z' ⟨rfl,l,rfl,q2,q4,q5⟩;dsimp only;refine Co (wpS_modify (DM ⟨hz.set (bubble_perm _ _ _),rfl,?_⟩));have:=Qy bg ω q2 q4 q5;show Asc f (bubble (B2 z') (0+k) (0+k-(0+l))) (k+1);rw[F4,F4];exact this
 rintro c z ⟨hz,rfl,hk⟩;exact DM (h z hz hk)
theorem afc{st:DC}{Q:Unit->DC->Prop}(O:Asks prog w A E s a₀ f)(hf:(a₀.toList.map f).Nodup)(hB:RB a₀ st)(h1:1<=a₀.size)(Su:a₀.size<64)
  (h:∀dt,(B2 dt).toList.Perm a₀.toList->HZ dt=GT->Asc f (B2 dt) a₀.size->Q () dt):wpS (A3 prog w) A E s sortRuns' Q st:=by
 refine Co (wpS_get ?_);dsimp only;have hs:=hB.size;dsimp only [B2] at hs;simp only[hs];have hmr:(sortPriv% PySem.Builtin.minRun) a₀.size a₀.size 0=a₀.size:=by
  obtain⟨k,hk⟩:∃k,a₀.size=k+1:=⟨a₀.size-1,ω⟩;have:minRun' (k+1) a₀.size 0=a₀.size:=by
   rw[minRun'_succ,if_pos Su];rfl
  rw[<- hk] at this;exact this
 rw[hmr];refine Co (Kj (F6 (I:=λx c z=>(x=0/\c=(GT,0)/\RB a₀ z)\/(c=(GT,a₀.size)/\(B2 z).toList.Perm a₀.toList/\HZ z=GT/\(Cb z).size=1/\Asc f (B2 z) a₀.size)) (Q:=λc z=>c=(GT,a₀.size)/\(B2 z).toList.Perm a₀.toList/\HZ z=GT/\(Cb z).size=1/\Asc f (B2 z) a₀.size) ?step ?fin (.inl ⟨rfl,rfl,hB⟩)) ?post)
 case fin=>
  rintro c z (⟨hx,_,_⟩|hD)
  ·omega
  exact hD
 case step=>
  rintro x c z _ hx (⟨rfl,rfl,hz⟩|⟨rfl,d1,d2,d3,d4⟩)
  ·dsimp only;rw[if_neg ω];refine Co (aeV O hf hz _ (Nat.sub_zero _) ω λn z' n1 n2 sM ha=>?_);dsimp only;have fin:∀z':DC,RB a₀ z'->Asc f (B2 z') a₀.size->∀m,m=a₀.size->(B2 (IM z' ((Cb z').push (0,m,0)))).toList.Perm a₀.toList/\HZ (IM z' ((Cb z').push (0,m,0)))=GT/\(Cb (IM z' ((Cb z').push (0,m,0)))).size=1/\Asc f (B2 (IM z' ((Cb z').push (0,m,0)))) a₀.size:=λz' sM ha m hm=>
    ⟨sM.perm,sM.fail,(by show((Cb z').push _).size=1;rw[sM.pend];rfl),ha⟩
   by_cases ba:n<a₀.size
   ·rw[if_pos ba];refine Co (wpS_lift (EN (Au Z ?_)));refine Co (agf O hf sM (show min (a₀.size-0) a₀.size<=a₀.size by omega) n1 ω ha λz2 di MY=>?_);rw[if_neg (show ¬((!true)=true) by decide)];refine Co (wpS_get ?_);have i6:(Cb z2).back?=GT:=by rw[di.pend];rfl
    rw[show min (a₀.size-0) a₀.size=a₀.size by omega] at MY;dsimp only [Cb] at i6;rw[i6];refine Co (wpS_modify (DM (.inr ⟨?_,fin z2 di MY _ ω⟩)));rw[show 0+min (a₀.size-0) a₀.size=a₀.size by omega]
   rw[if_neg ba];have e:n=a₀.size:=ω;refine Co (wpS_get ?_);have i6:(Cb z').back?=GT:=by rw[sM.pend];rfl
   dsimp only [Cb] at i6;rw[i6];refine Co (wpS_modify (DM (.inr ⟨?_,fin z' sM (e ▸ ha) _ e⟩)));rw[F4,e]
  dsimp only;rw[if_pos (AW _)];exact DM ⟨rfl,d1,d2,d3,d4⟩
 case post=>
  rintro c z ⟨rfl,d1,d2,d3,d4⟩;dsimp only;refine Co (Kj (F6 (I:=λ_ c z'=>c=(GT,())/\z'=z) (Q:=λc z'=>c=(GT,())/\z'=z) ?_ (λ_ _ hh=>hh) ⟨rfl,rfl⟩) ?_)
  ·rintro x c z' _ _ ⟨rfl,rfl⟩;refine Co (wpS_get ?_);refine aar (λ_=>DM ⟨rfl,rfl⟩) λhg=>?_;have y6:¬(Cb z').size<=1:=hg;omega
  rintro c z' ⟨rfl,rfl⟩;exact DM (h z' d1 d2 d4)
end
theorem Wk(hI:ER (v::vs) ns):oneTypeOnly' (v::vs).toArray=pure (GE (.type "int")):=by
 simp only[oneTypeOnly'_eq,List.mapM_toArray,mapM_typeOf_ints hI,map_pure,pure_bind,DI,GA,Hc];rw[if_pos ?_];rw[List.all_toArray,all_cons];have e:(DO "int" == DO "int")=true:=rfl;rw[e,DD,all_map];exact C7.mpr λ_ _=>rfl
theorem Dr{p:CB}(h:p∈(Ff vs).toList):p.1∈vs/\p.2=p.1:=by
 unfold Ff at h;rw[Array.toList_zip] at h;obtain⟨i,hi,rfl⟩:=List.getElem_of_mem h;simp
theorem Uq(vs:List Ap):(Ff vs).toList.map (·.1)=vs:=by
 unfold Ff;simp[List.map_fst_zip]
theorem V5{g:Ap->Int}{xs:Array CB}(hp:xs.toList.Perm (Ff vs).toList)(h:Asc (λp=>g p.1) xs (Ff vs).size):((xs.map (·.2)).toList.map g).Pairwise (· < ·):=by
 have hz:xs.size=(Ff vs).size:=by
  have:=hp.length_eq;simpa using this
 refine FG.mpr λi j hi hj eR=>?_;have hix:i<xs.size:=by simpa using hi
 have hjx:j<xs.size:=by simpa using hj
 have e:∀(k:Nat)(hk:k<xs.size),g xs[k].2=Rk (λp=>g p.1) xs k:=λk hk=>by
  have m:xs[k]∈(Ff vs).toList:=hp.mem_iff.mp ζ;unfold Rk;rw[getElem?_pos xs k hk];show g _=g _;rw[(Dr m).2]
 have a1:=h i j eR ω;rw[<- e i hix,<- e j hjx] at a1;simpa using a1
end SRT
namespace L2
open PySem PySem.Spec PyProof.Rows
theorem GP:∀{ps:List ID}{us:List Ap},Vals (ps.map AS) us->us=ps.map BY
 | [],_,h=>by cases h;rfl
 | p::ps,_,h=>by
  cases h with
  | cons r h=>
   cases r;rw[GP h];rfl
theorem Hf:∀(ps:List ID),Vals (ps.map AS) (ps.map BY)
 | []=>.nil
 | p::ps=>.cons rfl (Hf ps)
theorem Ul:∀{xs:List Ap}{ps:List ID},xs.Perm (ps.map BY)->∃qs:List ID,xs=qs.map BY/\qs.Perm ps:=λ{xs ps} h=>by
 have hx:∀v∈xs,∃p,v=BY p:=λv hv=>by
  obtain⟨p,_,e⟩:=C8.mp (h.mem_iff.mp hv);exact⟨p,e.symm⟩
 obtain⟨qs,rfl⟩:∃qs:List ID,xs=qs.map BY:=by
  clear h
  induction xs with
  | nil=>exact⟨[],rfl⟩
  | cons v xs ih=>
   obtain⟨p,rfl⟩:=hx v (AJ ..);obtain⟨qs,rfl⟩:=ih λx m=>hx x (AG _ m);exact⟨p::qs,rfl⟩
 refine⟨qs,rfl,?_⟩;have:=h.filterMap λv=>match v with | .ref p=>GE p|_=>GT
 simpa [HI,Function.comp_def] using this
end L2
namespace SRT
open PySem PyProof.Rows
def TP(s:AD)(x:Ap)(a:Int):Prop:=∃q o n t z,x=.ref q/\s.heap.get? q=GE o/\o.cls=.type "tuple" /\ o.data=.seq #[.int a t,z] n
theorem aeO{a:Int}{Q:Option Ap->AD->Prop}(h:TP s v a)(q:∀t,Q (GE (.int a t)) s):AO (A3 prog w) A (firstOfTuple' v) Q E s:=by
 obtain⟨p,o,n,t,z,rfl,ho,hc,hs⟩:=h;show AO _ _ (typeOf (.ref p) >>= λty=>_) _ _ s;refine An (wpAny_typeOf (T := "tuple") (show s.TypeIs (.ref p) "tuple" from⟨o,ho,hc⟩) ?_);rw[if_neg δ];exact An (listItems_at ho hs (AF (q t)))
theorem firstsP:∀{vs:List Ap}{Q:List (Option Ap)->AD->Prop},(∀v∈vs,∃a,TP s v a)->(∀(ws:List Ap)(ns:List Int),ER ws ns->ws.length=vs.length->Q (ws.map GE) s)->AO (A3 prog w) A (vs.mapM firstOfTuple') Q E s
 | [],Q,_,q=>by
  rw[List.mapM_nil];exact AF (q [] [] .nil Z)
 | v::vs,Q,h,q=>by
  rw[List.mapM_cons];obtain⟨a,hv⟩:=h v (AJ ..);refine An (aeO hv λt=>?_);refine An (firstsP (vs:=vs) (λx hx=>h x (AG _ hx)) λws ns hI hl=>?_);exact AF (q (.int a t::ws) (a::ns) (.cons a t hI) (by rw[BG,BG,hl]))
theorem afD{vs:List Ap}{Q:SortKind->AD->Prop}(h:∀v∈vs,∃a,TP s v a)(hn:1<=vs.length)(q:Q BX s):AO (A3 prog w) A (keyKind' vs.toArray) Q E s:=by
 rw[keyKind'_eq];rw[List.mapM_toArray];rw[map_eq_pure_bind];refine An (An (firstsP h λws ns hI hl=>AF ?_));have ha:(ws.map GE).toArray.all (·.isSome)=true:=by simp
 rw[if_pos ha];have hfm:(ws.map GE).toArray.filterMap id=ws.toArray:=by simp[HI]
 rw[hfm];cases ws with
 | nil=>rw[<- hl] at hn;cases hn
 | cons v ws=>
  rw[Wk hI];refine An (EN ?_);exact An (AF (AF q))
structure xG(s:AD)(g:Ap->Int)(vs:List Ap):Prop where
 tk:∀v∈vs,TP s v (g v)
 nd:(vs.map g).Nodup
theorem afS{g:Ap->Int}(h:xG s g vs):Asks prog w A E s (Ff vs) λp=>g p.1:=by
 intro st x y Q hk hx hy a7 q;have h1:=h.tk x.1 (Dr hx).1;have h4:=h.tk y.1 (Dr hy).1;rw[lt'_eq];refine Co (wpS_get ?_);rw[hk];refine Co (wpS_lift (GI ?_));obtain⟨p,o,n,t,z,e,ho,hc,hs⟩:=h1;obtain⟨p',o',n',t',z',e',fq,cp,MG⟩:=h4;have zS:g x.1≠g y.1:=a7;replace q:Q (GE (decide (g x.1<g y.1))) st:=q;generalize g x.1=a at *;generalize g y.1=b at *;rw[e,e'];show AO _ _ (AX.List.listItems (.ref p) >>= λxs=>AX.List.listItems (.ref p') >>= _) _ _ s;refine An (listItems_at ho hs ?_);refine An (listItems_at fq MG ?_);show AO _ _ (forIn [((Do a t,Do b t'),0),((z,z'),1)] _ _ >>= _) _ _ s;rw[forIn_cons];refine An (An (An (wpAny_eqBool_int ?_)));rw[beq_false_of_ne zS];exact An (oneLt_int (AF (AF (AF ⟨rfl,DM q⟩))))
theorem xG.keep{g:Ap->Int}{s':AD}(h:xG s g vs)(k:∀q o,s.heap.get? q=GE o->o.cls=.type "tuple" -> s'.heap.get? q=GE o):xG s' g vs:=
 ⟨λv hv=>by
  obtain⟨q,o,n,t,z,e,ho,hc,hs⟩:=h.tk v hv;exact⟨q,o,n,t,z,e,k q o ho hc,hc,hs⟩,h.nd⟩
theorem aew{a:ID}{vs:List Ap}{n:Nat}{P:Fin->AD->Prop}{g:Ap->Int}(ho:s.heap.get? a=GE (FA "list" vs.toArray n))(hR:xG s g vs)
  (am:vs.length<64)(h:∀xs:Array Ap,xs.toList.Perm vs->(xs.toList.map g).Pairwise (· < ·)->P (.done (.ret .none)) { s with heap:=sortedHeap s.heap a vs xs }):AO (A3 prog w) A (AX.«list.sort» ⟨[.ref a],[]⟩) P E s:=by
 rw[list_sort_plain];have la:a<s.heap.objs.size:=Bz ho;refine An (listItems_at ho Z (An (listUpdate_at ho Z ?_)));obtain⟨e,he⟩:∃e,(s.heap.update a (CA λ_=>#[])).get? a=GE (FA "list" #[] e):=⟨_,get?_update_seq ho λ_=>#[]⟩;refine An (seqEpoch_at he Z (An (wpAny_newTuple (An (wpAny_newList (C1 ?_))))));have h6:(((s.heap.update a (CA λ_=>#[])).push (FA "tuple" vs.toArray 0)).push (FA "list" #[] 0)).get? a=GE (FA "list" #[] e):=by
  rw[Heap.get?_push_ne _ _ _ (by rw[size_push',size_update];exact BS (Nat.le_succ_of_le la)),Heap.get?_push_ne _ _ _ (by rw[size_update];exact BS la),he]
 have WO:xG { s with heap:=((s.heap.update a (CA λ_=>#[])).push (FA "tuple" vs.toArray 0)).push (FA "list" #[] 0) } g vs:=hR.keep λq o hq hc=>by
  have a7:q≠a:=λz=>by
   rw[z,ho] at hq;cases hq;exact absurd (show DO "list" = DO "tuple" from hc) δ
  exact AH _ (AH _ ((CO _ _ (EC a7)).trans hq))
 show AO _ A _ P E { s with heap:=((s.heap.update a (CA λ_=>#[])).push (FA "tuple" vs.toArray 0)).push (FA "list" #[] 0) };dsimp only;by_cases h2:(vs.toArray.size<2)
 ·rw[if_pos h2,if_pos h2];refine(An (AF ?_));rw[StateT.run_pure];refine An (AF (An (seqEpoch_at h6 Z (An (listUpdate_at h6 Z ?_ (hsz2:=?z))))))
  case z=>rw[Array.size_map];show(Ff vs).size<=_;rw[pairsOf_size,Jn];omega
  simp only[KL,bne_self_eq_false,if_false];have e0:((vs.toArray.zip vs.toArray).map (·.2)).toList=vs:=by rw[show(vs.toArray.zip vs.toArray).map (·.2)=(Ff vs).map (·.2) from rfl,Hi]
  refine AF (h _ (by rw[e0]) ?_);rw[e0]
  match vs,h2 with
  | [],_=>exact .nil
  | [v],_=>exact Db _ _
  | _::_::t,h2=>exact absurd h2 ζ
 rw[if_neg h2,if_neg h2];refine An (afD (λv hv=>?_) (by simp at h2;omega) ?_)
 ·exact⟨_,WO.tk v hv⟩
 refine An (Da (afc (a₀:=Ff vs) (f:=λp=>g p.1) (st:=DC.mk' BX (vs.toArray.zip vs.toArray) #[] 7 GT) (Q:=λ_ z=>(B2 z).toList.Perm (Ff vs).toList/\HZ z=GT/\Asc (λp=>g p.1) (B2 z) (Ff vs).size) (afS WO) ?nd ⟨rfl,E8.refl _,rfl,rfl⟩ (by rw[pairsOf_size];simp at h2;omega) (by rw[pairsOf_size];exact am) λz d1 d2 d3=>⟨d1,d2,d3⟩) ?_ λ_ _ e=>e)
 case nd=>
  have:=hR.nd;rw[<- Uq vs,IG] at this;exact this
 rintro⟨⟨⟩,z⟩ s' ⟨rfl,d1,d2,d3⟩;have hm:((B2 z).map (·.2)).toList.Perm vs:=by
  have:=d1.map (·.2);rw[<- toList_map,<- toList_map,Hi] at this;exact this
 refine An (seqEpoch_at h6 Z (An (listUpdate_at h6 Z ?_ (hsz2:=?z))))
 case z=>
  have:=hm.length_eq;rw[D2] at this;show((B2 z).map (·.2)).size<=_;rw[this,Jn];omega
 dsimp only;rw[d2];simp only[KL,bne_self_eq_false,if_false];exact AF (h _ hm (V5 d1 d3))
theorem aaG{l:ID}{g:Ap->Int}(hl:s.heap.IsList l vs.toArray)(hR:xG s g vs)(am:vs.length<64)
  (h:∀xs:Array Ap,xs.toList.Perm vs->(xs.toList.map g).Pairwise (· < ·)->Q (.ref (s.heap.objs.size+1)) { s with heap:=sortedAll s.heap vs xs }):AO (A3 prog w) A (call (.builtin "sorted") [.ref l]) Q E s:=by
 refine Calls.call_function_entry kind_sorted plain_sorted entry_sorted (args_sorted1 (.ref l)) ?_;unfold AX.«sorted»;refine An (m:=checkCount "sorted" 1 1 _) (AF (An (collect_list hl (An (wpAny_newList ?_)))));have hz:((s.heap.push (FA "list" #[] 0)).update s.heap.objs.size (CA (· ++ vs.toArray))).objs.size=s.heap.objs.size+1:=size_update .. |>.trans (size_push' _ _);have hL:(((s.heap.push (FA "list" #[] 0)).update s.heap.objs.size (CA (· ++ vs.toArray))).push (FA "list" vs.toArray 0)).get? (s.heap.objs.size+1)=GE (FA "list" vs.toArray 0):=hz ▸ A7 _ rfl;show AO (A3 prog w) A.in1 _ _ E { s with heap:=((s.heap.push (FA "list" #[] 0)).update s.heap.objs.size (CA (· ++ vs.toArray))).push (FA "list" vs.toArray 0) };rw[hz];refine An (C1 (Ct slot_list_sort ⟨_,hL,rfl⟩ entry_list_sort (aew hL (hR.keep λq o hq hc=>?_) am λxs hp ho=>⟨_,rfl,AF ⟨_,rfl,h xs hp ho⟩⟩) (args_list_sort _)));have a7:s.heap.objs.size≠q:=λz=>by
  exact BS (Bz hq) z.symm
 exact AH _ ((CO _ _ a7).trans (AH _ hq))
end SRT
namespace L2
open PySem PySem.Spec PyProof.Rows
def afd:List V->Hp->VK->Prop:=λvs H Q=>∃(l:ID)(ps:List ID)(key:ID->Int),vs=[.ref l]/\H l=GE (.lst (ps.map AS))/\ps.length<64 /\
 (∀p∈ps,∃v,H p=GE (.tup [.int (key p),v]))/\(ps.map key).Nodup /\
 ∀(d:ID)(qs:List ID),H d=GT->qs.Perm ps->(qs.map key).Pairwise (· < ·)->Q (.ref d) (upd H d (.lst (qs.map AS)))
def rkP(key:ID->Int):Ap->Int
 | .ref p=>key p
 | _=>0
theorem Qq:eY X (.builtin "sorted") afd:=by
 intro aa s σ H xs us Q I rv h;obtain⟨l,ps,key,rfl,el,hl,hp,eT,q⟩:=h;cases rv with
 | cons r rr=>
  cases rr;cases r;obtain⟨ae,rl,pl,hz⟩:=I.list (SqL.of el);have e:=GP rl;subst e;have hg:(λv=>rkP key v)∘BY=key:=rfl;refine SRT.aaG (g:=rkP key) pl.isList ⟨λv hv=>?_,?_⟩ (by rw[AI];exact hl) λys hy ho=>?_
  ·obtain⟨p,hm,rfl⟩:=C8.mp hv;obtain⟨v,ep⟩:=hp p hm;obtain⟨ts,rt,pt,_⟩:=I.tuple (SqT.of ep);obtain⟨ob,g1,g2,n,g3⟩:=pt;cases rt with
   | cons r1 rt=>
    cases rt with
    | cons r2 rt=>
     cases rt;obtain⟨t,rfl⟩:=r1;exact⟨p,ob,n,t,_,rfl,g1,g2,g3⟩
  ·rw[IG];exact eT
  obtain⟨qs,e,hq⟩:=Ul hy;rw[e,IG] at ho;obtain⟨n,he⟩:=sortedAll_at s.heap (ps.map BY) ys;have le:s.heap.objs.size<=s.heap.objs.size+1:=le_succ _;have hf:H (s.heap.objs.size+1)=GT:=I.hok.fresh le;refine⟨.ref (s.heap.objs.size+1),_,I.laid (t':=s.toks) (λc o z=>sortedAll_old z) le (show cR X.prog X.w _ _ _ (.lst (qs.map AS)) from⟨aR (by rw[AI,hq.length_eq];omega),qs.map BY,n,Hf qs,?_⟩),rfl,q _ qs hf hq ho⟩;rw[he];have:ys=(qs.map BY).toArray:=by rw[<- e]
  rw[this]
open PySem PySem.Spec PyProof.Rows Builtin Builtin.Str
open PySem PySem.Spec PyProof.Rows PySem.NumText
def kw1(n:Int)(u:Tok):List (Str×Ap):=[("start",.int n u)]
theorem Vr(t:ID)(items:Array Ap)(n:Int)(u:Tok)(hn:AX.SmallTypes.fitsIndex n=true):Meets (AX.«enumerate.__new__» { pos:=[DO "enumerate",BY t],kw:=kw1 n u }) λ_ R s=>
  s.heap.IsList t items/\R (.ok (.ret (.ref (s.heap.objs.size+1)))) { s with heap:=(s.heap.push { cls:=.type "list_iterator",data:=.fields #[.ref t,.int 0 0] }).push { cls:=.type "enumerate",data:=.fields #[.none,.bool false,.ref s.heap.objs.size,ET n,.none,.none] } }:=by
 refine Meets.of_wp λprog w A R s h=>?_;obtain⟨ht,hR⟩:=h;unfold AX.«enumerate.__new__» AX.SmallTypes.newClass kw1;refine An (An (AF (B9 Z (An (B7 sub_enumerate (B9 Z (AF (wpAny_ite_true Z (An ?_)))))))));unfold AX.SmallTypes.calledThroughType;refine An (wpAny_stack_any λst=>AF ?_);have fin:AO (A3 prog w) A.in1 (do
   let it <- pyIter (BY t)
   let r <- AX.SmallTypes.newRecord (DO "enumerate") (AX.SmallTypes.ownedTupleFields++[it,ET n,Ap.none,Ap.none])
   ret r) (λfin s'=>∃v,fin=Fin.done (Flow.ret v)/\R (Except.ok (Flow.ret v)) s') (λe s'=>R (Except.error e) s') s:=by
  refine An (Fc ht ?_);show AO _ _ (newObj (.type "enumerate") (.fields #[.none,.bool false,.ref s.heap.objs.size,ET n,.none,.none]) >>= λr=>ret r) _ _ _;refine An (BU ?_);refine AF ⟨_,rfl,?_⟩;have e:(s.heap.push { cls:=DO "list_iterator",data:=EG #[BY t,Do 0 0] }).objs.size=s.heap.objs.size+1:=DU ..;rw[e];exact hR
 have hf:decide ((!Builtin.SmallTypes.fitsIndex n)=true)=false:=by rw[hn];rfl
 dsimp only;split
 ·split
  ·exact An (AF (An (B7 (a:=Do n u) Z (An (B7 (a:=GE n) Z (B9 hf fin))))))
  exact An (AF (An (B7 (a:=Do n u) Z (An (B7 (a:=GE n) Z (B9 hf fin))))))
 split
 ·exact An (AF (An (B7 (a:=Do n u) Z (An (B7 (a:=GE n) Z (B9 hf fin))))))
 exact An (AF (An (B7 (a:=Do n u) Z (An (B7 (a:=GE n) Z (B9 hf fin))))))
theorem YG{UR:String}{self:Ap}{rest:List Ap}{kw:List (Str×Ap)}(hl:typeLookup (.type T) "__init__" = pure (GE (.builtin "object.__init__")))
  (hm:Bind.madeBy (.type T)=pure (GE UR))(a7:(GE UR != GE "object.__new__")=true) :
  Meets (AX.«object.__init__» ⟨self::rest,kw⟩) (λ_ R s=>s.TypeIs self T/\R (.ok (.ret .none)) s):=by
 refine Meets.of_wp λprog w A R s hs=>?_;obtain⟨hT,hq⟩:=hs;cases rest <;> cases kw <;> repeat (any_goals (first|assumption|wp_step))
 all_goals exact⟨_,rfl,hq⟩
theorem Nk{T newId:String}{Bn:AX}{us:List Ap}{kw:List (Str×Ap)}{S:EL}{Q:Ap->AD->Prop}(ft:TypeCalled T newId "object.__init__")
  (a7:(GE newId != GE "object.__new__")=true)(nL:checkTypeCall T ⟨us,kw⟩=pure ())(hcn:checkBuiltinCall newId ⟨.type T::us,kw⟩=pure ())
  (hok:∀obj,argsOk "object.__init__" ⟨obj::us,kw⟩)(en:entryFor table newId=GE Bn)(g:Meets (Bn ⟨.type T::us,kw⟩) S)
  (h:S A.in1 (wants (λobj s₁=>s₁.TypeIs obj T/\Q obj s₁) E) s):AO (A3 prog w) A (call (.type T) us kw) Q E s:=by
 obtain⟨c,tl,Re⟩:=ft.mro;have yA:=ft.made;have bc:=ft.sub;refine wpAny_call (codeAny_of_tree ?_);show AO (A3 prog w) _ (callAny (.type T) _) _ _ _;refine AF (Au (Code.quiet_builtin _ ψ) (E6 F.entry_type_call ?_));rw[BE.under_plain (weight_type_call_type T us kw) (units_type_call_type T us kw)];have h1:=ft.notType;have h2:=ft.canCreate
 repeat (any_goals (first|assumption|wp_step))
 refine FY (Kb ft.plain en (B7 hcn (g prog w A.in1 _ s h))) λz s1 hz=>?_;rcases z with e|fl
 ·exact hz
 cases fl with
 | ret o=>
  obtain⟨hT,hq⟩:=hz;have hli:=ft.init.lookup;have hbi:=ft.init.bind o
  repeat (any_goals (first|assumption|wp_step))
  refine FY (Kb ft.init.plain F.entry_object_init (ft.init.check _ _ _ _ _ _ _ _ hT (hok o) (YG ft.init.lookup ft.made a7 prog w A.in1 (wants (λr s2=>r=.none/\Q o s2) E) s1 ⟨hT,rfl,hq⟩))) λz2 s2 di=>?_;rcases z2 with e|fl2
  ·exact di
  cases fl2 with
  | ret r=>
   obtain⟨rfl,VM⟩:=di
   repeat (any_goals (first|assumption|wp_step))
  | _=>exact di.elim
 | _=>exact hz.elim
theorem Z1{l:ID}{n:Int}{u:Tok}(hn:AX.SmallTypes.fitsIndex n=true)(hL:s.heap.IsList l items)
  (h:∀h',HK h' (s.heap.objs.size+1) s.heap.objs.size n .none->h'.IsListIter s.heap.objs.size l 0->(∀b o,s.heap.get? b=GE o->h'.get? b=GE o)->Q (.ref (s.heap.objs.size+1)) { s with heap:=h' }) :
  AO (A3 prog w) A (call (.type "enumerate") [.ref l] (kw1 n u)) Q E s:=by
 refine Nk F.called_enumerate δ ?_ ?_ ?_ F.entry_enumerate_new (Vr l items n u hn) ⟨hL,?_⟩
 ·kernel_rfl
 ·kernel_rfl
 ·intro o;unfold argsOk;rw[signature?_of (n := "__tini__".toList) (o := "tcejbo".toList) (by kernel_rfl) F.owner_object]
  kernel_rfl
 have hz:(s.heap.push { cls:=DO "list_iterator",data:=EG #[BY l,Do 0 0] }).objs.size=s.heap.objs.size+1:=DU ..;have b1:((s.heap.push { cls:=DO "list_iterator",data:=EG #[BY l,Do 0 0] }).push { cls:=DO "enumerate",data:=EG #[Ap.none,EQ false,BY s.heap.objs.size,ET n,Ap.none,Ap.none] }).get? (s.heap.objs.size+1)=GE { cls:=DO "enumerate",data:=EG #[Ap.none,EQ false,BY s.heap.objs.size,ET n,Ap.none,Ap.none] }:=by
  rw[<- hz];exact A7 _ rfl
 exact⟨⟨_,b1,rfl⟩,h _ b1 ⟨_,AH _ (A7 _ Z),rfl,rfl⟩ λb o z=>AH _ (AH _ z)⟩
theorem ZP{M:Model}{env:Env}{ku:List EH}
   (h:AO M A (spliced (CY pos (AM (e::es) env))) (λvs s1=>AO M A (evalAll ((EI pos (C6 ku env)).map (·.2)))
   (λws s2=>AO M A (call (.type T) vs (((EI pos (C6 ku env)).filterMap (·.1)).zip ws)) Q E s2) E s1) E s)
  (he:CY pos (AM (e::es) env)=(false,eval e env)::CY pos (AM es env))(hp:(CY pos (AM (e::es) env)).any (·.1)=false)
  (ha:(EI pos (C6 ku env)).all (·.1.isSome)=true)(hk:(EI pos (C6 ku env)).any (·.1.isNone)=false) :
  AO M A (callWith pos (.type T) [] (CY pos (AM (e::es) env)) (EI pos (C6 ku env))) Q E s:=by
 unfold callWith;have h1:AO M A (evalArgs (.type T) true (CY pos (AM (e::es) env)) (EI pos (C6 ku env))) (λa s2=>AO M A (call (.type T) a.pos a.kw) Q E s2) E s:=by
  rw[he] at h |-;exact evalArgs_kwB ha h
 refine An (C1 (Da h1 (λa s1 h2=>An (GG ?_)) λ_ _ x=>x));simp only[hp,hk,Bool.or_false];exact An (AF (An (Da h2 (λr s2 hr=>An (C1 (wpAny_point (AF hr)))) λ_ _ x=>x)))
theorem Qn{e:ID}{c:Int}{P:Nat->Ap->Prop}(D:Draws prog w A it fp m P ZZ)(he:HK s.heap e it c ol)(hz:ZZ i s.heap)(hi:i<m)(ne:e≠it)(nf:e∉fp)
  (q:∀x h' tk,P i x->IsEnumOut h' e it (c+1) x s.heap.objs.size->ZZ (i+1) h'->h'.get? s.heap.objs.size=GE { cls:=.type "tuple",data:=.seq #[.int c tk,x] }->h'.objs.size=s.heap.objs.size+1->(∀b o,b≠e->b≠it->s.heap.get? b=GE o->h'.get? b=GE o)->Q (.ref s.heap.objs.size) { s with heap:=h',toks:=tk+1 }) :
  AO (A3 prog w) A (AX.«enumerate.__next__» ⟨[.ref e],[]⟩) (λfin s'=>∃v,fin=.done (.ret v)/\Q v s') E s:=by
 obtain⟨hp,g,d,tk0,os⟩:=s;show AO _ _ (field (.ref e) 2 >>= λa=>_) _ _ _;refine An (D9 he Z (x:=.ref it) Z (An (D.item i _ _ _ hi hz λx ha tk px za sa=>?_)));have sa:BO it hp ha:=sa;have ea:HK ha e it c ol:=(sa.2 e ne).trans he;show AO _ _ (field (.ref e) 3 >>= λa=>_) _ _ ⟨ha,g,d,tk,os⟩;refine An (D9 ea Z (x:=ET c) Z ?_);show AO _ _ (field (.ref e) 4 >>= λa=>_) _ _ ⟨ha,g,d,tk,os⟩;refine An (D9 ea Z (x:=.none) Z ?_);show AO _ _ (mkInt c >>= λa=>_) _ _ ⟨ha,g,d,tk,os⟩;refine An (wpAny_mkInt ?_);show AO _ _ (setField (.ref e) 3 (ET (c+1)) >>= λa=>_) _ _ ⟨ha,g,d,tk+1,os⟩;refine An (CH ea ζ λhb eb sb=>?_);have sb:BO e ha hb:=sb;have eb:HK hb e it (c+1) ol:=eb;show AO _ _ (setField (.ref e) 4 .none >>= λa=>_) _ _ ⟨hb,g,d,tk+1,os⟩;refine An (CH eb ζ λhc ec sc=>?_);have sc:BO e hb hc:=sc;have ec:HK hc e it (c+1) ol:=ec;show AO _ _ (newTuple [.int c tk,x] >>= λa=>_) _ _ ⟨hc,g,d,tk+1,os⟩;refine An (wpAny_newTuple ?_);have z3:hc.objs.size=hp.objs.size:=(sc.1.trans sb.1).trans sa.1;have lt:e<hp.objs.size:=Bz he;obtain⟨hd,LH⟩:∃hd,hd=hc.push { cls:=.type "tuple",data:=.seq #[.int c tk,x] }:=⟨_,rfl⟩;have ed:HK hd e it (c+1) ol:=by rw[LH];exact AH _ ec
 have td:hd.get? hp.objs.size=GE { cls:=.type "tuple",data:=.seq #[.int c tk,x] }:=by rw[LH,<- z3];exact A7 _ rfl
 have zd:hd.objs.size=hp.objs.size+1:=by rw[LH,DU,z3]
 have up:∀b o,b≠e->ha.get? b=GE o->hd.get? b=GE o:=λb o n y=>by rw[LH];exact AH _ (sc.extBut b o n (sb.extBut b o n y))
 have Zd:ZZ (i+1) hd:=D.frame _ _ _ za λb mb o y=>up b o (λz=>nf (z ▸ mb)) y;show AO _ _ (AX.SmallTypes.ownedTupleIsFree (.ref e) >>= λa=>_) _ _ ⟨hc.push _,g,d,tk+1,os⟩;rw[z3,<- LH];refine An ?_;unfold AX.SmallTypes.ownedTupleIsFree;refine An (D9 ed Z (x:=.none) Z (AF ?_));simp only[if_true];refine An (EN (An (D9 ed Z (x:=ol) Z (An (CH ed ζ λMS e5 s5=>?_)))));have s5:BO e hd MS:=s5;have e5:HK MS e it (c+1) x:=e5;show AO _ _ (AX.SmallTypes.ownedTupleHandOut (.ref e) (.ref hp.objs.size) >>= λa=>_) _ _ ⟨MS,g,d,tk+1,os⟩;refine An ?_;unfold AX.SmallTypes.ownedTupleHandOut;refine An (CH e5 ζ λh6 e6 s6=>?_);have s6:BO e MS h6:=s6;have e6:IsEnumOut h6 e it (c+1) x hp.objs.size:=e6;refine CH e6 ζ λh7 e7 s7=>?_;have s7:BO e h6 h7:=s7;have e7:IsEnumOut h7 e it (c+1) x hp.objs.size:=e7;have NH:∀b o,b≠e->hd.get? b=GE o->h7.get? b=GE o:=λb o n y=>s7.extBut b o n (s6.extBut b o n (s5.extBut b o n y));refine An (wpAny_letGo (AF ⟨_,rfl,q x h7 tk px e7 (D.frame _ _ _ Zd λb mb o y=>NH b o (λz=>nf (z ▸ mb)) y) (NH _ _ (IZ lt) td) (by rw[s7.1,s6.1,s5.1,zd]) λb o n1 n2 y=>NH b o n1 (up b o n1 (sa.extBut b o n2 y))⟩))
theorem RK{e:ID}{c:Int}{P:Nat->Ap->Prop}{Q:Option Ap->AD->Prop}(D:Draws prog w A.in1 it fp m P ZZ)(he:HK s.heap e it c ol)(hz:ZZ i s.heap)(hi:i<m)(ne:e≠it)(nf:e∉fp)
  (q:∀x h' tk,P i x->IsEnumOut h' e it (c+1) x s.heap.objs.size->ZZ (i+1) h'->h'.get? s.heap.objs.size=GE { cls:=.type "tuple",data:=.seq #[.int c tk,x] }->h'.objs.size=s.heap.objs.size+1->(∀b o,b≠e->b≠it->s.heap.get? b=GE o->h'.get? b=GE o)->Q (GE (.ref s.heap.objs.size)) { s with heap:=h',toks:=tk+1 }) :
  AO (A3 prog w) A (Go (.ref e)) Q E s:=by
 have hT:s.TypeIs (.ref e) "enumerate" := ⟨_,he,rfl⟩;unfold Go;exact An (GI (CU (name:=GM "__next__") hT F.slot_enumerate_next (Ct F.slot_enumerate_next hT F.entry_enumerate_next (Qn D he hz hi ne nf λx h' tk a b c d k r=>AF (q x h' tk a b c d k r)) (F.args_enumerate_next_1 _))))
def Izl(K:AE)(k:Int)(a:ID):It:=
 ⟨λi H=>∃xs x,SqL K H a xs/\xs[i]?=GE x,
  λi H v H'=>∃p x,v=.ref p/\H p=GT/\H'=upd H p (.tup [.int (k+i),x])/\∀xs,SqL K H a xs->xs[i]?=GE x,
  λi H=>∃xs,SqL K H a xs/\xs.length=i⟩
def Izt(K:AE)(k:Int)(a:ID):It:=
 ⟨λi H=>∃xs x,SqT K H a xs/\xs[i]?=GE x,
  λi H v H'=>∃p x,v=.ref p/\H p=GT/\H'=upd H p (.tup [.int (k+i),x])/\∀xs,SqT K H a xs->xs[i]?=GE x,
  λi H=>∃xs,SqT K H a xs/\xs.length=i⟩
theorem Od{k:Int}{e l:ID}(a7:e≠it) :
  Turn P w K (.Tuple es kk dq) (Izl K k l) [e,it] e (λi h=>(∃cb,HK h e it (k+i) cb)/\h.IsListIter it l i) where
 mem:=by simp
 obj:=λi h st b hb=>by
  obtain⟨⟨cb,he⟩,⟨o1,e1,c1,d1⟩⟩:=st;simp only[AL,BC,or_false] at hb;rcases hb with rfl|rfl
  ·exact⟨_,he,λv q=>by cases q⟩
  exact⟨o1,e1,λv q=>by rw[d1] at q;cases q⟩
 keep:=λi h h' st k=>by
  obtain⟨⟨cb,he⟩,h1⟩:=st;exact⟨⟨cb,k e ζ _ he⟩,h1.at λo q=>k it ζ o q⟩
 item:=by
  intro X hP hw hK hc i aa s σ H E I hf st hg;subst hP hw hK;obtain⟨xs,x,q1,hx⟩:=hg;obtain⟨aE,fh,p1,eA⟩:=I.list q1;obtain⟨u1,kK,mS⟩:=fh.get hx;obtain⟨⟨cb,he⟩,h1⟩:=st;have hL:=p1.isList;have dP:e≠l:=λz=>by
   obtain⟨ol,g1,g2,_⟩:=hL;rw[<- z,he] at g1;cases g1;injection g2 with g2;exact absurd g2 δ
  have uj:l≠it:=λz=>by
   obtain⟨ol,g1,g2,_⟩:=hL;obtain⟨oi,g3,g4,_⟩:=h1;rw[z,g3] at g1;cases g1;rw[g4] at g2;injection g2 with g2;exact absurd g2 δ
  have i4:i<aE.toArray.size:=by
   obtain⟨z,_⟩:=AB.mp kK;simpa using z
  refine RK (Draws.list (A:=X.A.in1) (I.ok.hd hc) it l uj aE.toArray) he ⟨h1,hL⟩ i4 a7 (by simp[a7,dP]) λx1 h' tk hP a1 a2 a3 a4 hk=>?_;have ex:x1=u1:=by
   have F':aE[i]?=GE x1:=by simpa using hP
   rw[kK] at F';exact(A0 F').symm
  subst ex;obtain⟨a2,_⟩:=a2;have new:cR X.prog X.w (upd H s.heap.objs.size (.tup [.int (k+i),x])) h' s.heap.objs.size (.tup [.int (k+i),x]):=⟨by show 2<=AV;decide,[.int (k+i) tk,x1],.cons ⟨_,rfl⟩ (.cons mS .nil),_,a3,rfl,_,rfl⟩;have I1:Inv X aa σ (upd H s.heap.objs.size (.tup [.int (k+i),x])) { s with heap:=h',toks:=tk+1 }:=I.Q0 (ch:=[e,it]) hf
   (λb o hb q=>hk b o (λz=>hb (by simp[z])) (λz=>hb (by simp[z])) q) (AW _) new
  have hsz:∀b,b∈[e,it]->b≠s.heap.objs.size:=λb hb=>by
   have lt:∃o,s.heap.get? b=GE o:=by
    simp only[AL,BC,or_false] at hb;rcases hb with rfl|rfl
    ·exact⟨_,he⟩
    obtain⟨o,q,_⟩:=h1;exact⟨o,q⟩
   obtain⟨o,q⟩:=lt;exact BS (Bz q)
  refine⟨_,rfl,G1 (s:={ s with heap:=h',toks:=tk+1 }) a1 λmd z2 sb=>?_⟩;have fz:=hf e ζ;have I2:Inv X aa σ (upd H s.heap.objs.size (.tup [.int (k+i),x])) { s with heap:=md,toks:=tk+1 }:=Inv.turned (s:={ s with heap:=h',toks:=tk+1 }) (it:=e) I1 (λb o hb q=>(sb.2 b hb).trans q) (by rw[aL (hsz e ζ)];exact fz.1) fz.2.1 fz.2.2.2.1 fz.2.2.2.2.1 fz.2.2.2.2.2;have e3:k+(i:Int)+1=k+((i+1:Nat):Int):=ω;refine⟨.ref s.heap.objs.size,_,I2,rfl,⟨_,x,rfl,I.fresh,rfl,λND q=>by rw[I.tU q q1];exact hx⟩,
   ⟨⟨_,e3 ▸ z2⟩,a2.extBut sb.extBut a7.symm⟩,λb hb=>by rw[aL (hsz b hb)];exact(hf b hb).1⟩
 done:=by
  intro X hP hw hK hc i aa s σ H E I hf st hg;subst hP hw hK;obtain⟨xs,q1,hx⟩:=hg;obtain⟨aE,fh,p1,eA⟩:=I.list q1;obtain⟨⟨cb,he⟩,h1⟩:=st;have hL:=p1.isList;have uj:l≠it:=λz=>by
   obtain⟨ol,g1,g2,_⟩:=hL;obtain⟨oi,g3,g4,_⟩:=h1;rw[z,g3] at g1;cases g1;rw[g4] at g2;injection g2 with g2;exact absurd g2 δ
  have jv:=fh.length;have P8:aE.toArray.size=i:=by rw[AY];omega
  exact wpAny_pyNext_enum_endD (Draws.list (A:=X.A.in1) (I.ok.hd hc) it l uj aE.toArray) he (by rw[P8];exact⟨h1,hL⟩) λh' hk=>⟨rfl,I.Q5 (t':=s.toks) (ch:=[e,it]) hf (λb o hb q=>hk b o (λz=>hb (by simp[z])) q)⟩
 self:=λ_ _ _ _ _ st h=>by
  obtain⟨⟨cb,he⟩,_⟩:=st;exact Fa he h
theorem Oe{k:Int}{e l:ID}(a7:e≠it) :
  Turn P w K (.Tuple es kk dq) (Izt K k l) [e,it] e (λi h=>(∃cb,HK h e it (k+i) cb)/\h.IsTupleIter it l i) where
 mem:=by simp
 obj:=λi h st b hb=>by
  obtain⟨⟨cb,he⟩,⟨o1,e1,c1,d1⟩⟩:=st;simp only[AL,BC,or_false] at hb;rcases hb with rfl|rfl
  ·exact⟨_,he,λv q=>by cases q⟩
  exact⟨o1,e1,λv q=>by rw[d1] at q;cases q⟩
 keep:=λi h h' st k=>by
  obtain⟨⟨cb,he⟩,h1⟩:=st;exact⟨⟨cb,k e ζ _ he⟩,h1.at λo q=>k it ζ o q⟩
 item:=by
  intro X hP hw hK hc i aa s σ H E I hf st hg;subst hP hw hK;obtain⟨xs,x,q1,hx⟩:=hg;obtain⟨aE,fh,p1,eA⟩:=I.tuple q1;obtain⟨u1,kK,mS⟩:=fh.get hx;obtain⟨⟨cb,he⟩,h1⟩:=st;have dP:e≠l:=λz=>by
   obtain⟨ol,g1,g2,_⟩:=p1;rw[<- z,he] at g1;cases g1;injection g2 with g2;exact absurd g2 δ
  have uj:l≠it:=λz=>by
   obtain⟨ol,g1,g2,_⟩:=p1;obtain⟨oi,g3,g4,_⟩:=h1;rw[z,g3] at g1;cases g1;rw[g4] at g2;injection g2 with g2;exact absurd g2 δ
  have i4:i<aE.toArray.size:=by
   obtain⟨z,_⟩:=AB.mp kK;simpa using z
  refine RK (Bl (A:=X.A.in1) (I.ok.hd hc) it l uj aE.toArray) he ⟨h1,p1⟩ i4 a7 (by simp[a7,dP]) λx1 h' tk hP a1 a2 a3 a4 hk=>?_;have ex:x1=u1:=by
   have F':aE[i]?=GE x1:=by simpa using hP
   rw[kK] at F';exact(A0 F').symm
  subst ex;obtain⟨a2,_⟩:=a2;have new:cR X.prog X.w (upd H s.heap.objs.size (.tup [.int (k+i),x])) h' s.heap.objs.size (.tup [.int (k+i),x]):=⟨by show 2<=AV;decide,[.int (k+i) tk,x1],.cons ⟨_,rfl⟩ (.cons mS .nil),_,a3,rfl,_,rfl⟩;have I1:Inv X aa σ (upd H s.heap.objs.size (.tup [.int (k+i),x])) { s with heap:=h',toks:=tk+1 }:=I.Q0 (ch:=[e,it]) hf
   (λb o hb q=>hk b o (λz=>hb (by simp[z])) (λz=>hb (by simp[z])) q) (AW _) new
  have hsz:∀b,b∈[e,it]->b≠s.heap.objs.size:=λb hb=>by
   have lt:∃o,s.heap.get? b=GE o:=by
    simp only[AL,BC,or_false] at hb;rcases hb with rfl|rfl
    ·exact⟨_,he⟩
    obtain⟨o,q,_⟩:=h1;exact⟨o,q⟩
   obtain⟨o,q⟩:=lt;exact BS (Bz q)
  refine⟨_,rfl,G1 (s:={ s with heap:=h',toks:=tk+1 }) a1 λmd z2 sb=>?_⟩;have fz:=hf e ζ;have I2:Inv X aa σ (upd H s.heap.objs.size (.tup [.int (k+i),x])) { s with heap:=md,toks:=tk+1 }:=Inv.turned (s:={ s with heap:=h',toks:=tk+1 }) (it:=e) I1 (λb o hb q=>(sb.2 b hb).trans q) (by rw[aL (hsz e ζ)];exact fz.1) fz.2.1 fz.2.2.2.1 fz.2.2.2.2.1 fz.2.2.2.2.2;have e3:k+(i:Int)+1=k+((i+1:Nat):Int):=ω;refine⟨.ref s.heap.objs.size,_,I2,rfl,⟨_,x,rfl,I.fresh,rfl,λND q=>by rw[I.GR q q1];exact hx⟩,
   ⟨⟨_,e3 ▸ z2⟩,a2.extBut sb.extBut a7.symm⟩,λb hb=>by rw[aL (hsz b hb)];exact(hf b hb).1⟩
 done:=by
  intro X hP hw hK hc i aa s σ H E I hf st hg;subst hP hw hK;obtain⟨xs,q1,hx⟩:=hg;obtain⟨aE,fh,p1,eA⟩:=I.tuple q1;obtain⟨⟨cb,he⟩,h1⟩:=st;have uj:l≠it:=λz=>by
   obtain⟨ol,g1,g2,_⟩:=p1;obtain⟨oi,g3,g4,_⟩:=h1;rw[z,g3] at g1;cases g1;rw[g4] at g2;injection g2 with g2;exact absurd g2 δ
  have jv:=fh.length;have P8:aE.toArray.size=i:=by rw[AY];omega
  exact wpAny_pyNext_enum_endD (Bl (A:=X.A.in1) (I.ok.hd hc) it l uj aE.toArray) he (by rw[P8];exact⟨h1,p1⟩) λh' hk=>⟨rfl,I.Q5 (t':=s.toks) (ch:=[e,it]) hf (λb o hb q=>hk b o (λz=>hb (by simp[z])) q)⟩
 self:=λ_ _ _ _ _ st h=>by
  obtain⟨⟨cb,he⟩,_⟩:=st;exact Fa he h
theorem Vq(t:ID)(items:Array Ap)(n:Int)(u:Tok)(hn:AX.SmallTypes.fitsIndex n=true):Meets (AX.«enumerate.__new__» { pos:=[DO "enumerate",BY t],kw:=kw1 n u }) λ_ R s=>
  s.heap.IsTuple t items/\R (.ok (.ret (.ref (s.heap.objs.size+1)))) { s with heap:=(s.heap.push { cls:=.type "tuple_iterator",data:=.fields #[.ref t,.int 0 0] }).push { cls:=.type "enumerate",data:=.fields #[.none,.bool false,.ref s.heap.objs.size,ET n,.none,.none] } }:=by
 refine Meets.of_wp λprog w A R s h=>?_;obtain⟨ht,hR⟩:=h;unfold AX.«enumerate.__new__» AX.SmallTypes.newClass kw1;refine An (An (AF (B9 Z (An (B7 sub_enumerate (B9 Z (AF (wpAny_ite_true Z (An ?_)))))))));unfold AX.SmallTypes.calledThroughType;refine An (wpAny_stack_any λst=>AF ?_);have fin:AO (A3 prog w) A.in1 (do
   let it <- pyIter (BY t)
   let r <- AX.SmallTypes.newRecord (DO "enumerate") (AX.SmallTypes.ownedTupleFields++[it,ET n,Ap.none,Ap.none])
   ret r) (λfin s'=>∃v,fin=Fin.done (Flow.ret v)/\R (Except.ok (Flow.ret v)) s') (λe s'=>R (Except.error e) s') s:=by
  refine An (G2 ht ?_);show AO _ _ (newObj (.type "enumerate") (.fields #[.none,.bool false,.ref s.heap.objs.size,ET n,.none,.none]) >>= λr=>ret r) _ _ _;refine An (BU ?_);refine AF ⟨_,rfl,?_⟩;have e:(s.heap.push { cls:=DO "tuple_iterator",data:=EG #[BY t,Do 0 0] }).objs.size=s.heap.objs.size+1:=DU ..;rw[e];exact hR
 have hf:decide ((!Builtin.SmallTypes.fitsIndex n)=true)=false:=by rw[hn];rfl
 dsimp only;split
 ·split
  ·exact An (AF (An (B7 (a:=Do n u) Z (An (B7 (a:=GE n) Z (B9 hf fin))))))
  exact An (AF (An (B7 (a:=Do n u) Z (An (B7 (a:=GE n) Z (B9 hf fin))))))
 split
 ·exact An (AF (An (B7 (a:=Do n u) Z (An (B7 (a:=GE n) Z (B9 hf fin))))))
 exact An (AF (An (B7 (a:=Do n u) Z (An (B7 (a:=GE n) Z (B9 hf fin))))))
theorem Z0{l:ID}{n:Int}{u:Tok}(hn:AX.SmallTypes.fitsIndex n=true)(hL:s.heap.IsTuple l items)
  (h:∀h',HK h' (s.heap.objs.size+1) s.heap.objs.size n .none->h'.IsTupleIter s.heap.objs.size l 0->(∀b o,s.heap.get? b=GE o->h'.get? b=GE o)->Q (.ref (s.heap.objs.size+1)) { s with heap:=h' }) :
  AO (A3 prog w) A (call (.type "enumerate") [.ref l] (kw1 n u)) Q E s:=by
 refine Nk F.called_enumerate δ ?_ ?_ ?_ F.entry_enumerate_new (Vq l items n u hn) ⟨hL,?_⟩
 ·kernel_rfl
 ·kernel_rfl
 ·intro o;unfold argsOk;rw[signature?_of (n := "__tini__".toList) (o := "tcejbo".toList) (by kernel_rfl) F.owner_object]
  kernel_rfl
 have hz:(s.heap.push { cls:=DO "tuple_iterator",data:=EG #[BY l,Do 0 0] }).objs.size=s.heap.objs.size+1:=DU ..;have b1:((s.heap.push { cls:=DO "tuple_iterator",data:=EG #[BY l,Do 0 0] }).push { cls:=DO "enumerate",data:=EG #[Ap.none,EQ false,BY s.heap.objs.size,ET n,Ap.none,Ap.none] }).get? (s.heap.objs.size+1)=GE { cls:=DO "enumerate",data:=EG #[Ap.none,EQ false,BY s.heap.objs.size,ET n,Ap.none,Ap.none] }:=by
  rw[<- hz];exact A7 _ rfl
 exact⟨⟨_,b1,rfl⟩,h _ b1 ⟨_,AH _ (A7 _ Z),rfl,rfl⟩ λb o z=>AH _ (AH _ z)⟩
def ezq(K:AE)(ob:Option HO)(k:Int)(a:ID)(H:Hp)(R:It->Hp->Prop):Prop:=match ob with
 | some (.lst _)=>R (Izl K k a) H
 | some (.tup _)=>R (Izt K k a) H
 | _=>False
def ezK(K:AE)(vs zs:List V)(H:Hp)(R:It->Hp->Prop):Prop:=match vs,zs with
 | [.ref a],[.int n]=>-(2^63)<=n/\n<2^63/\ezq K (H a) n a H R
 | _,_=>False
def Qa(K:AE)(ta tk:TA):TI:=λσ H R=>ta σ H λvs H1=>tk σ H1 λzs H2=>ezK K vs zs H2 R
theorem Vj(K:AE)(ta tk:TA)(σ:St)(H:Hp)(R:It->Hp->Prop):Qa K ta tk σ H R=ta σ H λvs H1=>tk σ H1 λzs H2=>ezK K vs zs H2 R:=rfl
theorem acw(K:AE)(a:ID)(n:Int)(H:Hp)(R:It->Hp->Prop):ezK K [.ref a] [.int n] H R=(-(2^63)<=n/\n<2^63/\ezq K (H a) n a H R):=rfl
theorem acv(K:AE)(xs:List V)(k:Int)(a:ID)(H:Hp)(R:It->Hp->Prop):ezq K (GE (.lst xs)) k a H R=R (Izl K k a) H:=rfl
theorem acu(K:AE)(xs:List V)(k:Int)(a:ID)(H:Hp)(R:It->Hp->Prop):ezq K (GE (.tup xs)) k a H R=R (Izt K k a) H:=rfl
def rdZ:=Au @Vj (Au @acw (Au @acv @acu))
theorem XM{a:Expr}{tk:TA}{p kp:Pos}(hg:Gl X "enumerate")(hm:X.mg "enumerate" = GT)(ha:QA X [a] ta)(hk:PK X [⟨GE "start",e,kp⟩] tk)(hs:AM [a] X.env=[(false,eval a X.env)]:=by rfl) :
  QI X (.Tuple es kk dq) (.Call (.Name "enumerate" p) [a] [⟨GE "start",e,kp⟩] pos) (Qa X.K ta tk):=⟨by
 intro aa s σ H R I h;refine EX (mF I hg hm PyProof.Rows.Boot.«enumerate» (ZP (thA (ha.h pos aa s σ H _ I h) λus s1 vs H1 I1 r1 q1=>thn (hk pos aa s1 σ H1 _ I1 q1) λws s2 ⟨zs,H2,I2,r2,q2⟩=>?_) (by rw[hs];rfl) (by rw[hs];rfl) Z Z));show AO _ _ (call (.type "enumerate") us ((["start"]:List Str).zip ws)) _ _ _;replace q2:ezK X.K vs zs H2 R:=q2;unfold ezK at q2;split at q2
 ·rename_i l1 n zz;obtain⟨h0,hn,q2⟩:=q2;cases r1 with
  | cons r rr=>
   cases rr;cases r;cases r2 with
   | cons r rr=>
    cases rr;obtain⟨u,rfl⟩:=r;unfold ezq at q2;split at q2
    ·rename_i xs e;obtain⟨aE,fh,p1,eA⟩:=I2.list (SqL.of e);have y8:AX.SmallTypes.fitsIndex n=true:=by
      unfold AX.SmallTypes.fitsIndex;simp only[BM,decide_eq_true_eq];omega
     refine Z1 (u:=u) y8 p1.isList λh' b1 b2 hk=>?_;refine Fa (s:={ s2 with heap:=h' }) b1 ?_;have I3:Inv X aa σ H2 { s2 with heap:=h' }:=I2.kept (t':=s2.toks) hk;have en:n=n+((0:Nat):Int):=ω;refine⟨_,_,_,_,H2,rfl,I3,Od (IZ (CF _)),⟨⟨_,en ▸ b1⟩,b2⟩,λb hb=>?_,q2⟩;have bS:s2.heap.objs.size<=b:=by
      simp only[AL,BC,or_false] at hb;rcases hb with rfl|rfl <;> simp
     exact I2.MN bS (I2.hok.fresh bS)
    ·rename_i xs e;obtain⟨aE,fh,p1,eA⟩:=I2.tuple (SqT.of e);have y8:AX.SmallTypes.fitsIndex n=true:=by
      unfold AX.SmallTypes.fitsIndex;simp only[BM,decide_eq_true_eq];omega
     refine Z0 (u:=u) y8 p1 λh' b1 b2 hk=>?_;refine Fa (s:={ s2 with heap:=h' }) b1 ?_;have I3:Inv X aa σ H2 { s2 with heap:=h' }:=I2.kept (t':=s2.toks) hk;have en:n=n+((0:Nat):Int):=ω;refine⟨_,_,_,_,H2,rfl,I3,Oe (IZ (CF _)),⟨⟨_,en ▸ b1⟩,b2⟩,λb hb=>?_,q2⟩;have bS:s2.heap.objs.size<=b:=by
      simp only[AL,BC,or_false] at hb;rcases hb with rfl|rfl <;> simp
     exact I2.MN bS (I2.hok.fresh bS)
    exact q2.elim
 exact q2.elim⟩
def prD(s:Int×Int):A9:=.tuple [.int s.1,.int s.2]
def Bad(cs:List RowC)(n:Int)(j:Nat):Prop:=Cm cs n j/\∃c,cs[j]?=GE c/\fJ c=false/\dG c (j:Int) n=GT
theorem Rv{cs:List RowC}{n:Int}(hr:iC cs):∀(k j:Nat),j<cs.length->cs.length<=j+k->∀(y:Nat) c,(y:Int)∈(runC cs n k j).2->cs[y]?=GE c->fJ c=false->dG c (y:Int) n=GT->(runC cs n k j).1=GT/\(runC cs n k j).2.getLast?=GE (y:Int)
 | 0,j,h1,h2=>by omega
 | k+1,j,h1,h2=>by
  intro y c my hy hp hs;have hc:cs[((j:Nat):Int).toNat]?=GE cs[j]:=by rw[B3];exact AC h1
  have zw:cs[j]?=GE cs[j]:=AC h1;cases hq:fJ cs[j] with
  | true=>
   obtain⟨l,e⟩:∃l,cs[j]=.pik l:=by
    cases e:cs[j] with
    | pik l=>exact⟨l,rfl⟩
    | _=>rw[e] at hq;cases hq
   rw[e] at hc zw;rw[lK hc] at my;have:y=j:=by have:=AA.mp my;omega
   subst this;rw[zw] at hy;cases hy;cases hp
  | false=>
   cases ht:dG cs[j] (j:Int) n with
   | none=>
    rw[xY hc hq ht] at my |-;have:y=j:=by have:=AA.mp my;omega
    rw[this];exact⟨rfl,rfl⟩
   | some t=>
    obtain⟨b1,b2⟩:=pP hr zw ht;obtain⟨u,rfl⟩:=ES (show 0<=t by omega);rw[uH hc hq ht] at my |-;rcases AL.mp my with e|m
    ·have:y=j:=by omega
     subst this;rw[zw] at hy;cases hy;rw[ht] at hs;cases hs
    obtain⟨q1,q2⟩:=Rv hr k u ω ω y c m hy hp hs;refine⟨q1,?_⟩;show((j:Int)::_).getLast?=_;rw[List.getLast?_cons,q2];rfl
theorem Bad.run{n:Int}(hr:iC cs)(h:Bad cs n j):(runOf cs n).1=GT/\(runOf cs n).2.getLast?=GE (j:Int):=by
 obtain⟨m,c,hc,hp,hs⟩:=h;exact Rv hr cs.length 0 hr.1 ω j c m hc hp hs
def Jd(cs:List RowC)(low high:Int):Option (Int×Int)->Prop
 | none=>∀n (j:Nat),low<=n->n<=high->¬Bad cs n j
 | some s=>(∃j:Nat,s.1=(j:Int)/\low<=s.2/\s.2<=high/\Bad cs s.2 j)/\∀n (j:Nat),low<=n->n<=high->Bad cs n j->LeP s ((j:Int),n)
theorem Jd.one{cs:List RowC}{low high:Int}{o u:Option (Int×Int)}(h:Jd cs low high o)(k:Jd cs low high u):o=u:=by
 cases o with
 | none=>
  cases u with
  | none=>rfl
  | some t=>
   obtain⟨⟨j,_,h1,h2,b⟩,_⟩:=k;exact absurd b (h _ j h1 h2)
 | some s=>
  obtain⟨⟨j,e,h1,h2,b⟩,l⟩:=h;cases u with
  | none=>exact absurd b (k _ j h1 h2)
  | some t=>
   obtain⟨⟨i,e',wm,j5,b'⟩,l'⟩:=k;have a1:=l _ i wm j5 b';have a2:=l' _ j h1 h2 b;rw[<- e'] at a1;rw[<- e] at a2;unfold LeP at a1 a2;have:s=t:=Prod.ext ω ω;rw[this]
theorem Y4{c:RowC}{ss:List (Int×Int)}{o m:Int}(g:Gap ss)(h:lbC c ss=GE m):fJ c=false/\cov ss m/\dG c o m=GT/\∀n,cov ss n->dG c o n=GT->m<=n:=by
 have hp:fJ c=false:=by cases c <;> first|rfl|cases h
 unfold lbC at h;cases he:Bk c with
 | none=>rw[he] at h;cases h
 | some e=>
  rw[he] at h;obtain⟨q1,q2,q3⟩:=Mt g h;refine⟨hp,q1,?_,λn cn sn=>q3 n cn λw=>?_⟩
  ·cases hs:dG c o m with
   | none=>rfl
   | some t=>exact absurd ((qm (o:=o) hp m).mpr (by rw[hs];exact λz=>(by cases z)) e he) q2
  exact absurd sn ((qm (o:=o) hp n).mp λe' q'=>by rw[he] at q';cases q';exact w)
theorem CI.bad{low:Int}{X:Nat->List (Int×Int)}(h:CI cs low high X cs.length){c:RowC}(hc:cs[j]?=GE c)(e:lbC c (X j)=GT){n:Int}(h1:low<=n)(h2:n<=high):¬Bad cs n j:=by
 rintro⟨m,c',cp,hp,hs⟩;rw[hc] at cp;cases cp;have lj:=(AB.mp hc).1;exact(Eo (o:=(j:Int)) hp λs ms=>(h.dn j lj).ne s ms).mp e n ((h.dc j n lj).mpr ⟨h1,h2,m⟩) hs
theorem CI.agh{low:Int}{X:Nat->List (Int×Int)}(h:CI cs low high X cs.length)(e:∀(j:Nat) c,cs[j]?=GE c->lbC c (X j)=GT):Jd cs low high GT:=λn j h1 h2 b=>by
 obtain⟨_,c,hc,_⟩:=id b;exact h.bad hc (e j c hc) h1 h2 b
theorem CI.agg{low:Int}{X:Nat->List (Int×Int)}(h:CI cs low high X cs.length){c:RowC}{n:Int}(hc:cs[j]?=GE c)(e:lbC c (X j)=GE n)(he:∀i c,i<j->cs[i]?=GE c->lbC c (X i)=GT):Jd cs low high (GE ((j:Int),n)):=by
 have lj:=(AB.mp hc).1;obtain⟨hp,cn,sn,le⟩:=Y4 (o:=(j:Int)) (h.dn j lj) e;obtain⟨h1,h2,m⟩:=(h.dc j n lj).mp cn;refine⟨⟨j,rfl,h1,h2,m,c,hc,hp,sn⟩,λn' j' wm j5 b=>?_⟩;obtain⟨m',c',cp,pS,Y'⟩:=id b;rcases Nat.lt_trichotomy j j' with z|z|z
 ·exact .inl (by show(j:Int)<(j':Int);omega)
 ·subst z;rw[hc] at cp;cases cp;exact .inr ⟨rfl,le n' ((h.dc j n' lj).mpr ⟨wm,j5,m'⟩) Y'⟩
 exact absurd b (h.bad cp (he j' c' z cp) wm j5)
def af7:Option (Int×Int)->A9
 | none=>.none
 | some s=>prD s
theorem BZ{ss:Sts}(r:dF ss):∀(m a:Nat),a+m<ss.length->∀n:Int,(aO ss a).1<=n->n<=(aO ss (a+m)).2.1->∃k,a<=k/\k<=a+m/\(aO ss k).1<=n/\n<=(aO ss k).2.1
 | 0,a,h,n,h1,h2=>⟨a,AW _,AW _,h1,h2⟩
 | m+1,a,h,n,h1,h2=>by
  by_cases c:n<=(aO ss a).2.1
  ·exact⟨a,AW _,ω,h1,c⟩
  have hx:=r.nx a _ _ (fO ω) (fO (k:=a+1) ω);obtain⟨k,q1,q2,q3⟩:=BZ r m (a+1) ω n ω (by rw[show a+1+m=a+(m+1) by omega];exact h2);exact⟨k,ω,ω,q3⟩
theorem Nx{ss:Sts}(r:dF ss){base l:Int}{j:Nat}(hj:j<ss.length){n:Int}(h1:(aO ss j).1<=n)(h2:n<=(aO ss j).2.1)(hbn:base<=n):∀(left:List Nat)(ac:Nat),j∉left->left.Pairwise (· < ·) ->
  (∀k∈left,k<ss.length/\base<=(aO ss k).1/\ac<2^((aO ss k).1-base).toNat)->(lW ss base l ac left).testBit (n-base).toNat=ac.testBit (n-base).toNat
 | [],ac,_,_,_=>rfl
 | a::left,ac,hn,hp,h=>by
  obtain⟨ha,hb,fm⟩:=h a AJ;obtain⟨b1,b2,_⟩:=S7 r (l:=l) ha hb fm;have pS:=B4.mp hp;have ih:=Nx r (base:=base) (l:=l) hj h1 h2 hbn left (ac+yV ss base l a) (λz=>hn (AG _ z)) pS.2 (λk hk=>by
   obtain⟨g1,g2,_⟩:=h k (AG _ hk);refine⟨g1,g2,Bi b1 (EA δ ?_)⟩;have:=xM r (pS.1 k hk) g1;omega)
  show(lW ss base l (ac+yV ss base l a) left).testBit _=_;rw[ih];have ne:j≠a:=λz=>hn (by rw[z];exact AJ);rcases Nat.lt_or_gt_of_ne ne with c|c
  ·have:=xM r c ha;exact b2 _ ω
  have:=xM r c hj;have:=jW r ha;rw[IH (Bi b1 (EA δ (show((aO ss a).2.1+1-base).toNat<=(n-base).toNat by omega))),IH (Bi fm (EA δ (show((aO ss a).1-base).toNat<=(n-base).toNat by omega)))]
theorem Iw(b:Nat){p:Int}(h:0<=p):bitAt (b:Nat) p=b.testBit p.toNat:=by
 unfold bitAt;rw[Ro];cases b.testBit p.toNat <;> rfl
def acH(ss:Sts):List Int:=ss.map (·.1)++ss.map (λs=>s.2.1+1)
theorem xq{ss:Sts}{k:Nat}(h:k<ss.length):(aO ss k).1∈acH ss:=BN _ (C8.mpr ⟨_,AU (fO h),rfl⟩)
theorem Z2{ss:Sts}{k:Nat}(h:k<ss.length):(aO ss k).2.1+1∈acH ss:=A4 _ (C8.mpr ⟨_,AU (fO h),rfl⟩)
theorem ab9{ss:Sts}(r:dF ss){left:List Nat}(lf:Lf ss left):bZ left<=eN left/\eN left<ss.length/\bT ss left+dN ss left-1=(aO ss (eN left)).2.1:=by
 have h1:=dZ lf.ne;refine⟨fK lf.up _ h1,lf.lt _ h1,?_⟩;rw[mO];unfold bT;omega
theorem zb{ss:Sts}(r:dF ss){g:Int->Int}{left:List Nat}{ah:Int}(lf:Lf ss left){q:Pl}(vl:VL ss left q){n:Int}(h:stC (rowOf ss g left ah q) n):n∈acH ss:=by
 obtain⟨f1,f2,f3⟩:=ab9 r lf;cases q with
 | pick l=>exact h.elim
 | one k _=>
  have hk:=lf.lt k vl.1;rcases h with h|h
  ·rw[h];exact xq hk
  rw[h,vl.2];exact Z2 hk
 | wit k _=>
  have hk:=lf.lt k vl;rcases h with h|h
  ·rw[h];exact xq hk
  rw[h];exact Z2 hk
 | low k _ _=>
  have hk:=lf.lt k vl;rw[show n=_ from h];exact xq hk
 | tab=>
  obtain⟨h1,h2,h3⟩:=h;replace h1:bT ss left<=n:=h1;replace h2:n<bT ss left+((mG ss g left).length:Int):=h2;rw[oH r g lf] at h2;obtain⟨k,k1,k2,k3,k4⟩:=BZ r (eN left-bZ left) (bZ left) ω n h1 (by rw[show bZ left+(eN left-bZ left)=eN left by omega];omega);by_cases c:n=(aO ss k).1
  ·rw[c];exact xq ω
  rcases h3 with h3|h3
  ·rw[h3];exact xq (lf.lt _ (kO lf.ne))
  refine absurd ?_ h3;have e1:=vd r g (eN left-bZ left+1) (bZ left) ω k k1 ω n k3 k4;have e2:=vd r g (eN left-bZ left+1) (bZ left) ω k k1 ω (n-1) ω ω;exact e1.trans e2.symm
 | msk l _=>
  obtain⟨h1,h2,h3⟩:=h;replace h1:bT ss left<=n:=h1;replace h2:n<bT ss left+dN ss left:=h2;obtain⟨k,k1,k2,k3,k4⟩:=BZ r (eN left-bZ left) (bZ left) ω n h1 (by rw[show bZ left+(eN left-bZ left)=eN left by omega];omega);by_cases c:n=(aO ss k).1
  ·rw[c];exact xq ω
  rcases h3 with h3|h3
  ·rw[h3];exact xq (lf.lt _ (kO lf.ne))
  refine absurd ?_ h3;have hbk:bT ss left<=(aO ss k).1:=(dU r k1 ω).1;show bitAt (oZ ss left l:Nat) (n-bT ss left)=bitAt (oZ ss left l:Nat) (n-1-bT ss left);rw[Iw _ ω,Iw _ ω];by_cases hm:k∈left
  ·have hb:=(zR r lf l).1 k hm;rw[hb n k3 k4,hb (n-1) ω ω]
  have hb:=λ(m:Int)(m1:(aO ss k).1<=m) (m2:m<=(aO ss k).2.1)=>Nx r (base:=bT ss left) (l:=l) ω m1 m2 ω left 0 hm lf.up (λk' gE=>⟨lf.lt k' gE,(dU r (fK lf.up k' gE) (lf.lt k' gE)).1,GL _⟩);unfold oZ;rw[hb n k3 k4,hb (n-1) ω ω,Nat.zero_testBit,Nat.zero_testBit]
theorem uE{ss:Sts}(r:dF ss){g:Int->Int}:∀(q:Pl)(left:List Nat)(p:Nat),PlV ss q left->∀c∈iM ss g q left p,∀n,stC c n->n∈acH ss
 | .pick l,left,p,h,c,hc,n,hs=>by rw[AA.mp hc] at hs;exact zb r h.1 h.2 hs
 | .tab,left,p,h,c,hc,n,hs=>by rw[AA.mp hc] at hs;exact zb r h.1 h.2 hs
 | .one k q,left,p,h,c,hc,n,hs=>by
  rcases AL.mp hc with rfl|hc
  ·exact zb r h.1.1 h.1.2 hs
  exact uE r q _ _ h.2 c hc n hs
 | .wit k q,left,p,h,c,hc,n,hs=>by
  rcases AL.mp hc with rfl|hc
  ·exact zb r h.1.1 h.1.2 hs
  exact uE r q _ _ h.2 c hc n hs
 | .msk k q,left,p,h,c,hc,n,hs=>by
  rcases AL.mp hc with rfl|hc
  ·exact zb r h.1.1 h.1.2 hs
  exact uE r q _ _ h.2 c hc n hs
 | .low k a b,left,p,h,c,hc,n,hs=>by
  rcases AL.mp hc with rfl|hc
  ·exact zb r h.1.1 h.1.2 hs
  rcases BA.mp hc with hc|hc
  ·exact uE r b _ _ h.2.2 c hc n hs
  exact uE r a _ _ h.2.1 c hc n hs
theorem zq{ss:Sts}(r:dF ss)(h9:ss.length<=60){g:Int->Int}{left:List Nat}{ah:Int}(lf:Lf ss left){q:Pl}(vl:VL ss left q):Dj (rowOf ss g left ah q)/\bdC (rowOf ss g left ah q):=by
 have hf:=lf.lt _ (kO lf.ne);have hb:=r.bd _ _ (fO hf);have bS:=jW r hf;cases q with
 | pick l=>exact⟨trivial,trivial⟩
 | one k _=>exact⟨trivial,trivial⟩
 | wit k _=>exact⟨jW r (lf.lt k vl),trivial⟩
 | low k _ _=>exact⟨trivial,trivial⟩
 | msk l _=>exact⟨trivial,by show -(2^62)<=(aO ss (bZ left)).1;omega,by show(aO ss (bZ left)).1<2^62;omega⟩
 | tab=>
  refine⟨trivial,by show -(2^62)<=(aO ss (bZ left)).1;omega,by show(aO ss (bZ left)).1<2^62;omega,?_⟩;have h1:=oH r g lf;have h2:dN ss left<=200:=vl;show(mG ss g left).length<=1000;omega
theorem uI{ss:Sts}(r:dF ss)(h9:ss.length<=60){g:Int->Int}:∀(q:Pl)(left:List Nat)(p:Nat),PlV ss q left->∀c∈iM ss g q left p,Dj c/\bdC c
 | .pick l,left,p,h,c,hc=>by rw[AA.mp hc];exact zq r h9 h.1 h.2
 | .tab,left,p,h,c,hc=>by rw[AA.mp hc];exact zq r h9 h.1 h.2
 | .one k q,left,p,h,c,hc=>by
  rcases AL.mp hc with rfl|hc
  ·exact zq r h9 h.1.1 h.1.2
  exact uI r h9 q _ _ h.2 c hc
 | .wit k q,left,p,h,c,hc=>by
  rcases AL.mp hc with rfl|hc
  ·exact zq r h9 h.1.1 h.1.2
  exact uI r h9 q _ _ h.2 c hc
 | .msk k q,left,p,h,c,hc=>by
  rcases AL.mp hc with rfl|hc
  ·exact zq r h9 h.1.1 h.1.2
  exact uI r h9 q _ _ h.2 c hc
 | .low k a b,left,p,h,c,hc=>by
  rcases AL.mp hc with rfl|hc
  ·exact zq r h9 h.1.1 h.1.2
  rcases BA.mp hc with hc|hc
  ·exact uI r h9 b _ _ h.2.2 c hc
  exact uI r h9 a _ _ h.2.1 c hc
theorem adv{ss:Sts}(r:dF ss)(h9:ss.length<=60)(pv:PlV ss pl (AK ss.length)):∀c,c∈cJ ss pl->Dj c/\bdC c:=λc m=>by
 unfold cJ at m;rcases BA.mp m with m|m
 ·exact uI r h9 pl _ _ pv c m
 obtain⟨l,_,rfl⟩:=C8.mp m;exact⟨trivial,trivial⟩
theorem aeJ{ss:Sts}(r:dF ss)(pv:PlV ss pl (AK ss.length))(h1:0<ss.length){n:Int}(a:(aO ss 0).1<=n)(b:n<=(aO ss (ss.length-1)).2.1):∃lab,(runOf (cJ ss pl) n).1=GE lab:=by
 obtain⟨k,_,k2,k3,k4⟩:=BZ r (ss.length-1) 0 ω n a (by rw[F4];exact b);obtain⟨c9,e,_⟩:=rW r pv (k:=k) ω k3 k4;exact⟨_,congrArg Prod.fst e⟩
theorem abZ{ss:Sts}:∀(p:Pl)(left:List Nat),Lf ss left->okP ss p left=true->PlV ss p left:=by
 intro p
 induction p with
 | tab=>exact λleft lf h=>⟨lf,(of_decide_eq_true h:dN ss left<=200)⟩
 | pick l=>
  refine λleft lf h=>⟨lf,λk hk=>?_⟩;have h2:qt ss left l=left.length:=of_decide_eq_true h;unfold qt at h2;exact(List.count_eq_length.mp (h2.trans (AI (lbl ss)).symm) _ (C8.mpr ⟨k,hk,rfl⟩)).symm
 | one k r ih=>
  intro left lf h;rw[pY,BM] at h;have lk:=m8 lf h.1 _ (AA.mpr Z);have h1:=h.1;simp only[E9,BM,EV,decide_eq_true_eq] at h1;exact⟨⟨lf,h1.1.1,h1.2⟩,ih _ lk (C7.mp h.2 _ (AA.mpr Z))⟩
 | wit k r ih=>
  intro left lf h;rw[pY,BM] at h;have lk:=m8 lf h.1 _ (AA.mpr Z);have h1:=h.1;simp only[E9,BM,EV,decide_eq_true_eq] at h1;exact⟨⟨lf,h1.1⟩,ih _ lk (C7.mp h.2 _ (AA.mpr Z))⟩
 | msk l r ih=>
  intro left lf h;rw[pY,BM] at h;have lk:=m8 lf h.1 _ (AA.mpr Z);have h1:=h.1;simp only[E9,BM,decide_eq_true_eq] at h1;obtain⟨k,hk,e⟩:=C8.mp (List.count_pos_iff.mp h1.1.1);exact⟨⟨lf,h1.2,k,hk,e⟩,ih _ lk (C7.mp h.2 _ (AA.mpr Z))⟩
 | low k a b yf x9=>
  intro left lf h;rw[pY,BM] at h;have la:=m8 lf h.1 (left.filter (· < k),a) AJ;have lb:=m8 lf h.1 (left.filter (k<=·),b) (AG _ AJ);have h1:=h.1;simp only[E9,EV] at h1;exact⟨⟨lf,IU h1⟩,yf _ la (C7.mp h.2 _ AJ),x9 _ lb (C7.mp h.2 _ (AG _ AJ))⟩
theorem Lj{ss:Sts}(h:0<ss.length):Lf ss (AK ss.length):=⟨λz=>by have:=congrArg List.length z;rw[DL,length_nil] at this;omega,λk hk=>FL.mp hk,HG⟩
theorem acs{ss:Sts}(r:dF ss)(pv:PlV ss pl (AK ss.length))(h9:ss.length<=60){t0:Int×Int×Int}(h1:ss[ss.length-1]?=GE t0)(low:Int):QM (cJ ss pl) low t0.2.1:=by
 refine⟨low::ss.map (·.1),by rw[BG,AI];omega,λn _ hh h=>?_⟩;rcases h with rfl|⟨i,c,hc,hs⟩
 ·exact AJ
 refine AG _ ?_;have m:=AU hc;unfold cJ at m;rcases BA.mp m with m|m
 ·rcases BA.mp (uE r pl _ _ pv c m n hs) with z|z
  ·exact z
  obtain⟨s,ms,rfl⟩:=C8.mp z;obtain⟨k,hk⟩:=Dx.mp ms;have lk:=(AB.mp hk).1;by_cases c2:k+1<ss.length
  ·rw[<- r.nx k s _ hk (AC c2)];exact C8.mpr ⟨_,Ee c2,rfl⟩
  rw[show k=ss.length-1 by omega,h1] at hk;cases hk;omega
 obtain⟨l,_,rfl⟩:=C8.mp m;exact hs.elim
theorem V6{ss:Sts}(r:dF ss)(pv:PlV ss pl (AK ss.length)):Right (cJ ss pl) ss:=λs ms n a b=>by
 obtain⟨k,hk⟩:=Dx.mp ms;have lk:=(AB.mp hk).1;have e:=fO lk;rw[hk] at e;cases e;obtain⟨c9,e,_⟩:=rW r pv lk a b;exact congrArg Prod.fst e
section
variable{a:Nat}{m:Int}
theorem Ju(h:j≠a):(cs.set a (.pik m))[j]?=cs[j]?:=IQ (EC h)
theorem Jv(ha:cs[a]?=GE (.pik l)):(cs.set a (.pik m))[a]?=GE (.pik m):=FV (AB.mp ha).1
theorem K6(hr:iC cs)(ha:cs[a]?=GE (.pik l)):iC (cs.set a (.pik m)):=by
 refine⟨by rw[GW];exact hr.1,λj c hc=>?_⟩;rw[GW];by_cases e:j=a
 ·rw[e,Jv ha] at hc;cases hc;exact hr.2 a _ ha
 rw[Ju e] at hc;exact hr.2 j c hc
theorem aaM{p:RowC->Prop}(h:∀c,c∈cs->p c)(hp:p (.pik m)):∀c,c∈cs.set a (.pik m)->p c:=λc hc=>by
 rcases He hc with z|z
 ·exact h c z
 rw[z];exact hp
theorem aaL{low:Int}(ha:cs[a]?=GE (.pik l))(h:QM cs low high):QM (cs.set a (.pik m)) low high:=by
 obtain⟨P,h1,h2⟩:=h;refine⟨P,h1,λn a1 b1 h=>h2 n a1 b1 ?_⟩;rcases h with h|⟨i,c,hc,hs⟩
 ·exact .inl h
 by_cases e:i=a
 ·rw[e,Jv ha] at hc;cases hc;exact hs.elim
 rw[Ju e] at hc;exact .inr ⟨i,c,hc,hs⟩
theorem Rp(hr:iC cs)(ha:cs[a]?=GE (.pik l))(n:Int):∀k j:Nat,(runC (cs.set a (.pik m)) n k (j:Int)).2=(runC cs n k (j:Int)).2/\((a:Int)∉(runC cs n k (j:Int)).2->(runC (cs.set a (.pik m)) n k (j:Int)).1=(runC cs n k (j:Int)).1)
 | 0,j=>⟨rfl,λ_=>rfl⟩
 | k+1,j=>by
  by_cases e:j=a
  ·subst e;have h1:(cs.set j (.pik m))[((j:Nat):Int).toNat]?=GE (.pik m):=by rw[B3];exact Jv ha
   have h2:cs[((j:Nat):Int).toNat]?=GE (.pik l):=by rw[B3];exact ha
   rw[lK h1,lK h2];exact⟨rfl,λz=>absurd (AA.mpr Z) z⟩
  cases hc:cs[j]? with
  | none=>
   have h1:(cs.set a (.pik m))[((j:Nat):Int).toNat]?=GT:=by rw[B3,Ju e];exact hc
   have h2:cs[((j:Nat):Int).toNat]?=GT:=by rw[B3];exact hc
   have e1:runC (cs.set a (.pik m)) n (k+1) (j:Int)=(GT,[(j:Int)]):=by
    show(match (cs.set a (.pik m))[((j:Nat):Int).toNat]? with|some (.pik l)=>_|some c=>_|none=>_)=_
    rw[h1]
   have e2:runC cs n (k+1) (j:Int)=(GT,[(j:Int)]):=by
    show(match cs[((j:Nat):Int).toNat]? with|some (.pik l)=>_|some c=>_|none=>_)=_
    rw[h2]
   rw[e1,e2];exact⟨rfl,λ_=>rfl⟩
  | some c=>
   have h1:(cs.set a (.pik m))[((j:Nat):Int).toNat]?=GE c:=by rw[B3,Ju e];exact hc
   have h2:cs[((j:Nat):Int).toNat]?=GE c:=by rw[B3];exact hc
   cases hp:fJ c with
   | true=>
    cases c with
    | pik b=>
     rw[lK h1,lK h2];exact⟨rfl,λ_=>rfl⟩
    | _=>cases hp
   | false=>
    cases ht:dG c (j:Int) n with
    | none=>
     rw[xY h1 hp ht,xY h2 hp ht];exact⟨rfl,λ_=>rfl⟩
    | some t=>
     obtain⟨u,rfl⟩:=ES (show 0<=t by have:=pP hr hc ht;omega);obtain⟨q1,q2⟩:=Rp hr ha n k u;rw[uH h1 hp ht,uH h2 hp ht];exact⟨by rw[q1],λz=>q2 λy=>z (AG _ y)⟩
theorem TX{ss:Sts}{X:Nat->List (Int×Int)}{s0 t0:Int×Int×Int}(hr:iC cs)(rs:dF ss)(h0:ss[0]?=GE s0)(h1:ss[ss.length-1]?=GE t0)(hC:CI cs s0.1 t0.2.1 X cs.length)(R:Right cs ss)(ha:cs[a]?=GE (.pik l)):Right (cs.set a (.pik (l+1))) ss↔X a=[]:=by
 have la:=(AB.mp ha).1;have hs:∀n,(runC (cs.set a (.pik (l+1))) n cs.length 0).2=(runC cs n cs.length 0).2/\((a:Int)∉(runC cs n cs.length 0).2->(runC (cs.set a (.pik (l+1))) n cs.length 0).1=(runC cs n cs.length 0).1):=λn=>Rp (m:=l+1) hr ha n cs.length 0;have cE:∀n,runOf (cs.set a (.pik (l+1))) n=runC (cs.set a (.pik (l+1))) n cs.length 0:=λn=>by unfold runOf;rw[GW]
 constructor
 ·intro R2;refine Classical.byContradiction λhx=>?_;obtain⟨s,ms⟩:=List.exists_mem_of_ne_nil _ hx;have hn:cov (X a) s.1:=⟨s,ms,Cf _,(hC.dn a la).ne s ms⟩;obtain⟨g1,g2,g3⟩:=(hC.dc a s.1 la).mp hn;obtain⟨x,mx,a1,b1⟩:=rs.cover h0 g1 _ _ h1 g2;have e1:=R x mx _ a1 b1;have e2:=R2 x mx _ a1 b1;have e3:=(lO (n:=s.1) hr).pk a l g3 ha;have e4:=(lO (n:=s.1) (K6 (m:=l+1) hr ha)).pk a (l+1) (by rw[cE,(hs s.1).1];exact g3) (Jv ha);rw[e1] at e3;rw[e2] at e4;have:=(A0 e3).symm.trans (A0 e4);omega
 intro hx s ms n a1 b1;rw[cE,(hs n).2 λz=>?_]
 ·exact R s ms n a1 b1
 have MA:s0.1<=n/\n<=t0.2.1:=by
  obtain⟨i,hi⟩:=Dx.mp ms;have li:=(AB.mp hi).1;have e1:s0.1<=s.1:=by
   by_cases c:i=0
   ·rw[c,h0] at hi;cases hi;exact Cf _
   have:=rs.lt h0 hi ω;have:=(rs.lh _ _ h0).1;omega
  have e2:s.2.1<=t0.2.1:=by
   by_cases c:i=ss.length-1
   ·rw[c,h1] at hi;cases hi;exact Cf _
   have:=rs.lt hi h1 ω;have:=(rs.lh _ _ h1).1;omega
  omega
 have:=(hC.dc a n la).mpr ⟨MA.1,MA.2,z⟩;rw[hx] at this;exact Cp this
end
def gC(cs:List RowC)(i:Nat):List Nat:=(AK i).filter λj=>(cs[j]?.map fJ).getD false
theorem Vc{cs:List RowC}{i j:Nat}(h:j∈gC cs i):∃l,cs[j]?=GE (.pik l):=by
 have h2:=(BD.mp h).2;cases hc:cs[j]? with
 | none=>rw[hc] at h2;cases h2
 | some c=>
  rw[hc] at h2;cases c with
  | pik l=>exact⟨l,rfl⟩
  | _=>cases h2
theorem Va(h:cs[i]?=GE (.pik l)):gC cs (i+1)=gC cs i++[i]:=by
 unfold gC;rw[range_succ,HL,DV (by rw[h];rfl)];rfl
theorem Y6{c:RowC}(h:cs[i]?=GE c)(hp:fJ c=false):gC cs (i+1)=gC cs i:=by
 unfold gC;rw[range_succ,HL,DZ (by rw[h];show ¬fJ c=true;rw[hp];decide),List.filter_nil,DH]
theorem Vb(hr:iC cs){n:Int}(h:(runOf cs n).1=GE lab):0<(gC cs cs.length).length:=by
 rcases(lO (n:=n) hr).en with⟨y,l,m,hy,_⟩|⟨y,c,m,hy,hp,hs,ho⟩
 ·exact HH (BD.mpr ⟨FL.mpr (AB.mp hy).1,by rw[hy];rfl⟩)
 rw[h] at ho;cases ho
theorem Ia(cs:List RowC)(i:Nat):(gC cs i).length<=i:=Cn (D0 ..) (by rw[DL];exact AW _)
def FP(ss:Sts)(p:Pl):Prop:=PlV ss p (AK ss.length)/\aW p<=130
def KZ:Sp:=λvs H Q _=>∃(s:V)(ok:ID->Prop)(ss:Sts),vs=[s]/\iD ok H/\aG ok H s (.list (ss.map stD))/\0<ss.length/\ss.length<=60 /\
 ∀(a:ID)(xs:List V)(ps:List Pl) H',Same H H'->H' a=GE (.lst xs)->aN ok H' xs (ps.map plD)->ps.length<=3->(∀p∈ps,FP ss p)->Q (.ref a) H'
def KY:Sp:=λvs H Q _=>∃(p:ID)(s v:V)(B:Int)(ss:Sts)(pl:Pl),vs=[.ref p,s,v]/\cu H p B/\0<=B/\B+1000<=900000/\aG (·≠p) H s (.list (ss.map stD))/\aG (·≠p) H v (plD pl)/\0<ss.length/\ss.length<=60/\dF ss/\Unlike ss/\FP ss pl /\
 ∀H',b7 p H H'->cu H' p (B+1000)->Q (.bl true) H'
theorem abb{p3 p4:Pos}{j}(he:QE X e te):QE X (.Subscript e (.Slice GT GT (GE (.UnaryOp .USub (.Constant (.int 1) j p3) p4)) p2) pos) (adb te):=⟨by
 intro aa s σ H Q I h;refine Q7 (T := "list") slot_list_getitem.lookup (λ_ _=>rfl) (thE (he.h aa s σ H _ I h) λv s1 x H1 I1 r1 q1=>?_);replace q1:rvK x H1 Q:=q1;unfold rvK at q1;split at q1
 ·rename_i p;unfold rvq at q1;split at q1
  ·rename_i xs e1;cases r1;refine wpAny_Slice ?_;rw[evalPart_none];refine AF ?_;refine AF ?_;refine thn (RL (acY fM Yh) aa s1 σ H1 (λo H'=>o=GE (-1)/\H'=H1) I1 ⟨_,rfl,_,rfl,rfl,rfl⟩) λvs s3 ⟨o3,H3,I3,pu,e3,e4⟩=>?_;subst e3;subst e4;have I4:Inv X aa σ H3 { s3 with heap:=s3.heap.push { cls:=.type "slice",data:=.fields #[.none,.none,vs] } }:=I3.kept (t':=s3.toks) λb ob q=>AH _ q;obtain⟨ae,r,ht,hz⟩:=I4.list (SqL.of e1);have am:=r.length;refine⟨ht.isList.typeIs,?_⟩;refine wpAny_getItem_list_slice ht.isList (Heap.IsSliceOf.new ..) .none .none pu δ ?_ (by rw[AY] <;> omega)
   rw[FW];refine⟨.ref _,_,I4.laid (t':=s3.toks) (o:=.lst xs.reverse) (λb ob q=>AH _ q) (AW _) ?_,rfl,q1 _ (I4.hok.fresh (AW _))⟩;exact⟨by rw[JO];exact hz,_,0,r.reverse,A7 _ rfl⟩
  exact q1.elim
 exact q1.elim⟩
theorem ae0{v:V}(hl:xs.length=m)(h0:0<m)(h:atI xs ((m-1:Nat):Int)=GE v):atI xs (-1)=GE v:=by
 unfold atI ixN at h |-;rw[if_pos ω,if_pos ω] at h;rw[if_neg δ,if_pos ω,<- h];show xs[_]?=xs[_]?;congr 1;omega
end L2
local macro_rules | `(tactic| push_cast) => `(tactic| ((try dsimp only [L2.tV, L2.Tz, L2.TQ, L2.CG, L2.tOp, L2.tC, L2.Wt, L2.KH, L2.CK, L2.GZ, L2.TF, L2.tCB, L2.tIf, L2.Wy, L2.tB, L2.aaE, L2.tOr, L2.Wz, L2.Ws, L2.Jl, L2.qg, L2.rI0, Hc, Hb, set_cons_zero, set_cons_succ]); try simp only [↓L2.rdy, L2.rdy, ↓reduceIte, reduceCtorEq, Nat.reduceAdd, Nat.reduceSub]))
local macro_rules | `(tactic| push_cast [$ls,*]) => `(tactic| ((try dsimp only [L2.tV, L2.Tz, L2.TQ, L2.CG, L2.tOp, L2.tC, L2.Wt, L2.KH, L2.CK, L2.GZ, L2.TF, L2.tCB, L2.tIf, L2.Wy, L2.tB, L2.aaE, L2.tOr, L2.Wz, L2.Ws, L2.Jl, L2.qg, L2.rI0, Hc, Hb, set_cons_zero, set_cons_succ]); try simp only [↓L2.rdy, L2.rdy, ↓reduceIte, reduceCtorEq, Nat.reduceAdd, Nat.reduceSub, $ls,*]))
namespace K24
open PySem L2 PyProof.Rows
abbrev q0_:List Str:=["_law_tape_here","_law_many_here"]
abbrev q1_:List Str:=["_law_tape_here","_law_stretches_here","_law_left"]
abbrev q2_:List Str:=["_law_tape_here","_law_stretches_here","_law_plan_here"]
abbrev q3_:List Str:=["stretches","left"]
abbrev q4_:List Str:=["rows","low","high"]
abbrev q5_:List Str:=["_law_stretches_here","_law_plan_here","_law_place"]
abbrev q6_:List Str:=["_law_script","_law_k"]
abbrev q7_:List Str:=["stretches","left","part","ahead","picks"]
abbrev q8_:List Str:=["_law_tape_here","_law_low","_law_high"]
abbrev q9_:List Str:=["stretches","plan"]
abbrev q10_:List Str:=["_law_found","_law_due"]
abbrev q11_:List Str:=["stretches","left","label","goal"]
abbrev q12_:List Str:=["stretches","left","plan"]
abbrev q13_:List Str:=["_law_stretches_here","_law_left"]
abbrev q14_:List Str:=["stretches","left","picks"]
abbrev q15_:List Str:=["stretches","left","label"]
abbrev q16_:List Str:=["stretches","left","thing"]
abbrev q17_:List Str:=["stretches","left","part"]
abbrev q18_:List Str:=["row","at","low","high"]
abbrev q19_:List Str:=["reached","spans","ways"]
abbrev q20_:List Str:=["rows","at","number"]
abbrev q21_:List Str:=["rows","reached"]
abbrev q22_:List Str:=["_law_stretches_here"]
abbrev q23_:List Str:=["stretches","steps"]
abbrev q24_:List Str:=["stretches","thing"]
abbrev q25_:List Str:=["rows","stretches"]
def top(i:Nat):Stmt:=PySem.Challenge.pw_caseways_k24_whole_rows_of_any_plan_lead.main.body.getD i (.Pass ⟨0,0,0,0⟩)
abbrev BLs:List Str:=["abs","all","bool","enumerate","int","isinstance","len","list","max","min","range","set","sorted","str","tuple","zip"]
theorem YZ:("abs" : Str)∈BLs:=by decide +kernel
theorem YX:("all" : Str)∈BLs:=by decide +kernel
theorem Ci:("bool" : Str)∈BLs:=by decide +kernel
theorem fW:("enumerate" : Str)∈BLs:=by decide +kernel
theorem Em:("int" : Str)∈BLs:=by decide +kernel
theorem bM:("isinstance" : Str)∈BLs:=by decide +kernel
theorem cM:("len" : Str)∈BLs:=by decide +kernel
theorem uY:("list" : Str)∈BLs:=by decide +kernel
theorem wL:("max" : Str)∈BLs:=by decide +kernel
theorem El:("min" : Str)∈BLs:=by decide +kernel
theorem lU:("range" : Str)∈BLs:=by decide +kernel
theorem aeu:("set" : Str)∈BLs:=by decide +kernel
theorem HY:("sorted" : Str)∈BLs:=by decide +kernel
theorem Py:("str" : Str)∈BLs:=by decide +kernel
theorem tR:("tuple" : Str)∈BLs:=by decide +kernel
theorem YW:("zip" : Str)∈BLs:=by decide +kernel
abbrev FN:List Str:=["_law_script","_law_k"]
abbrev GI_(s:Stmt)(x:Str):Prop:=(aj s).names.lookup x=GE .globalImplicit
abbrev NM_(N:List Str)(s:Stmt)(i:Nat)(x:Str):Prop:=Nm N (aj s) i x
abbrev pU:Stmt:=top 42
theorem T3:bx FN q6_ (aj pU):=⟨rfl,rfl,rfl,ψ,rfl,ψ,ψ⟩
theorem DQ:NM_ FN pU 0 "_law_script":=.of ψ
theorem DP:NM_ FN pU 1 "_law_k":=.of ψ
theorem J7:GI_ pU "len":=ψ
theorem V2:Bn "_law_cell_at" := ⟨ψ,ψ⟩
abbrev Kr:List Str:=["_law_script","_law_k","_law_cell"]
abbrev qF:Stmt:=top 43
theorem Rr:bx Kr q6_ (aj qF):=⟨rfl,rfl,rfl,ψ,rfl,ψ,ψ⟩
theorem YL:NM_ Kr qF 0 "_law_script":=.of ψ
theorem Dz:NM_ Kr qF 1 "_law_k":=.of ψ
theorem yh:NM_ Kr qF 2 "_law_cell":=.of ψ
theorem Ew:GI_ qF "_law_cell_at":=ψ
theorem Eu:GI_ qF "abs":=ψ
theorem Qc:GI_ qF "int":=ψ
theorem acI:Bn "_law_tape" := ⟨ψ,ψ⟩
abbrev Ah:List Str:=["_law_tape_here","_law_many_here","_law_found","_law_prime","_law_once"]
abbrev qG:Stmt:=top 44
theorem xP:bx Ah q0_ (aj qG):=⟨rfl,rfl,rfl,ψ,rfl,ψ,ψ⟩
theorem dR:NM_ Ah qG 0 "_law_tape_here":=.of ψ
theorem sJ:NM_ Ah qG 1 "_law_many_here":=.of ψ
theorem sI:NM_ Ah qG 2 "_law_found":=.of ψ
theorem Lz:NM_ Ah qG 3 "_law_prime":=.of ψ
theorem DG:NM_ Ah qG 4 "_law_once":=.of ψ
theorem J6:GI_ qG "_law_take":=ψ
theorem dg:Bn "_law_take" := ⟨ψ,ψ⟩
section
variable{bs:List Str}
theorem abY(hB:∀x:Str,x∈BLs->mg x=GT)(F:Fun K "_law_cell_at" "_law_cell_at" pU f fd):cT P w K mg base CX0 1 f fd q6_ (W6 K):=by
 refine F.okz T3 λap A outer s H vs Q E hr h=>?_;obtain⟨a,ns,k,rfl,hS,h0,q⟩:=h;refine⟨_,(aJ (aQ (Dl (aV jZ (ao DP) (bJ m5 J7 (hB "len" cM) Be cN (ak (ao DQ) aA)) (aM _)) (aH R6 (ao DQ) (ao DP) (λ_ _=>rfl)) aq))),?_⟩;push_cast;refine⟨_,.inl hS,?_⟩;split
 ·rename_i c;rw[AI] at c;have hk:k.toNat<ns.length:=ω;have ek:k=((k.toNat:Nat):Int):=ω;have z:atI (ns.map As) ((k.toNat:Nat):Int)=GE (.int ns[k.toNat]):=bO (by rw[AZ,AC hk];rfl);rw[<- ek] at z;unfold afg;exact⟨a,_,k,_,rfl,rfl,hS,z,q _⟩
 exact q _
theorem abO(hB:∀x:Str,x∈BLs->mg x=GT)(CZCellAt:Cal P w K mg base "_law_cell_at" 1 q6_ (W6 K))(F:Fun K "_law_tape" "_law_tape" qF f fd):cT P w K mg base CX0 2 f fd q6_ (WX K):=by
 refine F.okz Rr λap A outer s H vs Q E hr h=>?_;obtain⟨a,ns,k,rfl,hS,h0,h1,q⟩:=h;refine⟨_,(aD (bF yh Rr.nd (bA CZCellAt (hr.mono δ) Ew V2 (ak (ao YL) (ak (ao Dz) aA))) Z (.inl Z))
  (aJ (aQ (bV (ak (aX jd (bJ Nj Eu (hB "abs" YZ) PyProof.Rows.Boot.«abs» Z5 (ak (ao yh) aA)) (RG xj Qc (hB "int" Em) boot_int Fy (ak (dX acZ (bJ Nj Eu (hB "abs" YZ) PyProof.Rows.Boot.«abs» Z5 (ak (ao yh) aA)) (aX zx aq aq) (aM _)) aA))) (ak (aX mD (aX jd (aX bw (aX bw (aX mD (ao yh) aq) (aX jd (aX jd aq (ao Dz)) (ao Dz))) aq) aq) aq) (ak aq aA))))))),?_⟩
 push_cast;refine⟨a,ns,k,rfl,hS,h0,λv=>?_⟩;push_cast;refine⟨⟨δ,δ,δ⟩,?_,δ,.inl δ,.inr ω,.inr δ,δ,aR δ,λp hp=>q p _ hp (aB hp) ⟨_,_,_,au,?_,?_,?_,Cf _,Cf _⟩⟩
 ·right;generalize (if v<0 then -v else v)=u;split <;> decide
 ·refine Int.mul_nonneg ?_ ?_
  ·split <;> omega
  generalize (if v<0 then -v else v)=u;split <;> decide
 ·exact Fn _ δ
 exact EB _ δ
theorem RQ(hB:∀x:Str,x∈BLs->mg x=GT)(hn:n<=10)(CZTake:Cal P w K mg base "_law_take" n q0_ (qz n))(F:Fun K "_law_take" "_law_take" qG f fd):cT P w K mg base CX0 (n+1) f fd q0_ (qz (n+1)):=by
 refine F.okz xP λap A outer s H vs Q E hr h=>?_;obtain⟨p,m,B,rfl,⟨a,b,c,hp,ha,zI,R1,hc0,MX⟩,IF,ua,Rs,tJ,ib,q⟩:=h;refine⟨_,(aD (bH (aV RP (aH aP (ao dR) aq (λ_ _=>rfl)) aq (aM _)) (aD (bF sI xP.nd (aX mD (aH aP (ao dR) aq (λ_ _=>rfl)) (ao sJ)) Z (.inl Z))
  (aD (jD (aX Ls (aH aP (ao dR) aq (λ_ _=>rfl)) (ao sJ)) (JG (ao dR) aq G8))
  (aJ (aQ (ao sI))))) bB)
  (aD (jD (aX bw (aH aP (ao dR) aq (λ_ _=>rfl)) aq) (JG (ao dR) aq G8))
  (aD (bF Lz xP.nd (aH aP (bV (ak aq (ak aq (ak aq (ak aq (ak aq (ak aq (ak aq aA)))))))) (aX mD (aH aP (ao dR) aq (λ_ _=>rfl)) aq) (λ_ _=>rfl)) Z (.inl Z))
  (aD (bF DG xP.nd (aX mD (aX jd (aX bw (aH aP (ao dR) aq (λ_ _=>rfl)) (aX jd aq (aH aP (ao dR) aq (λ_ _=>rfl)))) (aX bw aq (aH aP (ao dR) aq (λ_ _=>rfl)))) (ao Lz)) Z (.inl Z))
  (aD (jD (aX mD (aX bw (aX jd (ao DG) (aX bw (aX mD (ao DG) aq) aq)) (aH aP (ao dR) aq (λ_ _=>rfl))) aq) (JG (ao dR) aq G8))
  (aD (bF sI xP.nd (aX Ls (aX mD (aX jd (aH aP (ao dR) aq (λ_ _=>rfl)) (aX bw (aX mD (aH aP (ao dR) aq (λ_ _=>rfl)) aq) aq)) aq) aq) Z (.inl Z))
  (aJ (aQ (Dl (aV jZ (ao sJ) (aX zx aq aq) (aM _)) (aX mD (ao sI) (ao sJ)) (aX mD (aX bw (aX jd (ao sI) aq) (bA CZTake (hr.mono ω) J6 dg (ak (ao dR) (ak aq aA)))) (ao sJ))))))))))),?_⟩
 refine aK λk hk=>?_;refine iV λkt ke hkt hke=>?_;push_cast[hp];split
 ·clear hke hk;subst hkt;push_cast[hp];refine⟨ua,⟨ua,Rs⟩,?_⟩;refine q _ _ (Fn _ ω) (EB _ ua) b7.upd ⟨_,_,_,au,Int.ediv_nonneg ha ω,zI,R1,hc0,ω⟩
 clear hkt;subst hke;push_cast;subst hk;have m1:∀x:Int,0<=x%40009/\x%40009<40009:=λx=>⟨Fn _ δ,EB _ δ⟩;have m2:∀x:Int,0<=x%1009/\x%1009<1009:=λx=>⟨Fn _ δ,EB _ δ⟩;have m3:∀x:Int,0<=x%2147483629/\x%2147483629<2147483629:=λx=>⟨Fn _ δ,EB _ δ⟩;refine aK λk hk=>?_;push_cast[hp];have UD:b7 p H (upd H p (AT [As a,As b,As (c+1)])):=b7.upd;have e1:upd H p (AT [As a,As b,As (c+1)]) p=_:=au;generalize upd H p (AT [As a,As b,As (c+1)])=H1 at UD e1 |-;subst hk;refine aK λk hk=>?_;push_cast[e1];refine⟨aR δ,λp1 iq=>?_⟩;obtain⟨v,hv,v0⟩:=adT (c+1);have s2:=aB (o:=AT [As 2147483587,As 2147483579,As 2147483563,As 2147483549,As 2147483543,As 2147483497,As 2147483489]) iq;have ep:upd H1 p1 (AT [As 2147483587,As 2147483579,As 2147483563,As 2147483549,As 2147483543,As 2147483497,As 2147483489]) p1=_:=au;have e2:=s2 _ _ e1;generalize upd H1 p1 (AT [As 2147483587,As 2147483579,As 2147483563,As 2147483549,As 2147483543,As 2147483497,As 2147483489])=H2 at s2 ep e2 |-;push_cast[e2,ep,hv];refine⟨δ,?_⟩;subst hk;refine aK λk hk=>?_;push_cast[e2];refine⟨.inl δ,.inr ω,v0,?_⟩;generalize (b+39373*(c+1))*(48271+(c+1))%v=o;subst hk;refine aK λk hk=>?_;push_cast[e2];refine⟨δ,.inr (by have:=m1 o;omega),δ,?_⟩;have e3:=m3 (o*(o%40009+7)+(c+1));generalize (o*(o%40009+7)+(c+1))%2147483629=y at e3 |-;have sx:b7 p H (upd H2 p (AT [As a,As y,As (c+1)])):=(UD.trans s2.x).trans b7.upd;have e5:upd H2 p (AT [As a,As y,As (c+1)]) p=_:=au;have tp:cu (upd H2 p (AT [As a,As y,As (c+1)])) p (B+1):=⟨a,y,c+1,e5,ha,e3.1,e3.2,ω,ω⟩;generalize upd H2 p (AT [As a,As y,As (c+1)])=H3 at sx e5 tp |-;subst hk;refine aK λk hk=>?_;push_cast[e5];refine⟨δ,.inr (by have:=m2 y;omega),δ,δ,?_⟩;subst hk;push_cast;refine⟨δ,?_⟩;split
 ·refine⟨ua,q _ _ (Fn _ ω) (EB _ ua) sx ?_⟩;obtain⟨a',b',c',z1,z2,z3,z4,z5,z6⟩:=tp;exact⟨a',b',c',z1,z2,z3,z4,z5,ω⟩
 rename_i hm;have hm':1000000<=m:=by
  rw[show(10:Int)^CC 6=1000000 from by decide] at hm;omega
 have MO:=ib hm';refine⟨.inr δ,p,99991,B+1,rfl,tp,ω,δ,δ,ω,λz=>absurd z δ,λr H3 r0 r1 s3 t3=>?_⟩;push_cast;refine⟨ua,q _ _ (Fn _ ω) (EB _ ua) (sx.trans s3) ?_⟩;obtain⟨a',b',c',z1,z2,z3,z4,z5,z6⟩:=t3;exact⟨a',b',c',z1,z2,z3,z4,z5,ω⟩
theorem Tw:cT P w K mg base CX0 0 f fd q0_ (qz 0):=by
 have no:∀vs H Q E,¬qz 0 vs H Q E:=λvs H Q E h=>by
  obtain⟨p,m,B,_,_,_,_,_,h1,_⟩:=h;omega
 exact⟨λvs H Q E h=>absurd h (no vs H Q E),λA outer s H args us vs Q E _ _ _ _ h=>absurd h (no vs H Q E)⟩
abbrev dI:List Str:=["_law_tape_here","_law_many_here","_law_low","_law_labels","_law_found","_law_k","_law_far","_law_wide","_law_label"]
abbrev b8:Stmt:=top 45
theorem cO:bx dI q0_ (aj b8):=⟨rfl,rfl,rfl,ψ,rfl,ψ,ψ⟩
theorem cF:NM_ dI b8 0 "_law_tape_here":=.of ψ
theorem Gj:NM_ dI b8 1 "_law_many_here":=.of ψ
theorem iU:NM_ dI b8 2 "_law_low":=.of ψ
theorem lE:NM_ dI b8 3 "_law_labels":=.of ψ
theorem iT:NM_ dI b8 4 "_law_found":=.of ψ
theorem Gi:NM_ dI b8 5 "_law_k":=.of ψ
theorem vN:NM_ dI b8 6 "_law_far":=.of ψ
theorem iR:NM_ dI b8 7 "_law_wide":=.of ψ
theorem iQ:NM_ dI b8 8 "_law_label":=.of ψ
theorem bL:GI_ b8 "_law_take":=ψ
theorem Bu:GI_ b8 "max":=ψ
theorem yE:GI_ b8 "range":=ψ
theorem Kl:Bn "_law_stretches" := ⟨ψ,ψ⟩
theorem aeg(hB:∀x:Str,x∈BLs->mg x=GT)(CZTake:Cal P w K mg base "_law_take" 2 q0_ (qz 2))(F:Fun K "_law_stretches" "_law_stretches" b8 f fd):cT P w K mg base CX0 3 f fd q0_ WY:=by
 refine F.okz cO λap A outer s H vs Q E hr h=>?_;obtain⟨p,m,B,rfl,tp,IF,M',Rs,hm2,q⟩:=h;refine⟨_,(aD (bF iU cO.nd (aH aP (bV (ak aq (ak (aX dY (bA CZTake (hr.mono δ) bL dg (ak (ao cF) (ak aq aA))) aq) (ak (aX dY (bA CZTake (hr.mono δ) bL dg (ak (ao cF) (ak (aX zx aq aq) aA))) (aX zx aq aq)) (ak (aX dY aq (aX O4 aq aq)) aA))))) (bA CZTake (hr.mono δ) bL dg (ak (ao cF) (ak aq aA))) (λ_ _=>rfl)) Z (.inl Z))
  (aD (bF lE cO.nd (aX bw aq (bA CZTake (hr.mono δ) bL dg (ak (ao cF) (ak aq aA)))) Z (.inl Z))
  (aD (bF iT cO.nd (bV aA) Z (.inl Z))
  (aD (fG BB Z (uK yE (hB "range" lU) (ak (ao Gj) aA)) (bK Gi cO.nd (.inl Z))
  (aD (bF vN cO.nd (aH aP (bV (ak (aX zx aq aq) (ak (aX zx aq aq) aA))) (bA CZTake (hr.mono δ) bL dg (ak (ao cF) (ak aq aA))) (λ_ _=>rfl)) Z (.inl Z))
  (aD (bF iR cO.nd (bV (ak aq (ak aq (ak aq (ak (aX bw aq (bA CZTake (hr.mono δ) bL dg (ak (ao cF) (ak aq aA)))) (ak (aX bw aq (bA CZTake (hr.mono δ) bL dg (ak (ao cF) (ak aq aA)))) (ak (aX bw aq (bA CZTake (hr.mono δ) bL dg (ak (ao cF) (ak (ao vN) aA)))) aA))))))) Z (.inl Z))
  (aD (bF iR cO.nd (aH aP (ao iR) (bJ (nu Z) Bu (hB "max" wL) Kk xr (ak aq (ak (aX dY (bA CZTake (hr.mono δ) bL dg (ak (ao cF) (ak aq aA))) aq) aA))) (λ_ _=>rfl)) Z (.inl Z))
  (aD (bF iQ cO.nd (bA CZTake (hr.mono δ) bL dg (ak (ao cF) (ak (ao lE) aA))) Z (.inl Z))
  (aD (bH (pW (lZ (aV (ad8 hr.aZ) (ao iT) (bV aA) (aM _)) (jC (aV (bC hr.aZ) (aH aP (aH aP (ao iT) (jX fM aq) (λ_ _=>rfl)) aq (λ_ _=>rfl)) (ao iQ) (aM _))))) (aJ (bF iQ cO.nd (aX mD (aX bw (aX bw (ao iQ) aq) (bA CZTake (hr.mono δ) bL dg (ak (ao cF) (ak (aX dY (ao lE) aq) aA)))) (ao lE)) Z (.inl Z))) bB)
  (aD (fj (jF (ao iT) (bG (ak (ao iU) (ak (aX dY (aX bw (ao iU) (ao iR)) aq) (ak (ao iQ) aA))))))
  (aJ (bF iU cO.nd (aX bw (ao iU) (ao iR)) Z (.inl Z))))))))) (λ_=>rfl))
  (aJ (aQ (ao iT))))))),?_⟩
 refine aK λk hk=>?_;push_cast;refine⟨p,100,B,rfl,tp,by show B+2<=1000100;omega,δ,δ,δ,λz=>absurd z δ,λr1 H1 r10 r11 s1 iP=>?_⟩;push_cast;refine⟨⟨δ,δ,δ⟩,?_⟩;refine⟨p,10^9,B+2,rfl,iP,by show B+2+2<=1000100;omega,δ,δ,δ,λz=>by decide,λr2 H2 r20 r21 s2 g7=>?_⟩;push_cast[one_mul];refine⟨⟨δ,δ,δ⟩,?_⟩;refine⟨⟨δ,δ,δ⟩,aR δ,λl0 wa=>?_⟩;have s3:=aB (o:=AT [As 0,As (r1-50),As (r2-10^CC 8),As (0-2^CC 39)]) wa;have iO:=g7.same s3;have n3:=g7.ne wa;have e3:upd H2 l0 (AT [As 0,As (r1-50),As (r2-10^CC 8),As (0-2^CC 39)]) l0=_:=au;generalize upd H2 l0 (AT [As 0,As (r1-50),As (r2-10^CC 8),As (0-2^CC 39)])=H3 at s3 iO e3 |-;refine⟨p,4,B+2+2,rfl,iO,by show B+2+2+2<=1000100;omega,δ,δ,δ,λz=>absurd z δ,λr4 H4 r40 r41 s4 fo=>?_⟩;obtain⟨lo,jp,wp⟩:=Dp (is:=[0,r1-50,r2-10^CC 8,0-2^CC 39]) r40 r41;replace wp:atI [As 0,As (r1-50),As (r2-10^CC 8),As (0-2^CC 39)] r4=GE (.int lo):=wp;have e4:=s4 _ _ n3 e3;have blo:-(10^12)<=lo/\lo<=10^9:=by
  simp only[AL,BC,or_false] at jp;have:(10:Int)^CC 8=100000000:=by decide
  have:(2:Int)^CC 39=549755813888:=by decide
  rcases jp with z|z|z|z <;> omega
 have ow:b7 p H H4:=((s1.trans s2).trans s3.x).trans s4;push_cast[e4,wp];subst hk;refine aK λk hk=>?_;push_cast;refine⟨p,4,B+2+2+2,rfl,fo,by show B+2+2+2+2<=1000100;omega,δ,δ,δ,λz=>absurd z δ,λr5 H5 r50 r51 s5 fT=>?_⟩;push_cast;subst hk;refine aK λk hk=>?_;push_cast;refine⟨aR δ,λl hl=>?_⟩;have hU:=ow.trans s5;have nB:l≠p:=fT.ne hl;have Hl:H l=GT:=(Zt hU fT hl).2;have s6:=aB (o:=AT []) hl;have io:=fT.same s6;have e6:upd H5 l (AT []) l=_:=au;generalize upd H5 l (AT [])=H6 at s6 io e6 |-;have gr:=hU.trans s6.x;subst hk;obtain⟨OD,cw⟩:∃OD:ID->Prop,OD=λa=>a≠p/\a≠l:=⟨_,rfl⟩;have kd:∀{H H':Hp},b7 p H H'->∀a o,OD a->H a=GE o->OD a/\H' a=GE o:=λ{H H'} sx a o h e=>by
  refine⟨h,sx a o ?_ e⟩;rw[cw] at h;exact h.1
 refine aK λk hk=>?_;refine jr λR hR=>?_;push_cast[Ih];refine⟨ω,ω,?_⟩;obtain⟨Pv,ag⟩:∃Pv:Nat->L2.St->Hp->Prop,Pv=λ(i:Nat) σ H'=>∃(xs:List V)(ss:List (Int×Int×Int)) (lo:Int) (o5 o6 o7 o8:Option V),b7 p H H'/\cu H' p (B+8+18*(i:Int))/\H' l=GE (.lst xs)/\aN OD H' xs (ss.map stD)/\ss.length=i/\dF ss/\Unlike ss/\(∀s,s∈ss->s.2.2<=5) /\
  (∀s,ss[ss.length-1]?=GE s->lo=s.2.1+1)/\-(10^12)<=lo/\lo<=10^9+(10^12+10)*(i:Int)/\σ=[GE (.ref p),GE (.int m),GE (.int lo),GE (.int (2+r5)),GE (.ref l),o5,o6,o7,o8]:=⟨_,rfl⟩
 refine Zu hR Pv (by rw[ag];exact⟨[],[],lo,_,_,_,_,gr,io.le (by show B+2+2+2+2<=B+8+18*((0:Nat):Int);omega),e6,.nil,rfl,dF.nil,Unlike.nil,λs h=>(by cases h),λs h=>(by cases h),blo.1,by show lo<=10^9+(10^12+10)*((0:Nat):Int);omega,rfl⟩) ?_ ?_
 ·intro i σ H7 hi pv;rw[ag] at pv;obtain⟨xs,ss,lo,o5,o6,o7,o8,dS,dr,e7,vn,oT,row,NI,sL,eD,Yf,bl2,rfl⟩:=pv;have hi60:i<60:=ω;refine aK λk2 bg=>?_;push_cast;refine⟨⟨δ,δ,δ⟩,⟨δ,δ,δ⟩,aR δ,λl1 jv=>?_⟩;have s8:=aB (o:=AT [As (10^CC 9),As (10^CC 12)]) jv;have kn:=dr.same s8;have n8:=dr.ne jv;have e8:=s8 _ _ e7;have TD:=vn.same s8;have XY:upd H7 l1 (AT [As (10^CC 9),As (10^CC 12)]) l1=_:=au;generalize upd H7 l1 (AT [As (10^CC 9),As (10^CC 12)])=H8 at s8 kn e8 TD XY |-;have r6:=dS.trans s8.x;refine⟨p,2,B+8+18*(i:Int),rfl,kn,by show B+8+18*(i:Int)+2<=1000100;omega,δ,δ,δ,λz=>absurd z δ,λr9 H9 r90 r91 s9 lL=>?_⟩;obtain⟨far,y9,vc⟩:=Dp (is:=[10^CC 9,10^CC 12]) r90 r91;replace vc:atI [As (10^CC 9),As (10^CC 12)] r9=GE (.int far):=vc;have e91:=s9 _ _ n8 XY;have e9:=s9 _ _ nB e8;have YO:=TD.keep (kd s9);have rX:=r6.trans s9;have bfar:10^9<=far/\far<=10^12:=by
   simp only[AL,BC,or_false] at y9;have:(10:Int)^CC 9=1000000000:=by decide
   have:(10:Int)^CC 12=1000000000000:=by decide
   rcases y9 with z|z <;> omega
  push_cast[e91,vc];subst bg;refine aK λk2 bg=>?_;push_cast;refine⟨p,4,B+8+18*(i:Int)+2,rfl,lL,by show B+8+18*(i:Int)+2+2<=1000100;omega,δ,δ,δ,λz=>absurd z δ,λu1 H10 u10 u11 c6 eS=>?_⟩;push_cast;refine⟨p,30,B+8+18*(i:Int)+2+2,rfl,eS,by show B+8+18*(i:Int)+2+2+2<=1000100;omega,δ,δ,δ,λz=>absurd z δ,λu2 H11 u20 u21 cS fg=>?_⟩;push_cast;refine⟨p,far,B+8+18*(i:Int)+2+2+2,rfl,fg,by show B+8+18*(i:Int)+2+2+2+2<=1000100;omega,ω,ω,δ,λ_=>by decide,λu3 H12 u30 u31 ca hG=>?_⟩;push_cast;refine⟨aR δ,λl2 ub=>?_⟩;have gi:=ca _ _ nB (cS _ _ nB (c6 _ _ nB e9));have N0:=((YO.keep (kd c6)).keep (kd cS)).keep (kd ca);have mM:=((rX.trans c6).trans cS).trans ca;have de:=aB (o:=AT [As 1,As 1,As 1,As (2+u1),As (2+u2),As (1+u3)]) ub;have kG:=hG.same de;have n13:=hG.ne ub;have me:=de _ _ gi;have mm:=N0.same de;have LW:upd H12 l2 (AT [As 1,As 1,As 1,As (2+u1),As (2+u2),As (1+u3)]) l2=_:=au;generalize upd H12 l2 (AT [As 1,As 1,As 1,As (2+u1),As (2+u2),As (1+u3)])=H13 at de kG me mm LW |-;have OH:=mM.trans de.x;subst bg;refine aK λk2 bg=>?_;push_cast;refine⟨p,11,B+8+18*(i:Int)+2+2+2+2,rfl,kG,by show B+8+18*(i:Int)+2+2+2+2+2<=1000100;omega,δ,δ,δ,λz=>absurd z δ,λu4 H14 u40 u41 eQ N'=>?_⟩;have lI:=eQ _ _ nB me;have NY:=mm.keep (kd eQ);have OG:=OH.trans eQ;have S4:=eQ _ _ n13 LW;have bu:0<=(if u4-5>0 then u4-5 else 0)/\(if u4-5>0 then u4-5 else 0)<6:=by split <;> omega
  obtain⟨dk,oQ,lp⟩:=Dp (is:=[1,1,1,2+u1,2+u2,1+u3]) bu.1 bu.2;replace lp:atI [As 1,As 1,As 1,As (2+u1),As (2+u2),As (1+u3)] (if u4-5>0 then u4-5 else 0)=GE (.int dk):=lp;have Ya:1<=dk/\dk<=10^12:=by
   simp only[AL,BC,or_false] at oQ;rcases oQ with z|z|z|z|z|z <;> omega
  push_cast[S4,lp];subst bg;refine aK λk2 bg=>?_;push_cast;refine⟨p,2+r5,B+8+18*(i:Int)+2+2+2+2+2,rfl,N',by show B+8+18*(i:Int)+2+2+2+2+2+2<=1000100;omega,ω,ω,δ,λz=>absurd z ω,λlab H15 lab0 lab1 lS tp15=>?_⟩;have X1:=lS _ _ nB lI;have NW:=NY.keep (kd lS);have OF:=OG.trans lS;push_cast;subst bg;refine aK λk2 bg=>?_;have rest:∀(b:Int) H16 o5 o6,0<=b->b<=5->(∀s,ss[ss.length-1]?=GE s->s.2.2≠b)->b7 p H H16->H16 l=GE (.lst xs)->aN OD H16 xs (ss.map stD)->cu H16 p (B+8+18*(i:Int)+14)->k2 [GE (.ref p),GE (.int m),GE (.int lo),GE (.int (2+r5)),GE (.ref l),o5,o6,GE (.int dk),GE (.int b)] H16:=by
   intro b H16 o5 o6 b0 b9 hub iS lx fS g9;subst bg;refine aK λk3 hk3=>?_;push_cast[lx];refine⟨aR δ,λt ht=>?_⟩;have gu:=aB (o:=By [As lo,As (lo+dk-1),As b]) ht;have LV:=gu _ _ lx;have mr:=g9.same gu;have rq:=fS.same gu;have nt:t≠p:=g9.ne ht;have nl:t≠l:=(aF lx ht).symm;have et:upd H16 t (By [As lo,As (lo+dk-1),As b]) t=_:=au;generalize upd H16 t (By [As lo,As (lo+dk-1),As b])=H17 at gu LV mr rq et |-;have bv:=rq.length;rw[AI] at bv;push_cast[LV];refine⟨Bi (show xs.length<1000000 by omega) (aR (AW _)),?_⟩;have xx:b7 p H (upd H17 l (AT (xs++[AS t]))):=T4 (iS.trans gu.x) Hl;have xb:cu (upd H17 l (AT (xs++[AS t]))) p (B+8+18*(i:Int)+14):=mr.upd nB;have X0:upd H17 l (AT (xs++[AS t])) l=_:=au;have kk:∀a o,OD a->H17 a=GE o->OD a/\upd H17 l (AT (xs++[AS t])) a=GE o:=λa o h e=>by
    refine⟨h,?_⟩;rw[cw] at h;rw[aL h.2];exact e
   have tt:aG OD H17 (.ref t) (stD (lo,lo+dk-1,b)):=.tup (by rw[cw];exact⟨nt,nl⟩) et (by show 3<=1000000;decide) (.cons (.int _) (.cons (.int _) (.cons (.int _) .nil)));have wT:=(rq.keep kk).append (.cons (tt.keep kk) .nil);generalize upd H17 l (AT (xs++[AS t]))=H18 at xx xb X0 wT |-;subst hk3;push_cast;rw[ag];refine⟨_,ss++[(lo,lo+dk-1,b)],lo+dk,_,_,_,_,xx,xb.le (by show B+8+18*(i:Int)+14<=B+8+18*((i+1:Nat):Int);omega),X0,by rw[BH];exact wT,by rw[AN,AQ,oT],row.snoc ω ⟨b0,ω⟩ ⟨Yf,by rw[oT];omega⟩ eD,NI.snoc hub,λs hs=>?_,λs hs=>?_,ω,by show lo+dk<=10^9+(10^12+10)*((i+1:Nat):Int);omega,rfl⟩
   ·rcases BA.mp hs with hs|hs
    ·exact sL s hs
    rw[AA.mp hs];exact b9
   rw[AN,AQ,Ha,BF (AW _),HR] at hs;cases hs;show lo+dk=lo+dk-1+1;omega
  refine iV λkt ke hkt hke=>?_;push_cast;refine⟨aR δ,λl3 hl3=>?_⟩;have ko:=aB (o:=AT []) hl3;refine⟨_,_,xs,rfl,rfl,ko _ _ X1,au,?_⟩;have lx:=ko _ _ X1;have fS:=NW.same ko;have iS:=OF.trans ko.x;have g9:=tp15.same ko;generalize upd H15 l3 (AT [])=H16 at ko lx fS iS g9 |-;have bv:=fS.length;rw[AI] at bv;cases hx:xs.isEmpty with
  | true=>
   push_cast;subst hke;push_cast;exact rest lab H16 _ _ lab0 ω (λs hs=>by rw[show ss.length=0 by cases xs with|nil=>exact bv.symm|cons a b=>cases hx] at hs;cases ss with|nil=>cases hs|cons a b=>cases i0:xs with|nil=>rw[i0] at bv;cases bv|cons c d=>rw[i0] at hx;cases hx) iS lx fS (g9.le (by show B+8+18*(i:Int)+2+2+2+2+2+2<=_;omega))
  | false=>
   have f':1<=xs.length:=by
    cases xs with
    | nil=>cases hx
    | cons a b=>simp
   have PY:xs[xs.length-1]?=GE xs[xs.length-1]:=AC ω;have i0:=afO f';rw[PY] at i0;generalize xs[xs.length-1]'ω=x at PY i0;obtain⟨ax,sx,rfl,okx,P5,ex⟩:=fS.st PY;have ic:∀s,ss[ss.length-1]?=GE s->s.2.2=sx.2.2:=λs hs=>by rw[<- bv,P5] at hs;cases hs;rfl
   push_cast[lx,i0,ex];split
   ·rename_i c1;subst hkt;push_cast;refine⟨p,2+r5-1,B+8+18*(i:Int)+2+2+2+2+2+2,rfl,g9,by show B+8+18*(i:Int)+2+2+2+2+2+2+2<=1000100;omega,ω,ω,δ,λz=>absurd z ω,λu6 H17 u60 u61 gu mr=>?_⟩;push_cast;refine⟨ω,?_⟩;have h1:=Fn (lab+1+u6) (show(2+r5:Int)≠0 by omega);have h2:=EB (lab+1+u6) (show(0:Int)<2+r5 by omega);exact rest _ H17 _ _ h1 ω (λs hs=>by rw[ic s hs,c1];exact(Pu lab0 lab1 u60 ω).symm) (iS.trans gu) (gu _ _ nB lx) (fS.keep (kd gu)) (mr.le (by show B+8+18*(i:Int)+2+2+2+2+2+2+2<=_;omega))
   rename_i c1;subst hke;push_cast;exact rest lab H16 _ _ lab0 ω (λs hs=>by rw[ic s hs];exact c1) iS lx fS (g9.le (by show B+8+18*(i:Int)+2+2+2+2+2+2<=_;omega))
 intro σ H7 pv;rw[ag] at pv;obtain⟨xs,ss,lo,o5,o6,o7,o8,dS,dr,e7,vn,oT,row,NI,sL,eD,Yf,bl2,rfl⟩:=pv;show k _ _;subst hk;push_cast;have bv:=vn.length;rw[AI] at bv;refine q l ss H7 dS (dr.le ω) (.lst nB e7 ω (vn.keep λa o h e=>?_)) ω row NI sL;rw[cw] at h;exact⟨h.1,e⟩
end
theorem Ko:Bn "MOST_IN_MASK" := ⟨ψ,ψ⟩
theorem GD:Bn "MOST_IN_TABLE" := ⟨ψ,ψ⟩
abbrev oO:List Str:=["stretches","left"]
abbrev gJ:Stmt:=top 5
theorem Bq:bx oO q3_ (aj gJ):=⟨rfl,rfl,rfl,ψ,rfl,ψ,ψ⟩
theorem p8:NM_ oO gJ 0 "stretches":=.of ψ
theorem p7:NM_ oO gJ 1 "left":=.of ψ
theorem mJ:Bn "numbers_across" := ⟨ψ,ψ⟩
abbrev lY:List Str:=["stretches","left","plan","word","ahead"]
abbrev gG:Stmt:=top 9
theorem zj:bx lY q12_ (aj gG):=⟨rfl,rfl,rfl,ψ,rfl,ψ,ψ⟩
theorem qQ:NM_ lY gG 1 "left":=.of ψ
theorem nY:NM_ lY gG 2 "plan":=.of ψ
theorem qP:NM_ lY gG 3 "word":=.of ψ
theorem wF:NM_ lY gG 4 "ahead":=.of ψ
theorem J9:GI_ gG "len":=ψ
theorem Iv:Bn "plans_in" := ⟨ψ,ψ⟩
def Jo:Sp:=λvs H Q _=>∃(s l p:V)(ok:ID->Prop)(ss:Sts)(left:List Nat)(pl:Pl),vs=[s,l,p]/\iD ok H/\aG ok H s (.list (ss.map stD))/\aG ok H l (oF left)/\aG ok H p (plD pl)/\Lf ss left /\
 ∀v H',Same H H'->aG ok H' v (.list ((kids ss pl left).map wD))->Q v H'
theorem Wb{ok:ID->Prop}{H:Hp}{p:V}{w:Str}{n:Int}{d:A9}(t:aG ok H p (.tuple [.str w,.int n,d])):∃(pa:ID)(x3:V),p=.ref pa/\H pa=GE (.tup [.str w,.int n,x3])/\aG ok H x3 d:=by
 cases t with
 | tup o e z tt=>
  cases tt with
  | cons t1 tt=>
   cases t1;cases tt with
   | cons t2 tt=>
    cases t2;cases tt with
    | cons t3 tt=>
     cases tt;exact⟨_,_,rfl,e,t3⟩
section
variable{bs:List Str}
theorem UG(hB:∀x:Str,x∈BLs->mg x=GT)(F:Fun K "numbers_across" "numbers_across" gJ f fd):cT P w K mg base CX0 1 f fd q3_ rP:=by
 refine F.okz Bq λap A outer s H vs Q E hr h=>?_;obtain⟨s,l,ok,ss,left,rfl,ts,tl,lf,q⟩:=h;refine⟨_,(aJ (aQ (aX bw (aX dY (aH aP (aH aP (ao p8) (aH aP (ao p7) (jX fM aq) (λ_ _=>rfl)) (λ_ _=>rfl)) aq (λ_ _=>rfl)) (aH aP (aH aP (ao p8) (aH aP (ao p7) aq (λ_ _=>rfl)) (λ_ _=>rfl)) aq (λ_ _=>rfl))) aq))),?_⟩;obtain⟨la,rfl,_,el,_⟩:=tl.left;replace el:H la=GE (.lst (nv left)):=el;cases ts with
 | lst o es zs bj=>
  obtain⟨k1,e1,m1,a1⟩:=JN lf.ne;obtain⟨k0,e0,m0,a0⟩:=Ce lf.ne;obtain⟨p1,x1,y1⟩:=bj.stN (lf.lt _ m1);obtain⟨p0,x0,y0⟩:=bj.stN (lf.lt _ m0);unfold dN at q;rw[e1,e0] at q;push_cast[el,a1,a0,es,x1,x0,y1,y0];exact q
theorem O7(hB:∀x:Str,x∈BLs->mg x=GT)(F:Fun K "plans_in" "plans_in" gG f fd):cT P w K mg base CX0 1 f fd q12_ Jo:=by
 refine F.okz zj λap A outer s H vs Q E hr h=>?_;obtain⟨s,l,p,ok,ss,left,pl,rfl,hn,ts,tl,tp,lf,q⟩:=h;refine⟨_,(aD (bF qP zj.nd (aH aP (ao nY) aq (λ_ _=>rfl)) Z (.inl Z))
  (aD (bH (aV (bC hr.aZ) (ao qP) bf (aM _)) (aD (uJ (NX:=lY) (kX:=(aj gG).names) ["k","plan"] [GT,GE 2] wF zj.nd Z Z ⟨rfl,ψ,ψ,ψ,ψ⟩ Z (cQ (ao qQ)) (λ_ _ _ _ _=>(cU 0 (show B8 (["k","plan"]:List Str) from by decide +kernel) Z (D8 Z))) (λ_ _ _ _ _=>(qK (aV jZ (cg 0) (aH aP (cg 1) aq (λ_ _=>rfl)) (aM _)))) (λ_ _ _ _ _=>(cg 0)))
  (aJ (aQ (bV (ak (bG (ak (ao wF) (ak (aH aP (ao nY) aq (λ_ _=>rfl)) aA))) (ak (bG (ak (lN K4 (ao qQ) (mU (bJ bD J9 (hB "len" cM) Be cN (ak (ao wF) aA))) qI) (ak (aH aP (ao nY) aq (λ_ _=>rfl)) aA))) aA)))))) bB)
  (aD (bH (aV (bC hr.aZ) (ao qP) bf (aM _)) (aJ (aQ (bV (ak (bG (ak (jE (NX:=lY) (kX:=(aj gG).names) ["k","plan","stretches"] [GT,GE 2,GE 0] Z Z ⟨rfl,ψ,ψ,ψ,ψ⟩ Z (cQ (ao qQ)) (λ_ _ _ _ _=>(cU 0 (show B8 (["k","plan","stretches"]:List Str) from by decide +kernel) Z (D8 Z))) (λ_ _ _ _ _=>(qK (aV (nP hr.aZ) (aH aP (aH aP (cg 2) (cg 0) (λ_ _=>rfl)) aq (λ_ _=>rfl)) (aH aP (cg 1) aq (λ_ _=>rfl)) (aM _)))) (λ_ _ _ _ _=>(cg 0))) (ak (aH aP (ao nY) aq (λ_ _=>rfl)) aA))) aA)))) bB)
  (aD (bH (aV (O5 hr.un1) (ao qP) (bG (ak bf (ak bf aA))) (by with_unfolding_all rfl)) (aJ (aQ (bV (ak (bG (ak (jE (NX:=lY) (kX:=(aj gG).names) ["k","plan"] [GT,GE 2] Z Z ⟨rfl,ψ,ψ,ψ,ψ⟩ Z (cQ (ao qQ)) (λ_ _ _ _ _=>(cU 0 (show B8 (["k","plan"]:List Str) from by decide +kernel) Z (D8 Z))) (λ_ _ _ _ _=>(qK (aV (nP hr.aZ) (cg 0) (aH aP (cg 1) aq (λ_ _=>rfl)) (aM _)))) (λ_ _ _ _ _=>(cg 0))) (ak (aH aP (ao nY) aq (λ_ _=>rfl)) aA))) aA)))) bB)
  (aJ (aQ (bV aA))))))),?_⟩
 obtain⟨la,rfl,nc,el,ll⟩:=tl.left;replace el:H la=GE (.lst (nv left)):=el;have oo:=ts;cases ts with
 | lst os es zs bj=>
  rename_i sa xs;obtain⟨ks,jI⟩:∃ks,ks=kids ss pl left:=⟨_,rfl⟩;rw[<- jI] at q;have hk:∃(wd:Str)(r:List V)(pa:ID),p=.ref pa/\H pa=GE (.tup (At wd::r)) /\
    ((wd = "below" /\ ∃(k:Nat)(x3 x4:V)(a b:Pl),r=[.int (k:Int),x3,x4]/\aG ok H x3 (plD a)/\aG ok H x4 (plD b)/\ks=[(left.filter (· < k),a),(left.filter (k<=·),b)]) \/
    (wd ≠ "below" /\ ((wd = "mask" /\ ∃(l:Int)(x3:V)(a:Pl),r=[.int l,x3]/\aG ok H x3 (plD a)/\ks=[(left.filter λk=>(aO ss k).2.2≠l,a)]) \/
    (wd ≠ "mask" /\ (([("is" : Str), "within"].any (wM (.str wd))=true/\∃(k:Nat)(x3:V)(a:Pl),r=[.int (k:Int),x3]/\aG ok H x3 (plD a)/\ks=[(left.filter (·≠k),a)])\/([("is" : Str), "within"].any (wM (.str wd))=false/\ks=[])))))):=by
   cases pl with
   | pick l=>
    cases tp with
    | tup o e z tt=>
     cases tt with
     | cons t1 tt=>
      cases t1;exact⟨_,_,_,rfl,e,.inr ⟨ψ,.inr ⟨ψ,.inr ⟨ψ,jI⟩⟩⟩⟩
   | tab=>
    cases tp with
    | tup o e z tt=>
     cases tt with
     | cons t1 tt=>
      cases t1;exact⟨_,_,_,rfl,e,.inr ⟨ψ,.inr ⟨ψ,.inr ⟨ψ,jI⟩⟩⟩⟩
   | low k a b=>
    cases tp with
    | tup o e z tt=>
     cases tt with
     | cons t1 tt=>
      cases t1;cases tt with
      | cons t2 tt=>
       cases t2;cases tt with
       | cons t3 tt=>
        cases tt with
        | cons t4 tt=>
         cases tt;exact⟨_,_,_,rfl,e,.inl ⟨rfl,k,_,_,a,b,rfl,t3,t4,jI⟩⟩
   | msk l r=>
    obtain⟨pa,x3,rfl,e,t3⟩:=Wb tp;exact⟨_,_,_,rfl,e,.inr ⟨ψ,.inl ⟨rfl,l,_,r,rfl,t3,jI⟩⟩⟩
   | one k r=>
    obtain⟨pa,x3,rfl,e,t3⟩:=Wb tp;exact⟨_,_,_,rfl,e,.inr ⟨ψ,.inr ⟨ψ,.inl ⟨ψ,k,_,r,rfl,t3,jI⟩⟩⟩⟩
   | wit k r=>
    obtain⟨pa,x3,rfl,e,t3⟩:=Wb tp;exact⟨_,_,_,rfl,e,.inr ⟨ψ,.inr ⟨ψ,.inl ⟨ψ,k,_,r,rfl,t3,jI⟩⟩⟩⟩
  obtain⟨wd,r,pa,rfl,e,hk⟩:=hk;clear tp jI;refine aK λkk hkk=>?_;push_cast[e];subst hkk;refine aK λkk hkk=>?_;refine iV λkt ke hkt hke=>?_;push_cast;rcases hk with⟨h1,k,x3,x4,a,b,rfl,t3,t4,rfl⟩|⟨h1,hk⟩
  ·rw[if_pos h1];clear hke hkk;subst hkt;push_cast[e];refine iH λR hR=>?_;push_cast[el];refine kW (· < k) (λτ=>∃o0,τ=[o0,GE (.ref pa)]) hR el ll ⟨_,rfl⟩ ?_ ?_
   ·rintro i k' τ ac Pn hk ⟨o0,rfl⟩ h1 h2;push_cast[e];by_cases c:k'<k
    ·rw[if_pos (show((k':Nat):Int)<(k:Int) by omega)];exact h1 (by simpa using c) _ ⟨_,rfl⟩
    rw[if_neg (show ¬((k':Nat):Int)<(k:Int) by omega)];exact h2 (by simpa using c) _ ⟨_,rfl⟩
   intro d hd;have s2:=aB (o:=AT (nv (left.filter (· < k)))) hd;have e2:=s2 _ _ e;have xE:=hn.new hd;have oq:=t3.same s2;have T2:=t4.same s2;have lv:=s2 _ _ el;have ed:upd H d (AT (nv (left.filter (· < k)))) d=_:=au;have ib:=hn.same s2;generalize upd H d (AT (nv (left.filter (· < k))))=H2 at s2 e2 oq T2 lv ed ib |-;push_cast[e2];refine⟨aR δ,λt5 ht5=>?_⟩;have s3:=aB (o:=By [AS d,x3]) ht5;have e3:=s3 _ _ e2;have gg:=s3 _ _ lv;have oj:=s3 _ _ ed;have Nd:upd H2 t5 (By [AS d,x3]) t5=_:=au;have Me:=ib.new ht5;have MO:=ib.same s3;have Up:=oq.same s3;have TZ:=T2.same s3;generalize upd H2 t5 (By [AS d,x3])=H3 at s3 e3 gg oj Nd MO Up TZ |-;push_cast[oj,gB,gg];intro d6 hd6;rw[Vx lf.up];have s6:=aB (o:=AT (nv (left.filter (k<=·)))) hd6;have e6:=s6 _ _ e3;have LO:upd H3 d6 (AT (nv (left.filter (k<=·)))) d6=_:=au;have OX:=MO.new hd6;have kA:=MO.same s6;have LP:=s6 _ _ oj;have IN:=s6 _ _ Nd;have Uf:=Up.same s6;have TW:=TZ.same s6;generalize upd H3 d6 (AT (nv (left.filter (k<=·))))=H6 at s6 e6 LO kA LP IN Uf TW |-;push_cast[e6];refine⟨aR δ,λt7 ht7=>⟨aR δ,λr8 hr8=>?_⟩⟩;have s7:=aB (o:=By [AS d6,x4]) ht7;have s8:=aB (o:=AT [AS t5,AS t7]) hr8;have vE:=s7.trans s8;refine q _ _ (((s2.trans s3).trans s6).trans vE) (.lst (kA.new (Cw hr8).1) au (by show 2<=1000000;decide) (.cons (.tup Me (vE _ _ IN) (by show 2<=1000000;decide) (.cons (dB xE (vE _ _ LP) (Cn (D0 _ _) ll)) (.cons (Uf.same vE) .nil))) (.cons (.tup (kA.new ht7) (s8 _ _ au) (by show 2<=1000000;decide) (.cons (dB OX (vE _ _ LO) (Cn (D0 _ _) ll)) (.cons (TW.same vE) .nil))) .nil)))
  rw[if_neg h1];clear hkt;subst hke;push_cast;subst hkk;refine aK λkk hkk=>?_;refine iV λkt ke hkt hke=>?_;push_cast;rcases hk with⟨h2,l,x3,a,rfl,t3,rfl⟩|⟨h2,hk⟩
  ·rw[if_pos h2];clear hke hkk;subst hkt;push_cast[e];refine iH λR hR=>?_;push_cast[el];refine kW (λk=>(aO ss k).2.2≠l) (λτ=>∃o0,τ=[o0,GE (.ref pa),GE (.ref sa)]) hR el ll ⟨_,rfl⟩ ?_ ?_
   ·rintro i k' τ ac Pn hk ⟨o0,rfl⟩ h1 h2;obtain⟨sk,x1,y1⟩:=bj.stN (lf.lt _ (AU hk));push_cast[e,es,x1,y1];by_cases c:(aO ss k').2.2=l
    ·rw[decide_eq_true c,EO,if_neg δ];exact h2 (by simpa using c) _ ⟨_,rfl⟩
    rw[decide_eq_false c,D4,if_pos rfl];exact h1 (by simpa using c) _ ⟨_,rfl⟩
   intro d hd;have s2:=aB (o:=AT (nv (left.filter λk=>(aO ss k).2.2≠l))) hd;have e2:=s2 _ _ e;have xE:=hn.new hd;have oq:=t3.same s2;have ed:upd H d (AT (nv (left.filter λk=>(aO ss k).2.2≠l))) d=_:=au;have ib:=hn.same s2;generalize upd H d (AT (nv (left.filter λk=>(aO ss k).2.2≠l)))=H2 at s2 e2 oq ed ib |-;push_cast[e2];refine⟨aR δ,λt2 ht2=>⟨aR δ,λr2 hr2=>?_⟩⟩;have s3:=aB (o:=By [AS d,x3]) ht2;have s4:=aB (o:=AT [AS t2]) hr2;have lP:=s3.trans s4;refine q _ _ (s2.trans lP) (.lst (ib.new (Cw hr2).1) au (by show 1<=1000000;decide) (.cons (.tup (ib.new ht2) (s4 _ _ au) (by show 2<=1000000;decide) (.cons (dB xE (lP _ _ ed) (Cn (D0 _ _) ll)) (.cons (oq.same lP) .nil))) .nil))
  rw[if_neg h2];clear hkt;subst hke;push_cast;subst hkk;refine aK λkk hkk=>?_;refine iV λkt ke hkt hke=>?_;push_cast;refine⟨aR δ,λt ht=>?_⟩;have s1:=aB (o:=By [At "is",At "within"]) ht;refine⟨t,["is","within"],.str wd,ok,rfl,au,.str _,?_⟩;have e1:=s1 _ _ e;have eP:=s1 _ _ el;have tJ:=hn.same s1;rcases hk with⟨h3,k,x3,a,rfl,t3,rfl⟩|⟨h3,rfl⟩
  ·rw[h3];have UA:=t3.same s1;generalize upd H t (By [At "is",At "within"])=H1 at s1 e1 eP UA tJ |-;refine⟨_,rfl,?_⟩;rw[if_pos rfl];clear hke hkk;subst hkt;push_cast;refine iH λR hR=>?_;push_cast[eP];refine kW (·≠k) (λτ=>∃o0,τ=[o0,GE (.ref pa)]) hR eP ll ⟨_,rfl⟩ ?_ ?_
   ·rintro i k' τ ac Pn hk ⟨o0,rfl⟩ h1 h2;push_cast[e1];by_cases c:k'=k
    ·subst c;rw[decide_eq_true (show((k':Nat):Int)=(k':Int) from Z),EO,if_neg δ];exact h2 ζ _ ⟨_,rfl⟩
    rw[decide_eq_false (show ¬((k':Nat):Int)=(k:Int) by omega),D4,if_pos rfl];exact h1 (by simpa using c) _ ⟨_,rfl⟩
   intro d hd;have s2:=aB (o:=AT (nv (left.filter (·≠k)))) hd;have e2:=s2 _ _ e1;have xE:=tJ.new hd;have oq:=UA.same s2;have ed:upd H1 d (AT (nv (left.filter (·≠k)))) d=_:=au;have ib:=tJ.same s2;generalize upd H1 d (AT (nv (left.filter (·≠k))))=H2 at s2 e2 oq ed ib |-;push_cast[e2];refine⟨aR δ,λt2 ht2=>⟨aR δ,λr2 hr2=>?_⟩⟩;have s3:=aB (o:=By [AS d,x3]) ht2;have s4:=aB (o:=AT [AS t2]) hr2;have lP:=s3.trans s4;refine q _ _ ((s1.trans s2).trans lP) (.lst (ib.new (Cw hr2).1) au (by show 1<=1000000;decide) (.cons (.tup (ib.new ht2) (s4 _ _ au) (by show 2<=1000000;decide) (.cons (dB xE (lP _ _ ed) (Cn (D0 _ _) ll)) (.cons (oq.same lP) .nil))) .nil))
  rw[h3];clear hkt;generalize upd H t (By [At "is",At "within"])=H1 at s1 e1 eP tJ |-;refine⟨_,rfl,?_⟩;rw[if_neg δ];subst hke;push_cast;subst hkk;push_cast;exact⟨aR δ,λr hr=>q _ _ (s1.trans (aB hr)) (.lst (hn.new (s1.none hr)) au (by show 0<=1000000;decide) .nil)⟩
abbrev oN:List Str:=["stretches","plan","steps","waiting","left","part"]
abbrev fC:Stmt:=top 11
theorem pQ:bx oN q9_ (aj fC):=⟨rfl,rfl,rfl,ψ,rfl,ψ,ψ⟩
theorem DR:NM_ oN fC 0 "stretches":=.of ψ
theorem Pb:NM_ oN fC 1 "plan":=.of ψ
theorem wB:NM_ oN fC 2 "steps":=.of ψ
theorem qN:NM_ oN fC 3 "waiting":=.of ψ
theorem wA:NM_ oN fC 4 "left":=.of ψ
theorem wz:NM_ oN fC 5 "part":=.of ψ
theorem J8:GI_ fC "len":=ψ
theorem Gr:GI_ fC "list":=ψ
theorem z7:GI_ fC "plans_in":=ψ
theorem Ez:GI_ fC "range":=ψ
theorem V3:Bn "steps_of" := ⟨ψ,ψ⟩
theorem Yt(hB:∀x:Str,x∈BLs->mg x=GT)(CPlansIn:Cal P w K mg base "plans_in" 1 q12_ Jo)(F:Fun K "steps_of" "steps_of" fC f fd):cT P w K mg base CX0 2 f fd q9_ KN:=by
 refine F.okz pQ λap A outer s H vs Q E hr h=>?_;obtain⟨s,p,ok,ss,pl,rfl,hn,ts,tp,gI,hsz,UO,q⟩:=h;refine⟨_,(aD (bF wB pQ.nd (bV aA) Z (.inl Z))
  (aD (bF qN pQ.nd (bV (ak (bG (ak (Dk Z Gr (hB "list" uY) Ez (hB "range" lU) (ak (bJ bD J8 (hB "len" cM) Be cN (ak (ao DR) aA)) aA)) (ak (ao Pb) aA))) aA)) Z (.inl Z))
  (aD (pX BB (zu (ao qN)) (aD (jD (JH (ao qN)) (cV (n:=2) Z (aU (bK wA pQ.nd (.inl Z)) (aU (bK wz pQ.nd (.inl Z)) cB))))
  (aD (fj (jF (ao wB) (bG (ak (ao wA) (ak (ao wz) aA)))))
  (aJ (fj (Ca (ao qN) (bA CPlansIn (hr.mono δ) z7 Iv (ak (ao DR) (ak (ao wA) (ak (ao wz) aA))))))))))
  (aJ (aQ (ao wB)))))),?_⟩
 refine aK λk hk=>?_;push_cast;refine⟨aR δ,λls hls=>?_⟩;have s0:=aB (o:=AT []) hls;have els:upd H ls (AT []) ls=_:=au;generalize upd H ls (AT [])=H0 at s0 els |-;subst hk;refine aK λk hk=>?_;have oo:=ts;cases ts with
 | lst os es zs bj=>
  rename_i sa xw;have oT:=bj.length;rw[AI] at oT;have es0:=s0 _ _ es;push_cast[es0];refine⟨⟨ω,ω⟩,aR ω,λla ix=>⟨aR δ,λta hta=>⟨aR δ,λlw hlw=>?_⟩⟩⟩;rw[show Di 0 ((xw.length:Int)-0).toNat=nv (AK ss.length) by
   unfold Di nv;rw[show((xw.length:Int)-0).toNat=ss.length by omega];refine JP λk _=>?_;rw[Int.zero_add]] at hta hlw |-
  have u1:=aB (o:=AT (nv (AK ss.length))) ix;have u2:=aB (o:=By [AS la,p]) hta;have u3:=aB (o:=AT [AS ta]) hlw;have f1:=(u2.trans u3) _ _ (show upd H0 la (AT (nv (AK ss.length))) la=_ from au);have f2:=u3 _ _ (show upd (upd H0 la (AT (nv (AK ss.length)))) ta (By [AS la,p]) ta=_ from au);have f3:upd (upd (upd H0 la (AT (nv (AK ss.length)))) ta (By [AS la,p])) lw (AT [AS ta]) lw=_:=au;have u:=(u1.trans u2).trans u3;have Hla:H la=GT:=s0.none ix;have Hta:H ta=GT:=(s0.trans u1).none hta;have Hlw:H lw=GT:=((s0.trans u1).trans u2).none hlw;have Lu:=u _ _ els;have UQ:la≠ls:=(aF els ix).symm;have Pe:ta≠ls:=(aF (u1 _ _ els) hta).symm;have Pm:lw≠ls:=(aF ((u1.trans u2) _ _ els) hlw).symm;have sD:la≠lw:=aF (u2 _ _ (show upd H0 la (AT (nv (AK ss.length))) la=_ from au)) hlw;have sC:ta≠lw:=aF (show upd (upd H0 la (AT (nv (AK ss.length)))) ta (By [AS la,p]) ta=_ from au) hlw;have s1:=s0.trans u;generalize upd (upd (upd H0 la (AT (nv (AK ss.length)))) ta (By [AS la,p])) lw (AT [AS ta])=H1 at u3 f1 f2 f3 u Lu s1 |-;obtain⟨OD,cw⟩:∃OD:ID->Prop,OD=λx=>ok x/\x≠ls/\x≠lw:=⟨_,rfl⟩;have up:∀a o,ok a->H a=GE o->OD a/\H1 a=GE o:=λa o h e=>by
   rw[cw];exact⟨⟨h,aF e hls,aF e Hlw⟩,s1 _ _ e⟩
  have wS:aG OD H1 (.ref sa) (.list (ss.map stD)):=oo.keep up;have N4:aG OD H1 p (plD pl):=tp.keep up;have sv:OD la:=by rw[cw];exact⟨hn.new Hla,UQ,sD⟩
  have sr:OD ta:=by rw[cw];exact⟨hn.new Hta,Pe,sC⟩
  have tw:aN OD H1 [AS ta] ([(AK ss.length,pl)].map wD):=.cons (.tup sr f2 (by show 2<=1000000;decide) (.cons (dB sv f1 (by rw[DL];omega)) (.cons N4 .nil))) .nil;subst hk;refine aK λk hk=>?_;obtain⟨Pv,ag⟩:∃Pv:Nat->L2.St->Hp->Prop,Pv=λm σ H'=>∃(W S:List (List Nat×Pl)) (xs ys:List V) (o4 o5:Option V),m=jw W/\Same H H'/\H' lw=GE (.lst xs)/\aN OD H' xs (W.map wD)/\H' ls=GE (.lst ys)/\aN OD H' ys (S.map wD)/\(∀x∈W,xH ss x.2 x.1)/\(∀x∈S,xH ss x.2 x.1) /\
   S++jy ss W=bh ss pl (AK ss.length)/\S.length+jw W<=4000/\aG OD H' (.ref sa) (.list (ss.map stD))/\σ=[GE (.ref sa),GE p,GE (.ref ls),GE (.ref lw),o4,o5]:=⟨_,rfl⟩
  refine⟨Pv,⟨jw [(AK ss.length,pl)],?_⟩,?_⟩
  ·rw[ag];refine⟨[(AK ss.length,pl)],[],_,_,_,_,rfl,s1,f3,tw,Lu,.nil,?_,?_,?_,?_,wS,rfl⟩
   ·intro x hx;rw[AA.mp hx];exact UO
   ·intro x hx;cases hx
   ·rw[G0,nF]
   simp[jw];exact hsz
  intro m σ H2 pv;rw[ag] at pv;obtain⟨W,S,xs,ys,o4,o5,rfl,s2,SU,tW,Lo,tS,xF,okS,yl,am,rj,rfl⟩:=pv;have bv:=tW.length;rw[AI] at bv;have nh:=tS.length;rw[AI] at nh;push_cast[SU];cases hx:xs.isEmpty with
  | true=>
   have hW:W=[]:=BQ.mp (by rw[F8] at hx;omega);subst hW;push_cast;subst hk;push_cast;have hS:S=bh ss pl (AK ss.length):=by
    rw[<- yl];exact(DH S).symm
   rw[<- hS] at q;refine q (.ref ls) H2 s2 (.lst (hn.new hls) Lo ω (tS.keep λa o h e=>?_));rw[cw] at h;exact⟨h.1,e⟩
  | false=>
   have Si:0<W.length:=by
    rw[<- bv];cases xs with
    | nil=>cases hx
    | cons a b=>simp
   obtain⟨W0,⟨left,p1⟩,rfl⟩:=kJ W Si;push_cast;refine⟨λσ' H'=>∃m',m'<jw (W0++[(left,p1)])/\Pv m' σ' H',λσ' H' h=>h,?_⟩;rw[BH] at tW;obtain⟨Oy,y,hy,ty⟩:=aN.dropLast tW;refine⟨y,hy,?_⟩;have sj:=xF (left,p1) ζ;have kk:∀(H':Hp)(o':HO) a o,OD a->H' a=GE o->OD a/\upd H' lw o' a=GE o:=λH' o' a o h e=>by
    refine⟨h,?_⟩;rw[cw] at h;rw[aL h.2.2];exact e
   have ks:∀(H':Hp)(o':HO) a o,OD a->H' a=GE o->OD a/\upd H' ls o' a=GE o:=λH' o' a o h e=>by
    refine⟨h,?_⟩;rw[cw] at h;rw[aL h.2.1];exact e
   have s3:Same H (upd H2 lw (AT xs.dropLast)):=cD s2 Hlw;have wx:=ty.keep (kk H2 (AT xs.dropLast));have xt:=Oy.keep (kk H2 (AT xs.dropLast));have vw:=tS.keep (kk H2 (AT xs.dropLast));have gX:=rj.keep (kk H2 (AT xs.dropLast));have km:upd H2 lw (AT xs.dropLast) lw=_:=au;have oe:upd H2 lw (AT xs.dropLast) ls=_:=(aL Pm.symm).trans Lo;generalize upd H2 lw (AT xs.dropLast)=H3 at s3 wx xt vw gX km oe |-;cases wx with
   | tup oy ey zy tty=>
    cases tty with
    | cons tl tty=>
     cases tty with
     | cons L1 tty=>
      cases tty;rename_i ya xl xp;push_cast[ey,oe,xK,Ck];refine⟨aR δ,λt2 ht2=>?_⟩;have s4:=aB (o:=By [xl,xp]) ht2;have Lm:=s4 _ _ oe;have ki:=s4 _ _ km;have TR:=vw.same s4;have xo:=xt.same s4;have vt:=tl.same s4;have rL:=L1.same s4;have wP:=gX.same s4;have qk:upd H3 t2 (By [xl,xp]) t2=_:=au;have lP:=s3.trans s4;have OW:OD t2:=by rw[cw];exact⟨hn.new (s3.none ht2),(aF oe ht2).symm,(aF km ht2).symm⟩
      generalize upd H3 t2 (By [xl,xp])=H4 at s4 Lm ki TR xo vt rL wP qk lP |-;push_cast[Lm];refine⟨CM (show ys.length<=1000000 by omega) δ,?_⟩;have NR:aG OD H4 (.ref t2) (wD (left,p1)):=.tup OW qk (by show 2<=1000000;decide) (.cons vt (.cons rL .nil));have vv:=(TR.keep (ks H4 (AT (ys++[AS t2])))).append (.cons (NR.keep (ks H4 (AT (ys++[AS t2])))) .nil);have Os:=xo.keep (ks H4 (AT (ys++[AS t2])));have TM:=vt.keep (ks H4 (AT (ys++[AS t2])));have w8:=rL.keep (ks H4 (AT (ys++[AS t2])));have rh:=wP.keep (ks H4 (AT (ys++[AS t2])));have u7:upd H4 ls (AT (ys++[AS t2])) ls=_:=au;have n5:upd H4 ls (AT (ys++[AS t2])) lw=_:=(aL Pm).trans ki;have s5:Same H (upd H4 ls (AT (ys++[AS t2]))):=cD lP hls;generalize upd H4 ls (AT (ys++[AS t2]))=H5 at vv Os TM w8 rh u7 n5 s5 |-;have hn5:iD OD H5:=by rw[cw];exact YK hn s5 u7 n5
      push_cast[n5,uZ];refine⟨_,_,_,OD,ss,left,p1,rfl,hn5,rh,TM,w8,sj.lf,λv H6 s6 t6=>?_⟩;cases t6 with
      | lst or er zr tr=>
       rename_i r zs;have uS:=s6 _ _ n5;have SV:=s6 _ _ u7;push_cast[yR,uS,er,Kc];have iX:=tr.length;rw[AI] at iX;have bg:(kids ss p1 left).length<=2:=by cases p1 <;> simp[kids]
       have Sj:=Os.length;rw[AI] at Sj;have hWs:W0.length<=jw W0:=RW W0;rw[lF] at am;refine⟨aR ω,jw (W0++kids ss p1 left),?_,?_⟩
       ·rw[lF,lF];have:=xO ss p1 left;simp only[jw,DI,map_nil,sum_cons,sum_nil] at this |-;omega
       rw[ag];refine⟨W0++kids ss p1 left,S++[(left,p1)],_,_,_,_,rfl,cD (s5.trans s6) Hlw,au,?_,(aL Pm.symm).trans SV,?_,?_,?_,?_,?_,(rh.same s6).keep (kk H6 _),rfl⟩
       ·rw[BH];exact((Os.same s6).keep (kk H6 _)).append (tr.keep (kk H6 _))
       ·rw[BH];exact(vv.same s6).keep (kk H6 _)
       ·intro x hx;rcases BA.mp hx with z|z
        ·exact xF x (BN _ z)
        exact sj.kids x z
       ·intro x hx;rcases BA.mp hx with z|z
        ·exact okS x z
        rw[AA.mp z];exact sj
       ·rw[<- yl,wk,wk,nF,CS];show S++((left,p1)::(jy ss (kids ss p1 left)++jy ss W0))=S++(bh ss p1 left++jy ss W0);rw[qx ss p1 left];rfl
       rw[lF,AN,AQ];have:=xO ss p1 left;have h4:jw [(left,p1)]=aW p1:=by simp[jw]
       omega
abbrev fZ:List Str:=["steps","told","open_tests","place","left","part"]
abbrev cX:Stmt:=top 12
theorem gq:bx fZ ["steps"] (aj cX):=⟨rfl,rfl,rfl,ψ,rfl,ψ,ψ⟩
theorem tE:NM_ fZ cX 0 "steps":=.of ψ
theorem n6:NM_ fZ cX 1 "told":=.of ψ
theorem nZ:NM_ fZ cX 2 "open_tests":=.of ψ
theorem gO:NM_ fZ cX 3 "place":=.of ψ
theorem DY:NM_ fZ cX 4 "left":=.of ψ
theorem tD:NM_ fZ cX 5 "part":=.of ψ
theorem qX:GI_ cX "enumerate":=ψ
theorem Gz:Bn "places_ahead" := ⟨ψ,ψ⟩
theorem YF(hB:∀x:Str,x∈BLs->mg x=GT)(F:Fun K "places_ahead" "places_ahead" cX f fd):cT P w K mg base CX0 1 f fd ["steps"] Rn:=by
 refine F.okz gq λap A outer s H vs Q E hr h=>?_;obtain⟨l,ok,ss,pl,left,rfl,t,hsz,q⟩:=h;refine⟨_,(aD (bF n6 gq.nd Ox Z (.inl Z))
  (aD (bF nZ gq.nd (bV aA) Z (.inl Z))
  (aD (fG BB Z (uL qX (hB "enumerate" fW) (ak (ao tE) aA)) (cV (n:=2) Z (aU (bK gO gq.nd (.inl Z)) (aU (cV (n:=2) Z (aU (bK DY gq.nd (.inl Z)) (aU (bK tD gq.nd (.inl Z)) cB))) cB)))
  (aD (bH (pW (lZ (aV RP (ao gO) aq (aM _)) (jC (aV (O5 hr.un1) (aH aP (aH aP (aH aP (ao tE) (aX dY (ao gO) aq) (λ_ _=>rfl)) aq (λ_ _=>rfl)) aq (λ_ _=>rfl)) (bG (ak bf (ak bf aA))) (by with_unfolding_all rfl))))) (aJ (acX hr.qw (ao n6) (JH (ao nZ)) (ao gO) Z)) bB)
  (aJ (bH (aV (bC hr.aZ) (aH aP (ao tD) aq (λ_ _=>rfl)) bf (aM _)) (aJ (fj (jF (ao nZ) (ao gO)))) bB))) (λ_=>rfl))
  (aJ (aQ (ao n6)))))),?_⟩
 have eT:=kY pl 0;have ii:=PB ss pl left;have ar:=BW.start ss pl left;have kM:=gm ss pl left;have a7:bh ss pl left≠[]:=by rw[qx];exact List.cons_ne_nil _ _
 generalize bh ss pl left=S at t ii ar kM a7;generalize bU pl 0=gp at eT ar q;cases t with
 | lst o el zl ts=>
  rename_i xs;have bv:=ts.length;rw[AI] at bv;refine aK λk hk=>?_;push_cast[Jj];intro d hd;have s0:=aB (o:=HO.dK []) hd;have e0:upd H d (HO.dK []) d=_:=au;generalize upd H d (HO.dK [])=H0 at s0 e0 |-;subst hk;refine aK λk hk=>?_;push_cast;refine⟨aR δ,λlo jp=>?_⟩;have Mo:d≠lo:=λz=>by rw[z,jp] at e0;cases e0
  have s1:=s0.trans (aB (o:=AT []) jp);have e1:upd H0 lo (AT []) lo=_:=au;have XU:upd H0 lo (AT []) d=_:=(aL Mo).trans e0;have yB:H lo=GT:=s0.none jp;generalize upd H0 lo (AT [])=H1 at s1 e1 XU |-;subst hk;refine aK λk hk=>?_;refine jr λR hR=>?_;have eP:=s1 _ _ el;push_cast[Bd,eP];refine⟨⟨_,SqL.of eP⟩,?_⟩;obtain⟨Pv,ag⟩:∃Pv:Nat->L2.St->Hp->Prop,Pv=λ(i:Nat) σ H'=>∃(C:List (List Nat×Pl)) (T:List Nat) (done:List (Nat×Nat)) (o3 o4 o5:Option V),Same H H'/\H' d=GE (.dK (encA done))/\H' lo=GE (.lst (nv T.reverse))/\BW ss S gp i C T done/\T.length<=i/\done.length<=i/\σ=[GE (.ref l),GE (.ref d),GE (.ref lo),o3,o4,o5]:=⟨_,rfl⟩;refine MT hR (xs:=xs) Pv (by rw[ag];exact⟨_,[],[],_,_,_,s1,XU,e1,ar,AW _,AW _,rfl⟩) (λi σ H' pv=>?_) ?_ ?_
  ·rw[ag] at pv;obtain⟨_,_,_,_,_,_,s',_⟩:=pv;exact s' _ _ el
  ·intro i x σ H2 p hx pv hp;rw[ag] at pv;obtain⟨C,T,done,o3,o4,o5,s2,fF,XI,ah,WH,hdi,rfl⟩:=pv;have s3:=aB (o:=By [As (i:Int),x]) hp;have ep:upd H2 p (By [As (i:Int),x]) p=_:=au;have ox:=s2.trans s3;have oj:=s3 _ _ fF;have SS:=s3 _ _ XI;generalize upd H2 p (By [As (i:Int),x])=H3 at s3 ep ox oj SS |-;have rn:=ts.same ox;have gg:=ox _ _ el;obtain⟨dx,p5,xi⟩:=rn.get hx;rw[AZ] at p5;obtain⟨y,hy,rfl⟩:=B5.mp p5;obtain⟨px,vs,rfl,K0,fR⟩:=aG.pB xi;obtain⟨vl,r,rfl,tl,fR⟩:=fR.cI;obtain⟨vp,r,rfl,tp,fR⟩:=fR.cI;obtain rfl:r=[]:=BQ.mp fR.length;obtain⟨pa,si,rfl,eM,ce⟩:=tp.Dm;obtain⟨T1,ay,hc,⟨r,ia⟩,ge⟩:=ah.step hy;have Sl:T1.length<=i:=by
    rcases hc with⟨_,rfl,_⟩|⟨_,t,rfl,_⟩
    ·exact WH
    rw[BG] at WH;omega
   have WF:ay.length<=i+1:=by
    rcases hc with⟨_,_,rfl⟩|⟨_,t,_,rfl⟩
    ·omega
    rw[AN,AQ];omega
   have hi9:i<1000000:=by have:=(AB.mp hx).1;omega
   have tail:∀H4,Same H3 H4\/Same H H4->H4 d=GE (.dK (encA ay))->H4 lo=GE (.lst (nv T1.reverse))->Same H H4->H4 pa=GE (.tup si)->ixq (H4 pa) 0 H4 λx H1=>Uc x (At "below") H1 λx H'=>∃k,x=V.bl k/\if k=true then isq (H' lo)/\apq (H' lo) lo (As (i:Int)) H' λx H1=>Pv (i+1) [GE (AS l),GE (AS d),GE (AS lo),GE (As (i:Int)),GE vl,GE (AS pa)] H1 else Pv (i+1) [GE (AS l),GE (AS d),GE (AS lo),GE (As (i:Int)),GE vl,GE (AS pa)] H':=by
    intro H4 _ gS qr s4 eL;push_cast[eL,ce];rcases ge with⟨kk,a,b,kR,C',Th⟩|⟨kR,C',Th⟩
    ·rw[kR];rw[if_pos (show dj (.low kk a b) = "below" from Z)];push_cast[qr];refine⟨CM (show(nv T1.reverse).length<=1000000 by rw[gB,JO];omega) δ,?_⟩;rw[ag];refine⟨C',i::T1,ay,_,_,_,cD s4 yB,(aL Mo).trans gS,?_,Th,by rw[BG];omega,WF,rfl⟩;rw[au,reverse_cons,Pa];rfl
    rw[if_neg (Tf kR),ag];exact⟨C',T1,ay,_,_,_,s4,gS,qr,Th,ω,WF,rfl⟩
   push_cast[ep,K0];cases i with
   | zero=>
    rw[if_neg δ];rcases hc with⟨_,rfl,rfl⟩|⟨z,_⟩
    ·exact tail H3 (.inl (Same.refl _)) oj SS ox eM
    cases z
   | succ i'=>
    rw[if_pos ω];have l7:i'<S.length:=by have:=(AB.mp hy).1;omega
    obtain⟨y',oP⟩:∃y',S[i']?=GE y':=⟨_,AC l7⟩;have yT:oG S (i'+1)=iG y'.2:=by
     show(match S[i']? with|some x=>iG x.2|none=>false)=_
     rw[oP]
    have U2:xs[i']?=GE xs[i']:=AC ω;obtain⟨dx2,zh,Of⟩:=rn.get U2;rw[AZ,oP] at zh;cases zh;obtain⟨ZE,vs2,ex2,SF,kF⟩:=aG.pB Of;obtain⟨vl2,r2,rfl,tl2,kF⟩:=kF.cI;obtain⟨vp2,r2,rfl,g7,kF⟩:=kF.cI;obtain rfl:r2=[]:=BQ.mp kF.length;obtain⟨pa2,ZB,rfl,SK,sN⟩:=g7.Dm;have uv:atI xs (((i'+1:Nat):Int)-1)=GE (.ref ZE):=by
     have:=bO U2;rw[ex2] at this;rw[show((i'+1:Nat):Int)-1=(i':Int) by omega];exact this
    push_cast[gg,uv,SF,SK,sN];refine⟨aR δ,λpt hpt=>?_⟩;have s4:=aB (o:=By [At "pick",At "table"]) hpt;have kg:upd H3 pt (By [At "pick",At "table"]) pt=_:=au;have gS:=s4 _ _ oj;have qr:=s4 _ _ SS;have eL:=s4 _ _ eM;have sf:=ox.trans s4;generalize upd H3 pt (By [At "pick",At "table"])=H4 at s4 kg gS qr eL sf |-;refine⟨pt,[("pick" : Str), "table"],.str (dj y'.2),λ_=>True,rfl,kg,.str _,iG y'.2,by rw[<- U9];rfl,?_⟩;cases hl:iG y'.2 with
    | false=>
     rw[if_neg δ];rcases hc with⟨_,rfl,rfl⟩|⟨z,_⟩
     ·exact tail H4 (.inl s4) gS qr sf eL
     rw[yT,hl] at z;cases z
    | true=>
     rw[if_pos rfl];rcases hc with⟨z,_⟩|⟨_,t,rfl,rfl⟩
     ·rw[yT,hl] at z;cases z
     have Qr:nv (t::T1).reverse=nv T1.reverse++[As (t:Int)]:=by rw[reverse_cons,Pa];rfl
     rw[Qr] at qr;have eD:(nv T1.reverse++[As (t:Int)])[(nv T1.reverse++[As (t:Int)]).length-1]?=GE (As (t:Int)):=by
      rw[AN,AQ,Ha,BF (AW _),HR];rfl
     have QY:t∉done.map (·.1):=λhm=>by
      rw[ia,BH,BH,CS,GO] at eT;exact eT.2.2 t hm t ζ rfl
     push_cast[rdA,qr];refine⟨_,eD,?_⟩;rw[List.dropLast_concat];have gN:upd H4 lo (AT (nv T1.reverse)) d=GE (.dK (encA done)):=(aL Mo).trans gS;have XG:upd H4 lo (AT (nv T1.reverse)) lo=_:=au;have OO:Same H (upd H4 lo (AT (nv T1.reverse))):=cD sf yB;have npa:pa≠lo:=λz=>by rw[z,qr] at eL;cases eL
     have n4:upd H4 lo (AT (nv T1.reverse)) pa=_:=(aL npa).trans eL;generalize upd H4 lo (AT (nv T1.reverse))=H5 at gN XG OO n4 |-;refine⟨d,_,rfl,QV.k (k:=B6 (t:Int)) gN (by rw[ZG];exact CM (show done.length<=1000000 by omega) δ),?_⟩;rw[ZF QY];have Z':pa≠d:=λz=>by rw[z,gN] at n4;cases n4
     push_cast;exact tail _ (.inr (cD OO hd)) au ((aL Mo.symm).trans XG) (cD OO hd) ((aL Z').trans n4)
  intro σ H2 pv;rw[ag] at pv;obtain⟨C,T,done,o3,o4,o5,s2,fF,XI,ah,_,_,rfl⟩:=pv;rw[bv] at ah;have:=ah.fin a7 ii;show k _ _;subst hk;push_cast;exact q d H2 s2 hd (by rw[this];exact fF)
abbrev uz:List Str:=["stretches","left"]
abbrev lJ:Stmt:=top 6
theorem Jw:bx uz q3_ (aj lJ):=⟨rfl,rfl,rfl,ψ,rfl,ψ,ψ⟩
theorem Gk:NM_ uz lJ 1 "left":=.of ψ
theorem rm:Bn "labels_left" := ⟨ψ,ψ⟩
abbrev m7:List Str:=["stretches","left","part"]
abbrev fU:Stmt:=top 13
theorem Gb:bx m7 q17_ (aj fU):=⟨rfl,rfl,rfl,ψ,rfl,ψ,ψ⟩
theorem tM:NM_ m7 fU 0 "stretches":=.of ψ
theorem Eh:NM_ m7 fU 1 "left":=.of ψ
theorem gU:NM_ m7 fU 2 "part":=.of ψ
theorem qj:GI_ fU "labels_left":=ψ
theorem GJ:Bn "labels_led_to" := ⟨ψ,ψ⟩
theorem abV(hB:∀x:Str,x∈BLs->mg x=GT)(F:Fun K "labels_left" "labels_left" lJ f fd):cT P w K mg base CX0 1 f fd q3_ Jm:=by
 refine F.okz Jw λap A outer s H vs Q E hr h=>?_;obtain⟨s,l,ok,ss,left,rfl,ts,tl,lf,q⟩:=h;refine⟨_,(aJ (aQ (jE (NX:=uz) (kX:=(aj lJ).names) ["k","stretches"] [GT,GE 0] Z Z ⟨rfl,ψ,ψ,ψ,ψ⟩ Z (cQ (ao Gk)) (λ_ _ _ _ _=>(cU 0 (show B8 (["k","stretches"]:List Str) from by decide +kernel) Z (D8 Z))) (λ_ _ _ _ _=>qL) (λ_ _ _ _ _=>(aH aP (aH aP (cg 1) (cg 0) (λ_ _=>rfl)) aq (λ_ _=>rfl)))))),?_⟩;obtain⟨la,rfl,_,el,v6⟩:=tl.left;replace el:H la=GE (.lst (nv left)):=el;cases ts with
 | lst o es zs bj=>
  push_cast;refine iH λR hR=>?_;push_cast[el];refine Io (lbl ss) (λτ=>∃o0,τ=[o0,GE (.ref _)]) hR el v6 ⟨_,rfl⟩ ?_ ?_
  ·rintro i k τ ac Pn hk ⟨o0,rfl⟩ hN;obtain⟨p1,x1,y1⟩:=bj.stN (lf.lt _ (AU hk));push_cast[es,x1,y1];exact hN _ ⟨_,rfl⟩
  intro d hd;exact q d hd
theorem aej(hB:∀x:Str,x∈BLs->mg x=GT)(CLabelsLeft:Cal P w K mg base "labels_left" 1 q3_ Jm)(F:Fun K "labels_led_to" "labels_led_to" fU f fd):cT P w K mg base CX0 2 f fd q17_ acV:=by
 refine F.okz Gb λap A outer s H vs Q E hr h=>?_;obtain⟨s,l,p,ok,ss,left,pl,rfl,ts,tl,tp,lf,vl,q⟩:=h;refine⟨_,(aD (bH (aV (bC hr.aZ) (aH aP (ao gU) aq (λ_ _=>rfl)) bf (aM _)) (aJ (aQ (bV (ak (aH aP (ao gU) aq (λ_ _=>rfl)) aA)))) bB)
  (aD (bH (aV (O5 hr.un1) (aH aP (ao gU) aq (λ_ _=>rfl)) (bG (ak bf (ak bf aA))) (by with_unfolding_all rfl)) (aJ (aQ (bV (ak (aH aP (aH aP (ao tM) (aH aP (ao gU) aq (λ_ _=>rfl)) (λ_ _=>rfl)) aq (λ_ _=>rfl)) aA)))) bB)
  (aD (bH (aV (bC hr.aZ) (aH aP (ao gU) aq (λ_ _=>rfl)) bf (aM _)) (aJ (aQ (bA CLabelsLeft (hr.mono δ) qj rm (ak (ao tM) (ak (ao Eh) aA))))) bB)
  (aJ (aQ (bV aA)))))),?_⟩
 have xc:=tp;obtain⟨pa,si,rfl,eM,ce⟩:=tp.Dm;have mP:∀{d:A9}{v:V}{ds:List A9}{d0:A9},plD pl=.tuple (d0::d::ds)->adl d=GE v->atI si 1=GE v:=λ{d v ds d0} he hv=>by
  rw[he] at xc;obtain⟨xD,xs,e',ex,il⟩:=aG.pB xc;cases e';rw[eM] at ex;cases ex;obtain⟨x0,r,rfl,_,il⟩:=il.cI;obtain⟨x1,r,rfl,t1,il⟩:=il.cI;rw[<- t1.sc2 hv];exact aaj _ _ _
 -- have mid:∀(H1:Hp),Same H H1->∀b,([("is" : Str), "within"].any (wM (.str (dj pl))))=b->(b=true->∃j:Nat,atI pys 1=GE (.int (j:Int))/\j∈left/\jV ss left pl=[lbl ss j])->True:=λ_ _ _ _ _=>trivial
 refine aK λk hk=>?_;push_cast[eM,ce];by_cases c1:dj pl = "mask"
 ·rw[if_pos c1];cases pl with
  | msk m r=>
   refine⟨_,mP (v:=.int m) Z rfl,aR δ,λa ha=>q a _ (aB ha) ha au⟩
  | pick m=>exact absurd c1 (show("pick" : Str) ≠ "mask" by decide +kernel)
  | one j r=>exact absurd c1 (show("is" : Str) ≠ "mask" by decide +kernel)
  | wit j r=>exact absurd c1 (show("within" : Str) ≠ "mask" by decide +kernel)
  | low j a b=>exact absurd c1 (show("below" : Str) ≠ "mask" by decide +kernel)
  | tab=>exact absurd c1 (show("table" : Str) ≠ "mask" by decide +kernel)
 rw[if_neg c1];subst hk;refine aK λk hk=>?_;push_cast[eM,ce];refine⟨aR δ,λpt hpt=>?_⟩;have s4:=aB (o:=By [At "is",At "within"]) hpt;have kg:upd H pt (By [At "is",At "within"]) pt=_:=au;have eL:=s4 _ _ eM;have rk:=ts.same s4;have vt:=tl.same s4;generalize upd H pt (By [At "is",At "within"])=H4 at s4 kg eL rk vt |-;refine⟨pt,[("is" : Str), "within"],.str (dj pl),λ_=>True,rfl,kg,.str _,aeI pl,by rw[<- ach];rfl,?_⟩;cases hiw:aeI pl with
 | true=>
  obtain⟨j,nS,hj,eC⟩:∃j:Nat,atI si 1=GE (.int (j:Int))/\j∈left/\jV ss left pl=[lbl ss j]:=by
   cases pl with
   | one j r=>exact⟨j,mP (v:=.int (j:Int)) rfl rfl,vl.1,rfl⟩
   | wit j r=>exact⟨j,mP (v:=.int (j:Int)) rfl rfl,vl,rfl⟩
   | _=>cases hiw
  rw[if_pos rfl];rw[eC] at q;cases rk with
  | lst o es zs bj=>
   obtain⟨p1,x1,y1⟩:=bj.stN (lf.lt _ hj);push_cast[eL,nS,es,x1,y1];exact⟨aR δ,λa ha=>q a _ (s4.trans (aB ha)) (s4.none ha) au⟩
 | false=>
  rw[if_neg δ];subst hk;refine aK λk hk=>?_;push_cast[eL,ce];by_cases c2:dj pl = "table"
  ·rw[if_pos c2];cases pl with
   | tab=>exact⟨_,_,ok,ss,left,rfl,rk,vt,lf,λa ha=>q a _ (s4.trans (aB ha)) (s4.none ha) au⟩
   | pick m=>exact absurd c2 (show("pick" : Str) ≠ "table" by decide +kernel)
   | one j r=>cases hiw
   | wit j r=>cases hiw
   | low j a b=>exact absurd c2 (show("below" : Str) ≠ "table" by decide +kernel)
   | msk m r=>exact absurd c2 (show("mask" : Str) ≠ "table" by decide +kernel)
  rw[if_neg c2];subst hk;push_cast;have eC:jV ss left pl=[]:=by
   cases pl with
   | pick m=>rfl
   | low j a b=>rfl
   | tab=>exact absurd rfl c2
   | msk m r=>exact absurd rfl c1
   | one j r=>cases hiw
   | wit j r=>cases hiw
  rw[eC] at q;exact⟨aR δ,λa ha=>q a _ (s4.trans (aB ha)) (s4.none ha) au⟩
abbrev f9:List Str:=["stretches","steps","picks","left","part","label"]
abbrev cP:Stmt:=top 14
theorem iK:bx f9 q23_ (aj cP):=⟨rfl,rfl,rfl,ψ,rfl,ψ,ψ⟩
theorem Ea:NM_ f9 cP 0 "stretches":=.of ψ
theorem tK:NM_ f9 cP 1 "steps":=.of ψ
theorem gQ:NM_ f9 cP 2 "picks":=.of ψ
theorem tH:NM_ f9 cP 3 "left":=.of ψ
theorem tG:NM_ f9 cP 4 "part":=.of ψ
theorem oh:NM_ f9 cP 5 "label":=.of ψ
theorem pK:GI_ cP "labels_led_to":=ψ
theorem qe:GI_ cP "len":=ψ
theorem GC:Bn "picks_behind" := ⟨ψ,ψ⟩
theorem Uw(hB:∀x:Str,x∈BLs->mg x=GT)(CLabelsLedTo:Cal P w K mg base "labels_led_to" 2 q17_ acV)(F:Fun K "picks_behind" "picks_behind" cP f fd):cT P w K mg base CX0 3 f fd q23_ K1:=by
 refine F.okz iK λap A outer s H vs Q E hr h=>?_;obtain⟨s,l,ok,ss,S,rfl,YN,t,hS,hsz,hPL,q⟩:=h;refine⟨_,(aD (bF gQ iK.nd Ox Z (.inl Z))
  (aD (fG BB Z (cQ (ao tK)) (cV (n:=2) Z (aU (bK tH iK.nd (.inl Z)) (aU (bK tG iK.nd (.inl Z)) cB)))
  (aJ (fG BB Z (cQ (bA CLabelsLedTo (hr.mono δ) pK GJ (ak (ao Ea) (ak (ao tH) (ak (ao tG) aA))))) (bK oh iK.nd (.inl Z))
  (aJ (bH (adE hr.qw (ao oh) (ao gQ) (by with_unfolding_all rfl)) (aJ (acX hr.qw (ao gQ) (ao oh) (aX bw (bJ bD qe (hB "len" cM) Be cN (ak (ao tK) aA)) (bJ Qs qe (hB "len" cM) Be cN (ak (ao gQ) aA))) Z)) bB)) (λ_=>rfl))) (λ_=>rfl))
  (aJ (aQ (ao gQ))))),?_⟩
 cases t with
 | lst o el zl ts=>
  rename_i xs;have bv:=ts.length;rw[AI] at bv;refine aK λk hk=>?_;push_cast[Jj];intro d hd;have s0:=aB (o:=HO.dK []) hd;have e0:upd H d (HO.dK []) d=_:=au;generalize upd H d (HO.dK [])=H0 at s0 e0 |-;subst hk;refine aK λk hk=>?_;refine jr λR hR=>?_;have eP:=s0 _ _ el;push_cast[eP];obtain⟨Pv,ag⟩:∃Pv:Nat->L2.St->Hp->Prop,Pv=λ(i:Nat) σ H'=>∃(o3 o4 o5:Option V),Same H H'/\H' d=GE (.dK (qp S.length (((S.take i).flatMap λx=>jV ss x.1 x.2).foldl gY [])))/\σ=[GE s,GE (.ref l),GE (.ref d),o3,o4,o5]:=⟨_,rfl⟩;refine wg hR (xs:=xs) Pv (by rw[ag];exact⟨_,_,_,s0,e0,rfl⟩) (λi σ H' _ pv=>?_) ?_ ?_
  ·rw[ag] at pv;obtain⟨_,_,_,s',_⟩:=pv;exact SqL.of (s' _ _ el)
  ·intro i x σ H2 hx pv;rw[ag] at pv;obtain⟨o3,o4,o5,s2,fF,rfl⟩:=pv;have rn:=ts.same s2;have gg:=s2 _ _ el;obtain⟨dx,p5,xi⟩:=rn.get hx;rw[AZ] at p5;obtain⟨y,hy,rfl⟩:=B5.mp p5;obtain⟨px,vs,rfl,K0,fR⟩:=aG.pB xi;obtain⟨vl,r,rfl,tl,fR⟩:=fR.cI;obtain⟨vp,r,rfl,tp,fR⟩:=fR.cI;obtain rfl:r=[]:=BQ.mp fR.length;obtain⟨lf,LY⟩:=hS y (AU hy);have eB:S.take (i+1)=S.take i++[y]:=by
    rw[F2,hy];rfl
   have yz:(((S.take i).flatMap λx=>jV ss x.1 x.2).foldl gY []).Nodup:=(M4 _ [] HU).1;have cq:jG ss S=((jV ss y.1 y.2)++((S.drop (i+1)).flatMap λx=>jV ss x.1 x.2)).foldl gY (((S.take i).flatMap λx=>jV ss x.1 x.2).foldl gY []):=by
    unfold jG;rw[<- II]
    conv=>lhs;rw[<- Ic (i+1) S,eB]
    rw[KF,KF,List.flatMap_singleton,CS]
   have ge:((S.take (i+1)).flatMap λx=>jV ss x.1 x.2).foldl gY []=(jV ss y.1 y.2).foldl gY (((S.take i).flatMap λx=>jV ss x.1 x.2).foldl gY []):=by
    rw[eB,KF,List.flatMap_singleton,II]
   generalize hP0:((S.take i).flatMap λx=>jV ss x.1 x.2).foldl gY []=PL0 at fF yz cq ge;push_cast[K0];refine jr λR2 k9=>?_;push_cast;refine⟨_,_,_,ok,ss,y.1,y.2,rfl,YN.same s2,tl,tp,lf,LY,λa H4 s4 ha ea=>?_⟩;push_cast[ea,R9];have bS:∀j:Nat,(((jV ss y.1 y.2).take j).foldl gY PL0).length<=1000000:=λj=>by
    refine Cn ?_ hPL;rw[cq]
    conv=>rhs;rw[<- Ic j (jV ss y.1 y.2),CS]
    exact Zw yz
   have sf:=s2.trans s4;have gS:=s4 _ _ fF;have nad:a≠d:=λz=>by rw[z,fF] at ha;cases ha
   generalize jV ss y.1 y.2=L at ea bS ge;obtain⟨Pv2,jS⟩:∃Pv:Nat->L2.St->Hp->Prop,Pv=λ(j:Nat) σ H'=>∃(o5:Option V),Same H H'/\H' a=GE (.lst (L.map As))/\H' d=GE (.dK (qp S.length ((L.take j).foldl gY PL0)))/\σ=[GE s,GE (.ref l),GE (.ref d),GE vl,GE vp,o5]:=⟨_,rfl⟩;refine wg k9 (xs:=L.map As) Pv2 (by rw[jS];exact⟨_,sf,ea,gS,rfl⟩) (λj σ H' _ pv=>?_) ?_ ?_
   ·rw[jS] at pv;obtain⟨_,_,e',_⟩:=pv;exact SqL.of e'
   ·intro j v σ H5 hv pv;rw[jS] at pv;obtain⟨ZU,s5,S2,gN,rfl⟩:=pv;rw[AZ] at hv;obtain⟨m,hm,rfl⟩:=B5.mp hv;have l5:(L.take (j+1)).foldl gY PL0=gY ((L.take j).foldl gY PL0) m:=by
     rw[F2,hm,II];rfl
    have RC:=bS j;generalize (L.take j).foldl gY PL0=PL1 at gN l5 RC;have qA:=s5 _ _ el;push_cast;by_cases c:m∈PL1
    ·refine⟨d,_,rfl,oR.k' (k:=B6 m) gN (nj _ c),?_⟩;push_cast;rw[jS];refine⟨_,s5,S2,?_,rfl⟩;rw[l5];unfold gY;rw[if_pos c];exact gN
    have g:=oR.k (k:=(B6 m:Key)) gN;rw[Af _ c] at g;refine⟨d,_,rfl,g,?_⟩;push_cast[Option.isSome_none,D4];push_cast[rdA,qA,gN,Ua,aey];refine⟨d,_,rfl,QV.k (k:=B6 m) gN (by rw[Fp];exact CM RC δ),?_⟩;rw[jS];refine⟨_,cD s5 hd,(aL nad).trans S2,?_,rfl⟩;rw[au,l5,<- ZD c,bv,Fp]
   intro σ H5 pv;rw[jS] at pv;obtain⟨ZU,s5,S2,gN,rfl⟩:=pv;rw[AI,FB] at gN;show Pv _ _ _;rw[ag];exact⟨_,_,_,s5,by rw[ge];exact gN,rfl⟩
  intro σ H2 pv;rw[ag] at pv;obtain⟨o3,o4,o5,s2,fF,rfl⟩:=pv;rw[bv,FB] at fF;show k _ _;subst hk;push_cast;exact q d H2 s2 hd fF
abbrev g8:List Str:=["stretches","left","label","goal","first","bits","k","low","high","own"]
abbrev eF:Stmt:=top 15
theorem jj:bx g8 q11_ (aj eF):=⟨rfl,rfl,rfl,ψ,rfl,ψ,ψ⟩
theorem wK:NM_ g8 eF 0 "stretches":=.of ψ
theorem wJ:NM_ g8 eF 1 "left":=.of ψ
theorem Pk:NM_ g8 eF 2 "label":=.of ψ
theorem Pj:NM_ g8 eF 3 "goal":=.of ψ
theorem wI:NM_ g8 eF 4 "first":=.of ψ
theorem wH:NM_ g8 eF 5 "bits":=.of ψ
theorem Ed:NM_ g8 eF 6 "k":=.of ψ
theorem wG:NM_ g8 eF 7 "low":=.of ψ
theorem Ec:NM_ g8 eF 8 "high":=.of ψ
theorem Eb:NM_ g8 eF 9 "own":=.of ψ
theorem qY:GI_ eF "numbers_across":=ψ
theorem V4:Bn "mask_row" := ⟨ψ,ψ⟩
theorem Yw(hB:∀x:Str,x∈BLs->mg x=GT)(CNumbersAcross:Cal P w K mg base "numbers_across" 1 q3_ rP)(F:Fun K "mask_row" "mask_row" eF f fd):cT P w K mg base CX0 2 f fd q11_ Rf:=by
 refine F.okz jj λap A outer s H vs Q E hr h=>?_;obtain⟨s,l,m,g,ok,ss,left,rfl,ts,tl,lf,rs,f8,q⟩:=h;refine⟨_,(aD (bF wI jj.nd (aH aP (aH aP (ao wK) (aH aP (ao wJ) aq (λ_ _=>rfl)) (λ_ _=>rfl)) aq (λ_ _=>rfl)) Z (.inl Z))
  (aD (bF wH jj.nd aq Z (.inl Z))
  (aD (fG BB Z (cQ (ao wJ)) (bK Ed jj.nd (.inl Z))
  (aD (jD (aH aP (ao wK) (ao Ed) (λ_ _=>rfl)) (cV (n:=3) Z (aU (bK wG jj.nd (.inl Z)) (aU (bK Ec jj.nd (.inl Z)) (aU (bK Eb jj.nd (.inl Z)) cB)))))
  (aJ (bH (aV (bC hr.aZ) (ao Eb) (ao Pk) (aM _)) (aJ (JF wH jj.nd (aX O4 (aX dY (aX O4 aq (aX bw (aX dY (ao Ec) (ao wG)) aq)) aq) (aX dY (ao wG) (ao wI))) J4)) bB))) (λ_=>rfl))
  (aJ (aQ (bG (ak bf (ak (ao wI) (ak (bA CNumbersAcross (hr.mono δ) qY mJ (ak (ao wK) (ak (ao wJ) aA))) (ak (ao wH) (ak (ao Pj) aA))))))))))),?_⟩
 have oo:=ts;have YY:=tl;obtain⟨la,rfl,_,el,v6⟩:=tl.left;replace el:H la=GE (.lst (nv left)):=el;cases ts with
 | lst o es zs bj=>
  rename_i sa xs;obtain⟨k0,e0,m0,a0⟩:=Ce lf.ne;obtain⟨p0,x0,y0⟩:=bj.stN (lf.lt _ m0);have zI:bT ss left=(aO ss k0).1:=by
   unfold bT bZ;rw[e0];rfl
  refine aK λk hk=>?_;push_cast[el,a0,es,x0,y0];rw[<- zI];subst hk;refine aK λk hk=>?_;push_cast;subst hk;refine aK λk hk=>?_;refine jr λR hR=>?_;push_cast[el,R9];obtain⟨Pv,ag⟩:∃Pv:Nat->L2.St->Hp->Prop,Pv=λ(i:Nat) σ H'=>∃(o6 o7 o8 o9:Option V),H'=H/\σ=[GE (.ref sa),GE (.ref la),GE (.int m),GE (.int g),GE (.int (bT ss left)),GE (.int (lW ss (bT ss left) m 0 (left.take i):Nat)),o6,o7,o8,o9]:=⟨_,rfl⟩;refine wg hR (xs:=nv left) Pv (by rw[ag];exact⟨_,_,_,_,rfl,rfl⟩) (λi σ H' _ pv=>?_) ?_ ?_
  ·rw[ag] at pv;obtain⟨_,_,_,_,rfl,_⟩:=pv;exact SqL.of el
  ·intro i v σ H2 hv pv;rw[ag] at pv;obtain⟨o6,o7,o8,o9,rfl,rfl⟩:=pv;unfold nv at hv;rw[AZ] at hv;obtain⟨j,hj,rfl⟩:=B5.mp hv;have mj:=AU hj;obtain⟨p1,x1,y1⟩:=bj.stN (lf.lt _ mj);have l5:lW ss (bT ss left) m 0 (left.take (i+1))=lW ss (bT ss left) m 0 (left.take i)+yV ss (bT ss left) m j:=by
    unfold lW;rw[F2,hj,II];rfl
   refine aK λk2 bg=>?_;push_cast[es,x1,y1];subst bg;have jp:=jW rs (lf.lt _ mj);have y8:=fK lf.up j mj;have ix:=tX lf.up j mj;have jv:=(dU rs y8 (lf.lt _ mj)).1;have ub:=(dU rs ix (lf.lt _ (dZ lf.ne))).2;have hbs:bT ss left=(aO ss (bZ left)).1:=rfl;rw[mO] at f8;push_cast;by_cases c:(aO ss j).2.2=m
   ·rw[if_pos c];push_cast;have hw:((aO ss j).2.1-(aO ss j).1+1).toNat<=64:=ω;have hp:(1:Int)*2^((aO ss j).2.1-(aO ss j).1+1).toNat-1=((2^oU ss j-1:Nat):Int):=by
     rw[one_mul,Int.natCast_sub (GL _),natCast_pow];rfl
    have ba:2^oU ss j-1<2^64:=by
     have:2^oU ss j<=2^64:=EA δ hw;have:=GL (oU ss j);omega
    have RY:lW ss (bT ss left) m 0 (left.take (i+1))=lW ss (bT ss left) m 0 (left.take i)+(2^oU ss j-1)*2^((aO ss j).1-bT ss left).toNat:=by
     rw[l5];unfold yV;rw[if_pos (show lbl ss j=m from c)]
    rw[hp];refine⟨⟨ω,ω,δ⟩,⟨ω,ω,by rw[Int.natAbs_natCast];exact ba⟩,?_⟩;rw[ag];dsimp only;rw[RY,Int.natCast_add,Int.natCast_mul,natCast_pow];exact⟨_,_,_,_,rfl,rfl⟩
   rw[if_neg c,ag];have hq:lW ss (bT ss left) m 0 (left.take (i+1))=lW ss (bT ss left) m 0 (left.take i):=by
    rw[l5];unfold yV;rw[if_neg (show ¬lbl ss j=m from c)];rfl
   dsimp only;rw[hq];exact⟨_,_,_,_,rfl,rfl⟩
  intro σ H2 pv;rw[ag] at pv;obtain⟨o6,o7,o8,o9,rfl,rfl⟩:=pv;rw[show(nv left).length=left.length from gB _,FB];show k _ _;subst hk;push_cast;refine⟨_,_,ok,ss,left,rfl,oo,YY,lf,?_⟩;push_cast;exact⟨aR δ,λa ha=>q a ha⟩
abbrev ju:List Str:=["stretches","left","picks","goals","low","high","label"]
abbrev fB:Stmt:=top 16
theorem nH:bx ju q14_ (aj fB):=⟨rfl,rfl,rfl,ψ,rfl,ψ,ψ⟩
theorem Ax:NM_ ju fB 0 "stretches":=.of ψ
theorem sZ:NM_ ju fB 1 "left":=.of ψ
theorem Mi:NM_ ju fB 2 "picks":=.of ψ
theorem sY:NM_ ju fB 3 "goals":=.of ψ
theorem Aw:NM_ ju fB 4 "low":=.of ψ
theorem Av:NM_ ju fB 5 "high":=.of ψ
theorem Ar:NM_ ju fB 6 "label":=.of ψ
theorem Bx:GI_ fB "tuple":=ψ
theorem Qv:Bn "table_row" := ⟨ψ,ψ⟩
theorem Us(hB:∀x:Str,x∈BLs->mg x=GT)(F:Fun K "table_row" "table_row" fB f fd):cT P w K mg base CX0 1 f fd q14_ KJ:=by
 refine F.okz nH λap A outer s H vs Q E hr h=>?_;obtain⟨s,l,d,n,PL,ok,ss,left,rfl,ts,tl,ed,lf,rs,f8,cq,q⟩:=h;refine⟨_,(aD (bF sY nH.nd (bV aA) Z (.inl Z))
  (aD (fG BB Z (cQ (lN K4 (ao Ax) (mU (aH aP (ao sZ) aq (λ_ _=>rfl))) (mU (aX bw (aH aP (ao sZ) (jX fM aq) (λ_ _=>rfl)) aq)))) (cV (n:=3) Z (aU (bK Aw nH.nd (.inl Z)) (aU (bK Av nH.nd (.inl Z)) (aU (bK Ar nH.nd (.inl Z)) cB))))
  (aJ (fj (Ca (ao sY) (aX jd (bV (ak (RD hr.qw (ao Mi) (ao Ar) (λ_ _=>rfl)) aA)) (aX bw (aX dY (ao Av) (ao Aw)) aq))))) (λ_=>rfl))
  (aJ (aQ (bG (ak bf (ak (aH aP (aH aP (ao Ax) (aH aP (ao sZ) aq (λ_ _=>rfl)) (λ_ _=>rfl)) aq (λ_ _=>rfl)) (ak (RG Gx Bx (hB "tuple" tR) boot_tuple uq (ak (ao sY) aA)) aA)))))))),?_⟩
 obtain⟨la,rfl,_,el,v6⟩:=tl.left;replace el:H la=GE (.lst (nv left)):=el;cases ts with
 | lst o es zs bj=>
  rename_i sa xs;obtain⟨k0,e0,m0,a0⟩:=Ce lf.ne;obtain⟨k1,e1,m1,a1⟩:=JN lf.ne;have MR:bZ left=k0:=by
   unfold bZ;rw[e0];rfl
  have WB:eN left=k1:=by
   unfold eN;rw[e1];rfl
  refine aK λk hk=>?_;push_cast;refine⟨aR δ,λgo l8=>?_⟩;have s1:=aB (o:=AT []) l8;have wt:upd H go (AT []) go=_:=au;generalize upd H go (AT [])=H1 at s1 wt |-;subst hk;refine aK λk hk=>?_;refine jr λR hR=>?_;have eP:=s1 _ _ el;have bq:=s1 _ _ es;push_cast[eP,a0,a1,bq];have bv:=bj.length;rw[AI] at bv;have h01:k0<=k1:=by rw[<- MR];exact fK lf.up _ m1
  have a9:=lf.lt _ m1;rw[acG xs k0 k1 h01 ω];intro p hp;have s2:=s1.trans (aB (o:=AT ((xs.drop k0).take (k1+1-k0))) hp);have US:go≠p:=λz=>by rw[z,hp] at wt;cases wt
  have SO:upd H1 p (AT ((xs.drop k0).take (k1+1-k0))) p=_:=au;have LJ:upd H1 p (AT ((xs.drop k0).take (k1+1-k0))) go=_:=(aL US).trans wt;generalize upd H1 p (AT ((xs.drop k0).take (k1+1-k0)))=H2 at s2 SO LJ |-;obtain⟨Pv,ag⟩:∃Pv:Nat->L2.St->Hp->Prop,Pv=λ(i:Nat) σ H'=>∃(o4 o5 o6:Option V),Same H H'/\H' p=GE (AT ((xs.drop k0).take (k1+1-k0)))/\H' go=GE (.lst ((jh ss (gP n PL) k0 i).map As))/\σ=[GE (.ref sa),GE (.ref la),GE (.ref d),GE (.ref go),o4,o5,o6]:=⟨_,rfl⟩;refine wg hR (xs:=(xs.drop k0).take (k1+1-k0)) Pv (by rw[ag];exact⟨_,_,_,s2,SO,LJ,rfl⟩) (λi σ H' _ pv=>?_) ?_ ?_
  ·rw[ag] at pv;obtain⟨_,_,_,_,e',_⟩:=pv;exact SqL.of e'
  ·intro i v σ H3 hv pv;rw[ag] at pv;obtain⟨o4,o5,o6,s3,XE,LI,rfl⟩:=pv;have hi:i<k1+1-k0:=by
    have:=(AB.mp hv).1;rw[FM] at this;omega
   rw[List.getElem?_take,if_pos hi,List.getElem?_drop] at hv;obtain⟨p1,x1,y1⟩:=(bj.same s3).stN (k:=k0+i) ω;have kz:v=.ref p1:=by
    have:=bO hv;rw[x1] at this;exact(A0 this).symm
   subst kz;have br:=cq (k0+i) ω ω;have oj:=s3 _ _ ed;have g3:=oR.k' (k:=B6 (lbl ss (k0+i))) oj (nj n br);push_cast[y1];push_cast[xK,Ck,rdA,LI,uZ];have P7:=f8;rw[mO,MR,WB] at P7;have u1:=(dU rs (i:=k0) (j:=k0+i) ω ω).1;have u2:=(dU rs (i:=k0+i) (j:=k1) ω a9).2;have u3:=jW rs (i:=k0+i) ω;have nE:(jh ss (gP n PL) k0 i).length<=200:=by
    cases i with
    | zero=>exact D6 _
    | succ i'=>
     have v1:=wN rs (gP n PL) i' k0 ω;have v2:=(dU rs (i:=k0+i') (j:=k1) ω a9).2;omega
   have VC:oU ss (k0+i)<=200:=by unfold oU;omega
   refine⟨d,_,rfl,g3,aR δ,λb1 R1=>⟨ω,ω,Cn (show 1*oU ss (k0+i)<=200 by omega) δ,λb2 uu=>?_⟩⟩;rw[List.flatten_replicate_singleton];have s5:=(aB (o:=AT [As (gP n PL (lbl ss (k0+i)))]) R1).trans (aB (o:=AT (A8 ((aO ss (k0+i)).2.1-(aO ss (k0+i)).1+1).toNat (As (gP n PL (lbl ss (k0+i)))))) uu);have e5:upd (upd H3 b1 (AT [As (gP n PL (lbl ss (k0+i)))])) b2 (AT (A8 ((aO ss (k0+i)).2.1-(aO ss (k0+i)).1+1).toNat (As (gP n PL (lbl ss (k0+i)))))) b2=_:=au;generalize upd (upd H3 b1 (AT [As (gP n PL (lbl ss (k0+i)))])) b2 (AT (A8 ((aO ss (k0+i)).2.1-(aO ss (k0+i)).1+1).toNat (As (gP n PL (lbl ss (k0+i))))))=H5 at s5 e5 |-;have eg5:=s5 _ _ LI;rw[yR,eg5,e5,Kc];refine⟨?_,?_⟩
   ·rw[AI,Ex];exact Cn (show(jh ss (gP n PL) k0 i).length+oU ss (k0+i)<=400 by omega) δ
   rw[ag];refine⟨_,_,_,cD (s3.trans s5) l8,?_,?_,rfl⟩
   ·rw[aL US.symm];exact s5 _ _ XE
   rw[au,Bf,BH,List.map_replicate];rfl
  intro σ H3 pv;rw[ag] at pv;obtain⟨o4,o5,o6,s3,XE,LI,rfl⟩:=pv;rw[FM,Fm,show min (k1+1-k0) (xs.length-k0)=k1-k0+1 by omega] at LI;obtain⟨p0,x0,y0⟩:=(bj.same s3).stN (lf.lt _ m0);have gg:=s3 _ _ el;have kB:=s3 _ _ es;show k _ _;subst hk;push_cast[gg,a0,kB,x0,y0];refine⟨_,.inl ⟨SqL.of LI,λt ht=>⟨aR δ,λa ha=>?_⟩⟩⟩;have Pe:t≠a:=λz=>by rw[z,au] at ha;cases ha
  have zI:bT ss left=(aO ss k0).1:=by
   unfold bT;rw[MR]
  have sA:=s3.trans (aB (o:=By ((jh ss (gP n PL) k0 (k1-k0+1)).map As)) ht);refine q a t _ (sA.trans (aB ha)) (sA.none ha) ?_ (s3.none ht) ?_
  ·rw[au,zI]
  rw[aL Pe,au];unfold mG;rw[MR,WB]
abbrev pO:List Str:=["stretches","left","part","ahead","picks","word","low","high","label"]
abbrev jA:Stmt:=top 17
theorem xT:bx pO q7_ (aj jA):=⟨rfl,rfl,rfl,ψ,rfl,ψ,ψ⟩
theorem DX:NM_ pO jA 0 "stretches":=.of ψ
theorem Ml:NM_ pO jA 1 "left":=.of ψ
theorem tu:NM_ pO jA 2 "part":=.of ψ
theorem YM:NM_ pO jA 3 "ahead":=.of ψ
theorem yp:NM_ pO jA 4 "picks":=.of ψ
theorem p6:NM_ pO jA 5 "word":=.of ψ
theorem yo:NM_ pO jA 6 "low":=.of ψ
theorem Mj:NM_ pO jA 7 "high":=.of ψ
theorem DW:NM_ pO jA 8 "label":=.of ψ
theorem Fb:GI_ jA "mask_row":=ψ
theorem BK:GI_ jA "table_row":=ψ
theorem acK:Bn "row_of" := ⟨ψ,ψ⟩
theorem Yu(hB:∀x:Str,x∈BLs->mg x=GT)(CTableRow:Cal P w K mg base "table_row" 1 q14_ KJ)(CMaskRow:Cal P w K mg base "mask_row" 2 q11_ Rf)(F:Fun K "row_of" "row_of" jA f fd):cT P w K mg base CX0 3 f fd q7_ Rb:=by
 refine F.okz xT λap A outer s H vs Q E hr h=>?_;obtain⟨s,l,p,av,A1,d,n,PL,ok,ss,left,pl,rfl,Pi,ts,tl,tp,ed,lf,rs,vl,hav,eC,sT,q⟩:=h;refine⟨_,(aD (bF p6 xT.nd (aH aP (ao tu) aq (λ_ _=>rfl)) Z (.inl Z))
  (aD (bH (aV (bC hr.aZ) (ao p6) bf (aM _)) (aJ (aQ (bG (ak bf (ak (aH aP (ao tu) aq (λ_ _=>rfl)) aA))))) bB)
  (aD (bH (aV (bC hr.aZ) (ao p6) bf (aM _)) (aJ (aQ (bA CTableRow (hr.mono δ) BK Qv (ak (ao DX) (ak (ao Ml) (ak (ao yp) aA)))))) bB)
  (aD (bH (aV (bC hr.aZ) (ao p6) bf (aM _)) (aJ (aQ (bA CMaskRow (hr.mono δ) Fb V4 (ak (ao DX) (ak (ao Ml) (ak (aH aP (ao tu) aq (λ_ _=>rfl)) (ak (RD hr.qw (ao yp) (aH aP (ao tu) aq (λ_ _=>rfl)) (λ_ _=>rfl)) aA))))))) bB)
  (aD (jD (aH aP (ao DX) (aH aP (ao tu) aq (λ_ _=>rfl)) (λ_ _=>rfl)) (cV (n:=3) Z (aU (bK yo xT.nd (.inl Z)) (aU (bK Mj xT.nd (.inl Z)) (aU (bK DW xT.nd (.inl Z)) cB)))))
  (aD (bH (aV (bC hr.aZ) (ao p6) bf (aM _)) (aJ (aQ (bG (ak bf (ak (ao yo) (ak (ao YM) aA)))))) bB)
  (aD (bH (aV (bC hr.aZ) (ao p6) bf (aM _)) (aJ (aQ (bG (ak bf (ak (ao yo) (ak (RD hr.qw (ao yp) (ao DW) (λ_ _=>rfl)) aA)))))) bB)
  (aJ (aQ (bG (ak bf (ak (ao yo) (ak (ao Mj) (ak (RD hr.qw (ao yp) (ao DW) (λ_ _=>rfl)) aA)))))))))))))),?_⟩
 have xc:=tp;obtain⟨pa,si,rfl,eM,ce⟩:=tp.Dm;have mP:∀{d:A9}{v:V}{ds:List A9}{d0:A9},plD pl=.tuple (d0::d::ds)->adl d=GE v->atI si 1=GE v:=λ{d v ds d0} he hv=>by
  rw[he] at xc;obtain⟨xD,xs,e',ex,il⟩:=aG.pB xc;cases e';rw[eM] at ex;cases ex;obtain⟨x0,r,rfl,_,il⟩:=il.cI;obtain⟨x1,r,rfl,t1,il⟩:=il.cI;rw[<- t1.sc2 hv];exact aaj _ _ _
 have x5:∀(a:ID)(xs:List V)(ds:List A9),H a=GT->xs.length<=1000000->(∀H',aN ok H' xs ds)->iB (rowOf ss (gP n PL) left A1 pl)=.tuple ds->Q (.ref a) (upd H a (.tup xs)):=λa xs ds ha hl ht he=>q _ _ (aB ha) (by
  rw[he];exact .tup (Pi _ _ (Same.refl _) ha) au hl (ht _))
 refine aK λk hk=>?_;push_cast[eM,ce];subst hk;refine aK λk hk=>?_;push_cast;cases pl with
 | pick m=>
  rw[if_pos (show dj (.pick m) = "pick" from Z)];have h1:=mP (v:=.int m) Z rfl;push_cast[eM,h1];exact⟨aR δ,λa ha=>x5 a _ _ ha (show(2:Nat)<=1000000 by decide) (λ_=>.cons (.str _) (.cons (.int _) .nil)) rfl⟩
 | tab=>
  rw[if_neg (show ¬dj (.tab) = "pick" from show ¬("table" : Str) = "pick" by decide +kernel)];subst hk;refine aK λk hk=>?_;push_cast;rw[if_pos (show dj .tab = "table" from Z)];refine⟨_,_,d,n,PL,ok,ss,left,rfl,ts,tl,ed,lf,rs,vl,sT rfl,λa t H' s' ha ea ht et=>q _ _ s' ?_⟩;have nE:=oH rs (gP n PL) lf;have LY:dN ss left<=200:=vl;exact .tup (Pi H a (Same.refl _) ha) ea (show(3:Nat)<=1000000 by decide) (.cons (.str _) (.cons (.int _) (.cons (.tup (Pi H t (Same.refl _) ht) et (by rw[AI];omega) (GX _)) .nil)))
 | msk m r=>
  rw[if_neg (show ¬dj (.msk m r) = "pick" from show ¬("mask" : Str) = "pick" by decide +kernel)];subst hk;refine aK λk hk=>?_;push_cast;rw[if_neg (show ¬dj (.msk m r) = "table" from show ¬("mask" : Str) = "table" by decide +kernel)];subst hk;refine aK λk hk=>?_;push_cast;rw[if_pos (show dj (.msk m r) = "mask" from Z)];have h1:=mP (v:=.int m) Z rfl;have g3:=oR.k' (k:=B6 m) ed (nj n (eC m (AA.mpr Z)));push_cast[eM,h1,rdA];refine⟨d,_,rfl,g3,?_⟩;exact⟨_,_,m,_,ok,ss,left,rfl,ts,tl,lf,rs,vl.1,λa ha=>x5 a _ _ ha (show(5:Nat)<=1000000 by decide) (λ_=>.cons (.str _) (.cons (.int _) (.cons (.int _) (.cons (.int _) (.cons (.int _) .nil))))) rfl⟩
 | low j a b=>
  rw[if_neg (show ¬dj (.low j a b) = "pick" from show ¬("below" : Str) = "pick" by decide +kernel)];subst hk;refine aK λk hk=>?_;push_cast;rw[if_neg (show ¬dj (.low j a b) = "table" from show ¬("below" : Str) = "table" by decide +kernel)];subst hk;refine aK λk hk=>?_;push_cast;rw[if_neg (show ¬dj (.low j a b) = "mask" from show ¬("below" : Str) = "mask" by decide +kernel)];subst hk;cases ts with
  | lst o es zs bj=>
  have hj:j∈left:=vl;obtain⟨p1,x1,y1⟩:=bj.stN (lf.lt _ hj);have h1:=mP (v:=.int (j:Int)) Z rfl;refine aK λk hk=>?_;push_cast[eM,h1,es,x1,y1];subst hk;refine aK λk hk=>?_;push_cast;rw[if_pos (show dj (.low j a b) = "below" from Z)];rw[hav _ _ _ rfl];push_cast;exact⟨aR δ,λa ha=>x5 a _ _ ha (show(3:Nat)<=1000000 by decide) (λ_=>.cons (.str _) (.cons (.int _) (.cons (.int _) .nil))) rfl⟩
 | one j r=>
  rw[if_neg (show ¬dj (.one j r) = "pick" from show ¬("is" : Str) = "pick" by decide +kernel)];subst hk;refine aK λk hk=>?_;push_cast;rw[if_neg (show ¬dj (.one j r) = "table" from show ¬("is" : Str) = "table" by decide +kernel)];subst hk;refine aK λk hk=>?_;push_cast;rw[if_neg (show ¬dj (.one j r) = "mask" from show ¬("is" : Str) = "mask" by decide +kernel)];subst hk;cases ts with
  | lst o es zs bj=>
  have hj:j∈left:=vl.1;obtain⟨p1,x1,y1⟩:=bj.stN (lf.lt _ hj);have h1:=mP (v:=.int (j:Int)) Z rfl;refine aK λk hk=>?_;push_cast[eM,h1,es,x1,y1];subst hk;refine aK λk hk=>?_;push_cast;rw[if_neg (show ¬dj (.one j r) = "below" from show ¬("is" : Str) = "below" by decide +kernel)];subst hk;refine aK λk hk=>?_;push_cast;rw[if_pos (show dj (.one j r) = "is" from Z)];have g3:=oR.k' (k:=B6 (lbl ss j)) ed (nj n (eC _ (AA.mpr Z)));push_cast[rdA];exact⟨d,_,rfl,g3,aR δ,λa ha=>x5 a _ _ ha (show(3:Nat)<=1000000 by decide) (λ_=>.cons (.str _) (.cons (.int _) (.cons (.int _) .nil))) rfl⟩
 | wit j r=>
  rw[if_neg (show ¬dj (.wit j r) = "pick" from show ¬("within" : Str) = "pick" by decide +kernel)];subst hk;refine aK λk hk=>?_;push_cast;rw[if_neg (show ¬dj (.wit j r) = "table" from show ¬("within" : Str) = "table" by decide +kernel)];subst hk;refine aK λk hk=>?_;push_cast;rw[if_neg (show ¬dj (.wit j r) = "mask" from show ¬("within" : Str) = "mask" by decide +kernel)];subst hk;cases ts with
  | lst o es zs bj=>
  have hj:j∈left:=vl;obtain⟨p1,x1,y1⟩:=bj.stN (lf.lt _ hj);have h1:=mP (v:=.int (j:Int)) Z rfl;refine aK λk hk=>?_;push_cast[eM,h1,es,x1,y1];subst hk;refine aK λk hk=>?_;push_cast;rw[if_neg (show ¬dj (.wit j r) = "below" from show ¬("within" : Str) = "below" by decide +kernel)];subst hk;refine aK λk hk=>?_;push_cast;rw[if_neg (show ¬dj (.wit j r) = "is" from show ¬("within" : Str) = "is" by decide +kernel)];subst hk;have g3:=oR.k' (k:=B6 (lbl ss j)) ed (nj n (eC _ (AA.mpr Z)));push_cast[rdA];exact⟨d,_,rfl,g3,aR δ,λa ha=>x5 a _ _ ha (show(4:Nat)<=1000000 by decide) (λ_=>.cons (.str _) (.cons (.int _) (.cons (.int _) (.cons (.int _) .nil)))) rfl⟩
abbrev jU:List Str:=["stretches","plan","steps","aheads","picks","rows","place","left","part"]
abbrev dW:Stmt:=top 18
theorem lG:bx jU q9_ (aj dW):=⟨rfl,rfl,rfl,ψ,rfl,ψ,ψ⟩
theorem zK:NM_ jU dW 0 "stretches":=.of ψ
theorem U0:NM_ jU dW 1 "plan":=.of ψ
theorem uW:NM_ jU dW 2 "steps":=.of ψ
theorem HD:NM_ jU dW 3 "aheads":=.of ψ
theorem zJ:NM_ jU dW 4 "picks":=.of ψ
theorem uV:NM_ jU dW 5 "rows":=.of ψ
theorem HB:NM_ jU dW 6 "place":=.of ψ
theorem Hz:NM_ jU dW 7 "left":=.of ψ
theorem Hy:NM_ jU dW 8 "part":=.of ψ
theorem yK:GI_ dW "enumerate":=ψ
theorem vA:GI_ dW "picks_behind":=ψ
theorem vz:GI_ dW "places_ahead":=ψ
theorem Gs:GI_ dW "row_of":=ψ
theorem BJ:GI_ dW "steps_of":=ψ
theorem Z8:Bn "rows_of" := ⟨ψ,ψ⟩
theorem Uu(hB:∀x:Str,x∈BLs->mg x=GT)(CStepsOf:Cal P w K mg base "steps_of" 2 q9_ KN)(CPlacesAhead:Cal P w K mg base "places_ahead" 1 ["steps"] Rn)(CPicksBehind:Cal P w K mg base "picks_behind" 3 q23_ K1)(CRowOf:Cal P w K mg base "row_of" 3 q7_ Rb)(F:Fun K "rows_of" "rows_of" dW f fd):cT P w K mg base CX0 4 f fd q9_ KR:=by
 refine F.okz lG λap A outer s H vs Q E hr h=>?_;obtain⟨s,p,ok,ss,pl,rfl,hn,ts,tp,gI,hsz,pv,rs,q⟩:=h;refine⟨_,(aD (bF uW lG.nd (bA CStepsOf (hr.mono δ) BJ V3 (ak (ao zK) (ak (ao U0) aA))) Z (.inl Z))
  (aD (bF HD lG.nd (bA CPlacesAhead (hr.mono δ) vz Gz (ak (ao uW) aA)) Z (.inl Z))
  (aD (bF zJ lG.nd (bA CPicksBehind (hr.mono δ) vA GC (ak (ao zK) (ak (ao uW) aA))) Z (.inl Z))
  (aD (bF uV lG.nd (bV aA) Z (.inl Z))
  (aD (fG BB Z (uL yK (hB "enumerate" fW) (ak (ao uW) aA)) (cV (n:=2) Z (aU (bK HB lG.nd (.inl Z)) (aU (cV (n:=2) Z (aU (bK Hz lG.nd (.inl Z)) (aU (bK Hy lG.nd (.inl Z)) cB))) cB)))
  (aJ (fj (jF (ao uV) (bA CRowOf (hr.mono δ) Gs acK (ak (ao zK) (ak (ao Hz) (ak (ao Hy) (ak (XS hr.qw (ao HD) (ao HB) ⟨rfl,rfl,rfl,rfl⟩) (ak (ao zJ) aA))))))))) (λ_=>rfl))
  (aD (fj (Ca (ao uV) (X3 (j:=4) (NX:=jU) (kX:=(aj dW).names) ["label"] [GT] Z Z ⟨rfl,ψ,ψ,ψ,ψ⟩ Z (λ_=>afi zJ) (λ_ _ _ _ _=>(cU 0 (show B8 (["label"]:List Str) from by decide +kernel) Z (D8 Z))) (λ_ _ _ _ _=>qL) (λ_ _ _ _ _=>(bG (ak bf (ak (cg 0) aA)))) Z)))
  (aJ (aQ (ao uV))))))))),?_⟩
 refine aK λk hk=>?_;push_cast;refine⟨s,p,ok,ss,pl,rfl,hn,ts,tp,gI,ω,pv.ok,λv H1 s1 t1=>?_⟩;have kM:=gm ss pl (AK ss.length);have hS:=pv.steps;have eT:=kY pl 0;have VQ:=Hg gI hS;have vx:=t1;cases t1 with
 | lst o1 e1 z1 on=>
  rename_i ls xs1;have bv:=on.length;rw[AI] at bv;show k _ _;subst hk;refine aK λk hk=>?_;push_cast;refine⟨ls,ok,ss,pl,_,rfl,vx,ω,λda H2 s2 hda eda=>?_⟩;have ca:=s1.trans s2;show k _ _;subst hk;refine aK λk hk=>?_;push_cast;refine⟨s,ls,ok,ss,_,rfl,ts.same ca,vx.same s2,hS,ω,ω,λdp H3 s3 hdp edp=>?_⟩;have de:=ca.trans s3;have ve:=s3 _ _ eda;have me:=(s2.trans s3) _ _ e1;have ul:H dp=GT:=ca.none hdp;have hda0:H da=GT:=s1.none hda;show k _ _;subst hk;refine aK λk hk=>?_;push_cast;refine⟨aR δ,λlr i8=>?_⟩;have s4:=aB (o:=AT []) i8;have Pp:dp≠lr:=aF edp i8;have nda:da≠lr:=aF ve i8;have eQ:=de.trans s4;have nX:upd H3 lr (AT []) lr=_:=au;have LN:=s4 _ _ ve;have og:=s4 _ _ edp;have lI:=s4 _ _ me;have nls:ls≠lr:=aF me i8;have i7:H lr=GT:=de.none i8;generalize upd H3 lr (AT [])=H4 at s4 eQ nX LN og lI |-;obtain⟨OD,cw⟩:∃OD:ID->Prop,OD=λx=>ok x/\x≠lr/\x≠dp:=⟨_,rfl⟩;have tI:iD OD H4:=by rw[cw];exact YK hn eQ nX og
  have up:∀a o,ok a->H a=GE o->OD a/\H4 a=GE o:=λa o h e=>by
   rw[cw];exact⟨⟨h,aF e i7,aF e ul⟩,eQ _ _ e⟩
  have wS:aG OD H4 s (.list (ss.map stD)):=ts.keep up;have up1:∀a o,ok a->H1 a=GE o->OD a/\H4 a=GE o:=λa o h e=>by
   rw[cw];exact⟨⟨h,aF ((s2.trans s3) _ _ e) i8,aF (s2 _ _ e) hdp⟩,s4 _ _ ((s2.trans s3) _ _ e)⟩
  have rk:=on.keep up1;clear s4 ve edp me de ca s2 s3 s1 i8 hdp hda eda e1 vx on up up1;show k _ _;subst hk;refine aK λk hk=>?_;refine jr λR hR=>?_;push_cast[Bd,lI];refine⟨⟨_,SqL.of lI⟩,?_⟩;obtain⟨g,hg⟩:∃g,g=gP (bh ss pl (AK ss.length)).length (jG ss (bh ss pl (AK ss.length))):=⟨_,rfl⟩;have sT:=λx lf hx=>Q6 (ss:=ss) (pl:=pl) (x:=x) lf hx;have eC:=λx (hx:x∈bh ss pl (AK ss.length)) (l:Int) hl=>sy (ss:=ss) (l:=l) hx hl;have kR:=zT ss pl (AK ss.length) 0;have ph:=jm ss g (ahA (bU pl 0)) pl (AK ss.length) 0 λx hx=>ae2 eT hx;have cq:cJ ss pl=iM ss g pl (AK ss.length) 0++(jG ss (bh ss pl (AK ss.length))).map RowC.pik:=by
   rw[hg,kM];rfl
  rw[cq,<- ph] at q;clear cq ph;generalize bh ss pl (AK ss.length)=S at *;generalize jG ss S=PL at *;obtain⟨Pv,ag⟩:∃Pv:Nat->L2.St->Hp->Prop,Pv=λ(i:Nat) σ H'=>∃(xs:List V)(o6 o7 o8:Option V),b7 lr H4 H'/\H' lr=GE (.lst xs)/\aN OD H' xs ((dM ss g (ahA (bU pl 0)) 0 (S.take i)).map iB)/\xs.length=i/\σ=[GE s,GE p,GE (.ref ls),GE (.ref da),GE (.ref dp),GE (.ref lr),o6,o7,o8]:=⟨_,rfl⟩;have kk:∀{H' H'':Hp},b7 lr H' H''->∀a o,OD a->H' a=GE o->OD a/\H'' a=GE o:=λ{H' H''} sx a o h e=>by
   refine⟨h,sx a o ?_ e⟩;rw[cw] at h;exact h.2.1
  refine MT hR (xs:=xs1) Pv (by rw[ag];exact⟨[],_,_,_,λa o _ e=>e,nX,.nil,rfl,rfl⟩) (λi σ H' pv=>?_) ?_ ?_
  ·rw[ag] at pv;obtain⟨_,_,_,_,s',_⟩:=pv;exact s' _ _ nls lI
  ·intro i x σ H5 pp hx pv5 l6;rw[ag] at pv5;obtain⟨xs,o6,o7,o8,s5,qo,il,VA,rfl⟩:=pv5;have Pf:pp≠lr:=(aF qo l6).symm;have s6:=aB (o:=By [As (i:Int),x]) l6;have ep:upd H5 pp (By [As (i:Int),x]) pp=_:=au;have gr:b7 lr H4 (upd H5 pp (By [As (i:Int),x])):=s5.trans s6.x;have Nl:=s6 _ _ qo;have wy:=il.same s6;generalize upd H5 pp (By [As (i:Int),x])=H6 at s6 ep gr Nl wy |-;have TH:=rk.keep (kk gr);have NV:=wS.keep (kk gr);have LM:=gr _ _ nda LN;have LL:=gr _ _ Pp og;have kA:iD OD H6:=by rw[cw];exact YK hn ((Ou gr eQ i7)) Nl LL
   obtain⟨dx,p5,xi⟩:=TH.get hx;rw[AZ] at p5;obtain⟨y,hy,rfl⟩:=B5.mp p5;obtain⟨px,vs,rfl,K0,fR⟩:=aG.pB xi;obtain⟨vl,r,rfl,tl,fR⟩:=fR.cI;obtain⟨vp,r,rfl,YU,fR⟩:=fR.cI;obtain rfl:r=[]:=BQ.mp fR.length;have PV:=AU hy;obtain⟨lf,LY⟩:=hS y PV;push_cast[ep,K0,Nl,uZ,Oh];refine⟨.inl ⟨_,.inl LM⟩,_,oR.k (k:=B6 (i:Int)) LM,?_⟩;refine⟨s,vl,vp,_,ahA (bU pl 0) i,dp,_,_,OD,ss,y.1,y.2,rfl,kA,NV,tl,YU,LL,lf,rs,LY,λkk' a b he=>?_,λl hl=>eC y PV l hl,λhe j h1 h2=>sT y lf PV he j h1 h2,λv H7 s7 t7=>?_⟩
   ·obtain⟨t,ht⟩:=kR i y.1 kk' a b (by rw[hy,<- he]);rw[F4] at ht;have h1:=Im eT ht;unfold ahA;rw[h1];rfl
   have SE:=s7 _ _ Nl;have NN:=wy.same s7;push_cast[SE];refine⟨CM (show xs.length<=1000000 by have:=(AB.mp hx).1;omega) δ,?_⟩;rw[ag];refine⟨_,_,_,_,(gr.trans s7.x).trans b7.upd,au,?_,?_,rfl⟩
   ·rw[FT hy,BH];refine(NN.keep (kk b7.upd)).append (.cons (aG.keep (kk b7.upd) ?_) .nil);rw[hg];exact t7
   rw[AN,AQ,VA]
  intro σ H5 pv5;rw[ag] at pv5;obtain⟨xs,o6,o7,o8,s5,qo,il,VA,rfl⟩:=pv5;rw[bv,FB] at il;have S1:=s5 _ _ Pp og;show k _ _;subst hk;refine aK λk hk=>?_;push_cast[xK,Ck,qo,uZ];refine⟨dp,_,rfl,S1,ul,?_⟩;obtain⟨O2,Sm⟩:∃OD:ID->Prop,OD=λx=>ok x/\x≠lr:=⟨_,rfl⟩;have su:∀a o,a≠dp->H5 a=GE o->unt H5 dp a=GE o:=λa o h e=>by rw[N7 h];exact e
  have SD:=su _ _ Pp.symm qo;have Tx:aN O2 (unt H5 dp) xs ((dM ss g (ahA (bU pl 0)) 0 S).map iB):=il.keep λa o h e=>by
   rw[cw] at h;rw[Sm];exact⟨⟨h.1,h.2.1⟩,su _ _ h.2.2 e⟩
  have OM:b7 lr H (unt H5 dp):=λa o h e=>su _ _ (aF e ul) (s5 _ _ h (eQ _ _ e));generalize unt H5 dp=Hu at su SD Tx OM |-;rw[Il];obtain⟨Pc,bp⟩:∃Pv:Nat->List V->L2.St->Hp->Prop,Pv=λ(i:Nat) ac τ H'=>∃(o0:Option V),Same Hu H'/\aN O2 H' ac ((PL.take i).map λl=>iB (.pik l))/\ac.length=i/\τ=[o0]:=⟨_,rfl⟩;refine Cq (J:=Itk (PL.map λl=>(B6 l:Key))) Z PL.length (aR ω) Pc (by rw[bp];exact⟨_,Same.refl _,.nil,rfl,rfl⟩) ?_ ?_ ?_ ?_ ?_
  ·intro i ac τ H' pc;rw[bp] at pc;obtain⟨_,_,_,h,_⟩:=pc;exact le_of_eq h
  ·intro i ac τ H' hi _;show i<_;rw[AI];exact hi
  ·intro ac τ H' _;show(PL.map λl=>(B6 l:Key)).length<=PL.length;rw[AI];exact AW _
  ·rintro i ac τ H6 x H6' hi pc ⟨rfl,kx,VX,rfl⟩;rw[bp] at pc;obtain⟨o0,s6,mE,fm,rfl⟩:=pc;rw[AZ] at VX;obtain⟨l,hl,rfl⟩:=B5.mp VX;show qg 0 (As l) _ _ _;push_cast;refine⟨aR δ,λa ha=>?_⟩;have s7:=aB (o:=By [At "pick",As l]) ha;rw[bp];refine⟨_,s6.trans s7,?_,by rw[AN,AQ,fm],rfl⟩;rw[F2,hl,BH];refine(mE.same s7).append (.cons (.tup ?_ au (show 2<=1000000 by decide) (.cons (.str _) (.cons (.int _) .nil))) .nil);rw[Sm];refine⟨hn.new ?_,?_⟩
   ·cases e:H a with
    | none=>rfl
    | some o=>
     have:=s6 _ _ (OM a o (aF e i7) e);rw[ha] at this;cases this
   exact(aF (s6 _ _ SD) ha).symm
  intro ac τ H6 c pc hc;rw[bp] at pc;obtain⟨o0,s6,mE,fm,rfl⟩:=pc;rw[FB] at mE;have s7:=s6.trans (aB (o:=AT ac) hc);have ec:upd H6 c (AT ac) c=_:=au;have xn:=mE.same (aB (o:=AT ac) hc);generalize upd H6 c (AT ac)=H7 at s7 ec xn |-;have SE:=s7 _ _ SD;rw[yR,SE,ec,Kc];refine⟨aR ω,?_⟩;show k _ _;subst hk;push_cast;refine q lr (xs++ac) _ ?_ i7 au ?_
  ·exact λa o e=>by
    rw[aL (aF e i7)];exact s7 _ _ (OM _ _ (aF e i7) e)
  have k8:∀a o,O2 a->H7 a=GE o->(ok a/\a≠lr)/\upd H7 lr (AT (xs++ac)) a=GE o:=λa o h e=>by
   rw[Sm] at h;exact⟨h,by rw[aL h.2];exact e⟩
  rw[BH];refine((Tx.same s7).keep k8).append ?_;have:=xn.keep k8;rwa [IG]
end
abbrev Jc:List Str:=["thing"]
abbrev j9:Stmt:=top 1
theorem Ol:bx Jc ["thing"] (aj j9):=⟨rfl,rfl,rfl,ψ,rfl,ψ,ψ⟩
theorem Ay:NM_ Jc j9 0 "thing":=.of ψ
theorem Fi:GI_ j9 "bool":=ψ
theorem Gw:GI_ j9 "int":=ψ
theorem lV:GI_ j9 "isinstance":=ψ
theorem Qw:Bn "is_number" := ⟨ψ,ψ⟩
abbrev rB:List Str:=["stretches","left","label"]
abbrev gH:Stmt:=top 7
theorem K8:bx rB q15_ (aj gH):=⟨rfl,rfl,rfl,ψ,rfl,ψ,ψ⟩
theorem JV:NM_ rB gH 0 "stretches":=.of ψ
theorem yr:NM_ rB gH 1 "left":=.of ψ
theorem JT:NM_ rB gH 2 "label":=.of ψ
theorem rF:GI_ gH "labels_left":=ψ
theorem Fd:GI_ gH "len":=ψ
theorem Nr:Bn "parts_some" := ⟨ψ,ψ⟩
abbrev vm:List Str:=["stretches","left","thing","word","which"]
abbrev eG:Stmt:=top 8
theorem Dc:bx vm q16_ (aj eG):=⟨rfl,rfl,rfl,ψ,rfl,ψ,ψ⟩
theorem m9:NM_ vm eG 0 "stretches":=.of ψ
theorem jo:NM_ vm eG 1 "left":=.of ψ
theorem gA:NM_ vm eG 2 "thing":=.of ψ
theorem kE:NM_ vm eG 3 "word":=.of ψ
theorem kj:NM_ vm eG 4 "which":=.of ψ
theorem w6:GI_ eG "MOST_IN_MASK":=ψ
theorem vC:GI_ eG "MOST_IN_TABLE":=ψ
theorem Ad:GI_ eG "is_number":=ψ
theorem wZ:GI_ eG "isinstance":=ψ
theorem xg:GI_ eG "labels_left":=ψ
theorem gW:GI_ eG "len":=ψ
theorem j6:GI_ eG "numbers_across":=ψ
theorem yM:GI_ eG "parts_some":=ψ
theorem Gu:GI_ eG "tuple":=ψ
theorem aac:Bn "is_step" := ⟨ψ,ψ⟩
theorem acF(left:List Nat):oK (nv left) (GE 1) GT=nv (left.drop 1):=by
 unfold oK;have e2:HT.sIx (nv left).length (nv left).length GT=(nv left).length:=rfl;rw[e2];cases left with
 | nil=>rfl
 | cons a r=>
  have e1:HT.sIx (nv (a::r)).length 0 (GE 1)=1:=by
   simp only[HT.sIx,gB,BG];split
   ·omega
   omega
  rw[e1];show(((nv (a::r)).drop 1).take _)=nv r;rw[F5 (by rw[Fm];exact AW _)];rfl
theorem Zf(k:Nat)(left:List Nat):inV (As (k:Int)) (nv left)=left.contains k:=acj k left
section
variable{bs:List Str}{bi aS:Tok}
theorem YB(hB:∀x:Str,x∈BLs->mg x=GT)(F:Fun K "is_number" "is_number" j9 f fd):cT P w K mg base CX0 1 f fd ["thing"] W3:=by
 refine F.okz Ol λap A outer s H vs Q E hr h=>?_;obtain⟨v,ok,d,rfl,t,q⟩:=h;refine⟨_,(aJ (aQ (qJ (bJ dz lV (hB "isinstance" bM) Cc bN (ak (ao Ay) (ak (mL "int" Gw (hB "int" Em) boot_int Fy) aA))) (rZ (XQ (bJ dz lV (hB "isinstance" bM) Cc bN (ak (ao Ay) (ak (mL "bool" Fi (hB "bool" Ci) boot_bool Cr) aA)))))))),?_⟩;cases t with
 | non=>push_cast;exact q
 | bl b=>push_cast;exact q
 | int i=>push_cast;exact q
 | str x=>push_cast;exact q
 | lst o e z t=>push_cast[e];exact q
 | tup o e z t=>push_cast[e];exact q
theorem Yv(hB:∀x:Str,x∈BLs->mg x=GT)(CLabelsLeft:Cal P w K mg base "labels_left" 1 q3_ Jm)(F:Fun K "parts_some" "parts_some" gH f fd):cT P w K mg base CX0 2 f fd q15_ Rc:=by
 refine F.okz K8 λap A outer s H vs Q E hr h=>?_;obtain⟨s,l,ok,ss,left,m,rfl,ts,tl,lf,RC,q⟩:=h;refine⟨_,(aJ (aQ (Lp jZ jZ aq (RJ K hr.un1 (bA CLabelsLeft (hr.mono δ) rF rm (ak (ao JV) (ak (ao yr) aA))) (ao JT)) (bJ bD Fd (hB "len" cM) Be cN (ak (ao yr) aA))))),?_⟩;obtain⟨la,rfl,nc,el,ll⟩:=tl.left;replace el:H la=GE (.lst (nv left)):=el;push_cast;refine⟨s,_,ok,ss,left,rfl,ts,tl,lf,λa ha=>?_⟩;have s1:=aB (o:=AT ((left.map (lbl ss)).map As)) ha;have e1:upd H a (AT ((left.map (lbl ss)).map As)) a=_:=au;generalize upd H a (AT ((left.map (lbl ss)).map As))=H1 at s1 e1 |-;have eP:=s1 _ _ el;push_cast[eP];refine⟨⟨_,SqL.of e1⟩,_,SqL.of e1,_,.inl ⟨_,_,rfl,rfl,rfl⟩,?_⟩;have qq:=q _ s1;rw[gB];split
 ·rename_i c;rw[decide_eq_true (show 0<qt ss left m from by have:(0:Int)<((left.map (lbl ss)).count m:Nat):=c;unfold qt;omega),DD] at qq;rw[show decide ((((left.map (lbl ss)).count m:Nat):Int)<(left.length:Int))=decide (qt ss left m<left.length) from decide_eq_decide.mpr Int.ofNat_lt];exact qq
 rename_i c;rw[decide_eq_false (show ¬0<qt ss left m from by have:¬(0:Int)<((left.map (lbl ss)).count m:Nat):=c;unfold qt;omega),FX] at qq;exact qq
theorem Uy(hB:∀x:Str,x∈BLs->mg x=GT)(bX:mg "MOST_IN_MASK" = GE (.int 64 bi))(bz:mg "MOST_IN_TABLE" = GE (.int 200 aS))(CIsNumber:Cal P w K mg base "is_number" 1 ["thing"] W3)(CNumbersAcross:Cal P w K mg base "numbers_across" 1 q3_ rP)(CLabelsLeft:Cal P w K mg base "labels_left" 1 q3_ Jm)(CPartsSome:Cal P w K mg base "parts_some" 2 q15_ Rc)(F:Fun K "is_step" "is_step" eG f fd):cT P w K mg base CX0 3 f fd q16_ Ra:=by
 refine F.okz Dc λap A outer s H vs Q E hr h=>?_;obtain⟨s,l,p,ok,ss,left,pl,rfl,ts,tl,tp,lf,q⟩:=h;refine⟨_,(aD (bH (pW (yd (rY (mC (bJ dz wZ (hB "isinstance" bM) Cc bN (ak (ao gA) (ak (mL "tuple" Gu (hB "tuple" tR) boot_tuple uq) aA))) (λ_=>rfl))) (qH (rY (zu (ao gA)))))) (aJ (aQ jY)) bB)
  (aD (bF kE Dc.nd (aH aP (ao gA) aq (λ_ _=>rfl)) Z (.inl Z))
  (aD (bH (aV (bC hr.aZ) (ao kE) bf (aM _)) (aJ (aQ (qJ (dX (bC hr.aZ) (bJ bD gW (hB "len" cM) Be cN (ak (ao gA) aA)) aq (aM _)) (rZ (dX vI (bA CNumbersAcross (hr.mono δ) j6 mJ (ak (ao m9) (ak (ao jo) aA))) (Rz (v:=As 200) vC bz ⟨_,rfl⟩ GD) (aM _)))))) bB)
  (aD (bH (pW (yd (aV jZ (bJ bD gW (hB "len" cM) Be cN (ak (ao gA) aA)) aq (aM _)) (qH (rY (mC (bA CIsNumber (hr.mono δ) Ad Qw (ak (aH aP (ao gA) aq (λ_ _=>rfl)) aA)) (λ_=>rfl)))))) (aJ (aQ jY)) bB)
  (aD (bF kj Dc.nd (aH aP (ao gA) aq (λ_ _=>rfl)) Z (.inl Z))
  (aD (bH (aV (bC hr.aZ) (ao kE) bf (aM _)) (aJ (aQ (qJ (dX (bC hr.aZ) (bJ bD gW (hB "len" cM) Be cN (ak (ao gA) aA)) aq (aM _)) (rZ (dX (bC hr.aZ) (RJ K hr.un1 (bA CLabelsLeft (hr.mono δ) xg rm (ak (ao m9) (ak (ao jo) aA))) (ao kj)) (bJ bD gW (hB "len" cM) Be cN (ak (ao jo) aA)) (aM _)))))) bB)
  (aD (bH (aV (bC hr.aZ) (ao kE) bf (aM _)) (aJ (aQ (qJ (dX (bC hr.aZ) (bJ bD gW (hB "len" cM) Be cN (ak (ao gA) aA)) aq (aM _)) (rZ (dX aea (ao kj) (lN K4 (ao jo) (mU aq) qI) (by with_unfolding_all rfl)))))) bB)
  (aD (bH (aV (nP hr.aZ) (bJ bD gW (hB "len" cM) Be cN (ak (ao gA) aA)) aq (aM _)) (aJ (aQ jY)) bB)
  (aD (bH (aV (bC hr.aZ) (ao kE) bf (aM _)) (aJ (aQ (qJ (bA CPartsSome (hr.mono δ) yM Nr (ak (ao m9) (ak (ao jo) (ak (ao kj) aA)))) (rZ (dX vI (bA CNumbersAcross (hr.mono δ) j6 mJ (ak (ao m9) (ak (ao jo) aA))) (Rz (v:=As 64) w6 bX ⟨_,rfl⟩ Ko) (aM _)))))) bB)
  (aD (bH (pW (yd (aV Hj (ao kj) (ao jo) (by with_unfolding_all rfl)) (qH (aV (bC hr.aZ) (bJ bD gW (hB "len" cM) Be cN (ak (ao jo) aA)) aq (aM _))))) (aJ (aQ jY)) bB)
  (aD (bH (aV (bC hr.aZ) (ao kE) bf (aM _)) (aJ (aQ (dX (bC hr.aZ) (aH aP (aH aP (ao m9) (ao kj) (λ_ _=>rfl)) aq (λ_ _=>rfl)) (aH aP (aH aP (ao m9) (ao kj) (λ_ _=>rfl)) aq (λ_ _=>rfl)) (aM _)))) bB)
  (aJ (aQ (dX (bC hr.aZ) (ao kE) bf (aM _))))))))))))))),?_⟩
 obtain⟨la,rfl,nc,el,ll⟩:=tl.left;replace el:H la=GE (.lst (nv left)):=el;obtain⟨b,hb⟩:∃b,b=E9 ss left pl:=⟨_,rfl⟩;rw[<- hb] at q;have hk:pl=.tab\/∃(wd:Str)(n:Int)(r:List V)(pa:ID),p=.ref pa/\H pa=GE (.tup (At wd::As n::r))/\wd ≠ "table" /\
   ((wd = "pick" /\ r.length=0/\b=decide (qt ss left n=left.length))\/(wd ≠ "pick" /\ ((wd = "below" /\ r.length=2/\∃k:Nat,n=(k:Int)/\b=(left.drop 1).contains k)\/(wd ≠ "below" /\ r.length=1/\((wd = "mask" /\ b=((decide (0<qt ss left n)&&decide (qt ss left n<left.length))&&decide (dN ss left<=64))) \/
    (wd ≠ "mask" /\ ∃k:Nat,n=(k:Int)/\((wd = "is" /\ b=((left.contains k&&decide (left.length≠1))&&decide ((aO ss k).1=(aO ss k).2.1)))\/(wd ≠ "is" /\ wd = "within" /\ b=(left.contains k&&decide (left.length≠1)))))))))):=by
  have two:∀{d0 d1:A9}{ds:List A9}{x:Str}{n:Int},aG ok H p (.tuple (d0::d1::ds))->d0=.str x->d1=.int n->∃(r:List V)(pa:ID),p=.ref pa/\H pa=GE (.tup (At x::As n::r))/\r.length=ds.length:=by
   intro d0 d1 ds x n tp e0 e1;subst e0;subst e1;cases tp with
   | tup o e z tt=>
    cases tt with
    | cons t1 tt=>
     cases t1;cases tt with
     | cons t2 tt=>
      cases t2;exact⟨_,_,rfl,e,tt.length⟩
  cases pl with
  | tab=>exact .inl rfl
  | pick l=>
   obtain⟨r,pa,e1,e2,e3⟩:=two tp Z rfl;exact .inr ⟨_,_,r,pa,e1,e2,ψ,.inl ⟨rfl,e3,hb⟩⟩
  | low k a b=>
   obtain⟨r,pa,e1,e2,e3⟩:=two tp Z rfl;exact .inr ⟨_,_,r,pa,e1,e2,ψ,.inr ⟨ψ,.inl ⟨rfl,e3,k,rfl,hb⟩⟩⟩
  | msk l a=>
   obtain⟨r,pa,e1,e2,e3⟩:=two tp Z rfl;exact .inr ⟨_,_,r,pa,e1,e2,ψ,.inr ⟨ψ,.inr ⟨ψ,e3,.inl ⟨rfl,hb⟩⟩⟩⟩
  | one k a=>
   obtain⟨r,pa,e1,e2,e3⟩:=two tp Z rfl;exact .inr ⟨_,_,r,pa,e1,e2,ψ,.inr ⟨ψ,.inr ⟨ψ,e3,.inr ⟨ψ,k,rfl,.inl ⟨rfl,hb⟩⟩⟩⟩⟩
  | wit k a=>
   obtain⟨r,pa,e1,e2,e3⟩:=two tp Z rfl;exact .inr ⟨_,_,r,pa,e1,e2,ψ,.inr ⟨ψ,.inr ⟨ψ,e3,.inr ⟨ψ,k,rfl,.inr ⟨ψ,rfl,hb⟩⟩⟩⟩⟩
 rcases hk with rfl|⟨wd,n,r,pa,rfl,e,h0,hk⟩
 ·subst hb;cases tp with
  | tup o e z tt=>
   cases tt with
   | cons t1 tt=>
    cases t1;cases tt;push_cast[e];rw[if_neg (show ¬(!![At "table"].isEmpty)=true by simp),if_pos δ];exact⟨s,_,ok,ss,left,rfl,ts,tl,lf,_,rfl,q _ (Same.refl _)⟩
 clear tp hb;refine aK λk a9=>?_;push_cast[e];rw[if_neg (show ¬(!!(At wd::As n::r).isEmpty)=true by simp)];subst a9;refine aK λk a9=>?_;push_cast[e];subst a9;refine aK λk a9=>?_;refine iV λkt ke hkt hke=>?_;push_cast;rw[if_neg h0];clear hkt;subst hke;push_cast;subst a9;refine aK λk a9=>?_;refine iV λkt ke hkt hke=>?_;push_cast[e];rw[if_neg (show ¬(((r.length+1+1:Nat):Int)<2) by omega)];refine⟨_,ok,_,rfl,.int n,?_⟩;push_cast[tY];clear hkt;subst hke;push_cast;subst a9;refine aK λk a9=>?_;push_cast[e];subst a9;refine aK λk a9=>?_;refine iV λkt ke hkt hke=>?_;push_cast;rcases hk with⟨h1,hl,hs⟩|⟨h1,hk⟩
 ·rw[if_pos h1];clear hke a9;subst hkt;push_cast[e];rw[if_pos ω];refine⟨s,_,ok,ss,left,rfl,ts,tl,lf,λa ha=>?_⟩;have s1:=aB (o:=AT ((left.map (lbl ss)).map As)) ha;have e1:upd H a (AT ((left.map (lbl ss)).map As)) a=_:=au;generalize upd H a (AT ((left.map (lbl ss)).map As))=H1 at s1 e1 |-;have eP:=s1 _ _ el;push_cast[eP];refine⟨⟨_,SqL.of e1⟩,_,SqL.of e1,_,.inl ⟨_,_,rfl,rfl,rfl⟩,?_⟩;have qq:=q _ s1;rw[hs] at qq;rw[gB];rw[show decide ((((left.map (lbl ss)).count n:Nat):Int)=(left.length:Int))=decide (qt ss left n=left.length) from decide_eq_decide.mpr Int.ofNat_inj];exact qq
 rw[if_neg h1];clear hkt;subst hke;push_cast;subst a9;refine aK λk a9=>?_;refine iV λkt ke hkt hke=>?_;push_cast;rcases hk with⟨h2,hl,m,rfl,hs⟩|⟨h2,hl,hk⟩
 ·rw[if_pos h2];clear hke a9;subst hkt;push_cast[e,el];rw[if_pos ω];intro p1 iq;rw[acF];refine⟨rfl,JQ _,?_⟩;rw[Zf,<- hs];exact q _ (aB iq)
 rw[if_neg h2];clear hkt;subst hke;push_cast;subst a9;refine aK λk a9=>?_;refine iV λkt ke hkt hke=>?_;push_cast[e];rw[hl];rw[if_neg δ];clear hkt;subst hke;push_cast;subst a9;refine aK λk a9=>?_;refine iV λkt ke hkt hke=>?_;push_cast;rcases hk with⟨h3,hs⟩|⟨h3,m,rfl,hk⟩
 ·rw[if_pos h3];clear hke a9;subst hkt;push_cast;refine⟨s,_,ok,ss,left,n,rfl,ts,tl,lf,ll,λH1 s1=>⟨_,rfl,?_⟩⟩;cases hc:(decide (0<qt ss left n)&&decide (qt ss left n<left.length)) with
  | true=>
   rw[if_pos rfl];refine⟨s,_,ok,ss,left,rfl,ts.same s1,tl.same s1,lf,_,rfl,?_⟩;have qq:=q _ s1;rw[hs,hc,DD] at qq;exact qq
  | false=>
   rw[if_neg δ];have qq:=q _ s1;rw[hs,hc,FX] at qq;exact qq
 rw[if_neg h3];clear hkt;subst hke;push_cast;subst a9;refine aK λk a9=>?_;refine iV λkt ke hkt hke=>?_;push_cast[el];refine⟨rfl,JQ _,?_⟩;rw[Zf,gB];have kf:b=false->kt [GE s,GE (.ref la),GE (.ref pa),GE (.str wd),GE (.int (m:Int))] H:=λhb=>by
  clear hke a9;subst hkt;push_cast;rw[hb] at q;exact q _ (Same.refl _)
 cases hc:left.contains m with
 | false=>
  rw[if_pos (show(!false)=true from Z)];refine kf ?_;rcases hk with⟨_,hs⟩|⟨_,_,hs⟩ <;> rw[hs,hc] <;> rfl
 | true=>
 rw[if_neg δ];by_cases h9:left.length=1
 ·rw[if_pos ω];refine kf ?_;rcases hk with⟨_,hs⟩|⟨_,_,hs⟩ <;> rw[hs,hc,h9] <;> rfl
 rw[if_neg ω];clear kf hkt;subst hke;push_cast;subst a9;refine aK λk a9=>?_;refine iV λkt ke hkt hke=>?_;push_cast;have hmm:=EV.mp hc;rcases hk with⟨h4,hs⟩|⟨h4,h5,hs⟩
 ·rw[if_pos h4];clear hke a9;subst hkt;cases ts with
  | lst os es zs bj=>
   obtain⟨p1,x1,y1⟩:=bj.stN (lf.lt _ hmm);push_cast[es,x1,y1];rw[hs,hc,decide_eq_true h9,DD,DD] at q;exact q _ (Same.refl _)
 rw[if_neg h4];clear hkt;subst hke;push_cast;subst a9;push_cast;rw[hs,hc,decide_eq_true h9,DD] at q;rw[h5];exact q _ (Same.refl _)
end
abbrev vo:List Str:=["stretches","thing","waiting","left","part"]
abbrev iu:Stmt:=top 10
theorem xV:bx vo q24_ (aj iu):=⟨rfl,rfl,rfl,ψ,rfl,ψ,ψ⟩
theorem zP:NM_ vo iu 0 "stretches":=.of ψ
theorem U4:NM_ vo iu 1 "thing":=.of ψ
theorem uX:NM_ vo iu 2 "waiting":=.of ψ
theorem zO:NM_ vo iu 3 "left":=.of ψ
theorem zN:NM_ vo iu 4 "part":=.of ψ
theorem Fg:GI_ iu "is_step":=ψ
theorem Mz:GI_ iu "len":=ψ
theorem Ka:GI_ iu "list":=ψ
theorem BR:GI_ iu "plans_in":=ψ
theorem Gv:GI_ iu "range":=ψ
theorem aad:Bn "is_plan" := ⟨ψ,ψ⟩
theorem afA{ok OD:ID->Prop}{lw:ID}(hn:iD ok H)(cw:OD=λx=>ok x/\x≠lw)(s:Same H H')(e:H' lw=GE (.lst xs)):iD OD H':=by
 rw[cw];exact λH2 p s2 hp=>⟨hn H2 p (s.trans s2) hp,(aF (s2 _ _ e) hp).symm⟩
theorem aeA{ss:Sts}(h:0<ss.length):Lf ss (AK ss.length):=by
 refine⟨λz=>?_,λk hk=>by simpa using hk,HG⟩;have e:(AK ss.length).length=0:=by rw[z];rfl
 rw[DL] at e;omega
section
variable{bs:List Str}
theorem Uz(hB:∀x:Str,x∈BLs->mg x=GT)(CIsStep:Cal P w K mg base "is_step" 3 q16_ Ra)(CPlansIn:Cal P w K mg base "plans_in" 1 q12_ Jo)(F:Fun K "is_plan" "is_plan" iu f fd):cT P w K mg base CX0 4 f fd q24_ K3:=by
 refine F.okz xV λap A outer s H vs Q E hr h=>?_;obtain⟨s,p,ok,ss,pl,rfl,hn,ts,tp,h0,gI,hsz,q⟩:=h;refine⟨_,(aD (bF uX xV.nd (bV (ak (bG (ak (Dk Z Ka (hB "list" uY) Gv (hB "range" lU) (ak (bJ bD Mz (hB "len" cM) Be cN (ak (ao zP) aA)) aA)) (ak (ao U4) aA))) aA)) Z (.inl Z))
  (aD (pX BB (zu (ao uX)) (aD (jD (JH (ao uX)) (cV (n:=2) Z (aU (bK zO xV.nd (.inl Z)) (aU (bK zN xV.nd (.inl Z)) cB))))
  (aD (bH (rY (mC (bA CIsStep (hr.mono δ) Fg aac (ak (ao zP) (ak (ao zO) (ak (ao zN) aA)))) (λ_=>rfl))) (aJ (aQ jY)) bB)
  (aJ (fj (Ca (ao uX) (bA CPlansIn (hr.mono δ) BR Iv (ak (ao zP) (ak (ao zO) (ak (ao zN) aA))))))))))
  (aJ (aQ jY)))),?_⟩
 refine aK λk hk=>?_;have oo:=ts;cases ts with
 | lst os es zs bj=>
  rename_i sa xw;have oT:=bj.length;rw[AI] at oT;push_cast[es];refine⟨⟨ω,ω⟩,aR ω,λla ix=>⟨aR δ,λta hta=>⟨aR δ,λlw hlw=>?_⟩⟩⟩;rw[show Di 0 ((xw.length:Int)-0).toNat=nv (AK ss.length) by
   unfold Di nv;rw[show((xw.length:Int)-0).toNat=ss.length by omega];refine JP λk _=>?_;rw[Int.zero_add]] at hta hlw |-
  have u1:=aB (o:=AT (nv (AK ss.length))) ix;have u2:=aB (o:=By [AS la,p]) hta;have u3:=aB (o:=AT [AS ta]) hlw;have f1:=(u2.trans u3) _ _ (show upd H la (AT (nv (AK ss.length))) la=_ from au);have f2:=u3 _ _ (show upd (upd H la (AT (nv (AK ss.length)))) ta (By [AS la,p]) ta=_ from au);have f3:upd (upd (upd H la (AT (nv (AK ss.length)))) ta (By [AS la,p])) lw (AT [AS ta]) lw=_:=au;have u:=(u1.trans u2).trans u3;have Hta:H ta=GT:=u1.none hta;have Hlw:H lw=GT:=(u1.trans u2).none hlw;have sD:la≠lw:=aF (u2 _ _ (show upd H la (AT (nv (AK ss.length))) la=_ from au)) hlw;have sC:ta≠lw:=aF (show upd (upd H la (AT (nv (AK ss.length)))) ta (By [AS la,p]) ta=_ from au) hlw;generalize upd (upd (upd H la (AT (nv (AK ss.length)))) ta (By [AS la,p])) lw (AT [AS ta])=H1 at u3 f1 f2 f3 u |-;obtain⟨OD,cw⟩:∃OD:ID->Prop,OD=λx=>ok x/\x≠lw:=⟨_,rfl⟩;have up:∀a o,ok a->H a=GE o->OD a/\H1 a=GE o:=λa o h e=>by
   rw[cw];exact⟨⟨h,aF e Hlw⟩,u _ _ e⟩
  have wS:aG OD H1 (.ref sa) (.list (ss.map stD)):=oo.keep up;have N4:aG OD H1 p (plD pl):=tp.keep up;have sv:OD la:=by rw[cw];exact⟨hn.new ix,sD⟩
  have sr:OD ta:=by rw[cw];exact⟨hn.new Hta,sC⟩
  have tw:aN OD H1 [AS ta] ([(AK ss.length,pl)].map wD):=.cons (.tup sr f2 (by show 2<=1000000;decide) (.cons (dB sv f1 (by rw[DL];omega)) (.cons N4 .nil))) .nil;subst hk;refine aK λk hk=>?_;obtain⟨Pv,ag⟩:∃Pv:Nat->L2.St->Hp->Prop,Pv=λm σ H'=>∃(W:List (List Nat×Pl)) (xs:List V) (o4 o5:Option V),m=jw W/\Same H H'/\H' lw=GE (.lst xs)/\aN OD H' xs (W.map wD)/\(∀x∈W,Lf ss x.1) /\
   okP ss pl (AK ss.length)=(W.all λx=>okP ss x.2 x.1)/\jw W<=4000/\aG OD H' (.ref sa) (.list (ss.map stD))/\σ=[GE (.ref sa),GE p,GE (.ref lw),o4,o5]:=⟨_,rfl⟩
  refine⟨Pv,⟨jw [(AK ss.length,pl)],?_⟩,?_⟩
  ·rw[ag];refine⟨[(AK ss.length,pl)],_,_,_,rfl,u,f3,tw,?_,?_,?_,wS,rfl⟩
   ·intro x hx;rw[AA.mp hx];exact aeA h0
   ·simp
   simp[jw];exact hsz
  intro m σ H2 pv;rw[ag] at pv;obtain⟨W,xs,o4,o5,rfl,s2,SU,tW,xF,cq,am,rj,rfl⟩:=pv;have bv:=tW.length;rw[AI] at bv;push_cast[SU];cases hx:xs.isEmpty with
  | true=>
   have hW:W=[]:=BQ.mp (by rw[F8] at hx;omega);subst hW;push_cast;subst hk;push_cast;rw[cq] at q;exact q _ s2
  | false=>
   have Si:0<W.length:=by
    rw[<- bv];cases xs with
    | nil=>cases hx
    | cons a b=>simp
   obtain⟨W0,⟨left,p1⟩,rfl⟩:=kJ W Si;push_cast;refine⟨λσ' H'=>∃m',m'<jw (W0++[(left,p1)])/\Pv m' σ' H',λσ' H' h=>h,?_⟩;rw[BH] at tW;obtain⟨Oy,y,hy,ty⟩:=aN.dropLast tW;refine⟨y,hy,?_⟩;have sK:=xF (left,p1) ζ;have kk:∀(H':Hp)(o':HO) a o,OD a->H' a=GE o->OD a/\upd H' lw o' a=GE o:=λH' o' a o h e=>by
    refine⟨h,?_⟩;rw[cw] at h;rw[aL h.2];exact e
   have s3:Same H (upd H2 lw (AT xs.dropLast)):=cD s2 Hlw;have wx:=ty.keep (kk H2 (AT xs.dropLast));have xt:=Oy.keep (kk H2 (AT xs.dropLast));have gX:=rj.keep (kk H2 (AT xs.dropLast));have km:upd H2 lw (AT xs.dropLast) lw=_:=au;generalize upd H2 lw (AT xs.dropLast)=H3 at s3 wx xt gX km |-;cases wx with
   | tup oy ey zy tty=>
    cases tty with
    | cons tl tty=>
     cases tty with
     | cons L1 tty=>
      cases tty;rename_i ya xl xp;push_cast[ey,xK,Ck];refine⟨_,_,_,OD,ss,left,p1,rfl,gX,tl,L1,sK,λH4 s4=>?_⟩;cases ar:E9 ss left p1 with
      | false=>
       push_cast;have hf:okP ss pl (AK ss.length)=false:=by
        rw[cq,all_append];simp only[all_cons,all_nil,Bool.and_true];rw[pY,ar,FX,Bool.and_false]
       rw[hf] at q;exact q _ (s3.trans s4)
      | true=>
       have ki:=s4 _ _ km;have xo:=xt.same s4;have tI:iD OD H4:=afA hn cw (s3.trans s4) ki;push_cast[ki,uZ];refine⟨_,_,_,OD,ss,left,p1,rfl,tI,gX.same s4,tl.same s4,L1.same s4,sK,λv H6 s6 t6=>?_⟩;cases t6 with
       | lst or er zr tr=>
        rename_i r zs;have uS:=s6 _ _ ki;push_cast[yR,uS,er,Kc];have iX:=tr.length;rw[AI] at iX;have bg:(kids ss p1 left).length<=2:=by cases p1 <;> simp[kids]
        have Sj:=xo.length;rw[AI] at Sj;have hWs:W0.length<=jw W0:=RW W0;rw[lF] at am;refine⟨aR ω,jw (W0++kids ss p1 left),?_,?_⟩
        ·rw[lF,lF];have:=xO ss p1 left;simp only[jw,DI,map_nil,sum_cons,sum_nil] at this |-;omega
        rw[ag];refine⟨W0++kids ss p1 left,_,_,_,rfl,cD ((s3.trans s4).trans s6) Hlw,au,?_,?_,?_,?_,((gX.same s4).same s6).keep (kk H6 _),rfl⟩
        ·rw[BH];exact((xo.same s6).keep (kk H6 _)).append (tr.keep (kk H6 _))
        ·intro x hx;rcases BA.mp hx with z|z
         ·exact xF x (BN _ z)
         exact m8 sK ar x z
        ·rw[cq,all_append,all_append];simp only[all_cons,all_nil,Bool.and_true];rw[pY ss p1 left,ar,DD]
        rw[lF];have:=xO ss p1 left;have h4:jw [(left,p1)]=aW p1:=by simp[jw]
        omega
abbrev yX:List Str:=["spans","told","low","high"]
abbrev mR:Stmt:=top 29
theorem xU:bx yX ["spans"] (aj mR):=⟨rfl,rfl,rfl,ψ,rfl,ψ,ψ⟩
theorem U3:NM_ yX mR 0 "spans":=.of ψ
theorem jn:NM_ yX mR 1 "told":=.of ψ
theorem zM:NM_ yX mR 2 "low":=.of ψ
theorem zL:NM_ yX mR 3 "high":=.of ψ
theorem Mx:GI_ mR "max":=ψ
theorem Fe:GI_ mR "sorted":=ψ
theorem Z9:Bn "joined" := ⟨ψ,ψ⟩
theorem Ux(hB:∀x:Str,x∈BLs->mg x=GT)(F:Fun K "joined" "joined" mR f fd):cT P w K mg base CX0 1 f fd ["spans"] W5:=by
 refine F.okz xU λap A outer s H vs Q E hr h=>?_;obtain⟨l,us,ss,rfl,el,t,hd,hl,q⟩:=h;refine⟨_,(aD (bF jn xU.nd (bV aA) Z (.inl Z))
  (aD (fG BB Z (cQ (bJ Qq Fe (hB "sorted" HY) PyProof.Rows.boot_sorted V1 (ak (ao U3) aA))) (cV (n:=2) Z (aU (bK zM xU.nd (.inl Z)) (aU (bK zL xU.nd (.inl Z)) cB)))
  (aJ (bH (pW (lZ (zu (ao jn)) (jC (aV vI (ao zM) (aX bw (aH aP (aH aP (ao jn) (jX fM aq) (λ_ _=>rfl)) aq (λ_ _=>rfl)) aq) (aM _))))) (aJ (jD (bG (ak (aH aP (aH aP (ao jn) (jX fM aq) (λ_ _=>rfl)) aq (λ_ _=>rfl)) (ak (bJ (nu Z) Mx (hB "max" wL) Kk xr (ak (ao zL) (ak (aH aP (aH aP (ao jn) (jX fM aq) (λ_ _=>rfl)) aq (λ_ _=>rfl)) aA))) aA))) (Ry (ao jn) (jX fM aq) G8))) (aJ (fj (jF (ao jn) (bG (ak (ao zM) (ak (ao zL) aA)))))))) (λ_=>rfl))
  (aJ (aQ (ao jn))))),?_⟩
 refine aK λk hk=>?_;push_cast;refine⟨aR δ,λr c8=>?_⟩;have s0:=aB (o:=AT []) c8;have e0:upd H r (AT []) r=_:=au;generalize upd H r (AT [])=H0 at s0 e0 |-;subst hk;refine aK λk hk=>?_;refine jr λR hR=>?_;push_cast;obtain⟨ps,rfl⟩:=t.refs;obtain⟨e1,e2⟩:=t.read (dec:=OJ H) abm;have WA:=hd.firsts;rw[e1,IG] at WA;have br:ps.length=ss.length:=by have:=t.length;rwa [AI] at this
 refine⟨l,ps,λp=>(OJ H p).1,rfl,s0 _ _ el,ω,λp m=>⟨_,s0 _ _ (e2 p m)⟩,WA,λd qs wc hp ho=>?_⟩;have s1:Same H (upd H0 d (.lst (qs.map AS))):=s0.trans (aB wc);have ed:upd H0 d (.lst (qs.map AS)) d=_:=au;have er:upd H0 d (.lst (qs.map AS)) r=GE (.lst []):=by rw[aL (aF e0 wc)];exact e0
 have Po:d≠r:=(aF e0 wc).symm;generalize upd H0 d (.lst (qs.map AS))=H1 at s1 ed er |-;have tz:bW prE H (qs.map AS) (qs.map (OJ H)):=.of_map λp m=>e2 p (hp.mem_iff.mp m);have pz:(qs.map (OJ H)).Perm ss:=by rw[e1];exact hp.map _
 obtain⟨hn,hu⟩:=hd.rising pz (by rw[IG];exact ho);generalize hzs:qs.map (OJ H)=zs at tz pz hn hu;push_cast[ed];obtain⟨Pv,ag⟩:∃Pv:Nat->L2.St->Hp->Prop,Pv=λ(i:Nat) σ H'=>∃(az:List (Int×Int)) (db:List V) (o2 o3:Option V),Same H H'/\H' d=GE (.lst (qs.map AS))/\H' r=GE (.lst db)/\bW prE H' db az/\JI zs az i/\σ=[GE (.ref l),GE (.ref r),o2,o3]:=⟨_,rfl⟩;have zl:zs.length=(qs.map AS).length:=tz.length.symm;have zll:=pz.length_eq;refine wg hR Pv (by rw[ag];exact⟨[],[],_,_,s1,ed,er,.nil,.start _,rfl⟩) (λi σ H' _ pv=>by rw[ag] at pv;obtain⟨_,_,_,_,_,e,_⟩:=pv;exact SqL.of e) ?_ ?_
 ·intro i x σ H2 hx pv;rw[ag] at pv;obtain⟨az,db,o2,o3,s2,fF,fE,t2,ji,rfl⟩:=pv;obtain⟨p,z,rfl,hz,ep⟩:=(tz.same s2).got hx;replace ep:H2 p=GE (.tup [.int z.1,.int z.2]):=ep;have li:i<zs.length:=(AB.mp hz).1;have lt:=ji.ln;have le:=t2.length;rcases IX az with e0|⟨pre,t0,e0⟩
  ·subst e0;cases t2;push_cast[ep,fE];refine⟨aR δ,λq hq=>?_⟩;have fA:upd H2 q (.tup [.int z.1,.int z.2]) r=GE (.lst []):=by rw[aL (aF fE hq)];exact fE
   push_cast[fA];refine⟨δ,?_⟩;rw[ag];exact⟨[z],_,_,_,nJ s2 c8 hq,Jh fF Po hq,au,bW.push .nil z fE hq,ji.fresh hz hn hu (λt q=>by cases q),rfl⟩
  rw[List.concat_eq_append] at e0;subst e0;obtain⟨vs,pt,rfl,tv,kg⟩:=t2.split;replace kg:H2 pt=GE (.tup [.int t0.1,.int t0.2]):=kg;have la:=S8 vs (AS pt);push_cast[ep,fE,la,kg,RT];have mx:(if t0.2>z.2 then t0.2 else z.2)=max z.2 t0.2:=by split <;> omega
  rw[mx];by_cases c:z.1<=t0.2+1
  ·rw[if_pos c];refine⟨aR δ,λq hq=>?_⟩;have fA:upd H2 q (.tup [.int t0.1,.int (max z.2 t0.2)]) r=GE (.lst (vs++[.ref pt])):=by rw[aL (aF fE hq)];exact fE
   push_cast[fA];refine⟨_,R7 vs _,?_⟩;rw[K7,ag];exact⟨pre++[(t0.1,max z.2 t0.2)],_,_,_,nJ s2 c8 hq,Jh fF Po hq,au,bW.swap tv (t0.1,max z.2 t0.2) fE hq,ji.grown hz hn hu c,rfl⟩
  rw[if_neg c];refine⟨aR δ,λq hq=>?_⟩;have fA:upd H2 q (.tup [.int z.1,.int z.2]) r=GE (.lst (vs++[.ref pt])):=by rw[aL (aF fE hq)];exact fE
  push_cast[fA];refine⟨CM (show(vs++[AS pt]).length<=1000 by omega) δ,?_⟩;rw[ag];exact⟨(pre++[t0])++[z],_,_,_,nJ s2 c8 hq,Jh fF Po hq,au,bW.push t2 z fE hq,ji.fresh hz hn hu (λt q=>by rw[List.getLast?_append] at q;cases q;exact c),rfl⟩
 intro σ H2 pv;rw[ag] at pv;obtain⟨az,db,o2,o3,s2,fF,fE,t2,ji,rfl⟩:=pv;subst hk;push_cast;refine q r H2 db az s2 c8 fE t2 ji.gap (λn=>?_) (λs m=>?_) ?_
 ·rw[ji.cv,<- zl,FB];exact ZR pz
 ·obtain⟨z,mz,e⟩:=ji.fs s m;exact⟨z,pz.mem_iff.mp mz,e⟩
 have:=ji.ln;omega
abbrev lz:List Str:=["spans","others","at","low","high"]
abbrev fQ:Stmt:=top 30
theorem lH:bx lz ["spans","others"] (aj fQ):=⟨rfl,rfl,rfl,ψ,rfl,ψ,ψ⟩
theorem J1:NM_ lz fQ 0 "spans":=.of ψ
theorem mW:NM_ lz fQ 1 "others":=.of ψ
theorem iw:NM_ lz fQ 2 "at":=.of ψ
theorem yw:NM_ lz fQ 3 "low":=.of ψ
theorem yu:NM_ lz fQ 4 "high":=.of ψ
theorem um:GI_ fQ "len":=ψ
theorem Nu:Bn "lie_within" := ⟨ψ,ψ⟩
abbrev vh:List Str:=["first","goals","told","number","goal"]
abbrev mQ:Stmt:=top 32
theorem xR:bx vh ["first","goals"] (aj mQ):=⟨rfl,rfl,rfl,ψ,rfl,ψ,ψ⟩
theorem UW:NM_ vh mQ 0 "first":=.of ψ
theorem UL:NM_ vh mQ 1 "goals":=.of ψ
theorem kh:NM_ vh mQ 2 "told":=.of ψ
theorem uU:NM_ vh mQ 3 "number":=.of ψ
theorem uT:NM_ vh mQ 4 "goal":=.of ψ
theorem yJ:GI_ mQ "enumerate":=ψ
theorem Np:Bn "runs_of" := ⟨ψ,ψ⟩
abbrev lq:List Str:=["row","at","wide","bits","goal"]
abbrev fP:Stmt:=top 33
theorem oW:bx lq ["row","at"] (aj fP):=⟨rfl,rfl,rfl,ψ,rfl,ψ,ψ⟩
theorem J0:NM_ lq fP 0 "row":=.of ψ
theorem yt:NM_ lq fP 2 "wide":=.of ψ
theorem JZ:NM_ lq fP 3 "bits":=.of ψ
theorem JX:NM_ lq fP 4 "goal":=.of ψ
theorem Aa:GI_ fP "range":=ψ
theorem Nt:Bn "mask_goals" := ⟨ψ,ψ⟩
theorem aei(hB:∀x:Str,x∈BLs->mg x=GT)(F:Fun K "lie_within" "lie_within" fQ f fd):cT P w K mg base CX0 1 f fd ["spans","others"] CP:=by
 refine F.okz lH λap A outer s H vs Q E hr h=>?_;obtain⟨a,b,us,qS,ss,os,rfl,ea,ta,eb,tb,gs,go,q⟩:=h;refine⟨_,(aD (bF iw lH.nd aq Z (.inl Z))
  (aD (fG BB Z (cQ (ao J1)) (cV (n:=2) Z (aU (bK yw lH.nd (.inl Z)) (aU (bK yu lH.nd (.inl Z)) cB)))
  (aD (pX BB (pW (lZ (aV jZ (ao iw) (bJ bD um (hB "len" cM) Be cN (ak (ao mW) aA)) (aM _)) (jC (aV jZ (aH aP (aH aP (ao mW) (ao iw) (λ_ _=>rfl)) aq (λ_ _=>rfl)) (ao yu) (aM _))))) (aJ (JF iw lH.nd aq J4)))
  (aJ (bH (pW (yd (aV (bC hr.aZ) (ao iw) (bJ bD um (hB "len" cM) Be cN (ak (ao mW) aA)) (aM _)) (qH (aV jZ (ao yw) (aH aP (aH aP (ao mW) (ao iw) (λ_ _=>rfl)) aq (λ_ _=>rfl)) (aM _))))) (aJ (aQ jY)) bB))) (λ_=>rfl))
  (aJ (aQ jY)))),?_⟩
 refine aK λk hk=>?_;push_cast;subst hk;refine aK λk hk=>?_;refine jr λR hR=>?_;push_cast[ea];have la:=ta.length;have lb:=tb.length;obtain⟨Pv,ag⟩:∃Pv:Nat->L2.St->Hp->Prop,Pv=λ(i:Nat) σ H'=>∃(j:Nat)(o3 o4:Option V),H'=H/\WI ss os i j/\σ=[GE (.ref a),GE (.ref b),GE (.int (j:Int)),o3,o4]:=⟨_,rfl⟩;refine wg hR Pv (by rw[ag];exact⟨0,_,_,rfl,.start _ _,rfl⟩) (λi σ H' _ pv=>by rw[ag] at pv;obtain⟨_,_,_,rfl,_⟩:=pv;exact SqL.of ea) ?_ ?_
 ·intro i x σ H2 hx pv;rw[ag] at pv;obtain⟨j,o3,o4,rfl,wi,rfl⟩:=pv;obtain⟨p,z,rfl,hz,ep⟩:=ta.got hx;replace ep:H2 p=GE (.tup [.int z.1,.int z.2]):=ep;push_cast[ep];obtain⟨Pw,ik⟩:∃Pw:Nat->L2.St->Hp->Prop,Pw=λ(j:Nat) σ H'=>H'=H2/\WI ss os i j/\σ=[GE (.ref a),GE (.ref b),GE (.int (j:Int)),GE (.int z.1),GE (.int z.2)]:=⟨_,rfl⟩;refine aau os.length Pw j (by rw[ik];exact⟨rfl,wi,rfl⟩) ?_;intro j σ H3 pw;rw[ik] at pw;obtain⟨rfl,wi,rfl⟩:=pw;have lj:=wi.le;push_cast[eb];by_cases hj:j<os.length
  ·rw[if_pos (show(j:Int)<(qS.length:Int) by omega)];have ho:os[j]?=GE os[j]:=AC hj;obtain⟨po,hpo,Ll⟩:=tb.get ho;generalize os[j]=o at ho Ll;replace Ll:H3 po=GE (.tup [.int o.1,.int o.2]):=Ll;have fi:=bO hpo;push_cast[fi,Ll];by_cases c:o.2<z.2
   ·rw[if_pos c];refine⟨λσ' H'=>Pw (j+1) σ' H',λσ' H' h=>⟨_,ω,j+1,rfl,h⟩,?_⟩;rw[ik];exact⟨rfl,wi.skip gs hz ho c,rfl⟩
   rw[if_neg c];push_cast[eb];rw[if_neg (show ¬(j:Int)=(qS.length:Int) by omega)];push_cast[fi,Ll];by_cases c2:z.1<o.1
   ·rw[if_pos c2];exact q false ⟨λh=>(by cases h),λh=>absurd h (wi.not gs go hz (.inr ⟨o,ho,ω,c2⟩))⟩
   rw[if_neg c2,ag];exact⟨j,_,_,rfl,wi.next hz ho ω ω,rfl⟩
  rw[if_neg (show ¬(j:Int)<(qS.length:Int) by omega),if_pos (show(j:Int)=(qS.length:Int) by omega)];exact q false ⟨λh=>(by cases h),λh=>absurd h (wi.not gs go hz (.inl ω))⟩
 intro σ H2 pv;rw[ag] at pv;obtain⟨j,o3,o4,rfl,wi,rfl⟩:=pv;subst hk;push_cast;refine q true ⟨λ_ n hn=>wi.ins n ?_,λ_=>rfl⟩;rw[la,FB];exact hn
theorem abS(hB:∀x:Str,x∈BLs->mg x=GT)(F:Fun K "runs_of" "runs_of" mQ f fd):cT P w K mg base CX0 1 f fd ["first","goals"] KQ:=by
 refine F.okz xR λap A outer s H vs Q E hr h=>?_;obtain⟨g,first,gs,rfl,eg,f1,f2,hl,q⟩:=h
 refine⟨_,(aD (bF kh xR.nd (bV aA) Z (.inl Z))
  (aD (fG BB Z (XM yJ (hB "enumerate" fW) (ak (ao UL) aA) (abq (ao UW).h adU)) (cV (n:=2) Z (aU (bK uU xR.nd (.inl Z)) (aU (bK uT xR.nd (.inl Z)) cB)))
  (aJ (bH (pW (lZ (zu (ao kh)) (jC (aV (bC hr.aZ) (aH aP (aH aP (ao kh) (jX fM aq) (λ_ _=>rfl)) aq (λ_ _=>rfl)) (ao uT) (aM _))))) (aJ (jD (bG (ak (aH aP (aH aP (ao kh) (jX fM aq) (λ_ _=>rfl)) aq (λ_ _=>rfl)) (ak (ao uU) (ak (ao uT) aA)))) (Ry (ao kh) (jX fM aq) G8))) (aJ (fj (jF (ao kh) (bG (ak (ao uU) (ak (ao uU) (ak (ao uT) aA))))))))) (λ_=>rfl))
  (aJ (aQ (ao kh))))),?_⟩
 refine aK λk hk=>?_;push_cast;refine⟨aR δ,λr c8=>?_⟩;have s0:=aB (o:=AT []) c8;have e0:upd H r (AT []) r=_:=au;generalize upd H r (AT [])=H0 at s0 e0 |-;subst hk;refine aK λk hk=>?_;refine jr λR hR=>?_;obtain⟨Pv,ag⟩:∃Pv:Nat->L2.St->Hp->Prop,Pv=λ(i:Nat) σ H'=>∃(az:List (Int×Int×Int)) (db:List V) (o3 o4:Option V),Same H H'/\H' r=GE (.lst db)/\bW trE H' db az/\rE first gs az i/\σ=[GE (.int first),GE (.ref g),GE (.ref r),o3,o4]:=⟨_,rfl⟩
 have h0:Pv 0 [GE (.int first),GE (.ref g),GE (.ref r),GT,GT] H0:=by rw[ag];exact⟨[],[],_,_,s0,e0,.nil,.start _ _,rfl⟩
 have fin:∀σ H',Pv gs.length σ H'->k σ H':=by
  intro σ H2 pv;rw[ag] at pv;obtain⟨az,db,o3,o4,s2,fE,t2,ji,rfl⟩:=pv;subst hk;push_cast;exact q r H2 db az s2 c8 fE t2 ji
 have W':∀{i:Nat}{x:V},(gs.map As)[i]?=GE x->∃g',gs[i]?=GE g'/\x=.int g':=λ{i x} hx=>by
  rw[AZ] at hx;obtain⟨g',e1,e2⟩:=B5.mp hx;exact⟨g',e1,e2.symm⟩
 have main:∀J:It,(∀i σ H,i<gs.length->Pv i σ H->J.go i H)->(∀σ H,Pv gs.length σ H->J.stop gs.length H)->(∀i σ H x H3,Pv i σ H->J.yld i H x H3->∃p g',gs[i]?=GE g'/\x=.ref p/\H p=GT/\H3=upd H p (.tup [.int (first+i),.int g']))->R J H0:=by
  intro J ja jb jc;refine Ql hR gs.length Pv h0 ja jb (λi σ H2 x H3 hi pv y=>?_) fin;obtain⟨p,g',hg,rfl,hp,rfl⟩:=jc i σ H2 x H3 pv y;rw[ag] at pv;obtain⟨az,db,o3,o4,s2,fE,t2,ri,rfl⟩:=pv;have lt:=ri.ln;have le:=t2.length;have s3:Same H (upd H2 p (.tup [.int (first+i),.int g'])):=s2.trans (aB hp)
  have ep:upd H2 p (.tup [.int (first+i),.int g']) p=GE (.tup [.int (first+i),.int g']):=au
  have fA:upd H2 p (.tup [.int (first+i),.int g']) r=GE (.lst db):=by rw[aL (aF fE hp)];exact fE
  have t3:=t2.Tg (o:=.tup [.int (first+i),.int g']) hp
  generalize upd H2 p (.tup [.int (first+i),.int g'])=H3 at s3 ep fA t3 |-
  rcases IX az with e0|⟨pre,t0,e0⟩
  ·subst e0;cases t2;push_cast[ep,fA];refine⟨aR δ,λq hq=>?_⟩;have nX:upd H3 q (.tup [.int (first+i),.int (first+i),.int g']) r=GE (.lst []):=by rw[aL (aF fA hq)];exact fA
   push_cast[nX];refine⟨δ,?_⟩;rw[ag];exact⟨[(first+i,first+i,g')],_,_,_,nJ s3 c8 hq,au,bW.push .nil (first+i,first+i,g') fA hq,ri.fresh hg (λw q=>by cases q),rfl⟩
  rw[List.concat_eq_append] at e0;subst e0;obtain⟨vs,pt,rfl,tv,kg⟩:=t3.split;replace kg:H3 pt=GE (.tup [.int t0.1,.int t0.2.1,.int t0.2.2]):=kg;have la:=S8 vs (AS pt);push_cast[ep,fA,la,kg,RT];by_cases c:t0.2.2=g'
  ·rw[if_pos c];refine⟨aR δ,λq hq=>?_⟩;have nX:upd H3 q (.tup [.int t0.1,.int (first+i),.int g']) r=GE (.lst (vs++[.ref pt])):=by rw[aL (aF fA hq)];exact fA
   push_cast[nX];refine⟨_,R7 vs _,?_⟩;rw[K7,ag];exact⟨pre++[(t0.1,first+i,g')],_,_,_,nJ s3 c8 hq,au,bW.swap tv (t0.1,first+i,g') fA hq,ri.grown hg c,rfl⟩
  rw[if_neg c];refine⟨aR δ,λq hq=>?_⟩;have nX:upd H3 q (.tup [.int (first+i),.int (first+i),.int g']) r=GE (.lst (vs++[.ref pt])):=by rw[aL (aF fA hq)];exact fA
  push_cast[nX];refine⟨CM (show(vs++[AS pt]).length<=1000000 by omega) δ,?_⟩;rw[ag];exact⟨(pre++[t0])++[(first+i,first+i,g')],_,_,_,nJ s3 c8 hq,au,bW.push t3 (first+i,first+i,g') fA hq,ri.fresh hg (λw q=>by rw[JY] at q;cases q;exact c),rfl⟩
 rcases eg with eg|eg
 ·have S0:=s0 _ _ eg;have hg:∀i σ H',Pv i σ H'->H' g=GE (.tup (gs.map As)):=λi σ H' pv=>by rw[ag] at pv;obtain⟨_,_,_,_,s,_⟩:=pv;exact s _ _ eg
  push_cast[S0,rdZ];refine⟨ω,ω,main _ (λi σ H' hi pv=>⟨_,_,SqT.of (hg i σ H' pv),AC (by rw[AI];exact hi)⟩) (λσ H' pv=>⟨_,SqT.of (hg _ σ H' pv),by rw[AI]⟩) λi σ H' x H3 pv y=>?_⟩;obtain⟨p,x1,rfl,hp,rfl,hx⟩:=y;obtain⟨g',e1,rfl⟩:=W' (hx _ (SqT.of (hg i σ H' pv)));exact⟨p,g',e1,rfl,hp,rfl⟩
 have S0:=s0 _ _ eg;have hg:∀i σ H',Pv i σ H'->H' g=GE (.lst (gs.map As)):=λi σ H' pv=>by rw[ag] at pv;obtain⟨_,_,_,_,s,_⟩:=pv;exact s _ _ eg
 push_cast[S0,rdZ];refine⟨ω,ω,main _ (λi σ H' hi pv=>⟨_,_,SqL.of (hg i σ H' pv),AC (by rw[AI];exact hi)⟩) (λσ H' pv=>⟨_,SqL.of (hg _ σ H' pv),by rw[AI]⟩) λi σ H' x H3 pv y=>?_⟩;obtain⟨p,x1,rfl,hp,rfl,hx⟩:=y;obtain⟨g',e1,rfl⟩:=W' (hx _ (SqL.of (hg i σ H' pv)));exact⟨p,g',e1,rfl,hp,rfl⟩
theorem Yx(hB:∀x:Str,x∈BLs->mg x=GT)(F:Fun K "mask_goals" "mask_goals" fP f fd):cT P w K mg base CX0 1 f fd ["row","at"] Rg:=by
 refine F.okz oW λap A outer s H vs Q E hr h=>?_;obtain⟨x,mf,lo,wd,bits,t,rfl,⟨a,g,rfl,e,eg⟩,w1,w2,b0,q⟩:=h;refine⟨_,(aD (jD (lN K4 (ao J0) (mU aq) qI) (cV (n:=3) Z (aU (bK yt oW.nd (.inl Z)) (aU (bK JZ oW.nd (.inl Z)) (aU (bK JX oW.nd (.inl Z)) cB)))))
  (aJ (aQ (jE (NX:=lq) (kX:=(aj fP).names) ["place","goal","at","bits"] [GT,GE 4,GE 1,GE 3] Z Z ⟨rfl,ψ,ψ,ψ,ψ⟩ Z (uK Aa (hB "range" lU) (ak (ao yt) aA)) (λ_ _ _ _ _=>(cU 0 (show B8 (["place","goal","at","bits"]:List Str) from by decide +kernel) Z (D8 Z))) (λ_ _ _ _ _=>qL) (λ_ _ _ _ _=>(Dl (zu (aX Ys (aX Yp (cg 3) (cg 0)) aq)) (cg 1) (aX bw (cg 2) aq))))))),?_⟩
 refine aK λk hk=>?_;push_cast[e,jg];refine⟨δ,λp hp=>?_⟩;have cut:oK [At "mask",As lo,As wd,As bits,As t] (GE 2) GT=[As wd,As bits,As t]:=rfl;have s0:=aB (o:=By [As wd,As bits,As t]) hp;push_cast[cut];generalize upd H p (By [As wd,As bits,As t])=H0 at s0 |-;subst hk;push_cast;refine iH λR hR=>?_;push_cast[Ih];refine⟨ω,ω,?_⟩;obtain⟨Pc,bp⟩:∃Pv:Nat->List V->L2.St->Hp->Prop,Pv=λ(i:Nat) ac τ H'=>∃(o0:Option V),H'=H0/\ac=((AK i).map λ(p:Nat)=>if bitAt bits (p:Int)=true then t else mf+1).map As/\τ=[o0,GE (.int t),GE (.int mf),GE (.int bits)]:=⟨_,rfl⟩;refine ZS hR (aR ω) Pc (by rw[bp];exact⟨GT,rfl,rfl,rfl⟩) ?_ ?_ ?_
 ·intro i ac τ H5 pc;rw[bp] at pc;obtain⟨_,_,rfl,_⟩:=pc;simp
 ·intro i ac τ H5 hi pc;rw[bp] at pc;obtain⟨o0,rfl,rfl,rfl⟩:=pc;push_cast;refine⟨ω,?_⟩;rw[Int.zero_add,bp];have hb:(AX.bitAnd (bits/2^(i:Int).toNat) 1 != 0)=bitAt bits (i:Int):=acM _ _;rw[hb];have hn:∀x:Int,x=(if bitAt bits (i:Int)=true then t else mf+1)->∃(o0:Option V),H5=H5/\F1 As (F1 (λ(p:Nat)=>if bitAt bits (p:Int)=true then t else mf+1) (AK i))++[As x]=F1 As (F1 (λ(p:Nat)=>if bitAt bits (p:Int)=true then t else mf+1) (AK (i+1)))/\[GE (As (i:Int)),GE (As t),GE (As mf),GE (As bits)]=[o0,GE (.int t),GE (.int mf),GE (.int bits)]:=λx hx=>⟨_,rfl,by rw[range_succ,BH,BH,hx];rfl,rfl⟩;split
  ·rename_i c;exact hn t (by rw[if_pos c])
  rename_i c;exact hn _ (by rw[if_neg c])
 intro ac τ H5 d pc hd;rw[bp] at pc;obtain⟨o0,rfl,rfl,rfl⟩:=pc;exact q d _ (s0.trans (aB hd)) (s0.none hd) au
abbrev pq:List Str:=["row","at","low","high","word","first","last"]
abbrev iZ:Stmt:=top 34
theorem xQ:bx pq q18_ (aj iZ):=⟨rfl,rfl,rfl,ψ,rfl,ψ,ψ⟩
theorem fH:NM_ pq iZ 0 "row":=.of ψ
theorem uN:NM_ pq iZ 1 "at":=.of ψ
theorem Ht:NM_ pq iZ 2 "low":=.of ψ
theorem Hs:NM_ pq iZ 3 "high":=.of ψ
theorem pZ:NM_ pq iZ 4 "word":=.of ψ
theorem zF:NM_ pq iZ 5 "first":=.of ψ
theorem zE:NM_ pq iZ 6 "last":=.of ψ
theorem yI:GI_ iZ "mask_goals":=ψ
theorem uh:GI_ iZ "runs_of":=ψ
theorem Z6:Bn "ways_of" := ⟨ψ,ψ⟩
abbrev jT:List Str:=["reached","spans","ways","span","way","low","high","goal","first","last"]
abbrev eZ:Stmt:=top 35
theorem iJ:bx jT q19_ (aj eZ):=⟨rfl,rfl,rfl,ψ,rfl,ψ,ψ⟩
theorem UJ:NM_ jT eZ 0 "reached":=.of ψ
theorem Hx:NM_ jT eZ 1 "spans":=.of ψ
theorem Hw:NM_ jT eZ 2 "ways":=.of ψ
theorem uR:NM_ jT eZ 3 "span":=.of ψ
theorem uQ:NM_ jT eZ 4 "way":=.of ψ
theorem zH:NM_ jT eZ 5 "low":=.of ψ
theorem uP:NM_ jT eZ 6 "high":=.of ψ
theorem Hv:NM_ jT eZ 7 "goal":=.of ψ
theorem zG:NM_ jT eZ 8 "first":=.of ψ
theorem uO:NM_ jT eZ 9 "last":=.of ψ
theorem Bj:GI_ eZ "len":=ψ
theorem Bh:GI_ eZ "max":=ψ
theorem Bg:GI_ eZ "min":=ψ
theorem Z7:Bn "send_on" := ⟨ψ,ψ⟩
theorem abN(hB:∀x:Str,x∈BLs->mg x=GT)(CRunsOf:Cal P w K mg base "runs_of" 1 ["first","goals"] KQ)(CMaskGoals:Cal P w K mg base "mask_goals" 1 ["row","at"] Rg)(F:Fun K "ways_of" "ways_of" iZ f fd):cT P w K mg base CX0 2 f fd q18_ WW:=by
 refine F.okz xQ λap A outer s H vs Q E hr h=>?_;obtain⟨x,c,m,j,lo,hi,rfl,rx,hok,hrg,we,q⟩:=h;refine⟨_,(aD (bF pZ xQ.nd (aH aP (ao fH) aq (λ_ _=>rfl)) Z (.inl Z))
  (aD (bH (aV (bC hr.aZ) (ao pZ) bf (aM _)) (aJ (aQ (bV aA))) bB)
  (aD (bH (aV (bC hr.aZ) (ao pZ) bf (aM _)) (aJ (aQ (bA CRunsOf (hr.mono δ) uh Np (ak (aH aP (ao fH) aq (λ_ _=>rfl)) (ak (aH aP (ao fH) aq (λ_ _=>rfl)) aA))))) bB)
  (aD (bH (aV (bC hr.aZ) (ao pZ) bf (aM _)) (aJ (aQ (bA CRunsOf (hr.mono δ) uh Np (ak (aH aP (ao fH) aq (λ_ _=>rfl)) (ak (bA CMaskGoals (hr.mono δ) yI Nt (ak (ao fH) (ak (ao uN) aA))) aA))))) bB)
  (aD (bH (aV (bC hr.aZ) (ao pZ) bf (aM _)) (aJ (aQ (bV (ak (bG (ak (ao Ht) (ak (aX dY (aH aP (ao fH) aq (λ_ _=>rfl)) aq) (ak (aH aP (ao fH) aq (λ_ _=>rfl)) aA)))) (ak (bG (ak (aH aP (ao fH) aq (λ_ _=>rfl)) (ak (ao Hs) (ak (aX bw (ao uN) aq) aA)))) aA))))) bB)
  (aD (bF zF xQ.nd (aH aP (ao fH) aq (λ_ _=>rfl)) Z (.inl Z))
  (aD (bF zE xQ.nd (aH aP (ao fH) (jX fM aq) (λ_ _=>rfl)) Z (.inl Z))
  (aJ (aQ (bV (ak (bG (ak (ao Ht) (ak (aX dY (ao zF) aq) (ak (aX bw (ao uN) aq) aA)))) (ak (bG (ak (ao zF) (ak (ao zE) (ak (aH aP (ao fH) (jX fM aq) (λ_ _=>rfl)) aA)))) (ak (bG (ak (aX bw (ao zE) aq) (ak (ao Hs) (ak (aX bw (ao uN) aq) aA)))) aA))))))))))))),?_⟩
 have Zp:=rx;obtain⟨a,g,rfl,e,eg⟩:=rx;have hw:=yc c g;refine aK λk hk=>?_;push_cast[e];refine⟨_,hw,?_⟩;push_cast;subst hk;refine aK λk hk=>?_;refine iV λkt ke hkt hke=>?_;push_cast;by_cases c1:mK c = "pick"
 ·obtain⟨l,rfl⟩:=Kw c1;rw[if_pos c1];subst hkt;push_cast;exact⟨aR δ,λr c8=>q r _ _ [] (aB c8) c8 au .nil Wf (D6 _)⟩
 rw[if_neg c1];subst hke;push_cast;subst hk;refine aK λk hk=>?_;refine iV λkt ke hkt hke=>?_;push_cast;by_cases c2:mK c = "table"
 ·obtain⟨l,gs,rfl⟩:=Ai c2;rw[if_pos c2];subst hkt;have eg:=eg _ _ rfl;push_cast[e,jg];exact⟨g,l,gs,rfl,.inl eg,we.1,we.2.1,Cn we.2.2 δ,λr H' us ws s hn er t ri=>q r H' us ws s hn er t (Wc hok ri) (Cn ri.ln (Cn we.2.2 δ))⟩
 rw[if_neg c2];subst hke;push_cast;subst hk;refine aK λk hk=>?_;refine iV λkt ke hkt hke=>?_;push_cast;by_cases c3:mK c = "mask"
 ·obtain⟨l,wd,bits,t,rfl⟩:=Aj c3;rw[if_pos c3];subst hkt;push_cast[e,jg];refine⟨_,_,l,wd,bits,t,rfl,Zp,hok.2.1,hok.2.2.1,hok.2.2.2,λr1 H1 s1 tJ KW=>?_⟩;have lm:=U7 (j:Int) wd bits t;have w2:=hok.2.2.1;refine⟨r1,l,_,rfl,.inr KW,we.1,we.2,ω,λr H' us ws s hn er t ri=>q r H' us ws (s1.trans s) (s1.none hn) er t (Wh hok ?_) (Cn ri.ln ω)⟩;rw[lm] at ri;exact ri
 rw[if_neg c3];subst hke;push_cast;subst hk;refine aK λk hk=>?_;refine iV λkt ke hkt hke=>?_;push_cast;by_cases c4:mK c = "below"
 ·obtain⟨n,t,rfl⟩:=Ky c4;rw[if_pos c4];subst hkt;push_cast[e,jg];refine⟨aR δ,λp1 iq=>?_⟩;have s1:=aB (o:=By [As lo,As (n-1),As t]) iq;have qB:=s1 _ _ e;have e1:upd H p1 (By [As lo,As (n-1),As t]) p1=_:=au;generalize upd H p1 (By [As lo,As (n-1),As t])=H1 at s1 qB e1 |-;push_cast[qB,jg];refine⟨aR δ,λp2 i6=>?_⟩;have s2:=aB (o:=By [As n,As hi,As ((j:Int)+1)]) i6;have e2:upd H1 p2 (By [As n,As hi,As ((j:Int)+1)]) p2=_:=au;generalize upd H1 p2 (By [As n,As hi,As ((j:Int)+1)])=H2 at s2 e2 |-;refine⟨aR δ,λr c8=>?_⟩;have ca:=s1.trans s2;have tt:bW trE H2 [.ref p1,.ref p2] [(lo,n-1,t),(n,hi,(j:Int)+1)]:=.cons (s2 _ _ e1) (.cons e2 .nil);exact q r _ _ _ (ca.trans (aB c8)) (ca.none c8) au (tt.Tg c8) (Wi hok) (by show 2<=1000000;decide)
 rw[if_neg c4];subst hke;push_cast;subst hk;cases c with
 | pik l=>exact absurd rfl c1
 | tab l gs=>exact absurd rfl c2
 | msk l wd bits t=>exact absurd rfl c3
 | low n t=>exact absurd rfl c4
 | one n t=>
  have Ta:atI [At "is",As n,As t] (-2)=GE (As n):=rfl;have Tb:atI [At "is",As n,As t] (-1)=GE (As t):=rfl;push_cast[e,jg,Ta];refine⟨aR δ,λp1 iq=>?_⟩;have s1:=aB (o:=By [As lo,As (n-1),As ((j:Int)+1)]) iq;have qB:=s1 _ _ e;have e1:upd H p1 (By [As lo,As (n-1),As ((j:Int)+1)]) p1=_:=au;generalize upd H p1 (By [As lo,As (n-1),As ((j:Int)+1)])=H1 at s1 qB e1 |-;push_cast[qB,jg,Tb];refine⟨aR δ,λp2 i6=>?_⟩;have s2:=aB (o:=By [As n,As n,As t]) i6;have e2:upd H1 p2 (By [As n,As n,As t]) p2=_:=au;generalize upd H1 p2 (By [As n,As n,As t])=H2 at s2 e2 |-;push_cast;refine⟨aR δ,λp3 hp3=>?_⟩;have s3:=aB (o:=By [As (n+1),As hi,As ((j:Int)+1)]) hp3;have e3:upd H2 p3 (By [As (n+1),As hi,As ((j:Int)+1)]) p3=_:=au;generalize upd H2 p3 (By [As (n+1),As hi,As ((j:Int)+1)])=H3 at s3 e3 |-;refine⟨aR δ,λr c8=>?_⟩;have de:=(s1.trans s2).trans s3;have tt:bW trE H3 [.ref p1,.ref p2,.ref p3] [(lo,n-1,(j:Int)+1),(n,n,t),(n+1,hi,(j:Int)+1)]:=.cons (s3 _ _ (s2 _ _ e1)) (.cons (s3 _ _ e2) (.cons e3 .nil));exact q r _ _ _ (de.trans (aB c8)) (de.none c8) au (tt.Tg c8) (Wg hok) (by show 3<=1000000;decide)
 | rng n b t=>
  have Ta:atI [At "within",As n,As b,As t] (-2)=GE (As b):=rfl;have Tb:atI [At "within",As n,As b,As t] (-1)=GE (As t):=rfl;push_cast[e,jg,Ta];refine⟨aR δ,λp1 iq=>?_⟩;have s1:=aB (o:=By [As lo,As (n-1),As ((j:Int)+1)]) iq;have qB:=s1 _ _ e;have e1:upd H p1 (By [As lo,As (n-1),As ((j:Int)+1)]) p1=_:=au;generalize upd H p1 (By [As lo,As (n-1),As ((j:Int)+1)])=H1 at s1 qB e1 |-;push_cast[qB,jg,Tb];refine⟨aR δ,λp2 i6=>?_⟩;have s2:=aB (o:=By [As n,As b,As t]) i6;have e2:upd H1 p2 (By [As n,As b,As t]) p2=_:=au;generalize upd H1 p2 (By [As n,As b,As t])=H2 at s2 e2 |-;push_cast;refine⟨aR δ,λp3 hp3=>?_⟩;have s3:=aB (o:=By [As (b+1),As hi,As ((j:Int)+1)]) hp3;have e3:upd H2 p3 (By [As (b+1),As hi,As ((j:Int)+1)]) p3=_:=au;generalize upd H2 p3 (By [As (b+1),As hi,As ((j:Int)+1)])=H3 at s3 e3 |-;refine⟨aR δ,λr c8=>?_⟩;have de:=(s1.trans s2).trans s3;have tt:bW trE H3 [.ref p1,.ref p2,.ref p3] [(lo,n-1,(j:Int)+1),(n,b,t),(b+1,hi,(j:Int)+1)]:=.cons (s3 _ _ (s2 _ _ e1)) (.cons (s3 _ _ e2) (.cons e3 .nil));exact q r _ _ _ (de.trans (aB c8)) (de.none c8) au (tt.Tg c8) (Wd hok hrg) (by show 3<=1000000;decide)
theorem abQ(hB:∀x:Str,x∈BLs->mg x=GT)(F:Fun K "send_on" "send_on" eZ f fd):cT P w K mg base CX0 1 f fd q19_ W2:=by
 refine F.okz iJ λap A outer s H vs Q E hr h=>?_;obtain⟨lr,ls,lw,ps,X,us,uw,ss,ws,rfl,ra,es,ts,ew,tw,nw,hg,hz,q⟩:=h;refine⟨_,(aD (bF uR iJ.nd aq Z (.inl Z))
  (aD (bF uQ iJ.nd aq Z (.inl Z))
  (aJ (pX BB (pW (lZ (aV jZ (ao uR) (bJ bD Bj (hB "len" cM) Be cN (ak (ao Hx) aA)) (aM _)) (jC (aV jZ (ao uQ) (bJ bD Bj (hB "len" cM) Be cN (ak (ao Hw) aA)) (aM _))))) (aD (jD (aH aP (ao Hw) (ao uQ) (λ_ _=>rfl)) (cV (n:=3) Z (aU (bK zH iJ.nd (.inl Z)) (aU (bK uP iJ.nd (.inl Z)) (aU (bK Hv iJ.nd (.inl Z)) cB)))))
  (aD (jD (aH aP (ao Hx) (ao uR) (λ_ _=>rfl)) (cV (n:=2) Z (aU (bK zG iJ.nd (.inl Z)) (aU (bK uO iJ.nd (.inl Z)) cB))))
  (aD (bH (aV vI (bJ (nu Z) Bh (hB "max" wL) Kk xr (ak (ao zH) (ak (ao zG) aA))) (bJ (vg Z) Bg (hB "min" El) boot_min Fx (ak (ao uP) (ak (ao uO) aA))) (aM _)) (aJ (fj (jF (aH aP (ao UJ) (ao Hv) (λ_ _=>rfl)) (bG (ak (bJ (nu Z) Bh (hB "max" wL) Kk xr (ak (ao zH) (ak (ao zG) aA))) (ak (bJ (vg Z) Bg (hB "min" El) boot_min Fx (ak (ao uP) (ak (ao uO) aA))) aA)))))) bB)
  (aJ (bH (aV jZ (ao uO) (ao uP) (aM _)) (aJ (JF uR iJ.nd aq J4)) (aJ (JF uQ iJ.nd aq J4))))))))))),?_⟩
 refine aK λk hk=>?_;push_cast;subst hk;push_cast;have lsu:=ts.length;have lwu:=tw.length;obtain⟨Pv,ag⟩:∃Pv:Nat->L2.St->Hp->Prop,Pv=λ(m:Nat) σ H'=>∃(i j:Nat)(done:List (Int×(Int×Int))) (o5 o6 o7 o8 o9:Option V),i<=ss.length/\j<=ws.length/\m+i+j=ss.length+ws.length/\done.length<=i+j/\jz (ss.length+ws.length) ss ws=done++jz m (ss.drop i) (ws.drop j)/\oM ps H H'/\H' ls=GE (.lst us)/\RAt H' lr ps (λg=>X g++newOf done (g:Int))/\σ=[GE (.ref lr),GE (.ref ls),GE (.ref lw),GE (.int (i:Int)),GE (.int (j:Int)),o5,o6,o7,o8,o9]:=⟨_,rfl⟩;refine QX Pv (by rw[ag];exact⟨_,0,0,[],_,_,_,_,_,D6 _,D6 _,rfl,AW _,rfl,oM.refl _ _,es,by simpa [newOf] using ra,rfl⟩) ?_;intro m σ H1 pv kt hkt;rw[ag] at pv;obtain⟨i,j,done,o5,o6,o7,o8,o9,hi,hj,hm,kU,ME,s1,bq,xC,rfl⟩:=pv;have XA:=s1 _ _ nw ew;push_cast[bq,XA];have fin:jz m (ss.drop i) (ws.drop j)=[]->Q .non H1:=λh0=>by
  rw[h0,DH] at ME;refine q H1 s1 ?_;rw[ME];exact xC
 by_cases V':i<ss.length
 ·rw[if_pos (show(i:Int)<(us.length:Int) by omega)];by_cases VY:j<ws.length
  ·rw[if_pos (show(j:Int)<(uw.length:Int) by omega)];subst hkt;refine⟨λσ' H'=>∃m',m'<m/\Pv m' σ' H',λσ' H' h=>h,?_⟩;have hs:ss[i]?=GE ss[i]:=AC V';have hw:ws[j]?=GE ws[j]:=AC VY;obtain⟨pp,l6,Lc⟩:=ts.get hs;obtain⟨pw,hpw,K2⟩:=tw.get hw;have mw:=AU hw;have ds:=jQ hs;have dw:=jQ hw;generalize ss[i]=s at hs Lc ds;generalize ws[j]=w at hw K2 dw mw;replace Lc:H pp=GE (.tup [.int s.1,.int s.2]):=Lc;replace K2:H pw=GE (.tup [.int w.1,.int w.2.1,.int w.2.2]):=K2;have Pf:∀{b:ID}{ys:List V},H b=GE (.tup ys)->b∉ps:=λeb mb=>by
    obtain⟨n,hn⟩:=Dx.mp mb;obtain⟨u',e',_⟩:=ra.el n _ hn;rw[e'] at eb;cases eb
   have SH:=s1 _ _ (Pf Lc) Lc;have SG:=s1 _ _ (Pf K2) K2;have fi:=bO l6;have R':=bO hpw;obtain⟨m,rfl⟩:∃m',m=m'+1:=⟨m-1,ω⟩;rw[ds,dw] at ME;refine aK λk1 a9=>?_;push_cast[XA,R',SG];subst a9;refine aK λk1 a9=>?_;push_cast[bq,fi,SH];subst a9;refine aK λk1 a9=>?_;refine iV λkt ke hkt hke=>?_;push_cast;have mx:(if s.1>w.1 then s.1 else w.1)=max w.1 s.1:=by split <;> omega
   have mn:(if s.2<w.2.1 then s.2 else w.2.1)=min w.2.1 s.2:=by split <;> omega
   rw[mx,mn];have L7:jz (ss.length+ws.length) ss ws=done++((if max w.1 s.1<=min w.2.1 s.2 then [(w.2.2,(max w.1 s.1,min w.2.1 s.2))] else [])++(if s.2<w.2.1 then jz m (ss.drop (i+1)) (w::ws.drop (j+1)) else jz m (s::ss.drop (i+1)) (ws.drop (j+1)))):=ME;have x6:∀(fe:List (Int×(Int×Int))) (H2:Hp),fe.length<=i+j+1->jz (ss.length+ws.length) ss ws=fe++(if s.2<w.2.1 then jz m (ss.drop (i+1)) (w::ws.drop (j+1)) else jz m (s::ss.drop (i+1)) (ws.drop (j+1)))->oM ps H H2->H2 ls=GE (.lst us)->RAt H2 lr ps (λg=>X g++newOf fe (g:Int))->k1 [GE (AS lr),GE (AS ls),GE (AS lw),GE (As (i:Int)),GE (As (j:Int)),GE (As w.1),GE (As w.2.1),GE (As w.2.2),GE (As s.1),GE (As s.2)] H2:=by
    intro fe H2 l2 sf2 s2 iE oz;subst a9;push_cast;by_cases c2:s.2<w.2.1
    ·rw[if_pos c2] at sf2 |-;refine⟨m,CF _,?_⟩;rw[ag];exact⟨i+1,j,fe,_,_,_,_,_,V',hj,ω,ω,by rw[dw];exact sf2,s2,iE,oz,rfl⟩
    rw[if_neg c2] at sf2 |-;refine⟨m,CF _,?_⟩;rw[ag];exact⟨i,j+1,fe,_,_,_,_,_,hi,VY,ω,ω,by rw[ds];exact sf2,s2,iE,oz,rfl⟩
   by_cases c:max w.1 s.1<=min w.2.1 s.2
   ·rw[if_pos c];subst hkt;rw[if_pos c,<- CS] at L7;obtain⟨g0,g1,gn⟩:=hg w mw;have vT:ps[w.2.2.toNat]?=GE ps[w.2.2.toNat]:=AC ω;have a7:=gn _ vT;generalize ps[w.2.2.toNat]=pg at vT a7;have hag:atI (ps.map AS) w.2.2=GE (AS pg):=by
     have:=bO (xs:=ps.map AS) (j:=w.2.2.toNat) (v:=AS pg) (by rw[AZ,vT];rfl);rwa [show((w.2.2.toNat:Nat):Int)=w.2.2 by omega] at this
    obtain⟨ug,eg,tg⟩:=xC.el _ _ vT;have kC:=xC.e;push_cast[kC,hag,eg];refine⟨aR δ,λq1 gz=>?_⟩;have LJ:upd H1 q1 (.tup [.int (max w.1 s.1),.int (min w.2.1 s.2)]) pg=GE (.lst ug):=by rw[aL (aF eg gz)];exact eg
    rw[mx,mn];push_cast[LJ];have lg:=tg.length;refine⟨Bi (show ug.length<2000000 by
     have h1:=hz w.2.2.toNat;have h2:(newOf done ((w.2.2.toNat:Nat):Int)).length<=done.length:=by unfold newOf;rw[AI];exact D0 ..
     rw[lg,AN];omega) δ,?_⟩
    have oz:=(xC.same (aB (o:=.tup [.int (max w.1 s.1),.int (min w.2.1 s.2)]) gz)).push (s:=(max w.1 s.1,min w.2.1 s.2)) vT LJ au;have iE:upd (upd H1 q1 (.tup [.int (max w.1 s.1),.int (min w.2.1 s.2)])) pg (.lst (ug++[.ref q1])) ls=GE (.lst us):=Jh bq a7.symm gz;have s2:oM ps H (upd (upd H1 q1 (.tup [.int (max w.1 s.1),.int (min w.2.1 s.2)])) pg (.lst (ug++[.ref q1]))):=(s1.trans (aB gz).p).trans (oM.upd (AU vT));refine x6 _ _ (by rw[AN,AQ];omega) L7 s2 iE ?_;have eX:(λg:Nat=>X g++newOf (done++[(w.2.2,(max w.1 s.1,min w.2.1 s.2))]) (g:Int))=λg:Nat=>(X g++newOf done (g:Int))++(if g=w.2.2.toNat then [(max w.1 s.1,min w.2.1 s.2)] else []):=by
     funext g;rw[Hq,<- CS];congr 1;unfold newOf;by_cases e:g=w.2.2.toNat
     ·rw[if_pos e,DV (by simp;omega)];rfl
     rw[if_neg e,DZ (by simp;omega)];rfl
    rw[eX];exact oz
   rw[if_neg c];subst hke;push_cast;rw[if_neg c,G0] at L7;exact x6 done H1 ω L7 s1 bq xC
  rw[if_neg (show ¬(j:Int)<(uw.length:Int) by omega)];refine fin ?_;rw[HE (by omega:ws.length<=j)];cases m with
  | zero=>rfl
  | succ m=>cases ss.drop i <;> rfl
 rw[if_neg (show ¬(i:Int)<(us.length:Int) by omega)];refine fin ?_;rw[HE (by omega:ss.length<=i)];cases m <;> rfl
abbrev pA:List Str:=["rows","low","high","reached","at","row"]
abbrev gD:Stmt:=top 36
theorem xW:bx pA q4_ (aj gD):=⟨rfl,rfl,rfl,ψ,rfl,ψ,ψ⟩
theorem HS:NM_ pA gD 0 "rows":=.of ψ
theorem HN:NM_ pA gD 1 "low":=.of ψ
theorem HJ:NM_ pA gD 2 "high":=.of ψ
theorem kI:NM_ pA gD 3 "reached":=.of ψ
theorem qb:NM_ pA gD 4 "at":=.of ψ
theorem HF:NM_ pA gD 5 "row":=.of ψ
theorem yN:GI_ gD "enumerate":=ψ
theorem Fo:GI_ gD "joined":=ψ
theorem Fl:GI_ gD "send_on":=ψ
theorem Fj:GI_ gD "ways_of":=ψ
theorem Fz:Bn "come_to" := ⟨ψ,ψ⟩
theorem abX(hB:∀x:Str,x∈BLs->mg x=GT)(CJoined:Cal P w K mg base "joined" 1 ["spans"] W5)(CWaysOf:Cal P w K mg base "ways_of" 2 q18_ WW)(CSendOn:Cal P w K mg base "send_on" 1 q19_ W2)(F:Fun K "come_to" "come_to" gD f fd):cT P w K mg base CX0 3 f fd q4_ Jp:=by
 refine F.okz xW λap A outer s H vs Q E hr h=>?_;obtain⟨l,ok,cs,low,high,rfl,tr,du,nN,MQ,few,q⟩:=h;refine⟨_,(aD (uJ (NX:=pA) (kX:=(aj gD).names) ["row"] [GT] kI xW.nd Z Z ⟨rfl,ψ,ψ,ψ,ψ⟩ Z (cQ (ao HS)) (λ_ _ _ _ _=>(cU 0 (show B8 (["row"]:List Str) from by decide +kernel) Z (D8 Z))) (λ_ _ _ _ _=>qL) (λ_ _ _ _ _=>(bV aA)))
  (aD (fj (jF (aH aP (ao kI) aq (λ_ _=>rfl)) (bG (ak (ao HN) (ak (ao HJ) aA)))))
  (aD (fG BB Z (uL yN (hB "enumerate" fW) (ak (ao HS) aA)) (cV (n:=2) Z (aU (bK qb xW.nd (.inl Z)) (aU (bK HF xW.nd (.inl Z)) cB)))
  (aD (jD (bA CJoined (hr.mono δ) Fo Z9 (ak (aH aP (ao kI) (ao qb) (λ_ _=>rfl)) aA)) (aa8 (ao kI) (ao qb) G8))
  (aJ (fj (bA CSendOn (hr.mono δ) Fl Z7 (ak (ao kI) (ak (aH aP (ao kI) (ao qb) (λ_ _=>rfl)) (ak (bA CWaysOf (hr.mono δ) Fj Z6 (ak (ao HF) (ak (ao qb) (ak (ao HN) (ak (ao HJ) aA))))) aA))))))) (λ_=>rfl))
  (aJ (aQ (ao kI)))))),?_⟩
 have w4:=tr;cases tr with
 | lst o el zl gT=>
  rename_i xs;have bv:=gT.length;rw[AI] at bv;refine aK λk hk=>?_;refine iH λR hR=>?_;push_cast[el];obtain⟨Pc,bp⟩:∃Pv:Nat->List V->L2.St->Hp->Prop,Pv=λ(i:Nat) ac τ H'=>∃(ps:List ID),Same H H'/\ac=ps.map AS/\ps.length=i/\ps.Nodup/\(∀p,p∈ps->H p=GT/\H' p=GE (.lst [])):=⟨_,rfl⟩;refine Ag hR (aR ω) Pc (by rw[bp];exact⟨[],Same.refl _,rfl,rfl,.nil,λp m=>(by cases m)⟩) ?_ ?_ ?_ ?_
  ·intro i ac τ H5 pc;rw[bp] at pc;obtain⟨ps,_,rfl,h1,_⟩:=pc;rw[AI];omega
  ·intro i ac τ H5 pc;rw[bp] at pc;obtain⟨ps,s,_⟩:=pc;exact SqL.of (s _ _ el)
  ·intro i x ac τ H5 hx pc;rw[bp] at pc;obtain⟨ps,s5,rfl,VZ,Ps,tq⟩:=pc;push_cast;refine⟨aR δ,λp hp=>?_⟩;rw[bp];have np:p∉ps:=λm=>by rw[(tq p m).2] at hp;cases hp
   refine⟨ps++[p],s5.trans (aB hp),by rw[BH];rfl,by rw[AN,VZ];rfl,GO.mpr ⟨Ps,Fk.mpr ⟨BC,.nil⟩,λa ma b mb=>?_⟩,λb mb=>?_⟩
   ·rw[AA.mp mb];exact λz=>np (z ▸ ma)
   rcases BA.mp mb with mb|mb
   ·exact⟨(tq b mb).1,aB hp _ _ (tq b mb).2⟩
   rw[AA.mp mb];exact⟨s5.none hp,au⟩
  intro ac τ H5 d pc hd;rw[bp] at pc;obtain⟨ps,s5,rfl,VZ,Ps,tq⟩:=pc;push_cast;have ra:RAt (upd H5 d (.lst (ps.map AS))) d ps λ_=>[]:=⟨au,λm=>(by rw[(tq d m).2] at hd;cases hd),Ps,λj p hp=>⟨[],aB hd _ _ (tq p (AU hp)).2,.nil⟩⟩;have s6:Same H (upd H5 d (.lst (ps.map AS))):=s5.trans (aB hd);have wc:=s5.none hd;have ip:∀p,p∈ps->H p=GT:=λp m=>(tq p m).1;generalize upd H5 d (.lst (ps.map AS))=H6 at ra s6 |-;subst hk;refine aK λk hk=>?_;have am:=du.1;have pM:ps[0]?=GE ps[0]:=AC ω;generalize ps[0]'ω=p0 at pM;have Sf:atI (ps.map AS) 0=GE (AS p0):=bO (j:=0) (by rw[AZ,pM];rfl);obtain⟨u0,e0,t0⟩:=ra.el 0 p0 pM;cases t0;have kC:=ra.e;push_cast[kC,Sf,e0];refine⟨aR δ,λq1 gz=>?_⟩;have X2:upd H6 q1 (.tup [.int low,.int high]) p0=GE (.lst []):=by rw[aL (aF e0 gz)];exact e0
  push_cast[X2];refine⟨δ,?_⟩;have oz:=(ra.same (aB (o:=.tup [.int low,.int high]) gz)).push (s:=(low,high)) pM X2 au;have s7:Same H (upd (upd H6 q1 (.tup [.int low,.int high])) p0 (.lst ([]++[.ref q1]))):=nJ s6 (ip p0 (AU pM)) gz;rw[G0] at oz s7;generalize upd (upd H6 q1 (.tup [.int low,.int high])) p0 (.lst [.ref q1])=H7 at oz s7 |-;subst hk;refine aK λk hk=>?_;refine jr λR hR=>?_;have wq:=s7 _ _ el;push_cast[Bd,wq];refine⟨⟨_,SqL.of wq⟩,?_⟩;obtain⟨Pv,ag⟩:∃Pv:Nat->L2.St->Hp->Prop,Pv=λ(i:Nat) σ H'=>∃(ps:List ID)(X:Nat->List (Int×Int)) (o4 o5:Option V),Same H H'/\(∀p,p∈ps->H p=GT)/\RAt H' d ps X/\ps.length=cs.length/\CI cs low high X i/\σ=[GE (.ref l),GE (.int low),GE (.int high),GE (.ref d),o4,o5]:=⟨_,rfl⟩;refine MT hR Pv ?_ (λi σ H' pv=>by rw[ag] at pv;obtain⟨_,_,_,_,s,_⟩:=pv;exact s _ _ el) ?_ ?_
  ·rw[ag];exact⟨ps,_,_,_,s7,ip,oz,ω,CI.start MQ,rfl⟩
  ·intro i x σ H2 p hx pv hp;rw[ag] at pv;obtain⟨ps,X,o4,o5,s2,ip,ra,br,ci,rfl⟩:=pv;have li:i<cs.length:=by have:=(AB.mp hx).1;omega
   have hc:cs[i]?=GE cs[i]:=AC li;have ie:cs[i]∈cs:=Ee li;have zt:=du.2 i _ hc;obtain⟨x',ky,rx⟩:=gT.row hc;rw[hx] at ky;cases ky;generalize cs[i]=c at hc ie zt rx;have s3:Same H2 (upd H2 p (.tup [.int (i:Nat),x])):=aB hp;have ep:upd H2 p (.tup [.int (i:Nat),x]) p=GE (.tup [.int (i:Nat),x]):=au;generalize upd H2 p (.tup [.int (i:Nat),x])=H3 at s3 ep |-;have Mb:=ra.same s3;have kQ:ps[i]?=GE ps[i]:=AC ω;generalize ps[i]'ω=pi at kQ;have Sc:atI (ps.map AS) (i:Int)=GE (AS pi):=bO (by rw[AZ,kQ];rfl);obtain⟨ui,ei,ti⟩:=Mb.el i pi kQ;have kC:=Mb.e;push_cast[ep,kC,Sc];refine⟨pi,ui,X i,rfl,ei,ti,ci.ra i (AW _),ci.aeP few i,λr H4 db ys s4 tI er t4 gy cy fy ly=>?_⟩;have UN:=Mb.same s4;have dC:=UN.e;have hrp:r∉ps:=λm=>by
    obtain⟨n,hn⟩:=Dx.mp m;obtain⟨u',e',_⟩:=Mb.el n _ hn;rw[e'] at tI;cases tI
   have MV:d≠r:=aF kC tI;push_cast[dC];refine⟨i,Za (by rw[AI];omega),?_⟩;have xB:=UN.put (k:=i) ω hrp MV er t4;have esx:(ps.map AS).set i (AS r)=(ps.set i r).map AS:=(map_set ..).symm;rw[esx];have sf:Same H H4:=(s2.trans s3).trans s4;have c8:H r=GT:=(s2.trans s3).none tI;have s5:Same H (upd H4 d (.lst ((ps.set i r).map AS))):=cD sf wc;have qo:upd H4 d (.lst ((ps.set i r).map AS)) r=GE (.lst db):=by rw[aL MV.symm];exact er
   have t5:bW prE (upd H4 d (.lst ((ps.set i r).map AS))) db ys:=t4.Jf dC;generalize upd H4 d (.lst ((ps.set i r).map AS))=H5 at xB s5 qo t5 |-;have tj:∀p,p∈ps.set i r->H p=GT:=λb m=>by
    rcases He m with m|m
    ·exact ip b m
    rw[m];exact c8
   have pE:(ps.set i r).length=cs.length:=by rw[GW];exact br
   have Qb:(ps.set i r)[i]?=GE r:=FV ω;generalize ps.set i r=Mc at xB tj pE Qb |-;have SW:=xB.e;have Sb:atI (Mc.map AS) (i:Int)=GE (AS r):=bO (by rw[AZ,Qb];rfl);push_cast[SW,Sb];refine⟨x,c,cs.length,i,low,high,rfl,rx.same s5,zt,(nN c ie).1,(nN c ie).2,λUK H6 uw ws s6 kA ew tw hw lw=>?_⟩;have UM:=xB.same s6;have Z3:UK∉Mc:=λm=>by
    obtain⟨n,hn⟩:=Dx.mp m;obtain⟨u',e',_⟩:=xB.el n _ hn;rw[e'] at kA;cases kA
   have ly64:=ci.aeP few i;refine⟨d,r,UK,Mc,_,db,uw,ys,ws,rfl,UM,s6 _ _ qo,t5.same s6,ew,tw,Z3,λw mw=>?_,λj=>?_,λH7 s7' ZA=>?_⟩
   ·have g:=hw.gl w mw;refine⟨ω,ω,λp' pS=>ac1 UM.nd pS Qb ω⟩
   ·have:=ci.aeP few j;show(if j=i then ys else X j).length+ys.length+ws.length<2000000;split <;> omega
   have sF:Same H H7:=λb o hb=>s7' b o (λm=>by rw[tj b m] at hb;cases hb) (s6 _ _ (s5 _ _ hb));rw[ag];exact⟨Mc,_,_,_,sF,tj,ZA,pE,ci.step du hc gy cy fy hw (Xc _ (AW _) (gy.up.imp λ{a b} q=>ω) hw.up),rfl⟩
  intro σ H2 pv;rw[ag] at pv;obtain⟨ps,X,o4,o5,s2,ip,ra,br,ci,rfl⟩:=pv;subst hk;push_cast;rw[bv] at ci;exact q d ps X H2 s2 wc ip ra br ci
abbrev Te:List Str:=["row"]
abbrev xX:Stmt:=top 23
theorem Xg:bx Te ["row"] (aj xX):=⟨rfl,rfl,rfl,ψ,rfl,ψ,ψ⟩
theorem jq:NM_ Te xX 0 "row":=.of ψ
theorem MF:GI_ xX "len":=ψ
theorem Nv:Bn "ends_of" := ⟨ψ,ψ⟩
abbrev iy:List Str:=["row","spans","ends","low","high"]
abbrev cY:Stmt:=top 37
theorem lB:bx iy ["row","spans"] (aj cY):=⟨rfl,rfl,rfl,ψ,rfl,ψ,ψ⟩
theorem Eg:NM_ iy cY 0 "row":=.of ψ
theorem Ef:NM_ iy cY 1 "spans":=.of ψ
theorem gR:NM_ iy cY 2 "ends":=.of ψ
theorem jM:NM_ iy cY 3 "low":=.of ψ
theorem tL:NM_ iy cY 4 "high":=.of ψ
theorem vB:GI_ cY "ends_of":=ψ
theorem Ab:GI_ cY "max":=ψ
theorem GF:Bn "least_beyond" := ⟨ψ,ψ⟩
abbrev iz:List Str:=["rows","reached","at","spans","number"]
abbrev cZ:Stmt:=top 38
theorem lD:bx iz q21_ (aj cZ):=⟨rfl,rfl,rfl,ψ,rfl,ψ,ψ⟩
theorem Ej:NM_ iz cZ 0 "rows":=.of ψ
theorem Ei:NM_ iz cZ 1 "reached":=.of ψ
theorem oA:NM_ iz cZ 2 "at":=.of ψ
theorem tO:NM_ iz cZ 3 "spans":=.of ψ
theorem ou:NM_ iz cZ 4 "number":=.of ψ
theorem qZ:GI_ cZ "enumerate":=ψ
theorem pN:GI_ cZ "least_beyond":=ψ
theorem wj:Bn "beyond_among" := ⟨ψ,ψ⟩
theorem abW(hB:∀x:Str,x∈BLs->mg x=GT)(F:Fun K "ends_of" "ends_of" xX f fd):cT P w K mg base CX0 1 f fd ["row"] Oi:=by
 refine F.okz Xg λap A outer s H vs Q E hr h=>?_;obtain⟨x,c,rfl,⟨a,g,rfl,e,eg⟩,q1,q2⟩:=h;refine⟨_,(aD (bH (aV (bC hr.aZ) (aH aP (ao jq) aq (λ_ _=>rfl)) bf (aM _)) (aJ (aQ (bG (ak (aH aP (ao jq) aq (λ_ _=>rfl)) (ak (aX dY (aX bw (aH aP (ao jq) aq (λ_ _=>rfl)) (aH aP (ao jq) aq (λ_ _=>rfl))) aq) aA))))) bB)
  (aD (bH (aV (bC hr.aZ) (aH aP (ao jq) aq (λ_ _=>rfl)) bf (aM _)) (aJ (aQ (bG (ak (aH aP (ao jq) aq (λ_ _=>rfl)) (ak (aX dY (aX bw (aH aP (ao jq) aq (λ_ _=>rfl)) (bJ bD MF (hB "len" cM) Be cN (ak (aH aP (ao jq) aq (λ_ _=>rfl)) aA))) aq) aA))))) bB)
  (aJ (aQ pC)))),?_⟩
 have hw:=yc c g;refine aK λk hk=>?_;refine iV λkt ke hkt hke=>?_;push_cast[e];refine⟨_,hw,?_⟩;push_cast;by_cases c1:mK c = "mask"
 ·rw[if_pos c1];obtain⟨l,wd,bits,t,rfl⟩:=Aj c1;subst hkt;push_cast[e,jg];exact⟨aR δ,λp hp=>q2 _ _ Z p hp⟩
 rw[if_neg c1];subst hke;push_cast;subst hk;refine aK λk hk=>?_;refine iV λkt ke hkt hke=>?_;push_cast[e];refine⟨_,hw,?_⟩;push_cast;by_cases c2:mK c = "table"
 ·rw[if_pos c2];obtain⟨l,gs,rfl⟩:=Ai c2;subst hkt;have eg:=eg _ _ rfl;push_cast[e,jg,eg,AI];exact⟨aR δ,λp hp=>q2 _ _ Z p hp⟩
 rw[if_neg c2];subst hke;push_cast;subst hk;push_cast;refine q1 ?_;cases c with
 | msk _ _ _ _=>exact absurd rfl c1
 | tab _ _=>exact absurd rfl c2
 | _=>rfl
theorem Yy(hB:∀x:Str,x∈BLs->mg x=GT)(CEndsOf:Cal P w K mg base "ends_of" 1 ["row"] Oi)(F:Fun K "least_beyond" "least_beyond" cY f fd):cT P w K mg base CX0 2 f fd ["row","spans"] Rh:=by
 refine F.okz lB λap A outer s H vs Q E hr h=>?_;obtain⟨x,c,ls,us,ss,rfl,rx,es,ts,q⟩:=h;refine⟨_,(aD (bF gR lB.nd (bA CEndsOf (hr.mono δ) vB Nv (ak (ao Eg) aA)) Z (.inl Z))
  (aD (bH (aV Yr (ao gR) pC (aM _)) (aJ (aQ pC)) bB)
  (aD (fG BB Z (cQ (ao Ef)) (cV (n:=2) Z (aU (bK jM lB.nd (.inl Z)) (aU (bK tL lB.nd (.inl Z)) cB)))
  (aD (bH (aV jZ (ao jM) (aH aP (ao gR) aq (λ_ _=>rfl)) (aM _)) (aJ (aQ (ao jM))) bB)
  (aJ (bH (aV RP (ao tL) (aH aP (ao gR) aq (λ_ _=>rfl)) (aM _)) (aJ (aQ (bJ (nu Z) Ab (hB "max" wL) Kk xr (ak (ao jM) (ak (aX bw (aH aP (ao gR) aq (λ_ _=>rfl)) aq) aA))))) bB))) (λ_=>rfl))
  (aJ (aQ pC))))),?_⟩
 refine aK λk hk=>?_;push_cast;refine⟨x,c,rfl,rx,λhn=>?_,λlo hi hn p hp=>?_⟩
 ·subst hk;push_cast;have:lbC c ss=GT:=by unfold lbC;rw[hn]
  rw[this] at q;exact q H (Same.refl _)
 have el:lbC c ss=lbL lo hi ss:=by unfold lbC;rw[hn]
 rw[el] at q;have s1:=aB (o:=.tup [.int lo,.int hi]) hp;have e1:upd H p (.tup [.int lo,.int hi]) p=GE (.tup [.int lo,.int hi]):=au;have bq:=s1 _ _ es;generalize upd H p (.tup [.int lo,.int hi])=H1 at s1 e1 bq |-;subst hk;push_cast;refine jr λR hR=>?_;push_cast[bq];have lu:=ts.length;obtain⟨Pv,ag⟩:∃Pv:Nat->L2.St->Hp->Prop,Pv=λ(i:Nat) σ H'=>∃(o3 o4:Option V),H'=H1/\lbL lo hi ss=lbL lo hi (ss.drop i)/\σ=[GE x,GE (.ref ls),GE (.ref p),o3,o4]:=⟨_,rfl⟩;refine wg hR Pv (by rw[ag];exact⟨_,_,rfl,rfl,rfl⟩) (λi σ H' _ pv=>by rw[ag] at pv;obtain⟨_,_,rfl,_⟩:=pv;exact SqL.of bq) ?_ ?_
 ·intro i y σ H2 hy pv;rw[ag] at pv;obtain⟨o3,o4,rfl,dL,rfl⟩:=pv;obtain⟨pz,z,rfl,hz,ez⟩:=(ts.same s1).got hy;replace ez:H2 pz=GE (.tup [.int z.1,.int z.2]):=ez;rw[jQ hz] at dL;replace dL:lbL lo hi ss=(if z.1<lo then GE z.1 else if z.2>hi then GE (max z.1 (hi+1)) else lbL lo hi (ss.drop (i+1))):=dL;push_cast[ez,e1];by_cases c1:z.1<lo
  ·rw[if_pos c1] at dL |-;rw[dL] at q;exact q _ s1
  rw[if_neg c1] at dL |-;push_cast[e1];by_cases c2:z.2>hi
  ·rw[if_pos c2] at dL;rw[if_pos (show hi<z.2 by omega)];have mx:(if hi+1>z.1 then hi+1 else z.1)=max z.1 (hi+1):=by split <;> omega
   rw[dL] at q;push_cast[e1,mx];exact q _ s1
  rw[if_neg c2] at dL;rw[if_neg (show ¬hi<z.2 by omega),ag];exact⟨_,_,rfl,dL,rfl⟩
 intro σ H2 pv;rw[ag] at pv;obtain⟨o3,o4,rfl,dL,rfl⟩:=pv;rw[HE ω] at dL;push_cast;rw[dL] at q;exact q _ s1
theorem YD(hB:∀x:Str,x∈BLs->mg x=GT)(CLeastBeyond:Cal P w K mg base "least_beyond" 2 ["row","spans"] Rh)(F:Fun K "beyond_among" "beyond_among" cZ f fd):cT P w K mg base CX0 3 f fd q21_ Jq:=by
 refine F.okz lD λap A outer s H vs Q E hr h=>?_;obtain⟨l,r,ok,cs,ps,X,rfl,tr,ra,br,q1,q2⟩:=h;refine⟨_,(aD (fG BB Z (uL qZ (hB "enumerate" fW) (ak (ao Ei) aA)) (cV (n:=2) Z (aU (bK oA lD.nd (.inl Z)) (aU (bK tO lD.nd (.inl Z)) cB)))
  (aD (bF ou lD.nd (bA CLeastBeyond (hr.mono δ) pN GF (ak (aH aP (ao Ej) (ao oA) (λ_ _=>rfl)) (ak (ao tO) aA))) Z (.inl Z))
  (aJ (bH (aV Cd (ao ou) pC (aM _)) (aJ (aQ (bG (ak (ao oA) (ak (ao ou) aA))))) bB))) (λ_=>rfl))
  (aJ (aQ pC))),?_⟩
 cases tr with
 | lst o el zl gT=>
  rename_i xs;have bv:=gT.length;rw[AI] at bv;refine aK λk hk=>?_;refine jr λR hR=>?_;have kC:=ra.e;push_cast[Bd,kC];refine⟨⟨_,SqL.of kC⟩,?_⟩;obtain⟨Pv,ag⟩:∃Pv:Nat->L2.St->Hp->Prop,Pv=λ(i:Nat) σ H'=>∃(o2 o3 o4:Option V),Same H H'/\(∀j c,j<i->cs[j]?=GE c->lbC c (X j)=GT)/\σ=[GE (.ref l),GE (.ref r),o2,o3,o4]:=⟨_,rfl⟩;refine MT hR Pv (by rw[ag];exact⟨_,_,_,Same.refl _,λj c h=>absurd h (HA _),rfl⟩) (λi σ H' pv=>by rw[ag] at pv;obtain⟨_,_,_,s,_⟩:=pv;exact s _ _ kC) ?_ ?_
  ·intro i x σ H2 p hx pv hp;rw[ag] at pv;obtain⟨o2,o3,o4,s2,pT,rfl⟩:=pv;have li:i<cs.length:=by have:=(AB.mp hx).1;rw[AI] at this;omega
   have hc:cs[i]?=GE cs[i]:=AC li;obtain⟨x',ky,rx⟩:=gT.row hc;have fi:=bO ky;generalize cs[i]=c at hc rx;rw[AZ] at hx;obtain⟨pi,kQ,rfl⟩:=B5.mp hx;obtain⟨ui,ei,ti⟩:=ra.el i pi kQ;have s3:Same H (upd H2 p (.tup [.int (i:Nat),.ref pi])):=s2.trans (aB hp);have ep:upd H2 p (.tup [.int (i:Nat),.ref pi]) p=GE (.tup [.int (i:Nat),.ref pi]):=au;generalize upd H2 p (.tup [.int (i:Nat),.ref pi])=H3 at s3 ep |-;have gg:=s3 _ _ el;push_cast[ep,gg,fi];refine⟨x',c,pi,ui,X i,rfl,rx.same s3,s3 _ _ ei,ti.same s3,λH4 s4=>?_⟩;cases dL:lbC c (X i) with
   | none=>
    push_cast[abL];rw[ag];refine⟨_,_,_,s3.trans s4,λj c' hj cp=>?_,rfl⟩;by_cases e:j=i
    ·subst e;rw[hc] at cp;cases cp;exact dL
    exact pT j c' ω cp
   | some n=>
    push_cast[abL];refine⟨aR δ,λp1 iq=>?_⟩;exact q2 p1 _ i c n ((s3.trans s4).trans (aB iq)) ((s3.trans s4).none iq) au hc dL pT
  intro σ H2 pv;rw[ag] at pv;obtain⟨o2,o3,o4,s2,pT,rfl⟩:=pv;subst hk;push_cast;refine q1 H2 s2 λj c hc=>pT j c ?_ hc;have:=(AB.mp hc).1;rw[AI];omega
end
abbrev vq:List Str:=["rows","low","high"]
abbrev jl:Stmt:=top 39
theorem Om:bx vq q4_ (aj jl):=⟨rfl,rfl,rfl,ψ,rfl,ψ,ψ⟩
theorem Az:NM_ vq jl 0 "rows":=.of ψ
theorem Mq:NM_ vq jl 1 "low":=.of ψ
theorem Mp:NM_ vq jl 2 "high":=.of ψ
theorem rH:GI_ jl "beyond_among":=ψ
theorem Ae:GI_ jl "come_to":=ψ
theorem Qx:Bn "beyond_of" := ⟨ψ,ψ⟩
def W7:Sp:=λvs H Q _=>∃(l:ID)(ok:ID->Prop)(cs:List RowC)(low high:Int),vs=[.ref l,.int low,.int high]/\aG ok H (.ref l) (.list (cs.map iB))/\iC cs/\(∀c,c∈cs->Dj c/\bdC c)/\low<=high/\QM cs low high /\
 ∀(v:V)(H':Hp)(o:Option (Int×Int)),Same H H'->aG (λ_=>True) H' v (af7 o)->Jd cs low high o->Q v H'
section
variable{bs:List Str}
theorem YC(hB:∀x:Str,x∈BLs->mg x=GT)(CComeTo:Cal P w K mg base "come_to" 3 q4_ Jp)(CBeyondAmong:Cal P w K mg base "beyond_among" 3 q21_ Jq)(F:Fun K "beyond_of" "beyond_of" jl f fd):cT P w K mg base CX0 4 f fd q4_ W7:=by
 refine F.okz Om λap A outer s H vs Q E hr h=>?_;obtain⟨l,ok,cs,low,high,rfl,tr,du,nN,MQ,few,q⟩:=h;refine⟨_,(aJ (aQ (bA CBeyondAmong (hr.mono δ) rH wj (ak (ao Az) (ak (bA CComeTo (hr.mono δ) Ae Fz (ak (ao Az) (ak (ao Mq) (ak (ao Mp) aA)))) aA))))),?_⟩;push_cast;refine⟨l,ok,cs,low,high,rfl,tr,du,nN,MQ,few,λr ps X H1 s1 hr1 ip ra br ci=>?_⟩;push_cast;refine⟨l,r,ok,cs,ps,X,rfl,tr.same s1,ra,br,λH2 s2 hn=>?_,λp H2 j c n s2 hp ep hc dL he=>?_⟩
 ·exact q .non H2 GT (s1.trans s2) .non (ci.agh hn)
 exact q (.ref p) H2 (GE ((j:Int),n)) (s1.trans s2) (.tup trivial ep (by show 2<=1000000;decide) (.cons (.int _) (.cons (.int _) .nil))) (ci.agg hc dL he)
abbrev dJ:List Str:=["rows","stretches","reached","spans_of","low","high","label","row","spans"]
abbrev bY:Stmt:=top 40
theorem eE:bx dJ q25_ (aj bY):=⟨rfl,rfl,rfl,ψ,rfl,ψ,ψ⟩
theorem pJ:NM_ dJ bY 0 "rows":=.of ψ
theorem pI:NM_ dJ bY 1 "stretches":=.of ψ
theorem pH:NM_ dJ bY 2 "reached":=.of ψ
theorem pG:NM_ dJ bY 3 "spans_of":=.of ψ
theorem v7:NM_ dJ bY 4 "low":=.of ψ
theorem v5:NM_ dJ bY 5 "high":=.of ψ
theorem vZ:NM_ dJ bY 6 "label":=.of ψ
theorem pF:NM_ dJ bY 7 "row":=.of ψ
theorem vY:NM_ dJ bY 8 "spans":=.of ψ
theorem qi:GI_ bY "beyond_among":=ψ
theorem wX:GI_ bY "come_to":=ψ
theorem rG:GI_ bY "lie_within":=ψ
theorem BL:GI_ bY "zip":=ψ
theorem yU:Bn "leads_right" := ⟨ψ,ψ⟩
theorem Yz(hB:∀x:Str,x∈BLs->mg x=GT)(CComeTo:Cal P w K mg base "come_to" 3 q4_ Jp)(CBeyondAmong:Cal P w K mg base "beyond_among" 3 q21_ Jq)(CLieWithin:Cal P w K mg base "lie_within" 1 ["spans","others"] CP)(F:Fun K "leads_right" "leads_right" bY f fd):cT P w K mg base CX0 4 f fd q25_ Ri:=by
 refine F.okz eE λap A outer s H vs Q E hr h=>?_;obtain⟨l,sl,ok,cs,ss,s0,t0,rfl,tr,ts,du,nN,rs,un,hl60,h0,h1,few,q⟩:=h;refine⟨_,(aD (bF pH eE.nd (bA CComeTo (hr.mono δ) wX Fz (ak (ao pJ) (ak (aH aP (aH aP (ao pI) aq (λ_ _=>rfl)) aq (λ_ _=>rfl)) (ak (aH aP (aH aP (ao pI) (jX fM aq) (λ_ _=>rfl)) aq (λ_ _=>rfl)) aA)))) Z (.inl Z))
  (aD (bH (aV Cd (bA CBeyondAmong (hr.mono δ) qi wj (ak (ao pJ) (ak (ao pH) aA))) pC (aM _)) (aJ (aQ jY)) bB)
  (aD (bF pG eE.nd Ox Z (.inl Z))
  (aD (fG BB Z (cQ (ao pI)) (cV (n:=3) Z (aU (bK v7 eE.nd (.inl Z)) (aU (bK v5 eE.nd (.inl Z)) (aU (bK vZ eE.nd (.inl Z)) cB))))
  (aJ (fj (jF (adG (ao pG) (ao vZ) (bV aA) ⟨rfl,rfl,rfl,rfl⟩) (bG (ak (ao v7) (ak (ao v5) aA)))))) (λ_=>rfl))
  (aD (fG BB Z (XJ BL (hB "zip" YW) (ak (ao pJ) (ak (ao pH) aA))) (cV (n:=2) Z (aU (bK pF eE.nd (.inl Z)) (aU (bK vY eE.nd (.inl Z)) cB)))
  (aJ (bH (pW (lZ (aV (bC hr.aZ) (aH aP (ao pF) aq (λ_ _=>rfl)) bf (aM _)) (jC (rY (mC (bA CLieWithin (hr.mono δ) rG Nu (ak (ao vY) (ak (XR hr.qw (ao pG) (aH aP (ao pF) aq (λ_ _=>rfl)) (bV aA) ⟨rfl,rfl,rfl,rfl⟩) aA))) (λ_=>rfl)))))) (aJ (aQ jY)) bB)) (λ_=>rfl))
  (aJ (aQ jY))))))),?_⟩
 have w4:=tr;cases tr with
 | lst o el zl gT=>
  rename_i xs;have bv:=gT.length;rw[AI] at bv;cases ts with
  | lst o2 es zs bj=>
   rename_i ys;have nh:=bj.length;rw[AI] at nh;refine aK λk hk=>?_;have te:=bj.els;obtain⟨pa,v3,eM⟩:=te.get h0;obtain⟨pb,hpb,SI⟩:=te.get h1;replace eM:H pa=GE (.tup [.int s0.1,.int s0.2.1,.int s0.2.2]):=eM;replace SI:H pb=GE (.tup [.int t0.1,.int t0.2.1,.int t0.2.2]):=SI;have lpos:1<=ss.length:=by have:=(AB.mp h0).1;omega
   have Sf:atI ys 0=GE (AS pa):=bO (j:=0) v3;have ha1:atI ys (-1)=GE (AS pb):=by
    unfold atI ixN;rw[if_neg δ,if_pos ω];show ys[(-1+(ys.length:Int)).toNat]?=_;rw[show(-1+(ys.length:Int)).toNat=ss.length-1 by omega];exact hpb
   push_cast[es,Sf,ha1,eM,SI];have bS:s0.1<=t0.2.1:=by
    by_cases c:ss.length-1=0
    ·rw[c,h0] at h1;cases h1;exact(rs.lh _ _ h0).1
    have:=rs.lt h0 h1 ω;have:=(rs.lh _ _ h0).1;have:=(rs.lh _ _ h1).1;omega
   refine⟨l,ok,cs,s0.1,t0.2.1,rfl,w4,du,nN,bS,few,λr ps X H1 s1 hr1 ip ra br ci=>?_⟩;have ri:=T7 du rs h0 h1 ci;subst hk;refine aK λk hk=>?_;push_cast;refine⟨l,r,ok,cs,ps,X,rfl,w4.same s1,ra,br,λH2 s2 pT=>?_,λp H2 j c n s2 hp ep hc dL _=>?_⟩
   ·push_cast;subst hk;refine aK λk hk=>?_;push_cast;intro dd zn;have s3:Same H2 (upd H2 dd (.dK [])):=aB zn;have ed:upd H2 dd (.dK []) dd=GE (.dK []):=au;have X':DAt H2 (upd H2 dd (.dK [])) dd (λ_=>[]) 0:=.start au zn;generalize upd H2 dd (.dK [])=H3 at s3 ed X' |-;subst hk;refine aK λk hk=>?_;refine jr λR hR=>?_;have ca:=s1.trans s2;have kB:=s3 _ _ (ca _ _ es);push_cast[kB];obtain⟨Pv,ag⟩:∃Pv:Nat->L2.St->Hp->Prop,Pv=λ(i:Nat) σ H'=>∃(o4 o5 o6:Option V),Same H2 H'/\DAt H2 H' dd (nG (ss.take i)) i/\σ=[GE (.ref l),GE (.ref sl),GE (.ref r),GE (.ref dd),o4,o5,o6,GT,GT]:=⟨_,rfl⟩;refine wg hR Pv (by rw[ag];exact⟨_,_,_,s3,X',rfl⟩) (λi σ H' _ pv=>by rw[ag] at pv;obtain⟨_,_,_,s,_⟩:=pv;exact SqL.of (s _ _ (ca _ _ es))) ?_ ?_
    ·intro i x σ H4 hx pv;rw[ag] at pv;obtain⟨o4,o5,o6,s4,da,rfl⟩:=pv;obtain⟨pz,z,rfl,hz,ez⟩:=(te.same (ca.trans s4)).got hx;replace ez:H4 pz=GE (.tup [.int z.1,.int z.2.1,.int z.2.2]):=ez;push_cast[ez];obtain⟨af,ek,kl,zk,ka,kb,kc⟩:=id da;push_cast[ada];refine⟨.inl ⟨af,Rd.of ek⟩,aR δ,λzl iX=>?_⟩;have s5:Same H4 (upd H4 zl (.lst [])):=aB iX;have wn:upd H4 zl (.lst []) zl=GE (.lst []):=au;generalize upd H4 zl (.lst [])=H5 at s5 wn |-;have X9:=da.same s5;have lss:i<ss.length:=(AB.mp hz).1;have VO:∀(H':Hp)(m:Nat),m<=i+1->Same H2 H'->DAt H2 H' dd (λj=>nG (ss.take i) j++(if j=z.2.2 then [(z.1,z.2.1)] else [])) m->Pv (i+1) [GE (.ref l),GE (.ref sl),GE (.ref r),GE (.ref dd),GE (.int z.1),GE (.int z.2.1),GE (.int z.2.2),GT,GT] H':=λH' m hm s' d'=>by
      rw[ag];refine⟨_,_,_,s',?_,rfl⟩;rw[WT hz];obtain⟨kv,a1,a2,a3⟩:=d';exact⟨kv,a1,ω,a3⟩
     have Tl:H2 zl=GT:=s4.none iX;refine⟨af,s5 _ _ ek,.inl z.2.2,rfl,CM (show af.length<=1000 by omega) δ,λv hv=>?_,λhv=>?_⟩
     ·obtain⟨p,us,rfl,h0p,ep,tp⟩:=kb _ _ hv;have SL:=s5 _ _ ep;have lu:=tp.length;have lsp:(nG (ss.take i) z.2.2).length<=i:=by
       unfold nG;rw[AI];have:=D0 (λs:Int×Int×Int=>s.2.2 == z.2.2) (ss.take i);rw[FM] at this;omega
      push_cast[SL];refine⟨aR δ,λq1 gz=>?_⟩;have Nn:upd H5 q1 (.tup [.int z.1,.int z.2.1]) p=GE (.lst us):=by rw[aL (aF SL gz)];exact SL
      push_cast[Nn];refine⟨CM (show us.length<=1000 by omega) δ,?_⟩;have s6:=aB (o:=By [.int z.1,.int z.2.1]) gz;exact VO _ i ω (cD ((s4.trans s5).trans s6) h0p) ((X9.same s6).push (s:=(z.1,z.2.1)) (s6 _ _ (s5 _ _ ek)) hv Nn au)
     have ZY:zl≠dd:=λq=>by rw[q,ek] at iX;cases iX
     have NB:=X9.add (l:=z.2.2) (s5 _ _ ek) hv wn Tl λj hj=>by
      obtain⟨p',db,e1,_,e3,_⟩:=kb j _ hj;cases e1;rw[e3] at iX;cases iX
     have LO:upd H5 dd (.dK (af++[(.inl z.2.2,.ref zl)])) dd=GE (.dK (af++[(.inl z.2.2,.ref zl)])):=au;have Nc:upd H5 dd (.dK (af++[(.inl z.2.2,.ref zl)])) zl=GE (.lst []):=by rw[aL ZY];exact wn
     have s6:Same H2 (upd H5 dd (.dK (af++[(.inl z.2.2,.ref zl)]))):=cD (s4.trans s5) zk;generalize upd H5 dd (.dK (af++[(.inl z.2.2,.ref zl)]))=H6 at NB LO Nc s6 |-;push_cast[Nc];refine⟨aR δ,λq1 gz=>?_⟩;have Xt:upd H6 q1 (.tup [.int z.1,.int z.2.1]) zl=GE (.lst []):=by rw[aL (aF Nc gz)];exact Nc
     push_cast[Xt];refine⟨δ,?_⟩;have s7:=aB (o:=By [.int z.1,.int z.2.1]) gz;exact VO _ (i+1) ω (cD (s6.trans s7) Tl) ((NB.same s7).push (s:=(z.1,z.2.1)) (s7 _ _ LO) (by rw[yZ _ _ _ _ hv,if_pos rfl]) Xt au)
    intro σ H4 pv;rw[ag] at pv;obtain⟨o4,o5,o6,s4,da,rfl⟩:=pv;rw[nh,FB] at da;subst hk;dsimp only;refine aK λk hk=>?_;refine jr λR hR=>?_;have kD:=s4 _ _ (ca _ _ el);have dC:=s4 _ _ (s2 _ _ ra.e);push_cast[aeK,kD,dC];refine⟨l,r,⟨rfl,rfl⟩,⟨_,SqL.of kD⟩,⟨_,SqL.of dC⟩,?_⟩;obtain⟨Pw,ik⟩:∃Pv:Nat->L2.St->Hp->Prop,Pv=λ(i:Nat) σ H'=>∃(o7 o8:Option V),Same H4 H'/\(∀j lb,j<i->cs[j]?=GE (.pik lb)->∀n,cov (X j) n->cov (nG ss lb) n)/\σ=[GE (.ref l),GE (.ref sl),GE (.ref r),GE (.ref dd),o4,o5,o6,o7,o8]:=⟨_,rfl⟩;refine afJ hR (show(ps.map AS).length<=xs.length by rw[AI];omega) Pw (by rw[ik];exact⟨_,_,Same.refl _,λj lb h=>absurd h (HA _),rfl⟩) (λi σ H' pv=>by rw[ik] at pv;obtain⟨_,_,s,_⟩:=pv;exact⟨s _ _ kD,s _ _ dC⟩) ?_ ?_
    ·intro i x y σ H5 p hx hy pv hp;rw[ik] at pv;obtain⟨o7,o8,s5,MI,rfl⟩:=pv;have li:i<cs.length:=by have:=(AB.mp hx).1;omega
     have hc:cs[i]?=GE cs[i]:=AC li;obtain⟨x',ky,rx⟩:=gT.row hc;rw[hx] at ky;cases ky;generalize cs[i]=c at hc rx;rw[AZ] at hy;obtain⟨pi,kQ,rfl⟩:=B5.mp hy;obtain⟨ui,ei,ti⟩:=ra.el i pi kQ;have s6:Same H5 (upd H5 p (.tup [x,.ref pi])):=aB hp;have ep:upd H5 p (.tup [x,.ref pi]) p=GE (.tup [x,.ref pi]):=au;generalize upd H5 p (.tup [x,.ref pi])=H6 at s6 ep |-;have xy:=s5.trans s6;have UI:Same H H6:=(ca.trans s4).trans xy;obtain⟨a,g,rfl,e,eg⟩:=rx.same UI;have nx:∀H',Same H6 H'->(∀lb,c=.pik lb->∀n,cov (X i) n->cov (nG ss lb) n)->Pw (i+1) [GE (.ref l),GE (.ref sl),GE (.ref r),GE (.ref dd),o4,o5,o6,GE (.ref a),GE (.ref pi)] H':=λH' s' hh=>by
      rw[ik];refine⟨_,_,xy.trans s',λj lb hj cp=>?_,rfl⟩;by_cases ej:j=i
      ·subst ej;rw[hc] at cp;exact hh lb (A0 cp)
      exact MI j lb ω cp
     cases c with
     | pik lb=>
      have NB:=da.same xy;obtain⟨af,ek,kl,zk,ka,kb,kc⟩:=id NB;push_cast[ep,e,jg,Jk];refine⟨.inl ⟨af,Rd.of ek⟩,aR δ,λzl iX=>?_⟩;have s7:Same H6 (upd H6 zl (.lst [])):=aB iX;have wn:upd H6 zl (.lst []) zl=GE (.lst []):=au;generalize upd H6 zl (.lst [])=H7 at s7 wn |-;refine⟨fL af (.inl lb),.inl ⟨af,.inl lb,Rd.of (s7 _ _ ek),rfl,rfl⟩,?_⟩;have fin:∀(b:ID)(us:List V),H7 b=GE (.lst us)->bW prE H7 us (nG ss lb)->CP [AS pi,.ref b] H7 (λx H1=>∃c,x=V.bl c/\if (!c)=true then Q (V.bl false) H1 else Pw (i+1) [GE (AS l),GE (AS sl),GE (AS r),GE (AS dd),o4,o5,o6,GE (AS a),GE (AS pi)] H1) E0:=λb us eb tb=>by
       refine⟨pi,b,ui,us,X i,_,rfl,s7 _ _ (xy _ _ (s4 _ _ (s2 _ _ ei))),(((ti.same s2).same s4).same xy).same s7,eb,tb,ci.dn i li,TV rs un lb,λtt ht=>⟨tt,rfl,?_⟩⟩;cases tt with
       | false=>
        rw[D4,if_pos rfl];refine q false H7 (UI.trans s7) ⟨λh=>(by cases h),λh=>?_⟩;have:=ht.mpr ((ri.mpr h).2 i lb hc);cases this
       | true=>
        rw[EO,if_neg δ];exact nx H7 s7 λlb' hh n hn=>by cases hh;exact ht.mp Z n hn
      cases hv:fL af (.inl lb) with
      | none=>
       refine fin zl [] wn ?_;rw[ka lb hv];exact .nil
      | some v=>
       obtain⟨p',us,rfl,_,e3,t3⟩:=kb lb v hv;exact fin p' us (s7 _ _ e3) (t3.same s7)
     | _=>push_cast[ep,e,jg,rdW];exact nx H6 (Same.refl _) λlb hh=>(by cases hh)
    intro σ H5 pv;rw[ik] at pv;obtain⟨o7,o8,s5,MI,rfl⟩:=pv;rw[AI,br] at MI;subst hk;push_cast;exact q true H5 ((ca.trans s4).trans s5) ⟨λ_=>ri.mp ⟨pT,λj lb hc=>MI j lb (AB.mp hc).1 hc⟩,λ_=>rfl⟩
   push_cast;refine q false H2 (s1.trans s2) ⟨λh=>(by cases h),λh=>?_⟩;have:=(ri.mpr h).1 j c hc;rw[dL] at this;cases this
abbrev QJ:List Str:=["_law_stretches_here","_law_left"]
abbrev Df:Stmt:=top 46
theorem aaP:bx QJ q13_ (aj Df):=⟨rfl,rfl,rfl,ψ,rfl,ψ,ψ⟩
theorem LQ:NM_ QJ Df 0 "_law_stretches_here":=.of ψ
theorem LK:NM_ QJ Df 1 "_law_left":=.of ψ
theorem S5:Bn "_law_span" := ⟨ψ,ψ⟩
abbrev QK:List Str:=["_law_tape_here","_law_great"]
abbrev zp:Stmt:=top 50
theorem Rt:bx QK ["_law_tape_here"] (aj zp):=⟨rfl,rfl,rfl,ψ,rfl,ψ,ψ⟩
theorem DN:NM_ QK zp 0 "_law_tape_here":=.of ψ
theorem Mh:NM_ QK zp 1 "_law_great":=.of ψ
theorem qW:GI_ zp "_law_take":=ψ
theorem acJ:Bn "_law_many" := ⟨ψ,ψ⟩
abbrev NT:List Str:=["_law_stretches_here","_law_plan_here","_law_place","_law_found"]
abbrev Ak:Stmt:=top 48
theorem CW:bx NT q5_ (aj Ak):=⟨rfl,rfl,rfl,ψ,rfl,ψ,ψ⟩
theorem RV:NM_ NT Ak 0 "_law_stretches_here":=.of ψ
theorem fu:NM_ NT Ak 1 "_law_plan_here":=.of ψ
theorem Cg:NM_ NT Ak 2 "_law_place":=.of ψ
theorem JR:NM_ NT Ak 3 "_law_found":=.of ψ
theorem Vl:GI_ Ak "int":=ψ
theorem aeX:Bn "_law_way" := ⟨ψ,ψ⟩
abbrev qu:List Str:=["_law_tape_here","_law_low","_law_high","_law_some"]
abbrev gw:Stmt:=top 51
theorem CZ:bx qu q8_ (aj gw):=⟨rfl,rfl,rfl,ψ,rfl,ψ,ψ⟩
theorem Mg:NM_ qu gw 0 "_law_tape_here":=.of ψ
theorem lR:NM_ qu gw 1 "_law_low":=.of ψ
theorem oX:NM_ qu gw 2 "_law_high":=.of ψ
theorem Aq:NM_ qu gw 3 "_law_some":=.of ψ
theorem Bw:GI_ gw "_law_take":=ψ
theorem Gq:GI_ gw "max":=ψ
theorem Gp:GI_ gw "min":=ψ
theorem Qu:Bn "_law_numbers" := ⟨ψ,ψ⟩
theorem abP(hB:∀x:Str,x∈BLs->mg x=GT)(F:Fun K "_law_span" "_law_span" Df f fd):cT P w K mg base CX0 1 f fd q13_ rP:=by
 refine F.okz aaP λap A outer s H vs Q E hr h=>?_;obtain⟨s,l,ok,ss,left,rfl,ts,tl,lf,q⟩:=h;refine⟨_,(aJ (aQ (aX bw (aX dY (aH aP (aH aP (ao LQ) (aH aP (ao LK) (jX fM aq) (λ_ _=>rfl)) (λ_ _=>rfl)) aq (λ_ _=>rfl)) (aH aP (aH aP (ao LQ) (aH aP (ao LK) aq (λ_ _=>rfl)) (λ_ _=>rfl)) aq (λ_ _=>rfl))) aq))),?_⟩;obtain⟨la,rfl,_,el,_⟩:=tl.left;replace el:H la=GE (.lst (nv left)):=el;cases ts with
 | lst o es zs bj=>
  obtain⟨k1,e1,m1,a1⟩:=JN lf.ne;obtain⟨k0,e0,m0,a0⟩:=Ce lf.ne;obtain⟨p1,x1,y1⟩:=bj.stN (lf.lt _ m1);obtain⟨p0,x0,y0⟩:=bj.stN (lf.lt _ m0);unfold dN at q;rw[e1,e0] at q;push_cast[el,a1,a0,es,x1,x0,y1,y0];exact q
theorem abU(hB:∀x:Str,x∈BLs->mg x=GT)(CZTake:Cal P w K mg base "_law_take" 2 q0_ (qz 2))(F:Fun K "_law_many" "_law_many" zp f fd):cT P w K mg base CX0 3 f fd ["_law_tape_here"] W4:=by
 refine F.okz Rt λap A outer s H vs Q E hr h=>?_;obtain⟨p,B,rfl,tp,IF,M',q⟩:=h;refine⟨_,(aD (bF Mh Rt.nd (dX (bC hr.aZ) (bA CZTake (hr.mono δ) qW dg (ak (ao DN) (ak aq aA))) aq (aM _)) Z (.inl Z))
  (aJ (aQ (Dl (mC (ao Mh) (λ_=>rfl)) (aX bw aq (bA CZTake (hr.mono δ) qW dg (ak (ao DN) (ak aq aA)))) (aX bw aq (bA CZTake (hr.mono δ) qW dg (ak (ao DN) (ak aq aA)))))))),?_⟩
 refine aK λk hk=>?_;push_cast;refine⟨p,8,B,rfl,tp,by show B+2<=1000100;omega,δ,δ,δ,λz=>absurd z δ,λr1 H1 r10 r11 s1 iP=>?_⟩;push_cast;subst hk;push_cast;by_cases c:r1=0
 ·rw[if_pos c];refine⟨p,50,B+2,rfl,iP,by show B+2+2<=1000100;omega,δ,δ,δ,λz=>absurd z δ,λr2 H2 r20 r21 s2 g7=>?_⟩;push_cast;exact q _ _ (s1.trans s2) (g7.le (by show B+2+2<=B+4;omega)) ω ω
 rw[if_neg c];refine⟨p,9,B+2,rfl,iP,by show B+2+2<=1000100;omega,δ,δ,δ,λz=>absurd z δ,λr2 H2 r20 r21 s2 g7=>?_⟩;push_cast;exact q _ _ (s1.trans s2) (g7.le (by show B+2+2<=B+4;omega)) ω ω
theorem aef(hB:∀x:Str,x∈BLs->mg x=GT)(F:Fun K "_law_way" "_law_way" Ak f fd):cT P w K mg base CX0 1 f fd q5_ acT:=by
 refine F.okz CW λap A outer s H vs Q E hr h=>?_;obtain⟨s,p,k,ok,ss,pl,left,rfl,hn,ts,tp,UO,RE,hsz,q⟩:=h;refine⟨_,(aD (bF JR CW.nd (bV aA) Z (.inl Z))
  (aD (pX BB (aV Hj (aH aP (ao fu) aq (λ_ _=>rfl)) (bG (ak bf (ak bf aA))) (by with_unfolding_all rfl)) (aD (fj (jF (ao JR) (aH aP (ao fu) aq (λ_ _=>rfl))))
  (aJ (bH (aV (bC hr.aZ) (aH aP (ao fu) aq (λ_ _=>rfl)) bf (aM _)) (aJ (bF fu CW.nd (Dl (aV jZ (ao Cg) (aH aP (ao fu) aq (λ_ _=>rfl)) (aM _)) (aH aP (ao fu) aq (λ_ _=>rfl)) (aH aP (ao fu) aq (λ_ _=>rfl))) Z (.inl Z))) (aJ (bH (aV (bC hr.aZ) (aH aP (ao fu) aq (λ_ _=>rfl)) bf (aM _)) (aJ (bF fu CW.nd (Dl (aV (bC hr.aZ) (aH aP (aH aP (ao RV) (ao Cg) (λ_ _=>rfl)) aq (λ_ _=>rfl)) (aH aP (ao fu) aq (λ_ _=>rfl)) (aM _)) (bG (ak bf (ak (aH aP (ao fu) aq (λ_ _=>rfl)) aA))) (aH aP (ao fu) aq (λ_ _=>rfl))) Z (.inl Z))) (aJ (bF fu CW.nd (Dl (aV (bC hr.aZ) (ao Cg) (aH aP (ao fu) aq (λ_ _=>rfl)) (aM _)) (bG (ak bf (ak (aH aP (aH aP (ao RV) (ao Cg) (λ_ _=>rfl)) aq (λ_ _=>rfl)) aA))) (aH aP (ao fu) aq (λ_ _=>rfl))) Z (.inl Z)))))))))
  (aJ (aQ (aX bw (ao JR) (aX jd (bV (ak bf aA)) (RG xj Vl (hB "int" Em) boot_int Fy (ak (dX (bC hr.aZ) (aH aP (ao fu) aq (λ_ _=>rfl)) bf (aM _)) aA)))))))),?_⟩
 refine aK λk1 a9=>?_;push_cast;refine⟨aR δ,λa ha=>?_⟩;have s0:=aB (o:=AT []) ha;have ea:upd H a (AT []) a=_:=au;generalize upd H a (AT [])=H0 at s0 ea |-;subst a9;refine aK λk1 a9=>?_;obtain⟨OD,cw⟩:∃OD:ID->Prop,OD=λx=>ok x/\x≠a:=⟨_,rfl⟩;have up:∀b o,ok b->H b=GE o->OD b/\H0 b=GE o:=λb o h e=>by
  rw[cw];exact⟨⟨h,aF e ha⟩,s0 _ _ e⟩
 obtain⟨Pv,ag⟩:∃Pv:Nat->L2.St->Hp->Prop,Pv=λm σ H'=>∃(r:Pl)(v:V)(dn:List Nat),m=aW r/\Same H H'/\H' a=GE (.lst (dn.map λi=>At (eV i)))/\aG OD H' s (.list (ss.map stD))/\aG OD H' v (plD r)/\ig ss k pl=dn++ig ss k r/\dn.length+aW r<=4000/\σ=[GE s,GE v,GE (.int (k:Int)),GE (.ref a)]:=⟨_,rfl⟩;refine QX Pv ⟨aW pl,?_⟩ ?_
 ·rw[ag];exact⟨pl,p,[],rfl,s0,ea,ts.keep up,tp.keep up,rfl,by simpa using hsz,rfl⟩
 intro m σ H1 pv kt hkt;rw[ag] at pv;obtain⟨r,v,dn,rfl,s1,e1,TU,LZ,sP,am,rfl⟩:=pv;have TB:=LZ;obtain⟨pa,si,rfl,eM,ce⟩:=LZ.Dm;push_cast[eM,ce];refine⟨aR δ,λt ht=>⟨rfl,rfl,?_⟩⟩;rw[ab2];have s2:=aB (o:=By [At "pick",At "table"]) ht;have e2:=s2 _ _ eM;have LU:=s2 _ _ e1;have OB:=TU.same s2;have NO:=TB.same s2;have L8:=s1.trans s2;generalize upd H1 t (By [At "pick",At "table"])=H2 at s2 e2 LU OB NO L8 |-;clear s2 ht TU TB eM e1 s1;have iq:=nO r;cases hl:iG r with
 | true=>
  rw[if_neg δ];subst a9;push_cast[LU];refine⟨aR δ,λt3 ht3=>?_⟩;have s3:=aB (o:=AT [At "table"]) ht3;have e3:=s3 _ _ e2;have wv:=s3 _ _ LU;have J':upd H2 t3 (AT [At "table"]) t3=_:=au;generalize upd H2 t3 (AT [At "table"])=H3 at s3 e3 wv J' |-;push_cast[e3,ce,J'];refine⟨by split <;> decide,by split <;> decide,by split <;> exact aR δ,λt4 ht4=>?_⟩
  rw[Y0 (ss:=ss) (k:=k) hl];have s4:=aB (o:=AT ((ig ss k r).map λi=>At (eV i))) ht4;have XX:=s4 _ _ wv;have OP:=L8.trans (s3.trans s4);generalize upd H3 t4 (AT ((ig ss k r).map λi=>At (eV i)))=H4 at s4 XX OP |-;have MD:=uD ss k r;push_cast[XX];refine⟨aR (by rw[AI,AI];omega),λt5 ht5=>?_⟩;have h5:H t5=GT:=OP.none ht5;refine q _ _ (OP.trans (aB ht5)) (hn.new h5) h5 ?_;rw[sP,BH];exact au
 | false=>
  rw[if_pos δ];obtain⟨N,hN⟩:∃N:L2.St->Hp->Prop,N=λσ' H'=>∃m',m'<aW r/\Pv m' σ' H':=⟨_,rfl⟩;subst hkt;refine⟨N,λσ' H' h=>by rw[hN] at h;exact h,?_⟩;refine aK λk2 bg=>?_;push_cast[e2,ce,LU];refine⟨CM (show(dn.map λi=>At (eV i)).length<=1000000 by rw[AI];omega) δ,?_⟩;rw[Wa hl];have app:∀{x:V}{d:A9}(o:HO),aG OD H2 x d->aG OD (upd H2 a o) x d:=λo t=>t.keep λb o' hb e=>⟨hb,by rw[cw] at hb;rw[aL hb.2];exact e⟩;have OQ:Same H (upd H2 a (AT ((dn.map λi=>At (eV i))++[At (eV (Gn r))]))):=cD L8 ha;have wv:upd H2 a (AT ((dn.map λi=>At (eV i))++[At (eV (Gn r))])) a=GE (.lst ((dn++[Gn r]).map λi=>At (eV i))):=by rw[au,BH];rfl
  have vw:=app (.lst ((dn.map λi=>At (eV i))++[At (eV (Gn r))])) OB;have q0:=app (.lst ((dn.map λi=>At (eV i))++[At (eV (Gn r))])) NO;generalize upd H2 a (AT ((dn.map λi=>At (eV i))++[At (eV (Gn r))]))=H3 at OQ wv vw q0 |-;have vF:∀(r':Pl)(v':V) H4,aW r'<aW r->Same H3 H4->aG OD H4 v' (plD r')->ig ss k r=Gn r::ig ss k r'->N [GE s,GE v',GE (As (k:Int)),GE (AS a)] H4:=λr' v' H4 hp s4 t4 hw=>by
   rw[hN];refine⟨aW r',hp,?_⟩;rw[ag];refine⟨r',v',dn++[Gn r],rfl,OQ.trans s4,s4 _ _ wv,vw.same s4,t4,?_,?_,rfl⟩
   ·rw[sP,hw,CS];rfl
   rw[AN,AQ];omega
  clear OB NO e2 LU L8 sP am;subst bg;have ZO:∀b,H3 b=GT->OD b:=λb hb=>by
   rw[cw];exact⟨hn.new (OQ.none hb),(aF wv hb).symm⟩
  have OT:∀l b,H3 b=GT->2<=aW r->ig ss k r=[Gn r]->N [GE s,GE (AS b),GE (As (k:Int)),GE (AS a)] (upd H3 b (By [At "pick",As l])):=λl b hb h2 hw=>vF (.pick l) _ _ h2 (aB hb) (.tup (ZO _ hb) au (by show 2<=1000000;decide) (.cons (.str _) (.cons (.int _) .nil))) hw;cases vw with
  | lst os3 kB zs3 tss3=>
  obtain⟨pk,xk,yk⟩:=tss3.stN RE;cases r with
  | pick l=>cases hl
  | tab=>cases hl
  | low j r1 r2=>
   obtain⟨xD,ys,ee,e3,ck⟩:=aG.pB (show aG OD H3 _ (.tuple [.str "below",.int (j:Int),plD r1,plD r2]) from q0);cases ee;obtain⟨y0,rr,rfl,t0,ck⟩:=ck.cI;obtain⟨y1,rr,rfl,t1,ck⟩:=ck.cI;obtain⟨x3,rr,rfl,t3,ck⟩:=ck.cI;obtain⟨x4,rr,rfl,t4,ck⟩:=ck.cI;obtain rfl:rr=[]:=BQ.mp ck.length;cases t0;cases t1;push_cast[e3,rdW];by_cases c:k<j
   ·rw[if_pos ω];exact vF r1 x3 H3 (by simp only[aW];omega) (Same.refl _) t3 (by show 2::(if k<j then _ else _)=_;rw[if_pos c];rfl)
   rw[if_neg ω];exact vF r2 x4 H3 (by simp only[aW];omega) (Same.refl _) t4 (by show 2::(if k<j then _ else _)=_;rw[if_neg c];rfl)
  | msk l r0=>
   obtain⟨xD,ys,ee,e3,ck⟩:=aG.pB (show aG OD H3 _ (.tuple [.str "mask",.int l,plD r0]) from q0);cases ee;obtain⟨y0,rr,rfl,t0,ck⟩:=ck.cI;obtain⟨y1,rr,rfl,t1,ck⟩:=ck.cI;obtain⟨x3,rr,rfl,t3,ck⟩:=ck.cI;obtain rfl:rr=[]:=BQ.mp ck.length;cases t0;cases t1;push_cast[e3,rdW,kB,xk,yk];have pM:=nO r0;by_cases c:(aO ss k).2.2=l
   ·rw[if_pos c];exact⟨aR δ,λt4 ht4=>OT _ t4 ht4 (by simp only[aW];omega) (by show 3::(if (aO ss k).2.2=l then [] else _)=_;rw[if_pos c];rfl)⟩
   rw[if_neg c];exact vF r0 x3 H3 (by simp only[aW];omega) (Same.refl _) t3 (by show 3::(if (aO ss k).2.2=l then [] else _)=_;rw[if_neg c];rfl)
  | one j r0=>
   obtain⟨xD,ys,ee,e3,ck⟩:=aG.pB (show aG OD H3 _ (.tuple [.str "is",.int (j:Int),plD r0]) from q0);cases ee;obtain⟨y0,rr,rfl,t0,ck⟩:=ck.cI;obtain⟨y1,rr,rfl,t1,ck⟩:=ck.cI;obtain⟨x3,rr,rfl,t3,ck⟩:=ck.cI;obtain rfl:rr=[]:=BQ.mp ck.length;cases t0;cases t1;push_cast[e3,rdW,kB,xk,yk];have pM:=nO r0;by_cases c:k=j
   ·rw[if_pos ω];exact⟨aR δ,λt4 ht4=>OT _ t4 ht4 (by simp only[aW];omega) (by show 0::(if k=j then [] else _)=_;rw[if_pos c];rfl)⟩
   rw[if_neg ω];exact vF r0 x3 H3 (by simp only[aW];omega) (Same.refl _) t3 (by show 0::(if k=j then [] else _)=_;rw[if_neg c];rfl)
  | wit j r0=>
   obtain⟨xD,ys,ee,e3,ck⟩:=aG.pB (show aG OD H3 _ (.tuple [.str "within",.int (j:Int),plD r0]) from q0);cases ee;obtain⟨y0,rr,rfl,t0,ck⟩:=ck.cI;obtain⟨y1,rr,rfl,t1,ck⟩:=ck.cI;obtain⟨x3,rr,rfl,t3,ck⟩:=ck.cI;obtain rfl:rr=[]:=BQ.mp ck.length;cases t0;cases t1;push_cast[e3,rdW,kB,xk,yk];have pM:=nO r0;by_cases c:k=j
   ·rw[if_pos ω];exact⟨aR δ,λt4 ht4=>OT _ t4 ht4 (by simp only[aW];omega) (by show 1::(if k=j then [] else _)=_;rw[if_pos c];rfl)⟩
   rw[if_neg ω];exact vF r0 x3 H3 (by simp only[aW];omega) (Same.refl _) t3 (by show 1::(if k=j then [] else _)=_;rw[if_neg c];rfl)
theorem O8(hB:∀x:Str,x∈BLs->mg x=GT)(CZTake:Cal P w K mg base "_law_take" 2 q0_ (qz 2))(F:Fun K "_law_numbers" "_law_numbers" gw f fd):cT P w K mg base CX0 3 f fd q8_ G5:=by
 refine F.okz CZ λap A outer s H vs Q E hr h=>?_;obtain⟨p,lo,hi,B,rfl,tp,IF,M',MQ,hw,q⟩:=h;refine⟨_,(aD (bF Aq CZ.nd (bV (ak (ao lR) (ak (ao oX) (ak (bJ (vg Z) Gp (hB "min" El) boot_min Fx (ak (ao oX) (ak (aX bw (ao lR) aq) aA))) (ak (bJ (nu Z) Gq (hB "max" wL) Kk xr (ak (ao lR) (ak (aX dY (ao oX) aq) aA))) aA))))) Z (.inl Z))
  (aJ (aQ (aX bw (ao Aq) (bV (ak (aX bw (ao lR) (bA CZTake (hr.mono δ) Bw dg (ak (ao Mg) (ak (aX bw (aX dY (ao oX) (ao lR)) aq) aA)))) aA)))))),?_⟩
 refine aK λk hk=>?_;push_cast;refine⟨aR δ,λl1 jv=>?_⟩;have s1:=aB (o:=AT [As lo,As hi,As (if lo+1<hi then lo+1 else hi),As (if hi-1>lo then hi-1 else lo)]) jv;have e1:upd H l1 (AT [As lo,As hi,As (if lo+1<hi then lo+1 else hi),As (if hi-1>lo then hi-1 else lo)]) l1=_:=au;have n1:=tp.ne jv;have iP:=tp.same s1;have b3:lo<=(if lo+1<hi then lo+1 else hi)/\(if lo+1<hi then lo+1 else hi)<=hi:=by split <;> omega
 have b4:lo<=(if hi-1>lo then hi-1 else lo)/\(if hi-1>lo then hi-1 else lo)<=hi:=by split <;> omega
 generalize (if lo+1<hi then lo+1 else hi)=c3 at *;generalize (if hi-1>lo then hi-1 else lo)=c4 at *;generalize upd H l1 (AT [As lo,As hi,As c3,As c4])=H1 at s1 e1 iP |-;subst hk;push_cast;refine⟨p,hi-lo+1,B,rfl,iP,by show B+2<=1000100;omega,ω,ω,δ,λ_=>by decide,λr2 H2 r20 r21 s2 g7=>?_⟩;have e2:=s2 _ _ n1 e1;push_cast[e2];refine⟨aR δ,λl3 hl3=>?_⟩;have s3:=aB (o:=AT [As (lo+r2)]) hl3;have e3:upd H2 l3 (AT [As (lo+r2)]) l3=_:=au;have XZ:=s3 _ _ e2;have iO:=g7.same s3;generalize upd H2 l3 (AT [As (lo+r2)])=H3 at s3 e3 XZ iO |-;push_cast[e3,XZ];refine⟨aR δ,λl4 hl4=>?_⟩;have s4:=aB (o:=AT [As lo,As hi,As c3,As c4,As (lo+r2)]) hl4;refine q l4 [lo,hi,c3,c4,lo+r2] _ (((s1.x.trans s2).trans s3.x).trans s4.x) (iO.same s4) (iO.ne hl4) au Z λn hn=>?_;simp only[AL,BC,or_false] at hn;rcases hn with rfl|rfl|rfl|rfl|rfl <;> omega
abbrev gZ:List Str:=["_law_tape_here","_law_stretches_here","_law_left","_law_labels","_law_way_here","_law_at","_law_rest","_law_others","_law_single","_law_sort","_law_one"]
abbrev dm:Stmt:=top 47
theorem lA:bx gZ q1_ (aj dm):=⟨rfl,rfl,rfl,ψ,rfl,ψ,ψ⟩
theorem lQ:NM_ gZ dm 0 "_law_tape_here":=.of ψ
theorem jH:NM_ gZ dm 1 "_law_stretches_here":=.of ψ
theorem gh:NM_ gZ dm 2 "_law_left":=.of ψ
theorem yj:NM_ gZ dm 3 "_law_labels":=.of ψ
theorem sV:NM_ gZ dm 4 "_law_way_here":=.of ψ
theorem nT:NM_ gZ dm 5 "_law_at":=.of ψ
theorem Mf:NM_ gZ dm 6 "_law_rest":=.of ψ
theorem DK:NM_ gZ dm 7 "_law_others":=.of ψ
theorem Ma:NM_ gZ dm 8 "_law_single":=.of ψ
theorem LR:NM_ gZ dm 9 "_law_sort":=.of ψ
theorem Hr:NM_ gZ dm 10 "_law_one":=.of ψ
theorem mY:GI_ dm "_law_plan":=ψ
theorem yH:GI_ dm "_law_span":=ψ
theorem mX:GI_ dm "_law_take":=ψ
theorem Qi:GI_ dm "int":=ψ
theorem wV:GI_ dm "len":=ψ
theorem Qh:GI_ dm "max":=ψ
theorem Qg:GI_ dm "min":=ψ
theorem yS:Bn "_law_plan" := ⟨ψ,ψ⟩
theorem Ug:cT P w K mg base CX0 2 f fd q1_ (uG 0):=by
 have no:∀vs H Q E,¬uG 0 vs H Q E:=λvs H Q E h=>by
  obtain⟨p,s,l,B,ss,left,_,_,_,_,_,_,lf,h0,_⟩:=h;exact lf.ne (List.eq_nil_of_length_eq_zero ω)
 exact⟨λvs H Q E h=>absurd h (no vs H Q E),λA outer s H args us vs Q E _ _ _ _ h=>absurd h (no vs H Q E)⟩
theorem abT{n:Nat}(hB:∀x:Str,x∈BLs->mg x=GT)(CZTake:Cal P w K mg base "_law_take" 2 q0_ (qz 2))(CZSpan:Cal P w K mg base "_law_span" 1 q13_ rP)(CZPlan:Cal P w K mg base "_law_plan" (n+2) q1_ (uG n))(F:Fun K "_law_plan" "_law_plan" dm f fd):cT P w K mg base CX0 (n+3) f fd q1_ (uG (n+1)):=by
 refine F.okz lA λap A outer s H vs Q E hr h=>?_;obtain⟨p,s,l,B,ss,left,rfl,tp,IF,M',ts,tl,lf,tJ,gI,q⟩:=h;refine⟨_,(aD (uJ (NX:=gZ) (kX:=(aj dm).names) ["_law_k","_law_stretches_here"] [GT,GE 1] yj lA.nd Z Z ⟨rfl,ψ,ψ,ψ,ψ⟩ Z (cQ (ao gh)) (λ_ _ _ _ _=>(cU 0 (show B8 (["_law_k","_law_stretches_here"]:List Str) from by decide +kernel) Z (D8 Z))) (λ_ _ _ _ _=>qL) (λ_ _ _ _ _=>(aH aP (aH aP (cg 1) (cg 0) (λ_ _=>rfl)) aq (λ_ _=>rfl))))
  (aD (jD (bG (ak (bA CZTake (hr.mono ω) mX dg (ak (ao lQ) (ak aq aA))) (ak (aH aP (ao gh) (bA CZTake (hr.mono ω) mX dg (ak (ao lQ) (ak (bJ bD wV (hB "len" cM) Be cN (ak (ao gh) aA)) aA))) (λ_ _=>rfl)) aA))) (cV (n:=2) Z (aU (bK sV lA.nd (.inl Z)) (aU (bK nT lA.nd (.inl Z)) cB))))
  (aD (bH (pW (lZ (aV (bC hr.aZ) (bJ (VD Z) Qg (hB "min" El) boot_min Fx (ak (ao yj) aA)) (bJ (VG Z) Qh (hB "max" wL) Kk xr (ak (ao yj) aA)) (aM _)) (jC (pW (yd (aV (bC hr.aZ) (bJ bD wV (hB "len" cM) Be cN (ak (ao gh) aA)) aq (aM _)) (qH (aV RP (ao sV) aq (aM _)))))))) (aJ (aQ (bG (ak bf (ak (aH aP (ao yj) aq (λ_ _=>rfl)) aA))))) bB)
  (aD (uJ (NX:=gZ) (kX:=(aj dm).names) ["_law_k","_law_at"] [GT,GE 5] Mf lA.nd Z Z ⟨rfl,ψ,ψ,ψ,ψ⟩ Z (cQ (ao gh)) (λ_ _ _ _ _=>(cU 0 (show B8 (["_law_k","_law_at"]:List Str) from by decide +kernel) Z (D8 Z))) (λ_ _ _ _ _=>(qK (aV (nP hr.aZ) (cg 0) (cg 1) (aM _)))) (λ_ _ _ _ _=>(cg 0)))
  (aD (bH (pW (lZ (aV (bC hr.aZ) (ao sV) aq (aM _)) (jC (aV vI (bA CZSpan (hr.mono ω) yH S5 (ak (ao jH) (ak (ao gh) aA))) aq (aM _))))) (aJ (aQ (bG (ak bf aA)))) bB)
  (aD (uJ (NX:=gZ) (kX:=(aj dm).names) ["_law_k","_law_stretches_here","_law_at"] [GT,GE 1,GE 5] DK lA.nd Z Z ⟨rfl,ψ,ψ,ψ,ψ⟩ Z (cQ (ao gh)) (λ_ _ _ _ _=>(cU 0 (show B8 (["_law_k","_law_stretches_here","_law_at"]:List Str) from by decide +kernel) Z (D8 Z))) (λ_ _ _ _ _=>(qK (aV (nP hr.aZ) (aH aP (aH aP (cg 1) (cg 0) (λ_ _=>rfl)) aq (λ_ _=>rfl)) (aH aP (aH aP (cg 1) (cg 2) (λ_ _=>rfl)) aq (λ_ _=>rfl)) (aM _)))) (λ_ _ _ _ _=>(cg 0)))
  (aD (bH (pW (lZ (aV jZ (ao sV) aq (aM _)) (lZ (aV (nP hr.aZ) (ao DK) (bV aA) (aM _)) (jC (aV vI (bA CZSpan (hr.mono ω) yH S5 (ak (ao jH) (ak (ao gh) aA))) aq (aM _)))))) (aJ (aQ (bG (ak bf (ak (aH aP (aH aP (ao jH) (ao nT) (λ_ _=>rfl)) aq (λ_ _=>rfl)) (ak (bA CZPlan (hr.mono ω) mY yS (ak (ao lQ) (ak (ao jH) (ak (ao DK) aA)))) aA)))))) bB)
  (aD (bH (aV jZ (ao sV) aq (aM _)) (aD (bF Ma lA.nd (RG xj Qi (hB "int" Em) boot_int Fy (ak (dX (bC hr.aZ) (aH aP (aH aP (ao jH) (ao nT) (λ_ _=>rfl)) aq (λ_ _=>rfl)) (aH aP (aH aP (ao jH) (ao nT) (λ_ _=>rfl)) aq (λ_ _=>rfl)) (aM _)) aA)) Z (.inl Z))
  (aD (bF LR lA.nd (aH aP (bV (ak bf (ak bf aA))) (aX jd (ao Ma) (bA CZTake (hr.mono ω) mX dg (ak (ao lQ) (ak aq aA)))) (λ_ _=>rfl)) Z (.inl Z))
  (aJ (aQ (bG (ak (ao LR) (ak (ao nT) (ak (bA CZPlan (hr.mono ω) mY yS (ak (ao lQ) (ak (ao jH) (ak (ao Mf) aA)))) aA)))))))) bB)
  (aD (bF nT lA.nd (aH aP (lN K4 (ao gh) (mU aq) qI) (bA CZTake (hr.mono ω) mX dg (ak (ao lQ) (ak (aX dY (bJ bD wV (hB "len" cM) Be cN (ak (ao gh) aA)) aq) aA))) (λ_ _=>rfl)) Z (.inl Z))
  (aD (bF Hr lA.nd (bA CZPlan (hr.mono ω) mY yS (ak (ao lQ) (ak (ao jH) (ak (jE (NX:=gZ) (kX:=(aj dm).names) ["_law_k","_law_at"] [GT,GE 5] Z Z ⟨rfl,ψ,ψ,ψ,ψ⟩ Z (cQ (ao gh)) (λ_ _ _ _ _=>(cU 0 (show B8 (["_law_k","_law_at"]:List Str) from by decide +kernel) Z (D8 Z))) (λ_ _ _ _ _=>(qK (aV jZ (cg 0) (cg 1) (aM _)))) (λ_ _ _ _ _=>(cg 0))) aA)))) Z (.inl Z))
  (aJ (aQ (bG (ak bf (ak (ao nT) (ak (ao Hr) (ak (bA CZPlan (hr.mono ω) mY yS (ak (ao lQ) (ak (ao jH) (ak (jE (NX:=gZ) (kX:=(aj dm).names) ["_law_k","_law_at"] [GT,GE 5] Z Z ⟨rfl,ψ,ψ,ψ,ψ⟩ Z (cQ (ao gh)) (λ_ _ _ _ _=>(cU 0 (show B8 (["_law_k","_law_at"]:List Str) from by decide +kernel) Z (D8 Z))) (λ_ _ _ _ _=>(qK (aV acZ (cg 0) (cg 1) (aM _)))) (λ_ _ _ _ _=>(cg 0))) aA)))) aA))))))))))))))))),?_⟩
 obtain⟨la,rfl,nc,el,ll⟩:=tl.left;replace el:H la=GE (.lst (nv left)):=el;cases ts with
 | lst os es zs bj=>
  rename_i sa xs;refine aK λk hk=>?_;push_cast;refine iH λR hR=>?_;push_cast[el];refine Io (λk=>(aO ss k).2.2) (λτ=>∃o0,τ=[o0,GE (.ref sa)]) hR el ll ⟨_,rfl⟩ ?_ ?_
  ·rintro i k' τ ac Pn gE ⟨o0,rfl⟩ h1;obtain⟨sk,x1,y1⟩:=bj.stN (lf.lt _ (AU gE));push_cast[es,x1,y1];exact h1 _ ⟨_,rfl⟩
  intro d hd;have s1:=aB (o:=AT ((left.map λk=>(aO ss k).2.2).map As)) hd;have ed:upd H d (AT ((left.map λk=>(aO ss k).2.2).map As)) d=_:=au;have nd:=tp.ne hd;have iP:=tp.same s1;have eP:=s1 _ _ el;have bq:=s1 _ _ es;have rf:=bj.same s1;generalize upd H d (AT ((left.map λk=>(aO ss k).2.2).map As))=H1 at s1 ed iP eP bq rf |-;subst hk;refine aK λk hk=>?_;push_cast;refine⟨p,8,B,rfl,iP,by show B+2<=1000100;omega,δ,δ,δ,λz=>absurd z δ,λml H2 w0 w1 s2 g7=>?_⟩;have lv:=s2 _ _ nc eP;push_cast[lv,gB];have f':0<left.length:=D3.mpr lf.ne;refine⟨p,left.length,B+2,rfl,g7,by show B+2+2<=1000100;omega,ω,ω,δ,λz=>absurd z ω,λr3 H3 r30 r31 s3 iO=>?_⟩;obtain⟨cx,fi,vS,aat⟩:=ac0 r30 r31;have gg:=s3 _ _ nc lv;push_cast[gg,aat];refine⟨aR δ,λt4 ht4=>?_⟩;have s4:=aB (o:=By [As ml,As (cx:Int)]) ht4;have fo:=iO.same s4;have kD:=s4 _ _ gg;have gS:=s4 _ _ (s3 _ _ nd (s2 _ _ nd ed));have SC:=s4 _ _ (s3 _ _ os (s2 _ _ os bq));have re:=((rf.jk s2).jk s3).same s4;have ow:b7 p H _:=((s1.x.trans s2).trans s3).trans s4.x;generalize upd H3 t4 (By [As ml,As (cx:Int)])=H4 at s4 fo kD gS SC re ow |-;replace fo:cu H4 p (B+4):=fo.le (by show B+2+2<=B+4;omega);clear iP g7 iO s1 s2 s3 s4 eP lv gg bq rf ht4;subst hk;refine aK λk hk=>?_;push_cast[gS];have kP:∀(a:ID)(l:Int),(∀k∈left,lbl ss k=l)->H4 a=GT->Q (.ref a) (upd H4 a (.tup [.str "pick",.int l])):=λa l hl ha=>
   q _ (.pick l) _ (ow.trans (aB ha).x) ((fo.same (aB ha)).le ω) (.tup (fo.ne ha) au (by show 2<=1000000;decide) (.cons (.str _) (.cons (.int _) .nil))) ⟨lf,hl⟩ f' (by show 1+1<=2*left.length;omega)
  obtain⟨l0,wa,UY⟩:∃l,atI ((left.map λk=>(aO ss k).2.2).map As) 0=GE (.int l)/\l∈(left.map λk=>(aO ss k).2.2):=by
   cases bS:left with
   | nil=>exact absurd bS lf.ne
   | cons a l=>exact⟨_,bO (j:=0) (show(_::_)[0]?=_ from rfl),AJ⟩
  suffices go:2<=left.length->k [GE (AS p),GE (AS sa),GE (AS la),GE (AS d),GE (As ml),GE (As (cx:Int)),GT,GT,GT,GT,GT] H4 by
   refine⟨_,.inl gS,λz=>lf.ne (KB.mp z),λM hM lM=>⟨_,.inl gS,λz=>lf.ne (KB.mp z),λM1 M0 lM1=>?_⟩⟩;by_cases c1:M=M1
   ·rw[if_pos c1];have pf:∀k∈left,lbl ss k=l0:=by
     have all:∀x∈(left.map λk=>(aO ss k).2.2),x=M:=λx hx=>by
      have:=lM x hx;have:=lM1 x hx;omega
     have h0:l0=M:=all _ UY;exact λk hk=>(all _ (C8.mpr ⟨k,hk,rfl⟩)).trans h0.symm
    push_cast[kD,gB];by_cases c2:(left.length:Int)=1
    ·rw[if_pos c2];push_cast[gS,wa];exact⟨aR δ,λa ha=>kP a l0 pf ha⟩
    rw[if_neg c2];by_cases c3:0<ml
    ·rw[if_pos c3];push_cast[gS,wa];exact⟨aR δ,λa ha=>kP a l0 pf ha⟩
    rw[if_neg c3];exact go ω
   rw[if_neg c1];refine go ?_
   match left,hM,M0,f' with
   | [a],hM,M0,_=>
    rw[DI,map_nil,AA] at hM M0;exact absurd (hM.trans M0.symm) c1
   | a::b::l,_,_,_=>exact Nat.le_add_left 2 _
  intro h2;clear kP wa UY l0 gS hd nd ed;subst hk;refine aK λk hk=>?_;push_cast;refine iH λR2 k9=>?_;push_cast[kD];refine kW (·≠cx) (λτ=>∃o0,τ=[o0,GE (.int (cx:Int))]) k9 kD ll ⟨_,rfl⟩ ?_ ?_
  ·rintro i k' τ ac Pn gE ⟨o0,rfl⟩ h1 h2;push_cast;by_cases c:k'=cx
   ·subst c;rw[decide_eq_true (show((k':Nat):Int)=(k':Int) from Z),EO,if_neg δ];exact h2 ζ _ ⟨_,rfl⟩
   rw[decide_eq_false (show ¬((k':Nat):Int)=(cx:Int) by omega),D4,if_pos rfl];exact h1 (by simpa using c) _ ⟨_,rfl⟩
  intro d5 hd5;have s5:=aB (o:=AT (nv (left.filter (·≠cx)))) hd5;have Me:=fo.ne hd5;have fT:=fo.same s5;have qA:=s5 _ _ kD;have KU:=s5 _ _ SC;have iN:=re.same s5;have hU:=ow.trans s5.x;have e5:upd H4 d5 (AT (nv (left.filter (·≠cx)))) d5=_:=au;generalize upd H4 d5 (AT (nv (left.filter (·≠cx))))=H5 at s5 fT qA KU iN hU e5 |-;clear fo kD SC re ow hd5 s5;subst hk;refine aK λk hk=>?_;push_cast;have vv:aG (·≠p) H5 (.ref sa) (.list (ss.map stD)):=.lst os KU zs iN;have OE:aG (·≠p) H5 (.ref la) (oF left):=dB nc qA ll
  suffices go:k [GE (AS p),GE (AS sa),GE (AS la),GE (AS d),GE (As ml),GE (As (cx:Int)),GE (AS d5),GT,GT,GT,GT] H5 by
   by_cases c1:ml=1
   ·rw[if_pos c1];refine⟨_,_,_,ss,left,rfl,vv,OE,lf,_,rfl,?_⟩;by_cases c2:dN ss left<=200
    ·rw[if_pos c2];refine⟨aR δ,λa ha=>?_⟩;exact q _ .tab _ (hU.trans (aB ha).x) ((fT.same (aB ha)).le ω) (.tup (fT.ne ha) au (by show 1<=1000000;decide) (.cons (.str _) .nil)) ⟨lf,c2⟩ f' (by show 1+1<=2*left.length;omega)
    rw[if_neg c2];exact go
   rw[if_neg c1];exact go
  subst hk;refine aK λk hk=>?_;push_cast;refine iH λR3 hR3=>?_;push_cast[qA];obtain⟨pat,NE,NC⟩:=iN.stN (lf.lt _ vS);refine kW (λk=>(aO ss k).2.2≠(aO ss cx).2.2) (λτ=>∃o0,τ=[o0,GE (.ref sa),GE (.int (cx:Int))]) hR3 qA ll ⟨_,rfl⟩ ?_ ?_
  ·rintro i k' τ ac Pn gE ⟨o0,rfl⟩ h1 h2;obtain⟨sk,x1,y1⟩:=iN.stN (lf.lt _ (AU gE));push_cast[KU,x1,y1,NE,NC];by_cases c:(aO ss k').2.2=(aO ss cx).2.2
   ·rw[decide_eq_true c,EO,if_neg δ];exact h2 (by simpa using c) _ ⟨_,rfl⟩
   rw[decide_eq_false c,D4,if_pos rfl];exact h1 (by simpa using c) _ ⟨_,rfl⟩
  intro d6 hd6;have s6:=aB (o:=AT (nv (left.filter λk=>(aO ss k).2.2≠(aO ss cx).2.2))) hd6;have OX:=fT.ne hd6;have io:=fT.same s6;have SZ:=s6 _ _ qA;have wo:=s6 _ _ KU;have rb:=iN.same s6;have gr:=hU.trans s6.x;have S3:=s6 _ _ e5;have L4:=vv.same s6;have L6:=OE.same s6;have mi:=s6 _ _ NC;have e6:upd H5 d6 (AT (nv (left.filter λk=>(aO ss k).2.2≠(aO ss cx).2.2))) d6=_:=au;generalize upd H5 d6 (AT (nv (left.filter λk=>(aO ss k).2.2≠(aO ss cx).2.2)))=H6 at s6 io SZ wo rb gr S3 L4 L6 mi e6 |-;clear fT qA KU iN hU hd6 e5 vv OE s6 NC;subst hk;refine aK λk hk=>?_;push_cast
  suffices go:∀H7,Same H6 H7->k [GE (AS p),GE (AS sa),GE (AS la),GE (AS d),GE (As ml),GE (As (cx:Int)),GE (AS d5),GE (AS d6),GT,GT,GT] H7 by
   by_cases c1:ml<4
   ·rw[if_pos c1];refine⟨aR δ,λa ha=>?_⟩;have s7:=aB (o:=AT []) ha;have e7:=s7 _ _ e6;have rV:=L4.same s7;have L5:=L6.same s7;have KS:=s7 _ _ wo;have mh:=s7 _ _ mi;have dr:=io.same s7;have go:=go _ s7;have dS:=gr.trans s7.x;generalize upd H6 a (AT [])=H7 at s7 e7 rV L5 KS mh dr go dS |-;push_cast[e7];refine⟨JQ _,rfl,?_⟩;have ba:(left.filter λk=>(aO ss k).2.2≠(aO ss cx).2.2).length<left.length:=Ss vS ζ;by_cases c2:left.filter (λk=>(aO ss k).2.2≠(aO ss cx).2.2)=[]
    ·rw[c2,if_neg δ];exact go
    rw[ael c2,D4,if_pos rfl];have UZ:=lf.acr c2;generalize hO:left.filter (λk=>(aO ss k).2.2≠(aO ss cx).2.2)=sm at ba UZ e7 c2;refine⟨_,_,_,ss,left,rfl,rV,L5,lf,_,rfl,?_⟩;by_cases c3:dN ss left<=64
    ·rw[if_pos c3];push_cast[KS,NE,mh];refine⟨p,_,_,B+4,ss,sm,rfl,dr,ω,ω,rV,dB OX e7 ω,UZ,ω,ω,λv pl H8 s8 kn t8 pok8 dep8 siz8=>?_⟩;refine⟨aR δ,λa8 ha8=>?_⟩;have s9:=aB (o:=By [At "mask",As (aO ss cx).2.2,v]) ha8;refine q _ (.msk (aO ss cx).2.2 pl) _ ((dS.trans s8).trans s9.x) ((kn.same s9).le ω) (.tup (kn.ne ha8) au (by show 3<=1000000;decide) (.cons (.str _) (.cons (.int _) (.cons (t8.same s9) .nil)))) ⟨⟨lf,c3,cx,vS,rfl⟩,?_⟩ (by show Dq pl+1<left.length;omega) (by show aW pl+1+1<=2*left.length;omega);rw[hO];exact pok8
    rw[if_neg c3];exact go
   rw[if_neg c1];exact go _ (Same.refl _)
  intro H7 s7;have e7:=s7 _ _ S3;have rV:=L4.same s7;have L5:=L6.same s7;have KS:=s7 _ _ wo;have wq:=s7 _ _ SZ;have mh:=s7 _ _ mi;have dr:=io.same s7;have dS:=gr.trans s7.x;have NU:=rb.same s7;clear S3 L4 L6 wo SZ mi io gr e6 s7 rb;subst hk;refine aK λk hk=>?_;refine iV λkt ke hkt hke=>?_;push_cast;by_cases c1:ml<6
  ·rw[if_pos c1];subst hkt;refine aK λk2 bg=>?_;push_cast[KS,NE,mh];obtain⟨sg,ym,sg0,sg1⟩:∃sg:Int,sg=(if (aO ss cx).1=(aO ss cx).2.1 then 1 else 0)/\0<=sg/\sg<=1:=by
    refine⟨_,rfl,?_,?_⟩ <;> split <;> decide
   rw[<- ym];subst bg;refine aK λk2 bg=>?_;push_cast;refine⟨aR δ,λa8 ha8=>?_⟩;have s8:=aB (o:=AT [At "within",At "is"]) ha8;have n8:=dr.ne ha8;have kn:=dr.same s8;have e8:upd H7 a8 (AT [At "within",At "is"]) a8=_:=au;generalize upd H7 a8 (AT [At "within",At "is"])=H8 at s8 kn e8 |-;refine⟨p,2,B+4,rfl,kn,by show B+4+2<=1000100;omega,δ,δ,δ,λz=>absurd z δ,λr9 H9 r90 r91 s9 lL=>?_⟩;have e9:=s9 _ _ n8 e8;push_cast;obtain⟨wd,VC,awd⟩:∃wd:Str,(wd = "within" \/ (wd = "is" /\ sg=1))/\atI [At "within",At "is"] (sg*r9)=GE (.str wd):=by
    clear ym;have:sg=0\/sg=1:=by omega
    rcases this with rfl|rfl
    ·rw[Int.zero_mul];exact⟨"within",.inl rfl,rfl⟩
    rw[one_mul];have:r9=0\/r9=1:=by omega
    rcases this with rfl|rfl
    ·exact⟨"within",.inl rfl,rfl⟩
    exact⟨"is",.inr ⟨rfl,rfl⟩,rfl⟩
   refine⟨.inl ⟨ω,ω⟩,?_⟩;push_cast[e9,awd];subst bg;push_cast;have ON:=s8.x.trans s9;have lfr:=lf.rest h2 cx;have ba:(left.filter (·≠cx)).length<left.length:=Ss vS ζ;have e79:=ON _ _ Me e7;refine⟨p,_,_,B+6,ss,left.filter (·≠cx),rfl,lL.le (by show B+4+2<=B+6;omega),ω,ω,rV.jk ON,dB Me e79 ω,lfr,ω,ω,λv pl H10 c6 eS vx oB dep10 siz10=>?_⟩;refine⟨aR δ,λa11 ha11=>?_⟩;have cS:=aB (o:=By [At wd,As (cx:Int),v]) ha11;have UC:=((dS.trans ON).trans c6).trans cS.x;rcases VC with rfl|⟨rfl,P'⟩
   ·exact q _ (.wit cx pl) _ UC ((eS.same cS).le ω) (.tup (eS.ne ha11) au (by show 3<=1000000;decide) (.cons (.str _) (.cons (.int _) (.cons (vx.same cS) .nil)))) ⟨⟨lf,vS⟩,oB⟩ (by show Dq pl+1<left.length;omega) (by show aW pl+1+1<=2*left.length;omega)
   exact q _ (.one cx pl) _ UC ((eS.same cS).le ω) (.tup (eS.ne ha11) au (by show 3<=1000000;decide) (.cons (.str _) (.cons (.int _) (.cons (vx.same cS) .nil)))) ⟨⟨lf,vS,(by rw[P'] at ym;split at ym;assumption;cases ym)⟩,oB⟩ (by show Dq pl+1<left.length;omega) (by show aW pl+1+1<=2*left.length;omega)
  rw[if_neg c1];subst hke;push_cast;subst hk;refine aK λk hk=>?_;push_cast[wq];intro a8 ha8;have RR:oK (nv left) (GE 1) GT=nv (left.drop 1):=by
   have:=Fv (nv left) 1 (by rw[gB];omega);rw[show((1:Nat):Int)=1 from rfl] at this;rw[this];unfold nv;rw[map_drop]
  rw[RR];have s8:=aB (o:=AT (nv (left.drop 1))) ha8;have n8:=dr.ne ha8;have kn:=dr.same s8;have Nw:=s8 _ _ wq;have OA:=rV.same s8;have r6:=dS.trans s8.x;have e8:upd H7 a8 (AT (nv (left.drop 1))) a8=_:=au;generalize upd H7 a8 (AT (nv (left.drop 1)))=H8 at s8 kn e8 Nw OA r6 |-;push_cast[Nw,gB];refine⟨p,(left.length:Int)-1,B+4,rfl,kn,by show B+4+2<=1000100;omega,ω,ω,δ,λz=>absurd z ω,λr9 H9 r90 r91 s9 lL=>?_⟩;have e9:=s9 _ _ n8 e8;have No:=s9 _ _ nc Nw;have TN:=OA.jk s9;have rX:=r6.trans s9;obtain⟨fN,nS,_,Tk⟩:=ac0 (left:=left.drop 1) r90 (by rw[Fm];omega);rw[List.getElem?_drop,add_comm] at nS;obtain⟨PD,PP,PM⟩:=lf.cuts nS;have WZ:=M7 fN left;have ix:=D3.mpr PP.ne;have dL:=D3.mpr PM.ne;push_cast[e9,Tk];clear s8 kn e8 Nw OA r6 dS dr NU KS wq rV L5 e7;subst hk;refine aK λk hk=>?_;push_cast;refine iH λR4 hR4=>?_;push_cast[No];refine kW (· < fN) (λτ=>∃o0,τ=[o0,GE (.int (fN:Int))]) hR4 No ll ⟨_,rfl⟩ ?_ ?_
  ·rintro i k' τ ac Pn gE ⟨o0,rfl⟩ h1 h2;push_cast;by_cases c:k'<fN
   ·rw[if_pos (show((k':Nat):Int)<(fN:Int) by omega)];exact h1 (by simpa using c) _ ⟨_,rfl⟩
   rw[if_neg (show ¬((k':Nat):Int)<(fN:Int) by omega)];exact h2 (by simpa using c) _ ⟨_,rfl⟩
  intro d10 hd10;have c6:=aB (o:=AT (nv (left.filter (· < fN)))) hd10;have OZ:=lL.ne hd10;have NA:upd H9 d10 (AT (nv (left.filter (· < fN)))) d10=_:=au;have eS:=lL.same c6;have mI:=TN.same c6;have vb:=c6 _ _ No;have sd:=rX.trans c6.x;generalize upd H9 d10 (AT (nv (left.filter (· < fN))))=H10 at c6 NA eS mI vb sd |-;generalize hA:left.filter (· < fN)=LA at PP WZ ix NA;generalize WV:left.filter (fN<=·)=LB at PM WZ dL;refine⟨p,_,_,B+6,ss,LA,rfl,eS.le (by show B+4+2<=B+6;omega),ω,ω,mI,dB OZ NA ω,PP,ω,ω,λv1 gx H11 cS fg t11 pok11 dep11 siz11=>?_⟩;have LG:=cS _ _ nc vb;have OC:=mI.jk cS;have OI:=sd.trans cS;clear c6 NA eS mI vb sd rX TN No lL e9;subst hk;push_cast;refine iH λR5 hR5=>?_;push_cast[LG];refine kW (fN<=·) (λτ=>∃o0,τ=[o0,GE (.int (fN:Int))]) hR5 LG ll ⟨_,rfl⟩ ?_ ?_
  ·rintro i k' τ ac Pn gE ⟨o0,rfl⟩ h1 h2;push_cast;by_cases c:fN<=k'
   ·rw[if_pos (show(fN:Int)<=((k':Nat):Int) by omega)];exact h1 (by simpa using c) _ ⟨_,rfl⟩
   rw[if_neg (show ¬(fN:Int)<=((k':Nat):Int) by omega)];exact h2 (by simpa using c) _ ⟨_,rfl⟩
  intro d12 hd12;rw[WV];have ca:=aB (o:=AT (nv LB)) hd12;have OY:=fg.ne hd12;have gi:upd H11 d12 (AT (nv LB)) d12=_:=au;have hG:=fg.same ca;have xv:=OC.same ca;have UB:=t11.same ca;have mM:=OI.trans ca.x;generalize upd H11 d12 (AT (nv LB))=H12 at ca gi hG xv UB mM |-;refine⟨p,_,_,_,ss,LB,rfl,hG,ω,ω,xv,dB OY gi ω,PM,ω,ω,λv2 kq H13 de kG Y3 pok13 dep13 siz13=>?_⟩;refine⟨aR δ,λa14 ha14=>?_⟩;have eQ:=aB (o:=By [At "below",As (fN:Int),v1,v2]) ha14;refine q _ (.low fN gx kq) _ ((mM.trans de).trans eQ.x) ((kG.same eQ).le ω) (.tup (kG.ne ha14) au (by show 4<=1000000;decide) (.cons (.str _) (.cons (.int _) (.cons ((UB.jk de).same eQ) (.cons (Y3.same eQ) .nil))))) ⟨⟨lf,PD⟩,?_,?_⟩ (by show max (Dq gx) (Dq kq)+1<left.length;omega) (by show aW gx+aW kq+1+1<=2*left.length;omega)
  ·rw[hA];exact pok11
  rw[WV];exact pok13
abbrev QL:List Str:=["row","number"]
abbrev Dg:Stmt:=top 25
theorem aaR:bx QL ["row","number"] (aj Dg):=⟨rfl,rfl,rfl,ψ,rfl,ψ,ψ⟩
theorem jN:NM_ QL Dg 0 "row":=.of ψ
theorem yx:NM_ QL Dg 1 "number":=.of ψ
theorem acL:Bn "holds" := ⟨ψ,ψ⟩
abbrev kZ:List Str:=["rows","at","number","row","ends"]
abbrev eO:Stmt:=top 26
theorem rQ:bx kZ q20_ (aj eO):=⟨rfl,rfl,rfl,ψ,rfl,ψ,ψ⟩
theorem JS:NM_ kZ eO 0 "rows":=.of ψ
theorem yq:NM_ kZ eO 1 "at":=.of ψ
theorem qO:NM_ kZ eO 2 "number":=.of ψ
theorem fV:NM_ kZ eO 3 "row":=.of ψ
theorem mV:NM_ kZ eO 4 "ends":=.of ψ
theorem yL:GI_ eO "ends_of":=ψ
theorem z8:GI_ eO "holds":=ψ
theorem Nq:Bn "row_behind" := ⟨ψ,ψ⟩
abbrev aap:List Str:=["rows","number","at","done"]
abbrev Lh:Stmt:=top 27
theorem Ru:bx aap ["rows","number"] (aj Lh):=⟨rfl,rfl,rfl,ψ,rfl,ψ,ψ⟩
theorem Ph:NM_ aap Lh 0 "rows":=.of ψ
theorem aeo:NM_ aap Lh 1 "number":=.of ψ
theorem wC:NM_ aap Lh 2 "at":=.of ψ
theorem Pg:NM_ aap Lh 3 "done":=.of ψ
theorem EY:GI_ Lh "row_behind":=ψ
theorem afN:Bn "run" := ⟨ψ,ψ⟩
theorem ok_holds(hB:∀x:Str,x∈BLs->mg x=GT)(F:Fun K "holds" "holds" Dg f fd):cT P w K mg base CX0 1 f fd ["row","number"] Rm:=by
 refine F.okz aaR λap A outer s H vs Q E hr h=>?_;obtain⟨x,c,n,rfl,⟨a,g,rfl,e,eg⟩,hp,ht,hm,q⟩:=h;refine⟨_,(aD (bH (aV (bC hr.aZ) (aH aP (ao jN) aq (λ_ _=>rfl)) bf (aM _)) (aJ (aQ (dX (bC hr.aZ) (ao yx) (aH aP (ao jN) aq (λ_ _=>rfl)) (aM _)))) bB)
  (aD (bH (aV (bC hr.aZ) (aH aP (ao jN) aq (λ_ _=>rfl)) bf (aM _)) (aJ (aQ (Lp vI vI (aH aP (ao jN) aq (λ_ _=>rfl)) (ao yx) (aH aP (ao jN) aq (λ_ _=>rfl))))) bB)
  (aD (bH (aV (bC hr.aZ) (aH aP (ao jN) aq (λ_ _=>rfl)) bf (aM _)) (aJ (aQ (dX jZ (ao yx) (aH aP (ao jN) aq (λ_ _=>rfl)) (aM _)))) bB)
  (aJ (aQ (dX (bC hr.aZ) (aX Ys (aX Yp (aH aP (ao jN) aq (λ_ _=>rfl)) (aX dY (ao yx) (aH aP (ao jN) aq (λ_ _=>rfl)))) aq) aq (aM _))))))),?_⟩
 cases c with
 | one a t=>push_cast[e,jg,rdW];exact q
 | rng a b t=>
  push_cast[e,jg,rdW];replace q:Q (.bl (decide (a<=n)&&decide (n<=b))) H:=q;split
  ·rename_i c1;rw[decide_eq_true c1,DD] at q;exact q
  rename_i c1;rw[decide_eq_false c1,FX] at q;exact q
 | low a t=>push_cast[e,jg,rdW];exact q
 | msk lo wd bits t=>
  have h0:=hm _ _ _ _ rfl;push_cast[e,jg,rdW];exact⟨h0,q⟩
 | tab lo gs=>cases ht
 | pik l=>cases hp
theorem O6(hB:∀x:Str,x∈BLs->mg x=GT)(CEndsOf:Cal P w K mg base "ends_of" 1 ["row"] Oi)(CHolds:Cal P w K mg base "holds" 1 ["row","number"] Rm)(F:Fun K "row_behind" "row_behind" eO f fd):cT P w K mg base CX0 2 f fd q20_ G6:=by
 refine F.okz rQ λap A outer s H vs Q E hr h=>?_;obtain⟨l,ok,cs,j,n,c,t,rfl,tr,du,hc,hp,ar,q⟩:=h;refine⟨_,(aD (bF fV rQ.nd (aH aP (ao JS) (ao yq) (λ_ _=>rfl)) Z (.inl Z))
  (aD (bF mV rQ.nd (bA CEndsOf (hr.mono δ) yL Nv (ak (ao fV) aA)) Z (.inl Z))
  (aD (bH (pW (lZ (aV Cd (ao mV) pC (aM _)) (jC (rY (XF vI vI (aH aP (ao mV) aq (λ_ _=>rfl)) (ao qO) (aH aP (ao mV) aq (λ_ _=>rfl))))))) (aJ XH) bB)
  (aD (bH (aV (bC hr.aZ) (aH aP (ao fV) aq (λ_ _=>rfl)) bf (aM _)) (aJ (aQ (aH aP (aH aP (ao fV) aq (λ_ _=>rfl)) (aX dY (ao qO) (aH aP (ao fV) aq (λ_ _=>rfl))) (λ_ _=>rfl)))) bB)
  (aD (bH (mC (bA CHolds (hr.mono δ) z8 acL (ak (ao fV) (ak (ao qO) aA))) (λ_=>rfl)) (aJ (aQ (aH aP (ao fV) (jX fM aq) (λ_ _=>rfl)))) bB)
  (aJ (aQ (aX bw (ao yq) aq)))))))),?_⟩
 cases tr with
 | lst o el zl gT=>
  rename_i xs;obtain⟨x,hx,rx⟩:=gT.row hc;have fi:=bO hx;refine aK λk hk=>?_;push_cast[el,fi];subst hk;refine aK λk hk=>?_;push_cast;have rest:∀(v:V) H1,Same H H1->(Bk c=GT->v=.non)->(∀lo hi,Bk c=GE (lo,hi)->∃p,v=.ref p/\H1 p=GE (.tup [.int lo,.int hi]))->k [GE (.ref l),GE (.int (j:Int)),GE (.int n),GE x,GE v] H1:=by
   intro v H1 s1 hv1 hv2;subst hk;obtain⟨a,g,rfl,e,eg⟩:=rx;have e1:=s1 _ _ e;have L9:ux H1 (.ref a) c:=⟨a,g,rfl,e1,λlo gs hh=>s1 _ _ (eg lo gs hh)⟩;refine aK λk hk=>?_;cases c with
   | one a' t'=>
    have hv:=hv1 rfl;subst hv;push_cast;subst hk;refine aK λk hk=>?_;push_cast[e1,jg,rdW];subst hk;refine aK λk hk=>?_;push_cast;refine⟨.ref a,_,n,rfl,L9,rfl,rfl,λ_ _ _ _ h=>(by cases h),?_⟩;push_cast;replace ar:GE (if n=a' then t' else (j:Int)+1)=GE t:=ar;cases hh:Es (.one a' t') n with
    | true=>
     rw[if_pos (of_decide_eq_true hh)] at ar;cases ar;rw[if_pos rfl];push_cast[e1,jg];exact q _ s1
    | false=>
     rw[if_neg (of_decide_eq_false hh)] at ar;cases ar;rw[if_neg δ];subst hk;push_cast;exact q _ s1
   | rng a' b' t'=>
    have hv:=hv1 rfl;subst hv;push_cast;subst hk;refine aK λk hk=>?_;push_cast[e1,jg,rdW];subst hk;refine aK λk hk=>?_;push_cast;refine⟨.ref a,_,n,rfl,L9,rfl,rfl,λ_ _ _ _ h=>(by cases h),?_⟩;push_cast;replace ar:GE (if a'<=n/\n<=b' then t' else (j:Int)+1)=GE t:=ar;cases hh:Es (.rng a' b' t') n with
    | true=>
     have h2:(decide (a'<=n)&&decide (n<=b'))=true:=hh;rw[BM,decide_eq_true_eq,decide_eq_true_eq] at h2;rw[if_pos h2] at ar;cases ar;rw[if_pos rfl];push_cast[e1,jg];exact q _ s1
    | false=>
     have h2:¬(a'<=n/\n<=b'):=λz=>by
      have h3:(decide (a'<=n)&&decide (n<=b'))=false:=hh;rw[decide_eq_true z.1,decide_eq_true z.2] at h3;cases h3
     rw[if_neg h2] at ar;cases ar;rw[if_neg δ];subst hk;push_cast;exact q _ s1
   | low a' t'=>
    have hv:=hv1 rfl;subst hv;push_cast;subst hk;refine aK λk hk=>?_;push_cast[e1,jg,rdW];subst hk;refine aK λk hk=>?_;push_cast;refine⟨.ref a,_,n,rfl,L9,rfl,rfl,λ_ _ _ _ h=>(by cases h),?_⟩;push_cast;replace ar:GE (if n<a' then t' else (j:Int)+1)=GE t:=ar;cases hh:Es (.low a' t') n with
    | true=>
     rw[if_pos (of_decide_eq_true hh)] at ar;cases ar;rw[if_pos rfl];push_cast[e1,jg];exact q _ s1
    | false=>
     rw[if_neg (of_decide_eq_false hh)] at ar;cases ar;rw[if_neg δ];subst hk;push_cast;exact q _ s1
   | msk lo wd bits t'=>
    obtain⟨pe,rfl,ee⟩:=hv2 _ _ rfl;replace ar:(if 0<=n-lo/\n-lo<wd then GE (if bitAt bits (n-lo)=true then t' else (j:Int)+1) else GT)=GE t:=ar;have ie:0<=n-lo/\n-lo<wd:=by
     cases Decidable.em (0<=n-lo/\n-lo<wd) with
     | inl z=>exact z
     | inr z=>rw[if_neg z] at ar;cases ar
    rw[if_pos ie] at ar;push_cast[ee];rw[if_pos (show lo<=n by omega),decide_eq_true (show n<=lo+wd-1 by omega),EO,if_neg δ];subst hk;refine aK λk hk=>?_;push_cast[e1,jg,rdW];subst hk;refine aK λk hk=>?_;push_cast;refine⟨.ref a,_,n,rfl,L9,rfl,rfl,λ_ _ _ _ h=>(by cases h;exact ie.1),?_⟩;push_cast;cases hh:Es (.msk lo wd bits t') n with
    | true=>
     rw[if_pos (show bitAt bits (n-lo)=true from hh)] at ar;cases ar;rw[if_pos rfl];push_cast[e1,jg];exact q _ s1
    | false=>
     rw[if_neg (by rw[show bitAt bits (n-lo)=false from hh];decide)] at ar;cases ar;rw[if_neg δ];subst hk;push_cast;exact q _ s1
   | tab lo gs=>
    obtain⟨pe,rfl,ee⟩:=hv2 _ _ rfl;have wt:=s1 _ _ (eg _ _ Z);replace ar:(if 0<=n-lo/\n-lo<gs.length then gs[(n-lo).toNat]? else GT)=GE t:=ar;have ie:0<=n-lo/\n-lo<gs.length:=by
     cases Decidable.em (0<=n-lo/\n-lo<gs.length) with
     | inl z=>exact z
     | inr z=>rw[if_neg z] at ar;cases ar
    rw[if_pos ie] at ar;have uv:atI (gs.map As) (n-lo)=GE (As t):=by
     have h3:(gs.map As)[(n-lo).toNat]?=GE (As t):=by rw[AZ,ar];rfl
     have h4:=bO h3;rw[show(((n-lo).toNat:Nat):Int)=n-lo by omega] at h4;exact h4
    push_cast[ee];rw[if_pos (show lo<=n by omega),decide_eq_true (show n<=lo+gs.length-1 by omega),EO,if_neg δ];subst hk;refine aK λk hk=>?_;push_cast[e1,jg,rdW,wt,uv];exact q _ s1
   | pik l=>cases hp
  refine⟨x,c,rfl,rx,λhn=>?_,λlo hi hn p hp=>?_⟩
  ·exact rest .non H (Same.refl _) (λ_=>rfl) (λlo hi z=>by rw[hn] at z;cases z)
  exact rest (.ref p) _ (aB hp) (λz=>by rw[hn] at z;cases z) (λlo' l7 z=>by rw[hn] at z;cases z;exact⟨p,rfl,au⟩)
theorem aeh(hB:∀x:Str,x∈BLs->mg x=GT)(CRowBehind:Cal P w K mg base "row_behind" 2 q20_ G6)(F:Fun K "run" "run" Lh f fd):cT P w K mg base CX0 3 f fd ["rows","number"] (acU true):=by
 refine F.okz Ru λap A outer s H vs Q E hr h=>?_;obtain⟨l,ok,cs,n,rfl,tr,du,ic,q⟩:=h;refine⟨_,(aD (bF wC Ru.nd aq Z (.inl Z))
  (aD (bF Pg Ru.nd (bV (ak (ao wC) aA)) Z (.inl Z))
  (aD (pX BB (aV (nP hr.aZ) (aH aP (aH aP (ao Ph) (ao wC) (λ_ _=>rfl)) aq (λ_ _=>rfl)) bf (aM _)) (aD (bF wC Ru.nd (bA CRowBehind (hr.mono δ) EY Nq (ak (ao Ph) (ak (ao wC) (ak (ao aeo) aA)))) Z (.inl Z))
  (aJ (fj (jF (ao Pg) (ao wC))))))
  (aJ (aQ (bG (ak (aH aP (aH aP (ao Ph) (ao wC) (λ_ _=>rfl)) aq (λ_ _=>rfl)) (ak (ao Pg) aA)))))))),?_⟩
 obtain⟨lab,ic⟩:=ic rfl;have w4:=tr;cases tr with
 | lst o el zl gT=>
  rename_i xs;have bv:=gT.length;rw[AI] at bv;refine aK λk hk=>?_;push_cast;subst hk;refine aK λk hk=>?_;push_cast;refine⟨aR δ,λld hld=>?_⟩;have s0:=aB (o:=AT [As 0]) hld;have e0:upd H ld (AT [As 0]) ld=_:=au;generalize upd H ld (AT [As 0])=H0 at s0 e0 |-;subst hk;refine aK λk hk=>?_;obtain⟨Pv,ag⟩:∃Pv:L2.St->Hp->Prop,Pv=λσ H'=>∃(pre:List Int)(j kf:Nat),Same H H'/\H' ld=GE (.lst ((pre++[(j:Int)]).map As))/\pre.length<=j/\j<cs.length/\cs.length<=j+kf/\runOf cs n=((runC cs n kf j).1,pre++(runC cs n kf j).2)/\σ=[GE (.ref l),GE (.int n),GE (.int (j:Int)),GE (.ref ld)]:=⟨_,rfl⟩;refine aas Pv (μRun cs.length) (by rw[ag];exact⟨[],0,cs.length,s0,e0,AW _,du.1,ω,rfl,rfl⟩) ?_;intro σ H1 pv;rw[ag] at pv;obtain⟨pre,j,kf,s1,e1,VS,hj,hkf,cE,rfl⟩:=pv;have hc:cs[j]?=GE cs[j]:=AC hj;have eP:=s1 _ _ el;obtain⟨x,hx,rx⟩:=(gT.same s1).row hc;have fi:=bO hx;have Zs:=rx;obtain⟨a,g,rfl,e,eg⟩:=rx;obtain⟨kf,rfl⟩:∃k',kf=k'+1:=⟨kf-1,ω⟩;generalize zw:cs[j]=c at hc Zs e eg;cases hp:fJ c with
  | true=>
   cases c with
   | pik lb=>
    have c8:=lK (n:=n) (k:=kf) (a:=(j:Int)) (l:=lb) (by rw[B3];exact hc);rw[c8] at cE;push_cast[eP,fi,e,jg,rdW];subst hk;push_cast[eP,fi,e,jg,rdW];refine⟨aR δ,λt ht=>?_⟩;have st:=aB (o:=By [As lb,AS ld]) ht;refine q t ld _ (s1.trans st) (s1.none ht) hld (aF e1 ht).symm ?_ ?_ ?_
    ·rw[cE];exact au
    ·rw[cE];exact st _ _ e1
    rw[cE,AN,AQ];omega
   | _=>cases hp
  | false=>
   push_cast[eP,fi,e];refine⟨_,yc c g,?_⟩;push_cast;rw[decide_eq_false (Kv hp),D4,if_pos rfl];refine⟨λσ' H'=>Pv σ' H'/\μRun cs.length σ'<cs.length-j,λσ' H' h=>⟨_,h.2,rfl,h.1⟩,?_⟩;have cp:cs[((j:Nat):Int).toNat]?=GE c:=by rw[B3];exact hc
   cases ar:dG c (j:Int) n with
   | none=>
    rw[xY cp hp ar] at cE;rw[cE] at ic;cases ic
   | some t=>
    have hb:=pP du hc ar;obtain⟨tn,rfl⟩:=ES (show 0<=t by omega);rw[uH cp hp ar] at cE;refine⟨l,ok,cs,j,n,c,_,rfl,w4.same s1,du,hc,hp,ar,λH2 s2=>?_⟩;have e2:=s2 _ _ e1;push_cast[e2];refine⟨CM (show((pre++[(j:Int)]).map As).length<=1000000 by rw[AI,AN,AQ];omega) δ,?_,by show cs.length-((tn:Nat):Int).toNat<cs.length-j;omega⟩;rw[ag];refine⟨pre++[(j:Int)],tn,kf,cD (s1.trans s2) hld,?_,by rw[AN,AQ];omega,ω,ω,?_,rfl⟩
    ·rw[au,BH (l₁:=pre++[(j:Int)])];rfl
    rw[cE,CS];rfl
end
abbrev Ks:List Str:=["_law_found","_law_due"]
abbrev jf:Stmt:=top 49
theorem aaQ:bx Ks q10_ (aj jf):=⟨rfl,rfl,rfl,ψ,rfl,ψ,ψ⟩
theorem gK:NM_ Ks jf 0 "_law_found":=.of ψ
theorem gb:NM_ Ks jf 1 "_law_due":=.of ψ
theorem Qf:GI_ jf "all":=ψ
theorem uc:GI_ jf "bool":=ψ
theorem Qe:GI_ jf "int":=ψ
theorem bI:GI_ jf "isinstance":=ψ
theorem Ey:GI_ jf "len":=ψ
theorem tZ:GI_ jf "list":=ψ
theorem wQ:GI_ jf "str":=ψ
theorem qU:GI_ jf "tuple":=ψ
theorem Qd:GI_ jf "zip":=ψ
theorem S6:Bn "_law_same" := ⟨ψ,ψ⟩
def uF(n:Nat):Sp:=λvs H Q _=>∃i:Int,vs=[.int i,.int i]/\0<n/\∀H',Same H H'->Q (.bl true) H'
section
variable{bs:List Str}
theorem abR(hB:∀x:Str,x∈BLs->mg x=GT)(CZSame:Cal P w K mg base "_law_same" n q10_ (uF n))(F:Fun K "_law_same" "_law_same" jf f fd):cT P w K mg base CX0 (n+1) f fd q10_ (uF (n+1)):=by
 refine F.okz aaQ λap A outer s H vs Q E hr h=>?_;obtain⟨i,rfl,_,q⟩:=h;refine⟨_,(aD (bH (mC (bJ VJ bI (hB "isinstance" bM) Cc bN (ak (ao gb) (ak (bG (ak (mL "list" tZ (hB "list" uY) boot_list Kh) (ak (mL "tuple" qU (hB "tuple" tR) boot_tuple uq) aA))) aA))) (λ_=>rfl)) (aD (bH (pW (yd (aV (nP hr.aZ) (bJ dz bI (hB "isinstance" bM) Cc bN (ak (ao gK) (ak (mL "list" tZ (hB "list" uY) boot_list Kh) aA))) (bJ dz bI (hB "isinstance" bM) Cc bN (ak (ao gb) (ak (mL "list" tZ (hB "list" uY) boot_list Kh) aA))) (aM _)) (qH (aV (nP hr.aZ) (bJ dz bI (hB "isinstance" bM) Cc bN (ak (ao gK) (ak (mL "tuple" qU (hB "tuple" tR) boot_tuple uq) aA))) (bJ dz bI (hB "isinstance" bM) Cc bN (ak (ao gb) (ak (mL "tuple" qU (hB "tuple" tR) boot_tuple uq) aA))) (aM _))))) (aJ (aQ jY)) bB)
  (aD (bH (aV (nP hr.aZ) (bJ bD Ey (hB "len" cM) Be cN (ak (ao gK) aA)) (bJ bD Ey (hB "len" cM) Be cN (ak (ao gb) aA)) (aM _)) (aJ (aQ jY)) bB)
  (aJ (aQ (bJ (Iu Z) Qf (hB "all" YX) PyProof.Rows.Boot.«all» Z4 (ak (jE (NX:=Ks) (kX:=(aj jf).names) ["_law_one","_law_other"] [GT,GT] Z Z ⟨rfl,ψ,ψ,ψ,ψ⟩ Z (XJ Qd (hB "zip" YW) (ak (ao gK) (ak (ao gb) aA))) (λ_ _ _ _ _=>(cV (n:=2) Z (aU (cU 0 (show B8 (["_law_one","_law_other"]:List Str) from by decide +kernel) Z (D8 Z)) (aU (cU 1 (show B8 (["_law_one","_law_other"]:List Str) from by decide +kernel) Z (D8 Z)) cB)))) (λ_ _ _ _ _=>qL) (λ_ _ _ _ _=>(bA CZSame (hr.mono ω) Z S6 (ak (cg 0) (ak (cg 1) aA))))) aA)))))) bB)
  (aD (bH (pW (yd (aV Yr (ao gb) pC (aM _)) (qH (mC (bJ dz bI (hB "isinstance" bM) Cc bN (ak (ao gb) (ak (mL "str" wQ (hB "str" Py) boot_str Qt) aA))) (λ_=>rfl))))) (aJ (aQ (qJ (dX (bC hr.aZ) (ao gK) (ao gb) (aM _)) (rZ (dX (bC hr.aZ) (bJ dz bI (hB "isinstance" bM) Cc bN (ak (ao gK) (ak (mL "str" wQ (hB "str" Py) boot_str Qt) aA))) (bJ dz bI (hB "isinstance" bM) Cc bN (ak (ao gb) (ak (mL "str" wQ (hB "str" Py) boot_str Qt) aA))) (aM _)))))) bB)
  (aD (bH (mC (bJ dz bI (hB "isinstance" bM) Cc bN (ak (ao gb) (ak (mL "bool" uc (hB "bool" Ci) boot_bool Cr) aA))) (λ_=>rfl)) (aJ (aQ (qJ (bJ dz bI (hB "isinstance" bM) Cc bN (ak (ao gK) (ak (mL "bool" uc (hB "bool" Ci) boot_bool Cr) aA))) (rZ (dX (bC hr.aZ) (ao gK) (ao gb) (aM _)))))) bB)
  (aJ (aQ (qJ (bJ dz bI (hB "isinstance" bM) Cc bN (ak (ao gK) (ak (mL "int" Qe (hB "int" Em) boot_int Fy) aA))) (qJ (XQ (bJ dz bI (hB "isinstance" bM) Cc bN (ak (ao gK) (ak (mL "bool" uc (hB "bool" Ci) boot_bool Cr) aA)))) (rZ (dX (bC hr.aZ) (ao gK) (ao gb) (aM _)))))))))),?_⟩
 refine aK λk hk=>?_;push_cast;refine⟨aR δ,λt ht=>?_⟩;subst hk;refine aK λk hk=>?_;push_cast;subst hk;refine aK λk hk=>?_;push_cast;subst hk;push_cast;exact q _ (aB ht)
theorem same_none:cT P w K mg base CX0 0 f fd q10_ (uF 0):=by
 have no:∀vs H Q E,¬uF 0 vs H Q E:=λvs H Q E h=>by
  obtain⟨_,_,h1,_⟩:=h;omega
 exact⟨λvs H Q E h=>absurd h (no vs H Q E),λA outer s H args us vs Q E _ _ _ _ h=>absurd h (no vs H Q E)⟩
abbrev dh:List Str:=["_law_stretches_here","_law_plans","_law_halves","_law_k","_law_labels","_law_masks","_law_label"]
abbrev bR:Stmt:=top 52
theorem cW:bx dh q22_ (aj bR):=⟨rfl,rfl,rfl,ψ,rfl,ψ,ψ⟩
theorem jL:NM_ dh bR 0 "_law_stretches_here":=.of ψ
theorem sX:NM_ dh bR 1 "_law_plans":=.of ψ
theorem jK:NM_ dh bR 2 "_law_halves":=.of ψ
theorem nW:NM_ dh bR 3 "_law_k":=.of ψ
theorem nU:NM_ dh bR 4 "_law_labels":=.of ψ
theorem jJ:NM_ dh bR 5 "_law_masks":=.of ψ
theorem sW:NM_ dh bR 6 "_law_label":=.of ψ
theorem zZ:GI_ bR "len":=ψ
theorem wW:GI_ bR "range":=ψ
theorem zY:GI_ bR "set":=ψ
theorem vy:GI_ bR "sorted":=ψ
theorem Gy:Bn "_law_plain_plans" := ⟨ψ,ψ⟩
theorem Uv(hB:∀x:Str,x∈BLs->mg x=GT)(CIsPlan:Cal P w K mg base "is_plan" 4 q24_ K3)(F:Fun K "_law_plain_plans" "_law_plain_plans" bR f fd):cT P w K mg base CX0 5 f fd q22_ KZ:=by
 refine F.okz cW λap A outer s H vs Q E hr h=>?_;obtain⟨s,ok,ss,rfl,hn,ts,h0,gI,q⟩:=h;refine⟨_,(aD (bF sX cW.nd (bV (ak (bG (ak bf aA)) aA)) Z (.inl Z))
  (aD (bF jK cW.nd (bG (ak bf (ak (aH aP (aH aP (ao jL) aq (λ_ _=>rfl)) aq (λ_ _=>rfl)) aA))) Z (.inl Z))
  (aD (fG BB Z (Ud wW (hB "range" lU) (ak aq (ak (bJ bD zZ (hB "len" cM) Be cN (ak (ao jL) aA)) aA))) (bK nW cW.nd (.inl Z))
  (aJ (bF jK cW.nd (bG (ak bf (ak (ao nW) (ak (ao jK) (ak (bG (ak bf (ak (aH aP (aH aP (ao jL) (ao nW) (λ_ _=>rfl)) aq (λ_ _=>rfl)) aA))) aA))))) Z (.inl Z))) (λ_=>rfl))
  (aD (bF nU cW.nd (aa9 Z vy (hB "sorted" HY) zY (hB "set" aeu) (ak (jE (NX:=dh) (kX:=(aj bR).names) ["_law_low","_law_high","_law_label"] [GT,GT,GT] Z Z ⟨rfl,ψ,ψ,ψ,ψ⟩ Z (cQ (ao jL)) (λ_ _ _ _ _=>(cV (n:=3) Z (aU (cU 0 (show B8 (["_law_low","_law_high","_law_label"]:List Str) from by decide +kernel) Z (D8 Z)) (aU (cU 1 (show B8 (["_law_low","_law_high","_law_label"]:List Str) from by decide +kernel) Z (D8 Z)) (aU (cU 2 (show B8 (["_law_low","_law_high","_law_label"]:List Str) from by decide +kernel) Z (D8 Z)) cB))))) (λ_ _ _ _ _=>qL) (λ_ _ _ _ _=>(cg 2))) aA)) Z (.inl Z))
  (aD (bF jJ cW.nd (bG (ak bf (ak (aH aP (ao nU) (jX fM aq) (λ_ _=>rfl)) aA))) Z (.inl Z))
  (aD (fG BB Z (cQ (abb (lN K4 (ao nU) qI (mU (jX fM aq))))) (bK sW cW.nd (.inl Z))
  (aJ (bF jJ cW.nd (bG (ak bf (ak (ao sW) (ak (ao jJ) aA)))) Z (.inl Z))) (λ_=>rfl))
  (aJ (aQ (jE (NX:=dh) (kX:=(aj bR).names) ["_law_plan_here","_law_stretches_here"] [GT,GE 0] Z Z ⟨rfl,ψ,ψ,ψ,ψ⟩ Z (cQ (aX bw (ao sX) (bV (ak (ao jK) (ak (ao jJ) aA))))) (λ_ _ _ _ _=>(cU 0 (show B8 (["_law_plan_here","_law_stretches_here"]:List Str) from by decide +kernel) Z (D8 Z))) (λ_ _ _ _ _=>(qK (mC (bA CIsPlan (hr.mono δ) Z aad (ak (cg 1) (ak (cg 0) aA))) (λ_=>rfl)))) (λ_ _ _ _ _=>(cg 0))))))))))),?_⟩
 have oo:=ts;obtain⟨sa,xs,rfl,os,es,zs,bj⟩:=Wo ts;have bv:=bj.length;rw[AI] at bv;refine aK λk hk=>?_;push_cast;refine⟨aR δ,λt ht=>⟨aR δ,λd hd=>?_⟩⟩;have s1:=(aB (o:=By [At "table"]) ht).trans (aB (o:=AT [AS t]) hd);have et:=(aB (o:=AT [AS t]) hd) _ _ (show upd H t (By [At "table"]) t=_ from au);have ot:=hn.new ht;have ed:upd (upd H t (By [At "table"])) d (AT [AS t]) d=_:=au;generalize upd (upd H t (By [At "table"])) d (AT [AS t])=H1 at s1 et ed |-;subst hk;refine aK λk hk=>?_;obtain⟨p0,x0,y0⟩:=bj.stN h0;replace x0:atI xs 0=GE (.ref p0):=x0;have bq:=s1 _ _ es;have To:=s1 _ _ y0;push_cast[bq,x0,To];refine⟨aR δ,λt2 ht2=>?_⟩;have u2:=aB (o:=By [At "pick",As (aO ss 0).2.2]) ht2;have e2:upd H1 t2 (By [At "pick",As (aO ss 0).2.2]) t2=_:=au;have s2:=s1.trans u2;have o2:=hn.new (s1.none ht2);have qk:=u2 _ _ et;have fF:=u2 _ _ ed;generalize upd H1 t2 (By [At "pick",As (aO ss 0).2.2])=H2 at s2 e2 qk fF |-;clear u2 et ed s1 bq To y0;subst hk;refine aK λk hk=>?_;refine jr λR hR=>?_;have iE:=s2 _ _ es;push_cast[Zi,iE];refine⟨⟨δ,δ,ω,ω⟩,?_⟩;obtain⟨Pv,ag⟩:∃Pv:Nat->L2.St->Hp->Prop,Pv=λ(i:Nat) σ H'=>∃(m:Pl)(mv:V)(o3:Option V),Same H2 H'/\aG ok H' mv (plD m)/\aW m<=2*i+1/\σ=[GE (.ref sa),GE (.ref d),GE mv,o3,GT,GT,GT]:=⟨_,rfl⟩;refine Zu hR Pv (by rw[ag];exact⟨.pick _,_,_,Same.refl _,.tup o2 e2 (by show 2<=1000000;decide) (.cons (.str _) (.cons (.int _) .nil)),AW _,rfl⟩) ?_ ?_
 ·intro i σ H3 hi pv;rw[ag] at pv;obtain⟨m,mv,o3,s3,tm,hs,rfl⟩:=pv;have hj:i+1<ss.length:=ω;obtain⟨p1,x1,y1⟩:=bj.stN hj;have kB:=s3 _ _ iE;have YE:=s3 _ _ (s2 _ _ y1);replace x1:atI xs (1+(i:Int))=GE (.ref p1):=by rw[show(1+(i:Int))=((i+1:Nat):Int) by omega];exact x1
  push_cast[kB,x1,YE];refine⟨aR δ,λt4 ht4=>⟨aR δ,λt5 ht5=>?_⟩⟩;have u4:=aB (o:=By [At "pick",As (aO ss (i+1)).2.2]) ht4;have e4:upd H3 t4 (By [At "pick",As (aO ss (i+1)).2.2]) t4=_:=au;have o4:=hn.new ((s2.trans s3).none ht4);generalize upd H3 t4 (By [At "pick",As (aO ss (i+1)).2.2])=H4 at u4 e4 ht5 |-;have u5:=aB (o:=By [At "below",As (1+(i:Int)),mv,AS t4]) ht5;rw[ag];refine⟨.low (i+1) m (.pick (aO ss (i+1)).2.2),_,_,s3.trans (u4.trans u5),?_,?_,rfl⟩
  ·show aG ok _ _ (.tuple [.str "below",.int ((i+1:Nat):Int),plD m,plD (.pick (aO ss (i+1)).2.2)]);rw[show(1+(i:Int))=((i+1:Nat):Int) by omega];refine .tup (hn.new ((s2.trans (s3.trans u4)).none ht5)) au (by show 4<=1000000;decide) (.cons (.str _) (.cons (.int _) (.cons (tm.same (u4.trans ?_)) (.cons (.tup o4 ?_ (by show 2<=1000000;decide) (.cons (.str _) (.cons (.int _) .nil))) .nil))))
   ·exact aB ht5
   exact(aB ht5) _ _ e4
  show aW m+1+1<=2*(i+1)+1;omega
 intro σ H3 pv;rw[ag] at pv;obtain⟨hv,kz,o3,s3,th,hs,rfl⟩:=pv;clear hR Pv ag;have kB:=s3 _ _ iE;show k _ _;subst hk;refine aK λk hk=>?_;push_cast[tSS];refine iH λR hR=>?_;push_cast[kB];obtain⟨Pc,bp⟩:∃Pv:Nat->List V->L2.St->Hp->Prop,Pv=λ(i:Nat) ac τ H'=>∃(us:List Int)(o1 o2 o3:Option V),H'=H3/\ac=us.map As/\us.length=i/\τ=[o1,o2,o3]:=⟨_,rfl⟩;refine Ag hR (xs:=xs) (aR zs) Pc (by rw[bp];exact⟨[],_,_,_,rfl,rfl,rfl,rfl⟩) ?_ ?_ ?_ ?_
 ·intro i9 ac τ H10 pc;rw[bp] at pc;obtain⟨us,o1,o2,o3,rfl,rfl,oS,rfl⟩:=pc;rw[AI];omega
 ·intro i9 ac τ H10 pc;rw[bp] at pc;obtain⟨us,o1,o2,o3,rfl,rfl,oS,rfl⟩:=pc;exact SqL.of kB
 ·intro i9 x ac τ H10 hx pc;rw[bp] at pc;obtain⟨us,o1,o2,o3,rfl,rfl,oS,rfl⟩:=pc;obtain⟨a,st,rfl,oa,_,ea⟩:=(bj.same (s2.trans s3)).st hx;push_cast[ea];rw[bp];exact⟨us++[st.2.2],_,_,_,rfl,by simp,by simp[oS],rfl⟩
 intro ac τ H10 d9 pc hd9;rw[bp] at pc;obtain⟨us,o1,o2,o4,rfl,rfl,oS,rfl⟩:=pc;have u9:=aB (o:=AT (us.map As)) hd9;have e9:upd H10 d9 (AT (us.map As)) d9=_:=au;have s9:=u9;have ox:=s2.trans s3;generalize upd H10 d9 (AT (us.map As))=H9 at u9 s9 e9 |-;push_cast;refine⟨us,SqL.of e9,ω,λpR ys hpR dy _=>?_⟩;have nh:=dy.length_eq;have kU:=SRT.Ke us;have hyp:0<ys.length:=by
  rw[nh];cases hu:us with
  | nil=>rw[hu] at oS;simp at oS;omega
  | cons u r=>exact HH (SRT.acD.mpr (AJ ..))
 have cS:=s9.trans (aB (o:=AT (ys.map As)) hpR);have vi:upd H9 pR (AT (ys.map As)) pR=_:=au;generalize upd H9 pR (AT (ys.map As))=H11 at cS vi |-;clear hR Pc bp u9 e9 s9;obtain⟨ya,yb,rfl⟩:=kJ ys hyp;have hyal:ya.length<=60:=by rw[AN,AQ] at nh;omega
 subst hk;refine aK λk hk=>?_;have fi:atI ((ya++[yb]).map As) (-1)=GE (As yb):=by rw[BH];exact aaf _ _
 push_cast[vi,fi];refine⟨aR δ,λpm hpm=>?_⟩;have NM:=aB (o:=By [At "pick",As yb]) hpm;have ca:=cS.trans NM;have gi:upd H11 pm (By [At "pick",As yb]) pm=_:=au;have om:=hn.new ((ox.trans cS).none hpm);have vi:=NM _ _ vi;generalize upd H11 pm (By [At "pick",As yb])=H12 at ca gi vi |-;clear NM cS;subst hk;refine aK λk hk=>?_;refine jr λR hR=>?_;push_cast[aaC,vi];intro pc hpc;rw[ZQ];have me:upd H12 pc (AT ((ya++[yb]).map As).dropLast) pc=GE (.lst (ya.map As)):=by rw[au,BH];simp
 have NL:=aB (o:=AT ((ya++[yb]).map As).dropLast) hpc;have de:=ca.trans NL;have gi:=NL _ _ gi;generalize upd H12 pc (AT ((ya++[yb]).map As).dropLast)=H13 at de gi me |-;clear NL ca;push_cast[aaU,me,aaT];intro pd hpd;have NJ:=aB (o:=AT (ya.map As).reverse) hpd;have lI:upd H13 pd (AT (ya.map As).reverse) pd=GE (.lst (ya.map As).reverse):=au;have eQ:=de.trans NJ;have gi:=NJ _ _ gi;generalize upd H13 pd (AT (ya.map As).reverse)=H14 at eQ gi lI |-;clear NJ de me;push_cast[lI];obtain⟨Pv,ag⟩:∃Pv:Nat->L2.St->Hp->Prop,Pv=λ(i:Nat) σ H'=>∃(m:Pl)(mv:V)(Mk:Option V),Same H14 H'/\aG ok H' mv (plD m)/\aW m<=i+1/\σ=[GE (.ref sa),GE (.ref d),GE kz,o3,GE (.ref pR),GE mv,Mk]:=⟨_,rfl⟩;refine wg hR (xs:=(ya.map As).reverse) Pv (by rw[ag];exact⟨.pick yb,_,_,Same.refl _,.tup om gi (by show 2<=1000000;decide) (.cons (.str _) (.cons (.int _) .nil)),AW _,rfl⟩) (λi σ H' _ pv=>?_) ?_ ?_
 ·rw[ag] at pv;obtain⟨_,_,_,s',_⟩:=pv;exact SqL.of (s' _ _ lI)
 ·intro i x σ H5 hx pv;rw[ag] at pv;obtain⟨m,mv,Mk,s5,tm,hs,rfl⟩:=pv;obtain⟨l,_,rfl⟩:=C8.mp (List.mem_reverse.mp (AU hx));push_cast;refine⟨aR δ,λt ht=>?_⟩;rw[ag];refine⟨.msk l m,_,_,s5.trans (aB ht),.tup (hn.new ((ox.trans (eQ.trans s5)).none ht)) au (by show 3<=1000000;decide) (.cons (.str _) (.cons (.int _) (.cons (tm.same (aB ht)) .nil))),?_,rfl⟩;show aW m+1<=_;omega
 intro σ H5 pv;rw[ag] at pv;obtain⟨m,mv,Mk,s5,tm,hsm,rfl⟩:=pv;rw[JO,AI] at hsm;have lS:=eQ.trans s5;have th:=th.same lS;have gN:=lS _ _ (s3 _ _ fF);have Nd:=lS _ _ (s3 _ _ qk);clear hR Pv ag lI gi vi;show k _ _;subst hk;push_cast;refine iH λR hR=>?_;push_cast[gN];refine⟨aR δ,λOU h16=>?_⟩;have vk:=aB (o:=AT [kz,mv]) h16;have lx:upd H5 OU (AT [kz,mv]) OU=_:=au;have LS:=vk _ _ gN;have KP:=vk _ _ Nd;have xh:=th.same vk;have xf:=tm.same vk;have ko:=lS.trans vk;generalize upd H5 OU (AT [kz,mv])=H16 at vk lx LS KP xh xf ko |-;push_cast[LS];refine⟨aR δ,λMd h17=>?_⟩;have ww:=aB (o:=AT [AS t,kz,mv]) h17;have LV:upd H16 Md (AT [AS t,kz,mv]) Md=_:=au;have gu:=ko.trans ww;have cq:∀x∈[AS t,kz,mv],∃pl,aG ok (upd H16 Md (AT [AS t,kz,mv])) x (plD pl)/\aW pl<=130:=by
  intro x hx;rcases AL.mp hx with rfl|hx
  ·exact⟨.tab,.tup ot (ww _ _ KP) (by show 1<=1000000;decide) (.cons (.str _) .nil),by show 1<=130;decide⟩
  rcases AL.mp hx with rfl|hx
  ·exact⟨hv,xh.same ww,ω⟩
  rw[AA.mp hx];exact⟨m,xf.same ww,ω⟩
 generalize upd H16 Md (AT [AS t,kz,mv])=H17 at ww LV gu cq |-;obtain⟨Pc,bp⟩:∃Pv:Nat->List V->L2.St->Hp->Prop,Pv=λ(i:Nat) ac τ H'=>∃(ps:List Pl)(o0:Option V),Same H17 H'/\aN ok H17 ac (ps.map plD)/\ac.length<=i/\(∀p∈ps,FP ss p)/\τ=[o0,GE (.ref sa)]:=⟨_,rfl⟩;refine Ag hR (xs:=[AS t,kz,mv]) (aR (by show 3<=1000000;decide)) Pc (by rw[bp];exact⟨[],_,Same.refl _,.nil,AW _,λp h=>absurd h ζ,rfl⟩) ?_ ?_ ?_ ?_
 ·intro i9 ac τ H10 pc;rw[bp] at pc;obtain⟨_,_,_,_,hl,_⟩:=pc;exact hl
 ·intro i9 ac τ H10 pc;rw[bp] at pc;obtain⟨_,_,s',_⟩:=pc;exact SqL.of (s' _ _ LV)
 ·intro i9 x ac τ H10 hx pc;rw[bp] at pc;obtain⟨ps,o0,sh,ta,hl,hg,rfl⟩:=pc;obtain⟨pl,tx,hsz⟩:=cq x (AU hx);push_cast;have xz:=(s2.trans s3).trans (gu.trans sh);refine⟨_,_,ok,ss,pl,rfl,hn.same xz,oo.same xz,tx.same sh,h0,ω,ω,λH19 s19=>?_⟩;refine⟨_,rfl,?_⟩;split
  ·rename_i c;rw[bp];refine⟨ps++[pl],_,sh.trans s19,?_,by rw[AN,AQ];omega,λp hp=>?_,rfl⟩
   ·rw[BH];exact ta.append (.cons tx .nil)
   rcases BA.mp hp with hp|hp
   ·exact hg p hp
   rw[AA.mp hp];exact⟨abZ pl _ (Lj h0) c,hsz⟩
  rw[bp];exact⟨ps,_,sh.trans s19,ta,ω,hg,rfl⟩
 intro ac τ H10 d9 pc hd9;rw[bp] at pc;obtain⟨ps,o0,sh,ta,hl,hg,rfl⟩:=pc;have Tu:=aB (o:=AT ac) hd9;have br:=ta.length;rw[AI] at br;replace hl:ac.length<=3:=hl;exact q d9 ac ps _ ((s2.trans s3).trans ((gu.trans sh).trans Tu)) au (ta.same (sh.trans Tu)) ω hg
abbrev bQ:List Str:=["_law_tape_here","_law_stretches_here","_law_plan_here","_law_rows","_law_low","_law_high","_law_place","_law_begin","_law_end","_law_label","_law_many_here","_law_number","_law_found","_law_lasts","_law_at","_law_other"]
abbrev aY:Stmt:=top 53
theorem cA:bx bQ q2_ (aj aY):=⟨rfl,rfl,rfl,ψ,rfl,ψ,ψ⟩
theorem vX:NM_ bQ aY 0 "_law_tape_here":=.of ψ
theorem eU:NM_ bQ aY 1 "_law_stretches_here":=.of ψ
theorem vW:NM_ bQ aY 2 "_law_plan_here":=.of ψ
theorem c7:NM_ bQ aY 3 "_law_rows":=.of ψ
theorem vV:NM_ bQ aY 4 "_law_low":=.of ψ
theorem vU:NM_ bQ aY 5 "_law_high":=.of ψ
theorem vR:NM_ bQ aY 6 "_law_place":=.of ψ
theorem vQ:NM_ bQ aY 7 "_law_begin":=.of ψ
theorem vP:NM_ bQ aY 8 "_law_end":=.of ψ
theorem vO:NM_ bQ aY 9 "_law_label":=.of ψ
theorem sU:NM_ bQ aY 10 "_law_many_here":=.of ψ
theorem sS:NM_ bQ aY 11 "_law_number":=.of ψ
theorem nR:NM_ bQ aY 12 "_law_found":=.of ψ
theorem nQ:NM_ bQ aY 13 "_law_lasts":=.of ψ
theorem gM:NM_ bQ aY 14 "_law_at":=.of ψ
theorem sO:NM_ bQ aY 15 "_law_other":=.of ψ
theorem ud:GI_ aY "_law_numbers":=ψ
theorem yG:GI_ aY "_law_same":=ψ
theorem yF:GI_ aY "_law_take":=ψ
theorem zX:GI_ aY "_law_way":=ψ
theorem uf:GI_ aY "beyond_of":=ψ
theorem wU:GI_ aY "come_to":=ψ
theorem j4:GI_ aY "enumerate":=ψ
theorem jP:GI_ aY "leads_right":=ψ
theorem mH:GI_ aY "len":=ψ
theorem wR:GI_ aY "rows_of":=ψ
theorem Bv:GI_ aY "run":=ψ
theorem Km:Bn "_law_rows_right" := ⟨ψ,ψ⟩
theorem Ut(hB:∀x:Str,x∈BLs->mg x=GT)(CZTake:Cal P w K mg base "_law_take" 2 q0_ (qz 2))(CRowsOf:Cal P w K mg base "rows_of" 4 q9_ KR)(CLeadsRight:Cal P w K mg base "leads_right" 4 q25_ Ri)(CBeyondOf:Cal P w K mg base "beyond_of" 4 q4_ W7)
  (CZWay:Cal P w K mg base "_law_way" 1 q5_ acT)(CZNumbers:Cal P w K mg base "_law_numbers" 3 q8_ G5)(CRun:Cal P w K mg base "run" 3 ["rows","number"] (acU true))(CZSame:Cal P w K mg base "_law_same" 1 q10_ (uF 1))(CComeTo:Cal P w K mg base "come_to" 3 q4_ Jp)
  (F:Fun K "_law_rows_right" "_law_rows_right" aY f fd):cT P w K mg base CX0 5 f fd q2_ KY:=by
 refine F.okz cA λap A outer s H vs Q E hr h=>?_;obtain⟨p,s,v,B,ss,pl,rfl,tp,IF,M',ts,tv,h0,gI,cf,un,⟨pv,hsz⟩,q⟩:=h;refine⟨_,(aD (bF c7 cA.nd (bA CRowsOf (hr.mono δ) wR Z8 (ak (ao eU) (ak (ao vW) aA))) Z (.inl Z))
  (aD (adF (i:=4) (j:=5) Z cA.nd Z Z δ Z Z (ak (aH aP (aH aP (ao eU) aq (λ_ _=>rfl)) aq (λ_ _=>rfl)) (ak (aH aP (aH aP (ao eU) (jX fM aq) (λ_ _=>rfl)) aq (λ_ _=>rfl)) aA)) (by rfl))
  (aD (bH (pW (yd (aV Yq (bA CLeadsRight (hr.mono δ) jP yU (ak (ao c7) (ak (ao eU) aA))) jY (aM _)) (qH (aV Cd (bA CBeyondOf (hr.mono δ) uf Qx (ak (ao c7) (ak (ao vV) (ak (ao vU) aA)))) pC (aM _))))) (aJ (aQ jY)) bB)
  (aD (fG BB Z (uL j4 (hB "enumerate" fW) (ak (ao eU) aA)) (cV (n:=2) Z (aU (bK vR cA.nd (.inl Z)) (aU (cV (n:=3) Z (aU (bK vQ cA.nd (.inl Z)) (aU (bK vP cA.nd (.inl Z)) (aU (bK vO cA.nd (.inl Z)) cB)))) cB)))
  (aD (bF sU cA.nd (aX bw (bJ bD mH (hB "len" cM) Be cN (ak (bA CZWay (hr.mono δ) zX aeX (ak (ao eU) (ak (ao vW) (ak (ao vR) aA)))) aA)) aq) Z (.inl Z))
  (aJ (fG BB Z (cQ (bA CZNumbers (hr.mono δ) ud Qu (ak (ao vX) (ak (ao vQ) (ak (ao vP) aA))))) (bK sS cA.nd (.inl Z))
  (aD (bF nR cA.nd (bA CRun (hr.mono δ) Bv afN (ak (ao c7) (ak (ao sS) aA))) Z (.inl Z))
  (aJ (bH (pW (yd (rY (mC (bA CZSame (hr.mono δ) yG S6 (ak (aH aP (ao nR) aq (λ_ _=>rfl)) (ak (ao vO) aA))) (λ_=>rfl))) (qH (aV (nP hr.aZ) (bJ bD mH (hB "len" cM) Be cN (ak (aH aP (ao nR) aq (λ_ _=>rfl)) aA)) (ao sU) (aM _))))) (aJ (aQ jY)) bB))) (λ_=>rfl)))) (λ_=>rfl))
  (aD (uJ (NX:=bQ) (kX:=(aj aY).names) ["_law_at","_law_row"] [GT,GT] nQ cA.nd Z Z ⟨rfl,ψ,ψ,ψ,ψ⟩ Z (uL j4 (hB "enumerate" fW) (ak (ao c7) aA)) (λ_ _ _ _ _=>(cV (n:=2) Z (aU (cU 0 (show B8 (["_law_at","_law_row"]:List Str) from by decide +kernel) Z (D8 Z)) (aU (cU 1 (show B8 (["_law_at","_law_row"]:List Str) from by decide +kernel) Z (D8 Z)) cB)))) (λ_ _ _ _ _=>(qK (aV (bC hr.aZ) (aH aP (cg 1) aq (λ_ _=>rfl)) bf (aM _)))) (λ_ _ _ _ _=>(cg 0)))
  (aD (bF gM cA.nd (aH aP (ao nQ) (bA CZTake (hr.mono δ) yF dg (ak (ao vX) (ak (bJ bD mH (hB "len" cM) Be cN (ak (ao nQ) aA)) aA))) (λ_ _=>rfl)) Z (.inl Z))
  (aD (bF sO cA.nd (aX bw (aX bw (lN K4 (ao c7) qI (mU (ao gM))) (bV (ak (bG (ak bf (ak (aX bw (aH aP (aH aP (ao c7) (ao gM) (λ_ _=>rfl)) aq (λ_ _=>rfl)) aq) aA))) aA))) (lN K4 (ao c7) (mU (aX bw (ao gM) aq)) qI)) Z (.inl Z))
  (aJ (aQ (dX (bC hr.aZ) (bA CLeadsRight (hr.mono δ) jP yU (ak (ao sO) (ak (ao eU) aA))) (dX (aeb hr.aZ) (aH aP (bA CComeTo (hr.mono δ) wU Fz (ak (ao c7) (ak (ao vV) (ak (ao vU) aA)))) (ao gM) (λ_ _=>rfl)) (bV aA) (aM _)) (aM _))))))))))),?_⟩
 refine aK λk hk=>?_;push_cast;refine⟨s,v,(·≠p),ss,pl,rfl,tp.newOk,ts,tv,gI,hsz,pv,cf,λlr ys H1 s1 i8 kC N1=>?_⟩;push_cast;subst hk;have nlr:=tp.ne i8;have nh:=N1.length;rw[AI] at nh;have br:=Hg (ss:=ss) (S:=bh ss pl (AK ss.length)) ω pv.steps;rw[gm] at br;have k7:(cJ ss pl).length<=10000:=by
  have:(qM ss pl).length<=60*aW pl:=br;rw[Al];omega
 have Op:aG (·≠p) H1 (.ref lr) (.list ((cJ ss pl).map iB)):=.lst nlr kC ω (N1.keep λa o h e=>⟨h.1,e⟩);obtain⟨_,pj⟩:=Ov cf pv;have MH:=adv cf ω pv;have ZI:=pv;have g0:=fO (ss:=ss) (k:=0) ω;have g1:=fO (ss:=ss) (k:=ss.length-1) ω;have few:=acs cf pv gI g1;have hR:=V6 cf pv;have cE:=λ(k:Nat)(hk:k<ss.length)(n:Int)=>rW cf pv hk (n:=n);have f':=Vb pj (n:=(aO ss 0).1) (lab:=lbl ss 0) (by
  obtain⟨c9,e,_⟩:=cE 0 ω (aO ss 0).1 (Cf _) (cf.lh _ _ g0).1;exact congrArg Prod.fst e)
 have bS:(aO ss 0).1<=(aO ss (ss.length-1)).2.1:=by
  have h2:=(dU cf (D6 (ss.length-1)) ω).2;have h3:=jW cf (i:=0) ω;omega
 have ie:∀n,(aO ss 0).1<=n->n<=(aO ss (ss.length-1)).2.1->∃lab,(runOf (cJ ss pl) n).1=GE lab:=λn h2 h3=>aeJ cf pv ω h2 h3;have on:=ts.same s1;have LZ:=tv.same s1;have iP:=tp.same s1;have am:∀(k:Nat),k<ss.length->∀n,(aO ss k).1<=n->n<=(aO ss k).2.1->(runOf (cJ ss pl) n).1=GE (lbl ss k)/\(runOf (cJ ss pl) n).2.length=(ig ss k pl).length+1:=λk hk n a b=>by
  obtain⟨c9,e,hw⟩:=cE k hk n a b;have e2:runOf (cJ ss pl) n=(GE (lbl ss k),c9):=e;rw[e2];have:=congrArg List.length hw;rw[AI,AN,AI] at this;exact⟨rfl,this⟩
 have P5:∀H':Hp,b7 p H1 H'->b7 p H H':=λH' h=>s1.x.trans h;clear cE N1;generalize cJ ss pl=cs at *;cases on with
 | lst ol el zl bj=>
  rename_i l xs;have bv:=bj.length;rw[AI] at bv;have on:aG (·≠p) H1 (.ref l) (.list (ss.map stD)):=.lst ol el zl bj;obtain⟨p0,x0,y0⟩:=bj.stN (k:=0) ω;obtain⟨p1,x1,y1⟩:=bj.stN (k:=ss.length-1) ω;replace x0:atI xs 0=GE (.ref p0):=x0;have YI:=ae0 bv ω x1;refine aK λk hk=>?_;push_cast[el,x0,YI,y0,y1];generalize hs0:aO ss 0=s0 at *;generalize ht0:aO ss (ss.length-1)=t0 at *;subst hk;refine aK λk hk=>?_;push_cast;refine⟨lr,l,(·≠p),cs,ss,s0,t0,rfl,Op,on,pj,MH,cf,un,gI,g0,g1,few _,λt H2 s2 ht=>?_⟩;obtain rfl:t=true:=ht.mpr hR;push_cast;refine⟨lr,_,cs,s0.1,t0.2.1,rfl,Op.same s2,pj,MH,bS,few _,λv8 H3 o s3 tv8 hbey=>?_⟩;obtain rfl:o=GT:=hbey.one λn j h2 h3 b=>by
   obtain⟨lab,e⟩:=ie n h2 h3;rw[(b.run pj).1] at e;cases e
  cases tv8;push_cast;subst hk;have hV:=s2.trans s3;have rn:=on.same hV;have q0:=LZ.same hV;have iO:=iP.same hV;have xm:=Op.same hV;clear s2 s3 hbey;have gT:=bj.same hV;have gg:=hV _ _ el;refine aK λk hk=>?_;refine jr λR hR'=>?_;push_cast[Bd,gg];refine⟨⟨_,SqL.of gg⟩,?_⟩;obtain⟨Pv,ag⟩:∃Pv:Nat->L2.St->Hp->Prop,Pv=λ(i:Nat) σ H'=>∃(o6 o7 o8 o9 O0 sB sw:Option V),b7 p H3 H'/\cu H' p (B+2*(i:Int))/\σ=[GE (.ref p),GE (.ref l),GE v,GE (.ref lr),GE (.int s0.1),GE (.int t0.2.1),o6,o7,o8,o9,O0,sB,sw,GT,GT,GT]:=⟨_,rfl⟩;refine MT hR' Pv (by rw[ag];exact⟨_,_,_,_,_,_,_,.refl _ _,iO.le ω,rfl⟩) (λi σ H' pv=>by rw[ag] at pv;obtain⟨_,_,_,_,_,_,_,s,_⟩:=pv;exact s _ _ ol gg) ?_ ?_
  ·intro i x σ H4 pa hx pv v3;rw[ag] at pv;obtain⟨o6,o7,o8,o9,O0,sB,sw,s4,fo,rfl⟩:=pv;have li:i<ss.length:=by have:=(AB.mp hx).1;omega
   have s5:=aB (o:=By [.int (i:Nat),x]) v3;have ea:upd H4 pa (.tup [.int (i:Nat),x]) pa=GE (.tup [.int (i:Nat),x]):=au;have fT:=fo.same s5;generalize upd H4 pa (.tup [.int (i:Nat),x])=H5 at s5 ea fT |-;have hU:b7 p H3 H5:=s4.trans s5.x;have TJ:=rn.jk hU;have t5:=gT.keep (ok':=(·≠p)) λa o h e=>⟨h,hU a o h e⟩;obtain⟨ax,z,rfl,oa,hz,ez⟩:=t5.st hx;have ar:aO ss i=z:=by
    have e:=fO li;rw[hz] at e;exact(A0 e).symm
   have YA:=(cf.lh _ _ hz).1;have zbd:=cf.bd _ _ hz;push_cast[ea,ez];refine⟨.ref l,v,i,(·≠p),ss,pl,_,rfl,fT.newOk,TJ,q0.jk hU,ZI.ok,li,ω,λw1 H6 s6 hw1 hw1n ew=>?_⟩;have TH:=TJ.same s6;have io:=fT.same s6;have gr:=hU.trans s6.x;push_cast[ew];rw[AI];refine jr λR2 k9=>?_;push_cast;refine⟨p,z.1,z.2.1,B+2*(i:Int),rfl,io,ω,ω,YA,ω,λla ns H7 s7 dr UQ XO hnl hnb=>?_⟩;push_cast[Er,J3,XO,J2];have dS:=gr.trans s7;obtain⟨Pw,ik⟩:∃Pv:Nat->L2.St->Hp->Prop,Pv=λ(_:Nat) σ H'=>∃(sB sw:Option V),Same H7 H'/\σ=[GE (.ref p),GE (.ref l),GE v,GE (.ref lr),GE (.int s0.1),GE (.int t0.2.1),GE (.int (i:Int)),GE (.int z.1),GE (.int z.2.1),GE (.int z.2.2),GE (.int (((ig ss i pl).length:Int)+1)),sB,sw,GT,GT,GT]:=⟨_,rfl⟩;refine wg k9 Pw (by rw[ik];exact⟨_,_,Same.refl _,rfl⟩) (λi σ H' _ pv=>by rw[ik] at pv;obtain⟨_,_,s,_⟩:=pv;exact SqL.of (s _ _ XO)) ?_ ?_
   ·intro j y σ H8 hy pw;rw[ik] at pw;obtain⟨sB,sw,s8,rfl⟩:=pw;rw[AZ] at hy;obtain⟨n,hn,rfl⟩:=B5.mp hy;obtain⟨a,b⟩:=hnb n (AU hn);rw[<- ar] at a b;obtain⟨e1,e2⟩:=am i li n a b;have r6:=dS.trans s8.x;refine aK λk2 bg=>?_;push_cast;refine⟨lr,(·≠p),cs,n,rfl,xm.jk r6,pj,λ_=>⟨_,e1⟩,λtf ld H9 s9 tfn ldn ntl etf eld kU=>?_⟩;rw[e1] at etf;push_cast;subst bg;push_cast[etf];refine⟨lbl ss i,by unfold lbl;rw[ar];rfl,δ,λH10 c6=>?_⟩;have SB:=c6 _ _ etf;have SY:=c6 _ _ eld;push_cast[SB,SY];rw[AI,e2];push_cast;rw[decide_eq_true ω,EO,if_neg δ,ik];exact⟨_,_,s8.trans (s9.trans c6),rfl⟩
   intro σ H8 pw;rw[ik] at pw;obtain⟨sB,sw,s8,rfl⟩:=pw;show Pv _ _ _;rw[ag];exact⟨_,_,_,_,_,_,_,dS.trans s8.x,(dr.same s8).le ω,rfl⟩
  intro σ H4 pv;rw[ag] at pv;obtain⟨o6,o7,o8,o9,O0,sB,sw,s4,fo,rfl⟩:=pv;show k _ _;subst hk;push_cast;have rS:=xm.jk s4;have rk:=rn.jk s4;cases rS with
  | lst olr dC zlr L0=>
   rename_i rs;have VI:=L0.length;rw[AI] at VI;have rS:aG (·≠p) H4 (.ref lr) (.list (cs.map iB)):=.lst olr dC zlr L0;refine iH λR k9=>?_;push_cast[Bd,dC];refine⟨⟨_,SqL.of dC⟩,?_⟩;obtain⟨Pc,bp⟩:∃Pv:Nat->List V->L2.St->Hp->Prop,Pv=λ(i:Nat) ac τ H'=>∃(o0 o1:Option V),Same H4 H'/\ac=(gC cs i).map (λj:Nat=>As (j:Int))/\τ=[o0,o1]:=⟨_,rfl⟩;refine aeW k9 (aR ω) Pc (by rw[bp];exact⟨_,_,Same.refl _,rfl,rfl⟩) ?_ ?_ ?_ ?_
   ·intro i ac τ H5 pc;rw[bp] at pc;obtain⟨o0,o1,s5,rfl,rfl⟩:=pc;rw[AI];exact Ia cs i
   ·intro i ac τ H5 pc;rw[bp] at pc;obtain⟨o0,o1,s5,rfl,rfl⟩:=pc;exact SqL.of (s5 _ _ dC)
   ·intro i x ac τ H5 pa hx pc v3;rw[bp] at pc;obtain⟨o0,o1,s5,rfl,rfl⟩:=pc;have li:i<cs.length:=by have:=(AB.mp hx).1;omega
    have hc:cs[i]?=GE cs[i]:=AC li;have s6:=aB (o:=By [.int (i:Nat),x]) v3;have ea:upd H5 pa (.tup [.int (i:Nat),x]) pa=GE (.tup [.int (i:Nat),x]):=au;generalize upd H5 pa (.tup [.int (i:Nat),x])=H6 at s6 ea |-;obtain⟨x',ky,rx⟩:=(L0.same (s5.trans s6)).row hc;rw[hx] at ky;cases ky;generalize cs[i]=c at hc rx;obtain⟨a,g,rfl,e,eg⟩:=rx;push_cast[ea,e];refine⟨_,yc c g,?_⟩;push_cast;rw[bp];cases hp:fJ c with
    | true=>
     cases c with
     | pik lb=>
      rw[if_pos (show mK (.pik lb) = "pick" from Z)];exact⟨_,_,s5.trans s6,by rw[Va hc,BH];rfl,rfl⟩
     | _=>cases hp
    | false=>
     rw[if_neg (Kv hp)];exact⟨_,_,s5.trans s6,by rw[Y6 hc hp],rfl⟩
   intro ac τ H5 d pc hd;rw[bp] at pc;obtain⟨o0,o1,s5,rfl,rfl⟩:=pc;rw[VI];have s6:=s5.trans (aB (o:=AT ((gC cs cs.length).map (λj:Nat=>As (j:Int)))) hd);have ed:upd H5 d (AT ((gC cs cs.length).map (λj:Nat=>As (j:Int)))) d=_:=au;generalize upd H5 d (AT ((gC cs cs.length).map (λj:Nat=>As (j:Int))))=H6 at s6 ed |-;have v6:=Ia cs cs.length;push_cast[ed];rw[AI];refine⟨p,((gC cs cs.length).length:Int),B+2*(xs.length:Int),rfl,fo.same s6,by show B+2*(xs.length:Int)+2<=1000100;omega,ω,ω,δ,λz=>absurd z ω,λr H7 r0 r1 s7 dr=>?_⟩;obtain⟨r,rfl⟩:=ES r0;have ed7:=s7 _ _ ((fo.same s5).ne hd) ed;have i8:(gC cs cs.length)[r]?=GE ((gC cs cs.length)[r]'ω):=AC ω;generalize (gC cs cs.length)[r]'ω=cr at i8;obtain⟨lb,ha⟩:=Vc (AU i8);have la:=(AB.mp ha).1;have fi:atI ((gC cs cs.length).map (λj:Nat=>As (j:Int))) (r:Int)=GE (As (cr:Int)):=bO (by rw[AZ,i8];rfl);have dS:b7 p H4 H7:=s6.x.trans s7;have On:=rS.jk dS;have vn:=rk.jk dS;have LD:=dS _ _ olr dC;have wE:=L0.keep (ok':=(·≠p)) λa o h e=>⟨h,dS a o h e⟩;obtain⟨xa,hxa,a,g,rfl,e,_⟩:=wE.row ha;have Sa:=bO hxa;push_cast[ed7,fi,LD];intro c1 MX;rw[aeU rs cr ω];have s8:=aB (o:=AT (rs.take cr)) MX;have ec:upd H7 c1 (AT (rs.take cr)) c1=_:=au;have u8:=s8 _ _ LD;have e8:=s8 _ _ e;generalize upd H7 c1 (AT (rs.take cr))=H8 at s8 ec u8 e8 |-;push_cast[u8,Sa,e8,jg];refine⟨aR δ,λt2 ht2=>⟨aR δ,λt3 ht3=>?_⟩⟩;have u2:=aB (o:=By [At "pick",As (lb+1)]) ht2;have qk:upd H8 t2 (By [At "pick",As (lb+1)]) t2=_:=au;generalize upd H8 t2 (By [At "pick",As (lb+1)])=H9 at u2 qk ht3 |-;have u3:=aB (o:=AT [AS t2]) ht3;have J':upd H9 t3 (AT [AS t2]) t3=_:=au;have s9:=s8.trans (u2.trans u3);have XV:=(u2.trans u3) _ _ ec;have Lv:=(u2.trans u3) _ _ u8;have KO:=u3 _ _ qk;generalize upd H9 t3 (AT [AS t2])=H10 at u3 J' s9 XV Lv KO |-;push_cast[XV,J'];refine⟨aR (by have:=JU cr rs;show(rs.take cr).length+1<=1000000;omega),λt4 ht4=>?_⟩;have u4:=aB (o:=AT (rs.take cr++[AS t2])) ht4;have XB:upd H10 t4 (AT (rs.take cr++[AS t2])) t4=_:=au;have qv:=u4 _ _ Lv;have cS:=s9.trans u4;have qh:=u4 _ _ KO;generalize upd H10 t4 (AT (rs.take cr++[AS t2]))=H11 at u4 XB qv cS qh |-;push_cast[qv];intro c5 hc5;rw[show((cr:Int)+1)=((cr+1:Nat):Int) by omega,Fv rs (cr+1) ω];have u5:=aB (o:=AT (rs.drop (cr+1))) hc5;have XW:upd H11 c5 (AT (rs.drop (cr+1))) c5=_:=au;have IS:=u5 _ _ XB;have ca:=cS.trans u5;have qf:=u5 _ _ qh;generalize upd H11 c5 (AT (rs.drop (cr+1)))=H12 at u5 XW IS ca qf |-;push_cast[IS,XW]
   refine⟨aR (by have:=JU cr rs;rw[Fm];show(rs.take cr++[AS t2]).length+(rs.length-(cr+1))<=1000000;rw[AN];show(rs.take cr).length+1+_<=_;omega),λlo jp=>?_⟩;have es:rs.take cr++[AS t2]++rs.drop (cr+1)=rs.set cr (AS t2):=by
    rw[List.set_eq_take_append_cons_drop,if_pos ω,CS];rfl
   rw[es];have u6:=aB (o:=AT (rs.set cr (AS t2))) jp;have wp:upd H12 lo (AT (rs.set cr (AS t2))) lo=_:=au;have de:=ca.trans u6;have qc:=u6 _ _ qf;generalize upd H12 lo (AT (rs.set cr (AS t2)))=H13 at u6 wp de qc |-;have NR:aG (·≠p) H13 (.ref t2) (iB (.pik (lb+1))):=.tup (((dr.same s8).newOk).new ht2) qc (by show 2<=1000000;decide) (.cons (.str _) (.cons (.int _) .nil));have TC:=aN.set NR cr (wE.same de);rw[<- map_set] at TC;have Y2:aG (·≠p) H13 (.ref lo) (.list ((cs.set cr (.pik (lb+1))).map iB)):=.lst ((dr.same ca).ne jp) wp (by rw[GW];omega) TC;have QH:=K6 (m:=lb+1) pj ha;have mm:=vn.same de;refine⟨lo,l,(·≠p),_,ss,s0,t0,rfl,Y2,mm,QH,aaM MH ⟨trivial,trivial⟩,cf,un,gI,g0,g1,aaL ha (few _),λt H14 eQ ht=>?_⟩;refine⟨lr,_,cs,s0.1,t0.2.1,rfl,On.same (de.trans eQ),pj,MH,bS,few _,λr9 ps X H15 lS hr9 ip ra br ci=>?_⟩;have LF:=ra.e;have kQ:ps[cr]?=GE (ps[cr]'ω):=AC ω;generalize ps[cr]'ω=pi at kQ;obtain⟨ui,ei,ti⟩:=ra.el cr pi kQ;have Sc:atI (ps.map AS) (cr:Int)=GE (AS pi):=bO (by rw[AZ,kQ];rfl);have k9:=TX pj cf g0 g1 ci hR ha;have v6:ui.isEmpty=t:=by
    have h1:=ti.length;rw[E3,ht,k9,F8,<- BQ,h1]
   push_cast[LF,Sc];refine⟨aR δ,λz9 hz9=>?_⟩;have ko:=aB (o:=AT []) hz9;refine⟨_,_,ui,rfl,rfl,ko _ _ ei,au,?_⟩;rw[v6];push_cast;have gu:=(((de.trans eQ).trans lS).trans ko);exact q _ (P5 _ ((hV.x.trans s4).trans (dS.trans gu.x))) ((dr.same gu).le ω)
end
abbrev Ku:List Str:=["_law_script","_law_k","_law_tape_here","_law_stretches_here","_law_left","_law_plans"]
abbrev nM:Stmt:=top 54
theorem G9:bx Ku ["_law_script"] (aj nM):=⟨rfl,rfl,rfl,ψ,rfl,ψ,ψ⟩
theorem YT:NM_ Ku nM 0 "_law_script":=.of ψ
theorem YS:NM_ Ku nM 1 "_law_k":=.of ψ
theorem Pr:NM_ Ku nM 2 "_law_tape_here":=.of ψ
theorem Pq:NM_ Ku nM 3 "_law_stretches_here":=.of ψ
theorem aep:NM_ Ku nM 4 "_law_left":=.of ψ
theorem YQ:NM_ Ku nM 5 "_law_plans":=.of ψ
theorem Qk:GI_ nM "_law_many":=ψ
theorem Ac:GI_ nM "_law_plain_plans":=ψ
theorem BP:GI_ nM "_law_stretches":=ψ
theorem Qj:GI_ nM "_law_tape":=ψ
theorem Zn:GI_ nM "all":=ψ
theorem Mw:GI_ nM "len":=ψ
theorem Vn:GI_ nM "list":=ψ
theorem Zm:GI_ nM "min":=ψ
theorem wY:GI_ nM "range":=ψ
def Rj(K:AE):Sp:=λvs H Q _=>∃(a:ID)(ns:List Int),vs=[.ref a]/\SqL K H a (ns.map As)/\ns.length<=63/\∀H',Q (.bl true) H'
section
variable{bs:List Str}
theorem aek(hB:∀x:Str,x∈BLs->mg x=GT)(CZTape:Cal P w K mg base "_law_tape" 2 q6_ (WX K))(CZMany:Cal P w K mg base "_law_many" 3 ["_law_tape_here"] W4)(CZStretches:Cal P w K mg base "_law_stretches" 3 q0_ WY)(CZPlan:Cal P w K mg base "_law_plan" 62 q1_ (uG 60))(CZPlainPlans:Cal P w K mg base "_law_plain_plans" 5 q22_ KZ)(CZRowsRight:Cal P w K mg base "_law_rows_right" 5 q2_ KY)
  (F:Fun K "law" "law" nM f fd):cT P w K mg base CX0 64 f fd ["_law_script"] (Rj K):=by
 refine F.okz G9 λap A outer s H vs Q E hr h=>?_;obtain⟨a,ns,rfl,hS,h63,q⟩:=h;refine⟨_,(aD (fG BB Z (uK wY (hB "range" lU) (ak (aX bw aq (bJ (vg Z) Zm (hB "min" El) boot_min Fx (ak aq (ak (bJ m5 Mw (hB "len" cM) Be cN (ak (ao YT) aA)) aA)))) aA)) (bK YS G9.nd (.inl Z))
  (aD (bF Pr G9.nd (bA CZTape (hr.mono δ) Qj acI (ak (ao YT) (ak (ao YS) aA))) Z (.inl Z))
  (aD (bF Pq G9.nd (bA CZStretches (hr.mono δ) BP Kl (ak (ao Pr) (ak (bA CZMany (hr.mono δ) Qk acJ (ak (ao Pr) aA)) aA))) Z (.inl Z))
  (aD (bF aep G9.nd (Dk Z Vn (hB "list" uY) wY (hB "range" lU) (ak (bJ bD Mw (hB "len" cM) Be cN (ak (ao Pq) aA)) aA)) Z (.inl Z))
  (aD (bF YQ G9.nd (aX bw (jE (NX:=Ku) (kX:=(aj nM).names) ["_law_turn","_law_tape_here","_law_stretches_here","_law_left"] [GT,GE 2,GE 3,GE 4] Z Z ⟨rfl,ψ,ψ,ψ,ψ⟩ Z (uK wY (hB "range" lU) (ak aq aA)) (λ_ _ _ _ _=>(cU 0 (show B8 (["_law_turn","_law_tape_here","_law_stretches_here","_law_left"]:List Str) from by decide +kernel) Z (D8 Z))) (λ_ _ _ _ _=>qL) (λ_ _ _ _ _=>(bA CZPlan (hr.mono δ) Z yS (ak (cg 1) (ak (cg 2) (ak (cg 3) aA)))))) (bA CZPlainPlans (hr.mono δ) Ac Gy (ak (ao Pq) aA))) Z (.inl Z))
  (aJ (bH (rY (mC (bJ (Iu Z) Zn (hB "all" YX) PyProof.Rows.Boot.«all» Z4 (ak (jE (NX:=Ku) (kX:=(aj nM).names) ["_law_plan_here","_law_tape_here","_law_stretches_here"] [GT,GE 2,GE 3] Z Z ⟨rfl,ψ,ψ,ψ,ψ⟩ Z (cQ (ao YQ)) (λ_ _ _ _ _=>(cU 0 (show B8 (["_law_plan_here","_law_tape_here","_law_stretches_here"]:List Str) from by decide +kernel) Z (D8 Z))) (λ_ _ _ _ _=>qL) (λ_ _ _ _ _=>(bA CZRowsRight (hr.mono δ) Z Km (ak (cg 1) (ak (cg 2) (ak (cg 0) aA)))))) aA)) (λ_=>rfl))) (aJ (aQ jY)) bB)))))) (λ_=>rfl))
  (aJ (aQ jY))),?_⟩
 refine aK λk hk=>?_;refine jr λR hR=>?_;push_cast[Ih];refine⟨_,.inl hS,?_⟩;rw[AI];have m6:(0:Int)<=1+(if (ns.length:Int)<2 then (ns.length:Int) else 2)/\1+(if (ns.length:Int)<2 then (ns.length:Int) else 2)<=3:=by
  split <;> omega
 refine⟨ω,ω,?_⟩;obtain⟨Pv,ag⟩:∃Pv:Nat->L2.St->Hp->Prop,Pv=λ(i:Nat) σ H'=>Same H H'/\∃o1 o2 o3 o4 o5,σ=[GE (.ref a),o1,o2,o3,o4,o5]:=⟨_,rfl⟩;refine Zu hR Pv (by rw[ag];exact⟨Same.refl _,_,_,_,_,_,rfl⟩) ?_ ?_
 ·intro i σ H1 hi pv;rw[ag] at pv;obtain⟨s1,o1,o2,o3,o4,o5,rfl⟩:=pv;refine aK λk2 bg=>?_;push_cast;refine⟨a,ns,(0:Int)+(i:Int),rfl,s1.seq hS,ω,ω,λp H2 hp s2 g7=>?_⟩;push_cast;subst bg;refine aK λk2 bg=>?_;push_cast;refine⟨p,0,rfl,g7,δ,δ,λm H3 s3 iO Rs hm2=>?_⟩;refine⟨p,m,0+4,rfl,iO,δ,δ,ω,ω,λl ss H4 s4 fo tr4 oT cf hun hl5=>?_⟩;push_cast;subst bg;have ow:b7 p H1 H4:=(s2.x.trans s3).trans s4;have gI:ss.length<=60:=ω;have h1:1<=ss.length:=ω;have lfl:Lf ss (AK ss.length):=Lj h1;refine aK λk2 bg=>?_;have N3:=tr4;cases tr4 with
  | lst nc kD zl4 trs4=>
   rename_i xs;have bv:=trs4.length;rw[AI] at bv;push_cast[kD];rw[show(((xs.length:Int)-0).toNat)=ss.length by omega];refine⟨⟨ω,ω⟩,aR ω,λlf yT=>?_⟩;rw[aaW];have s5:=aB (o:=AT (nv (AK ss.length))) yT;have nlf:=fo.ne yT;have fT:=fo.same s5;have N2:=N3.same s5;have XN:upd H4 lf (AT (nv (AK ss.length))) lf=_:=au;have hU:=ow.trans s5.x;generalize upd H4 lf (AT (nv (AK ss.length)))=H5 at s5 fT N2 XN hU |-;have YV:aG (·≠p) H5 (.ref lf) (oF (AK ss.length)):=dB nlf XN (by rw[DL];omega);subst bg;refine aK λk2 bg=>?_;push_cast;refine iH λR2 k9=>?_;push_cast[Ih];refine⟨δ,δ,?_⟩;obtain⟨Pc,bp⟩:∃Pv:Nat->List V->L2.St->Hp->Prop,Pv=λ(i:Nat) ac τ H'=>∃(ps:List Pl)(o0:Option V),b7 p H5 H'/\cu H' p (2004+720*(i:Int))/\aN (·≠p) H' ac (ps.map plD)/\ps.length=i/\(∀x∈ps,FP ss x)/\τ=[o0,GE (.ref p),GE (.ref l),GE (.ref lf)]:=⟨_,rfl⟩;refine ZS k9 (aR δ) Pc (by rw[bp];exact⟨[],_,.refl _ _,fT.le δ,.nil,rfl,λx hx=>absurd hx ζ,rfl⟩) ?_ ?_ ?_
   ·intro i ac τ H6 pc;rw[bp] at pc;obtain⟨ps,o0,s6,io,ta,hl,hg,rfl⟩:=pc;have:=ta.length;rw[AI] at this;omega
   ·intro i ac τ H6 hi2 pc;rw[bp] at pc;obtain⟨ps,o0,s6,io,ta,hl,hg,rfl⟩:=pc;have hi3:i<2:=hi2;push_cast;refine⟨p,_,_,_,ss,_,rfl,io,ω,by rw[DL];omega,N2.jk s6,YV.jk s6,lfl,by rw[DL];omega,by rw[DL];omega,λv pl H7 s7 dr tv7 ZH dep siz=>?_⟩;rw[DL] at dr dep siz;show Pc _ _ _ _;rw[bp];refine⟨ps++[pl],_,s6.trans s7,dr.le ω,?_,by rw[AN,AQ,hl],λx hx=>?_,rfl⟩
    ·rw[BH];exact(ta.jk s7).append (.cons tv7 .nil)
    rcases BA.mp hx with hx|hx
    ·exact hg x hx
    rw[AA.mp hx];exact⟨ZH,ω⟩
   intro ac τ H6 d pc hd;rw[bp] at pc;obtain⟨ps,o0,s6,io,ta,hl,hg,rfl⟩:=pc;have s7:=aB (o:=AT ac) hd;have ed:upd H6 d (AT ac) d=_:=au;have L3:=ta.same s7;have dr:=io.same s7;have dS:=(s6.trans s7.x);generalize upd H6 d (AT ac)=H7 at s7 ed L3 dr dS |-;have TL:=N2.jk dS;push_cast;refine⟨.ref l,(·≠p),ss,rfl,dr.newOk,TL,h1,gI,λb ys qs H8 s8 eb tb hql hqg=>?_⟩;have hal:=L3.length;rw[AI] at hal;have hbl:=tb.length;rw[AI] at hbl;have hps2:ps.length=2:=hl;have XT:=s8 _ _ ed;push_cast[XT,eb];refine⟨aR ω,λe9 he9=>?_⟩;have s9:=aB (o:=AT (ac++ys)) he9;have ee:upd H8 e9 (AT (ac++ys)) e9=_:=au;have n9:=(dr.same s8).ne he9;have mB:aN (·≠p) H8 (ac++ys) ((ps++qs).map plD):=by
    rw[BH];exact(L3.same s8).append tb
   have y4:∀x∈ps++qs,FP ss x:=λx hx=>by
    rcases BA.mp hx with hx|hx
    ·exact hg x hx
    exact hqg x hx
   have iX:(ac++ys).length<=5:=by rw[AN];omega
   have rX:=(hU.trans dS).trans (s8.trans s9).x;have lL:=(dr.same s8).same s9;have TK:=(TL.same s8).same s9;have mB:=mB.same s9;generalize upd H8 e9 (AT (ac++ys))=H9 at s9 ee rX lL TK mB |-;generalize ac++ys=zs at *;generalize ps++qs=c9 at *;clear ta L3 tb hg hqg eb XT ed;subst bg;push_cast;refine iH λR3 hR3=>?_;push_cast[Er,J3,ee,J2];obtain⟨Pd,wf⟩:∃Pv:Nat->List V->L2.St->Hp->Prop,Pv=λ(i:Nat) ac τ H'=>∃(o0:Option V),b7 p H9 H'/\cu H' p (4000+1000*(i:Int))/\ac=(A8 i true).map V.bl/\τ=[o0,GE (.ref p),GE (.ref l)]:=⟨_,rfl⟩;refine Ag hR3 (xs:=zs) (aR ω) Pd (by rw[wf];exact⟨_,.refl _ _,lL.le δ,rfl,rfl⟩) ?_ ?_ ?_ ?_
   ·intro i ac τ H11 pc;rw[wf] at pc;obtain⟨o0,cS,fg,rfl,rfl⟩:=pc;rw[AI,Ex];exact AW _
   ·intro i ac τ H11 pc;rw[wf] at pc;obtain⟨o0,cS,fg,rfl,rfl⟩:=pc;exact SqL.of (cS _ _ n9 ee)
   ·intro i x ac τ H11 hx pc;rw[wf] at pc;obtain⟨o0,cS,fg,rfl,rfl⟩:=pc;have li:=(AB.mp hx).1;obtain⟨dd,zn,tx⟩:=mB.get hx;rw[AZ] at zn;obtain⟨pl,br,rfl⟩:=B5.mp zn;push_cast;refine⟨p,.ref l,x,4000+1000*(i:Int),ss,pl,rfl,fg,ω,ω,TK.jk cS,tx.jk cS,h1,gI,cf,hun,y4 pl (AU br),λH12 ca hG=>?_⟩;show Pd _ _ _ _;rw[wf];refine⟨_,cS.trans ca,hG.le ω,?_,rfl⟩;rw[List.replicate_succ',BH];simp
   intro ac τ H11 d9 pc hd9;rw[wf] at pc;obtain⟨o0,cS,fg,rfl,rfl⟩:=pc;have ca:=aB (o:=AT ((A8 zs.length true).map V.bl)) hd9;have gi:upd H11 d9 (AT ((A8 zs.length true).map V.bl)) d9=_:=au;generalize upd H11 d9 (AT ((A8 zs.length true).map V.bl))=H12 at ca gi |-;push_cast[gi];refine⟨_,rfl,?_⟩;rw[if_neg ζ,ag];exact⟨s1.trans (aaS ((rX.trans cS).trans ca.x) hp),_,_,_,_,_,rfl⟩
 intro σ H1 pv;rw[ag] at pv;obtain⟨s1,o1,o2,o3,o4,o5,rfl⟩:=pv;show k _ _;subst hk;push_cast;exact q _
end
theorem all_mk{l:PySem.W.OpenLaw}{w:BI}{K:AE}{h:Heap}{mg:Str->Option Ap}{fa:ID}{bi:Tok}{aS:Tok}(X:K.In h)(G:h.Ns Cs mg)(hfa:mg "law" = GE (.ref fa))
  (d1:DB K "is_number" j9)
  (d2:DB K "numbers_across" gJ)
  (d3:DB K "labels_left" lJ)
  (d4:DB K "parts_some" gH)
  (d5:DB K "is_step" eG)
  (d6:DB K "plans_in" gG)
  (d7:DB K "is_plan" iu)
  (d8:DB K "steps_of" fC)
  (d9:DB K "places_ahead" cX)
  (d10:DB K "labels_led_to" fU)
  (d11:DB K "picks_behind" cP)
  (d12:DB K "mask_row" eF)
  (d13:DB K "table_row" fB)
  (d14:DB K "row_of" jA)
  (d15:DB K "rows_of" dW)
  (d16:DB K "ends_of" xX)
  (d17:DB K "holds" Dg)
  (d18:DB K "row_behind" eO)
  (d19:DB K "run" Lh)
  (d20:DB K "joined" mR)
  (d21:DB K "lie_within" fQ)
  (d22:DB K "runs_of" mQ)
  (d23:DB K "mask_goals" fP)
  (d24:DB K "ways_of" iZ)
  (d25:DB K "send_on" eZ)
  (d26:DB K "come_to" gD)
  (d27:DB K "least_beyond" cY)
  (d28:DB K "beyond_among" cZ)
  (d29:DB K "beyond_of" jl)
  (d30:DB K "leads_right" bY)
  (d31:DB K "_law_cell_at" pU)
  (d32:DB K "_law_tape" qF)
  (d33:DB K "_law_take" qG)
  (d34:DB K "_law_stretches" b8)
  (d35:DB K "_law_span" Df)
  (d36:DB K "_law_plan" dm)
  (d37:DB K "_law_way" Ak)
  (d38:DB K "_law_same" jf)
  (d39:DB K "_law_many" zp)
  (d40:DB K "_law_numbers" gw)
  (d41:DB K "_law_plain_plans" bR)
  (d42:DB K "_law_rows_right" aY)
  (d43:DB K "law" nM)
  (z:NS K BLs)
  (w1:nsIn K Cs "MOST_IN_MASK" = GE (GE (.int 64 bi)))
  (w2:nsIn K Cs "MOST_IN_TABLE" = GE (GE (.int 200 aS))) :
  ∃fd:C3,(∀(s:AD)(v:Ap),BindsTo s fd ⟨[v],[]⟩ [("_law_script",v)])/\∀base:Heap,K.In base->base.Ns Cs mg->cT l.prog w K mg base CX0 64 fa fd ["_law_script"] (Rj K):=by
 obtain⟨fl,odl,anl,sll,ocl,kVl,dcl,ZN,cdl,ctl,dl⟩:=d43;have e:=hfa.symm.trans (mg_of X G dl.a);cases e;obtain⟨_,_,DIsNumber⟩:=d1.d ["thing"] X G;obtain⟨_,_,DNumbersAcross⟩:=d2.d q3_ X G;obtain⟨_,_,DLabelsLeft⟩:=d3.d q3_ X G;obtain⟨_,_,DPartsSome⟩:=d4.d q15_ X G;obtain⟨_,_,DIsStep⟩:=d5.d q16_ X G;obtain⟨_,_,DPlansIn⟩:=d6.d q12_ X G;obtain⟨_,_,DIsPlan⟩:=d7.d q24_ X G;obtain⟨_,_,DStepsOf⟩:=d8.d q9_ X G;obtain⟨_,_,DPlacesAhead⟩:=d9.d ["steps"] X G;obtain⟨_,_,DLabelsLedTo⟩:=d10.d q17_ X G;obtain⟨_,_,DPicksBehind⟩:=d11.d q23_ X G;obtain⟨_,_,DMaskRow⟩:=d12.d q11_ X G;obtain⟨_,_,DTableRow⟩:=d13.d q14_ X G;obtain⟨_,_,DRowOf⟩:=d14.d q7_ X G;obtain⟨_,_,DRowsOf⟩:=d15.d q9_ X G;obtain⟨_,_,DEndsOf⟩:=d16.d ["row"] X G;obtain⟨_,_,DHolds⟩:=d17.d ["row","number"] X G;obtain⟨_,_,DRowBehind⟩:=d18.d q20_ X G;obtain⟨_,_,DRun⟩:=d19.d ["rows","number"] X G;obtain⟨_,_,DJoined⟩:=d20.d ["spans"] X G;obtain⟨_,_,DLieWithin⟩:=d21.d ["spans","others"] X G;obtain⟨_,_,DRunsOf⟩:=d22.d ["first","goals"] X G
 obtain⟨_,_,DMaskGoals⟩:=d23.d ["row","at"] X G;obtain⟨_,_,DWaysOf⟩:=d24.d q18_ X G;obtain⟨_,_,DSendOn⟩:=d25.d q19_ X G;obtain⟨_,_,DComeTo⟩:=d26.d q4_ X G;obtain⟨_,_,DLeastBeyond⟩:=d27.d ["row","spans"] X G;obtain⟨_,_,DBeyondAmong⟩:=d28.d q21_ X G;obtain⟨_,_,DBeyondOf⟩:=d29.d q4_ X G;obtain⟨_,_,DLeadsRight⟩:=d30.d q25_ X G;obtain⟨_,_,DZCellAt⟩:=d31.d q6_ X G;obtain⟨_,_,DZTape⟩:=d32.d q6_ X G;obtain⟨_,_,DZTake⟩:=d33.d q0_ X G;obtain⟨_,_,DZStretches⟩:=d34.d q0_ X G;obtain⟨_,_,DZSpan⟩:=d35.d q13_ X G;obtain⟨_,_,DZPlan⟩:=d36.d q1_ X G;obtain⟨_,_,DZWay⟩:=d37.d q5_ X G;obtain⟨_,_,DZSame⟩:=d38.d q10_ X G;obtain⟨_,_,DZMany⟩:=d39.d ["_law_tape_here"] X G;obtain⟨_,_,DZNumbers⟩:=d40.d q8_ X G;obtain⟨_,_,DZPlainPlans⟩:=d41.d q22_ X G;obtain⟨_,_,DZRowsRight⟩:=d42.d q2_ X G;have DLaw:=dl.d ["_law_script"] X G λ_ _ _ _ _ _ us hl=>by obtain⟨z0,rfl⟩:=ln1 hl;rfl
 have bX:mg "MOST_IN_MASK" = GE (.int 64 bi):=mg_of X G w1;have bz:mg "MOST_IN_TABLE" = GE (.int 200 aS):=mg_of X G w2;have hB:∀x:Str,x∈BLs->mg x=GT:=λx hx=>PySem.W.mg_none_of X G (z.all x hx);refine⟨fnOf "law" "law" (je nM) (fY nM) (aj nM) .none kVl dcl ZN anl cdl ctl,λs v=>.of_eq rfl,λbase kb nb=>?_⟩;have CCell:=DZCellAt.cal (abY (P:=l.prog) (w:=w) (base:=base) hB DZCellAt.fn);have CTape:=DZTape.cal (abO hB CCell DZTape.fn);have CTake0:=DZTake.cal (Tw (P:=l.prog) (w:=w) (mg:=mg) (base:=base));have CTake1:=DZTake.cal (RQ (n:=0) hB δ CTake0 DZTake.fn);have CTake2:=DZTake.cal (RQ (n:=1) hB δ CTake1 DZTake.fn);have CSame0:=DZSame.cal (same_none (P:=l.prog) (w:=w) (mg:=mg) (base:=base));have CSame:=DZSame.cal (abR (n:=0) hB CSame0 DZSame.fn);have CSts:=DZStretches.cal (aeg hB CTake2 DZStretches.fn);have CIn:=DPlansIn.cal (O7 (P:=l.prog) (w:=w) (base:=base) hB DPlansIn.fn);have CSteps:=DStepsOf.cal (Yt hB CIn DStepsOf.fn);have CAcross:=DNumbersAcross.cal (UG (P:=l.prog) (w:=w) (base:=base) hB DNumbersAcross.fn);have CAhead:=DPlacesAhead.cal (YF (P:=l.prog) (w:=w) (base:=base) hB DPlacesAhead.fn);have CLabs:=DLabelsLeft.cal (abV (P:=l.prog) (w:=w) (base:=base) hB DLabelsLeft.fn);have CLed:=DLabelsLedTo.cal (aej hB CLabs DLabelsLedTo.fn);have CPicks:=DPicksBehind.cal (Uw hB CLed DPicksBehind.fn);have CMaskR:=DMaskRow.cal (Yw hB CAcross DMaskRow.fn);have CTabR:=DTableRow.cal (Us (P:=l.prog) (w:=w) (base:=base) hB DTableRow.fn);have CRowOf:=DRowOf.cal (Yu hB CTabR CMaskR DRowOf.fn);have CRowsOf:=DRowsOf.cal (Uu hB CSteps CAhead CPicks CRowOf DRowsOf.fn);have CNum:=DIsNumber.cal (YB (P:=l.prog) (w:=w) (base:=base) hB DIsNumber.fn);have CSome:=DPartsSome.cal (Yv hB CLabs DPartsSome.fn);have CStep:=DIsStep.cal (Uy hB bX bz CNum CAcross CLabs CSome DIsStep.fn);have CIsP:=DIsPlan.cal (Uz hB CStep CIn DIsPlan.fn);have CSpan:=DZSpan.cal (abP (P:=l.prog) (w:=w) (base:=base) hB DZSpan.fn);have CMany:=DZMany.cal (abU hB CTake2 DZMany.fn);have CWay:=DZWay.cal (aef (P:=l.prog) (w:=w) (base:=base) hB DZWay.fn);have CNms:=DZNumbers.cal (O8 hB CTake2 DZNumbers.fn);have CPlan:∀n,Cal l.prog w K mg base "_law_plan" (n+2) q1_ (uG n):=by
  intro n
  induction n with
  | zero=>exact DZPlan.cal (Ug (P:=l.prog) (w:=w) (mg:=mg) (base:=base))
  | succ n ih=>exact DZPlan.cal (abT hB CTake2 CSpan ih DZPlan.fn)
 have CJn:=DJoined.cal (Ux (P:=l.prog) (w:=w) (base:=base) hB DJoined.fn);have CLw:=DLieWithin.cal (aei (P:=l.prog) (w:=w) (base:=base) hB DLieWithin.fn);have CRo:=DRunsOf.cal (abS (P:=l.prog) (w:=w) (base:=base) hB DRunsOf.fn);have CMg:=DMaskGoals.cal (Yx (P:=l.prog) (w:=w) (base:=base) hB DMaskGoals.fn);have CWo:=DWaysOf.cal (abN hB CRo CMg DWaysOf.fn);have CSo:=DSendOn.cal (abQ (P:=l.prog) (w:=w) (base:=base) hB DSendOn.fn);have CCt:=DComeTo.cal (abX hB CJn CWo CSo DComeTo.fn);have CEnds:=DEndsOf.cal (abW (P:=l.prog) (w:=w) (base:=base) hB DEndsOf.fn);have CLb:=DLeastBeyond.cal (Yy hB CEnds DLeastBeyond.fn);have CBa:=DBeyondAmong.cal (YD hB CLb DBeyondAmong.fn);have CBo:=DBeyondOf.cal (YC hB CCt CBa DBeyondOf.fn);have CLr:=DLeadsRight.cal (Yz hB CCt CBa CLw DLeadsRight.fn);have CHolds:=DHolds.cal (ok_holds (P:=l.prog) (w:=w) (base:=base) hB DHolds.fn);have CBehind:=DRowBehind.cal (O6 hB CEnds CHolds DRowBehind.fn);have CRun:=DRun.cal (aeh hB CBehind DRun.fn);have CPl:=DZPlainPlans.cal (Uv hB CIsP DZPlainPlans.fn);have CRR:=DZRowsRight.cal (Ut hB CTake2 CRowsOf CLr CBo CWay CNms CRun CSame CCt DZRowsRight.fn);exact aek hB CTape CMany CSts (CPlan 60) CPl CRR DLaw.fn
theorem walk{l:PySem.W.OpenLaw}{q:A6}{f7:List Str}{XP:(Str->Option Ap)->Heap->Prop}{YP:BI->Heap->Prop}{d:DefRec}{K:Params->AE}(hn:l.most=GE 63)(zi:d.params.defaults=[])
  (hY:∀(w:BI)(h:Heap),YP w h->(K w.params).In h)
   (F:∀(w:BI)(mg:Str->Option Ap)(fa:ID)(h:Heap),(K w.params).In h->h.Ns Cs mg->mg d.name=GE (.ref fa) ->
   ∃fd:C3,(∀(s:AD)(u:Ap),BindsTo s fd ⟨[u],[]⟩ [("_law_script",u)])/\∀base:Heap,(K w.params).In base->base.Ns Cs mg->cT l.prog w (K w.params) mg base CX0 64 fa fd ["_law_script"] (Rj (K w.params))) :
  PySem.W.WalkO q f7 XP YP l.row.toRowW d [] (λf vs=>PySem.call f vs):=
 L2.aav (n:=63) (k:=64) (x := "_law_script") (CX:=λ_=>CX0) (sp:=λw=>Rj (K w.params)) hn δ zi ⟨rfl,δ,δ,rfl⟩ hY F (λ_ _ a ns hl _ hS=>⟨a,ns,rfl,hS,hl,λ_=>rfl⟩) λ_ _ _ _ _ z=>z
end K24
namespace PySem.W.Fast
theorem tw10132026657210431746:True:=⟨⟩
theorem tw10136756918298037443:True:=⟨⟩
theorem tw10178017013004189796:True:=⟨⟩
theorem tw1018469732204315761:True:=⟨⟩
theorem tw10246621579948379221:True:=⟨⟩
theorem tw10418065480554961111:True:=⟨⟩
theorem tw10436030418885428289:True:=⟨⟩
theorem tw10572726677329858771:True:=⟨⟩
theorem tw10813299823981347145:True:=⟨⟩
theorem tw109079691602417900:True:=⟨⟩
theorem tw1096111728424519070:True:=⟨⟩
theorem tw10973005878471806287:True:=⟨⟩
theorem tw11021240258369391971:True:=⟨⟩
theorem tw11064035958703948040:True:=⟨⟩
theorem tw11185797096950058493:True:=⟨⟩
theorem tw1127746641930932802:True:=⟨⟩
theorem tw11289795544700992238:True:=⟨⟩
theorem tw11316835061722148553:True:=⟨⟩
theorem tw11447063664001773955:True:=⟨⟩
theorem tw11479744707083938618:True:=⟨⟩
theorem tw11505274020618292023:True:=⟨⟩
theorem tw11553396728076077564:True:=⟨⟩
theorem tw11617154319407615993:True:=⟨⟩
theorem tw11656441350760508607:True:=⟨⟩
theorem tw11780688653465168063:True:=⟨⟩
theorem tw1178458231292124796:True:=⟨⟩
theorem tw12030112644187189654:True:=⟨⟩
theorem tw12040602925205253022:True:=⟨⟩
theorem tw12088318824756215447:True:=⟨⟩
theorem tw12094152939078457451:True:=⟨⟩
theorem tw12171832565667127134:True:=⟨⟩
theorem tw12200212294772879680:True:=⟨⟩
theorem tw1220037448964734332:True:=⟨⟩
theorem tw12245820934174743956:True:=⟨⟩
theorem tw12402914181323800345:True:=⟨⟩
theorem tw12410063816759780475:True:=⟨⟩
theorem tw12466105289307804547:True:=⟨⟩
theorem tw12631021284982618023:True:=⟨⟩
theorem tw12896039061408010539:True:=⟨⟩
theorem tw12965238391257865483:True:=⟨⟩
theorem tw13004193660907376762:True:=⟨⟩
theorem tw13028957309008215599:True:=⟨⟩
theorem tw13035019198819303087:True:=⟨⟩
theorem tw13055135362702123250:True:=⟨⟩
theorem tw13059956773587152376:True:=⟨⟩
theorem tw13075169819062200555:True:=⟨⟩
theorem tw13254173061726409034:True:=⟨⟩
theorem tw13301647513786599547:True:=⟨⟩
theorem tw13340997140499672165:True:=⟨⟩
theorem tw13478294033399162239:True:=⟨⟩
theorem tw13577434632410702600:True:=⟨⟩
theorem tw14221919277809057719:True:=⟨⟩
theorem tw14392047066932223216:True:=⟨⟩
theorem tw14696176784341792706:True:=⟨⟩
theorem tw14808580618442013672:True:=⟨⟩
theorem tw149010228643811640:True:=⟨⟩
theorem tw14936465259641680699:True:=⟨⟩
theorem tw14969393784636926115:True:=⟨⟩
theorem tw15028423076846634148:True:=⟨⟩
theorem tw15034142536194986262:True:=⟨⟩
theorem tw15142788331629599972:True:=⟨⟩
theorem tw15195227598870067249:True:=⟨⟩
theorem tw15310250877855502839:True:=⟨⟩
theorem tw15377449387701939125:True:=⟨⟩
theorem tw15388477666587686537:True:=⟨⟩
theorem tw15477346191443586986:True:=⟨⟩
theorem tw15520828079319437108:True:=⟨⟩
theorem tw15573182682400983953:True:=⟨⟩
theorem tw15601690168299854749:True:=⟨⟩
theorem tw15630449348371077958:True:=⟨⟩
theorem tw15773513856148165263:True:=⟨⟩
theorem tw15799682003356408305:True:=⟨⟩
theorem tw15820114549875916251:True:=⟨⟩
theorem tw15868180260811066816:True:=⟨⟩
theorem tw15898428097280587307:True:=⟨⟩
theorem tw16028560755132244399:True:=⟨⟩
theorem tw16082680068600370048:True:=⟨⟩
theorem tw16090123698162524612:True:=⟨⟩
theorem tw16239691567041898583:True:=⟨⟩
theorem tw16250265736461637716:True:=⟨⟩
theorem tw16400201578936443469:True:=⟨⟩
theorem tw16582164120588684445:True:=⟨⟩
theorem tw16610282656286891294:True:=⟨⟩
theorem tw16709101612244783432:True:=⟨⟩
theorem tw16769372900444498404:True:=⟨⟩
theorem tw16959441993298324598:True:=⟨⟩
theorem tw17020444962065263693:True:=⟨⟩
theorem tw17182027823693304341:True:=⟨⟩
theorem tw1721935416444383109:True:=⟨⟩
theorem tw17315126793276563144:True:=⟨⟩
theorem tw17327439835973234602:True:=⟨⟩
theorem tw17372075639687550013:True:=⟨⟩
theorem tw17421548391693776338:True:=⟨⟩
theorem tw17521499115380911613:True:=⟨⟩
theorem tw17522507155442558828:True:=⟨⟩
theorem tw17540696743758593425:True:=⟨⟩
theorem tw17888633831315889184:True:=⟨⟩
theorem tw17917715079653415655:True:=⟨⟩
theorem tw17961432266017352304:True:=⟨⟩
theorem tw17997971785193623342:True:=⟨⟩
theorem tw18057228795462010430:True:=⟨⟩
theorem tw18101288528771369455:True:=⟨⟩
theorem tw1820054842348305962:True:=⟨⟩
theorem tw1824116434521496354:True:=⟨⟩
theorem tw18328542735390221693:True:=⟨⟩
theorem tw18338247306646655034:True:=⟨⟩
theorem tw18373558446928953437:True:=⟨⟩
theorem tw18439717739542969395:True:=⟨⟩
theorem tw2004457067953580789:True:=⟨⟩
theorem tw2023028933918848743:True:=⟨⟩
theorem tw2089345341345850033:True:=⟨⟩
theorem tw2232744571473230159:True:=⟨⟩
theorem tw2309588917492109583:True:=⟨⟩
theorem tw2339764677255013094:True:=⟨⟩
theorem tw2564972647242307352:True:=⟨⟩
theorem tw2668971399898730412:True:=⟨⟩
theorem tw2747531993785065231:True:=⟨⟩
theorem tw2870194034432358812:True:=⟨⟩
theorem tw2882018315246086680:True:=⟨⟩
theorem tw2908346688760981140:True:=⟨⟩
theorem tw3070832865237815244:True:=⟨⟩
theorem tw3170301364835619428:True:=⟨⟩
theorem tw317169862055667349:True:=⟨⟩
theorem tw3230056291465965214:True:=⟨⟩
theorem tw3376717555661246086:True:=⟨⟩
theorem tw3411165691574960880:True:=⟨⟩
theorem tw3459972593139828610:True:=⟨⟩
theorem tw3521835412875762081:True:=⟨⟩
theorem tw3537696086484709702:True:=⟨⟩
theorem tw3580608313668012892:True:=⟨⟩
theorem tw3720522687537631057:True:=⟨⟩
theorem tw3731730357531331572:True:=⟨⟩
theorem tw3858770567077774907:True:=⟨⟩
theorem tw3889122265648047416:True:=⟨⟩
theorem tw4064740142091149624:True:=⟨⟩
theorem tw4108159681673430976:True:=⟨⟩
theorem tw411006808974192783:True:=⟨⟩
theorem tw4125659267096092684:True:=⟨⟩
theorem tw4224204292583443256:True:=⟨⟩
theorem tw4225948542723153305:True:=⟨⟩
theorem tw4231386676057770891:True:=⟨⟩
theorem tw4243195812680052056:True:=⟨⟩
theorem tw4248423242063928515:True:=⟨⟩
theorem tw4384781667211517792:True:=⟨⟩
theorem tw4391606867420769469:True:=⟨⟩
theorem tw4474556117821207966:True:=⟨⟩
theorem tw452161932078831962:True:=⟨⟩
theorem tw4598645239705813976:True:=⟨⟩
theorem tw4690132156059594829:True:=⟨⟩
theorem tw4736642758839745691:True:=⟨⟩
theorem tw4918119594943259598:True:=⟨⟩
theorem tw494974362011220138:True:=⟨⟩
theorem tw4985743219911435228:True:=⟨⟩
theorem tw50147146644230641:True:=⟨⟩
theorem tw5118185485053997871:True:=⟨⟩
theorem tw5195848376750754475:True:=⟨⟩
theorem tw5317443471459699834:True:=⟨⟩
theorem tw5469176848445043051:True:=⟨⟩
theorem tw5587510359931922799:True:=⟨⟩
theorem tw572125609271174772:True:=⟨⟩
theorem tw5808172307910610146:True:=⟨⟩
theorem tw5840586430905596593:True:=⟨⟩
theorem tw5842803021692727012:True:=⟨⟩
theorem tw5845366486600224182:True:=⟨⟩
theorem tw5854086664278509793:True:=⟨⟩
theorem tw5902218580121119928:True:=⟨⟩
theorem tw6250926899611530326:True:=⟨⟩
theorem tw6412026158050904494:True:=⟨⟩
theorem tw6586498829262587365:True:=⟨⟩
theorem tw6613292143445468466:True:=⟨⟩
theorem tw6689016571691468331:True:=⟨⟩
theorem tw6739499356659120215:True:=⟨⟩
theorem tw6771026400803306686:True:=⟨⟩
theorem tw6945088541357748066:True:=⟨⟩
theorem tw7134197082887366042:True:=⟨⟩
theorem tw7152576786541611035:True:=⟨⟩
theorem tw7180303619227060131:True:=⟨⟩
theorem tw7188395711875578413:True:=⟨⟩
theorem tw7197416334879328390:True:=⟨⟩
theorem tw7320739798193228467:True:=⟨⟩
theorem tw7354398892587979965:True:=⟨⟩
theorem tw7366015160708047705:True:=⟨⟩
theorem tw7572637760583985561:True:=⟨⟩
theorem tw7680584503437577137:True:=⟨⟩
theorem tw7725320158449168172:True:=⟨⟩
theorem tw77258648223686213:True:=⟨⟩
theorem tw7821142713609313587:True:=⟨⟩
theorem tw7862163034432888006:True:=⟨⟩
theorem tw7959961433057371005:True:=⟨⟩
theorem tw8024609520749992306:True:=⟨⟩
theorem tw8113519766762658472:True:=⟨⟩
theorem tw8208804383699600966:True:=⟨⟩
theorem tw8380918278374218219:True:=⟨⟩
theorem tw848755679509254566:True:=⟨⟩
theorem tw8508623790460681153:True:=⟨⟩
theorem tw8520684587254025279:True:=⟨⟩
theorem tw86268020601378490:True:=⟨⟩
theorem tw8723626231920529452:True:=⟨⟩
theorem tw8743965372205581051:True:=⟨⟩
theorem tw8746065691968887028:True:=⟨⟩
theorem tw8770627221215186283:True:=⟨⟩
theorem tw8838891635830383483:True:=⟨⟩
theorem tw8943007670201017978:True:=⟨⟩
theorem tw9188412133204860388:True:=⟨⟩
theorem tw9340517388715088193:True:=⟨⟩
theorem tw9432601532250952821:True:=⟨⟩
theorem tw9648329660389544550:True:=⟨⟩
theorem tw9649577889735457280:True:=⟨⟩
theorem tw9985279278271094053:True:=⟨⟩
end PySem.W.Fast
open PySem PySem.W PyProof.Rows
set_option maxRecDepth 100000 in
set_option maxHeartbeats 0 in
theorem PySem.Challenge.cw_caseways_k24_whole_rows_of_any_plan_lead_holds : PySem.Challenge.rw_caseways_k24_whole_rows_of_any_plan_lead.Holds := by
 w_on; o_law; k_head; (case hw=>w_witness2)
 k_fill
 refine K24.walk (l:=PySem.Challenge.rw_caseways_k24_whole_rows_of_any_plan_lead) rfl rfl (fun w h Y=>PySem.W.kIn_of Y) ?F
 case F=>
  intro w mg fa h KX G hmg
  refine' K24.all_mk KX G hmg ?d1 ?d2 ?d3 ?d4 ?d5 ?d6 ?d7 ?d8 ?d9 ?d10 ?d11 ?d12 ?d13 ?d14 ?d15 ?d16 ?d17 ?d18 ?d19 ?d20 ?d21 ?d22 ?d23 ?d24 ?d25 ?d26 ?d27 ?d28 ?d29 ?d30 ?d31 ?d32 ?d33 ?d34 ?d35 ?d36 ?d37 ?d38 ?d39 ?d40 ?d41 ?d42 ?d43 ?z ?w1 ?w2
  case d1|d2|d3|d4|d5|d6|d7|d8|d9|d10|d11|d12|d13|d14|d15|d16|d17|d18|d19|d20|d21|d22|d23|d24|d25|d26|d27|d28|d29|d30|d31|d32|d33|d34|d35|d36|d37|d38|d39|d40|d41|d42|d43=>(refine' ⟨_,_,_,_,_,_,_,_,_,_,?a,?l,?c,?k⟩; (case a=>k_is); (case l=>k_is); (case c=>k_is); (case k=>k_is))
  case z=>(refine' ⟨?_,?_,?_,?_,?_,?_,?_,?_,?_,?_,?_,?_,?_,?_,?_,?_,trivial⟩ <;> k_is)
  case w1|w2=>k_is
#print axioms PySem.Challenge.cw_caseways_k24_whole_rows_of_any_plan_lead_holds
