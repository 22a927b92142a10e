import PyProof.Rows.All
import Wide.All
import OpenK.AllK
import Wide.FinOn
import Lean
import PyProof.EqAt
import PyProof.EqKinds
import PyProof.TupleCall
import PyProof.NeData
import PySem.Challenge.RW_caseways_k35_papers_of_costs_spoilt
local macro_rules | `(tactic| omega) => `(tactic| first | with_reducible assumption | lia | omega +splitDisjunctions)
set_option Elab.async false
set_option linter.all false
set_option maxRecDepth 100000
theorem ω {p : Prop}(h : p := by omega) : p := h
theorem δ {p : Prop}(h : p := by decide) : p := h
theorem ψ {p : Prop}(h : p := by decide +kernel) : p := h
open List (all_cons any_cons any_eq_true cons_append ext_getElem filterMap_map flatMap_nil flatten_cons forIn_nil length_nil length_set map_map map_nil mem_filterMap nil_append of_mem_zip sum_cons take_zero)
open Option (getD_none map_some)
open PySem.W (fnOf kitOne mg_of nsIn)
open Array (toList_push)
open Nat (add_comm le_succ log2_lt lt_trans mod_lt ne_of_gt one_mul pow_one pow_succ pow_zero succ_pos)
open Int (add_zero zero_add)
open Bool (eq_false_iff)
open PySem renaming Value → An, wpAny_bind → Ap, Shared → AC, PyData → AD, wpAny_pure → AE, mainGlobals → AH, sizeLine → AK, starEach → AL, wpAny → AM, SetTable → AQ, Program → AU, Builtin → AZ, model → A0, World → Be, Around → BA, mem_of_lookup → BD, wpAny_newObj_type → BF, FuncData → BU, boot_len → B0, wpAny_mono → B5, wpAny_callSpecial?_slot → Cb, wpAny_setField_rec → Ch, wpAny_call_entry → Co, backTo → CB, wpAny_holding → CL, NameKind → CM, assignEach → CU, wpAny_field → CY, wpAny_seqItems → C5, rawInt → C9, binaryOp → Da, bootBuiltins → Dx, wpAny_truthy_bool → DC, foldedSetIterable → DD, sysModules → DE, attributeBase → DS, compareOp → D0, Scope → D3, wpAny_pyIter_list → D8, IsPair → Ex, Spec → EF, wpAny_Call_Name_kw → EH, closureFor → EI, wpAny_pyIter_tuple → EJ, wpAny_ite_false → EM, assign → ES, Keyword → EV, codeAny_mono → E5, wpAny_askSetting → E6, holding → Fc, codeAny_builtin → Fh, call_meets → Fm, Arguments → Fs, sliceBounds → Fu, keywordEach → FB, scanBound → FD, wpAny_getItem_str_slice → FF, pyNext → FH, cLine → FI, codeAny → FK, notedBy → FM, wpAny_Call_method_late → FO, setField → FR, wpAny_rule → F2, intKind → F4, wpAny_standAt → F5, swapsWithSole → F6, behindInMarks → F7, wpAny_attempt → F9, compEnvC → Gc, wpAny_newFunctionEnv → Go, wpAny_of_eq → GG, letOwnedTupleGo → GH, wpAny_passesOwn → GI, cellOf → GL, pickOrder → GU, codeAmong → GV, wpAny_pyIter_enum → Hd, wpAny_comprehension_free → Hm, wpAny_onRaise → Hn, swapsWith → HC, backToKw → HG, wpAny_isInstance → HH, again → IA, post_val_or_str → IC, wpAny_updateSeq_pair → IJ, wpAny_newTuple → IL, wpAny_fieldsOf → IP, getItem → IX, plainId_quiet → JA
open PySem.W renaming Frag → Au, codeIn → B9, keepIn → Cc, kla_obj → Cn, mg_none_of → CC, kia_one → CO, CodeHd → EA, findIn → G0, kitx_list → Hb, kitx_dict → Hc, tabObj → IR
open And renaming intro → AA
open PySem.Heap renaming get?_push_of_some → AB, get?_push_size → AY, lt_size → A3, SameBut → B7, size_push → CA, get?_update_other → C4, get?_update_self → F0
open List renaming getElem?_eq_getElem → AF, length_map → AG, length_append → AI, mem_singleton → AJ, size_toArray → AN, getD_eq_getElem?_getD → AO, getElem?_eq_some_iff → AR, mem_of_getElem? → AV, mem_cons → AX, getElem?_map → A5, mem_cons_self → A6, mem_append_right → Bi, not_mem_nil → Bz, map_append → BC, length_singleton → BE, mem_cons_of_mem → BI, Nodup → BM, length_cons → BN, mem_append → BS, replicate → B3, append_nil → Cf, getElem?_append_right → Cs, take_length → C0, lookup_cons_self → De, set_cons_zero → DA, set_cons_succ → DB, length_take → DL, lookup_cons → DM, length_filter_le → DT, map_cons → DV, mem_iff_getElem → D1, getElem?_append_left → D5, append_assoc → D7, mem_map → D9, length_eq_one_iff → Ee, mem_filter → Ev, eq_nil_of_length_eq_zero → ED, range → EG, filter_cons_of_pos → EK, filter_cons_of_neg → EL, pairwise_cons → ER, length_drop → EW, forIn_cons → EX, Perm → E8, getElem_mem → FA, filterMap_cons → FG, replicate_succ → FL, take_of_length_le → FU, mem_map_of_mem → FX, getElem?_eq_none → F1, mem_of_mem_drop → GM, toArray → GN, length_range → GO, flatMap_cons → GS, length_take_le → G1, mem_range → HA, map → HE, getElem?_toArray → HI, getElem?_cons_zero → HK, getElem?_cons_succ → HL, length_eq_zero_iff → HP, nodup_cons → HU, reverse_cons → HV, find?_cons → Ic, filter_eq_nil_iff → Iq, pairwise_lt_range → Ix, all_eq_true → IG, length_reverse → II, length_pos_iff → IM, map_eq_nil_iff → IU, getElem_of_mem → IZ
open PySem.Txt renaming slice → AW, slice_le → E9
open Bool renaming false_ne_true → A4, and_eq_true → C7, eq_iff_iff → Ff
open Option.some renaming inj → A7
open Nat renaming lt_of_lt_of_le → A8, le_refl → A9, le_trans → BB, ne_of_lt → BG, lt_succ_self → Ct, lt_succ_of_lt → CF, pow_le_pow_right → CH, lt_irrefl → C6, two_pow_pos → EO, zero_le → ET, zero_lt_succ → FS, lt_of_le_of_lt → FV, lt_of_sub_pos → F8, lt_or_ge → GB, le_of_lt → GY, testBit_lt_two_pow → Iy, sub_self → IH, add_le_add_right → IQ
open Int renaming toNat → BH, toNat_natCast → BO, emod_lt_of_pos → DZ, natCast_pow → EB, one_mul → EE, emod_nonneg → EZ, le_refl → IT
open PySem.PassesOwn renaming never → BQ
open PyProof.Rows renaming boot_isinstance → B1, callWith_type1 → C1, pendingOf → D2, Keyed → EC, firstMet → EN, IntsAre → EU, envOfC → Fk, boot_tuple → Fn, slot_tuple_getitem → FY, SortSt → F3, boot_list → GW, boot_int → HQ, AllBare → HR
open PySem.SeqAt renaming EqAt → B4
open Ne renaming symm → B6
open Option renaming map_eq_some_iff → B8
open PySem.Data renaming fields → CI, seq → GA
open Array renaming getElem?_toList → CS, length_toList → DJ, toList_append → Fa
open Or renaming inl → C2
open False renaming elim → C3
open ForInStep renaming yield → C8
open PySem.Obj renaming mapSeq → Db
open True renaming intro → DF
open Sum renaming inr → DH, inl → G2
open PySem.Calls renaming callWith_builtin → DI, spliced_cons → DU, spliced_nil → D4, evalArgs_plain → E3
open PySem.Str renaming ofString → D6, length_append → He
open PySem.F renaming slot_tuple_iterator_next → E4, called_set → E7, plainAttrs_list → FC, slot_zip_next → IB, args_list_append_2 → IE, entry_list_append → IY
open Classical renaming propDecidable → FE
open PyProof.Rows.F renaming plain_set_update_loop → HM
open PySem.Walks renaming list → HZ
open PySem.Paired renaming length → Jn
namespace L2
open PySem PySem.Spec PyProof.Rows
noncomputable abbrev Key:=Sum Int Str
noncomputable def DG:Key->An->Bool
 | .inl k,v=>An.isInt k v
 | .inr x,v=>An.isStrOf x v
noncomputable def adh (w:Be):Key->Int
 | .inl k=>hashInt k
 | .inr x=>hashStr w x
theorem fu:∀{k:Key}{v:An},DG k v=true->(∃i t,k=G2 i/\v=An.int i t)\/(∃x t,k=DH x/\v=An.str x t)
 | .inl i,v,h=>by
  obtain⟨t,e⟩:=An.isInt_shape (k:=i) (v:=v) h;exact .inl ⟨i,t,rfl,e⟩
 | .inr x,v,h=>by
  obtain⟨t,e⟩:=An.isStrOf_shape (x:=x) (v:=v) h;exact .inr ⟨x,t,rfl,e⟩
theorem Q5 (i:Int)(t:Tok):DG (.inl i) (.int i t)=true:=by simp [DG,An.isInt]
theorem Q0 (x:Str)(t:Tok):DG (.inr x) (.str x t)=true:=by simp [DG,An.isStrOf]
theorem abJ (a b:Int):decide ((G2 a:Key)=G2 b)=(a == b):=by
 by_cases e:a=b
 ·subst e;simp
 have h:¬(G2 a:Key)=G2 b:=fun q=>e (G2.inj q);rw[decide_eq_false h];exact(beq_eq_false_iff_ne.mpr e).symm
theorem abG (a b:Str):decide ((DH a:Key)=DH b)=decide (a=b):=by
 by_cases e:a=b
 ·subst e;simp
 have h:¬(DH a:Key)=DH b:=fun q=>e (DH.inj q);rw[decide_eq_false h,decide_eq_false e]
theorem abI (a:Int)(b:Str):decide ((G2 a:Key)=DH b)=false:=decide_eq_false (fun q=>nomatch q)
theorem abH (a:Str)(b:Int):decide ((DH a:Key)=G2 b)=false:=decide_eq_false (fun q=>nomatch q)
noncomputable def eX (prog:AU)(w:Be):PySem.KeyKind prog w Key where
 is:=DG
 hash:=adh w
 inj:=fun v a b ha hb=>by
  rcases fu ha with⟨i,t,rfl,rfl⟩|⟨x,t,rfl,rfl⟩
  ·rcases fu hb with⟨j,u,rfl,e⟩|⟨y,u,rfl,e⟩
   ·injection e with e1 _;rw[e1]
   exact nomatch e
  rcases fu hb with⟨j,u,rfl,e⟩|⟨y,u,rfl,e⟩
  ·exact nomatch e
  injection e with e1 _;rw[e1]
 byValue:=fun k v h=>by
  rcases fu h with⟨i,t,rfl,rfl⟩|⟨x,t,rfl,rfl⟩ <;> rfl
 pyHash:=fun hv h=>by
  rcases fu hv with⟨i,t,rfl,rfl⟩|⟨x,t,rfl,rfl⟩
  ·exact wpAny_pyHash_int h
  exact wpAny_pyHash_str h
 eqBool:=fun hu hv h=>by
  rcases fu hu with⟨i,t,rfl,rfl⟩|⟨x,t,rfl,rfl⟩
  ·rcases fu hv with⟨j,u,rfl,rfl⟩|⟨y,u,rfl,rfl⟩
   ·rw[abJ] at h;exact wpAny_eqBool_int h
   rw[abI] at h;exact B4.int_str i t y u _ _ _ _ h
  rcases fu hv with⟨j,u,rfl,rfl⟩|⟨y,u,rfl,rfl⟩
  ·rw[abH] at h;exact B4.str_int x t j u _ _ _ _ h
  rw[abG] at h;exact wpAny_eqBool_str h
 «strs»:=fun k x t v h=>by
  rcases fu h with⟨i,u,rfl,e⟩|⟨y,u,rfl,e⟩
  ·exact nomatch e
  injection e with e1 _;subst e1;cases v <;> rfl
theorem Jd (prog:AU)(w:Be)(i:Int)(t:Tok):(eX prog w).is (.inl i) (.int i t)=true:=Q5 i t
theorem Jc (prog:AU)(w:Be)(x:Str)(t:Tok):(eX prog w).is (.inr x) (.str x t)=true:=Q0 x t
inductive V where
 | non|bl (b:Bool)|int (i:Int)|str (x:Str)|byt (b:Array UInt8)|flt (b:UInt64)|ref (a:Addr)|ty (n:String)
 deriving DecidableEq
noncomputable def RelV:V->An->Prop
 | .non,u=>u=An.none
 | .bl b,u=>u=An.bool b
 | .int i,u=>∃t,u=An.int i t
 | .str x,u=>∃t,u=An.str x t
 | .byt b,u=>∃t,u=An.bytes b t
 | .flt b,u=>∃t,u=An.float b t
 | .ref a,u=>u=An.ref a
 | .ty n,u=>u=An.type n
noncomputable abbrev Vals:List V->List An->Prop:=Paired RelV
theorem Vals.length {xs:List V}{us:List An}(r:Vals xs us):xs.length=us.length:=Jn r
theorem Vals.get:∀{xs:List V}{us:List An}{i:Nat}{x:V},Vals xs us->xs[i]?=some x->∃u,us[i]?=some u/\RelV x u
 | _,_,_,_,.nil,e=>by simp at e
 | _,_,0,_,.cons r _,e=>by simp at e;subst e;exact⟨_,rfl,r⟩
 | _,_,i+1,x,.cons _ t,e=>by
  obtain⟨u,h1,h2⟩:=Vals.get (i:=i) (x:=x) t (by simpa using e);exact⟨u,by simpa using h1,h2⟩
theorem Vals.set {x:V}{u:An}(r:RelV x u):∀{xs:List V}{us:List An}(i:Nat),Vals xs us->Vals (xs.set i x) (us.set i u)
 | _,_,_,.nil=>.nil
 | _,_,0,.cons _ t=>.cons r t
 | _,_,i+1,.cons q t=>.cons q (Vals.set r i t)
theorem Vals.append:∀{xs ys:List V}{us ws:List An},Vals xs us->Vals ys ws->Vals (xs++ys) (us++ws)
 | _,_,_,_,.nil,s=>s
 | _,_,_,_,.cons r t,s=>.cons r (Vals.append t s)
theorem Vals.take:∀{xs:List V}{us:List An}(n:Nat),Vals xs us->Vals (xs.take n) (us.take n)
 | _,_,0,_=>.nil
 | _,_,_+1,.nil=>.nil
 | _,_,n+1,.cons r t=>.cons r (Vals.take n t)
theorem Vals.drop:∀{xs:List V}{us:List An}(n:Nat),Vals xs us->Vals (xs.drop n) (us.drop n)
 | _,_,0,r=>r
 | _,_,_+1,.nil=>.nil
 | _,_,n+1,.cons _ t=>Vals.drop n t
theorem Vals.none_of:∀{xs:List V}{us:List An}{i:Nat},Vals xs us->xs[i]?=none->us[i]?=none:=fun {xs us i} r e=>by
 have h1:=r.length;have h2:xs.length<=i:=List.getElem?_eq_none_iff.mp e;exact List.getElem?_eq_none_iff.mpr ω
noncomputable def Bp:Option V->Option An->Prop
 | some v,some u=>RelV v u
 | none,none=>True
 | _,_=>False
noncomputable def KV {κ:Type}:List (κ×V)->List (κ×An)->Prop:=Paired fun(p:κ×V)(q:κ×An)=>p.1=q.1/\RelV p.2 q.2
noncomputable def kV:Key->V
 | .inl i=>.int i
 | .inr x=>.str x
inductive HO where
 /-- a list -/
 | lst (xs:List V)
 /-- a tuple (never changes) -/
 | tup (xs:List V)
 /-- a dict whose keys are ints and texts;one whose keys are tuples of ints and texts (the empty one is both) -/
 | dK (kvs:List (Key×V))|dT (kvs:List (List Key×V))
 /-- a set of ints: its members,its size -/
 | set (S:Int->Bool) (n:Nat)
 /-- an instance of the class at C,its dict at dx,its attributes -/
 | ins (C dx:Addr) (fs:List (Str×V))
 /-- the dict of the instance at x -/
 | own (x:Addr)
 /-- the dict of an exception -/
 | xd (fs:List (Str×V))
 /-- a bound method,f of x -/
 | met (f x:Addr)
 /-- a range object lo,lo+1,.. below hi -/
 | rng (lo hi:Int)
 /-- a thing that is known to the object (the script;a dict while a loop walks it): read,never written while it is so -/
 | frz (o:Obj) (u:HO)
 /-- a code object's table -/
 | tbl (ps:Array An)
 /-- any other thing,by what is true of its one object (a def of one's own: SetO a S n:=HO.ext fun h=>..) -/
 | ext (φ:Heap->Prop)
noncomputable abbrev Hp:=Addr->Option HO
noncomputable def upd (H:Hp)(a:Addr)(o:HO):Hp:=fun b=>if b=a then some o else H b
theorem aB {H:Hp}{a:Addr}{o:HO}:upd H a o a=some o:=by unfold upd;rw[if_pos rfl]
theorem aM {H:Hp}{a b:Addr}{o:HO}(h:b≠a):upd H a o b=H b:=by unfold upd;rw[if_neg h]
theorem W7 {H:Hp}{a:Addr}{o u:HO}:upd (upd H a o) a u=upd H a u:=by
 funext b;unfold upd;split <;> rfl
theorem acO {H:Hp}{a b:Addr}{o u:HO}(h:H a=some o)(h':H b=some u)(d:o≠u):a≠b:=by
 intro e;subst e;rw[h] at h';exact d (A7 h')
theorem aF {H:Hp}{a b:Addr}{o:HO}(h:H a=some o)(h':H b=none):a≠b:=by
 intro e;subst e;rw[h] at h';cases h'
section
variable (P:AU)(w:Be)
noncomputable def cI (H:Hp)(h:Heap)(a:Addr):HO->Prop
 | .lst xs=>xs.length<=AK/\∃(its:List An)(n:Nat),Vals xs its/\h.get? a=some { cls:=.type "list",data:=.seq its.toArray n }
 | .tup xs=>xs.length<=AK/\∃its:List An,Vals xs its/\IsTup h a its.toArray
 | .dK kvs=>kvs.length<=AK/\(a == DE)=false/\∃vs,KV kvs vs/\h.DictOf (eX P w) a vs
 | .dT kvs=>kvs.length<=AK/\(a == DE)=false/\∃xs:List (List Key×Addr×An),
   Paired (fun(p:List Key×V)(q:List Key×Addr×An)=>p.1=q.1/\H q.2.1=some (.tup (p.1.map kV))/\RelV p.2 q.2.2) kvs xs /\
   ∃o es ep,h.get? a=some o/\o.ExactDict/\o.data=.dict es ep/\es.toList=xs.map (entryOfKey (tupleKind (eX P w)))/\(xs.map (·.1)).Nodup
 | .set S n=>h.SetOf (F4 P w) a S n
 | .ins C dx fs=>H dx=some (.own a)/\fs.length<=1000/\dx≠a/\h.get? a=some (PySem.W.instObj C dx) /\
   ∃mA,h.Ns1 dx mA/\(∀f,Bp (fs.lookup f) (mA f))/\PySem.Within mA (fs.map (·.1))
 | .own _=>∃o,h.get? a=some o
 | .xd fs=>∃mA,h.Ns1 a mA/\∀f,Bp (fs.lookup f) (mA f)
 | .rng lo hi=>∃t u v,h.get? a=some { cls:=.type "range",data:=.fields #[.int lo t,.int hi u,.int 1 v] }
 | .frz o u=>h.get? a=some o/\cI H h a u
 | .tbl ps=>h.get? a=some { cls:=.none,data:=.fields ps }
 | .met f x=>h.get? a=some (PySem.W.methodObj (.ref f) (.ref x))
 | .ext φ=>φ h/\(∃o,h.get? a=some o)/\∀h1 h2:Heap,φ h1->(∀o,h1.get? a=some o->h2.get? a=some o)->φ h2
noncomputable def HOk (H:Hp)(h:Heap):Prop:=∀a o,H a=some o->cI P w H h a o
end
section
variable {P:AU}{w:Be}{H H':Hp}{h h':Heap}{a:Addr}{o:HO}
theorem cI.lt (x:cI P w H h a o):a<h.objs.size:=by
 cases o with
 | lst xs=>obtain⟨_,_,_,_,e⟩:=x;exact A3 e
 | tup xs=>obtain⟨_,_,_,p⟩:=x;exact p.lt
 | dK kvs=>obtain⟨_,_,_,_,o,_,_,e,_⟩:=x;exact A3 e
 | dT kvs=>obtain⟨_,_,_,_,o,_,_,e,_⟩:=x;exact A3 e
 | set S n=>obtain⟨o,_,_,_,e,_⟩:=x;exact A3 e
 | ins C dx fs=>obtain⟨_,_,_,e,_⟩:=x;exact A3 e
 | own y=>obtain⟨_,e⟩:=x;exact A3 e
 | xd fs=>obtain⟨_,⟨_,_,_,e,_⟩,_⟩:=x;exact A3 e
 | rng lo hi=>obtain⟨_,_,_,e⟩:=x;exact A3 e
 | frz ob u=>obtain⟨e,_⟩:=x;exact A3 e
 | tbl ps=>exact A3 (show h.get? a=some _ from x)
 | met f y=>exact A3 (show h.get? a=some _ from x)
 | ext φ=>obtain⟨_,⟨_,e⟩,_⟩:=x;exact A3 e
theorem Paired.abA {α β:Type}{F G:α->β->Prop}:∀{l₁:List α}{l₂:List β},Paired F l₁ l₂->(∀a b,F a b->G a b)->Paired G l₁ l₂
 | _,_,.nil,_=>.nil
 | _,_,.cons r t,f=>.cons (f _ _ r) (Paired.abA t f)
theorem cI.stay (x:cI P w H h a o)(k:∀b u,(b=a\/H b=some (.own a))->h.get? b=some u->h'.get? b=some u)
  (ho:∀b,H b=some (.own a)->H' b=some (.own a)) (ht:∀b xs,H b=some (.tup xs)->H' b=some (.tup xs)):cI P w H' h' a o:=by
 induction o with
 | lst xs=>obtain⟨z,its,n,r,e⟩:=x;exact⟨z,its,n,r,k _ _ (.inl rfl) e⟩
 | tup xs=>obtain⟨z,its,r,ob,e,c⟩:=x;exact⟨z,its,r,ob,k _ _ (.inl rfl) e,c⟩
 | dK kvs=>obtain⟨z,y,vs,r,ob,es,ep,e,c⟩:=x;exact⟨z,y,vs,r,ob,es,ep,k _ _ (.inl rfl) e,c⟩
 | dT kvs=>
  obtain⟨z,y,xs,r,ob,es,ep,e,c⟩:=x;exact⟨z,y,xs,Paired.abA r fun p q z=>⟨z.1,ht _ _ z.2.1,z.2.2⟩,ob,es,ep,k _ _ (.inl rfl) e,c⟩
 | set S n=>obtain⟨ob,es,ep,t,e,c⟩:=x;exact⟨ob,es,ep,t,k _ _ (.inl rfl) e,c⟩
 | ins C dx fs=>
  obtain⟨d,z,ne,e,mA,⟨od,es,ep,e2,c⟩,r⟩:=x;exact⟨ho _ d,z,ne,k _ _ (.inl rfl) e,mA,⟨od,es,ep,k _ _ (.inr d) e2,c⟩,r⟩
 | own y=>obtain⟨ob,e⟩:=x;exact⟨ob,k _ _ (.inl rfl) e⟩
 | xd fs=>obtain⟨mA,⟨od,es,ep,e,c⟩,r⟩:=x;exact⟨mA,⟨od,es,ep,k _ _ (.inl rfl) e,c⟩,r⟩
 | rng lo hi=>obtain⟨t,u,v,e⟩:=x;exact⟨t,u,v,k _ _ (.inl rfl) e⟩
 | frz ob u ih=>obtain⟨e,q⟩:=x;exact⟨k _ _ (.inl rfl) e,ih q⟩
 | tbl ps=>
  have e:h.get? a=some { cls:=.none,data:=.fields ps }:=x;show h'.get? a=some { cls:=.none,data:=.fields ps };exact k a _ (.inl rfl) e
 | met f y=>
  have e:h.get? a=some (PySem.W.methodObj (.ref f) (.ref y)):=x;show h'.get? a=some (PySem.W.methodObj (.ref f) (.ref y));exact k a _ (.inl rfl) e
 | ext φ=>obtain⟨p,⟨o,e⟩,st⟩:=x;exact⟨st _ _ p fun o q=>k _ _ (.inl rfl) q,⟨o,k _ _ (.inl rfl) e⟩,st⟩
theorem HOk.lt (x:HOk P w H h)(e:H a=some o):a<h.objs.size:=(x a o e).lt
theorem HOk.fresh (x:HOk P w H h)(e:h.objs.size<=a):H a=none:=by
 cases q:H a with
 | none=>rfl
 | some u=>exact absurd (A8 (x.lt q) e) (C6 _)
theorem HOk.kept (x:HOk P w H h)(k:∀b u,h.get? b=some u->h'.get? b=some u):HOk P w H h':=fun a o e=>
 (x a o e).stay (fun b u _ q=>k b u q) (fun _ q=>q) fun _ _ q=>q
theorem HOk.laid (x:HOk P w H h)(k:∀b u,h.get? b=some u->h'.get? b=some u)(hp:h.objs.size<=a)(new:cI P w (upd H a o) h' a o):HOk P w (upd H a o) h':=fun b u e=>by
 have hn:=x.fresh hp;by_cases hb:b=a
 ·subst hb;rw[aB] at e;cases e;exact new
 rw[aM hb] at e;exact(x b u e).stay (fun c v _ q=>k c v q) (fun c q=>by rw[aM (aF q hn)];exact q) fun c xs q=>by rw[aM (aF q hn)];exact q
end
noncomputable def Rd (H:Hp)(a:Addr)(u:HO):Prop:=H a=some u\/∃o,H a=some (.frz o u)
theorem Rd.ok {P:AU}{w:Be}{H:Hp}{h:Heap}{a:Addr}{u:HO}(r:Rd H a u)(x:HOk P w H h):cI P w H h a u:=by
 rcases r with r|⟨o,r⟩
 ·exact x a u r
 obtain⟨_,q⟩:=x a _ r;exact q
noncomputable def Mut:Option HO->Prop
 | some (.lst _)=>True
 | some (.dK _)=>True
 | some (.dT _)=>True
 | some (.set _ _)=>True
 | some (.ins _ _ _)=>True
 | some (.ext _)=>True
 | _=>False
section
variable {P:AU}{w:Be}{H:Hp}{h h':Heap}{x e:Addr}{o':HO}
theorem HOk.write (ok:HOk P w H h)(mu:Mut (H x))(he:e=x\/H e=some (.own x))(k:∀b u,b≠e->h.get? b=some u->h'.get? b=some u)(heo:∃u,h'.get? e=some u)
  (new:cI P w (upd H x o') h' x o'):HOk P w (upd H x o') h':=fun b u q=>by
 have nown:∀c y,H c=some (.own y)->c≠x:=fun c y r z=>by subst z;rw[r] at mu;exact mu
 have ntup:∀c xs,H c=some (.tup xs)->c≠x:=fun c xs r z=>by subst z;rw[r] at mu;exact mu
 by_cases hb:b=x
 ·subst hb;rw[aB] at q;cases q;exact new
 rw[aM hb] at q;by_cases hbe:b=e
 ·have q':H b=some (.own x):=by
   rcases he with z|z
   ·exact absurd (hbe.trans z) hb
   rw[hbe];exact z
  rw[q] at q';cases q';obtain⟨v,hv⟩:=heo;exact⟨v,by rw[hbe];exact hv⟩
 refine(ok b u q).stay (fun c v hc r=>k c v ?_ r) (fun c r=>by rw[aM (nown c b r)];exact r) fun c xs r=>by rw[aM (ntup c xs r)];exact r
 rcases hc with rfl|hc
 ·exact hbe
 rintro rfl;rcases he with z|z
 ·exact nown c b hc z
 rw[hc] at z;cases z;exact hb rfl
end
structure Un (fs ex:List Addr)(H H':Hp)(h h':Heap):Prop where
 keep:∀b o,h.get? b=some o->H b=none->b∉fs->b∉ex->h'.get? b=some o
 slot:∀b o,h.get? b=some o->H b=none->b∈fs->b∉ex->∃sl,h'.get? b=some { o with slots:=sl }
 free:∀b o,h.get? b=some o->H b=none->b∉ex->H' b=none
 there:∀b o,h.get? b=some o->b∉ex->∃o',h'.get? b=some o'
 tups:∀b xs,H b=some (.tup xs)->H' b=some (.tup xs)
 frzs:∀b o u,H b=some (.frz o u)->H' b=some (.frz o u)
 tbls:∀b ps,H b=some (.tbl ps)->∃more,H' b=some (.tbl (ps++more))
section
variable {fs fs' ex ex':List Addr}{H H1 H2:Hp}{h h1 h2 h':Heap}{a x e:Addr}{o:HO}
theorem Un.any (u:Un fs ex H H1 h h1){b:Addr}{ob:Obj}(q:h.get? b=some ob)(n:H b=none)(hx:b∉ex):∃sl,h1.get? b=some { ob with slots:=sl }:=by
 by_cases hb:b∈fs
 ·exact u.slot b ob q n hb hx
 exact⟨ob.slots,u.keep b ob q n hb hx⟩
theorem Un.kept (k:∀b u,h.get? b=some u->h'.get? b=some u):Un fs ex H H h h':=
 ⟨fun b ob q _ _ _=>k b ob q,fun b ob q _ _ _=>⟨ob.slots,k b ob q⟩,fun _ _ _ n _=>n,fun b ob q _=>⟨ob,k b ob q⟩,fun _ _ q=>q,fun _ _ _ q=>q,fun _ ps q=>⟨#[],by rw[q];simp⟩⟩
theorem Un.refl:Un fs ex H H h h:=Un.kept fun _ _ q=>q
theorem Un.laid (k:∀b u,h.get? b=some u->h'.get? b=some u)(hp:h.objs.size<=a)(hn:H a=none):Un fs ex H (upd H a o) h h' where
 keep:=fun b u q _ _ _=>k b u q
 slot:=fun b u q _ _ _=>⟨u.slots,k b u q⟩
 free:=fun b u q n _=>by rw[aM (BG (A8 (A3 q) hp))];exact n
 there:=fun b u q _=>⟨u,k b u q⟩
 tups:=fun b xs q=>by rw[aM (aF q hn)];exact q
 frzs:=fun b u xs q=>by rw[aM (aF q hn)];exact q
 tbls:=fun b ps q=>⟨#[],by rw[aM (aF q hn),q];simp⟩
theorem Un.write (mu:Mut (H x))(he:e=x\/H e=some (.own x))(k:∀b u,b≠e->h.get? b=some u->h'.get? b=some u)(heo:∃u,h'.get? e=some u):Un fs ex H (upd H x o) h h':=by
 have hx:∀b,H b=none->b≠x:=fun b n z=>by subst z;rw[n] at mu;exact mu
 have hb:∀b,H b=none->b≠e:=fun b n z=>by
  subst z;rcases he with r|r
  ·exact hx b n r
  rw[n] at r;cases r
 have hm:∀b u,H b=some u->¬Mut (some u)->b≠x:=fun b u q nm z=>by subst z;rw[q] at mu;exact nm mu
 refine⟨fun b u q n _ _=>k b u (hb b n) q,fun b u q n _ _=>⟨u.slots,k b u (hb b n) q⟩,fun b u q n _=>by rw[aM (hx b n)];exact n,fun b u q _=>?_,
  fun b xs q=>by rw[aM (hm b _ q fun z=>z)];exact q,fun b u xs q=>by rw[aM (hm b _ q fun z=>z)];exact q,fun b ps q=>⟨#[],by rw[aM (hm b _ q fun z=>z),q];simp⟩⟩
 by_cases hbe:b=e
 ·subst hbe;exact heo
 exact⟨u,k b u hbe q⟩
end
noncomputable def trk (h:Heap)(H:Hp):List Addr:=(EG h.objs.size).filter fun a=>(H a).isSome
noncomputable def Cp (h:Heap)(H:Hp):Heap:=PySem.W.hideAll h (trk h H)
theorem Rc (h:Heap)(H:Hp):(Cp h H).objs.size=h.objs.size:=PySem.W.hideAll_size _ _
theorem V4 {h:Heap}{H:Hp}{b:Addr}{o:Obj}(e:h.get? b=some o)(n:H b=none):(Cp h H).get? b=some o:=
 PySem.W.hideAll_get _ e fun hm=>by
  have q:(H b).isSome=true:=(Ev.mp hm).2;rw[n] at q;simp at q
theorem Y5 {h:Heap}{H:Hp}{b:Addr}{o:Obj}(e:(Cp h H).get? b=some o):h.get? b=some o/\H b=none:=by
 have e':h.get? b=some o:=PySem.W.of_hideAll (trk h H) e;refine⟨e',?_⟩;cases q:H b with
 | none=>rfl
 | some x=>
  have hm:b∈trk h H:=Ev.mpr ⟨HA.mpr (A3 e'),by simp [q]⟩;have z:(Cp h H).get? b=none:=PySem.W.hideAll_none (trk h H) hm;rw[z] at e;cases e
structure Mod (K:Au)(mg:Str->Option An)(base:Heap):Prop where
 kin:K.In base
 glob:base.Ns AH mg
 blt:∃mb,base.Ns builtinsNs mb/\∀x:Str,x ≠ "__name__" -> mb x=Dx x
 nolimit:base.NoLimit
structure Cx where
 prog:AU
 w:Be
 K:Au
 mg:Str->Option An
 base:Heap
 A:BA
 N:List Str
 s₀:AC
 H₀:Hp
 env:Env
 outer:List Env
 stack:List Env
 ex:List Addr
 fn:Str->Bool
 calm:Bool
 pn:List (Addr×Obj)
 xe:An->AC->Prop
noncomputable def frs (l:List Env):List Addr:=l.filterMap (·.frame)
noncomputable abbrev Cx.fs (X:Cx):List Addr:=frs X.outer
noncomputable def Vis (sc:D3)(x:Str):Prop:=sc.names.lookup x=some .local\/sc.names.lookup x=some .cell\/sc.names.lookup x=some .free
noncomputable def Loc (sc:D3)(x:Str):Prop:=sc.names.lookup x=some .local\/sc.names.lookup x=some .cell
noncomputable def Look (env:Env)(h:Heap)(m:Str->Option An)(x:Str)(u:An):Prop:=
 (env.kindOf x=some .local/\m x=some u)\/((env.kindOf x=some .cell\/env.kindOf x=some .free)/\∃c,env.cells.lookup x=some c/\h.IsCell c (some u))
structure Cx.Ok (X:Cx):Prop where
 mod:Mod X.K X.mg X.base
 kind:X.env.scope.kind=.function
 glob:X.env.globals=AH
 blt:X.env.builtins=builtinsNs
 above:X.s₀.heap.objs.size<=X.env.locals
 inj:∀x y c,X.env.cells.lookup x=some c->X.env.cells.lookup y=some c->x=y
 has:∀x,(X.env.kindOf x=some .cell\/X.env.kindOf x=some .free)->∃c,X.env.cells.lookup x=some c
 cab:∀x c,X.fn x=true->X.env.cells.lookup x=some c->X.s₀.heap.objs.size<=c
 hd:X.calm=true->X.A.handled=none
 frames:X.A.frames=some X.stack
 stk:X.stack=X.outer\/(X.stack=X.env::X.outer/\X.env.frame=some X.env.locals)
 exf:∀b∈X.ex,b≠X.env.locals/\∀x c,X.env.cells.lookup x=some c->c≠b
 bs:∀b o,X.base.get? b=some o->X.s₀.heap.get? b=some o/\X.H₀ b=none
 bsz:X.base.objs.size<=X.s₀.heap.objs.size
 noex:∀b o,X.base.get? b=some o->b∉X.ex
 exfs:∀b∈X.ex,b∉X.fs
 sJ:X.s₀.heap.FunFrames X.base X.outer
 frf:∀b∈X.fs,X.H₀ b=none
structure Inv (X:Cx)(pins:List (Addr×Obj))(σ:List (Option V))(H:Hp)(s:AC):Prop where
 ok:X.Ok
 os:s.os=X.s₀.os
 bare:HR s.gens
 base:Un X.fs X.ex X.H₀ H X.s₀.heap s.heap
 loc:∃m,s.heap.Ns X.env.locals m/\∀(i:Nat)(x:Str)(v:V),X.N[i]?=some x->σ[i]?=some (some v)->Vis X.env.scope x->∃u,RelV v u/\Look X.env s.heap m x u
 cell:∀x c,X.env.cells.lookup x=some c->∃v,s.heap.IsCell c v
 free:H X.env.locals=none
 freeC:∀x c,X.env.cells.lookup x=some c->H c=none
 pin:∀p∈X.pn++pins,s.heap.get? p.1=some p.2/\H p.1=none/\p.1≠X.env.locals/\p.1∉X.fs/\∀v,p.2.data≠.cell v
 hok:HOk X.prog X.w H s.heap
 len:σ.length=X.N.length
section
variable {X:Cx}{pins:List (Addr×Obj)}{σ:List (Option V)}{H H':Hp}{s:AC}{h':Heap}
theorem Cx.Ok.adf (ok:X.Ok){b:Addr}{o:Obj}(e:X.base.get? b=some o):b∉X.fs:=fun hb=>by
 have:=(ok.sJ.mem hb).1;rw[e] at this;cases this
theorem Inv.bs (I:Inv X pins σ H s):∀b o,X.base.get? b=some o->s.heap.get? b=some o/\H b=none:=fun b o e=>
 ⟨I.base.keep b o (I.ok.bs b o e).1 (I.ok.bs b o e).2 (I.ok.adf e) (I.ok.noex b o e),I.base.free b o (I.ok.bs b o e).1 (I.ok.bs b o e).2 (I.ok.noex b o e)⟩
theorem Inv.bk (I:Inv X pins σ H s):∀b o,X.base.get? b=some o->s.heap.get? b=some o:=fun b o e=>(I.bs b o e).1
theorem Inv.mod (I:Inv X pins σ H s):Mod X.K X.mg X.base:=I.ok.mod
theorem Inv.kIn (I:Inv X pins σ H s):X.K.In s.heap:=I.ok.mod.kin.keeps I.bk
theorem Inv.lt (I:Inv X pins σ H s):X.env.locals<s.heap.objs.size:=let ⟨_,hn,_⟩:=I.loc;hn.lt
theorem Inv.sz (I:Inv X pins σ H s):X.s₀.heap.objs.size<=s.heap.objs.size:=BB I.ok.above (GY I.lt)
theorem Inv.Y7 (I:Inv X pins σ H s){a:Addr}(h:s.heap.objs.size<=a):a∉X.fs:=fun hb=>by
 obtain⟨_,o,ho,_⟩:=I.ok.sJ.mem hb;exact absurd (A8 (A3 ho) (BB I.sz h)) (C6 _)
theorem Inv.cne (I:Inv X pins σ H s):∀x c,X.env.cells.lookup x=some c->c≠X.env.locals:=fun x c e z=>by
 obtain⟨v,o,ho,hd⟩:=I.cell x c e;obtain⟨m,⟨o',es,ep,ho',hd',_⟩,_⟩:=I.loc;rw[z,ho'] at ho;cases ho;rw[hd'] at hd;cases hd
theorem Inv.sJ (I:Inv X pins σ H s):s.heap.FunFrames X.base X.outer:=by
 have all:∀(l:List Env),(∀b∈frs l,b∈X.fs)->X.s₀.heap.FunFrames X.base l->s.heap.FunFrames X.base l:=by
  intro l
  induction l with
  | nil=>intro _ _;trivial
  | cons env r ih=>
   intro hs hl;obtain⟨hk,⟨L,o,hf,hn,ho,hd⟩,hr⟩:=hl;have hL:L∈X.fs:=hs L (by unfold frs;rw[FG,hf];exact A6);obtain⟨sl,e⟩:=I.base.slot L o ho (I.ok.frf L hL) hL fun z=>I.ok.exfs L z hL;exact⟨hk,⟨L,_,hf,hn,e,hd⟩,ih (fun b hb=>hs b (by unfold frs;rw[FG,hf];exact BI _ hb)) hr⟩
 exact all X.outer (fun _ hb=>hb) I.ok.sJ
theorem Inv.stack (I:Inv X pins σ H s):s.heap.FunFrames X.base X.stack:=by
 rcases I.ok.stk with e|⟨e,hf⟩
 ·rw[e];exact I.sJ
 rw[e];obtain⟨m,hn,_⟩:=I.loc;refine .cons (by rw[I.ok.kind];decide) hf hn ?_ I.sJ;exact Heap.get?_none_of_le (BB I.ok.bsz I.ok.above)
theorem Inv.tO (I:Inv X pins σ H s):∀b∈frs X.stack,b∈X.env.locals::X.fs:=fun b hb=>by
 rcases I.ok.stk with e|⟨e,hf⟩
 ·rw[e] at hb;exact BI _ hb
 rw[e] at hb;unfold frs at hb;rw[FG,hf] at hb;exact hb
theorem Inv.M5 (I:Inv X pins σ H s):∀b∈frs X.stack,H b=none:=fun b hb=>by
 rcases AX.mp (I.tO b hb) with e|hb
 ·rw[e];exact I.free
 obtain⟨_,o,ho,_⟩:=I.ok.sJ.mem hb;exact I.base.free b o ho (I.ok.frf b hb) fun z=>I.ok.exfs b z hb
theorem Inv.step {g':Array GenState}{t':Nat}{d':Drawn}{ch:List Addr}(I:Inv X pins σ H s)
  (hch:∀b∈ch,(b∈X.ex\/X.s₀.heap.objs.size<=b)/\b≠X.env.locals/\(∀x c,X.env.cells.lookup x=some c->c≠b)/\∀p∈X.pn++pins,p.1≠b)
  (keep:∀b o,b≠X.env.locals->b∉X.fs->b∉ch->s.heap.get? b=some o->H b=none->h'.get? b=some o)
  (slot:∀b o,b≠X.env.locals->b∈X.fs->b∉ch->s.heap.get? b=some o->H b=none->∃sl,h'.get? b=some { o with slots:=sl }) (free:∀b o,b∉ch->s.heap.get? b=some o->H b=none->H' b=none)
  (there:∀b o,b∉ch->s.heap.get? b=some o->∃o',h'.get? b=some o')
  (tups:∀b xs,H b=some (.tup xs)->H' b=some (.tup xs)) (frzs:∀b o u,H b=some (.frz o u)->H' b=some (.frz o u)) (tbls:∀b ps,H b=some (.tbl ps)->∃more,H' b=some (.tbl (ps++more)))
  (ns:∀m,s.heap.Ns X.env.locals m->h'.Ns X.env.locals m) (hok:HOk X.prog X.w H' h') (hg:HR g') :
  Inv X pins σ H' { s with heap:=h',gens:=g',drawn:=d',toks:=t' }:=by
 have neL:∀b o,X.s₀.heap.get? b=some o->b≠X.env.locals:=fun b o e=>BG (A8 (A3 e) I.ok.above);have neC:∀b o,X.s₀.heap.get? b=some o->b∉X.ex->b∉ch:=fun b o e hx hb=>by
  rcases(hch b hb).1 with z|z
  ·exact hx z
  exact absurd (A8 (A3 e) z) (C6 _)
 have cellK:∀x c,X.env.cells.lookup x=some c->∀v,s.heap.IsCell c v->h'.IsCell c v:=fun x c e v ⟨o,ho,hd⟩=>by
  have nch:c∉ch:=fun z=>(hch c z).2.2.1 x c e rfl;by_cases hc:c∈X.fs
  ·obtain⟨sl,q⟩:=slot c o (I.cne x c e) hc nch ho (I.freeC x c e);exact⟨_,q,hd⟩
  exact⟨o,keep c o (I.cne x c e) hc nch ho (I.freeC x c e),hd⟩
 refine⟨I.ok,I.os,hg,⟨fun b o e n hb hx=>?_,fun b o e n hb hx=>?_,fun b o e n hx=>?_,fun b o e hx=>?_,fun b xs e=>tups b xs (I.base.tups b xs e),fun b o xs e=>frzs b o xs (I.base.frzs b o xs e),fun b ps e=>?_⟩,?_,fun x c e=>?_,?_,fun x c e=>?_,fun p hp=>?_,hok,I.len⟩
 ·exact keep b o (neL b o e) hb (neC b o e hx) (I.base.keep b o e n hb hx) (I.base.free b o e n hx)
 ·obtain⟨sl,e1⟩:=I.base.slot b o e n hb hx;obtain⟨sl',e2⟩:=slot b _ (neL b o e) hb (neC b o e hx) e1 (I.base.free b o e n hx);exact⟨sl',e2⟩
 ·obtain⟨o',e1⟩:=I.base.there b o e hx;exact free b o' (neC b o e hx) e1 (I.base.free b o e n hx)
 ·obtain⟨o',e1⟩:=I.base.there b o e hx;exact there b o' (neC b o e hx) e1
 ·obtain⟨m1,e1⟩:=I.base.tbls b ps e;obtain⟨m2,e2⟩:=tbls b _ e1;exact⟨m1++m2,by rw[e2,Array.append_assoc]⟩
 ·obtain⟨m,hn,hl⟩:=I.loc;refine⟨m,ns m hn,fun i x v e1 e2 e3=>?_⟩;obtain⟨u,r,l⟩:=hl i x v e1 e2 e3;refine⟨u,r,?_⟩;rcases l with l|⟨k,c,e,z⟩
  ·exact .inl l
  exact .inr ⟨k,c,e,cellK x c e _ z⟩
 ·obtain⟨v,z⟩:=I.cell x c e;exact⟨v,cellK x c e v z⟩
 ·obtain⟨m,⟨o,_,_,ho,_⟩,_⟩:=I.loc;exact free _ o (fun z=>(hch _ z).2.1 rfl) ho I.free
 ·obtain⟨v,o,ho,hd⟩:=I.cell x c e;exact free c o (fun z=>(hch c z).2.2.1 x c e rfl) ho (I.freeC x c e)
 obtain⟨e,n,ne,nf,d⟩:=I.pin p hp;have nch:p.1∉ch:=fun z=>(hch p.1 z).2.2.2 p hp rfl;exact⟨keep p.1 p.2 ne nf nch e n,free p.1 p.2 nch e n,ne,nf,d⟩
theorem Inv.un {t':Nat}(I:Inv X pins σ H s)(u:Un X.fs [] H H' s.heap h')(hok:HOk X.prog X.w H' h'):Inv X pins σ H' { s with heap:=h',toks:=t' }:=by
 obtain⟨m,⟨o,es,ep,ho,r⟩,_⟩:=id I.loc;obtain⟨sl,hL⟩:=u.any ho I.free (by simp);exact I.step (g':=s.gens) (d':=s.drawn) (ch:=[]) (fun _ z=>nomatch z) (fun b o _ hb _ e n=>u.keep b o e n hb (by simp)) (fun b o _ hb _ e n=>u.slot b o e n hb (by simp)) (fun b o _ e n=>u.free b o e n (by simp)) (fun b o _ e=>u.there b o e (by simp)) u.tups u.frzs u.tbls (fun m' hm=>by
  obtain⟨o',es',ep',ho',r'⟩:=hm;rw[ho] at ho';cases ho';exact⟨_,es',ep',hL,r'⟩) hok I.bare
theorem Inv.call {g':Array GenState}{t':Nat}{d':Drawn}{ch:List Addr}(I:Inv X pins σ H s)(u:Un (frs X.stack) ch H H' s.heap h')(hok:HOk X.prog X.w H' h')(hg:HR g')
  (hch:∀b∈ch,(b∈X.ex\/X.s₀.heap.objs.size<=b)/\b≠X.env.locals/\(∀x c,X.env.cells.lookup x=some c->c≠b)/\∀p∈X.pn++pins,p.1≠b) :
  Inv X pins σ H' { s with heap:=h',gens:=g',drawn:=d',toks:=t' }:=by
 obtain⟨m,⟨o,es,ep,ho,r⟩,_⟩:=id I.loc;obtain⟨sl,hL⟩:=u.any ho I.free fun z=>(hch _ z).2.1 rfl;exact I.step (ch:=ch) hch (fun b o hL hb hc e n=>u.keep b o e n (fun z=>(AX.mp (I.tO b z)).elim hL hb) hc) (fun b o _ _ hc e n=>u.any e n hc) (fun b o hc e n=>u.free b o e n hc) (fun b o hc e=>u.there b o e hc) u.tups u.frzs u.tbls (fun m' hm=>by
  obtain⟨o',es',ep',ho',r'⟩:=hm;rw[ho] at ho';cases ho';exact⟨_,es',ep',hL,r'⟩) hok hg
theorem Inv.turned {t':Nat}{it:Addr}(I:Inv X pins σ H s)(k:∀b o,b≠it->s.heap.get? b=some o->h'.get? b=some o)(hn:H it=none)(hL:it≠X.env.locals)
  (h1:it∈X.ex\/X.s₀.heap.objs.size<=it) (h2:∀x c,X.env.cells.lookup x=some c->c≠it) (h3:∀p∈X.pn++pins,p.1≠it):Inv X pins σ H { s with heap:=h',toks:=t' }:=by
 have nit:∀b u,H b=some u->b≠it:=fun b u e z=>by rw[z,hn] at e;cases e
 refine I.step (g':=s.gens) (d':=s.drawn) (ch:=[it]) (fun b hb=>?_) (fun b o _ _ hc e _=>k b o (fun z=>hc (by simp [z])) e) (fun b o _ _ hc e _=>⟨o.slots,k b o (fun z=>hc (by simp [z])) e⟩) (fun _ _ _ _ n=>n)
  (fun b o hc e=>⟨o,k b o (fun z=>hc (by simp [z])) e⟩) (fun _ _ e=>e) (fun _ _ _ e=>e) (fun b ps e=>⟨#[],by rw[e];simp⟩) (fun m hm=>?_) (fun b u e=>?_) I.bare
 ·have e:b=it:=by simpa using hb
  subst e;exact⟨h1,hL,h2,h3⟩
 ·obtain⟨o,es,ep,ho,r⟩:=hm;exact⟨o,es,ep,k _ o (B6 hL) ho,r⟩
 refine(I.hok b u e).stay (fun c v hc q=>k c v ?_ q) (fun _ q=>q) fun _ _ q=>q;rcases hc with z|z
 ·rw[z];exact nit b u e
 exact nit c _ z
theorem Inv.tok (I:Inv X pins σ H s)(t:Nat):Inv X pins σ H { s with toks:=t }:=I.un (h':=s.heap) (t':=t) Un.refl I.hok
theorem Inv.kept {t':Nat}(I:Inv X pins σ H s)(k:∀b u,s.heap.get? b=some u->h'.get? b=some u):Inv X pins σ H { s with heap:=h',toks:=t' }:=I.un (Un.kept k) (I.hok.kept k)
theorem Inv.laid {a:Addr}{o:HO}{t':Nat}(I:Inv X pins σ H s)(k:∀b u,s.heap.get? b=some u->h'.get? b=some u)(hp:s.heap.objs.size<=a)(new:cI X.prog X.w (upd H a o) h' a o) :
  Inv X pins σ (upd H a o) { s with heap:=h',toks:=t' }:=I.un (Un.laid k hp (I.hok.fresh hp)) (I.hok.laid k hp new)
theorem Inv.write {x e:Addr}{o:HO}{t':Nat}(I:Inv X pins σ H s)(mu:Mut (H x))(he:e=x\/H e=some (.own x))(k:∀b u,b≠e->s.heap.get? b=some u->h'.get? b=some u)(heo:∃u,h'.get? e=some u)
  (new:cI X.prog X.w (upd H x o) h' x o):Inv X pins σ (upd H x o) { s with heap:=h',toks:=t' }:=I.un (Un.write mu he k heo) (I.hok.write mu he k heo new)
theorem Inv.mz {pins':List (Addr×Obj)}(I:Inv X pins σ H s)(h:∀p∈pins',s.heap.get? p.1=some p.2/\H p.1=none/\p.1≠X.env.locals/\p.1∉X.fs/\∀v,p.2.data≠.cell v):Inv X pins' σ H s:=
 ⟨I.ok,I.os,I.bare,I.base,I.loc,I.cell,I.free,I.freeC,fun p hp=>(BS.mp hp).elim (fun z=>I.pin p (List.mem_append_left _ z)) (h p),I.hok,I.len⟩
theorem Iu {N:List Str}(hN:N.Nodup){i j:Nat}{x:Str}(a:N[i]?=some x)(b:N[j]?=some x):i=j:=by
 obtain⟨h1,e1⟩:=AR.mp a;obtain⟨h2,e2⟩:=AR.mp b;exact(List.getElem_inj hN).mp (e1.trans e2.symm)
theorem vO {M:Model}{A:BA}{E:An->AC->Prop}{i:Nat}{x:Str}{v:V}{u:An}{Q:Unit->AC->Prop}(I:Inv X pins σ H s)(hN:X.N.Nodup)(hi:X.N[i]?=some x)(hx:Loc X.env.scope x)(r:RelV v u)
  (h:∀s',Inv X pins (σ.set i (some v)) H s'->(∃a,B7 a s.heap s'.heap/\(a=X.env.locals\/X.env.cells.lookup x=some a))->Q () s') (hf:X.fn x=true\/X.env.scope.names.lookup x=some .local:=by first|exact .inl rfl|exact .inr rfl|assumption):AM M A (storeName X.env x u) Q E s:=by
 obtain⟨m,hn,hl⟩:=id I.loc;have hcls:(X.env.scope.kind == .class||(X.env.scope.kind == .module&&X.env.locals != X.env.globals))=false:=by rw[I.ok.kind];rfl
 have hiσ:i<σ.length:=by rw[I.len];exact(AR.mp hi).1
 have cne:=I.cne;have tracked:∀{a:Addr}{h':Heap},(∃o,s.heap.get? a=some o/\H a=none)->B7 a s.heap h'->HOk X.prog X.w H h':=fun {a h'} ha hs b ob e=>by
  obtain⟨_,_,hfree⟩:=ha;refine(I.hok b ob e).stay (fun c w' hc q=>(hs.2 c ?_).trans q) (fun _ q=>q) fun _ _ q=>q;rintro rfl;rcases hc with rfl|hc
  ·rw[hfree] at e;cases e
  rw[hfree] at hc;cases hc
 rcases hx with hk|hk
 ·refine wpAny_storeName_local hk hn (fun h' hn' hs=>?_) hcls;obtain⟨oL,_,_,hoL,_⟩:=id hn;refine h _ ⟨I.ok,I.os,I.bare,⟨fun b o e n hb hx=>?_,fun b o e n hb hx=>?_,I.base.free,fun b o e hx=>?_,I.base.tups,I.base.frzs,I.base.tbls⟩,⟨_,hn',fun j y v' e1 e2 e3=>?_⟩,fun y c e=>?_,I.free,I.freeC,fun p hp=>?_,tracked ⟨oL,hoL,I.free⟩ hs,by simpa using I.len⟩ ⟨_,hs,.inl rfl⟩
  ·exact(hs.2 b (BG (A8 (A3 e) I.ok.above))).trans (I.base.keep b o e n hb hx)
  ·obtain⟨sl,e1⟩:=I.base.slot b o e n hb hx;exact⟨sl,(hs.2 b (BG (A8 (A3 e) I.ok.above))).trans e1⟩
  ·obtain⟨o',e1⟩:=I.base.there b o e hx;exact⟨o',(hs.2 b (BG (A8 (A3 e) I.ok.above))).trans e1⟩
  ·by_cases hj:j=i
   ·subst hj;rw[hi] at e1;cases e1;rw[List.getElem?_set_self hiσ] at e2;cases e2;exact⟨u,r,.inl ⟨hk,by simp⟩⟩
   rw[List.getElem?_set_ne (B6 hj)] at e2;obtain⟨u',r',q⟩:=hl j y v' e1 e2 e3;refine⟨u',r',?_⟩;rcases q with⟨k,e⟩|⟨k,c,e,z⟩
   ·refine .inl ⟨k,?_⟩;have:y≠x:=fun e=>hj (Iu hN e1 (e ▸ hi));simp [this,e]
   exact .inr ⟨k,c,e,z.sameBut hs (cne y c e)⟩
  ·obtain⟨w',z⟩:=I.cell y c e;exact⟨w',z.sameBut hs (cne y c e)⟩
  obtain⟨e,n,ne,nf,d⟩:=I.pin p hp;exact⟨(hs.2 p.1 ne).trans e,n,ne,nf,d⟩
 have hfn:X.fn x=true:=by
  rcases hf with z|z
  ·exact z
  rw[z] at hk;cases hk
 obtain⟨c,hc⟩:=I.ok.has x (.inl hk);obtain⟨w',z⟩:=I.cell x c hc;refine wpAny_storeName_cell I.ok.kind hk hc z (fun h' hc' hs=>?_);obtain⟨oc,hoc,hocd⟩:=id z;refine h { s with heap:=h' } ⟨I.ok,I.os,I.bare,⟨fun b o e n hb hx=>?_,fun b o e n hb hx=>?_,I.base.free,fun b o e hx=>?_,I.base.tups,I.base.frzs,I.base.tbls⟩,⟨m,hn.sameBut hs (B6 (cne x c hc)),fun j y v' e1 e2 e3=>?_⟩,fun y c' e=>?_,I.free,I.freeC,fun p hp=>?_,tracked ⟨oc,hoc,I.freeC x c hc⟩ hs,by simpa using I.len⟩ ⟨c,hs,.inr hc⟩
 ·exact(hs.2 b (BG (A8 (A3 e) (I.ok.cab x c hfn hc)))).trans (I.base.keep b o e n hb hx)
 ·obtain⟨sl,e1⟩:=I.base.slot b o e n hb hx;exact⟨sl,(hs.2 b (BG (A8 (A3 e) (I.ok.cab x c hfn hc)))).trans e1⟩
 ·obtain⟨o',e1⟩:=I.base.there b o e hx;exact⟨o',(hs.2 b (BG (A8 (A3 e) (I.ok.cab x c hfn hc)))).trans e1⟩
 ·by_cases hj:j=i
  ·subst hj;rw[hi] at e1;cases e1;rw[List.getElem?_set_self hiσ] at e2;cases e2;exact⟨u,r,.inr ⟨.inl hk,c,hc,hc'⟩⟩
  rw[List.getElem?_set_ne (B6 hj)] at e2;obtain⟨u',r',q⟩:=hl j y v' e1 e2 e3;refine⟨u',r',?_⟩;rcases q with q|⟨k,c',e,z'⟩
  ·exact .inl q
  refine .inr ⟨k,c',e,z'.sameBut hs ?_⟩;rintro rfl;exact hj (Iu hN e1 (I.ok.inj _ _ _ e hc ▸ hi))
 ·by_cases hcc:c'=c
  ·subst hcc;exact⟨_,hc'⟩
  obtain⟨w2,z2⟩:=I.cell y c' e;exact⟨w2,z2.sameBut hs hcc⟩
 obtain⟨e,n,ne,nf,d⟩:=I.pin p hp;refine⟨(hs.2 p.1 ?_).trans e,n,ne,nf,d⟩;intro q;rw[q,hoc] at e;have q':oc=p.2:=A7 e;exact d w' (by rw[<- q'];exact hocd)
theorem Hv {M:Model}{A:BA}{E:An->AC->Prop}{i:Nat}{x:Str}{v:V}{u:An}{Q:Unit->AC->Prop}(I:Inv X pins σ H s)(hN:X.N.Nodup)(hi:X.N[i]?=some x)(hx:Loc X.env.scope x)(r:RelV v u)
  (h:∀s',Inv X pins (σ.set i (some v)) H s'->Q () s') (hf:X.fn x=true\/X.env.scope.names.lookup x=some .local:=by first|exact .inl rfl|exact .inr rfl|assumption):AM M A (storeName X.env x u) Q E s:=
 vO I hN hi hx r (fun s' I' _=>h s' I') hf
theorem Inv.call' {s':AC}{ch:List Addr}(I:Inv X pins σ H s)(ho:s'.os=s.os)(u:Un (frs X.stack) ch H H' s.heap s'.heap)(hok:HOk X.prog X.w H' s'.heap)(hg:HR s'.gens)
  (hch:∀b∈ch,(b∈X.ex\/X.s₀.heap.objs.size<=b)/\b≠X.env.locals/\(∀x c,X.env.cells.lookup x=some c->c≠b)/\∀p∈X.pn++pins,p.1≠b):Inv X pins σ H' s':=by
 obtain⟨h',g',d',t',o'⟩:=s';have e:o'=s.os:=ho;subst e;exact I.call (g':=g') (t':=t') (d':=d') u hok hg hch
end
noncomputable abbrev XK:=An->Option Addr->Hp->Prop
noncomputable abbrev St:=List (Option V)
noncomputable abbrev VK:=V->Hp->Prop
noncomputable abbrev TE:=St->Hp->VK->Prop
noncomputable abbrev TT:=St->Hp->(Bool->Hp->Prop)->Prop
noncomputable abbrev TA:=St->Hp->(List V->Hp->Prop)->Prop
structure Ends where
 nx:St->Hp->Prop
 rt:VK
 bk:St->Hp->Prop:=fun _ _=>False
 ct:St->Hp->Prop:=fun _ _=>False
noncomputable abbrev TS:=Ends->St->Hp->Prop
noncomputable def EP (X:Cx)(pins:List (Addr×Obj))(σ:St)(Q:VK)(u:An)(s':AC):Prop:=∃v H',Inv X pins σ H' s'/\RelV v u/\Q v H'
noncomputable def TP (X:Cx)(pins:List (Addr×Obj))(σ:St)(Q:Bool->Hp->Prop)(b:Bool)(s':AC):Prop:=∃H',Inv X pins σ H' s'/\Q b H'
noncomputable def AP (X:Cx)(pins:List (Addr×Obj))(σ:St)(Q:List V->Hp->Prop)(us:List An)(s':AC):Prop:=∃vs H',Inv X pins σ H' s'/\Vals vs us/\Q vs H'
noncomputable def SP (X:Cx)(pins:List (Addr×Obj))(D:Ends)(f:Flow)(s':AC):Prop:=
 match f with
 | .next=>∃σ' H',Inv X pins σ' H' s'/\D.nx σ' H'
 | .brk=>∃σ' H',Inv X pins σ' H' s'/\D.bk σ' H'
 | .cont=>∃σ' H',Inv X pins σ' H' s'/\D.ct σ' H'
 | .ret u=>∃v σ' H',Inv X pins σ' H' s'/\RelV v u/\D.rt v H'
noncomputable def PE (X:Cx)(e:Expr)(t:TE):Prop:=
 ∀(pins:List (Addr×Obj)) (s:AC) (σ:St) (H:Hp) (Q:VK),Inv X pins σ H s->t σ H Q->AM (A0 X.prog X.w) X.A (eval e X.env) (EP X pins σ Q) X.xe s
noncomputable def PT (X:Cx)(e:Expr)(t:TT):Prop:=
 ∀(pins:List (Addr×Obj)) (s:AC) (σ:St) (H:Hp) (Q:Bool->Hp->Prop),Inv X pins σ H s->t σ H Q->AM (A0 X.prog X.w) X.A (isTrue e X.env (eval e X.env)) (TP X pins σ Q) X.xe s
noncomputable def PW (X:Cx)(e:Expr)(t:TT):Prop:=
 ∀(whole:Sem An)(pins:List (Addr×Obj)) (s:AC) (σ:St) (H:Hp) (Q:Bool->Hp->Prop),Inv X pins σ H s->t σ H Q->AM (A0 X.prog X.w) X.A (isTrue e X.env whole) (TP X pins σ Q) X.xe s
theorem PW.pt {X:Cx}{e:Expr}{t:TT}(h:PW X e t):PT X e t:=h _
noncomputable def PA (X:Cx)(es:List Expr)(t:TA):Prop:=
 ∀(pos:Pos)(pins:List (Addr×Obj)) (s:AC) (σ:St) (H:Hp) (Q:List V->Hp->Prop),Inv X pins σ H s->t σ H Q->AM (A0 X.prog X.w) X.A (spliced (CB pos (AL es X.env))) (AP X pins σ Q) X.xe s
noncomputable def PS (X:Cx)(st:Stmt)(t:TS):Prop:=
 ∀(pins:List (Addr×Obj)) (s:AC) (σ:St) (H:Hp) (D:Ends),Inv X pins σ H s->t D σ H->AM (A0 X.prog X.w) X.A (exec st X.env) (SP X pins D) X.xe s
noncomputable def PSs (X:Cx)(st:List Stmt)(t:TS):Prop:=
 ∀(pins:List (Addr×Obj)) (s:AC) (σ:St) (H:Hp) (D:Ends),Inv X pins σ H s->t D σ H->AM (A0 X.prog X.w) X.A (execs st X.env) (SP X pins D) X.xe s
theorem thn {α:Type}{t:Sem α}{Q Q':α->AC->Prop}{M:Model}{A:BA}{E:An->AC->Prop}{s:AC}(h:AM M A t Q E s)(hQ:∀a s,Q a s->Q' a s):AM M A t Q' E s:=B5 h hQ fun _ _ x=>x
theorem thE {t:Sem An}{X:Cx}{pins:List (Addr×Obj)}{σ:St}{Q:VK}{Q':An->AC->Prop}{M:Model}{A:BA}{E:An->AC->Prop}{s:AC}(h:AM M A t (EP X pins σ Q) E s)(hQ:∀u s x H,Inv X pins σ H s->RelV x u->Q x H->Q' u s):AM M A t Q' E s:=thn h fun u s z=>by
 obtain⟨x,H,I,r,q⟩:=z;exact hQ u s x H I r q
theorem thA {t:Sem (List An)}{X:Cx}{pins:List (Addr×Obj)}{σ:St}{Q:List V->Hp->Prop}{Q':List An->AC->Prop}{M:Model}{A:BA}{E:An->AC->Prop}{s:AC}(h:AM M A t (AP X pins σ Q) E s)(hQ:∀u s x H,Inv X pins σ H s->Vals x u->Q x H->Q' u s):AM M A t Q' E s:=thn h fun u s z=>by
 obtain⟨x,H,I,r,q⟩:=z;exact hQ u s x H I r q
theorem thT {t:Sem Bool}{X:Cx}{pins:List (Addr×Obj)}{σ:St}{Q:Bool->Hp->Prop}{Q':Bool->AC->Prop}{M:Model}{A:BA}{E:An->AC->Prop}{s:AC}(h:AM M A t (TP X pins σ Q) E s)(hQ:∀u s H,Inv X pins σ H s->Q u H->Q' u s):AM M A t Q' E s:=thn h fun u s z=>by
 obtain⟨H,I,q⟩:=z;exact hQ u s H I q
section
variable {X:Cx}
noncomputable def PK (i:Nat):TE:=fun σ H Q=>∃v,σ[i]?=some (some v)/\Q v H
noncomputable def tC (v:V):TE:=fun _ H Q=>Q v H
theorem Uw {i:Nat}{x:Str}{pos:Pos}(hN:X.N[i]?=some x) (hv:Vis X.env.scope x) (hd:(x == ("__debug__" : Str))=false:=by decide) (hcd:(x == ("__classdict__" : Str))=false:=by decide):PE X (.Name x pos) (PK i):=by
 intro pins s σ H Q I h;obtain⟨v,e,h⟩:=h;obtain⟨m,hn,hl⟩:=I.loc;obtain⟨u,r,l⟩:=hl i x v hN e hv;have fin:EP X pins σ Q u s:=⟨v,H,I,r,h⟩;rcases l with⟨hk,hm⟩|⟨hk,c,hc,hcell⟩
 ·exact wpAny_Name (wpAny_loadName_local I.ok.kind hk hn hm fin) hd
 rcases hk with hk|hk
 ·exact wpAny_Name (wpAny_loadName_cell I.ok.kind hk hc hcell fin) hd
 exact wpAny_Name (wpAny_loadName_free I.ok.kind hk hc hcell fin hcd) hd
theorem Uy {i j pos}:PE X (.Constant (.int i) j pos) (tC (.int i)):=fun _ _ _ H _ I h=>wpAny_Constant_int ⟨.int i,H,I.tok _,⟨_,rfl⟩,h⟩
theorem acG {b j pos}:PE X (.Constant (.bool b) j pos) (tC (.bl b)):=fun _ _ _ H _ I h=>Constant_bool ⟨.bl b,H,I,rfl,h⟩
theorem abg {j pos}:PE X (.Constant .none j pos) (tC .non):=fun _ _ _ H _ I h=>Constant_none ⟨.non,H,I,rfl,h⟩
theorem abb {x j pos}:PE X (.Constant (.str x) j pos) (tC (.str x)):=fun _ _ _ H _ I h=>Calls.Constant_str ⟨.str x,H,I.tok _,⟨_,rfl⟩,h⟩
noncomputable def Gl (X:Cx)(x:Str):Prop:=X.env.kindOf x=some .globalImplicit
theorem Gj {E:An->AC->Prop}{pins:List (Addr×Obj)}{s:AC}{σ:St}{H:Hp}{x:Str}{u:An}{pos:Pos}{Q:An->AC->Prop}(I:Inv X pins σ H s)(hg:Gl X x)(hm:X.mg x=some u)(h:Q u s)
  (hd:(x == ("__debug__" : Str))=false:=by decide):AM (A0 X.prog X.w) X.A (eval (.Name x pos) X.env) Q E s:=
 Calls.Name_function_global I.ok.kind hg (Calls.loadGlobal_global (by rw[I.ok.glob];exact I.mod.glob.keeps I.bk) hm h) hd
theorem oH {E:An->AC->Prop}{pins:List (Addr×Obj)}{s:AC}{σ:St}{H:Hp}{x:Str}{u:An}{pos:Pos}{Q:An->AC->Prop}(I:Inv X pins σ H s)(hg:Gl X x)(hm:X.mg x=none)(hv:Dx x=some u)(h:Q u s)
  (hn:x ≠ "__name__" := by decide) (hd:(x == ("__debug__" : Str))=false:=by decide):AM (A0 X.prog X.w) X.A (eval (.Name x pos) X.env) Q E s:=by
 obtain⟨mb,h1,h2⟩:=I.mod.blt;exact Calls.Name_function_global I.ok.kind hg (Calls.loadGlobal_builtin (by rw[I.ok.glob];exact I.mod.glob.keeps I.bk) hm (by rw[I.ok.blt];exact h1.keeps I.bk) ((h2 x hn).trans hv) h) hd
theorem Yz {x:Str}{v:V}{u:An}{pos:Pos}(hg:Gl X x) (hm:X.mg x=some u) (r:RelV v u) (hd:(x == ("__debug__" : Str))=false:=by decide):PE X (.Name x pos) (tC v):=
 fun _ _ _ H _ I h=>Gj I hg hm ⟨v,H,I,r,h⟩ hd
theorem YH {x:Str}{v:V}{u:An}{pos:Pos}(hg:Gl X x) (hm:X.mg x=none) (hv:Dx x=some u) (r:RelV v u) (hn:x ≠ "__name__" := by decide) (hd:(x == ("__debug__" : Str))=false:=by decide):PE X (.Name x pos) (tC v):=
 fun _ _ _ H _ I h=>oH I hg hm hv ⟨v,H,I,r,h⟩ hn hd
variable {a b:Expr}{ta tb:TE}{pos:Pos}
noncomputable def tB (t:TE):TT:=fun σ H Q=>t σ H fun x H1=>∃c,x=.bl c/\Q c H1
theorem aaZ {e:Expr}{t:TE}(h:PE X e t)(he:∀whole,isTrue e X.env whole=(do let v <- whole;standAt e.pos;Fc [v] (truthy v)):=by intro _;rfl):PT X e (tB t):=by
 intro pins s σ H Q I hw;refine isTrue_plain (thE (h pins s σ H _ I hw) fun v s1 x H1 I1 r1 q1=>?_) (he _);obtain⟨d,rfl,q⟩:=q1;cases r1;exact DC ⟨H1,I1,q⟩
variable {tA tB':TT}{rest:List Expr}
noncomputable def Xd (t u:TT):TT:=fun σ H Q=>t σ H fun c H1=>if c=true then u σ H1 Q else Q false H1
noncomputable def tOr (t u:TT):TT:=fun σ H Q=>t σ H fun c H1=>if c=true then Q true H1 else u σ H1 Q
noncomputable def Xc (t:TT):TT:=fun σ H Q=>t σ H fun c H1=>Q (!c) H1
theorem Yd (ha:PT X a tA):PW X (.BoolOp .And [a] pos) tA:=by
 intro wh pins s σ H Q I h;refine isTrue_and (thn (ha pins s σ H Q I h) fun c s1 e=>?_);cases c with
 | true=>exact isTrue_and_nil e
 | false=>exact e
theorem aaX (ha:PT X a tA):PW X (.BoolOp .Or [a] pos) tA:=by
 intro wh pins s σ H Q I h;refine isTrue_or (thn (ha pins s σ H Q I h) fun c s1 e=>?_);cases c with
 | false=>exact isTrue_or_nil e
 | true=>exact e
theorem aaY (ha:PT X a tA)(hb:PW X (.BoolOp .And (b::rest) pos) tB'):PW X (.BoolOp .And (a::b::rest) pos) (Xd tA tB'):=by
 intro wh pins s σ H Q I h;refine isTrue_and (thT (ha pins s σ H _ I h) fun c s1 H1 I1 q1=>?_);cases c with
 | true=>exact hb wh pins s1 σ H1 Q I1 q1
 | false=>exact⟨H1,I1,q1⟩
theorem acu (ha:PT X a tA)(hb:PW X (.BoolOp .Or (b::rest) pos) tB'):PW X (.BoolOp .Or (a::b::rest) pos) (tOr tA tB'):=by
 intro wh pins s σ H Q I h;refine isTrue_or (thT (ha pins s σ H _ I h) fun c s1 H1 I1 q1=>?_);cases c with
 | true=>exact⟨H1,I1,q1⟩
 | false=>exact hb wh pins s1 σ H1 Q I1 q1
theorem aa1 (ha:PT X a tA):PT X (.UnaryOp .Not a pos) (Xc tA):=by
 intro pins s σ H Q I h;exact isTrue_not (ha pins s σ H (fun c H1=>Q (!c) H1) I h)
noncomputable def Tc (ta tb:TE):TE:=fun σ H Q=>ta σ H fun x H1=>∃c,x=.bl c/\if c=true then tb σ H1 Q else Q (.bl false) H1
noncomputable def aaz (ta tb:TE):TE:=fun σ H Q=>ta σ H fun x H1=>∃c,x=.bl c/\if c=true then Q (.bl true) H1 else tb σ H1 Q
noncomputable def SN (ta:TE):TE:=fun σ H Q=>ta σ H fun x H1=>∃c,x=.bl c/\Q (.bl (!c)) H1
theorem abe {op}{t:TE}(h:PE X a t):PE X (.BoolOp op [a] pos) t:=fun pins s σ H Q I hw=>BoolOp_one (h pins s σ H Q I hw)
theorem abk (ha:PE X a ta)(hb:PE X (.BoolOp .And (b::rest) pos) tb):PE X (.BoolOp .And (a::b::rest) pos) (Tc ta tb):=by
 intro pins s σ H Q I h;refine BoolOp_and (thE (ha pins s σ H _ I h) fun v s1 x H1 I1 r1 q1=>?_);obtain⟨c,rfl,q1⟩:=q1;cases r1;refine DC ?_;cases c with
 | true=>exact hb pins s1 σ H1 Q I1 q1
 | false=>exact⟨.bl false,H1,I1,rfl,q1⟩
theorem acz (ha:PE X a ta)(hb:PE X (.BoolOp .Or (b::rest) pos) tb):PE X (.BoolOp .Or (a::b::rest) pos) (aaz ta tb):=by
 intro pins s σ H Q I h;refine BoolOp_or (thE (ha pins s σ H _ I h) fun v s1 x H1 I1 r1 q1=>?_);obtain⟨c,rfl,q1⟩:=q1;cases r1;refine DC ?_;cases c with
 | false=>exact hb pins s1 σ H1 Q I1 q1
 | true=>exact⟨.bl true,H1,I1,rfl,q1⟩
theorem abf (ha:PE X a ta):PE X (.UnaryOp .Not a pos) (SN ta):=by
 intro pins s σ H Q I h;refine UnaryOp_ (thE (ha pins s σ H _ I h) fun v s1 x H1 I1 r1 q1=>?_);obtain⟨c,rfl,q1⟩:=q1;cases r1;exact not_of (DC ⟨.bl (!c),H1,I1,rfl,q1⟩)
noncomputable def tIf (t:TT)(ta tb:TE):TE:=fun σ H Q=>t σ H fun c H1=>if c=true then ta σ H1 Q else tb σ H1 Q
theorem Uz {c:Expr}(hc:PT X c tA)(ha:PE X a ta)(hb:PE X b tb):PE X (.IfExp c a b pos) (tIf tA ta tb):=by
 intro pins s σ H Q I h;refine wpAny_IfExp (thT (hc pins s σ H _ I h) fun d s1 H1 I1 q1=>?_);cases d with
 | true=>exact ha pins s1 σ H1 Q I1 q1
 | false=>exact hb pins s1 σ H1 Q I1 q1
end
noncomputable def SqL (K:Au)(H:Hp)(a:Addr)(xs:List V):Prop:=
 Rd H a (.lst xs) \/
  ∃(o:Obj)(its:Array An)(n:Nat),K.lookup a=some o/\o.cls=.type "list" /\ o.dict=none/\o.data=.seq its n/\its.size<=AK/\Vals xs its.toList
noncomputable def SqT (K:Au)(H:Hp)(a:Addr)(xs:List V):Prop:=
 Rd H a (.tup xs) \/
  ∃(o:Obj)(its:Array An)(n:Nat),K.lookup a=some o/\o.cls=.type "tuple" /\ o.data=.seq its n/\its.size<=AK/\Vals xs its.toList
noncomputable def adp:An->Option V
 | .none=>some .non
 | .bool b=>some (.bl b)
 | .int i _=>some (.int i)
 | .str x _=>some (.str x)
 | .bytes b _=>some (.byt b)
 | .float b _=>some (.flt b)
 | .ref a=>some (.ref a)
 | .type n=>some (.ty n)
 | _=>none
theorem RelV.abs {x:V}{u:An}(r:RelV x u):adp u=some x:=by
 cases x with
 | non=>cases r;rfl
 | bl _=>cases r;rfl
 | int _=>obtain⟨t,rfl⟩:=r;rfl
 | str _=>obtain⟨t,rfl⟩:=r;rfl
 | byt _=>obtain⟨t,rfl⟩:=r;rfl
 | flt _=>obtain⟨t,rfl⟩:=r;rfl
 | ref _=>cases r;rfl
 | ty _=>cases r;rfl
theorem RelV.inj {x y:V}{u:An}(r:RelV x u)(q:RelV y u):x=y:=A7 (r.abs.symm.trans q.abs)
theorem Vals.inj:∀{xs ys:List V}{us:List An},Vals xs us->Vals ys us->xs=ys
 | _,_,_,.nil,.nil=>rfl
 | _,_,_,.cons r t,.cons r' t'=>by rw[r.inj r',Vals.inj t t']
section
variable {X:Cx}{pins:List (Addr×Obj)}{σ:St}{H:Hp}{s:AC}{a:Addr}{xs ys:List V}
theorem SqL.of {K:Au}(h:H a=some (.lst xs)):SqL K H a xs:=.inl (.inl h)
theorem SqT.of {K:Au}(h:H a=some (.tup xs)):SqT K H a xs:=.inl (.inl h)
theorem Inv.list (I:Inv X pins σ H s)(h:SqL X.K H a xs):∃its:List An,Vals xs its/\PlainL s.heap a its.toArray/\xs.length<=AK:=by
 rcases h with h|⟨o,its,n,hk,hc,hd,hs,hz,r⟩
 ·obtain⟨z,its,n,r,e⟩:=h.ok I.hok;exact⟨its,r,⟨_,n,e,rfl,rfl,rfl⟩,z⟩
 refine⟨its.toList,r,⟨o,n,I.kIn a o hk,hc,hd,by simpa using hs⟩,?_⟩;have e:=r.length;simp only[DJ] at e;omega
theorem Inv.tuple (I:Inv X pins σ H s)(h:SqT X.K H a xs):∃its:List An,Vals xs its/\IsTup s.heap a its.toArray/\xs.length<=AK:=by
 rcases h with h|⟨o,its,n,hk,hc,hs,hz,r⟩
 ·obtain⟨z,its,r,p⟩:=h.ok I.hok;exact⟨its,r,p,z⟩
 refine⟨its.toList,r,⟨o,I.kIn a o hk,hc,n,by simpa using hs⟩,?_⟩;have e:=r.length;simp only[DJ] at e;omega
theorem Inv.Je (I:Inv X pins σ H s)(h:SqL X.K H a xs)(h':SqL X.K H a ys):xs=ys:=by
 obtain⟨its,r,⟨o,n,e,_,_,d⟩,_⟩:=I.list h;obtain⟨its',r',⟨o',n',e',_,_,d'⟩,_⟩:=I.list h';rw[e] at e';cases e';rw[d] at d';injection d' with d1 _;have:its=its':=by simpa using congrArg Array.toList d1
 subst this;exact r.inj r'
theorem Inv.qZ (I:Inv X pins σ H s)(h:SqT X.K H a xs)(h':SqT X.K H a ys):xs=ys:=by
 obtain⟨its,r,⟨o,e,_,n,d⟩,_⟩:=I.tuple h;obtain⟨its',r',⟨o',e',_,n',d'⟩,_⟩:=I.tuple h';rw[e] at e';cases e';rw[d] at d';injection d' with d1 _;have:its=its':=by simpa using congrArg Array.toList d1
 subst this;exact r.inj r'
end
noncomputable abbrev Cx.wish (X:Cx)(E:An->AC->Prop):Cx:={ X with xe:=E }
noncomputable abbrev Cx.nox (X:Cx):Cx:=X.wish fun _ _=>False
theorem Cx.Ok.wish {X:Cx}(ok:X.Ok)(E:An->AC->Prop):(X.wish E).Ok:=
 ⟨ok.mod,ok.kind,ok.glob,ok.blt,ok.above,ok.inj,ok.has,ok.cab,ok.hd,ok.frames,ok.stk,ok.exf,ok.bs,ok.bsz,ok.noex,ok.exfs,ok.sJ,ok.frf⟩
theorem Cx.Ok.pU {X:Cx}{E:An->AC->Prop}(ok:(X.wish E).Ok):X.Ok:=
 ⟨ok.mod,ok.kind,ok.glob,ok.blt,ok.above,ok.inj,ok.has,ok.cab,ok.hd,ok.frames,ok.stk,ok.exf,ok.bs,ok.bsz,ok.noex,ok.exfs,ok.sJ,ok.frf⟩
section
variable {X:Cx}{pins:List (Addr×Obj)}{σ:St}{H:Hp}{s:AC}{E:An->AC->Prop}
theorem Inv.wish (I:Inv X pins σ H s)(E:An->AC->Prop):Inv (X.wish E) pins σ H s:=⟨I.ok.wish E,I.os,I.bare,I.base,I.loc,I.cell,I.free,I.freeC,I.pin,I.hok,I.len⟩
theorem Inv.pU (I:Inv (X.wish E) pins σ H s):Inv X pins σ H s:=⟨I.ok.pU,I.os,I.bare,I.base,I.loc,I.cell,I.free,I.freeC,I.pin,I.hok,I.len⟩
theorem SP.pU {D:Ends}{f:Flow}{s':AC}(h:SP (X.wish E) pins D f s'):SP X pins D f s':=by
 cases f with
 | next=>obtain⟨σ',H',I,q⟩:=h;exact⟨σ',H',I.pU,q⟩
 | brk=>obtain⟨σ',H',I,q⟩:=h;exact⟨σ',H',I.pU,q⟩
 | cont=>obtain⟨σ',H',I,q⟩:=h;exact⟨σ',H',I.pU,q⟩
 | ret u=>obtain⟨v,σ',H',I,r,q⟩:=h;exact⟨v,σ',H',I.pU,r,q⟩
theorem PSs.nox {st:List Stmt}{t:TS}(h:PSs X.nox st t):PSs X st t:=fun pins s σ H D I hw=>
 B5 (h pins s σ H D (I.wish _) hw) (fun _ _ q=>q.pU) fun _ _ z=>C3 z
end
section
variable {X:Cx}{st:Stmt}{rest:List Stmt}{t u:TS}{e:Expr}{te:TE}{pos:Pos}
noncomputable def MK:TS:=fun D σ H=>D.nx σ H
noncomputable def Kg (t u:TS):TS:=fun D σ H=>t { D with nx:=u D } σ H
theorem Yj:PSs X [] MK:=fun _ _ σ H _ I h=>wpAny_execs_nil ⟨σ,H,I,h⟩
theorem Uq (h1:PS X st t)(h2:PSs X rest u):PSs X (st::rest) (Kg t u):=by
 intro pins s σ H D I h;refine wpAny_execs_cons (thn (h1 pins s σ H { D with nx:=u D } I h) fun f s1 q=>?_);cases f with
 | next=>
  obtain⟨σ',H',I',q⟩:=q;exact h2 pins s1 σ' H' D I' q
 | ret v=>exact q
 | brk=>exact q
 | cont=>exact q
theorem Yi (h1:PS X st t):PSs X [st] t:=by
 intro pins s σ H D I h;refine wpAny_execs_cons (thn (h1 pins s σ H D I h) fun f s1 q=>?_);cases f with
 | next=>exact wpAny_execs_nil q
 | ret v=>exact q
 | brk=>exact q
 | cont=>exact q
theorem Inv.quiet {pins:List (Addr×Obj)}{σ:St}{H:Hp}{s:AC}(I:Inv X pins σ H s):interactive X.env=false:=by simp [interactive,I.ok.kind]
noncomputable def wX (te:TE):TS:=fun D σ H=>te σ H fun _ H1=>D.nx σ H1
theorem Ym (he:PE X e te)(hs:HC e none pos.line X.env=pure false:=by rfl):PS X (.Expr e pos) (wX te):=by
 intro pins s σ H D I h;exact wpAny_Expr_any (thE (he pins s σ H _ I h) fun v s1 x H1 I1 r1 q1=>⟨σ,H1,I1,q1⟩) I.quiet hs
noncomputable def Kh (te:TE):TS:=fun D σ H=>te σ H D.rt
theorem aa3 (he:PE X e te):PS X (.Return (some e) pos) (Kh te):=by
 intro pins s σ H D I h;exact wpAny_Return_some (thE (he pins s σ H _ I h) fun v s1 x H1 I1 r1 q1=>⟨x,σ,H1,I1,r1,q1⟩)
noncomputable def PL (c:TT)(t u:TS):TS:=fun D σ H=>c σ H fun b H1=>if b=true then t D σ H1 else u D σ H1
theorem acw {c:Expr}{a b:List Stmt}{tc:TT}(hc:PT X c tc)(ha:PSs X a t)(hb:PSs X b u):PS X (.If c a b pos) (PL tc t u):=by
 intro pins s σ H D I h;refine wpAny_If (thT (hc pins s σ H _ I h) fun d s1 H1 I1 q1=>?_);cases d with
 | true=>exact ha pins s1 σ H1 D I1 q1
 | false=>exact hb pins s1 σ H1 D I1 q1
end
noncomputable abbrev TG:=V->St->Hp->(St->Hp->Prop)->Prop
noncomputable abbrev TGs:=List V->St->Hp->(St->Hp->Prop)->Prop
noncomputable def PG (X:Cx)(target:Expr)(t:TG):Prop:=
 ∀(pins:List (Addr×Obj)) (s:AC) (σ:St) (H:Hp) (v:V) (u:An) (Q:St->Hp->Prop),Inv X pins σ H s->RelV v u->t v σ H Q ->
  AM (A0 X.prog X.w) X.A (ES target X.env u) (fun _ s'=>∃σ' H',Inv X pins σ' H' s'/\Q σ' H') X.xe s
noncomputable def PGs (X:Cx)(ts:List Expr)(t:TGs):Prop:=
 ∀(pins:List (Addr×Obj)) (s:AC) (σ:St) (H:Hp) (vs:List V) (us:List An) (Q:St->Hp->Prop),Inv X pins σ H s->Vals vs us->t vs σ H Q ->
  AM (A0 X.prog X.w) X.A (assignInOrder ((CU ts X.env).map (·.2)) us) (fun _ s'=>∃σ' H',Inv X pins σ' H' s'/\Q σ' H') X.xe s
noncomputable abbrev W2:=V->V->V->Hp->(Hp->Prop)->Prop
noncomputable def W5 (X:Cx)(t:W2):Prop:=
 ∀(pins:List (Addr×Obj)) (s:AC) (σ:St) (H:Hp) (o i v:V) (ov iv u:An) (Q:Hp->Prop),Inv X pins σ H s->RelV o ov->RelV i iv->RelV v u->t o i v H Q ->
  AM (A0 X.prog X.w) X.A (setItem ov iv u) (fun _ s'=>∃H',Inv X pins σ H' s'/\Q H') X.xe s
section
variable {X:Cx}{pos:Pos}
noncomputable def j6 (i:Nat):TG:=fun v σ H Q=>Q (σ.set i (some v)) H
theorem NK {i:Nat}{x:Str}(hN:X.N.Nodup)(hi:X.N[i]?=some x)(hx:Loc X.env.scope x)(hf:X.fn x=true\/X.env.scope.names.lookup x=some .local:=by first|exact .inl rfl|exact .inr rfl|assumption):PG X (.Name x pos) (j6 i):=by
 intro pins s σ H v u Q I r h;exact wpAny_assign_Name (Hv I hN hi hx r (fun s' I'=>⟨_,H,I',h⟩) hf)
noncomputable def abV:TGs:=fun vs σ H Q=>vs=[]/\Q σ H
noncomputable def Wb (t:TG)(u:TGs):TGs:=fun vs σ H Q=>∃v r,vs=v::r/\t v σ H fun σ' H'=>u r σ' H' Q
theorem Yt:PGs X [] abV:=by
 intro pins s σ H vs us Q I r h;obtain⟨e,h⟩:=h;subst e;cases r;exact assignInOrder_nil ⟨σ,H,I,h⟩
theorem Uu {e:Expr}{es:List Expr}{t:TG}{u:TGs}(h1:PG X e t)(h2:PGs X es u)
  (hs:(CU (e::es) X.env).map (·.2)=ES e X.env::(CU es X.env).map (·.2):=by rfl):PGs X (e::es) (Wb t u):=by
 intro pins s σ H vs us Q I r h;obtain⟨v,vr,e1,h⟩:=h;subst e1;cases r with
 | cons r rr=>
  rw[hs];refine assignInOrder_cons (thn (h1 pins s σ H _ _ _ I r h) fun _ s1 ⟨σ1,H1,I1,q1⟩=>?_);exact h2 pins s1 σ1 H1 _ _ Q I1 rr q1
noncomputable def adi (K:Au)(n:Nat)(t:TGs):TG:=fun v σ H Q=>∃a xs,v=.ref a/\SqT K H a xs/\xs.length=n/\t xs σ H Q
theorem aa8 {es:List Expr}{k:Nat}{t:TGs}{n:Nat}(hc:X.calm=true)(h:PGs X es t)
  (hn:(CU es X.env).length=n:=by rfl) (hst:(CU es X.env).findIdx? (·.1)=none:=by rfl):PG X (.Tuple es k pos) (adi X.K n t):=by
 intro pins s σ H v u Q I r hw;obtain⟨a,xs,e1,hq,hl,hw⟩:=hw;subst e1;cases r;obtain⟨its,rv,ht,hz⟩:=I.tuple hq;refine assign_Tuple_tuple (I.ok.hd hc) ht (by simp [hn,<- hl,rv.length]) hst fun h' hx=>?_;have I1:Inv X pins σ H { s with heap:=h' }:=I.kept (t':=s.toks) fun b o e=>hx b o (BG (A3 e)) e;exact h pins _ σ H xs _ Q I1 (by simpa using rv) hw
noncomputable def Zz (to ti:TE)(t:W2):TG:=fun v σ H Q=>to σ H fun o H1=>ti σ H1 fun i H2=>t o i v H2 fun H3=>Q σ H3
theorem Uv {o i:Expr}{to ti:TE}{t:W2}(ho:PE X o to)(hi:PE X i ti)(hs:W5 X t)
  (ha:∀v,ES (.Subscript o i pos) X.env v=(do
   let ov <- Fc [v] (eval o X.env)
   let iv <- Fc [v,ov] (eval i X.env)
   standAt pos
   Fc [v,ov,iv] (setItem ov iv v)
   release [v,ov,iv] []):=by intro _;rfl):PG X (.Subscript o i pos) (Zz to ti t):=by
 intro pins s σ H v u Q I r h;rw[ha];refine Ap (CL (thE (ho pins s σ H _ I h) fun ov s1 x H1 I1 r1 q1=>?_));refine Ap (CL (thE (hi pins s1 σ H1 _ I1 q1) fun iv s2 y H2 I2 r2 q2=>?_));refine Ap (F5 (Ap (CL (thn (hs pins s2 σ H2 x y v ov iv u _ I2 r1 r2 r q2) fun _ s3 ⟨H3,I3,q3⟩=>?_))));exact wpAny_release ⟨σ,H3,I3,q3⟩
noncomputable def uG (te:TE)(g:TG):TS:=fun D σ H=>te σ H fun x H1=>g x σ H1 D.nx
theorem aa5 {tg e:Expr}{te:TE}{g:TG}(he:PE X e te)(hg:PG X tg g)(hs:F6 [tg] e pos.line X.env=pure false:=by rfl)(hw:swappedStores [tg] e X.env=pure none:=by rfl)
  (h1:(CU [tg] X.env).map (·.2)=[ES tg X.env]:=by rfl):PS X (.Assign [tg] e pos) (uG te g):=by
 intro pins s σ H D I h;refine wpAny_Assign_stores (thE (he pins s σ H _ I h) fun v s1 x H1 I1 r1 q1=>?_) hs hw;rw[h1];exact thn (hg pins s1 σ H1 x v _ I1 r1 q1) fun _ s2 q=>q
theorem aa2 {i:Nat}{x:Str}{e:Expr}{te:TE}{pos':Pos}(hN:X.N.Nodup)(hi:X.N[i]?=some x)(hx:Loc X.env.scope x)(he:PE X e te)(hs:HC e (some (.Name x pos')) pos.line X.env=pure false:=by rfl)(hf:X.fn x=true\/X.env.scope.names.lookup x=some .local:=by first|exact .inl rfl|exact .inr rfl|assumption) :
  PS X (.Assign [.Name x pos'] e pos) (uG te (j6 i)):=by
 intro pins s σ H D I h;refine wpAny_Assign_Name (thE (he pins s σ H _ I h) fun v s1 y H1 I1 r1 q1=>?_) hs;exact Hv I1 hN hi hx r1 (fun s2 I2=>⟨_,H1,I2,q1⟩) hf
end
structure It where
 go:Nat->Hp->Prop
 yld:Nat->Hp->V->Hp->Prop
 stop:Nat->Hp->Prop
noncomputable def sU (X:Cx)(pins:List (Addr×Obj))(H:Hp)(b:Addr):Prop:=
 H b=none/\b≠X.env.locals/\b∉X.fs/\(b∈X.ex\/X.s₀.heap.objs.size<=b)/\(∀x c,X.env.cells.lookup x=some c->c≠b)/\∀p∈X.pn++pins,p.1≠b
theorem Inv.LK {X:Cx}{pins:List (Addr×Obj)}{σ:St}{H H':Hp}{s:AC}{b:Addr}(I:Inv X pins σ H s)(hb:s.heap.objs.size<=b)(hn:H' b=none):sU X pins H' b:=by
 refine⟨hn,ne_of_gt (A8 I.lt hb),I.Y7 hb,.inr (BB I.sz hb),fun x c e z=>?_,fun p hp z=>?_⟩
 ·obtain⟨v,q⟩:=I.cell x c e;exact absurd (A8 q.lt (by rw[z];exact hb)) (C6 _)
 exact absurd (A8 (A3 (I.pin p hp).1) (by rw[z];exact hb)) (C6 _)
structure Turn (P:AU)(w:Be)(K:Au)(tg:Expr)(J:It)(fp:List Addr)(it:Addr)(tn:Nat->Heap->Prop):Prop where
 mem:it∈fp
 obj:∀i h,tn i h->∀b∈fp,∃o,h.get? b=some o/\∀v,o.data≠.cell v
 keep:∀i h h',tn i h->(∀b∈fp,∀o,h.get? b=some o->h'.get? b=some o)->tn i h'
 item:∀(X:Cx),X.prog=P->X.w=w->X.K=K->X.calm=true->∀(i:Nat)(pins:List (Addr×Obj)) (s:AC) (σ:St) (H:Hp) (E:An->AC->Prop),Inv X pins σ H s->(∀b∈fp,sU X pins H b)->tn i s.heap->J.go i H ->
  AM (A0 P w) X.A (FH (.ref it)) (fun r s1=>∃u,r=some u /\
   AM (A0 P w) X.A (GH tg (.ref it) u) (fun _ s2=>∃x H',Inv X pins σ H' s2/\RelV x u/\J.yld i H x H'/\tn (i+1) s2.heap/\∀b∈fp,H' b=none) E s1) E s
 done:∀(X:Cx),X.prog=P->X.w=w->X.K=K->X.calm=true->∀(i:Nat)(pins:List (Addr×Obj)) (s:AC) (σ:St) (H:Hp) (E:An->AC->Prop),Inv X pins σ H s->(∀b∈fp,sU X pins H b)->tn i s.heap->J.stop i H ->
  AM (A0 P w) X.A (FH (.ref it)) (fun r s1=>r=none/\Inv X pins σ H s1) E s
 self:∀(A:BA)(i:Nat)(s:AC)(Q:An->AC->Prop)(E:An->AC->Prop),tn i s.heap->Q (.ref it) s->AM (A0 P w) A (pyIter (.ref it)) Q E s
noncomputable abbrev TI:=St->Hp->(It->Hp->Prop)->Prop
noncomputable def PIE (X:Cx)(pins:List (Addr×Obj))(σ:St)(tg:Expr)(R:It->Hp->Prop)(itv:An)(s2:AC):Prop:=
 ∃(it:Addr)(fp:List Addr)(tn:Nat->Heap->Prop)(J:It)(H':Hp),itv=.ref it/\Inv X pins σ H' s2/\Turn X.prog X.w X.K tg J fp it tn/\tn 0 s2.heap/\(∀b∈fp,sU X pins H' b)/\R J H'
noncomputable def PI (X:Cx)(tg iter:Expr)(wi:TI):Prop:=
 ∀(pins:List (Addr×Obj)) (s:AC) (σ:St) (H:Hp) (R:It->Hp->Prop),Inv X pins σ H s->wi σ H R ->
  AM (A0 X.prog X.w) X.A (eval iter X.env) (fun v s1=>AM (A0 X.prog X.w) X.A (pyIter v) (PIE X pins σ tg R) X.xe s1) X.xe s
theorem V8 {M:Model}{A:BA}{E:An->AC->Prop}{s:AC}{tg:Expr}{it:Addr}{u:An}{o:Obj}{n:String}{vs:Array An}{Q:Unit->AC->Prop}(ho:s.heap.get? it=some o)(hc:o.cls=.type n)(hd:o.data=.fields vs)
  (hn:["enumerate","zip","dict_itemiterator","dict_reverseitemiterator","odict_iterator","itertools.zip_longest","itertools.pairwise"].contains n=false) (hQ:Q () s):AM M A (GH tg (.ref it) u) Q E s:=by
 unfold GH;cases tg <;> first
  | exact AE hQ
  | (cases u <;> first
    | exact AE hQ
    | (refine Ap (wpAny_load ho ?_)
       rw[hc,hd];show AM M A (if (["enumerate","zip","dict_itemiterator","dict_reverseitemiterator","odict_iterator","itertools.zip_longest","itertools.pairwise"].contains n&&vs[0]? == some (C9 _))=true then _ else _) Q E s;rw[if_neg (by intro h;rw[hn,Bool.false_and] at h;cases h)];exact AE hQ))
noncomputable def Itl (K:Au)(a:Addr):It:=
 ⟨fun i H=>∃xs x,SqL K H a xs/\xs[i]?=some x,fun i H x H'=>H'=H/\∀xs,SqL K H a xs->xs[i]?=some x,fun i H=>∃xs,SqL K H a xs/\xs.length<=i⟩
noncomputable def Itt (K:Au)(a:Addr):It:=
 ⟨fun i H=>∃xs x,SqT K H a xs/\xs[i]?=some x,fun i H x H'=>H'=H/\∀xs,SqT K H a xs->xs[i]?=some x,fun i H=>∃xs,SqT K H a xs/\xs.length<=i⟩
noncomputable def Itr (lo:Int)(n:Nat):It:=⟨fun i _=>i<n,fun i H x H'=>H'=H/\x=.int (lo+i),fun i _=>n<=i⟩
theorem Pq {P:AU}{w:Be}{K:Au}{tg:Expr}(a it:Addr):Turn P w K tg (Itl K a) [it] it (fun i h=>h.IsListIter it a i) where
 mem:=by simp
 obj:=fun i h st b hb=>by
  have e:b=it:=by simpa using hb
  subst e;obtain⟨o,e,c,d⟩:=st;exact⟨o,e,fun v z=>by rw[d] at z;cases z⟩
 keep:=fun i h h' st k=>st.at fun o e=>k it (by simp) o e
 item:=by
  intro X hP hw hK hc i pins s σ H E I hf st hg;subst hP hw hK;obtain⟨xs,x,hq,hx⟩:=hg;obtain⟨its,rv,p,hz⟩:=I.list hq;obtain⟨u,hu,ru⟩:=rv.get hx;obtain⟨f0,f1,f2,f3,f4,f5⟩:=hf it (by simp);refine wpAny_pyNext_list_item st p.isList (x:=u) (by simpa using hu) fun h' st' sb=>?_;have I1:Inv X pins σ H { s with heap:=h' }:=I.turned (t':=s.toks) (fun b o hb e=>(sb.2 b hb).trans e) f0 f1 f3 f4 f5;obtain⟨o,e,c,d⟩:=id st';exact⟨u,rfl,V8 (s:={ s with heap:=h' }) e c d δ ⟨x,H,I1,ru,⟨rfl,fun ys hy=>by rw[I.Je hy hq];exact hx⟩,st',fun b hb=>(hf b hb).1⟩⟩
 done:=by
  intro X hP hw hK hc i pins s σ H E I hf st hg;subst hP hw hK;obtain⟨xs,hq,hx⟩:=hg;obtain⟨its,rv,p,hz⟩:=I.list hq;obtain⟨f0,f1,f2,f3,f4,f5⟩:=hf it (by simp);have hl:=rv.length;exact wpAny_pyNext_list_end (I.ok.hd hc) st p.isList (by simp;omega) fun h' eb=>⟨rfl,I.turned (t':=s.toks) (fun b o hb e=>eb b o hb e) f0 f1 f3 f4 f5⟩
 self:=fun _ _ _ _ _ st h=>wpAny_pyIter_listiter st h
theorem Kd {P:AU}{w:Be}{K:Au}{tg:Expr}(a it:Addr):Turn P w K tg (Itt K a) [it] it (fun i h=>h.IsTupleIter it a i) where
 mem:=by simp
 obj:=fun i h st b hb=>by
  have e:b=it:=by simpa using hb
  subst e;obtain⟨o,e,c,d⟩:=st;exact⟨o,e,fun v z=>by rw[d] at z;cases z⟩
 keep:=fun i h h' st k=>st.at fun o e=>k it (by simp) o e
 item:=by
  intro X hP hw hK hc i pins s σ H E I hf st hg;subst hP hw hK;obtain⟨xs,x,hq,hx⟩:=hg;obtain⟨its,rv,p,hz⟩:=I.tuple hq;obtain⟨u,hu,ru⟩:=rv.get hx;obtain⟨f0,f1,f2,f3,f4,f5⟩:=hf it (by simp);refine wpAny_pyNext_tuple_item st (show s.heap.IsTuple a its.toArray from p) (x:=u) (by simpa using hu) fun h' st' sb=>?_;have I1:Inv X pins σ H { s with heap:=h' }:=I.turned (t':=s.toks) (fun b o hb e=>(sb.2 b hb).trans e) f0 f1 f3 f4 f5;obtain⟨o,e,c,d⟩:=id st';exact⟨u,rfl,V8 (s:={ s with heap:=h' }) e c d δ ⟨x,H,I1,ru,⟨rfl,fun ys hy=>by rw[I.qZ hy hq];exact hx⟩,st',fun b hb=>(hf b hb).1⟩⟩
 done:=by
  intro X hP hw hK hc i pins s σ H E I hf st hg;subst hP hw hK;obtain⟨xs,hq,hx⟩:=hg;obtain⟨its,rv,p,hz⟩:=I.tuple hq;obtain⟨f0,f1,f2,f3,f4,f5⟩:=hf it (by simp);have hl:=rv.length;exact wpAny_pyNext_tuple_end (I.ok.hd hc) st (show s.heap.IsTuple a its.toArray from p) (by simp;omega) fun h' eb=>⟨rfl,I.turned (t':=s.toks) (fun b o hb e=>eb b o hb e) f0 f1 f3 f4 f5⟩
 self:=fun _ _ _ _ _ st h=>wpAny_pyIter_tupleiter st h
theorem Ke {P:AU}{w:Be}{K:Au}{tg:Expr}(it:Addr)(lo:Int)(n:Nat):Turn P w K tg (Itr lo n) [it] it (fun i h=>IsRangeIter h it (lo+(i:Nat)*1) ((n:Int)-(i:Nat)) 1) where
 mem:=by simp
 obj:=fun i h st b hb=>by
  have e:b=it:=by simpa using hb
  subst e;exact⟨_,st,fun v z=>by
   have z':CI _=Data.cell v:=z;cases z'⟩
 keep:=fun i h h' st k=>k it (by simp) _ st
 item:=by
  intro X hP hw hK hc i pins s σ H E I hf st hg;subst hP hw hK;obtain⟨f0,f1,f2,f3,f4,f5⟩:=hf it (by simp);have W:=Walks.range (prog:=X.prog) (w:=X.w) (I.ok.hd hc) it lo 1 n;refine W.item i s _ _ hg st fun v h' tk hv st' kk=>?_;obtain⟨t,rfl⟩:=hv;have I1:Inv X pins σ H { s with heap:=h',toks:=tk }:=I.turned (fun b o hb e=>kk b o (by simpa using hb) e) f0 f1 f3 f4 f5;refine⟨_,rfl,V8 (s:={ s with heap:=h',toks:=tk }) (n := "range_iterator") st' rfl rfl δ ⟨.int (lo+i),H,I1,⟨t,?_⟩,⟨rfl,rfl⟩,st',fun b hb=>(hf b hb).1⟩⟩;rw[Int.mul_one]
 done:=by
  intro X hP hw hK hc i pins s σ H E I hf st hg;subst hP hw hK;obtain⟨f0,f1,f2,f3,f4,f5⟩:=hf it (by simp);exact wpAny_pyNext_range_end (I.ok.hd hc) st (by have:n<=i:=hg;omega) fun h' eb=>⟨rfl,I.turned (t':=s.toks) (fun b o hb e=>eb b o hb e) f0 f1 f3 f4 f5⟩
 self:=fun _ _ _ _ _ st h=>wpAny_pyIter_rangeiter st h
section
variable {X:Cx}{tg:Expr}
theorem Ig {pins:List (Addr×Obj)}{σ:St}{H:Hp}{s:AC}{R:It->Hp->Prop}{E:An->AC->Prop}{lo hi:Int}{t u v:Tok}{tk:Nat}(I:Inv X pins σ H s)(h1:-(2^62)<=lo)(h2:lo<2^62)(h3:-(2^62)<=hi)(h4:hi<2^62)
  (q:R (Itr lo (hi-lo).toNat) H):AM (A0 X.prog X.w) X.A (pyIter (.ref s.heap.objs.size)) (PIE X pins σ tg R) E { s with heap:=s.heap.push { cls:=.type "range",data:=.fields #[.int lo t,.int hi u,.int 1 v] },toks:=tk }:=by
 refine wpAny_pyIter_range (IsRange.new ..) (small_one h1 h2 h3 h4) ?_;have I1:Inv X pins σ H { s with heap:=s.heap.push { cls:=.type "range",data:=.fields #[.int lo t,.int hi u,.int 1 v] },toks:=tk }:=I.kept fun b o e=>AB _ e;refine⟨(s.heap.push { cls:=.type "range",data:=.fields #[.int lo t,.int hi u,.int 1 v] }).objs.size,[(s.heap.push { cls:=.type "range",data:=.fields #[.int lo t,.int hi u,.int 1 v] }).objs.size],_,_,H,rfl,
  I1.kept (t':=tk) fun b o e=>AB _ e,Ke _ lo (hi-lo).toNat,?_,fun b hb=>?_,q⟩
 ·have e1:lo+((0:Nat):Int)*1=lo:=by simp
  have e2:(((hi-lo).toNat:Nat):Int)-((0:Nat):Int)=AZ.Range.rangeSize lo hi 1:=by rw[rangeSize_one];split <;> omega
  show IsRangeIter _ _ (lo+((0:Nat):Int)*1) ((((hi-lo).toNat:Nat):Int)-((0:Nat):Int)) 1;rw[e1,e2];exact AY _ rfl
 have e:b=(s.heap.push { cls:=.type "range",data:=.fields #[.int lo t,.int hi u,.int 1 v] }).objs.size:=by simpa using hb
 subst e;exact I1.LK (A9 _) (I1.hok.fresh (A9 _))
noncomputable def pG (ta:TA):TI:=fun σ H R=>ta σ H fun vs H1=>∃j:Int,vs=[.int j]/\-(2^62)<=j/\j<2^62/\R (Itr 0 j.toNat) H1
noncomputable def Jh (ta:TA):TI:=fun σ H R=>ta σ H fun vs H1=>∃i j:Int,vs=[.int i,.int j]/\(-(2^62)<=i/\i<2^62/\-(2^62)<=j/\j<2^62)/\R (Itr i (j-i).toNat) H1
theorem Qj {a:Expr}{ta:TA}{p pos:Pos}(hg:Gl X "range") (hm:X.mg "range" = none) (ha:PA X [a] ta) (hs:AL [a] X.env=[(false,eval a X.env)]:=by rfl):PI X tg (.Call (.Name "range" p) [a] [] pos) (pG ta):=by
 intro pins s σ H R I h;refine Call_ (oH I hg hm boot_range (C1 (thA (ha pos pins s σ H _ I h) fun us s1 vs H1 I1 r1 q1=>?_) hs rfl));obtain⟨j,e,q1,q2,q⟩:=q1;subst e;cases r1 with
 | cons r rr=>
  cases rr;obtain⟨t,rfl⟩:=r;exact call_range_1 (Ig I1 ω ω q1 q2 (by simpa using q))
theorem Qi {a b:Expr}{ta:TA}{p pos:Pos}(hg:Gl X "range") (hm:X.mg "range" = none) (ha:PA X [a,b] ta) (hs:AL [a,b] X.env=[(false,eval a X.env),(false,eval b X.env)]:=by rfl) (hs2:AL [b] X.env=[(false,eval b X.env)]:=by rfl) :
  PI X tg (.Call (.Name "range" p) [a,b] [] pos) (Jh ta):=by
 intro pins s σ H R I h;refine Call_ (oH I hg hm boot_range (C1 (thA (ha pos pins s σ H _ I h) fun us s1 vs H1 I1 r1 q1=>?_) (by rw[hs,hs2]) (by rw[hs2];rfl)));obtain⟨i,j,e,⟨q1,q2,q3,q4⟩,q⟩:=q1;subst e;cases r1 with
 | cons r rr=>
  cases rr with
  | cons r' rr=>
   cases rr;obtain⟨t,rfl⟩:=r;obtain⟨t',rfl⟩:=r';exact call_range_2 (Ig I1 q1 q2 q3 q4 q)
noncomputable def aaA (wi:TI)(g:TG)(tb:TS):TS:=fun D σ H=>wi σ H fun J H1=>∃W:Nat->Nat->St->Hp->Prop,(∃m,W 0 m σ H1)/\∀i m σ H,W i m σ H ->
 (J.stop i H/\D.nx σ H)\/(J.go i H/\∃N:St->Hp->Prop,(∀σ' H',N σ' H'->∃m',m'<m/\W (i+1) m' σ' H')/\∀x H',J.yld i H x H'->g x σ H' fun σ2 H2=>tb { D with nx:=N,ct:=N,bk:=D.nx } σ2 H2)
noncomputable def jE (fp:List Addr)(h:Heap):List (Addr×Obj):=fp.filterMap fun b=>(h.get? b).map fun o=>(b,o)
theorem lM {fp:List Addr}{h:Heap}{b:Addr}{o:Obj}(hb:b∈fp)(e:h.get? b=some o):(b,o)∈jE fp h:=mem_filterMap.mpr ⟨b,hb,by rw[e];rfl⟩
theorem rD {fp:List Addr}{h:Heap}{p:Addr×Obj}(hp:p∈jE fp h):p.1∈fp/\h.get? p.1=some p.2:=by
 obtain⟨b,hb,e⟩:=mem_filterMap.mp hp;cases q:h.get? b with
 | none=>rw[q] at e;cases e
 | some o=>
  rw[q] at e;have e':(b,o)=p:=A7 e;subst e';exact⟨hb,q⟩
theorem Inv.pinned {pins:List (Addr×Obj)}{σ:St}{H:Hp}{s:AC}{fp:List Addr}(I:Inv X pins σ H s)(hf:∀b∈fp,sU X pins H b)(ho:∀b∈fp,∃o,s.heap.get? b=some o/\∀v,o.data≠.cell v):Inv X (pins++jE fp s.heap) σ H s:=
 I.mz fun p hp=>(BS.mp hp).elim (fun z=>I.pin p (Bi _ z)) fun z=>by
  obtain⟨hb,e⟩:=rD z;obtain⟨f0,f1,f2,_⟩:=hf p.1 hb;obtain⟨o,e',d⟩:=ho p.1 hb;rw[e] at e';cases e';exact⟨e,f0,f1,f2,d⟩
theorem Inv.mY {pins pl:List (Addr×Obj)}{σ:St}{H:Hp}{s:AC}(I:Inv X (pins++pl) σ H s):Inv X pins σ H s:=I.mz fun p hp=>I.pin p (Bi _ (List.mem_append_left _ hp))
theorem aa4 {iter:Expr}{body:List Stmt}{wi:TI}{g:TG}{tb:TS}{pos:Pos}(hp:PassesOwn (A0 X.prog X.w) X.A X.env X.xe)(hc:X.calm=true)(hi:PI X tg iter wi)(hg:PG X tg g)(hb:PSs X body tb)
  (hs:∀x,DD iter X.env x=pure x:=by intro _;rfl):PS X (.For tg iter body [] pos) (aaA wi g tb):=by
 intro pins s σ H D I h;refine wpAny_For (thn (hi pins s σ H _ I h) fun v s1 h1=>thn h1 fun itv s2 h2=>?_) hs;obtain⟨it,fp,tn,J,H2,e,I2,T,st2,f2,W,⟨m0,w0⟩,turn⟩:=h2;subst e
 -- what stays true of the iterator's objects through the loop
 have stat:∀{H':Hp},(∀b∈fp,H' b=none)->∀b∈fp,sU X pins H' b:=fun hn b hb=>⟨hn b hb,(f2 b hb).2⟩;refine codeAny_forLoop_any (fun n s'=>∃i σ' H',Inv X pins σ' H' s'/\tn i s'.heap/\(∀b∈fp,H' b=none)/\W i n σ' H') ?_ m0 ⟨0,σ,H2,I2,st2,fun b hb=>(f2 b hb).1,w0⟩;rintro n s3 ⟨i,σ3,H3,I3,st3,fr3,w3⟩;rcases turn i n σ3 H3 w3 with⟨stop,qn⟩|⟨go,N,hN,step⟩
 ·refine GI hp (thn (T.done X rfl rfl rfl hc i pins s3 σ3 H3 X.xe I3 (stat fr3) st3 stop) fun r s4 ⟨hr,I4⟩=>?_);subst hr;exact wpAny_execs_nil ⟨σ3,H3,I4,qn⟩
 refine GI hp (thn (T.item X rfl rfl rfl hc i pins s3 σ3 H3 X.xe I3 (stat fr3) st3 go) fun r s4 ⟨u,hr,h4⟩=>?_);subst hr;refine GI hp (thn h4 fun _ s5 ⟨x,H5,I5,r5,y5,st5,fr5⟩=>?_);have I5':=I5.pinned (stat fr5) (T.obj _ _ st5);refine GI hp (thn (hg _ s5 σ3 H5 x u _ I5' r5 (step x H5 y5)) fun _ s6 ⟨σ6,H6,I6,q6⟩=>?_);refine GI hp (thn (hb _ s6 σ6 H6 _ I6 q6) fun f s7 q7=>?_);have IA:∀{σ7:St}{H7:Hp},Inv X (pins++jE fp s5.heap) σ7 H7 s7->N σ7 H7->∃m,m<n/\∃i σ' H',Inv X pins σ' H' s7/\tn i s7.heap/\(∀b∈fp,H' b=none)/\W i m σ' H':=fun {σ7 H7} I7 n7=>by
  obtain⟨m',hm,w7⟩:=hN σ7 H7 n7;refine⟨m',hm,i+1,σ7,H7,I7.mY,T.keep _ _ _ st5 fun b hb o e=>(I7.pin (b,o) (Bi _ (Bi _ (lM hb e)))).1,fun b hb=>?_,w7⟩;obtain⟨o,e,d⟩:=T.obj _ _ st5 b hb;exact(I7.pin (b,o) (Bi _ (Bi _ (lM hb e)))).2.1
 cases f with
 | next=>obtain⟨σ7,H7,I7,n7⟩:=q7;exact IA I7 n7
 | cont=>obtain⟨σ7,H7,I7,n7⟩:=q7;exact IA I7 n7
 | brk=>obtain⟨σ7,H7,I7,q7⟩:=q7;exact⟨σ7,H7,I7.mY,q7⟩
 | ret v=>obtain⟨x7,σ7,H7,I7,r7,q7⟩:=q7;exact⟨x7,σ7,H7,I7.mY,r7,q7⟩
end
theorem Wf {K:Au}{a:Addr}{xs:List V}{g:TG}{tb:TS}{D:Ends}{σ:St}{H:Hp}(Pv:Nat->St->Hp->Prop)(h0:Pv 0 σ H)(hl:∀i σ H,i<=xs.length->Pv i σ H->SqL K H a xs)
  (hs:∀i x σ H,xs[i]?=some x->Pv i σ H->g x σ H fun σ2 H2=>tb { D with nx:=Pv (i+1),ct:=Pv (i+1),bk:=D.nx } σ2 H2) (hd:∀σ H,Pv xs.length σ H->D.nx σ H) :
  ∃W:Nat->Nat->St->Hp->Prop,(∃m,W 0 m σ H)/\∀i m σ H,W i m σ H ->
   ((Itl K a).stop i H/\D.nx σ H)\/((Itl K a).go i H/\∃N:St->Hp->Prop,(∀σ' H',N σ' H'->∃m',m'<m/\W (i+1) m' σ' H')/\∀x H',(Itl K a).yld i H x H'->g x σ H' fun σ2 H2=>tb { D with nx:=N,ct:=N,bk:=D.nx } σ2 H2):=by
 refine⟨fun i m σ H=>m=xs.length-i/\i<=xs.length/\Pv i σ H,⟨xs.length,by simp,ET _,h0⟩,?_⟩;rintro i m σ H ⟨rfl,hi,p⟩;have q:=hl i σ H hi p;by_cases hlt:i<xs.length
 ·refine .inr ⟨⟨xs,xs[i],q,by simp [hlt]⟩,Pv (i+1),fun σ' H' p'=>⟨xs.length-(i+1),ω,rfl,hlt,p'⟩,fun x H' y=>?_⟩;obtain⟨e,y⟩:=y;subst e;exact hs i x σ _ (y xs q) p
 have e:i=xs.length:=ω;subst e;exact .inl ⟨⟨xs,q,A9 _⟩,hd σ H p⟩
theorem Rn {lo:Int}{n:Nat}{g:TG}{tb:TS}{D:Ends}{σ:St}{H:Hp}(Pv:Nat->St->Hp->Prop)(h0:Pv 0 σ H)
  (hs:∀i σ H,i<n->Pv i σ H->g (.int (lo+i)) σ H fun σ2 H2=>tb { D with nx:=Pv (i+1),ct:=Pv (i+1),bk:=D.nx } σ2 H2) (hd:∀σ H,Pv n σ H->D.nx σ H) :
  ∃W:Nat->Nat->St->Hp->Prop,(∃m,W 0 m σ H)/\∀i m σ H,W i m σ H ->
   ((Itr lo n).stop i H/\D.nx σ H)\/((Itr lo n).go i H/\∃N:St->Hp->Prop,(∀σ' H',N σ' H'->∃m',m'<m/\W (i+1) m' σ' H')/\∀x H',(Itr lo n).yld i H x H'->g x σ H' fun σ2 H2=>tb { D with nx:=N,ct:=N,bk:=D.nx } σ2 H2):=by
 refine⟨fun i m σ H=>m=n-i/\i<=n/\Pv i σ H,⟨n,by simp,ET _,h0⟩,?_⟩;rintro i m σ H ⟨rfl,hi,p⟩;by_cases hlt:i<n
 ·refine .inr ⟨hlt,Pv (i+1),fun σ' H' p'=>⟨n-(i+1),ω,rfl,hlt,p'⟩,fun x H' y=>?_⟩;obtain⟨e,y⟩:=y;subst e y;exact hs i σ _ hlt p
 have e:i=n:=ω;subst e;exact .inl ⟨A9 _,hd σ H p⟩
noncomputable abbrev R2:=V->V->Hp->VK->Prop
noncomputable def OpR (X:Cx)(f:An->An->Sem An)(r:R2):Prop:=
 ∀(pins:List (Addr×Obj)) (s:AC) (σ:St) (H:Hp) (x y:V) (v u:An) (Q:VK),Inv X pins σ H s->RelV x v->RelV y u->r x y H Q ->
  AM (A0 X.prog X.w) X.A (f v u) (EP X pins σ Q) X.xe s
noncomputable def UnR (X:Cx)(f:An->Sem An)(r:V->Hp->VK->Prop):Prop:=
 ∀(pins:List (Addr×Obj)) (s:AC) (σ:St) (H:Hp) (x:V) (v:An) (Q:VK),Inv X pins σ H s->RelV x v->r x H Q ->
  AM (A0 X.prog X.w) X.A (f v) (EP X pins σ Q) X.xe s
noncomputable def dN (X:Cx)(f:An)(r:List V->Hp->VK->Prop):Prop:=
 ∀(pins:List (Addr×Obj)) (s:AC) (σ:St) (H:Hp) (xs:List V) (us:List An) (Q:VK),Inv X pins σ H s->Vals xs us->r xs H Q ->
  AM (A0 X.prog X.w) X.A (call f us) (EP X pins σ Q) X.xe s
noncomputable def adu (X:Cx)(r:V->Hp->(Bool->Hp->Prop)->Prop):Prop:=
 ∀(pins:List (Addr×Obj)) (s:AC) (σ:St) (H:Hp) (x:V) (v:An) (Q:Bool->Hp->Prop),Inv X pins σ H s->RelV x v->r x H Q ->
  AM (A0 X.prog X.w) X.A (truthy v) (TP X pins σ Q) X.xe s
noncomputable def tOp (r:R2)(ta tb:TE):TE:=fun σ H Q=>ta σ H fun x H1=>tb σ H1 fun y H2=>r x y H2 Q
noncomputable def tUn (r:V->Hp->VK->Prop)(ta:TE):TE:=fun σ H Q=>ta σ H fun x H1=>r x H1 Q
noncomputable def rI (C:Int->Int->Prop)(g:Int->Int->V):R2:=fun x y H Q=>∃i j,x=.int i/\y=.int j/\C i j/\Q (g i j) H
noncomputable def rI0 (g:Int->Int->V):R2:=fun x y H Q=>∃i j,x=.int i/\y=.int j/\Q (g i j) H
noncomputable def rU (g:Int->V):V->Hp->VK->Prop:=fun x H Q=>∃i,x=.int i/\Q (g i) H
section
variable {X:Cx}{a b c:Expr}{ta tb tc:TE}{pos:Pos}
theorem ab3 (ha:PE X a ta)(hb:PE X b tb){pins:List (Addr×Obj)}{s:AC}{σ:St}{H:Hp}{R:V->V->Hp->Prop}(I:Inv X pins σ H s)
  (h:ta σ H fun x H1=>tb σ H1 fun y H2=>R x y H2) {Q:An->AC->Prop} {f:An->An->Sem An}
  (hf:∀v u s2 x y H2,Inv X pins σ H2 s2->RelV x v->RelV y u->R x y H2->AM (A0 X.prog X.w) X.A (f v u) Q X.xe s2) :
  AM (A0 X.prog X.w) X.A (eval a X.env) (fun v s₁=>AM (A0 X.prog X.w) X.A (eval b X.env) (fun u s₂=>AM (A0 X.prog X.w) X.A (f v u) Q X.xe s₂) X.xe s₁) X.xe s:=by
 refine thE (ha pins s σ H _ I h) fun v s1 x H1 I1 r1 q1=>?_;refine thE (hb pins s1 σ H1 _ I1 q1) fun u s2 y H2 I2 r2 q2=>?_;exact hf v u s2 x y H2 I2 r1 r2 q2
theorem acA {op:Operator}{r:R2}(ho:OpR X (Da op) r)(ha:PE X a ta)(hb:PE X b tb):PE X (.BinOp a op b pos) (tOp r ta tb):=by
 intro pins s σ H Q I h;exact wpAny_BinOp (ab3 ha hb I h fun v u s2 x y H2 I2 rx ry q=>ho pins s2 σ H2 x y v u Q I2 rx ry q)
theorem aai {op:UnaryOp}{r:V->Hp->VK->Prop}(ho:UnR X (unaryOp op) r)(ha:PE X a ta):PE X (.UnaryOp op a pos) (tUn r ta):=by
 intro pins s σ H Q I h;exact UnaryOp_ (thE (ha pins s σ H _ I h) fun v s1 x H1 I1 r1 q1=>ho pins s1 σ H1 x v Q I1 r1 q1)
theorem opI {f:An->An->Sem An}{C:Int->Int->Prop}{g:Int->Int->Int}
  (rule:∀(i j:Int)(t u:Tok)(s:AC)(Q:An->AC->Prop)(E:An->AC->Prop),C i j->Q (.int (g i j) s.toks) { s with toks:=s.toks+1 }->AM (A0 X.prog X.w) X.A (f (.int i t) (.int j u)) Q E s) :
  OpR X f (rI C fun i j=>.int (g i j)):=by
 intro pins s σ H x y v u Q I rx ry h;obtain⟨i,j,rfl,rfl,hc,q⟩:=h;obtain⟨t,rfl⟩:=rx;obtain⟨t',rfl⟩:=ry;exact rule i j t t' s _ _ hc ⟨.int (g i j),H,I.tok _,⟨_,rfl⟩,q⟩
theorem abt {f:An->An->Sem An}{g:Int->Int->Int}
  (rule:∀(i j:Int)(t u:Tok)(s:AC)(Q:An->AC->Prop)(E:An->AC->Prop),Q (.int (g i j) s.toks) { s with toks:=s.toks+1 }->AM (A0 X.prog X.w) X.A (f (.int i t) (.int j u)) Q E s) :
  OpR X f (rI0 fun i j=>.int (g i j)):=by
 intro pins s σ H x y v u Q I rx ry h;obtain⟨i,j,rfl,rfl,q⟩:=h;obtain⟨t,rfl⟩:=rx;obtain⟨t',rfl⟩:=ry;exact rule i j t t' s _ _ ⟨.int (g i j),H,I.tok _,⟨_,rfl⟩,q⟩
theorem YQ {f:An->An->Sem An}{g:Int->Int->Bool}
  (rule:∀(i j:Int)(t u:Tok)(s:AC)(Q:An->AC->Prop)(E:An->AC->Prop),Q (.bool (g i j)) s->AM (A0 X.prog X.w) X.A (f (.int i t) (.int j u)) Q E s) :
  OpR X f (rI0 fun i j=>.bl (g i j)):=by
 intro pins s σ H x y v u Q I rx ry h;obtain⟨i,j,rfl,rfl,q⟩:=h;obtain⟨t,rfl⟩:=rx;obtain⟨t',rfl⟩:=ry;exact rule i j t t' s _ _ ⟨.bl (g i j),H,I,rfl,q⟩
noncomputable def Z9 (i j:Int):Prop:=0<=j/\j<=1000000/\i.natAbs<2^64
noncomputable def R6 (i j:Int):Prop:=(-(2^64)<i/\i<2^64)\/(-(2^64)<j/\j<2^64)
theorem R6.ok {i j:Int}(h:R6 i j):IntMulOk i j:=by
 rcases h with⟨h1,h2⟩|⟨h1,h2⟩
 ·exact .of_left (intBits_le_64 h1 h2)
 exact .of_right (intBits_le_64 h1 h2)
theorem Kc (k:Nat):(0:Int)<=2^k:=by
 rw[two_pow_cast];exact Int.natCast_nonneg _
theorem abr:OpR X (Da .Add) (rI0 fun i j=>.int (i+j)):=abt fun _ _ _ _ _ _ _ q=>add_int q
theorem gG:OpR X (Da .Sub) (rI0 fun i j=>.int (i-j)):=abt fun _ _ _ _ _ _ _ q=>sub_int q
theorem abo:OpR X (Da .Mult) (rI R6 fun i j=>.int (i*j)):=opI fun _ _ _ _ _ _ _ hc q=>mul_int q hc.ok
theorem jF:OpR X (Da .Mod) (rI (fun _ j=>0<j) fun i j=>.int (i%j)):=opI fun i j _ _ _ _ _ hc q=>by
 have h1:(0:Int)<j:=hc;exact mod_int' ω (by rw[Int.fmod_eq_emod_of_nonneg i ω];exact q)
theorem tU:OpR X (Da .Pow) (rI Z9 fun i j=>.int (i^j.toNat)):=opI fun _ _ _ _ _ _ _ hc q=>pow_int_small hc.1 hc.2.1 hc.2.2 q
theorem j4:OpR X (Da .LShift) (rI Z9 fun i j=>.int (i*2^j.toNat)):=opI fun _ _ _ _ _ _ _ hc q=>lshift_int_small hc.1 hc.2.1 hc.2.2 q
theorem abm:OpR X (Da .RShift) (rI (fun _ j=>0<=j) fun i j=>.int (i/2^j.toNat)):=opI fun i j _ _ _ _ _ hc q=>
 rshift_int hc (by rw[Int.fdiv_eq_ediv_of_nonneg i (Kc _)];exact q)
theorem U0:OpR X (Da .BitAnd) (rI0 fun i j=>.int (AZ.bitAnd i j)):=abt fun _ _ _ _ _ _ _ q=>and_int q
theorem unI {f:An->Sem An}{g:Int->Int}
  (rule:∀(i:Int)(t:Tok)(s:AC)(Q:An->AC->Prop)(E:An->AC->Prop),Q (.int (g i) s.toks) { s with toks:=s.toks+1 }->AM (A0 X.prog X.w) X.A (f (.int i t)) Q E s) :
  UnR X f (rU fun i=>.int (g i)):=by
 intro pins s σ H x v Q I rx h;obtain⟨i,rfl,q⟩:=h;obtain⟨t,rfl⟩:=rx;exact rule i t s _ _ ⟨.int (g i),H,I.tok _,⟨_,rfl⟩,q⟩
theorem pW:UnR X (unaryOp .USub) (rU fun i=>.int (-i)):=unI fun _ _ _ _ _ q=>neg_int q
end
noncomputable def TV:V->V->Bool
 | .non,.non=>true | .non,.int _=>true | .int _,.non=>true | .non,.bl _=>true | .bl _,.non=>true | .non,.str _=>true | .str _,.non=>true
 | .int _,.int _=>true | .bl _,.bl _=>true | .str _,.str _=>true | .byt _,.byt _=>true
 | .int _,.str _=>true | .str _,.int _=>true | .bl _,.str _=>true | .str _,.bl _=>true
 | _,_=>false
noncomputable def rEq:R2:=fun x y H Q=>TV x y=true/\Q (.bl (decide (x=y))) H
noncomputable def rNe:R2:=fun x y H Q=>TV x y=true/\Q (.bl (!decide (x=y))) H
theorem OJ {i j:Int}:decide (V.int i=V.int j)=(i == j):=by
 rw[Ff];simp
theorem Wo {i j:Bool}:decide (V.bl i=V.bl j)=(i == j):=by
 rw[Ff];simp
theorem Oz {i j:Str}:decide (V.str i=V.str j)=(i == j):=by
 rw[Ff];simp
theorem O1 {i j:Array UInt8}:decide (V.byt i=V.byt j)=(i.toList == j.toList):=by
 rw[Ff];cases i;cases j;simp
section
variable {X:Cx}{a b c:Expr}{ta tb tc:TE}{pos:Pos}
theorem cV {pins:List (Addr×Obj)}{σ:St}{H:Hp}{s:AC}{Q:VK}{k k':Bool}(I:Inv X pins σ H s)(q:Q (.bl k) H)(e:k=k'):EP X pins σ Q (.bool k') s:=by
 subst e;exact⟨.bl k,H,I,rfl,q⟩
theorem acJ:OpR X (D0 .Eq) rEq:=by
 intro pins s σ H x y v u Q I rx ry h;obtain⟨hs,q⟩:=h;cases x with
 | non=>
  cases rx;cases y with
  | non=>cases ry;exact PySem.EqNone.eq_none_none (cV I q (by simp))
  | bl j=>cases ry;exact PySem.EqNone.eq_none_bool (cV I q (by simp))
  | int j=>obtain⟨t',rfl⟩:=ry;exact PySem.EqNone.eq_none_int (cV I q (by simp))
  | str j=>obtain⟨t',rfl⟩:=ry;exact PySem.EqNone.eq_none_str (cV I q (by simp))
  | _=>exact absurd (show false=true from hs) A4
 | bl i=>
  cases rx;cases y with
  | non=>cases ry;exact PySem.EqNone.eq_bool_none (cV I q (by simp))
  | bl j=>cases ry;exact eq_bool (cV I q Wo)
  | str j=>obtain⟨t',rfl⟩:=ry;exact PySem.EqMixed.eq_bool_str (cV I q (by simp))
  | _=>exact absurd (show false=true from hs) A4
 | int i=>
  obtain⟨t,rfl⟩:=rx;cases y with
  | non=>cases ry;exact PySem.EqNone.eq_int_none (cV I q (by simp))
  | int j=>obtain⟨t',rfl⟩:=ry;exact eq_int (cV I q OJ)
  | str j=>obtain⟨t',rfl⟩:=ry;exact PySem.EqMixed.eq_int_str (cV I q (by simp))
  | _=>exact absurd (show false=true from hs) A4
 | str i=>
  obtain⟨t,rfl⟩:=rx;cases y with
  | non=>cases ry;exact PySem.EqNone.eq_str_none (cV I q (by simp))
  | bl j=>cases ry;exact PySem.EqMixed.eq_str_bool (cV I q (by simp))
  | int j=>obtain⟨t',rfl⟩:=ry;exact PySem.EqMixed.eq_str_int (cV I q (by simp))
  | str j=>obtain⟨t',rfl⟩:=ry;exact eq_str (cV I q Oz)
  | _=>exact absurd (show false=true from hs) A4
 | byt i=>
  obtain⟨t,rfl⟩:=rx;cases y with
  | byt j=>obtain⟨t',rfl⟩:=ry;exact PySem.W.eq_bytes (cV I q O1)
  | _=>exact absurd (show false=true from hs) A4
 | _=>cases y <;> exact absurd (show false=true from hs) A4
theorem acH:OpR X (D0 .NotEq) rNe:=by
 intro pins s σ H x y v u Q I rx ry h;obtain⟨hs,q⟩:=h;cases x with
 | non=>
  cases rx;cases y with
  | non=>cases ry;exact PySem.EqNone.ne_none_none (cV I q (by simp))
  | bl j=>cases ry;exact PySem.EqNone.ne_none_bool (cV I q (by simp))
  | int j=>obtain⟨t',rfl⟩:=ry;exact PySem.EqNone.ne_none_int (cV I q (by simp))
  | str j=>obtain⟨t',rfl⟩:=ry;exact PySem.EqNone.ne_none_str (cV I q (by simp))
  | _=>exact absurd (show false=true from hs) A4
 | bl i=>
  cases rx;cases y with
  | non=>cases ry;exact PySem.EqNone.ne_bool_none (cV I q (by simp))
  | bl j=>cases ry;exact ne_bool (cV I q (congrArg not Wo))
  | str j=>obtain⟨t',rfl⟩:=ry;exact PySem.EqMixed.ne_bool_str (cV I q (by simp))
  | _=>exact absurd (show false=true from hs) A4
 | int i=>
  obtain⟨t,rfl⟩:=rx;cases y with
  | non=>cases ry;exact PySem.EqNone.ne_int_none (cV I q (by simp))
  | int j=>obtain⟨t',rfl⟩:=ry;exact ne_int (cV I q (congrArg not OJ))
  | str j=>obtain⟨t',rfl⟩:=ry;exact PySem.EqMixed.ne_int_str (cV I q (by simp))
  | _=>exact absurd (show false=true from hs) A4
 | str i=>
  obtain⟨t,rfl⟩:=rx;cases y with
  | non=>cases ry;exact PySem.EqNone.ne_str_none (cV I q (by simp))
  | bl j=>cases ry;exact PySem.EqMixed.ne_str_bool (cV I q (by simp))
  | int j=>obtain⟨t',rfl⟩:=ry;exact PySem.EqMixed.ne_str_int (cV I q (by simp))
  | str j=>obtain⟨t',rfl⟩:=ry;exact ne_str (cV I q (congrArg not Oz))
  | _=>exact absurd (show false=true from hs) A4
 | byt i=>
  obtain⟨t,rfl⟩:=rx;cases y with
  | byt j=>obtain⟨t',rfl⟩:=ry;exact PySem.W.ne_bytes (cV I q (congrArg not O1))
  | _=>exact absurd (show false=true from hs) A4
 | _=>cases y <;> exact absurd (show false=true from hs) A4
theorem Dl:OpR X (D0 .Lt) (rI0 fun i j=>.bl (decide (i<j))):=YQ fun _ _ _ _ _ _ _ q=>lt_int q
theorem NP:OpR X (D0 .LtE) (rI0 fun i j=>.bl (decide (i<=j))):=YQ fun _ _ _ _ _ _ _ q=>le_int q
theorem zx:OpR X (D0 .Gt) (rI0 fun i j=>.bl (decide (j<i))):=YQ fun _ _ _ _ _ _ _ q=>gt_int q
theorem acI:OpR X (D0 .GtE) (rI0 fun i j=>.bl (decide (j<=i))):=YQ fun _ _ _ _ _ _ _ q=>ge_int q
theorem bN (b:Expr){op:CmpOp}(h:op≠.In:=by decide)(h2:op≠.NotIn:=by decide):F7 op b=false:=by
 have e1:(op == CmpOp.In)=false:=by cases op <;> first|rfl|exact absurd rfl h
 have e2:(op == CmpOp.NotIn)=false:=by cases op <;> first|rfl|exact absurd rfl h2
 cases b <;> simp [F7,e1,e2]
theorem YF {op:CmpOp}{r:R2}(ho:OpR X (D0 op) r)(ha:PE X a ta)(hb:PE X b tb)(hm:F7 op b=false):PE X (.Compare a [op] [b] pos) (tOp r ta tb):=by
 intro pins s σ H Q I h;exact wpAny_Compare1 (ab3 ha hb I h fun v u s2 x y H2 I2 rx ry q=>ho pins s2 σ H2 x y v u Q I2 rx ry q) hm
noncomputable def wW (t:TE):TT:=fun σ H Q=>t σ H fun x H'=>∃k,x=.bl k/\Q k H'
theorem Yh {op:CmpOp}{r:R2}(ho:OpR X (D0 op) r)(ha:PE X a ta)(hb:PE X b tb)(hm:F7 op b=false):PT X (.Compare a [op] [b] pos) (wW (tOp r ta tb)):=by
 intro pins s σ H Q I h;refine wpAny_isTrue_Compare1 (thE (ha pins s σ H _ I h) fun v s1 x H1 I1 r1 q1=>thE (hb pins s1 σ H1 _ I1 q1) fun u s2 y H2 I2 r2 q2=>
  thn (ho pins s2 σ H2 x y v u _ I2 r1 r2 q2) fun c s3 ⟨z,H3,I3,r3,k,e,q3⟩=>?_) hm
 subst e;cases r3;exact DC ⟨H3,I3,q3⟩
noncomputable def adt (K:Au)(x:V)(H:Hp)(k:Bool):Prop:=
 match x with
 | .non=>k=false
 | .bl b=>k=b
 | .int i=>k=(i != 0)
 | .str y=>y.length<=AK/\k=((y.length:Int) != 0)
 | .byt y=>y.size<=AK/\k=((y.size:Int) != 0)
 | .ref p=>(∃xs,SqL K H p xs/\k=!xs.isEmpty)\/(∃xs,SqT K H p xs/\k=!xs.isEmpty)\/∃kvs,H p=some (.dK kvs)/\k=!kvs.isEmpty
 | _=>False
theorem Lk {κ:Type}{kvs:List (κ×V)}{vs:List (κ×An)}(r:KV kvs vs):(!vs.isEmpty)=!kvs.isEmpty:=by
 cases r <;> rfl
theorem Ac {xs:List V}{its:List An}(r:Vals xs its):(!its.toArray.isEmpty)=!xs.isEmpty:=by
 cases r <;> simp
theorem uf:(AK:Nat)<2^63:=by rw[sizeLine_eq];decide
theorem aat:adu X (fun x H Q=>∃k,adt X.K x H k/\Q k H):=by
 intro pins s σ H x v Q I rx h;obtain⟨k,e,q⟩:=h;have hl:=uf;have hs:AK=16777216:=sizeLine_eq;cases x with
 | non=>
  cases rx;have e':k=false:=e;subst e';exact truthy_none ⟨H,I,q⟩
 | bl b=>
  cases rx;have e':k=b:=e;subst e';exact DC ⟨H,I,q⟩
 | int i=>
  obtain⟨t,rfl⟩:=rx;have e':k=(i != 0):=e;subst e';exact PySem.P.truthy_int ⟨H,I,q⟩
 | str y=>
  obtain⟨t,rfl⟩:=rx;obtain⟨hy,e'⟩:y.length<=AK/\k=((y.length:Int) != 0):=e;subst e';exact PySem.P.truthy_str ω ⟨H,I.tok _,q⟩
 | byt y=>
  obtain⟨t,rfl⟩:=rx;obtain⟨hy,e'⟩:y.size<=AK/\k=((y.size:Int) != 0):=e;subst e';exact PySem.W.truthy_bytes ω ⟨H,I.tok _,q⟩
 | ref p=>
  cases rx;have e':(∃xs,SqL X.K H p xs/\k=!xs.isEmpty)\/(∃xs,SqT X.K H p xs/\k=!xs.isEmpty)\/∃kvs,H p=some (.dK kvs)/\k=!kvs.isEmpty:=e;rcases e' with⟨xs,hx,e'⟩|⟨xs,hx,e'⟩|⟨kvs,hx,e'⟩
  ·subst e';obtain⟨its,r,pl,hz⟩:=I.list hx;have hlen:=r.length;exact wpAny_truthy_list pl.isList (by simp only[AN];omega) ⟨H,I.tok _,by rw[Ac r];exact q⟩
  ·subst e';obtain⟨its,r,pl,hz⟩:=I.tuple hx;have hlen:=r.length;exact truthy_tuple pl (by simp only[AN];omega) ⟨H,I.tok _,by rw[Ac r];exact q⟩
  subst e';obtain⟨hz,hS,vs,r,m⟩:kvs.length<=AK/\(p == DE)=false/\∃vs,KV kvs vs/\s.heap.DictOf (eX X.prog X.w) p vs:=I.hok p _ hx;have hlen:kvs.length=vs.length:=Jn r;exact wpAny_truthy_dict hS m ω ⟨H,I.tok _,by rw[Lk r];exact q⟩
 | _=>exact(show False from e).elim
theorem KR:OpR X (Da .Add) (fun x y H Q=>∃i j,x=.str i/\y=.str j/\i.length+j.length<=AK/\Q (.str (i++j)) H):=by
 intro pins s σ H x y v u Q I rx ry h;obtain⟨i,j,rfl,rfl,hz,q⟩:=h;obtain⟨t,rfl⟩:=rx;obtain⟨t',rfl⟩:=ry;exact add_str (fun t' tk=>⟨.str (i++j),H,I.tok _,⟨_,rfl⟩,q⟩) hz
theorem vals1 {x:V}{us:List An}(r:Vals [x] us):∃u,us=[u]/\RelV x u:=by
 cases r with
 | cons r1 r2=>cases r2;exact⟨_,rfl,r1⟩
theorem vals2 {x y:V}{us:List An}(r:Vals [x,y] us):∃u w',us=[u,w']/\RelV x u/\RelV y w':=by
 cases r with
 | cons r1 r2=>
  cases r2 with
  | cons r3 r4=>cases r4;exact⟨_,_,rfl,r1,r3⟩
theorem JN:dN X (.builtin "abs") (fun xs H Q=>∃i,xs=[.int i]/\Q (.int (if i<0 then -i else i)) H):=by
 intro pins s σ H xs us Q I r h;obtain⟨i,rfl,q⟩:=h;obtain⟨u,rfl,t,rfl⟩:=vals1 r;exact call_abs_int fun u tk=>⟨.int (if i<0 then -i else i),H,I.tok _,⟨_,rfl⟩,q⟩
theorem RJ (hc:X.calm=true):dN X (.builtin "max") (fun xs H Q=>∃i j,xs=[.int i,.int j]/\Q (.int (if j>i then j else i)) H):=by
 intro pins s σ H xs us Q I r h;obtain⟨i,j,rfl,q⟩:=h;obtain⟨u,w',rfl,⟨t,rfl⟩,⟨t',rfl⟩⟩:=vals2 r;refine max_two_ints (I.ok.hd hc) fun h' tk k=>⟨_,H,I.kept k,?_,q⟩;by_cases hj:j>i
 ·rw[if_pos hj,if_pos hj];exact⟨_,rfl⟩
 rw[if_neg hj,if_neg hj];exact⟨_,rfl⟩
theorem RD (hc:X.calm=true):dN X (.builtin "min") (fun xs H Q=>∃i j,xs=[.int i,.int j]/\Q (.int (if j<i then j else i)) H):=by
 intro pins s σ H xs us Q I r h;obtain⟨i,j,rfl,q⟩:=h;obtain⟨u,w',rfl,⟨t,rfl⟩,⟨t',rfl⟩⟩:=vals2 r;refine min_two_ints (I.ok.hd hc) fun h' tk k=>⟨_,H,I.kept k,?_,q⟩;by_cases hj:j<i
 ·rw[if_pos hj,if_pos hj];exact⟨_,rfl⟩
 rw[if_neg hj,if_neg hj];exact⟨_,rfl⟩
theorem Eb:dN X (.type "int") (fun xs H Q=>(∃i,xs=[.int i]/\Q (.int i) H)\/∃k,xs=[.bl k]/\Q (.int (if k then 1 else 0)) H):=by
 intro pins s σ H xs us Q I r h;rcases h with⟨i,rfl,q⟩|⟨k,rfl,q⟩
 ·obtain⟨u,rfl,t,rfl⟩:=vals1 r;exact call_int_int ⟨.int i,H,I,⟨_,rfl⟩,q⟩
 obtain⟨u,rfl,r1⟩:=vals1 r;cases r1;exact call_int_bool ⟨.int (if k then 1 else 0),H,I.tok _,⟨_,rfl⟩,q⟩
theorem G4:dN X (.type "str") (fun xs H Q=>∃i,xs=[.int i]/\i.natAbs.log2<1920/\Q (.str (toString i)) H):=by
 intro pins s σ H xs us Q I r h;obtain⟨i,rfl,hz,q⟩:=h;obtain⟨u,rfl,t,rfl⟩:=vals1 r;exact PySem.P.str_of_int hz ⟨.str _,H,I.tok _,⟨_,rfl⟩,q⟩
end
structure ab5 (h:Heap)(x dx C:Addr)(mA:Str->Option An):Prop where
 obj:h.get? x=some (PySem.W.instObj C dx)
 ns:h.Ns1 dx mA
 ne:dx≠x
theorem QM {h:Heap}{dx:Addr}{mA:Str->Option An}(n:h.Ns1 dx mA):∃od,h.get? dx=some od/\∀name,PySem.W.lookIn name od=some (mA name):=by
 obtain⟨o,es,ep,ho,hd,hk,_,hm⟩:=n;refine⟨o,ho,fun name=>?_⟩;have e:=hm name;unfold nsFind findBy at e;rw[<- Array.find?_toList] at e;unfold PySem.W.lookIn;rw[hd];dsimp only;split
 ·rename_i y q;rw[q] at e;exact congrArg some e
 rename_i q;rw[q] at e;have a:es.toList.any (·.refKey)=false:=by
  rw[List.any_eq_false];intro y hy;obtain⟨z,t,hkey⟩:=hk y (Array.mem_toList_iff.mp hy);simp [DictEntry.refKey,hkey]
 have a':¬es.toList.any (·.refKey)=true:=by rw[a];exact A4
 rw[if_neg a'];exact congrArg some e
theorem ab5.look {h:Heap}{x dx C:Addr}{mA:Str->Option An}(I:ab5 h x dx C mA):∃od,PySem.W.InstAt h x (PySem.W.instObj C dx) C (some od)/\∀name,PySem.W.lookIn name od=some (mA name):=
 let ⟨od,ho,hl⟩:=QM I.ns
 ⟨od,⟨I.obj,rfl,rfl,ho⟩,hl⟩
theorem Bp.some_of {v:V}{o:Option An}(r:Bp (some v) o):∃u,o=some u/\RelV v u:=by
 cases o with
 | none=>exact(show False from r).elim
 | some u=>exact⟨u,rfl,r⟩
section
variable {P:AU}{w:Be}{H H':Hp}{h h':Heap}{a C dx:Addr}{fs fs':List (Str×V)}
theorem Zo (hok:HOk P w H h)(e:H a=some (.ins C dx fs)):∃mA,ab5 h a dx C mA/\(∀f,Bp (fs.lookup f) (mA f))/\PySem.Within mA (fs.map (·.1))/\fs.length<=1000/\H dx=some (.own a):=by
 obtain⟨d,z,ne,ob,mA,n,r,q⟩:=(show cI P w H h a (.ins C dx fs) from hok a _ e);exact⟨mA,⟨ob,n,ne⟩,r,q,z,d⟩
end
structure Cls (K:Au)(C:Addr):Prop where
 pg:PySem.W.plainGet K C Str.empty=true
 hd:PySem.W.hasDictIn K C=true
 po:PySem.W.plainOver K C=true
 sa:G0 K (.ref C) "__setattr__" = some (some (.builtin "object.__setattr__"))
theorem Cls.get {K:Au}{C:Addr}(c:Cls K C)(f:Str):PySem.W.plainGet K C f=true:=c.pg
section
variable {X:Cx}{pins:List (Addr×Obj)}{σ:St}{H:Hp}{s:AC}{A:BA}{E:An->AC->Prop}{Q:An->AC->Prop}{c:An}{b:Bool}
inductive sS (K:Au)(H:Hp):V->An->Prop where
 | non:sS K H .non (.type "NoneType")
 | bl (x:Bool):sS K H (.bl x) (.type "bool")
 | int (i:Int):sS K H (.int i) (.type "int")
 | str (x:Str):sS K H (.str x) (.type "str")
 | flt (x:UInt64):sS K H (.flt x) (.type "float")
 | lst {a:Addr} {xs:List V} (e:H a=some (.lst xs)):sS K H (.ref a) (.type "list")
 | frz {a:Addr} {o:Obj} {xs:List V} (e:H a=some (.frz o (.lst xs))):sS K H (.ref a) (.type "list")
 | tup {a:Addr} {xs:List V} (e:H a=some (.tup xs)):sS K H (.ref a) (.type "tuple")
 | dK {a:Addr} {kvs:List (Key×V)} (e:H a=some (.dK kvs)):sS K H (.ref a) (.type "dict")
 | dT {a:Addr} {kvs:List (List Key×V)} (e:H a=some (.dT kvs)):sS K H (.ref a) (.type "dict")
 | ins {a C dx:Addr} {fs:List (Str×V)} (e:H a=some (.ins C dx fs)) (cl:Cls K C) (ha:G0 K (.ref C) "__class__" = some (some (.builtin "object.__class__")))
   (hn:PySem.W.specialIn K (.builtin "object.__class__") "__get__" = some (some (.builtin "getset_descriptor.__get__"))) (htk:PySem.W.takesIn K (.builtin "object.__class__")=some true)
   (hm:PySem.W.mroIn K C (.type "object")=some true):sS K H (.ref a) (.ref C)
theorem Q6 {x:V}{u t:An}(I:Inv X pins σ H s)(rx:RelV x u)(ty:sS X.K H x t)(e:kitOne X.K t c=some b)(h:∀tk,Q (.bool b) { s with toks:=tk }) :
  AM (A0 X.prog X.w) A (call (.builtin "isinstance") [u,c]) Q E s:=by
 cases ty with
 | non=>cases (show u=An.none from rx);exact CO PySem.W.kitx_none I.kIn DF e (fun z=>nomatch z) h
 | bl y=>cases (show u=An.bool y from rx);exact CO PySem.W.kitx_bool I.kIn DF e (fun z=>nomatch z) h
 | int i=>obtain⟨t,q⟩:=(show ∃t,u=An.int i t from rx);cases q;exact CO PySem.W.kitx_int I.kIn DF e (fun z=>nomatch z) h
 | str y=>obtain⟨t,q⟩:=(show ∃t,u=An.str y t from rx);cases q;exact CO PySem.W.kitx_str I.kIn DF e (fun z=>nomatch z) h
 | flt y=>obtain⟨t,q⟩:=(show ∃t,u=An.float y t from rx);cases q;exact CO PySem.W.kitx_float I.kIn DF e (fun z=>nomatch z) h
 | @lst a xs ea=>
  cases (show u=An.ref a from rx);obtain⟨_,_,n,_,h1⟩:=(show cI X.prog X.w H s.heap a (.lst xs) from I.hok a _ ea);exact CO Hb I.kIn ⟨_,h1,rfl⟩ e (fun z=>nomatch z) h
 | @frz a ob xs ea=>
  cases (show u=An.ref a from rx);obtain⟨_,_,_,n,_,h1⟩:=(show cI X.prog X.w H s.heap a (.frz ob (.lst xs)) from I.hok a _ ea);exact CO Hb I.kIn ⟨_,h1,rfl⟩ e (fun z=>nomatch z) h
 | @tup a xs ea=>
  cases (show u=An.ref a from rx);obtain⟨_,_,_,p⟩:=(show cI X.prog X.w H s.heap a (.tup xs) from I.hok a _ ea);obtain⟨o,h1,h2,_⟩:=p;exact CO PySem.W.kitx_tuple I.kIn ⟨o,h1,h2⟩ e (fun z=>nomatch z) h
 | @dK a kvs ea=>
  cases (show u=An.ref a from rx);obtain⟨_,_,vs,_,p⟩:=(show cI X.prog X.w H s.heap a (.dK kvs) from I.hok a _ ea);obtain⟨o,es,ep,h1,h2,_⟩:=p;exact CO Hc I.kIn ⟨o,h1,h2.1⟩ e (fun z=>nomatch z) h
 | @dT a kvs ea=>
  cases (show u=An.ref a from rx);obtain⟨_,_,xs,_,o,es,ep,h1,h2,_⟩:=(show cI X.prog X.w H s.heap a (.dT kvs) from I.hok a _ ea);exact CO Hc I.kIn ⟨o,h1,h2.1⟩ e (fun z=>nomatch z) h
 | @ins a C dx fs ea cl ha hn htk hm=>
  cases (show u=An.ref a from rx);obtain⟨mA,O,_⟩:=Zo I.hok ea;obtain⟨od,J,_⟩:=O.look;exact CO (PySem.W.kitx_own (cl.get _) cl.hd ha hn htk hm) I.kIn J e (fun z=>nomatch z) h
end
structure gH (k:Nat)(A:BA):Prop where
 hd:A.handled=none
 dp:A.depth+3*k+5<recursionLimit
 un:A.units+16*k+200<FI
 gd:A.guards=some []
theorem gH.mono {j k:Nat}{A:BA}(r:gH k A)(h:j<=k):gH j A:=⟨r.hd,by have:=r.dp;omega,by have:=r.un;omega,r.gd⟩
theorem gH.deeper {k:Nat}{A:BA}(r:gH (k+1) A)(env:Env):gH k (A.deeper env):=
 ⟨r.hd,by have:=r.dp;show A.depth+1+3*k+5<_;omega,by have:=r.un;show A.units+3+16*k+200<_;omega,r.gd⟩
theorem gH.depth {k:Nat}{A:BA}(r:gH k A):A.depth<recursionLimit:=by have:=r.dp;omega
theorem gH.dU {k:Nat}{A:BA}(r:gH k A):A.units<FI:=by have:=r.un;omega
noncomputable def rZ:TA:=fun _ H Q=>Q [] H
noncomputable def gU (ta:TE)(tr:TA):TA:=fun σ H Q=>ta σ H fun x H1=>tr σ H1 fun xs H2=>Q (x::xs) H2
section
variable {X:Cx}{e:Expr}{es:List Expr}{te:TE}{t:TA}{pos:Pos}
theorem abl:PA X [] rZ:=fun _ _ _ _ H Q I h=>D4 ⟨[],H,I,.nil,h⟩
theorem YL (ha:PE X e te)(hr:PA X es t)(hs:AL (e::es) X.env=(false,eval e X.env)::AL es X.env:=by rfl):PA X (e::es) (gU te t):=by
 intro pos pins s σ H Q I h;rw[hs];show AM _ _ (spliced ((false,eval e X.env)::CB pos (AL es X.env))) _ _ s;refine DU (thE (ha pins s σ H _ I h) fun u s1 x H1 I1 r1 q1=>?_);exact thA (hr pos pins s1 σ H1 _ I1 q1) fun us s2 xs H2 I2 r2 q2=>⟨x::xs,H2,I2,.cons r1 r2,q2⟩
noncomputable def Hu (t:TA):TE:=fun σ H Q=>t σ H fun xs H1=>xs.length<=AK/\∀p,H1 p=none->Q (.ref p) (upd H1 p (.tup xs))
noncomputable def Eo (t:TA):TE:=fun σ H Q=>t σ H fun xs H1=>xs.length<=AK/\∀p,H1 p=none->Q (.ref p) (upd H1 p (.lst xs))
theorem aa9 {x1}(h:PA X es t):PE X (.Tuple es x1 pos) (Hu t):=by
 intro pins s σ H Q I hq;refine wpAny_Tuple_spliced (thn (h pos pins s σ H _ I hq) fun us s1 ⟨xs,H1,I1,r,z,q⟩=>⟨by rw[<- r.length];exact z,?_⟩);have hf:H1 s1.heap.objs.size=none:=I1.hok.fresh (A9 _);refine⟨.ref s1.heap.objs.size,upd H1 s1.heap.objs.size (.tup xs),I1.laid (t':=s1.toks) (fun b u e=>AB _ e) (A9 _) ?_,rfl,q _ hf⟩;exact⟨z,us,r,⟨_,AY _ rfl,rfl,_,rfl⟩⟩
theorem abh (h:PA X es t):PE X (.List es pos) (Eo t):=by
 intro pins s σ H Q I hq;refine wpAny_List_spliced (thn (h pos pins s σ H _ I hq) fun us s1 ⟨xs,H1,I1,r,z,q⟩=>⟨by rw[<- r.length];exact z,?_⟩);have hf:H1 s1.heap.objs.size=none:=I1.hok.fresh (A9 _);refine⟨.ref s1.heap.objs.size,upd H1 s1.heap.objs.size (.lst xs),I1.laid (t':=s1.toks) (fun b u e=>AB _ e) (A9 _) ?_,rfl,q _ hf⟩;exact⟨z,us,0,r,AY _ rfl⟩
end
noncomputable abbrev Sp:=List V->Hp->VK->XK->Prop
noncomputable abbrev CXT:=List Env->Hp->AC->XK->An->AC->Prop
structure J8 (P:AU)(w:Be)(K:Au)(mg:Str->Option An)(base:Heap)(A:BA)(outer:List Env)(s:AC)(H:Hp):Prop where
 frames:A.frames=some outer
 mod:Mod K mg base
 bs:∀b o,base.get? b=some o->s.heap.get? b=some o/\H b=none
 bsz:base.objs.size<=s.heap.objs.size
 sJ:s.heap.FunFrames base outer
 frf:∀b∈frs outer,H b=none
 hok:HOk P w H s.heap
 bare:HR s.gens
noncomputable def CE (outer:List Env)(P:AU)(w:Be)(H:Hp)(s:AC)(Q:VK)(u:An)(s':AC):Prop:=
 ∃v H',s'.os=s.os/\HR s'.gens/\Un (frs outer) [] H H' s.heap s'.heap/\HOk P w H' s'.heap/\RelV v u/\Q v H'
noncomputable def CR (CX:CXT)(outer:List Env)(P:AU)(w:Be)(H:Hp)(s:AC)(Q:VK)(E:XK)(r:Result)(s':AC):Prop:=
 match r with
 | .ok (.ret u)=>CE outer P w H s Q u s'
 | .ok _=>False
 | .error e=>CX outer H s E e s'
structure dj (P:AU)(w:Be)(K:Au)(mg:Str->Option An)(base:Heap)(CX:CXT)(k:Nat)(f:Addr)(fd:BU)(ps:List Str)(sp:Sp):Prop where
 len:∀vs H Q E,sp vs H Q E->vs.length=ps.length
 run:∀(A:BA)(outer:List Env)(s:AC)(H:Hp)(args:Args)(us:List An)(vs:List V)(Q:VK)(E:XK),gH k A->J8 P w K mg base A outer s H->BindsTo s fd args (ps.zip us)->Vals vs us->sp vs H Q E ->
  FK (A0 P w) A (.call (.ref f) args) (CR CX outer P w H s Q E) s
theorem dj.mono {P:AU}{w:Be}{K:Au}{mg:Str->Option An}{base:Heap}{CX:CXT}{j k:Nat}{f:Addr}{fd:BU}{ps:List Str}{sp:Sp}(F:dj P w K mg base CX j f fd ps sp)(h:j<=k) :
  dj P w K mg base CX k f fd ps sp:=⟨F.len,fun A outer s H args us vs Q E hr=>F.run A outer s H args us vs Q E (hr.mono h)⟩
section
variable {X:Cx}{pins:List (Addr×Obj)}{σ:St}{H:Hp}{s s':AC}
theorem Inv.env0 (I:Inv X pins σ H s):J8 X.prog X.w X.K X.mg X.base X.A X.stack s H:=
 ⟨I.ok.frames,I.ok.mod,I.bs,BB I.ok.bsz I.sz,I.stack,I.M5,I.hok,I.bare⟩
theorem Inv.after {Q:VK}{u:An}(I:Inv X pins σ H s)(h:CE X.stack X.prog X.w H s Q u s'):EP X pins σ Q u s':=by
 obtain⟨v,H',os,bare,un,hok,r,q⟩:=h;obtain⟨hh,g,d,t,os'⟩:=s';obtain rfl:os'=s.os:=os;exact⟨v,H',I.call (h':=hh) (g':=g) (d':=d) (t':=t) (ch:=[]) un hok bare (fun b z=>absurd z (by simp)),r,q⟩
end
noncomputable def pX (sp:Sp)(dvs:List V)(E:XK)(t:TA):TE:=fun σ H Q=>t σ H fun vs H1=>sp (vs++dvs) H1 Q E
noncomputable def Binds (K:Au)(fd:BU)(ps:List Str)(ds:List An):Prop:=
 ∀(s:AC)(us:List An),K.In s.heap->(us++ds).length=ps.length->BindsTo s fd ⟨us,[]⟩ (ps.zip (us++ds))
theorem Binds.all {K:Au}{fd:BU}{ps:List Str}(h:∀us:List An,us.length=ps.length->bindArgs fd ⟨us,[]⟩=pure (ps.zip us)):Binds K fd ps []:=fun s us _ hl=>by
 rw[Cf] at hl |-;exact .of_eq (h us hl)
noncomputable def Hq (CX:CXT)(X:Cx)(E:XK):Prop:=∀(pins:List (Addr×Obj)) (σ:St) (H:Hp) (s:AC) (e:An) (s':AC),Inv X pins σ H s->CX X.stack H s E e s'->X.xe e s'
section
variable {X:Cx}{CX:CXT}{k:Nat}{f C:Addr}{fd:BU}{ps:List Str}{sp:Sp}{dvs:List V}{ds:List An}{E:XK}{x m:Str}{p pos apos:Pos}{e o:Expr}{es:List Expr}{ta:TE}{t:TA}
theorem aaL {pins:List (Addr×Obj)}{σ:St}{H:Hp}{s:AC}{Q:VK}{us:List An}{vs:List V}(F:dj X.prog X.w X.K X.mg X.base CX k f fd ps sp)(hr:gH k X.A)(hb:Binds X.K fd ps ds)(hd:Vals dvs ds)(hx:Hq CX X E)
  (I:Inv X pins σ H s) (r:Vals vs us) (h:sp (vs++dvs) H Q E):AM (A0 X.prog X.w) X.A (call (.ref f) us) (EP X pins σ Q) X.xe s:=by
 have r2:Vals (vs++dvs) (us++ds):=r.append hd;have hl:(us++ds).length=ps.length:=by rw[<- r2.length];exact F.len _ _ _ _ h
 refine wpAny_call (E5 (F.run X.A X.stack s H ⟨us,[]⟩ (us++ds) (vs++dvs) Q E hr I.env0 (hb s us I.kIn hl) r2 h) fun r s' hq=>?_);cases r with
 | error e=>exact hx pins σ H s e s' I hq
 | ok fl=>
  cases fl with
  | ret u=>exact I.after hq
  | next=>exact C3 hq
  | brk=>exact C3 hq
  | cont=>exact C3 hq
theorem YG (F:dj X.prog X.w X.K X.mg X.base CX k f fd ps sp)(hr:gH k X.A)(hg:Gl X x)(hm:X.mg x=some (.ref f))(hk:Cc X.K (.ref f)=true)(hb:Binds X.K fd ps ds)(hd:Vals dvs ds)(hx:Hq CX X E)
  (ha:PA X (e::es) t) (hdb:(x == ("__debug__" : Str))=false:=by decide) (he:AL (e::es) X.env=(false,eval e X.env)::AL es X.env:=by rfl) (hpl:(CB pos (AL es X.env)).any (·.1)=false:=by rfl) :
  PE X (.Call (.Name x p) (e::es) [] pos) (pX sp dvs E t):=by
 intro pins s σ H Q I h;refine EH (Gj I hg hm ?_ hdb);refine PySem.W.callWith_K (h₀:=X.base) I.ok.mod.kin hk (thA (ha pos pins s σ H _ I h) fun us s1 vs H1 I1 r q=>⟨I1.kIn,?_⟩) he hpl;exact aaL F hr hb hd hx I1 r q
end
structure bw (N P:List Str)(sc:D3):Prop where
 kind:sc.kind=.function
 co:sc.isCoroutine=false
 gen:sc.isGenerator=false
 nd:N.Nodup
 pre:N.take P.length=P
 par:∀x∈P,sc.names.lookup x=some .local\/sc.names.lookup x=some .cell
 nofree:∀y∈sc.names,y.2≠.free
theorem Ef {kindOf:Str->Option CM}{x:Str}:∀{binds:List (Str×An)}{m:Str->Option An},(∀v,(x,v)∉binds)->bindL kindOf binds m x=m x
 | [],_,_=>rfl
 | (n,v)::r,m,h=>by
  unfold bindL;rw[Ef fun w hw=>h w (BI _ hw)];split
  ·have:x≠n:=by rintro rfl;exact h v A6
   simp [this]
  rfl
theorem Eh {kindOf:Str->Option CM}{x:Str}:∀{binds:List (Str×An)}{m:Str->Option An},(∀v,(x,v)∉binds)->bindC kindOf binds m x=m x
 | [],_,_=>rfl
 | (n,v)::r,m,h=>by
  unfold bindC;rw[Eh fun w hw=>h w (BI _ hw)];split
  ·rfl
  have:x≠n:=by rintro rfl;exact h v A6
  simp [this]
theorem Eg {kindOf:Str->Option CM}{x:Str}{v:An}:∀{P:List Str}{vs:List An}{i:Nat}{m:Str->Option An},P.Nodup->P[i]?=some x->vs[i]?=some v->kindOf x=some .local ->
  bindL kindOf (P.zip vs) m x=some v
 | [],_,_,_,_,h,_,_=>by simp at h
 | _::_,[],_,_,_,_,h,_=>by simp at h
 | p::P,w::vs,0,m,nd,h1,h2,hk=>by
  simp at h1 h2;subst h1;subst h2;show bindL kindOf ((p,w)::P.zip vs) m p=_;unfold bindL;rw[Ef fun v hv=>(HU.mp nd).1 (of_mem_zip hv).1,if_pos hk];simp
 | p::P,w::vs,i+1,m,nd,h1,h2,hk=>by
  show bindL kindOf ((p,w)::P.zip vs) m x=_;unfold bindL;exact Eg (i:=i) (HU.mp nd).2 (by simpa using h1) (by simpa using h2) hk
theorem Ei {kindOf:Str->Option CM}{x:Str}{v:An}:∀{P:List Str}{vs:List An}{i:Nat}{m:Str->Option An},P.Nodup->P[i]?=some x->vs[i]?=some v->kindOf x≠some .local ->
  bindC kindOf (P.zip vs) m x=some v
 | [],_,_,_,_,h,_,_=>by simp at h
 | _::_,[],_,_,_,_,h,_=>by simp at h
 | p::P,w::vs,0,m,nd,h1,h2,hk=>by
  simp at h1 h2;subst h1;subst h2;show bindC kindOf ((p,w)::P.zip vs) m p=_;unfold bindC;rw[Eh fun v hv=>(HU.mp nd).1 (of_mem_zip hv).1,if_neg hk];simp
 | p::P,w::vs,i+1,m,nd,h1,h2,hk=>by
  show bindC kindOf ((p,w)::P.zip vs) m x=_;unfold bindC;exact Ei (i:=i) (HU.mp nd).2 (by simpa using h1) (by simpa using h2) hk
noncomputable def start (N:List Str)(vs:List V):St:=vs.map some++B3 (N.length-vs.length) none
noncomputable def JG (CX:CXT)(P:AU)(w:Be)(K:Au)(mg:Str->Option An)(base:Heap)(N:List Str)(qual:Str)(scope:D3)(f:Addr)(cd:An)(A:BA)(outer:List Env)(s:AC)(H:Hp)(E:XK):Cx where
 prog:=P
 w:=w
 K:=K
 mg:=mg
 base:=base
 A:=A.deeper (Fk qual scope s.heap.objs.size f cd)
 N:=N
 s₀:=s
 H₀:=H
 env:=Fk qual scope s.heap.objs.size f cd
 outer:=outer
 stack:=Fk qual scope s.heap.objs.size f cd::outer
 ex:=[]
 calm:=true
 fn:=fun _=>true
 pn:=[]
 xe:=fun e s'=>AM (A0 P w) (A.deeper (Fk qual scope s.heap.objs.size f cd)) (leaving (Fk qual scope s.heap.objs.size f cd) e) (fun _ s''=>CX outer H s E e s'') (fun e' s''=>CX outer H s E e' s'') s'
theorem JL {sc:D3}{n:Nat}{x:Str}(h:sc.names.lookup x=some .cell):∃c,(cellsFrom n sc.names []).lookup x=some c:=by
 have q:=PySem.W.cellsFrom_some sc.names n [] (.inl h);exact Option.isSome_iff_exists.mp q
theorem Ra {CX:CXT}{P:AU}{w:Be}{K:Au}{mg:Str->Option An}{base:Heap}{N ps:List Str}{qual:Str}{scope:D3}{f:Addr}{cd:An}{A:BA}{outer:List Env}{s s1:AC}{H:Hp}{E:XK}{us:List An}{vs:List V}
  (S:bw N ps scope) (hd:A.handled=none) (e0:J8 P w K mg base A outer s H) (hl:vs.length=ps.length) (r:Vals vs us)
  (x:InCallC s s.heap.objs.size (bindL (Fk qual scope s.heap.objs.size f cd).kindOf (ps.zip us) fun _=>none) (cellsFrom (s.heap.objs.size+1) scope.names []) (bindC (Fk qual scope s.heap.objs.size f cd).kindOf (ps.zip us) fun _=>none) s1) :
  Inv (JG CX P w K mg base N qual scope f cd A outer s H E) [] (start N vs) H s1:=by
 have hpl:ps.length<=N.length:=by have:=congrArg List.length S.pre;rw[DL] at this;omega
 obtain⟨h1,tk,rfl,hk⟩:=x.done;have noA:∀b:Addr,b∉(JG CX P w K mg base N qual scope f cd A outer s H E).ex:=fun b z=>absurd (show b∈([]:List Addr) from z) (by simp);refine⟨⟨e0.mod,S.kind,rfl,rfl,A9 _,fun y z c h1 h2=>?_,fun y hy=>?_,fun y c _ h=>?_,fun _=>hd,BA.frames_deeper e0.frames,.inr ⟨rfl,rfl⟩,fun b z=>absurd z (noA b),e0.bs,e0.bsz,fun b _ _=>noA b,fun b z=>absurd z (noA b),e0.sJ,e0.frf⟩,
  rfl,e0.bare,Un.kept hk,⟨_,x.toInCall.ns,fun i y v h1 h2 h3=>?_⟩,fun y c h=>⟨_,x.cell y c h⟩,e0.hok.fresh (A9 _),fun y c h=>?_,fun p hp=>absurd (show p∈([]:List (Addr×Obj)) from hp) (by simp),e0.hok.kept hk,?_⟩
 ·exact name_of_addr x.apart (BD h1) (BD h2)
 ·have hy:scope.names.lookup y=some .cell\/scope.names.lookup y=some .free:=hy;rcases hy with hy|hy
  ·exact JL hy
  exact absurd rfl (S.nofree _ (BD hy))
 ·exact GY (x.above y c (BD h))
 ·have hi:i<vs.length:=by
   unfold start at h2;by_cases hi:i<vs.length
   ·exact hi
   rw[Cs (by simpa using hi)] at h2;rw[List.getElem?_replicate] at h2;split at h2 <;> cases h2
  have ha:vs[i]?=some v:=by
   unfold start at h2;rw[D5 (by simpa using hi),A5] at h2;cases e:vs[i]? with
   | none=>rw[e] at h2;cases h2
   | some a=>rw[e] at h2;cases h2;rfl
  obtain⟨u,hu,rv⟩:=r.get ha;have hp:ps[i]?=some y:=by
   rw[<- S.pre,List.getElem?_take_of_lt ω];exact h1
  have ndP:ps.Nodup:=by rw[<- S.pre];exact S.nd.sublist (List.take_sublist _ _)
  refine⟨u,rv,?_⟩;rcases S.par y (AV hp) with k|k
  ·exact .inl ⟨k,Eg ndP hp hu k⟩
  obtain⟨c,e⟩:=JL (n:=s.heap.objs.size+1) k;refine .inr ⟨.inl k,c,e,?_⟩;have q:=x.cell y c e;rw[Ei ndP hp hu (by show scope.names.lookup y≠_;rw[k];decide)] at q;exact q
 ·exact e0.hok.fresh (GY (x.above y c (BD h)))
 unfold start;show _=N.length;rw[AI,AG,List.length_replicate];omega
theorem aam {CX:CXT}{P:AU}{w:Be}{K:Au}{mg:Str->Option An}{base:Heap}{k:Nat}{f:Addr}{name qual:Str}{params:Fs}{body:List Stmt}{scope:D3}{dV kV doc pm cdv ct oc:An}{an od:Option Addr}
  {osl:Array (Option An)} {N ps:List Str} {sp:Sp} (lk:K.lookup f=some ⟨oc,od,.func (fnOf name qual params body scope dV kV doc pm an cdv ct),osl⟩) (hcd:B9 K cdv qual=true) (S:bw N ps scope)
  (len:∀vs H Q E,sp vs H Q E->vs.length=ps.length)
  (hbody:∀(A:BA)(outer:List Env)(s:AC)(H:Hp)(vs:List V)(Q:VK)(E:XK),gH k (A.deeper (Fk qual scope s.heap.objs.size f cdv))->sp vs H Q E ->
   ∃t,PSs (JG CX P w K mg base N qual scope f cdv A outer s H E) body t/\t { nx:=fun _ H'=>Q .non H',rt:=Q } (start N vs) H) :
  dj P w K mg base CX (k+1) f (fnOf name qual params body scope dV kV doc pm an cdv ct) ps sp:=by
 refine⟨len,fun A outer s H args us vs Q E hr e0 hb r hsp=>?_⟩;have hl:=len _ _ _ _ hsp;have KX:K.In s.heap:=e0.mod.kin.keeps fun b o e=>(e0.bs b o e).1;have lim:s.heap.NoLimit:=e0.mod.nolimit.keeps fun b o e=>(e0.bs b o e).1;have hkind:∀y∈ps.zip us,scope.names.lookup y.1=some .local\/(scope.names.lookup y.1=some .cell/\((cellsFrom (s.heap.objs.size+1) scope.names []).lookup y.1).isSome=true):=fun⟨n,v⟩ hy=>by
  rcases S.par n (of_mem_zip hy).1 with q|q
  ·exact .inl q
  exact .inr ⟨q,PySem.W.cellsFrom_some _ _ _ (.inl q)⟩
 refine codeAny_call_function hr.depth (KX _ _ lk) rfl S.co S.gen rfl (PySem.W.codeRec_of KX hcd) (hb _ _ _ _ ?_);refine wpAny_newFunctionEnv_cells S.kind hkind fun env he s1 x=>?_;subst he;refine⟨lim.keeps x.toInCall.keep,codeAny_func ?_⟩;obtain⟨t,ht,hq⟩:=hbody A outer s H vs Q E (hr.deeper _) hsp;have I:Inv (JG CX P w K mg base N qual scope f cdv A outer s H E) [] (start N vs) H s1:=Ra S hr.hd e0 hl r x;refine B5 (ht [] s1 (start N vs) H _ I hq) (fun fl s' hs=>?_) fun e s' hs=>hs;have fin:∀{σ':St}{H':Hp}{v:V}{u:An},Inv (JG CX P w K mg base N qual scope f cdv A outer s H E) [] σ' H' s'->RelV v u->Q v H'->CE outer P w H s Q u s':=
  fun {σ' H' v u} J rv q=>⟨v,H',J.os,J.bare,J.base,J.hok,rv,q⟩
 cases fl with
 | ret u=>
  obtain⟨v,σ',H',J,rv,q⟩:=hs;exact fin J rv q
 | next=>
  obtain⟨σ',H',J,q⟩:=hs;exact fin (v:=V.non) (u:=An.none) J rfl q
 | brk=>
  obtain⟨_,_,_,q⟩:=hs;exact C3 q
 | cont=>
  obtain⟨_,_,_,q⟩:=hs;exact C3 q
section
variable {X:Cx}{x:Str}{p pos:Pos}{e:Expr}{es:List Expr}{t:TA}{id T:String}{r:List V->Hp->VK->Prop}
noncomputable def tCB (r:List V->Hp->VK->Prop)(t:TA):TE:=fun σ H Q=>t σ H fun vs H1=>r vs H1 Q
theorem UJ (hc:dN X (.builtin id) r) (hg:Gl X x) (hm:X.mg x=none) (hv:Dx x=some (.builtin id)) (ha:PA X (e::es) t) (hn:x ≠ "__name__" := by decide) (hdb:(x == ("__debug__" : Str))=false:=by decide)
  (he:AL (e::es) X.env=(false,eval e X.env)::AL es X.env:=by rfl) (hpl:(CB pos (AL es X.env)).any (·.1)=false:=by rfl):PE X (.Call (.Name x p) (e::es) [] pos) (tCB r t):=by
 intro pins s σ H Q I h;refine EH (oH I hg hm hv ?_ hn hdb);exact PyProof.Rows.callWith_builtin1 (thA (ha pos pins s σ H _ I h) fun us s1 vs H1 I1 r1 q1=>hc pins s1 σ H1 vs us Q I1 r1 q1) he hpl
theorem Qk (hc:dN X (.type T) r) (hg:Gl X x) (hm:X.mg x=none) (hv:Dx x=some (.type T)) (ha:PA X (e::es) t) (hn:x ≠ "__name__" := by decide) (hdb:(x == ("__debug__" : Str))=false:=by decide)
  (he:AL (e::es) X.env=(false,eval e X.env)::AL es X.env:=by rfl) (hpl:(CB pos (AL es X.env)).any (·.1)=false:=by rfl):PE X (.Call (.Name x p) (e::es) [] pos) (tCB r t):=by
 intro pins s σ H Q I h;refine EH (oH I hg hm hv ?_ hn hdb);exact C1 (thA (ha pos pins s σ H _ I h) fun us s1 vs H1 I1 r1 q1=>hc pins s1 σ H1 vs us Q I1 r1 q1) he hpl
end
end L2
namespace HT
open PySem PyProof.Rows
section
variable {prog:AU}{w:Be}{A:BA}{E:An->AC->Prop}{s:AC}
theorem ZR {t b:Addr}{vs ws:List An}{Q:An->AC->Prop}(ht:IsTup s.heap t vs.toArray)(hb:IsTup s.heap b ws.toArray)(hv:vs≠[])
  (h1:ws=[]->Q (.ref t) s) (h2:ws≠[]->Q (.ref s.heap.objs.size) { s with heap:=s.heap.push { cls:=.type "tuple",data:=.seq (vs++ws).toArray } })
  (hsz:vs.length+ws.length<=AK):AM (A0 prog w) A (Da .Add (.ref t) (.ref b)) Q E s:=by
 obtain⟨⟨cls,dd,data,sl⟩,ho,hc,n,hd⟩:=id ht;obtain⟨⟨cls2,dd2,data2,sl2⟩,ho2,hc2,n2,hd2⟩:=id hb;simp only at hc hd hc2 hd2;subst hc hd hc2 hd2;have e:vs.toArray++ws.toArray=(vs++ws).toArray:=by simp
 by_cases hw:ws=[]
 ·exact concat_meets ⟨_,ho,rfl⟩ ⟨_,ho2,rfl⟩ noFill_tuple_add seq_tuple_add PySem.F.slot_tuple_add PySem.F.entry_tuple_add (PySem.F.args_tuple_add_2 _ _)
   (tuple_addW1 t b vs.toArray ws.toArray n n2 dd dd2 sl sl2 (by simpa using hv) (by simp [hw])) ⟨ho,ho2,h1 hw⟩
 refine concat_meets ⟨_,ho,rfl⟩ ⟨_,ho2,rfl⟩ noFill_tuple_add seq_tuple_add PySem.F.slot_tuple_add PySem.F.entry_tuple_add (PySem.F.args_tuple_add_2 _ _)
  (tuple_addW2 t b vs.toArray ws.toArray n n2 dd dd2 sl sl2 (by simpa using hv) (by simpa using hw) (by rw[AN,AN];exact hsz)) ⟨ho,ho2,?_⟩
 rw[e];exact h2 hw
noncomputable def sIx (n d:Nat):Option Int->Nat
 | none=>d
 | some v=>if v<0 then (v+(n:Int)).toNat else min v.toNat n
theorem aaJ (n d:Nat)(hd:d<=n)(o:Option Int):sIx n d o<=n:=by
 cases o with
 | none=>exact hd
 | some v=>
  show(if v<0 then (v+(n:Int)).toNat else min v.toNat n)<=n;by_cases hv:v<0
  ·rw[if_pos hv];omega
  rw[if_neg hv];exact Nat.min_le_right _ _
theorem O4 (v:Int)(n d:Nat):(if v<0 then max (v+(n:Int)) 0 else min v (n:Int))=((sIx n d (some v):Nat):Int):=by
 show(if v<0 then max (v+(n:Int)) 0 else min v (n:Int))=(((if v<0 then (v+(n:Int)).toNat else min v.toNat n):Nat):Int);by_cases hv:v<0
 ·simp only[if_pos hv];omega
 simp only[if_neg hv];omega
theorem Mw (lo hi:Option Int)(n:Nat):AZ.Slice.sliceAdjust lo hi 1 (n:Int)=(((sIx n 0 lo:Nat):Int),((sIx n n hi:Nat):Int)):=by
 have h1:¬((1:Int)<0):=ω;unfold AZ.Slice.sliceAdjust;simp only[h1,if_false];refine Prod.ext ?_ ?_
 ·cases lo with
  | none=>rfl
  | some v=>exact O4 v n 0
 cases hi with
 | none=>rfl
 | some v=>exact O4 v n n
theorem KQ (i j:Nat):AZ.Slice.slicePlaces (i:Int) (j:Int) 1=j-i:=by
 unfold AZ.Slice.slicePlaces;have h1:(1:Int)>0:=ω;simp only[h1,if_true,Int.ediv_one];split <;> omega
theorem yV {v:An}{o:Option Int}{Q:Option Int->AC->Prop}(p:IsPart v o)(h:Q o s):AM (A0 prog w) A (AZ.Slice.slicePartIndex v) Q E s:=by
 cases p with
 | none=>exact slicePart_none h
 | int i t=>exact slicePart_int h
theorem vR {sl:Addr}{vl vu:An}{lo hi:Option Int}{n:Nat}{Q:Int×Int×Nat->AC->Prop}(hs:s.heap.IsSliceOf sl vl vu .none)(pl:IsPart vl lo)(pu:IsPart vu hi)
  (h:Q (((sIx n 0 lo:Nat):Int),1,sIx n n hi-sIx n 0 lo) s):AM (A0 prog w) A (AZ.Slice.sliceApplied (.ref sl) (pure (n:Int))) Q E s:=by
 obtain⟨os,hos,hcs,hds⟩:=id hs;unfold AZ.Slice.sliceApplied AZ.Slice.sliceFields;refine Ap (Ap (CY hos hds (x:=vl) rfl (Ap (CY hos hds (x:=vu) rfl (Ap (CY hos hds (x:=.none) rfl (AE ?_)))))));refine Ap (slicePart_none ?_);show AM _ _ (if ((1:Int) == 0)=true then _ else _) _ _ s;rw[if_neg δ];refine Ap (yV pl (Ap (yV pu (Ap (AE ?_)))));show AM _ _ (match AZ.Slice.sliceAdjust lo hi 1 (n:Int) with|(lo,hi)=>pure (lo,(1:Int),AZ.Slice.slicePlaces lo hi 1)) _ _ s
 rw[Mw lo hi n];show AM _ _ (pure (((sIx n 0 lo:Nat):Int),(1:Int),AZ.Slice.slicePlaces ((sIx n 0 lo:Nat):Int) ((sIx n n hi:Nat):Int) 1)) _ _ s;rw[KQ];exact AE h
theorem Us (xs:Array An)(i k:Nat):((EG k).filterMap fun(m:Nat)=>xs[((i:Int)+(m:Int)*1).toNat]?).toArray=((xs.toList.drop i).take k).toArray:=by
 have e:(fun(m:Nat)=>xs[((i:Int)+(m:Int)*1).toNat]?)=fun m=>xs[i+m]?:=by
  funext m;have:((i:Int)+(m:Int)*1).toNat=i+m:=by omega
  rw[this]
 rw[e];have:=pick_run xs i k;rw[filterMap_map] at this;have e2:((fun x=>xs[x]?)∘fun x=>i+x)=fun m=>xs[i+m]?:=rfl;rw[e2] at this;rw[this]
theorem vq {t sl:Addr}{items:Array An}{vl vu:An}{lo hi:Option Int}{Q:An->AC->Prop}(ht:IsTup s.heap t items)(hs:s.heap.IsSliceOf sl vl vu .none)(pl:IsPart vl lo)(pu:IsPart vu hi)
  (hw:¬(sIx items.size 0 lo=0/\sIx items.size items.size hi=items.size))
  (h:Q (.ref s.heap.objs.size) { s with heap:=s.heap.push { cls:=.type "tuple",data:=.seq ((items.toList.drop (sIx items.size 0 lo)).take (sIx items.size items.size hi-sIx items.size 0 lo)).toArray } })
  (hsz:items.size<=AK):AM (A0 prog w) A (IX (.ref t) (.ref sl)) Q E s:=by
 have htake:sizeOk (.seq ((items.toList.drop (sIx items.size 0 lo)).take (sIx items.size items.size hi-sIx items.size 0 lo)).toArray):=by
  show((items.toList.drop (sIx items.size 0 lo)).take (sIx items.size items.size hi-sIx items.size 0 lo)).toArray.size<=AK;rw[AN,DL,EW,DJ];omega
 have hj:sIx items.size items.size hi<=items.size:=aaJ _ _ (A9 _) hi;obtain⟨os,hos,hcs,hds⟩:=id hs;have hTs:s.TypeIs (.ref sl) "slice" := ⟨os,hos,hcs⟩;unfold IX
 try with_reducible refine CL ?_
 first|refine Ap (AE ?_)|skip
 refine Ap (wpAny_sequenceKey ht.typeIs δ ?_);refine Ap (Cb (name:=D6 "__getitem__") ht.typeIs FY
  (Co FY ht.typeIs entry_tuple_getitem ?_ (args_tuple_getitem _ _)))
 show AM _ _ (AZ.Tuple.tupleItemsOf (.ref t) >>= _) _ _ s;refine Ap (tupleItemsOf_ ht ?_);refine Ap (wpAny_typeOf hTs ?_);rw[if_pos δ];refine Ap (vR hs pl pu ?_);have hno:¬((((sIx items.size 0 lo:Nat):Int) == 0&&(1:Int) == 1&&(sIx items.size items.size hi-sIx items.size 0 lo) == items.size)=true):=by
  intro q;rw[C7,C7] at q;have q1:((sIx items.size 0 lo:Nat):Int)=0:=eq_of_beq q.1.1;have q2:sIx items.size items.size hi-sIx items.size 0 lo=items.size:=eq_of_beq q.2;exact hw ⟨ω,ω⟩
 show AM _ _ (if (((sIx items.size 0 lo:Nat):Int) == 0&&(1:Int) == 1&&(sIx items.size items.size hi-sIx items.size 0 lo) == items.size)=true then _ else _) _ _ s;rw[if_neg hno,Us]
 first
  | exact Ap (m:=AZ.Tuple.tupleExact _) (BF (AE ⟨_,rfl,AE h⟩) htake)
  | exact Ap (m:=AZ.Tuple.tupleExact _) (BF (Ap (AE (AE ⟨_,rfl,AE h⟩))) htake)
  | exact Ap (Ap (m:=AZ.Tuple.tupleExact _) (BF (AE (AE ⟨_,rfl,AE h⟩)) htake))
  | exact Ap (Ap (m:=AZ.Tuple.tupleExact _) (BF (AE ⟨_,rfl,AE h⟩) htake))
end
end HT
namespace L2
open PySem PySem.Spec PyProof.Rows
noncomputable abbrev TO:=St->Hp->(Option Int->Hp->Prop)->Prop
noncomputable def PO (X:Cx)(e:Option Expr)(t:TO):Prop:=
 ∀(pins:List (Addr×Obj)) (s:AC) (σ:St) (H:Hp) (Q:Option Int->Hp->Prop),Inv X pins σ H s->t σ H Q ->
  AM (A0 X.prog X.w) X.A (evalPart e X.env) (fun u s'=>∃o H',Inv X pins σ H' s'/\IsPart u o/\Q o H') X.xe s
noncomputable def rm:TO:=fun _ H Q=>Q none H
noncomputable def yP (t:TE):TO:=fun σ H Q=>t σ H fun x H1=>∃i,x=.int i/\Q (some i) H1
section
variable {X:Cx}{e:Expr}{te:TE}{lo hi:Option Expr}{tl th:TO}{pos p2:Pos}
theorem Yo:PO X none rm:=by
 intro pins s σ H Q I h;rw[evalPart_none];exact AE ⟨none,H,I,.none,h⟩
theorem Nz (h:PE X e te):PO X (some e) (yP te):=by
 intro pins s σ H Q I hw;rw[evalPart_some];refine thE (h pins s σ H _ I hw) fun u s1 x H1 I1 r1 q1=>?_;obtain⟨i,rfl,q⟩:=q1;obtain⟨t,rfl⟩:=r1;exact⟨some i,H1,I1,.int i t,q⟩
noncomputable def SlR (X:Cx)(r:V->Option Int->Option Int->Hp->VK->Prop):Prop:=
 ∀(pins:List (Addr×Obj)) (s:AC) (σ:St) (H:Hp) (x:V) (v vl vu:An) (lo hi:Option Int) (sl:Addr) (Q:VK),Inv X pins σ H s->RelV x v->s.heap.IsSliceOf sl vl vu .none->IsPart vl lo->IsPart vu hi->r x lo hi H Q ->
  ∃T id,typeLookup (.type T) "__getitem__" = pure (some (.builtin id))/\s.TypeIs v T/\AM (A0 X.prog X.w) X.A (IX v (.ref sl)) (EP X pins σ Q) X.xe s
noncomputable def tSl (r:V->Option Int->Option Int->Hp->VK->Prop)(te:TE)(tl th:TO):TE:=fun σ H Q=>te σ H fun x H1=>tl σ H1 fun l H2=>th σ H2 fun u H3=>r x l u H3 Q
theorem Ux {r:V->Option Int->Option Int->Hp->VK->Prop}(hr:SlR X r)(he:PE X e te)(hl:PO X lo tl)(hu:PO X hi th):PE X (.Subscript e (.Slice lo hi none p2) pos) (tSl r te tl th):=by
 intro pins s σ H Q I h;refine Subscript_ (thE (he pins s σ H _ I h) fun v s1 x H1 I1 r1 q1=>?_);refine wpAny_Slice (thn (hl pins s1 σ H1 _ I1 q1) fun vl s2 ⟨l,H2,I2,pl,q2⟩=>thn (hu pins s2 σ H2 _ I2 q2) fun vu s3 ⟨u,H3,I3,pu,q3⟩=>?_);rw[evalPart_none];refine AE ?_;have I4:Inv X pins σ H3 { s3 with heap:=s3.heap.push { cls:=.type "slice",data:=.fields #[vl,vu,.none] } }:=I3.kept (t':=s3.toks) fun b ob q=>AB _ q;obtain⟨T,id,hT,ht,hg⟩:=hr pins { s3 with heap:=s3.heap.push { cls:=.type "slice",data:=.fields #[vl,vu,.none] } } σ H3 x v vl vu l u s3.heap.objs.size Q I4 r1 (Heap.IsSliceOf.new ..) pl pu q3;show AM (A0 X.prog X.w) X.A (subscriptTail e (.Slice lo hi none p2) v (.ref s3.heap.objs.size)) (EP X pins σ Q) X.xe { s3 with heap:=s3.heap.push { cls:=.type "slice",data:=.fields #[vl,vu,.none] } };exact tail_any (ops:=[.ref s3.heap.objs.size,v]) ht hT hg (by with_unfolding_all rfl)
noncomputable def sO (xs:List V)(lo hi:Option Int):List V:=(xs.drop (HT.sIx xs.length 0 lo)).take (HT.sIx xs.length xs.length hi-HT.sIx xs.length 0 lo)
theorem qN (xs:List V)(lo hi:Option Int):(sO xs lo hi).length<=xs.length:=by
 unfold sO;rw[DL,EW];omega
noncomputable def ac2 (K:Au):V->Option Int->Option Int->Hp->VK->Prop:=fun x lo hi H Q=>∃a xs,x=.ref a/\SqT K H a xs /\
 ¬(HT.sIx xs.length 0 lo=0/\HT.sIx xs.length xs.length hi=xs.length)/\∀p,H p=none->Q (.ref p) (upd H p (.tup (sO xs lo hi)))
theorem aaF:SlR X (ac2 X.K):=by
 intro pins s σ H x v vl vu lo hi sl Q I rx hs pl pu h;obtain⟨a,xs,rfl,hx,hw,q⟩:=h;cases rx;obtain⟨its,r,ht,hz⟩:=I.tuple hx;have hlen:its.toArray.size=xs.length:=by rw[AN];exact r.length.symm
 refine⟨"tuple",_,FY.lookup,ht.typeIs,?_⟩;refine HT.vq ht hs pl pu (by rw[hlen];exact hw) ?_ (by rw[hlen];exact hz);rw[hlen];refine⟨.ref s.heap.objs.size,_,I.laid (t':=s.toks) (o:=.tup (sO xs lo hi)) (fun b ob q=>AB _ q) (A9 _) ?_,rfl,q _ (I.hok.fresh (A9 _))⟩;exact⟨BB (qN xs lo hi) hz,_,(r.drop (HT.sIx xs.length 0 lo)).take (HT.sIx xs.length xs.length hi-HT.sIx xs.length 0 lo),IsTup.new _ _⟩
noncomputable def acp (K:Au):R2:=fun x y H Q=>∃a b xs ys,x=.ref a/\y=.ref b/\SqT K H a xs/\SqT K H b ys/\xs≠[]/\xs.length+ys.length<=AK /\
 (ys=[]->Q (.ref a) H)/\(ys≠[]->∀p,H p=none->Q (.ref p) (upd H p (.tup (xs++ys))))
theorem Vals.FJ {xs:List V}{us:List An}(r:Vals xs us):us=[]↔xs=[]:=by
 cases r with
 | nil=>simp
 | cons _ _=>simp
theorem YM:OpR X (Da .Add) (acp X.K):=by
 intro pins s σ H x y v u Q I rx ry h;obtain⟨a,b,xs,ys,rfl,rfl,ha,hb,hx,hz,q1,q2⟩:=h;cases rx;cases ry;obtain⟨its,r1,p1,_⟩:=I.tuple ha;obtain⟨its2,r2,p2,_⟩:=I.tuple hb;refine HT.ZR p1 p2 (fun z=>hx (r1.FJ.mp z)) (fun z=>⟨.ref a,H,I,rfl,q1 (r2.FJ.mp z)⟩) (fun z=>?_) (by rw[<- r1.length,<- r2.length];exact hz);refine⟨.ref s.heap.objs.size,_,I.laid (t':=s.toks) (o:=.tup (xs++ys)) (fun b ob q=>AB _ q) (A9 _) ?_,rfl,q2 (fun w=>z (r2.FJ.mpr w)) _ (I.hok.fresh (A9 _))⟩;exact⟨by rw[AI];exact hz,_,r1.append r2,IsTup.new _ _⟩
end
noncomputable def ixN (n:Nat)(i:Int):Option Nat:=if 0<=i then (if i<n then some i.toNat else none) else if -(n:Int)<=i then some (i+n).toNat else none
noncomputable def atI {α:Type}(xs:List α)(i:Int):Option α:=(ixN xs.length i).bind fun j=>xs[j]?
theorem Oq {n:Nat}{i:Int}{j:Nat}(h:ixN n i=some j):seqIndex? i n=some j/\j<n/\-(n:Int)<=i/\i<n:=by
 unfold ixN at h;by_cases h0:0<=i
 ·rw[if_pos h0] at h;by_cases h1:i<n
  ·rw[if_pos h1] at h;have e:i.toNat=j:=A7 h;exact⟨by rw[seqIndex_of h0 h1,e],ω,ω,h1⟩
  rw[if_neg h1] at h;cases h
 rw[if_neg h0] at h;by_cases h1:-(n:Int)<=i
 ·rw[if_pos h1] at h;have e:(i+n).toNat=j:=A7 h;exact⟨by rw[seqIndex_neg ω h1,e],ω,h1,ω⟩
 rw[if_neg h1] at h;cases h
theorem Hi {α:Type}{xs:List α}{i:Int}{v:α}(h:atI xs i=some v):∃j,seqIndex? i xs.length=some j/\xs[j]?=some v/\j<xs.length/\-(xs.length:Int)<=i/\i<xs.length:=by
 unfold atI at h;cases e:ixN xs.length i with
 | none=>rw[e] at h;cases h
 | some j=>
  rw[e] at h;obtain⟨h1,h2,h3,h4⟩:=Oq e;exact⟨j,h1,h,h2,h3,h4⟩
theorem dH {α:Type}{xs:List α}{j:Nat}{v:α}(h:xs[j]?=some v):atI xs (j:Int)=some v:=by
 have hj:j<xs.length:=(AR.mp h).1;have e:ixN xs.length (j:Int)=some j:=by
  unfold ixN;rw[if_pos ω,if_pos ω];simp
 unfold atI;rw[e];exact h
noncomputable def O8 (b:Expr):Prop:=∀o i,subscripted b false o i=operate [o,i] (IX o i)
noncomputable def IxR (X:Cx)(r:R2):Prop:=
 ∀(value slice:Expr)(pins:List (Addr×Obj)) (s:AC) (σ:St) (H:Hp) (x y:V) (v u:An) (Q:VK),Inv X pins σ H s->RelV x v->RelV y u->r x y H Q ->
  subscripted slice false v u=operate [v,u] (IX v u)->AM (A0 X.prog X.w) X.A (subscriptTail value slice v u) (EP X pins σ Q) X.xe s
section
variable {X:Cx}{a b:Expr}{ta tb:TE}{pos:Pos}
theorem acB {r:R2}(hr:IxR X r)(ha:PE X a ta)(hb:PE X b tb)(hs:O8 b):PE X (.Subscript a b pos) (tOp r ta tb):=by
 intro pins s σ H Q I h;exact Subscript_ (ab3 ha hb I h fun v u s2 x y H2 I2 rx ry q=>hr a b pins s2 σ H2 x y v u Q I2 rx ry q (hs _ _))
noncomputable def acn (K:Au):R2:=fun x y H Q=>∃p xs i v,x=.ref p/\y=.int i/\SqL K H p xs/\atI xs i=some v/\Q v H
noncomputable def ac5 (K:Au):R2:=fun x y H Q=>∃p xs i v,x=.ref p/\y=.int i/\SqT K H p xs/\atI xs i=some v/\Q v H
noncomputable def ac6:R2:=fun x y H Q=>∃z i c,x=.str z/\y=.int i/\z.length<=AK/\atI z.cps.toList i=some c/\Q (.str ⟨#[c]⟩) H
theorem Oo:IxR X (acn X.K):=by
 intro value slice pins s σ H x y v u Q I rx ry h hs;obtain⟨p,xs,i,z,rfl,rfl,hq,he,q⟩:=h;cases rx;obtain⟨t,rfl⟩:=ry;obtain⟨its,r,pl,hz⟩:=I.list hq;obtain⟨j,h1,h2,h3,h4,h5⟩:=Hi he;obtain⟨w,ew,rw'⟩:=r.get h2;have hl:=r.length;have hn:=uf;have fin:EP X pins σ Q w s:=⟨z,H,I,rw',q⟩;by_cases h0:0<=i
 ·have hj:i.toNat=j:=by
   rw[seqIndex_of h0 h5] at h1;exact A7 h1
  exact item_listR pl.isList h0 ω (by rw[hj];simpa using ew) fin hs
 have hj:(i+(its.toArray.size:Int)).toNat=j:=by
  rw[seqIndex_neg ω h4] at h1;rw[AN,<- hl];exact A7 h1
 exact subscriptTail_builtinR (x:=w) pl.isList.typeIs slot_list_getitem.lookup
  (wpAny_getItem_list_neg (Q:=fun r s'=>r=w/\EP X pins σ Q r s') pl.isList ω (by rw[AN] <;> omega) ω (by rw[hj];simpa using ew) ⟨rfl,fin⟩) hs
theorem abM:IxR X (ac5 X.K):=by
 intro value slice pins s σ H x y v u Q I rx ry h hs;obtain⟨p,xs,i,z,rfl,rfl,hq,he,q⟩:=h;cases rx;obtain⟨t,rfl⟩:=ry;obtain⟨its,r,pl,hz⟩:=I.tuple hq;obtain⟨j,h1,h2,h3,h4,h5⟩:=Hi he;obtain⟨w,ew,rw'⟩:=r.get h2;have hl:=r.length;have hn:=uf;have fin:EP X pins σ Q w s:=⟨z,H,I,rw',q⟩;exact subscriptTail_builtinR (x:=w) pl.typeIs slot_tuple_getitem.lookup
  (getItem_tuple (j:=j) (Q:=fun r s'=>r=w/\EP X pins σ Q r s') pl ω ω (by rw[AN,<- hl];exact h1) (by simpa using ew) ⟨rfl,fin⟩) hs
theorem abN:IxR X ac6:=by
 intro value slice pins s σ H x y v u Q I rx ry h hs;obtain⟨z,i,c,rfl,rfl,hz,he,q⟩:=h;obtain⟨t,rfl⟩:=rx;obtain⟨t',rfl⟩:=ry;obtain⟨j,h1,h2,h3,h4,h5⟩:=Hi he;have hl:z.cps.toList.length=z.length:=by simp [Str.length]
 rw[hl] at h1 h4 h5;have hn:=uf;exact tail_any (typeIs_str s z t) slot_str_getitem.lookup (getItem_str (c:=c) (by
  have e1:decide (i < -(2^63:Int))=false:=decide_eq_false ω;have e2:decide (i≥2^63)=false:=decide_eq_false ω;rw[e1,e2,Bool.or_false]) (by rw[h1];simpa using h2) ⟨.str ⟨#[c]⟩,H,I.tok _,⟨_,rfl⟩,q⟩) hs
theorem Le (its:List An) (n j:Nat) (u:An):Db (·.setIfInBounds j u) { cls:=.type "list",data:=.seq its.toArray n }={ cls:=.type "list",data:=.seq (its.set j u).toArray n }:=by
 simp [Db]
theorem Inv.lst {pins:List (Addr×Obj)}{σ:St}{H:Hp}{s:AC}{p:Addr}{xs:List V}(I:Inv X pins σ H s)(h:H p=some (.lst xs)) :
  ∃(its:List An)(n:Nat),Vals xs its/\s.heap.get? p=some { cls:=.type "list",data:=.seq its.toArray n }/\xs.length<=AK:=by
 obtain⟨z,its,n,r,e⟩:=I.hok p _ h;exact⟨its,n,r,e,z⟩
theorem Inv.abF {pins:List (Addr×Obj)}{σ:St}{H:Hp}{s:AC}{p:Addr}{xs ys:List V}{its its':List An}{n n':Nat}{f:Obj->Obj}(I:Inv X pins σ H s)(h:H p=some (.lst xs))
  (ho:s.heap.get? p=some { cls:=.type "list",data:=.seq its.toArray n }) (hf:f { cls:=.type "list",data:=.seq its.toArray n }={ cls:=.type "list",data:=.seq its'.toArray n' }) (r:Vals ys its') (hz:ys.length<=AK) (t:Nat) :
  Inv X pins σ (upd H p (.lst ys)) { s with heap:=s.heap.update p f,toks:=t }:=by
 have e:(s.heap.update p f).get? p=some { cls:=.type "list",data:=.seq its'.toArray n' }:=by
  rw[F0 f ho (by rw[hf] <;> rfl),hf]
 refine I.write (x:=p) (e:=p) (by rw[h];trivial) (.inl rfl) (fun b u hb q=>(C4 _ _ (B6 hb)).trans q) ⟨_,e⟩ ?_;exact⟨hz,its',n',r,e⟩
noncomputable def acj:V->V->V->Hp->(Hp->Prop)->Prop:=fun o i v H Q=>∃p xs k j,o=.ref p/\i=.int k/\H p=some (.lst xs)/\ixN xs.length k=some j/\Q (upd H p (.lst (xs.set j v)))
theorem set_list:W5 X acj:=by
 intro pins s σ H o i v ov iv u Q I ro ri rv h;obtain⟨p,xs,k,j,rfl,rfl,hp,hj,q⟩:=h;cases ro;obtain⟨t,rfl⟩:=ri;obtain⟨its,n,r,ho,hz⟩:=I.lst hp;obtain⟨h1,h2,h3,h4⟩:=Oq hj;have hl:=r.length;have hn:=uf;have I':Inv X pins σ (upd H p (.lst (xs.set j v))) { s with heap:=s.heap.update p (Db (·.setIfInBounds j u)) }:=
  I.abF hp ho (Le its n j u) (r.set rv j) (by rw[length_set];exact hz) s.toks
 by_cases h0:0<=k
 ·have hk:k.toNat=j:=by
   rw[seqIndex_of h0 h4] at h1;exact A7 h1
  exact PySem.W.ki_setAt ho h0 ω (by rw[AN,<- hl];exact h4) (by rw[hk];exact⟨_,I',q⟩)
 have hk:(k+(its.toArray.size:Int)).toNat=j:=by
  rw[seqIndex_neg ω h3] at h1;rw[AN,<- hl];exact A7 h1
 exact PySem.W.ki_setBack ho ω (by rw[AN,<- hl];exact h3) ω (by rw[hk];exact⟨_,I',q⟩)
theorem Ey (lo hi:Option Int)(n:Nat):(Fu lo hi none n).1=((HT.sIx n 0 lo:Nat):Int)/\(Fu lo hi none n).2.1=((HT.sIx n n hi:Nat):Int)/\(Fu lo hi none n).2.2=1:=by
 refine⟨?_,?_,rfl⟩
 ·cases lo with
  | none=>simp [Fu,HT.sIx]
  | some i=>
   simp only[Fu,HT.sIx,getD_none,show(1:Int)>0 by decide,if_true];by_cases h:i<0
   ·simp only[h,if_true] <;> omega
   simp only[h,if_false] <;> omega
 cases hi with
 | none=>simp [Fu,HT.sIx]
 | some i=>
  simp only[Fu,HT.sIx,getD_none,show(1:Int)>0 by decide,if_true];by_cases h:i<0
  ·simp only[h,if_true] <;> omega
  simp only[h,if_false] <;> omega
theorem Bv (its:List An)(lo hi:Option Int):slicePick its.toArray lo hi none=((its.drop (HT.sIx its.length 0 lo)).take (HT.sIx its.length its.length hi-HT.sIx its.length 0 lo)).toArray:=by
 obtain⟨h1,h2,h3⟩:=Ey lo hi its.toArray.size;unfold slicePick;rw[h1,h2,h3];simp only[sliceRange_one,pick_run,AN] <;> rfl
noncomputable def ac3 (K:Au):V->Option Int->Option Int->Hp->VK->Prop:=fun x lo hi H Q=>∃a xs,x=.ref a/\SqL K H a xs/\∀p,H p=none->Q (.ref p) (upd H p (.lst (sO xs lo hi)))
theorem Xm:SlR X (ac3 X.K):=by
 intro pins s σ H x v vl vu lo hi sl Q I rx hs pl pu h;obtain⟨a,xs,rfl,hx,q⟩:=h;cases rx;obtain⟨its,r,ht,hz⟩:=I.list hx;have hlen:=r.length;refine⟨"list",_,slot_list_getitem.lookup,ht.isList.typeIs,?_⟩;refine wpAny_getItem_list_slice ht.isList hs pl pu .none (by simp) ?_ (by rw[AN] <;> omega)
 rw[Bv,<- hlen];refine⟨.ref s.heap.objs.size,_,I.laid (t':=s.toks) (o:=.lst (sO xs lo hi)) (fun b ob q=>AB _ q) (A9 _) ?_,rfl,q _ (I.hok.fresh (A9 _))⟩;exact⟨BB (qN xs lo hi) hz,_,0,(r.drop (HT.sIx xs.length 0 lo)).take (HT.sIx xs.length xs.length hi-HT.sIx xs.length 0 lo),AY _ rfl⟩
noncomputable def DR:V->Bool
 | .non=>true
 | .bl _=>true
 | .int _=>true
 | .str _=>true
 | _=>false
noncomputable def eqV:V->V->Bool
 | .non,.non=>true
 | .bl a,.bl b=>a == b
 | .bl a,.int b=>(if a then 1 else 0) == b
 | .int a,.bl b=>a == (if b then 1 else 0)
 | .int a,.int b=>a == b
 | .str a,.str b=>a == b
 | _,_=>false
theorem abZ {A:BA}{s:AC}{y x:V}{u v:An}(ry:RelV y u)(rx:RelV x v)(fy:DR y=true)(fx:DR x=true):B4 A s u v (eqV y x):=by
 cases y with
 | non=>
  cases ry;cases x with
  | non=>cases rx;exact B4.same _
  | bl b=>cases rx;exact B4.none_bool b
  | int b=>obtain⟨t,rfl⟩:=rx;exact B4.none_int b t
  | str b=>obtain⟨t,rfl⟩:=rx;exact B4.none_str b t
  | _=>exact absurd (show false=true from fx) A4
 | bl a=>
  cases ry;cases x with
  | non=>cases rx;exact B4.bool_none a
  | bl b=>cases rx;exact B4.bool_bool a b
  | int b=>obtain⟨t,rfl⟩:=rx;exact B4.bool_int a b t
  | str b=>obtain⟨t,rfl⟩:=rx;exact B4.bool_str a b t
  | _=>exact absurd (show false=true from fx) A4
 | int a=>
  obtain⟨t',rfl⟩:=ry;cases x with
  | non=>cases rx;exact B4.int_none a t'
  | bl b=>cases rx;exact B4.int_bool a t' b
  | int b=>obtain⟨t,rfl⟩:=rx;exact B4.int_int a t' b t
  | str b=>obtain⟨t,rfl⟩:=rx;exact B4.int_str a t' b t
  | _=>exact absurd (show false=true from fx) A4
 | str a=>
  obtain⟨t',rfl⟩:=ry;cases x with
  | non=>cases rx;exact B4.str_none a t'
  | bl b=>cases rx;exact B4.str_bool a t' b
  | int b=>obtain⟨t,rfl⟩:=rx;exact B4.str_int a t' b t
  | str b=>obtain⟨t,rfl⟩:=rx;exact B4.str_str a t' b t
  | _=>exact absurd (show false=true from fx) A4
 | _=>exact absurd (show false=true from fy) A4
theorem kJ:dN X (.builtin "len") (fun xs H Q=>∃p ys,xs=[.ref p]/\(SqL X.K H p ys\/SqT X.K H p ys)/\Q (.int ys.length) H):=by
 intro pins s σ H xs us Q I r h;obtain⟨p,ys,rfl,hq,q⟩:=h;obtain⟨u,rfl,rx⟩:=vals1 r;cases rx;have hn:=uf;rcases hq with hq|hq
 ·obtain⟨its,r',pl,hz⟩:=I.list hq;have hlen:=r'.length;exact Calls.call_len_list pl.isList (by simp only[AN] <;> omega) ⟨.int ys.length,H,I.tok _,⟨s.toks+1,by rw[AN,hlen]⟩,q⟩
 obtain⟨its,r',pl,hz⟩:=I.tuple hq;have hlen:=r'.length;exact len_tuple pl (by simp only[AN] <;> omega) ⟨.int ys.length,H,I.tok _,⟨s.toks+1,by rw[AN,hlen]⟩,q⟩
theorem G5:dN X (.builtin "len") (fun xs H Q=>∃z,xs=[.str z]/\z.length<=AK/\Q (.int z.length) H):=by
 intro pins s σ H xs us Q I r h;obtain⟨z,rfl,hz,q⟩:=h;obtain⟨u,rfl,t,rfl⟩:=vals1 r;have hn:=uf;exact len_str ω ⟨.int z.length,H,I.tok _,⟨_,rfl⟩,q⟩
theorem kI:dN X (.type "list") (fun xs H Q=>∃p ys,xs=[.ref p]/\(SqL X.K H p ys\/SqT X.K H p ys)/\∀l,H l=none->Q (.ref l) (upd H l (.lst ys))):=by
 intro pins s σ H xs us Q I r h;obtain⟨p,ys,rfl,hq,q⟩:=h;obtain⟨u,rfl,rx⟩:=vals1 r;cases rx;have fin:∀(its:List An),Vals ys its->ys.length<=AK->∀(h':Heap)(c':Nat),(∀b o',s.heap.get? b=some o'->h'.get? b=some o') ->
   h'.get? s.heap.objs.size=some { cls:=.type "list",dict:=none,data:=.seq its.toArray c',slots:=#[] }->EP X pins σ Q (.ref s.heap.objs.size) { s with heap:=h' }:=fun its r' hz h' c' kp e=>
  ⟨.ref s.heap.objs.size,_,I.laid (t':=s.toks) kp (A9 _) (show cI X.prog X.w _ h' _ (.lst ys) from⟨hz,its,c',r',e⟩),rfl,q _ (I.hok.fresh (A9 _))⟩
 rcases hq with hq|hq
 ·obtain⟨its,r',pl,hz⟩:=I.list hq;have hlen:=r'.length;obtain⟨o,ho,hc,n,hd⟩:=pl.isList;exact call_list_seq p (.inl rfl) ho hc hd (fun h' c' kp e=>fin its r' hz h' c' kp e) (by simp only[AN] <;> omega)
 obtain⟨its,r',pl,hz⟩:=I.tuple hq;have hlen:=r'.length;obtain⟨o,ho,hc,n,hd⟩:=pl;exact call_list_seq p (.inr rfl) ho hc hd (fun h' c' kp e=>fin its r' hz h' c' kp e) (by simp only[AN] <;> omega)
theorem jc:dN X (.type "tuple") (fun xs H Q=>∃p ys,xs=[.ref p]/\((SqL X.K H p ys/\∀l,H l=none->Q (.ref l) (upd H l (.tup ys)))\/(SqT X.K H p ys/\Q (.ref p) H))):=by
 intro pins s σ H xs us Q I r h;obtain⟨p,ys,rfl,h⟩:=h;obtain⟨u,rfl,rx⟩:=vals1 r;cases rx;rcases h with⟨hq,q⟩|⟨hq,q⟩
 ·obtain⟨its,r',pl,hz⟩:=I.list hq;have hlen:=r'.length;refine call_tuple_list pl.isList (fun h' kp=>?_) (by simp only[AN] <;> omega)
  have I1:Inv X pins σ H { s with heap:=h' }:=I.kept (t':=s.toks) kp;have I2:Inv X pins σ (upd H h'.objs.size (.tup ys)) { s with heap:=h'.push { cls:=.type "tuple",data:=.seq its.toArray } }:=
   I1.laid (t':=s.toks) (fun b o e=>AB _ e) (A9 _) (show cI X.prog X.w _ _ _ (.tup ys) from⟨hz,its,r',IsTup.new _ _⟩)
  exact⟨.ref h'.objs.size,_,I2,rfl,q _ (I1.hok.fresh (A9 _))⟩
 obtain⟨its,r',pl,hz⟩:=I.tuple hq;exact call_tuple_same pl ⟨.ref p,H,I,rfl,q⟩
noncomputable def tyV (K:Au)(T:String)(x:V)(H:Hp):Prop:=match x with
 | .str _=>T = "str"
 | .int _=>T = "int"
 | .ref p=>(T = "list" /\ ∃xs,SqL K H p xs)\/(T = "tuple" /\ ∃o,K.lookup p=some o/\o.cls=.type "tuple" /\ o.dict=none) \/
   (T = "dict" /\ ((∃kvs,H p=some (.dK kvs))\/∃kvs,H p=some (.dT kvs)))\/(T = "set" /\ ∃S n,H p=some (.set S n))
 | _=>False
theorem yO {pins:List (Addr×Obj)}{σ:St}{H:Hp}{s:AC}{T:String}{x:V}{v:An}(I:Inv X pins σ H s)(r:RelV x v)(ty:tyV X.K T x H) :
  s.TypeIs v T/\∀a,v=.ref a->∃ob,s.heap.get? a=some ob/\ob.dict=none:=by
 cases x with
 | str z=>
  obtain⟨t,rfl⟩:=r;cases (show T = "str" from ty);exact⟨typeIs_str s z t,fun _ e=>nomatch e⟩
 | int i=>
  obtain⟨t,rfl⟩:=r;cases (show T = "int" from ty);exact⟨typeIs_int s i t,fun _ e=>nomatch e⟩
 | ref p=>
  cases r;rcases ty with⟨rfl,xs,hq⟩|⟨rfl,o,hk,hc,hd⟩|⟨rfl,hk⟩|⟨rfl,S,n,hk⟩
  ·obtain⟨its,_,pl,_⟩:=I.list hq;refine⟨pl.isList.typeIs,fun a e=>?_⟩;cases e;obtain⟨o,n,e,c,hd,_⟩:=pl;exact⟨o,e,hd⟩
  ·refine⟨⟨o,I.kIn p o hk,hc⟩,fun a e=>?_⟩;cases e;exact⟨o,I.kIn _ o hk,hd⟩
  ·have z:∃o,s.heap.get? p=some o/\o.ExactDict:=by
    rcases hk with⟨kvs,hk⟩|⟨kvs,hk⟩
    ·obtain⟨_,_,_,_,o,_,_,e,ex,_⟩:=I.hok p _ hk;exact⟨o,e,ex⟩
    obtain⟨_,_,_,_,o,_,_,e,ex,_⟩:=I.hok p _ hk;exact⟨o,e,ex⟩
   obtain⟨o,e,ex⟩:=z;refine⟨⟨o,e,ex.1⟩,fun a e2=>?_⟩;cases e2;exact⟨o,e,ex.2.1⟩
  obtain⟨o,_,_,_,e,ex,_⟩:=I.hok p _ hk;refine⟨⟨o,e,ex.1⟩,fun a e2=>?_⟩;cases e2;exact⟨o,e,ex.2.1⟩
 | _=>exact C3 ty
variable {o e:Expr}{es:List Expr}{to:TE}{t:TA}{name:Str}{apos cpos:Pos}{T id:String}{r:V->List V->Hp->VK->Prop}
end
noncomputable def MtM (X:Cx)(id:String)(r:V->List V->Hp->VK->Prop):Prop:=
 ∀(pins:List (Addr×Obj)) (s:AC) (σ:St) (H:Hp) (x:V) (xs:List V) (v:An) (us:List An) (Q:VK),Inv X pins σ H s->RelV x v->Vals xs us->r x xs H Q ->
  AM (A0 X.prog X.w) X.A (call (.builtin id) (v::us)) (EP X pins σ Q) X.xe s
theorem Vals.one:∀{x:V}{us:List An},Vals [x] us->∃u,us=[u]/\RelV x u:=fun h=>by
 cases h with
 | cons r h=>
  cases h;exact⟨_,rfl,r⟩
theorem Vals.reverse {xs:List V}{us:List An}(h:Vals xs us):Vals xs.reverse us.reverse:=by
 induction h with
 | nil=>exact .nil
 | cons r t ih=>rw[HV,HV];exact Vals.append ih (.cons r .nil)
theorem Vals.rep {xs:List V}{us:List An}(h:Vals xs us):∀k:Nat,Vals (B3 k xs).flatten (B3 k us).flatten
 | 0=>.nil
 | k+1=>by
  rw[FL,FL,flatten_cons,flatten_cons];exact Vals.append h (Vals.rep h k)
theorem foldl_rep (its:List An):∀(k:Nat)(acc:List An),
  List.foldl (fun x1 x2=>x1++x2) acc.toArray (B3 k its.toArray)=(acc++(B3 k its).flatten).toArray
 | 0,acc=>by simp
 | k+1,acc=>by
  have e:acc.toArray++its.toArray=(acc++its).toArray:=by simp
  have e2:(acc++its)++(B3 k its).flatten=acc++(B3 (k+1) its).flatten:=by
   rw[FL,flatten_cons,D7]
  rw[<- e2,<- foldl_rep its k (acc++its),<- e,FL,List.foldl_cons]
section
variable {X:Cx}{pins:List (Addr×Obj)}{σ:St}{H:Hp}{s:AC}{l b:Addr}{xs ys zs:List V}
theorem Inv.acQ {its its':List An}{n:Nat}{f:Array An->Array An}{t':Nat}(I:Inv X pins σ H s)(hH:H l=some (.lst xs))
  (e:s.heap.get? l=some { cls:=.type "list",data:=.seq its.toArray n }) (hf:f its.toArray=its'.toArray) (hv:Vals ys its') (hz:ys.length<=AK) :
  Inv X pins σ (upd H l (.lst ys)) { s with heap:=s.heap.update l (Db f),toks:=t' }:=by
 have q:=PySem.IsL.update e f;rw[hf] at q;refine I.write (x:=l) (e:=l) (by rw[hH];exact trivial) (.inl rfl) (fun b' u hb hu=>(C4 s.heap (Db f) (B6 hb)).trans hu) ⟨_,q⟩ ?_;exact⟨hz,its',_,hv,q⟩
theorem Inv.acR {its:List An}{t':Nat}(I:Inv X pins σ H s)(hv:Vals ys its)(hz:ys.length<=AK) :
  Inv X pins σ (upd H s.heap.objs.size (.lst ys)) { s with heap:=s.heap.push { cls:=.type "list",data:=.seq its.toArray },toks:=t' }:=
 I.laid (fun _ _ q=>AB _ q) (A9 _) ⟨hz,its,0,hv,AY _ rfl⟩
theorem Inv.fresh (I:Inv X pins σ H s):H s.heap.objs.size=none:=I.hok.fresh (A9 _)
theorem Inv.QL (I:Inv X pins σ H s) (hH:H l=some (.lst xs)):xs.length<=AK/\∃(its:List An)(n:Nat),Vals xs its/\xs.length=its.length/\s.heap.get? l=some { cls:=.type "list",data:=.seq its.toArray n }:=by
 obtain⟨z,its,n,r,e⟩:=I.hok l _ hH;exact⟨z,its,n,r,r.length,e⟩
theorem Ir {n:Nat}(h:n<=AK):AZ.List.listTooLong n=false:=by
 unfold AZ.List.listTooLong;exact decide_eq_false ω
end
section
variable {X:Cx}
noncomputable def XM:V->List V->Hp->VK->Prop:=fun x vs H Q=>∃l xs y,x=.ref l/\vs=[y]/\H l=some (.lst xs)/\xs.length<AK/\Q .non (upd H l (.lst (xs++[y])))
theorem QK:MtM X "list.append" XM:=by
 intro pins s σ H x vs v us Q I rx rv h;obtain⟨l,xs,y,rfl,rfl,hH,hz,q⟩:=h;cases rx;obtain⟨u,rfl,ru⟩:=rv.one;obtain⟨z,its,n,r,hl,e⟩:=I.QL hH;refine Fm F.slot_list_append ⟨_,e,rfl⟩ IY (IE _ _) (PySem.list_append l its.toArray n u (by rw[AN];omega)) ⟨e,?_⟩;refine⟨.non,_,I.acQ (its':=its++[u]) hH e (by simp) (r.append (.cons ru .nil)) ?_,rfl,q⟩;rw[AI,BE];omega
noncomputable def XD:V->List V->Hp->VK->Prop:=fun x vs H Q=>∃l b xs zs,x=.ref l/\vs=[.ref b]/\H l=some (.lst xs)/\H b=some (.lst zs)/\xs.length+zs.length<=AK/\Q .non (upd H l (.lst (xs++zs)))
theorem QJ:MtM X "list.extend" XD:=by
 intro pins s σ H x vs v us Q I rx rv h;obtain⟨l,b,xs,zs,rfl,rfl,hH,hB,hz,q⟩:=h;cases rx;obtain⟨u,rfl,ru⟩:=rv.one;cases ru;obtain⟨z,its,n,r,hl,e⟩:=I.QL hH;obtain⟨z2,its2,n2,r2,hl2,e2⟩:=I.QL hB;have hsz:its.toArray.size+its2.toArray.size<=AK:=by rw[AN,AN];omega
 have hlong:¬(!its.toArray.isEmpty&&AZ.List.listTooLong (its.toArray.size+its2.toArray.size))=true:=by
  rw[Ir hsz,Bool.and_false];exact A4
 refine Fm F.slot_list_extend ⟨_,e,rfl⟩ F.entry_list_extend (F.args_list_extend_2 _ _)
  (AutoSeq1.list_extend_list_list_0 l its.toArray n b its2.toArray n2 hlong (by rw[AN];omega) ω) ⟨e,e2,?_⟩
 refine⟨.non,_,I.acQ (its':=its++its2) hH e (by simp) (r.append r2) ?_,rfl,q⟩;rw[AI];omega
noncomputable def ac9:R2:=fun x y H Q=>∃l b xs zs,x=.ref l/\y=.ref b/\H l=some (.lst xs)/\H b=some (.lst zs)/\xs.length+zs.length<=AK/\∀p,H p=none->Q (.ref p) (upd H p (.lst (xs++zs)))
theorem abq:OpR X (Da .Add) ac9:=by
 intro pins s σ H x y v u Q I rx ry h;obtain⟨l,b,xs,zs,rfl,rfl,hH,hB,hz,q⟩:=h;cases rx;cases ry;obtain⟨z,its,n,r,hl,e⟩:=I.QL hH;obtain⟨z2,its2,n2,r2,hl2,e2⟩:=I.QL hB;refine PySem.P.add_list e e2 ?_ (by rw[AN,AN];omega);have ea:its.toArray++its2.toArray=(its++its2).toArray:=by simp
 rw[ea];exact⟨.ref _,_,I.acR (t':=s.toks) (r.append r2) (by rw[AI];omega),rfl,q _ I.fresh⟩
noncomputable def ac4:R2:=fun x y H Q=>∃l k xs,x=.ref l/\y=.int k/\H l=some (.lst xs)/\-(2^63)<=k/\k<2^63/\xs.length*k.toNat<=AK /\
 ∀p,H p=none->Q (.ref p) (upd H p (.lst (B3 k.toNat xs).flatten))
theorem len_rep {α:Type}(xs:List α)(k:Nat):(B3 k xs).flatten.length=k*xs.length:=by
 induction k with
 | zero=>simp
 | succ k ih=>rw[FL,flatten_cons,AI,ih,Nat.succ_mul,add_comm]
theorem abn:OpR X (Da .Mult) ac4:=by
 intro pins s σ H x y v u Q I rx ry h;obtain⟨l,k,xs,rfl,rfl,hH,h1,h2,hz,q⟩:=h;cases rx;obtain⟨t,rfl⟩:=ry;obtain⟨z,its,n,r,hl,e⟩:=I.QL hH;have hlen:its.toArray.size*k.toNat<=AK:=by rw[AN,<- hl];exact hz
 have hcap:¬its.toArray.size*k.toNat>(2^63-1)/8:=by
  have:(AK:Nat)<=(2^63-1)/8:=by decide
  omega
 have hfit:¬(!Builtin.List.listFitsIndex k)=true:=by
  rw[fitsIndex_both h1 h2];exact A4
 have hlong:¬AZ.List.listTooLong (its.toArray.size*k.toNat)=true:=by
  rw[Ir hlen];exact A4
 have hnew:List.foldl (fun x1 x2=>x1++x2) #[] (B3 (if its.toArray.isEmpty=true then 0 else k.toNat) its.toArray)=(B3 k.toNat its).flatten.toArray:=by
  have f0:∀m:Nat,List.foldl (fun x1 x2=>x1++x2) #[] (B3 m its.toArray)=(B3 m its).flatten.toArray:=fun m=>by
   have:=foldl_rep its m [];rw[nil_append] at this;exact this
  rw[f0];cases its with
  | nil=>simp
  | cons a r'=>rw[if_neg (by simp)]
 refine wpAny_binaryOp_repeat_ref (T := "list") (U := "int") δ ⟨_,e,rfl⟩ (fun s'=>typeIs_int s' k t) noFill_list_mul F.fills_int_mul F.slot_int_rmul repeat_list F.slot_int_index.lookup
  (Fm F.slot_int_rmul (typeIs_int s k t) F.entry_int_rmul (F.args_int_rmul_2 _ _) (int___rmul___int_list k t l its.toArray n)
   ⟨e,rfl,⟨_,e,rfl⟩,Fm F.slot_list_mul ⟨_,e,rfl⟩ F.entry_list_mul (F.args_list_mul_2 _ _) (AutoListH.list___mul___list_int_3 l its.toArray n k t hfit hcap hlong) ⟨e,?_⟩⟩)
 rw[hnew];exact⟨.ref _,_,I.acR (t':=s.toks) (r.rep k.toNat) (by rw[len_rep,Nat.mul_comm];exact hz),rfl,q _ I.fresh⟩
end
end L2
namespace Att
open PySem PySem.W PySem.Calls PyProof.Rows
theorem xX {P:Params}{h:Heap}:∀(ns:List Int)(vs:List An),WellAll P h vs (ns.map WData.int)->EU vs ns:=by
 intro ns
 induction ns with
 | nil=>
  intro vs w;rw[map_nil] at w;cases w;exact .nil
 | cons n ns ih=>
  intro vs w;rw[DV] at w;cases w with
  | cons a b=>
   cases a;exact .cons _ _ (ih _ b)
theorem PX {l:OpenLaw}{n:Nat}(hn:l.most=some n){P:Params}{h:Heap}{args:List WData}{vals:List An}
  (hpre:l.row.toRowW.claim.pre args=true) (hwl:WellAll P h vals args) :
  ∃a vs ns,vals=[An.ref a]/\args=[WData.list (ns.map WData.int)]/\h.get? a=some { cls:=.type "list",data:=.seq vs.toArray }/\EU vs ns/\ns.length<=n:=by
 have hsh:WShape.hasAll [] args [.list .int]=true:=(pre_splitW hpre).1;have hc:l.pre.holds [] { args:=args }=true:=(pre_splitW hpre).2;obtain⟨d,r,rfl,h1,h2⟩:=hasAllW_cons hsh;obtain rfl:=hasAllW_nil h2;obtain⟨xs,rfl,h3⟩:=hasW_list h1;obtain⟨ns,rfl⟩:=items_int h3;have hlen:ns.length<=n:=by
  unfold OpenLaw.pre at hc;have h4:(WTm.not (.lt (.lit (.int (n:Int))) (.len (.arg 0)))).holds [] { args:=[.list (ns.map .int)] }=true:=by
   have h4:=(holds_andW hc).1;rw[hn] at h4;exact h4
  have h5:=condW_of h4 (w_not (w_lt w_lit (w_len_list (w_arg rfl))));rw[AG] at h5;refine Nat.le_of_not_lt fun q=>?_;have q':(n:Int)<((ns.length:Nat):Int):=ω
  first
   | (rw[decide_eq_true q'] at h5;exact absurd h5 δ)
   | (simp at h5;omega)
 cases hwl with
 | cons w1 w2=>
  cases w2;cases w1 with
  | list ho hall=>exact⟨_,_,ns,rfl,rfl,ho,xX ns _ hall,hlen⟩
theorem Qf (l:OpenLaw)(args:List WData):l.row.toRowW.claim.post args (.bool true) args=true:=
 postW_of (r:=l.row.toRowW) (X:=(true == true))
  (show WShape.has [] (.bool true) .bool=true by first|rfl|decide|simp [WShape.has,WShape.arms,WShape.armsAll])
  (show(WTm.eq .res (.lit (.bool true))).value [] { args:=args,res:=some (.bool true),after:=args }=some (.bool (true == true)) from w_eq_bool (w_res rfl) w_lit) rfl
theorem J3 {l:OpenLaw}{n:Nat}{q:AU}{loose:List Str}{XP:(Str->Option An)->Heap->Prop}{YP:Be->Heap->Prop}{d:DefRec}
  (hn:l.most=some n) (hdf:d.params.defaults=[])
  (call:∀(w:Be)(s₀ s₁:AC)(mg mb:Str->Option An)(fa:Addr)(o:Obj)(pm cd doc:An)(a:Addr)(vs:List An)(ns:List Int),
   Ground q loose [] XP w s₀ mg mb s₁.heap->YP w s₁.heap ->
   s₁.heap.get? fa=some o->o.data=.func (docDef d.name d.params d.body d.scope pm cd doc)->s₁.heap.CodeRec cd d.name->mg d.name=some (.ref fa) ->
   s₁.heap.get? a=some { cls:=.type "list",data:=.seq vs.toArray }->EU vs ns->ns.length<=n->s₁.gens=#[] ->
   FK (A0 l.prog w) callerA (.call (.ref fa) ⟨[.ref a],[]⟩) (fun r s'=>r=.ok (.ret (.bool true))/\OldK s₁.heap s'.heap/\s'.os=s₁.os/\HR s'.gens) s₁) :
  WalkO q loose XP YP l.row.toRowW d [] (fun f vs=>PySem.call f vs):=by
 intro w s₀ s₁ mg mb G Y fa o pm cd doc dV kV ho hd hcd hD hmg hg args vals as hpre hlay hrd hwl hlo;obtain rfl:dV=.none:=Dflts.none hD hdf;obtain rfl:kV=.none:=Dflts.noKw hD;obtain⟨a,vs,ns,rfl,rfl,hobj,hints,hlen⟩:=PX hn hpre hwl;refine enter_call (E5 (call w s₀ s₁ mg mb fa o pm cd doc a vs ns G Y ho (fd_plain hd) hcd hmg hobj hints hlen hg) fun r s' hq=>?_);obtain⟨rfl,h2,h3,h4⟩:=hq;exact⟨.inl ⟨.bool true,.bool true,[],rfl,fun _=>rfl,.bool true,Qf l _,fun _=>⟨List.Pairwise.nil,fun _ hm=>(nomatch hm)⟩⟩,h2,h3,h4⟩
end Att
namespace L2
open PySem PySem.Spec PyProof.Rows
theorem CT:∀{vs:List An}{ns:List Int},EU vs ns->Vals (ns.map V.int) vs
 | _,_,.nil=>.nil
 | _,_,.cons n t h=>.cons ⟨t,rfl⟩ (CT h)
noncomputable def aV (s:Stmt):Fs:=match s with
 | .FunctionDef _ a _ _ _ _ _ _ _ _=>a
 | _=>{ posonlyargs:=[],args:=[],vararg:=none,kwonlyargs:=[],kw_defaults:=[],kwarg:=none,defaults:=[] }
noncomputable def aQ (s:Stmt):List Stmt:=match s with
 | .FunctionDef _ _ b _ _ _ _ _ _ _=>b
 | _=>[]
noncomputable def aj (s:Stmt):D3:=match s with
 | .FunctionDef _ _ _ _ _ _ sc _ _ _=>sc
 | _=>{ kind:=.function,names:=[],isGenerator:=false,isCoroutine:=false }
noncomputable abbrev CX0:CXT:=fun _ _ _ _ _ _=>False
noncomputable abbrev E0:XK:=fun _ _ _=>False
theorem UL {X:Cx}:Hq CX0 X E0:=fun _ _ _ _ _ _ _ h=>h.elim
structure Fun (K:Au)(x qual:Str)(st:Stmt)(f:Addr)(fd:BU):Prop where
 ex:∃(oc:An)(od:Option Addr)(kV doc pm:An)(an:Option Addr)(cdv ct:An)(osl:Array (Option An)),
  fd=fnOf x qual (aV st) (aQ st) (aj st) .none kV doc pm an cdv ct/\K.lookup f=some ⟨oc,od,.func fd,osl⟩/\B9 K cdv qual=true
 kp:Cc K (.ref f)=true
section
variable {P:AU}{w:Be}{K:Au}{mg:Str->Option An}{base:Heap}
theorem Fun.ok {x qual:Str}{st:Stmt}{f:Addr}{fd:BU}{N ps:List Str}{k:Nat}{sp:Sp}(F:Fun K x qual st f fd)(S:bw N ps (aj st))(len:∀vs H Q E,sp vs H Q E->vs.length=ps.length)
  (hbody:∀(cdv:An)(A:BA)(outer:List Env)(s:AC)(H:Hp)(vs:List V)(Q:VK)(E:XK),gH k (A.deeper (Fk qual (aj st) s.heap.objs.size f cdv))->sp vs H Q E ->
   ∃t,PSs (JG CX0 P w K mg base N qual (aj st) f cdv A outer s H E).nox (aQ st) t/\t { nx:=fun _ H'=>Q .non H',rt:=Q } (start N vs) H):dj P w K mg base CX0 (k+1) f fd ps sp:=by
 obtain⟨oc,od,kV,doc,pm,an,cdv,ct,osl,rfl,lk,hcd⟩:=F.ex;refine aam lk hcd S len fun A outer s H vs Q E hr hsp=>?_;obtain⟨t,h,q⟩:=hbody cdv A outer s H vs Q E hr hsp;exact⟨t,h.nox,q⟩
theorem Fun.binds {x qual:Str}{st:Stmt}{f:Addr}{fd:BU}{ps:List Str}(F:Fun K x qual st f fd)
  (h:∀(kV doc pm:An)(an:Option Addr)(cdv ct:An)(us:List An),us.length=ps.length->bindArgs (fnOf x qual (aV st) (aQ st) (aj st) .none kV doc pm an cdv ct) ⟨us,[]⟩=pure (ps.zip us)):Binds K fd ps []:=by
 obtain⟨oc,od,kV,doc,pm,an,cdv,ct,osl,rfl,lk,hcd⟩:=F.ex;exact .all (h kV doc pm an cdv ct)
theorem Wc {x qual:Str}{st:Stmt}{f:Addr}{oc:An}{od an:Option Addr}{osl:Array (Option An)}{kV doc pm cdv ct:An}(l:K.lookup f=some ⟨oc,od,.func (fnOf x qual (aV st) (aQ st) (aj st) .none kV doc pm an cdv ct),osl⟩)
  (c:B9 K cdv qual=true) (k:Cc K (.ref f)=true):Fun K x qual st f (fnOf x qual (aV st) (aQ st) (aj st) .none kV doc pm an cdv ct):=⟨⟨oc,od,kV,doc,pm,an,cdv,ct,osl,rfl,l,c⟩,k⟩
end
noncomputable def Same (H H':Hp):Prop:=∀b o,H b=some o->H' b=some o
theorem Same.refl (H:Hp):Same H H:=fun _ _ h=>h
theorem Same.trans {H H1 H2:Hp}(a:Same H H1)(b:Same H1 H2):Same H H2:=fun c o h=>b c o (a c o h)
end L2
set_option maxHeartbeats 4000000
namespace L2
open PySem PySem.Spec PyProof.Rows
theorem Bj {env:Env}:∀(names:List (Str×CM)) (acc:List (Str×Addr)),
  (∀y∈names,y.2=.free->∃c,env.cells.lookup y.1=some c)->(∀x c,acc.lookup x=some c->env.cells.lookup x=some c) ->
  ∃cl,(forIn names acc fun(y:Str×CM)(r:List (Str×Addr))=>(match y with
   | (name,kind)=>if (kind == .free)=true then (do let a <- GL env name;pure (C8 ((name,a)::r))) else pure (C8 r):Sem (ForInStep (List (Str×Addr)))))=pure cl /\
   (∀x c,cl.lookup x=some c->env.cells.lookup x=some c)/\(∀y∈names,y.2=.free->∃c,cl.lookup y.1=some c)/\(∀x c,acc.lookup x=some c->∃c',cl.lookup x=some c')
 | [],acc,_,ha=>⟨acc,rfl,ha,fun _ h=>(nomatch h),fun x c h=>⟨c,h⟩⟩
 | (n,k)::r,acc,hf,ha=>by
  have hf':∀y∈r,y.2=.free->∃c,env.cells.lookup y.1=some c:=fun y hy=>hf y (BI _ hy);by_cases hk:k=.free
  ·subst hk;obtain⟨c0,e0⟩:=hf (n,.free) A6 rfl;have hce:GL env n=pure c0:=by unfold GL;rw[e0]
   have ha2:∀x c,((n,c0)::acc).lookup x=some c->env.cells.lookup x=some c:=fun x c h=>by
    rw[DM] at h;cases hx:x == n with
    | true=>
     rw[hx] at h;have e1:x=n:=by simpa using hx
     rw[e1,e0];exact h
    | false=>
     rw[hx] at h;exact ha x c h
   obtain⟨cl,e,h1,h2,h3⟩:=Bj r ((n,c0)::acc) hf' ha2;refine⟨cl,?_,h1,fun y hy hz=>?_,fun x c h=>?_⟩
   ·rw[EX];simp only[beq_self_eq_true,if_true,hce];exact e
   ·rcases AX.mp hy with q|q
    ·subst q;exact h3 n c0 (by simp)
    exact h2 y q hz
   cases hx:x == n with
   | true=>exact h3 x c0 (by rw[DM,hx])
   | false=>exact h3 x c (by rw[DM,hx];exact h)
  have hb:(k == CM.free)=false:=by simpa using hk
  obtain⟨cl,e,h1,h2,h3⟩:=Bj r acc hf' ha;refine⟨cl,?_,h1,fun y hy hz=>?_,h3⟩
  ·rw[EX];simp only[hb,Bool.false_eq_true,if_false];exact e
  rcases AX.mp hy with q|q
  ·subst q;exact absurd hz hk
  exact h2 y q hz
theorem G3 {env:Env}{scope:D3}(hf:∀y∈scope.names,y.2=.free->∃c,env.cells.lookup y.1=some c) :
  ∃cl,EI scope env=pure cl/\(∀x c,cl.lookup x=some c->env.cells.lookup x=some c)/\(∀y∈scope.names,y.2=.free->∃c,cl.lookup y.1=some c):=by
 obtain⟨cl,e,h1,h2,_⟩:=Bj (env:=env) scope.names [] hf (fun x c h=>by simp at h);refine⟨cl,?_,h1,h2⟩;unfold EI;show(forIn scope.names [] _ >>= fun r=>pure r)=_;rw[show(forIn scope.names ([]:List (Str×Addr)) fun(y:Str×CM)(r:List (Str×Addr))=>(match y with
   | (name,kind)=>if (kind == .free)=true then (do let a <- GL env name;pure (C8 ((name,a)::r))) else pure (C8 r):Sem (ForInStep (List (Str×Addr)))))=pure cl from e]
 rfl
section
variable {prog:AU}{w:Be}{A:BA}{R:Result->AC->Prop}{s:AC}
theorem DX {elt tg iter:Expr}{ifs:List Expr}{scope:D3}{pos:Pos}{it acc:An}{env:Env}(J:Nat->AC->Prop)
  (turn:∀n s,J n s->AM (A0 prog w) A (FH it) (fun r s1=>match r with
   | none=>R (.ok .next) s1
   | some v=>AM (A0 prog w) A (GH tg it v) (fun _ s1'=>AM (A0 prog w) A (ES tg env v) (fun _ s2=>
     AM (A0 prog w) A (forIn ifs true fun c r=>if r=true then do let ok <- isTrue c env (eval c env);pure (C8 ok) else pure (C8 r)) (fun ok s3=>
      if ok=true then AM (A0 prog w) A (eval elt env) (fun x s4=>
       AM (A0 prog w) A (call (.builtin "list.append") [acc,x]) (fun _ s5=>∃m,m<n/\J m s5) (FM (A0 prog w) A env fun e z=>R (.error e) z) s4) (FM (A0 prog w) A env fun e z=>R (.error e) z) s3
      else ∃m,m<n/\J m s3) (FM (A0 prog w) A env fun e z=>R (.error e) z) s2) (FM (A0 prog w) A env fun e z=>R (.error e) z) s1') (FM (A0 prog w) A env fun e z=>R (.error e) z) s1) (FM (A0 prog w) A env fun e z=>R (.error e) z) s)
  (n:Nat) (h:J n s):FK (A0 prog w) A (.compLoop (.ListComp elt [⟨tg,iter,ifs,0⟩] scope pos) 0 it acc env) R s:=by
 refine codeAny_loop rfl J (fun n z hJ=>?_) n h;show AM _ A ((compTurn (.ListComp elt [⟨tg,iter,ifs,0⟩] scope pos) 0 it acc env).onRaise (fun y=>do noteFrame y env;theTreesLotGoes y)) _ _ z;refine wpAny_noted ?_;rw[compTurn_list];refine Ap (F5 (Ap (B5 (turn n z hJ) (fun r s1 h1=>?_) fun _ _ q=>q)));cases r with
 | none=>exact AE h1
 | some v=>
  refine Ap (B5 h1 (fun _ s1' h1'=>?_) fun _ _ q=>q);refine Ap (B5 h1' (fun _ s2 h2=>Ap (B5 h2 (fun ok s3 h3=>?_) fun _ _ q=>q)) fun _ _ q=>q);cases ok with
  | false=>exact AE ⟨rfl,h3⟩
  | true=>
   exact Ap (Ap (B5 h3 (fun x s4 h4=>Ap (B5 h4 (fun _ s5 h5=>AE (AE ⟨rfl,h5⟩)) fun _ _ q=>q)) fun _ _ q=>q))
end
noncomputable def mq (mp:List (Option Nat))(σ:St):St:=mp.map fun o=>match o with
 | some j=>(σ[j]?).join
 | none=>none
noncomputable def bQ (X:Cx)(N:List Str)(scope:D3)(cl:List (Str×Addr))(C:Addr)(s:AC)(H:Hp)(fp:List Addr):Cx:=
 { X with N:=N,s₀:=s,H₀:=H,env:=Gc scope cl C X.env,outer:=X.stack,stack:=X.stack,ex:=fp,fn:=fun _=>false,pn:=[],xe:=fun _ _=>False }
noncomputable def sY (NX:List Str)(names:List (Str×CM)):List Str->List (Option Nat)->Bool
 | [],[]=>true
 | x::r,o::q=>(match o with
   | none=>names.lookup x == some .local
   | some j=>NX[j]? == some x&&names.lookup x == some .free)&&sY NX names r q
 | _,_=>false
theorem Dy {NX:List Str}{names:List (Str×CM)}:∀{N:List Str}{mp:List (Option Nat)}{i j:Nat}{x:Str},sY NX names N mp=true->N[i]?=some x->mp[i]?=some (some j)->NX[j]?=some x/\names.lookup x=some .free
 | [],_,i,_,_,_,h,_=>by simp at h
 | _::_,[],_,_,_,h,_,_=>by simp [sY] at h
 | y::r,o::q,0,j,x,h,h1,h2=>by
  simp at h1 h2;subst h1 h2;unfold sY at h;simp only[C7,beq_iff_eq] at h;exact h.1
 | y::r,o::q,i+1,j,x,h,h1,h2=>by
  unfold sY at h;rw[C7] at h;exact Dy (i:=i) h.2 (by simpa using h1) (by simpa using h2)
theorem Dw {NX:List Str}{names:List (Str×CM)}:∀{N:List Str}{mp:List (Option Nat)},sY NX names N mp=true->mp.length=N.length
 | [],[],_=>rfl
 | [],_::_,h=>by simp [sY] at h
 | _::_,[],h=>by simp [sY] at h
 | _::r,_::q,h=>by
  unfold sY at h;rw[C7] at h;simp [Dw h.2]
structure xO (NX:List Str)(kX:List (Str×CM))(N:List Str)(mp:List (Option Nat))(scope:D3):Prop where
 kind:scope.kind=.function
 nocell:∀y∈scope.names,y.2≠.cell
 locs:∀y∈scope.names,y.2=.local->scope.names.lookup y.1=some .local
 fre:∀y∈scope.names,y.2=.free->kX.lookup y.1=some .cell\/kX.lookup y.1=some .free
 map:sY NX scope.names N mp=true
noncomputable def PTs (X:Cx)(cs:List Expr)(t:TT):Prop:=
 ∀(pins:List (Addr×Obj)) (s:AC) (σ:St) (H:Hp) (Q:Bool->Hp->Prop),Inv X pins σ H s->t σ H Q ->
  AM (A0 X.prog X.w) X.A (forIn cs true fun c r=>if r=true then do let ok <- isTrue c X.env (eval c X.env);pure (C8 ok) else pure (C8 r)) (TP X pins σ Q) X.xe s
noncomputable def aaw:TT:=fun _ H Q=>Q true H
theorem Yg {X:Cx}:PTs X [] aaw:=fun _ _ _ H _ I h=>wpAny_tests_nil ⟨H,I,h⟩
theorem Ye {X:Cx}{c:Expr}{t:TT}(h:PT X c t):PTs X [c] t:=fun pins s σ H Q I q=>wpAny_tests_one (h pins s σ H Q I q)
noncomputable def CZ (mp:List (Option Nat))(wi:TI)(g:TG)(tc:TT)(te:TE):TE:=fun σ H Q=>wi σ H fun J H1=>
 ∃W:Nat->Nat->List V->St->Hp->Prop,(∃m,W 0 m [] (mq mp σ) H1)/\∀i m acc τ H2,W i m acc τ H2 ->
  (J.stop i H2/\∀d,H2 d=none->Q (.ref d) (upd H2 d (.lst acc))) \/
  (J.go i H2/\acc.length<AK/\∃N:List V->St->Hp->Prop,(∀acc' τ' H',N acc' τ' H'->∃m',m'<m/\W (i+1) m' acc' τ' H')/\∀x H3,J.yld i H2 x H3->g x τ H3 fun τ1 H4=>tc τ1 H4 fun b H5=>
   if b=true then te τ1 H5 fun v H6=>N (acc++[v]) τ1 H6 else N acc τ1 H5)
theorem ju {env:Env}:∀{names:List (Str×CM)}{x:Str}{k:CM},(names.map fun(n,k)=>if (k == CM.free&&env.scope.kind == .function&&env.kindOf n == some .cell) then (n,CM.cell) else (n,k)).lookup x=some k ->
  names.lookup x=some k\/(k=.cell/\names.lookup x=some .free)
 | [],_,_,h=>by simp at h
 | (n,k0)::r,x,k,h=>by
  have ih:=@ju env r x k;rw[DV] at h;by_cases hc:(k0 == CM.free&&env.scope.kind == .function&&env.kindOf n == some .cell)=true
  ·simp only[hc,if_true] at h;cases hx:x == n with
   | true=>
    rw[DM,hx] at h;have hk:k0=.free:=by
     rw[C7,C7] at hc;simpa using hc.1.1
    right;refine⟨(A7 h).symm,?_⟩;rw[DM,hx,hk]
   | false=>
    rw[DM,hx] at h;rw[DM,hx];exact ih h
  simp only[hc,if_false] at h;cases hx:x == n with
  | true=>
   rw[if_neg (by simp),DM,hx] at h;rw[DM,hx];exact .inl h
  | false=>
   rw[if_neg (by simp),DM,hx] at h;rw[DM,hx];exact ih h
theorem na0 {b D E:Nat}(h:b<E)(hD:E=D):b≠D:=by omega
theorem na1 {b D E C:Nat}(h:b<E)(hD:E=D)(hC:C=D+1):b≠C:=by omega
theorem na2 {C D:Nat}(hC:C=D+1):D≠C:=by omega
theorem na3 {C D E:Nat}(hD:E=D)(hC:C=D+1):E<=C:=by omega
theorem na4 {D E:Nat}(hD:E=D):E<=D:=by omega
section
variable {X:Cx}{NX N:List Str}{kX:List (Str×CM)}{mp:List (Option Nat)}{scope:D3}{pins:List (Addr×Obj)}{σ:St}{s s':AC}{H:Hp}{fp:List Addr}{cl:List (Str×Addr)}{C:Addr}
theorem GX (hkX:X.env.scope.names=kX)(S:xO NX kX N mp scope)(I:Inv X pins σ H s)(hfp:∀b∈fp,sU X pins H b)(hold:∀b∈fp,b<s.heap.objs.size)(hC:s.heap.objs.size<=C)
  (hsub:∀x c,cl.lookup x=some c->X.env.cells.lookup x=some c) (hhas:∀y∈scope.names,y.2=.free->∃c,cl.lookup y.1=some c):(bQ X N scope cl C s H fp).Ok where
 mod:=I.ok.mod
 kind:=S.kind
 glob:=I.ok.glob
 blt:=I.ok.blt
 above:=hC
 inj:=fun x y c h1 h2=>I.ok.inj x y c (hsub x c h1) (hsub y c h2)
 has:=fun x h=>by
  have key:scope.names.lookup x=some .free:=by
   rcases h with h|h
   ·rcases ju (env:=X.env) (names:=scope.names) h with q|⟨_,q⟩
    ·exact absurd rfl (S.nocell _ (BD q))
    exact q
   rcases ju (env:=X.env) (names:=scope.names) h with q|⟨q,_⟩
   ·exact q
   cases q
  exact hhas _ (BD key) rfl
 cab:=fun x c h=>by cases h
 hd:=I.ok.hd
 frames:=I.ok.frames
 stk:=.inl rfl
 exf:=fun b hb=>⟨BG (A8 (hold b hb) hC),fun x c e=>(hfp b hb).2.2.2.2.1 x c (hsub x c e)⟩
 bs:=I.bs
 bsz:=BB I.ok.bsz I.sz
 noex:=fun b o e hb=>by
  rcases(hfp b hb).2.2.2.1 with q|q
  ·exact I.ok.noex b o e q
  exact absurd (A8 (A8 (A3 e) I.ok.bsz) q) (C6 _)
 exfs:=fun b hb hz=>by
  obtain⟨_,h1,h2,_⟩:=hfp b hb;rcases AX.mp (I.tO b hz) with q|q
  ·exact h1 q
  exact h2 q
 sJ:=I.stack
 frf:=I.M5
theorem GZ (hNX:X.N=NX)(hkX:X.env.scope.names=kX)(S:xO NX kX N mp scope)(I:Inv X pins σ H s)(hfp:∀b∈fp,sU X pins H b)(hold:∀b∈fp,b<s.heap.objs.size)(hC:s.heap.objs.size<=C)
  (hsub:∀x c,cl.lookup x=some c->X.env.cells.lookup x=some c) (hhas:∀y∈scope.names,y.2=.free->∃c,cl.lookup y.1=some c)
  (ho:s'.os=s.os) (hg:s'.gens=s.gens) (hn:∃m,s'.heap.Ns C m) (hk:∀b o,s.heap.get? b=some o->s'.heap.get? b=some o) {pl:List (Addr×Obj)}
  (hp:∀p∈pl,s'.heap.get? p.1=some p.2/\H p.1=none/\p.1≠C/\p.1∉frs X.stack/\∀v,p.2.data≠.cell v) :
  Inv (bQ X N scope cl C s H fp) pl (mq mp σ) H s' where
 ok:=GX hkX S I hfp hold hC hsub hhas
 os:=ho
 bare:=by rw[hg];exact I.bare
 base:=Un.kept hk
 loc:=by
  obtain⟨m,hm⟩:=hn;refine⟨m,hm,fun i x v h1 h2 h3=>?_⟩;have h2':(mp.map fun o=>match o with|some j=>(σ[j]?).join|none=>none)[i]?=some (some v):=h2
  rw[A5] at h2';cases e:mp[i]? with
  | none=>rw[e] at h2';cases h2'
  | some o=>
   rw[e] at h2';cases o with
   | none=>cases h2'
   | some j=>
    have h4:(σ[j]?).join=some v:=by simpa using h2'
    have h5:σ[j]?=some (some v):=by
     cases q:σ[j]? with
     | none=>rw[q] at h4;cases h4
     | some z=>rw[q] at h4;rw[show z=some v from h4]
    obtain⟨g1,g2⟩:=Dy S.map h1 e;have fk:=S.fre _ (BD g2) rfl;obtain⟨m0,_,hl⟩:=I.loc;have vis:Vis X.env.scope x:=by
     rcases fk with q|q
     ·exact .inr (.inl (by rw[hkX];exact q))
     exact .inr (.inr (by rw[hkX];exact q))
    obtain⟨u,r,l⟩:=hl j x v (by rw[hNX];exact g1) h5 vis;refine⟨u,r,.inr ?_⟩;have l':∃c,X.env.cells.lookup x=some c/\s.heap.IsCell c (some u):=by
     rcases l with⟨q,_⟩|⟨_,q⟩
     ·have q':X.env.scope.names.lookup x=some .local:=q;rw[hkX] at q';rcases fk with z|z
      ·rw[q'] at z;cases z
      rw[q'] at z;cases z
     exact q
    obtain⟨c,hc,oc,hoc,hd⟩:=l';obtain⟨c',hc'⟩:=hhas _ (BD g2) rfl;have ec:c'=c:=by
     have:=hsub x c' hc';rw[hc] at this;exact(A7 this).symm
    subst ec;refine⟨?_,c',hc',oc,hk _ _ hoc,hd⟩;rcases h3 with q|q|q
    ·rcases ju (env:=X.env) (names:=scope.names) q with z|⟨z,_⟩
     ·rw[g2] at z;cases z
     cases z
    ·exact .inl q
    exact .inr q
 cell:=fun x c e=>by
  obtain⟨v,o,h1,h2⟩:=I.cell x c (hsub x c e);exact⟨v,o,hk _ _ h1,h2⟩
 free:=I.hok.fresh hC
 freeC:=fun x c e=>I.freeC x c (hsub x c e)
 pin:=fun p hpp=>hp p (by simpa [bQ] using hpp)
 hok:=I.hok.kept hk
 len:=by
  show(mp.map _).length=N.length;rw[AG];exact Dw S.map
set_option maxHeartbeats 8000000 in
theorem YD {tg iter elt:Expr}{ifs:List Expr}{pos:Pos}{wi:TI}{g:TG}{tc:TT}{te:TE}(N:List Str)(mp:List (Option Nat))(hNX:X.N=NX)(hkX:X.env.scope.names=kX)(S:xO NX kX N mp scope)(hc:X.calm=true)
  (hi:PI X tg iter wi) (hg:∀cl C s H fp,PG (bQ X N scope cl C s H fp) tg g) (ht:∀cl C s H fp,PTs (bQ X N scope cl C s H fp) ifs tc) (he:∀cl C s H fp,PE (bQ X N scope cl C s H fp) elt te)
  (hs:∀x,DD iter X.env x=pure x:=by intro _;rfl):PE X (.ListComp elt [⟨tg,iter,ifs,0⟩] scope pos) (CZ mp wi g tc te):=by
 intro pins s σ H Q I h;obtain⟨cl,hcl,hsub,hhas⟩:=G3 (env:=X.env) (scope:=scope) fun y hy hf=>I.ok.has y.1 (by
  rcases S.fre y hy hf with q|q
  ·exact .inl (show X.env.scope.names.lookup y.1=_ by rw[hkX];exact q)
  exact .inr (show X.env.scope.names.lookup y.1=_ by rw[hkX];exact q))
 rw[eval_ListComp];refine Hm (use:=none) rfl hs hcl S.kind S.locs ?_;refine thn (hi pins s σ H _ I h) fun v s1 h1=>thn h1 fun itv s2 h2=>?_;obtain⟨it,fp,tn,J,H2,e,I2,T,st2,f2,W,⟨m0,w0⟩,turn⟩:=h2;subst e;refine BF (Go S.nocell (by intro y hy;simp at hy) (fun h3 hns hsb=>?_) S.kind);dsimp only at hns hsb |-;have hold:∀b∈fp,b<s2.heap.objs.size:=fun b hb=>by
  obtain⟨o,q,_⟩:=T.obj _ _ st2 b hb;exact A3 q
 generalize hD:s2.heap.objs.size=D at hns hsb;generalize hH2:s2.heap.push { cls:=.type "list",dict:=none,data:=.seq ([]:List An).toArray }=P2 at hns hsb |-;have hC:P2.objs.size=D+1:=by rw[<- hH2,CA,hD]
 generalize hC':P2.objs.size=C at hns hsb |-;rw[hC'] at hC;have old:∀b o,s2.heap.get? b=some o->h3.get? b=some o:=fun b o q=>by
  have hb:=A3 q;exact hsb.extBut b o (na1 hb hD hC) (AB _ (hH2 ▸ AB _ q))
 have accD:h3.get? D=some { cls:=.type "list",data:=.seq ([]:List An).toArray }:=
  hsb.extBut _ _ (na2 hC) (AB _ (by rw[<- hH2,<- hD];exact AY _ rfl))
 have hfr:D∉frs X.stack:=fun z=>by
  rcases AX.mp (I2.tO D z) with q|q
  ·exact na0 I2.lt hD q.symm
  exact I2.Y7 (na4 hD) q
 have I0:Inv (bQ X N scope cl C s2 H2 fp) [(D,{ cls:=.type "list",data:=.seq ([]:List An).toArray })] (mq mp σ) H2 { s2 with heap:=h3,toks:=s2.toks+([]:List (Str×An)).length }:=
  GZ (s':={ s2 with heap:=h3,toks:=s2.toks+([]:List (Str×An)).length }) hNX hkX S I2 f2 hold (na3 hD hC) hsub hhas rfl rfl ⟨_,hns⟩ old fun p hp=>by
   have ep:=AJ.mp hp;subst ep;exact⟨accD,I2.hok.fresh (na4 hD),na2 hC,hfr,fun v z=>by cases z⟩
 have T0:tn 0 h3:=T.keep _ _ _ st2 fun b _ o q=>old b o q;have loop:∀z:AC,z={ s2 with heap:=h3,toks:=s2.toks+([]:List (Str×An)).length } ->
   FK (A0 X.prog X.w) X.A (.compLoop (.ListComp elt [⟨tg,iter,ifs,0⟩] scope pos) 0 (.ref it) (.ref D) (Gc scope cl C X.env))
    (compPost (A0 X.prog X.w) X.A X.xe none (EP X pins σ Q) (.ref D) C) z:=by
  rintro z rfl;have stat:∀{H':Hp}{pl:List (Addr×Obj)},(∀b∈fp,H' b=none)->(∀p∈pl,p.1=D)->∀b∈fp,sU (bQ X N scope cl C s2 H2 fp) pl H' b:=fun hn hp b hb=>by
   have hb2:=hold b hb;refine⟨hn b hb,na1 hb2 hD hC,(GX hkX S I2 f2 hold (na3 hD hC) hsub hhas).exfs b hb,.inl hb,fun x c q=>(f2 b hb).2.2.2.2.1 x c (hsub x c q),fun p hpp=>?_⟩;have hpD:=hp p (by simpa [bQ] using hpp);rw[hpD];exact(na0 hb2 hD).symm
  refine DX (env:=Gc scope cl C X.env) (fun n z=>∃i acc τ H' its k,Inv (bQ X N scope cl C s2 H2 fp) [(D,{ cls:=.type "list",data:=.seq (GN its) k })] τ H' z/\tn i z.heap/\(∀b∈fp,H' b=none)/\Vals acc its/\acc.length<=AK/\W i n acc τ H')
   ?_ m0 ⟨0,[],_,H2,[],0,I0,T0,fun b hb=>(f2 b hb).1,.nil,ET _,w0⟩
  rintro n s5 ⟨i,acc,τ,H5,its,k,I5,st5,fr5,va,hz,w5⟩;rcases turn i n acc τ H5 w5 with⟨stop,qn⟩|⟨go,hz2,N9,hN9,step⟩
  ·refine thn (T.done (bQ X N scope cl C s2 H2 fp) rfl rfl rfl hc i _ s5 τ H5 _ I5 (stat fr5 (by simp)) st5 stop) fun r s6 ⟨hr,I6⟩=>?_;subst hr;obtain⟨m6,hn6,_⟩:=I6.loc;refine⟨m6,hn6,fun h' sb=>?_⟩;obtain⟨dD,nD,_,_,_⟩:=I6.pin (D,_) (Bi _ (AJ.mpr rfl));have U:=I6.base;have nC:H5 C=none:=I6.free;have ne:∀b o,s2.heap.get? b=some o->b≠C/\b≠D:=fun b o q=>by
    exact⟨na1 (A3 q) hD hC,na0 (A3 q) hD⟩
   have keepC:∀b o,b≠C->s6.heap.get? b=some o->h'.get? b=some o:=fun b o hb q=>(sb.2 b hb).trans q;have U':Un (frs X.stack) fp H2 (upd H5 D (.lst acc)) s2.heap h':=by
    refine⟨fun b o q n1 hb hx=>keepC b o (ne b o q).1 (U.keep b o q n1 hb hx),fun b o q n1 hb hx=>?_,fun b o q n1 hx=>?_,fun b o q hx=>?_,fun b xs q=>?_,fun b o xs q=>?_,fun b ps q=>?_⟩
    ·obtain⟨sl,z⟩:=U.slot b o q n1 hb hx;exact⟨sl,keepC b _ (ne b o q).1 z⟩
    ·rw[aM (ne b o q).2];exact U.free b o q n1 hx
    ·obtain⟨o',z⟩:=U.there b o q hx;exact⟨o',keepC b _ (ne b o q).1 z⟩
    ·have z:=U.tups b xs q;rw[aM (aF z nD)];exact z
    ·have z:=U.frzs b o xs q;rw[aM (aF z nD)];exact z
    obtain⟨more,z⟩:=U.tbls b ps q;exact⟨more,by rw[aM (aF z nD)];exact z⟩
   have hok:HOk X.prog X.w (upd H5 D (.lst acc)) h':=fun b u q=>by
    by_cases hb:b=D
    ·subst hb;rw[aB] at q;cases q;exact⟨hz,its,k,va,keepC _ _ (na2 hC) dD⟩
    rw[aM hb] at q;refine(I6.hok b u q).stay (fun c v hcc z=>keepC c v ?_ z) (fun c z=>by rw[aM (aF z nD)];exact z) fun c xs z=>by rw[aM (aF z nD)];exact z
    rcases hcc with z1|z1
    ·subst z1;exact aF q nC
    exact aF z1 nC
   have I7:Inv X pins σ (upd H5 D (.lst acc)) { s6 with heap:=h' }:=I2.call' (s':={ s6 with heap:=h' }) (ch:=fp) I6.os U' hok I6.bare fun b hb=>by
    obtain⟨_,a2,_,a4,a5,a6⟩:=f2 b hb;exact⟨a4,a2,a5,a6⟩
   exact⟨.ref D,_,I7,rfl,qn D nD⟩
  refine thn (T.item (bQ X N scope cl C s2 H2 fp) rfl rfl rfl hc i _ s5 τ H5 _ I5 (stat fr5 (by simp)) st5 go) fun r s6 ⟨u,hr,h6⟩=>?_;subst hr;refine thn h6 fun _ s7 ⟨x,H7,I7,r7,y7,st7,fr7⟩=>?_;have I7':=I7.pinned (stat fr7 (by simp)) (T.obj _ _ st7);have no:∀{α:Type}{t:Sem α}{Q1 Q2:α->AC->Prop}{E:An->AC->Prop}{z:AC},AM (A0 X.prog X.w) X.A t Q1 (fun _ _=>False) z->(∀a z,Q1 a z->Q2 a z)->AM (A0 X.prog X.w) X.A t Q2 E z:=
   fun q f=>B5 q f fun _ _ z=>z.elim
  refine no (hg cl C s2 H2 fp _ s7 τ H7 x u _ I7' r7 (step x H7 y7)) fun _ s8 ⟨τ1,H8,I8,q8⟩=>?_;refine no (ht cl C s2 H2 fp _ s8 τ1 H8 _ I8 q8) fun ok s9 ⟨H9,I9,q9⟩=>?_;have IA:∀{H':Hp}{z:AC}{its':List An}{k':Nat},Inv (bQ X N scope cl C s2 H2 fp) ([(D,{ cls:=.type "list",data:=.seq (GN its') k' })]++jE fp s7.heap) τ1 H' z ->
    tn (i+1) z.heap/\(∀b∈fp,H' b=none)/\Inv (bQ X N scope cl C s2 H2 fp) [(D,{ cls:=.type "list",data:=.seq (GN its') k' })] τ1 H' z:=fun {H' z its' k'} Iz=>by
   have get:∀b∈fp,∀o,s7.heap.get? b=some o->z.heap.get? b=some o/\H' b=none:=fun b hb o q=>by
    obtain⟨a1,a2,_⟩:=Iz.pin (b,o) (Bi _ (Bi _ (lM hb q)));exact⟨a1,a2⟩
   refine⟨T.keep _ _ _ st7 fun b hb o q=>(get b hb o q).1,fun b hb=>?_,Iz.mY⟩;obtain⟨o,q,_⟩:=T.obj _ _ st7 b hb;exact(get b hb o q).2
  cases ok with
  | false=>
   rw[if_neg A4] at q9 |-;obtain⟨m',hm,w9⟩:=hN9 _ _ _ q9;obtain⟨a1,a2,a3⟩:=IA I9;exact⟨m',hm,i+1,acc,τ1,H9,its,k,a3,a1,a2,va,hz,w9⟩
  | true=>
   rw[if_pos rfl] at q9 |-;refine no (he cl C s2 H2 fp _ s9 τ1 H9 _ I9 q9) fun y s10 ⟨v,H10,I10,rv,q10⟩=>?_;obtain⟨m',hm,w10⟩:=hN9 _ _ _ q10;obtain⟨a1,a2,a3⟩:=IA I10;obtain⟨dD,nD,_,_,_⟩:=a3.pin (D,_) (Bi _ (AJ.mpr rfl));have hlen:=va.length;refine Fm F.slot_list_append ⟨_,dD,rfl⟩ IY (IE _ _) (PySem.list_append D its.toArray k y (by rw[AN];omega)) ⟨dD,?_⟩;obtain⟨k',q⟩:∃k',(s10.heap.update D (Db fun a=>a.push y)).get? D=some { cls:=.type "list",data:=.seq (its++[y]).toArray k' }:=by
    have q:=PySem.IsL.update dD (fun a=>a.push y);rw[show its.toArray.push y=(its++[y]).toArray by simp] at q;exact⟨_,q⟩
   have a4:Inv (bQ X N scope cl C s2 H2 fp) (jE fp s7.heap) τ1 H10 s10:=I10.mz fun p hp=>I10.pin p (Bi _ (Bi _ hp));have a5:Inv (bQ X N scope cl C s2 H2 fp) (jE fp s7.heap) τ1 H10 { s10 with heap:=s10.heap.update D (Db fun a=>a.push y),toks:=s10.toks }:=
    a4.turned (it:=D) (fun b o hb z=>(C4 _ _ (B6 hb)).trans z) nD (na2 hC) (.inr (na4 hD))
     (fun x c z=>by
      obtain⟨_,o,h1,_⟩:=I2.cell x c (hsub x c z);exact na0 (A3 h1) hD) fun p hp=>by
      have hb:=(rD (by simpa [bQ] using hp)).1;exact na0 (hold _ hb) hD
   obtain⟨b1,b2,b3⟩:=(show tn (i+1) (s10.heap.update D (Db fun a=>a.push y))/\(∀b∈fp,H10 b=none)/\True from
    ⟨T.keep _ _ _ a1 fun b hb o z=>(C4 _ _ (na0 (hold b hb) hD).symm).trans z,a2,trivial⟩)
   refine⟨m',hm,i+1,acc++[v],τ1,H10,its++[y],k',a5.mz fun p hp=>?_,b1,b2,va.append (.cons rv .nil),by rw[AI,BE];omega,w10⟩;have ep:=AJ.mp hp;subst ep;exact⟨q,nD,na2 hC,hfr,fun v z=>by cases z⟩
 have e1:{ newEnv scope C X.env.globals cl X.env.qual none .none (some X.env) X.env.builtins with scope:=relabel scope X.env }=Gc scope cl C X.env:=rfl;exact codeAny_compStart_list (loop _ rfl) (T.self _ 0 _ _ _ T0 (loop _ rfl))
end
section
variable {X:Cx}{pins:List (Addr×Obj)}{σ:St}{H:Hp}{s:AC}
theorem Inv.SJ {ch:List Addr}{h':Heap}{t':Nat}(I:Inv X pins σ H s)(hf:∀b∈ch,sU X pins H b)(k:∀b o,b∉ch->s.heap.get? b=some o->h'.get? b=some o):Inv X pins σ H { s with heap:=h',toks:=t' }:=by
 have nit:∀b u,H b=some u->b∉ch:=fun b u e z=>by rw[(hf b z).1] at e;cases e
 refine I.step (g':=s.gens) (d':=s.drawn) (ch:=ch) (fun b hb=>?_) (fun b o _ _ hc e _=>k b o hc e) (fun b o _ _ hc e _=>⟨o.slots,k b o hc e⟩) (fun _ _ _ _ n=>n)
  (fun b o hc e=>⟨o,k b o hc e⟩) (fun _ _ e=>e) (fun _ _ _ e=>e) (fun b ps e=>⟨#[],by rw[e];simp⟩) (fun m hm=>?_) (fun b u e=>?_) I.bare
 ·obtain⟨_,a2,_,a4,a5,a6⟩:=hf b hb;exact⟨a4,a2,a5,a6⟩
 ·obtain⟨o,es,ep,ho,r⟩:=hm;exact⟨o,es,ep,k _ o (fun z=>(hf _ z).2.1 rfl) ho,r⟩
 refine(I.hok b u e).stay (fun c v hc q=>k c v ?_ q) (fun _ q=>q) fun _ _ q=>q;rcases hc with z|z
 ·rw[z];exact nit b u e
 exact nit c _ z
theorem Inv.Sy {ch:List Addr}{h':Heap}{t':Nat}{p:Addr}{o:HO}(I:Inv X pins σ H s)(hf:∀b∈ch,sU X pins H b)(k:∀b o,b∉ch->s.heap.get? b=some o->h'.get? b=some o)(hp:s.heap.objs.size<=p)
  (new:cI X.prog X.w (upd H p o) h' p o):Inv X pins σ (upd H p o) { s with heap:=h',toks:=t' }:=by
 have hn:H p=none:=I.hok.fresh hp;have nit:∀b u,H b=some u->b∉ch:=fun b u e z=>by rw[(hf b z).1] at e;cases e
 have lt:∀b u,s.heap.get? b=some u->b≠p:=fun b u e=>BG (A8 (A3 e) hp);refine I.step (g':=s.gens) (d':=s.drawn) (ch:=ch) (fun b hb=>?_) (fun b o _ _ hc e _=>k b o hc e) (fun b o _ _ hc e _=>⟨o.slots,k b o hc e⟩) (fun b o _ e n=>by rw[aM (lt b o e)];exact n)
  (fun b o hc e=>⟨o,k b o hc e⟩) (fun b xs e=>by rw[aM (aF e hn)];exact e) (fun b u xs e=>by rw[aM (aF e hn)];exact e) (fun b ps e=>⟨#[],by rw[aM (aF e hn),e];simp⟩) (fun m hm=>?_) (fun b u e=>?_) I.bare
 ·obtain⟨_,a2,_,a4,a5,a6⟩:=hf b hb;exact⟨a4,a2,a5,a6⟩
 ·obtain⟨o,es,ep,ho,r⟩:=hm;exact⟨o,es,ep,k _ o (fun z=>(hf _ z).2.1 rfl) ho,r⟩
 by_cases hb:b=p
 ·subst hb;rw[aB] at e;cases e;exact new
 rw[aM hb] at e;refine(I.hok b u e).stay (fun c v hc q=>k c v ?_ q) (fun c q=>by rw[aM (aF q hn)];exact q) fun c xs q=>by rw[aM (aF q hn)];exact q
 rcases hc with z|z
 ·rw[z];exact nit b u e
 exact nit c _ z
end
noncomputable def Ite (K:Au)(a:Addr):It:=
 ⟨fun i H=>∃xs x,SqL K H a xs/\xs[i]?=some x,
  fun i H v H'=>∃p x,v=.ref p/\H p=none/\H'=upd H p (.tup [.int (i:Nat),x])/\∀xs,SqL K H a xs->xs[i]?=some x,
  fun i H=>∃xs,SqL K H a xs/\xs[i]?=none⟩
theorem Pr {P:AU}{w:Be}{K:Au}{es:List Expr}{kk:Nat}{tpos:Pos}{e it l:Addr}(hne:e≠it) :
  Turn P w K (.Tuple es kk tpos) (Ite K l) [e,it] e (fun i h=>(∃old,IsEnum h e it ((i:Nat):Int) old)/\h.IsListIter it l i) where
 mem:=by simp
 obj:=fun i h st b hb=>by
  obtain⟨⟨old,he⟩,⟨o1,e1,c1,d1⟩⟩:=st;simp only[AX,Bz,or_false] at hb;rcases hb with rfl|rfl
  ·exact⟨_,he,fun v q=>by cases q⟩
  exact⟨o1,e1,fun v q=>by rw[d1] at q;cases q⟩
 keep:=fun i h h' st k=>by
  obtain⟨⟨old,he⟩,h1⟩:=st;exact⟨⟨old,k e (by simp) _ he⟩,h1.at fun o q=>k it (by simp) o q⟩
 item:=by
  intro X hP hw hK hc i pins s σ H E I hf st hg;subst hP hw hK;obtain⟨xs,x,q1,hx⟩:=hg;obtain⟨its1,rv1,p1,hz1⟩:=I.list q1;obtain⟨u1,hu1,ru1⟩:=rv1.get hx;obtain⟨⟨old,he⟩,h1⟩:=st;refine wpAny_pyNext_enum_item he h1 p1.isList (x:=u1) (by simpa using hu1) hne fun h' a1 a2 a3 a4 hk=>?_;have new:cI X.prog X.w (upd H s.heap.objs.size (.tup [.int (i:Nat),x])) h' s.heap.objs.size (.tup [.int (i:Nat),x]):=⟨by show 2<=AK;decide,[.int (i:Nat) s.toks,u1],.cons ⟨_,rfl⟩ (.cons ru1 .nil),_,a3,rfl,_,rfl⟩;have I1:Inv X pins σ (upd H s.heap.objs.size (.tup [.int (i:Nat),x])) { s with heap:=h',toks:=s.toks+1 }:=I.Sy (ch:=[e,it]) hf
   (fun b o hb q=>hk b o (fun z=>hb (by simp [z])) (fun z=>hb (by simp [z])) q) (A9 _) new
  have hsz:∀b,b∈[e,it]->b≠s.heap.objs.size:=fun b hb=>by
   have lt:∃o,s.heap.get? b=some o:=by
    simp only[AX,Bz,or_false] at hb;rcases hb with rfl|rfl
    ·exact⟨_,he⟩
    obtain⟨o,q,_⟩:=h1;exact⟨o,q⟩
   obtain⟨o,q⟩:=lt;exact BG (A3 q)
  refine⟨_,rfl,wpAny_letOwnedTupleGo_enum (s:={ s with heap:=h',toks:=s.toks+1 }) a1 fun h'' z2 sb=>?_⟩;have fz:=hf e (by simp);have I2:Inv X pins σ (upd H s.heap.objs.size (.tup [.int (i:Nat),x])) { s with heap:=h'',toks:=s.toks+1 }:=Inv.turned (s:={ s with heap:=h',toks:=s.toks+1 }) (it:=e) I1 (fun b o hb q=>(sb.2 b hb).trans q) (by rw[aM (hsz e (by simp))];exact fz.1) fz.2.1 fz.2.2.2.1 fz.2.2.2.2.1 fz.2.2.2.2.2;refine⟨.ref s.heap.objs.size,_,I2,rfl,⟨_,x,rfl,I.fresh,rfl,fun xs' q=>by rw[I.Je q q1];exact hx⟩,
   ⟨⟨_,by simpa using z2⟩,a2.extBut sb.extBut hne.symm⟩,fun b hb=>by rw[aM (hsz b hb)];exact(hf b hb).1⟩
 done:=by
  intro X hP hw hK hc i pins s σ H E I hf st hg;subst hP hw hK;obtain⟨xs,q1,hx⟩:=hg;obtain⟨its1,rv1,p1,hz1⟩:=I.list q1;obtain⟨⟨old,he⟩,h1⟩:=st;refine wpAny_pyNext_enum_end (I.ok.hd hc) he h1 p1.isList (by simpa using rv1.none_of hx) fun h' hk=>⟨rfl,?_⟩;exact I.SJ (t':=s.toks) (ch:=[e,it]) hf (fun b o hb q=>hk b o (fun z=>hb (by simp [z])) q)
 self:=fun _ _ _ _ _ st h=>by
  obtain⟨⟨old,he⟩,_⟩:=st;exact Hd he h
theorem Vals.bools:∀{bs:List Bool}{us:List An},Vals (bs.map V.bl) us->us=bs.map An.bool
 | [],_,.nil=>rfl
 | _::_,_,.cons r t=>by rw[Vals.bools t,(show _=An.bool _ from r)];rfl
section
variable {X:Cx}
theorem RW (bs:List Bool):((EG bs.length).all fun i=>(bs[i]?).getD true)=bs.all id:=by
 rw[Ff,IG,IG];constructor
 ·intro h b hb;obtain⟨i,hi,rfl⟩:=IZ hb;have:=h i (HA.mpr hi);rw[AF hi] at this;exact this
 intro h i hi;have hi':=HA.mp hi;rw[AF hi'];exact h _ (FA hi')
theorem RV (bs:List Bool):((EG bs.length).any fun i=>(bs[i]?).getD false)=bs.any id:=by
 rw[Ff,any_eq_true,any_eq_true];constructor
 ·intro⟨i,hi,h⟩;have hi':=HA.mp hi;rw[AF hi'] at h;exact⟨_,FA hi',h⟩
 intro⟨b,hb,h⟩;obtain⟨i,hi,rfl⟩:=IZ hb;exact⟨i,HA.mpr hi,by rw[AF hi];exact h⟩
noncomputable def T6 (K:Au)(f:List Bool->Bool):List V->Hp->VK->Prop:=fun xs H Q=>∃p bs,xs=[.ref p]/\SqL K H p (HE V.bl bs)/\Q (.bl (f bs)) H
theorem Wx (hc:X.calm=true):dN X (.builtin "all") (T6 X.K fun bs=>bs.all id):=by
 intro pins s σ H xs us Q I r h;obtain⟨p,bs,rfl,hq,q⟩:=h;cases r with
 | cons r rr=>
  cases rr;cases r;obtain⟨its,rv,pl,hz⟩:=I.list hq;have e:=rv.bools;subst e;have lt:p<s.heap.objs.size:=by obtain⟨_,e,_⟩:=pl.isList;exact A3 e
  refine call_all_walk (D8 pl.isList ?_);refine⟨s.heap.objs.size,[s.heap.objs.size,p],[s.heap.objs.size],(bs.map An.bool).toArray.size,_,_,fun i=>(bs[i]?).getD true,rfl,HZ (A:=X.A.in1) (I.ok.hd hc) _ p (BG lt) _,
   ⟨⟨_,AY _ rfl,rfl,rfl⟩,pl.isList.push _⟩,fun i v s' Q' E' hP hQ=>?_,fun h' tk hk=>?_⟩
  ·have e:(bs.map An.bool)[i]?=some v:=by simpa using hP
   rw[A5] at e;cases z:bs[i]? with
   | none=>rw[z] at e;cases e
   | some b=>
    rw[z] at e;have e':An.bool b=v:=A7 e;subst e';dsimp only at hQ;rw[z] at hQ;exact DC hQ
  rw[AN,AG,RW];refine⟨.bl _,H,I.kept fun b o e=>hk b o (fun hm=>?_) (AB _ e),rfl,q⟩;rw[AJ.mp hm] at e;exact C6 _ (A3 e)
theorem Ww (hc:X.calm=true):dN X (.builtin "any") (T6 X.K fun bs=>bs.any id):=by
 intro pins s σ H xs us Q I r h;obtain⟨p,bs,rfl,hq,q⟩:=h;cases r with
 | cons r rr=>
  cases rr;cases r;obtain⟨its,rv,pl,hz⟩:=I.list hq;have e:=rv.bools;subst e;have lt:p<s.heap.objs.size:=by obtain⟨_,e,_⟩:=pl.isList;exact A3 e
  refine call_any_walk (D8 pl.isList ?_);refine⟨s.heap.objs.size,[s.heap.objs.size,p],[s.heap.objs.size],(bs.map An.bool).toArray.size,_,_,fun i=>(bs[i]?).getD false,rfl,HZ (A:=X.A.in1) (I.ok.hd hc) _ p (BG lt) _,
   ⟨⟨_,AY _ rfl,rfl,rfl⟩,pl.isList.push _⟩,fun i v s' Q' E' hP hQ=>?_,fun h' tk hk=>?_⟩
  ·have e:(bs.map An.bool)[i]?=some v:=by simpa using hP
   rw[A5] at e;cases z:bs[i]? with
   | none=>rw[z] at e;cases e
   | some b=>
    rw[z] at e;have e':An.bool b=v:=A7 e;subst e';dsimp only at hQ;rw[z] at hQ;exact DC hQ
  rw[AN,AG,RV];refine⟨.bl _,H,I.kept fun b o e=>hk b o (fun hm=>?_) (AB _ e),rfl,q⟩;rw[AJ.mp hm] at e;exact C6 _ (A3 e)
noncomputable def ac7 (K:Au):List V->Hp->VK->Prop:=fun xs H Q=>∃x T t b,xs=[x,.ty T]/\sS K H x t/\kitOne K t (.type T)=some b/\Q (.bl b) H
theorem Wv:dN X (.builtin "isinstance") (ac7 X.K):=by
 intro pins s σ H xs us Q I r h;obtain⟨x,T,t,b,rfl,ty,e,q⟩:=h;cases r with
 | cons r rr=>
  cases rr with
  | cons r' rr=>
   cases rr;cases (show _=An.type T from r');exact Q6 I r ty e fun tk=>⟨.bl b,H,I.tok tk,rfl,q⟩
noncomputable def aco (K:Au):List V->Hp->VK->Prop:=fun xs H Q=>∃x p Ts t b,xs=[x,.ref p]/\SqT K H p (HE V.ty Ts)/\sS K H x t/\PySem.W.kitAny K t (Ts.map An.type)=some b/\Q (.bl b) H
theorem Vals.types:∀{bs:List String}{us:List An},Vals (bs.map V.ty) us->us=bs.map An.type
 | [],_,.nil=>rfl
 | _::_,_,.cons r t=>by rw[Vals.types t,(show _=An.type _ from r)];rfl
theorem adg {x:V}{u t:An}{pins:List (Addr×Obj)}{σ:St}{H:Hp}{s:AC}(I:Inv X pins σ H s)(rx:RelV x u)(ty:sS X.K H x t)(hl:∀a C dx fs,H a=some (.ins C dx fs)->x≠.ref a) :
  ∃Hh:Heap->Prop,PySem.W.KitX X.K u t Hh/\Hh s.heap/\u≠.builtin "__main__.__loader__#opaque" := by
 cases ty with
 | non=>cases (show u=An.none from rx);exact⟨_,PySem.W.kitx_none,DF,fun z=>nomatch z⟩
 | bl y=>cases (show u=An.bool y from rx);exact⟨_,PySem.W.kitx_bool,DF,fun z=>nomatch z⟩
 | int i=>obtain⟨t,q⟩:=(show ∃t,u=An.int i t from rx);cases q;exact⟨_,PySem.W.kitx_int,DF,fun z=>nomatch z⟩
 | str y=>obtain⟨t,q⟩:=(show ∃t,u=An.str y t from rx);cases q;exact⟨_,PySem.W.kitx_str,DF,fun z=>nomatch z⟩
 | flt y=>obtain⟨t,q⟩:=(show ∃t,u=An.float y t from rx);cases q;exact⟨_,PySem.W.kitx_float,DF,fun z=>nomatch z⟩
 | @lst a xs ea=>
  cases (show u=An.ref a from rx);obtain⟨_,_,n,_,h1⟩:=(show cI X.prog X.w H s.heap a (.lst xs) from I.hok a _ ea);exact⟨_,Hb,⟨_,h1,rfl⟩,fun z=>nomatch z⟩
 | @frz a ob xs ea=>
  cases (show u=An.ref a from rx);obtain⟨_,_,_,n,_,h1⟩:=(show cI X.prog X.w H s.heap a (.frz ob (.lst xs)) from I.hok a _ ea);exact⟨_,Hb,⟨_,h1,rfl⟩,fun z=>nomatch z⟩
 | @tup a xs ea=>
  cases (show u=An.ref a from rx);obtain⟨_,_,_,p⟩:=(show cI X.prog X.w H s.heap a (.tup xs) from I.hok a _ ea);obtain⟨o,h1,h2,_⟩:=p;exact⟨_,PySem.W.kitx_tuple,⟨o,h1,h2⟩,fun z=>nomatch z⟩
 | @dK a kvs ea=>
  cases (show u=An.ref a from rx);obtain⟨_,_,vs,_,p⟩:=(show cI X.prog X.w H s.heap a (.dK kvs) from I.hok a _ ea);obtain⟨o,es,ep,h1,h2,_⟩:=p;exact⟨_,Hc,⟨o,h1,h2.1⟩,fun z=>nomatch z⟩
 | @dT a kvs ea=>
  cases (show u=An.ref a from rx);obtain⟨_,_,xs,_,o,es,ep,h1,h2,_⟩:=(show cI X.prog X.w H s.heap a (.dT kvs) from I.hok a _ ea);exact⟨_,Hc,⟨o,h1,h2.1⟩,fun z=>nomatch z⟩
 | @ins a C dx fs ea cl ha hn htk hm=>exact absurd rfl (hl a C dx fs ea)
theorem RM:dN X (.builtin "isinstance") (fun xs H Q=>aco X.K xs H Q/\∀a C dx fs,H a=some (.ins C dx fs)->xs.head?≠some (.ref a)):=by
 intro pins s σ H xs us Q I r h;obtain⟨⟨x,p,Ts,t,b,rfl,hq,ty,e,q⟩,hl⟩:=h;cases r with
 | cons r rr=>
  cases rr with
  | cons r' rr=>
   cases rr;cases r';obtain⟨Hh,Z,hh,ne⟩:=adg I r ty fun a C dx fs z w'=>hl a C dx fs z (by rw[w'];rfl);obtain⟨its,rv,⟨o,ho,hcl,n,hd⟩,hz⟩:=I.tuple hq;have ei:=rv.types;subst ei;obtain⟨c0,d0,dt0,sl0⟩:=o;cases (show c0=An.type "tuple" from hcl);cases (show dt0=GA (HE An.type Ts).toArray n from hd);exact PySem.W.kia_tup Z I.kIn hh ho e ne fun tk=>⟨.bl b,H,I.tok tk,rfl,q⟩
end
inductive Tn (H:Hp):V->String->Prop where
 | non:Tn H .non "NoneType"
 | bl (b:Bool):Tn H (.bl b) "bool"
 | int (i:Int):Tn H (.int i) "int"
 | str (x:Str):Tn H (.str x) "str"
 | lst {a:Addr} {xs:List V} (e:H a=some (.lst xs)):Tn H (.ref a) "list"
 | tup {a:Addr} {xs:List V} (e:H a=some (.tup xs)):Tn H (.ref a) "tuple"
theorem Tn.ty {K:Au}{H:Hp}{x:V}{t:String}(h:Tn H x t):sS K H x (.type t):=by
 cases h with
 | non=>exact .non
 | bl b=>exact .bl b
 | int i=>exact .int i
 | str x=>exact .str x
 | lst e=>exact .lst e
 | tup e=>exact .tup e
noncomputable def gh (t T:String):Bool:=t == T||(t == "bool" && T == "int")
noncomputable def gn:List String:=["NoneType","bool","int","str","list","tuple"]
theorem Oi (K:Au):∀t∈gn,∀T∈gn,kitOne K (.type t) (.type T)=some (gh t T):=by
 intro t ht T hT;simp only[gn,AX,Bz,or_false] at ht hT;rcases ht with rfl|rfl|rfl|rfl|rfl|rfl <;> rcases hT with rfl|rfl|rfl|rfl|rfl|rfl <;> first|rfl|kernel_rfl
theorem Tn.known {H:Hp}{x:V}{t:String}(h:Tn H x t):t∈gn:=by cases h <;> decide
section
variable {X:Cx}
theorem RP:dN X (.builtin "isinstance") (fun xs H Q=>∃x T t,xs=[x,.ty T]/\Tn H x t/\T∈gn/\Q (.bl (gh t T)) H):=by
 intro pins s σ H xs us Q I r h;obtain⟨x,T,t,rfl,ty,hT,q⟩:=h;exact Wv pins s σ H _ us Q I r ⟨x,T,_,_,rfl,ty.ty,Oi X.K t ty.known T hT,q⟩
theorem Oj (K:Au){t:String}(ht:t∈gn):∀Ts:List String,(∀T∈Ts,T∈gn)->PySem.W.kitAny K (.type t) (Ts.map An.type)=some (Ts.any fun T=>gh t T)
 | [],_=>rfl
 | T::r,h=>by
  have e:=Oi K t ht T (h T A6);have ih:=Oj K ht r fun T' h'=>h T' (BI _ h');show(match kitOne K (.type t) (.type T) with|some true=>some true|some false=>PySem.W.kitAny K (.type t) (r.map An.type)|none=>none)=_
  rw[e,any_cons];cases gh t T with
  | true=>rfl
  | false=>exact ih
theorem RN:dN X (.builtin "isinstance") (fun xs H Q=>∃x p Ts t,xs=[x,.ref p]/\H p=some (.tup (HE V.ty Ts))/\Tn H x t/\(∀T∈Ts,T∈gn)/\Q (.bl (Ts.any fun T=>gh t T)) H):=by
 intro pins s σ H xs us Q I r h;obtain⟨x,p,Ts,t,rfl,hp,ty,hT,q⟩:=h;refine RM pins s σ H _ us Q I r ⟨⟨x,p,Ts,_,_,rfl,SqT.of hp,ty.ty,Oj X.K ty.known Ts hT,q⟩,fun a C dx fs e z=>?_⟩;have z':x=.ref a:=by simpa using z
 subst z';cases ty with
 | lst e'=>rw[e] at e';cases e'
 | tup e'=>rw[e] at e';cases e'
noncomputable def aap (i j:Int):Prop:=0<j/\j<2^70
theorem zy:OpR X (Da .FloorDiv) (rI aap fun i j=>.int (i/j)):=opI fun i j _ _ _ _ _ hc q=>by
 have h1:(0:Int)<j:=hc.1;have h2:j<2^70:=hc.2;refine floordiv_int ω (by rw[Int.fdiv_eq_ediv_of_nonneg i ω];exact q) (.inl (PyProof.noPylong_of_log2 ?_));have h3:j.natAbs≠0:=ω;have h4:j.natAbs.log2<70:=(log2_lt h3).mpr ω;omega
end
noncomputable def aW (p:Addr)(H H':Hp):Prop:=∀b o,b≠p->H b=some o->H' b=some o
theorem aW.refl (p:Addr)(H:Hp):aW p H H:=fun _ _ _ h=>h
theorem aW.trans {p:Addr}{H H1 H2:Hp}(a:aW p H H1)(b:aW p H1 H2):aW p H H2:=fun c o n h=>b c o n (a c o n h)
theorem aW.upd {p:Addr}{H:Hp}{o:HO}:aW p H (upd H p o):=fun b u n h=>by rw[aM n];exact h
theorem Same.x {p:Addr}{H H':Hp}(h:Same H H'):aW p H H':=fun b o _ q=>h b o q
theorem aA {H:Hp}{p:Addr}{o:HO}(h:H p=none):Same H (upd H p o):=fun b u q=>by rw[aM (aF q h)];exact q
theorem aW.seq {K:Au}{p:Addr}{H H':Hp}{a:Addr}{xs:List V}(e:aW p H H')(n:a≠p)(h:SqL K H a xs):SqL K H' a xs:=by
 rcases h with(h|⟨o,h⟩)|h
 ·exact .inl (.inl (e _ _ n h))
 ·exact .inl (.inr ⟨o,e _ _ n h⟩)
 exact .inr h
structure Cal (P:AU)(w:Be)(K:Au)(mg:Str->Option An)(base:Heap)(x:Str)(k:Nat)(ps:List Str)(sp:Sp):Prop where
 ex:∃(f:Addr)(fd:BU),dj P w K mg base CX0 k f fd ps sp/\Binds K fd ps []/\Cc K (.ref f)=true/\mg x=some (.ref f)
section
variable {X:Cx}{k:Nat}{ps:List Str}{sp:Sp}{x:Str}{p pos:Pos}{e:Expr}{es:List Expr}{t:TA}
theorem abj (C:Cal X.prog X.w X.K X.mg X.base x k ps sp) (hr:gH k X.A) (hg:Gl X x) (ha:PA X (e::es) t) (hdb:(x == ("__debug__" : Str))=false:=by decide)
  (he:AL (e::es) X.env=(false,eval e X.env)::AL es X.env:=by rfl) (hpl:(CB pos (AL es X.env)).any (·.1)=false:=by rfl):PE X (.Call (.Name x p) (e::es) [] pos) (pX sp [] E0 t):=by
 obtain⟨f,fd,F,b,kp,hm⟩:=C.ex;exact YG F hr hg hm kp b .nil UL ha hdb he hpl
end
structure ab8 (K:Au)(mg:Str->Option An)(x:Str)(st:Stmt)(ps:List Str)(f:Addr)(fd:BU):Prop where
 fn:Fun K x x st f fd
 bd:Binds K fd ps []
 nm:mg x=some (.ref f)
theorem ab8.cal {P:AU}{w:Be}{K:Au}{mg:Str->Option An}{base:Heap}{x:Str}{st:Stmt}{ps:List Str}{f:Addr}{fd:BU}{k:Nat}{sp:Sp}(D:ab8 K mg x st ps f fd)(F:dj P w K mg base CX0 k f fd ps sp):Cal P w K mg base x k ps sp:=
 ⟨f,fd,F,D.bd,D.fn.kp,D.nm⟩
theorem TQ (i j:Int):TV (.int i) (.int j)=true:=rfl
theorem Xo (i j:Bool):TV (.bl i) (.bl j)=true:=rfl
theorem TF (i j:Str):TV (.str i) (.str j)=true:=rfl
theorem ac1 {α:Type}(a:α)(r:List α):atI (a::r) 0=some a:=dH (j:=0) rfl
theorem ac0 {α:Type}(a b:α)(r:List α):atI (a::b::r) 1=some b:=dH (j:=1) rfl
theorem acZ {α:Type}(a b c:α)(r:List α):atI (a::b::c::r) 2=some c:=dH (j:=2) rfl
theorem VR:ixN 3 0=some 0/\ixN 3 1=some 1/\ixN 3 2=some 2:=⟨δ,δ,δ⟩
theorem aX {n:Nat}(h:n<=1000000):n<=AK:=BB h δ
noncomputable def ixq (o:Option HO)(i:Int)(H:Hp)(Q:VK):Prop:=match o with
 | some (.lst xs)=>∃v,atI xs i=some v/\Q v H
 | some (.tup xs)=>∃v,atI xs i=some v/\Q v H
 | _=>False
noncomputable def stq (o:Option HO)(p:Addr)(k:Int)(v:V)(H:Hp)(Q:Hp->Prop):Prop:=match o with
 | some (.lst xs)=>∃j,ixN xs.length k=some j/\Q (upd H p (.lst (xs.set j v)))
 | _=>False
noncomputable def lnq (o:Option HO)(H:Hp)(Q:VK):Prop:=match o with
 | some (.lst ys)=>Q (.int ys.length) H
 | some (.tup ys)=>Q (.int ys.length) H
 | _=>False
noncomputable def vY:R2:=fun x y H Q=>match x,y with
 | .ref p,.int i=>ixq (H p) i H Q
 | _,_=>False
noncomputable def T5:V->V->V->Hp->(Hp->Prop)->Prop:=fun o i v H Q=>match o,i with
 | .ref p,.int k=>stq (H p) p k v H Q
 | _,_=>False
noncomputable def Np:List V->Hp->VK->Prop:=fun xs H Q=>match xs with
 | [.ref p]=>lnq (H p) H Q
 | _=>False
theorem zj (p:Addr)(i:Int)(H:Hp)(Q:VK):vY (.ref p) (.int i) H Q=ixq (H p) i H Q:=rfl
theorem Qd (p:Addr)(k:Int)(v:V)(H:Hp)(Q:Hp->Prop):T5 (.ref p) (.int k) v H Q=stq (H p) p k v H Q:=rfl
theorem Qe (p:Addr)(H:Hp)(Q:VK):Np [.ref p] H Q=lnq (H p) H Q:=rfl
theorem Om (xs:List V)(i:Int)(H:Hp)(Q:VK):ixq (some (.lst xs)) i H Q=∃v,atI xs i=some v/\Q v H:=rfl
theorem Xf (xs:List V)(p:Addr)(k:Int)(v:V)(H:Hp)(Q:Hp->Prop):stq (some (.lst xs)) p k v H Q=∃j,ixN xs.length k=some j/\Q (upd H p (.lst (xs.set j v))):=rfl
theorem Zf (xs:List V)(H:Hp)(Q:VK):lnq (some (.lst xs)) H Q=Q (.int xs.length) H:=rfl
theorem Ze (xs:List V)(H:Hp)(Q:VK):lnq (some (.tup xs)) H Q=Q (.int xs.length) H:=rfl
section
variable {X:Cx}
theorem bT:IxR X vY:=by
 intro value slice pins s σ H x y v u Q I rx ry h hs;unfold vY at h;split at h
 ·rename_i p i;unfold ixq at h;split at h
  ·rename_i xs e;obtain⟨z,hz,q⟩:=h;exact Oo value slice pins s σ H _ _ v u Q I rx ry ⟨p,xs,i,z,rfl,rfl,SqL.of e,hz,q⟩ hs
  ·rename_i xs e;obtain⟨z,hz,q⟩:=h;exact abM value slice pins s σ H _ _ v u Q I rx ry ⟨p,xs,i,z,rfl,rfl,SqT.of e,hz,q⟩ hs
  exact h.elim
 exact h.elim
theorem Nh:W5 X T5:=by
 intro pins s σ H o i v ov iv u Q I ro ri rv h;unfold T5 at h;split at h
 ·rename_i p k;unfold stq at h;split at h
  ·rename_i xs e;obtain⟨j,hj,q⟩:=h;exact set_list pins s σ H _ _ v ov iv u Q I ro ri rv ⟨p,xs,k,j,rfl,rfl,e,hj,q⟩
  exact h.elim
 exact h.elim
theorem cO:dN X (.builtin "len") Np:=by
 intro pins s σ H xs us Q I r h;unfold Np at h;split at h
 ·rename_i p;unfold lnq at h;split at h
  ·rename_i ys e;exact kJ pins s σ H _ us Q I r ⟨p,ys,rfl,.inl (SqL.of e),h⟩
  ·rename_i ys e;exact kJ pins s σ H _ us Q I r ⟨p,ys,rfl,.inr (SqT.of e),h⟩
  exact h.elim
 exact h.elim
end
noncomputable def Uj:List V->Hp->VK->Prop:=fun xs H Q=>match xs with
 | [.int i]=>Q (.int i) H
 | [.bl k]=>Q (.int (if k then 1 else 0)) H
 | _=>False
theorem XC (k:Bool)(H:Hp)(Q:VK):Uj [.bl k] H Q=Q (.int (if k then 1 else 0)) H:=rfl
theorem lU {X:Cx}:dN X (.type "int") Uj:=by
 intro pins s σ H xs us Q I r h;unfold Uj at h;split at h
 ·exact Eb pins s σ H _ us Q I r (.inl ⟨_,rfl,h⟩)
 ·exact Eb pins s σ H _ us Q I r (.inr ⟨_,rfl,h⟩)
 exact h.elim
theorem aO {t u:TS}{D:Ends}{σ:St}{H:Hp}(h:∀k,k=u D->t { D with nx:=k } σ H):Kg t u D σ H:=h _ rfl
theorem jV {wi:TI}{g:TG}{tb:TS}{D:Ends}{σ:St}{H:Hp}(h:∀R:It->Hp->Prop,R=(fun J H1=>∃W:Nat->Nat->St->Hp->Prop,(∃m,W 0 m σ H1)/\∀i m σ H,W i m σ H ->
  (J.stop i H/\D.nx σ H)\/(J.go i H/\∃N:St->Hp->Prop,(∀σ' H',N σ' H'->∃m',m'<m/\W (i+1) m' σ' H')/\∀x H',J.yld i H x H'->g x σ H' fun σ2 H2=>tb { D with nx:=N,ct:=N,bk:=D.nx } σ2 H2))->wi σ H R):aaA wi g tb D σ H:=h _ rfl
theorem xJ {lo:Int}{n:Nat}{g:TG}{tb:TS}{D:Ends}{σ:St}{H:Hp}{R:It->Hp->Prop}(hR:R=(fun J H1=>∃W:Nat->Nat->St->Hp->Prop,(∃m,W 0 m σ H1)/\∀i m σ H,W i m σ H ->
  (J.stop i H/\D.nx σ H)\/(J.go i H/\∃N:St->Hp->Prop,(∀σ' H',N σ' H'->∃m',m'<m/\W (i+1) m' σ' H')/\∀x H',J.yld i H x H'->g x σ H' fun σ2 H2=>tb { D with nx:=N,ct:=N,bk:=D.nx } σ2 H2)))
  (Pv:Nat->St->Hp->Prop) (h0:Pv 0 σ H) (hs:∀i σ H,i<n->Pv i σ H->g (.int (lo+i)) σ H fun σ2 H2=>tb { D with nx:=Pv (i+1),ct:=Pv (i+1),bk:=D.nx } σ2 H2) (hd:∀σ H,Pv n σ H->D.nx σ H):R (Itr lo n) H:=by
 subst hR;exact Rn Pv h0 hs hd
theorem DQ {K:Au}{a:Addr}{xs:List V}{g:TG}{tb:TS}{D:Ends}{σ:St}{H:Hp}{R:It->Hp->Prop}(hR:R=(fun J H1=>∃W:Nat->Nat->St->Hp->Prop,(∃m,W 0 m σ H1)/\∀i m σ H,W i m σ H ->
  (J.stop i H/\D.nx σ H)\/(J.go i H/\∃N:St->Hp->Prop,(∀σ' H',N σ' H'->∃m',m'<m/\W (i+1) m' σ' H')/\∀x H',J.yld i H x H'->g x σ H' fun σ2 H2=>tb { D with nx:=N,ct:=N,bk:=D.nx } σ2 H2)))
  (Pv:Nat->St->Hp->Prop) (h0:Pv 0 σ H) (hl:∀i σ H,i<=xs.length->Pv i σ H->SqL K H a xs) (hs:∀i x σ H,xs[i]?=some x->Pv i σ H->g x σ H fun σ2 H2=>tb { D with nx:=Pv (i+1),ct:=Pv (i+1),bk:=D.nx } σ2 H2) (hd:∀σ H,Pv xs.length σ H->D.nx σ H):R (Itl K a) H:=by
 subst hR;exact Wf Pv h0 hl hs hd
noncomputable def R5 (mp:List (Option Nat))(g:TG)(tc:TT)(te:TE)(σ:St)(Q:VK)(J:It)(H1:Hp):Prop:=∃W:Nat->Nat->List V->St->Hp->Prop,(∃m,W 0 m [] (mq mp σ) H1)/\∀i m acc τ H2,W i m acc τ H2 ->
  (J.stop i H2/\∀d,H2 d=none->Q (.ref d) (upd H2 d (.lst acc))) \/
  (J.go i H2/\acc.length<AK/\∃N:List V->St->Hp->Prop,(∀acc' τ' H',N acc' τ' H'->∃m',m'<m/\W (i+1) m' acc' τ' H')/\∀x H3,J.yld i H2 x H3->g x τ H3 fun τ1 H4=>tc τ1 H4 fun b H5=>
   if b=true then te τ1 H5 fun v H6=>N (acc++[v]) τ1 H6 else N acc τ1 H5)
theorem eV {mp:List (Option Nat)}{wi:TI}{g:TG}{tc:TT}{te:TE}{σ:St}{H:Hp}{Q:VK}(h:∀R:It->Hp->Prop,R=R5 mp g tc te σ Q->wi σ H R):CZ mp wi g tc te σ H Q:=h _ rfl
theorem O3 {J:It}{mp:List (Option Nat)}{g:TG}{tc:TT}{te:TE}{σ:St}{H:Hp}{Q:VK}{R:It->Hp->Prop}(hR:R=R5 mp g tc te σ Q)(n:Nat)(hz:n<=AK)(Pv:Nat->List V->St->Hp->Prop)(h0:Pv 0 [] (mq mp σ) H)
  (hl:∀i acc τ H,Pv i acc τ H->acc.length<=i) (hgo:∀i acc τ H,i<n->Pv i acc τ H->J.go i H) (hst:∀acc τ H,Pv n acc τ H->J.stop n H)
  (hs:∀i acc τ H x H3,i<n->Pv i acc τ H->J.yld i H x H3->g x τ H3 fun τ1 H4=>tc τ1 H4 fun b H5=>if b=true then te τ1 H5 fun v H6=>Pv (i+1) (acc++[v]) τ1 H6 else Pv (i+1) acc τ1 H5)
  (hd:∀acc τ H d,Pv n acc τ H->H d=none->Q (.ref d) (upd H d (.lst acc))):R J H:=by
 subst hR;refine⟨fun i m acc τ H2=>m=n-i/\i<=n/\Pv i acc τ H2,⟨_,rfl,ET _,h0⟩,?_⟩;rintro i m acc τ H2 ⟨rfl,hi,p⟩;have q3:=hl i acc τ H2 p;by_cases hlt:i<n
 ·exact .inr ⟨hgo i acc τ H2 hlt p,ω,Pv (i+1),fun acc' τ' H' q=>⟨_,ω,rfl,hlt,q⟩,fun x H3 y=>hs i acc τ H2 x H3 hlt p y⟩
 have e:i=n:=ω;subst e;exact .inl ⟨hst acc τ H2 p,fun d hd'=>hd acc τ H2 d p hd'⟩
structure Nm (N:List Str)(sc:D3)(i:Nat)(x:Str):Prop where
 hN:N[i]?=some x
 hv:Loc sc x
 hd:(x == ("__debug__" : Str))=false
 hcd:(x == ("__classdict__" : Str))=false
noncomputable def acM (N:List Str) (sc:D3) (i:Nat) (x:Str):Bool:=decide (N[i]?=some x)&&(decide (sc.names.lookup x=some .local)||decide (sc.names.lookup x=some .cell)) && !(x == ("__debug__" : Str)) && !(x == ("__classdict__" : Str))
theorem Nm.of {N:List Str}{sc:D3}{i:Nat}{x:Str}(h:acM N sc i x=true):Nm N sc i x:=by
 unfold acM at h;rw[C7,C7,C7,Bool.or_eq_true] at h;obtain⟨⟨⟨h1,h2⟩,h3⟩,h4⟩:=h;exact⟨of_decide_eq_true h1,h2.elim (fun z=>.inl (of_decide_eq_true z)) (fun z=>.inr (of_decide_eq_true z)),by simpa using h3,by simpa using h4⟩
structure Bn (x:Str):Prop where
 hn:x ≠ "__name__"
 hd:(x == ("__debug__" : Str))=false
section
variable {X:Cx}{i:Nat}{x:Str}{pos pos' p:Pos}{e:Expr}{es:List Expr}{te:TE}{t:TA}{k:Nat}{ps:List Str}{sp:Sp}{id T:String}{r:List V->Hp->VK->Prop}
theorem pn (n:Nm X.N X.env.scope i x):PE X (.Name x pos) (PK i):=Uw n.hN (n.hv.elim .inl fun z=>.inr (.inl z)) n.hd n.hcd
theorem acv (n:Nm X.N X.env.scope i x)(hN:X.N.Nodup)(he:PE X e te)(hs:HC e (some (.Name x pos')) pos.line X.env=pure false:=by rfl)(hf:X.fn x=true\/X.env.scope.names.lookup x=some .local:=by exact .inl rfl) :
  PS X (.Assign [.Name x pos'] e pos) (uG te (j6 i)):=aa2 hN n.hN n.hv he hs hf
theorem acy (n:Nm X.N X.env.scope i x)(hN:X.N.Nodup)(hf:X.fn x=true\/X.env.scope.names.lookup x=some .local:=by exact .inl rfl):PG X (.Name x pos) (j6 i):=NK hN n.hN n.hv hf
theorem acD (C:Cal X.prog X.w X.K X.mg X.base x k ps sp)(hr:gH k X.A)(hg:Gl X x)(hdb:Bn x)(ha:PA X (e::es) t)
  (he:AL (e::es) X.env=(false,eval e X.env)::AL es X.env:=by rfl) (hpl:(CB pos (AL es X.env)).any (·.1)=false:=by rfl):PE X (.Call (.Name x p) (e::es) [] pos) (pX sp [] E0 t):=
 abj C hr hg ha hdb.hd he hpl
theorem acE (hc:dN X (.builtin id) r)(hg:Gl X x)(hm:X.mg x=none)(hv:Dx x=some (.builtin id))(b:Bn x)(ha:PA X (e::es) t)
  (he:AL (e::es) X.env=(false,eval e X.env)::AL es X.env:=by rfl) (hpl:(CB pos (AL es X.env)).any (·.1)=false:=by rfl):PE X (.Call (.Name x p) (e::es) [] pos) (tCB r t):=UJ hc hg hm hv ha b.hn b.hd he hpl
theorem acC (hc:dN X (.type T) r)(hg:Gl X x)(hm:X.mg x=none)(hv:Dx x=some (.type T))(b:Bn x)(ha:PA X (e::es) t)
  (he:AL (e::es) X.env=(false,eval e X.env)::AL es X.env:=by rfl) (hpl:(CB pos (AL es X.env)).any (·.1)=false:=by rfl):PE X (.Call (.Name x p) (e::es) [] pos) (tCB r t):=Qk hc hg hm hv ha b.hn b.hd he hpl
theorem acF (n:String)(hg:Gl X x)(hm:X.mg x=none)(hv:Dx x=some (.type n))(b:Bn x):PE X (.Name x pos) (tC (.ty n)):=YH hg hm hv rfl b.hn b.hd
end
theorem iu:Bn "len" := ⟨ψ,ψ⟩
theorem WD:Bn "abs" := ⟨ψ,ψ⟩
theorem Bl:Bn "min" := ⟨ψ,ψ⟩
theorem Ml:Bn "max" := ⟨ψ,ψ⟩
theorem ab1:Bn "all" := ⟨ψ,ψ⟩
theorem ab0:Bn "any" := ⟨ψ,ψ⟩
theorem bM:Bn "isinstance" := ⟨ψ,ψ⟩
theorem qQ:Bn "int" := ⟨ψ,ψ⟩
theorem wN:Bn "sum" := ⟨ψ,ψ⟩
theorem mJ:Bn "list" := ⟨ψ,ψ⟩
theorem jw:Bn "tuple" := ⟨ψ,ψ⟩
theorem Wz:Bn "str" := ⟨ψ,ψ⟩
theorem vK:Bn "bool" := ⟨ψ,ψ⟩
theorem O5:Bn "repr" := ⟨ψ,ψ⟩
noncomputable def tyO:Option HO->Option String
 | some (.lst _)=>some "list"
 | some (.tup _)=>some "tuple"
 | _=>none
noncomputable def tyN (x:V)(H:Hp):Option String:=match x with
 | .non=>some "NoneType"
 | .bl _=>some "bool"
 | .int _=>some "int"
 | .str _=>some "str"
 | .ref a=>tyO (H a)
 | _=>none
theorem Tn.of {x:V}{H:Hp}{t:String}(h:tyN x H=some t):Tn H x t:=by
 cases x with
 | non=>cases h;exact .non
 | bl b=>cases h;exact .bl b
 | int i=>cases h;exact .int i
 | str s=>cases h;exact .str s
 | ref a=>
  have h':tyO (H a)=some t:=h;cases e:H a with
  | none=>rw[e] at h';cases h'
  | some o=>
   rw[e] at h';cases o with
   | lst xs=>cases h';exact .lst e
   | tup xs=>cases h';exact .tup e
   | _=>cases h'
 | _=>cases h
noncomputable def Ui:List V->Hp->VK->Prop:=fun xs H Q=>match xs with
 | [x,.ty T]=>∃t,tyN x H=some t/\gn.contains T=true/\Q (.bl (gh t T)) H
 | _=>False
noncomputable def i2q (o:Option HO)(x:V)(H:Hp)(Q:VK):Prop:=match o with
 | some (.tup [.ty T,.ty U])=>∃t,tyN x H=some t/\gn.contains T=true/\gn.contains U=true/\Q (.bl (gh t T||gh t U)) H
 | _=>False
noncomputable def Ug:List V->Hp->VK->Prop:=fun xs H Q=>match xs with
 | [x,.ref p]=>i2q (H p) x H Q
 | _=>False
theorem eE {X:Cx}:dN X (.builtin "isinstance") Ui:=by
 intro pins s σ H xs us Q I r h;unfold Ui at h;split at h
 ·obtain⟨t,e,k,q⟩:=h;exact RP pins s σ H _ us Q I r ⟨_,_,t,rfl,Tn.of e,by simpa using k,q⟩
 exact h.elim
theorem Ea {X:Cx}:dN X (.builtin "isinstance") Ug:=by
 intro pins s σ H xs us Q I r h;unfold Ug at h;split at h
 ·rename_i x p;unfold i2q at h;split at h
  ·rename_i T U e;obtain⟨t,e1,k1,k2,q⟩:=h;refine RN pins s σ H _ us Q I r ⟨x,p,[T,U],t,rfl,e,Tn.of e1,fun z hz=>?_,by simpa using q⟩;rcases AX.mp hz with rfl|hz
   ·simpa using k1
   obtain rfl:=AJ.mp hz;simpa using k2
  exact h.elim
 exact h.elim
theorem Uh (x:V)(T:String)(H:Hp)(Q:VK):Ui [x,.ty T] H Q=∃t,tyN x H=some t/\gn.contains T=true/\Q (.bl (gh t T)) H:=rfl
theorem Ue (x:V)(p:Addr)(H:Hp)(Q:VK):Ug [x,.ref p] H Q=i2q (H p) x H Q:=rfl
theorem abR (x:V)(T U:String)(H:Hp)(Q:VK):i2q (some (.tup [.ty T,.ty U])) x H Q=∃t,tyN x H=some t/\gn.contains T=true/\gn.contains U=true/\Q (.bl (gh t T||gh t U)) H:=rfl
theorem Zj:gn.contains "list" = true:=by decide
theorem VH:gn.contains "tuple" = true:=by decide
theorem abL:gn.contains "int" = true:=by decide
theorem abK:gn.contains "str" = true:=by decide
theorem kc_bool:gn.contains "bool" = true:=by decide
theorem ty_int (i:Int) (H:Hp):tyN (.int i) H=some "int" := rfl
theorem ab9 (i:Bool) (H:Hp):tyN (.bl i) H=some "bool" := rfl
theorem ty_str (i:Str) (H:Hp):tyN (.str i) H=some "str" := rfl
theorem aas (H:Hp):tyN .non H=some "NoneType" := rfl
theorem aar (p:Addr)(H:Hp):tyN (.ref p) H=tyO (H p):=rfl
theorem W9 (xs:List V):tyO (some (.lst xs))=some "list" := rfl
theorem W8 (xs:List V):tyO (some (.tup xs))=some "tuple" := rfl
theorem vW:gh "NoneType" "bool" = false:=by decide
theorem xT:gh "NoneType" "int" = false:=by decide
theorem xR:gh "NoneType" "str" = false:=by decide
theorem vV:gh "NoneType" "list" = false:=by decide
theorem uT:gh "NoneType" "tuple" = false:=by decide
theorem Fo:gh "bool" "bool" = true:=by decide
theorem Ib:gh "bool" "int" = true:=by decide
theorem Ia:gh "bool" "str" = false:=by decide
theorem Fl:gh "bool" "list" = false:=by decide
theorem BW:gh "bool" "tuple" = false:=by decide
theorem HY:gh "int" "bool" = false:=by decide
theorem Kv:gh "int" "int" = true:=by decide
theorem Ku:gh "int" "str" = false:=by decide
theorem HX:gh "int" "list" = false:=by decide
theorem Fj:gh "int" "tuple" = false:=by decide
theorem HS:gh "str" "bool" = false:=by decide
theorem Ks:gh "str" "int" = false:=by decide
theorem Kr:gh "str" "str" = true:=by decide
theorem HN:gh "str" "list" = false:=by decide
theorem Fe:gh "str" "tuple" = false:=by decide
theorem Fi:gh "list" "bool" = false:=by decide
theorem HW:gh "list" "int" = false:=by decide
theorem Fg:gh "list" "list" = true:=by decide
theorem BV:gh "list" "tuple" = false:=by decide
theorem BR:gh "tuple" "bool" = false:=by decide
theorem Fd:gh "tuple" "int" = false:=by decide
theorem BP:gh "tuple" "list" = false:=by decide
theorem zf:gh "tuple" "tuple" = true:=by decide
noncomputable def gtq (o:Option HO)(n:Nat)(t:TGs)(σ:St)(H:Hp)(Q:St->Hp->Prop):Prop:=match o with
 | some (.tup xs)=>xs.length=n/\t xs σ H Q
 | _=>False
noncomputable def Ou (n:Nat)(t:TGs):TG:=fun v σ H Q=>match v with
 | .ref a=>gtq (H a) n t σ H Q
 | _=>False
theorem Rk (n:Nat)(t:TGs)(a:Addr)(σ:St)(H:Hp)(Q:St->Hp->Prop):Ou n t (.ref a) σ H Q=gtq (H a) n t σ H Q:=rfl
theorem Zx (xs:List V)(n:Nat)(t:TGs)(σ:St)(H:Hp)(Q:St->Hp->Prop):gtq (some (.tup xs)) n t σ H Q=(xs.length=n/\t xs σ H Q):=rfl
noncomputable def qtq (o:Option HO)(f:List Bool->Bool)(H:Hp)(Q:VK):Prop:=match o with
 | some (.lst xs)=>∃bs,xs=HE V.bl bs/\Q (.bl (f bs)) H
 | _=>False
noncomputable def uX (f:List Bool->Bool):List V->Hp->VK->Prop:=fun xs H Q=>match xs with
 | [.ref p]=>qtq (H p) f H Q
 | _=>False
theorem Ii (f:List Bool->Bool)(p:Addr)(H:Hp)(Q:VK):uX f [.ref p] H Q=qtq (H p) f H Q:=rfl
theorem X3 (f:List Bool->Bool)(xs:List V)(H:Hp)(Q:VK):qtq (some (.lst xs)) f H Q=∃bs,xs=HE V.bl bs/\Q (.bl (f bs)) H:=rfl
section
variable {X:Cx}{es:List Expr}{k:Nat}{t:TGs}{n:Nat}{pos:Pos}
theorem Yu (hc:X.calm=true)(h:PGs X es t)(hn:(CU es X.env).length=n:=by rfl)(hst:(CU es X.env).findIdx? (·.1)=none:=by rfl):PG X (.Tuple es k pos) (Ou n t):=by
 intro pins s σ H v u Q I r hw;unfold Ou at hw;split at hw
 ·rename_i a;unfold gtq at hw;split at hw
  ·rename_i xs e;exact aa8 hc h hn hst pins s σ H _ u Q I r ⟨a,xs,rfl,SqT.of e,hw.1,hw.2⟩
  exact hw.elim
 exact hw.elim
theorem RT (hc:X.calm=true):dN X (.builtin "all") (uX fun bs=>bs.all id):=by
 intro pins s σ H xs us Q I r h;unfold uX at h;split at h
 ·rename_i p;unfold qtq at h;split at h
  ·rename_i ys e;obtain⟨bs,rfl,q⟩:=h;exact Wx hc pins s σ H _ us Q I r ⟨p,bs,rfl,SqL.of e,q⟩
  exact h.elim
 exact h.elim
theorem RQ (hc:X.calm=true):dN X (.builtin "any") (uX fun bs=>bs.any id):=by
 intro pins s σ H xs us Q I r h;unfold uX at h;split at h
 ·rename_i p;unfold qtq at h;split at h
  ·rename_i ys e;obtain⟨bs,rfl,q⟩:=h;exact Ww hc pins s σ H _ us Q I r ⟨p,bs,rfl,SqL.of e,q⟩
  exact h.elim
 exact h.elim
end
noncomputable def T9:List V->Hp->VK->Prop:=fun xs H Q=>match xs with
 | [.int i,.int j]=>Q (.int (if j<i then j else i)) H
 | _=>False
noncomputable def Ub:List V->Hp->VK->Prop:=fun xs H Q=>match xs with
 | [.int i,.int j]=>Q (.int (if j>i then j else i)) H
 | _=>False
theorem T8 (i j:Int)(H:Hp)(Q:VK):T9 [.int i,.int j] H Q=Q (.int (if j<i then j else i)) H:=rfl
theorem Ua (i j:Int)(H:Hp)(Q:VK):Ub [.int i,.int j] H Q=Q (.int (if j>i then j else i)) H:=rfl
theorem Rz {X:Cx}(hc:X.calm=true):dN X (.builtin "min") T9:=by
 intro pins s σ H xs us Q I r h;unfold T9 at h;split at h
 ·exact RD hc pins s σ H _ us Q I r ⟨_,_,rfl,h⟩
 exact h.elim
theorem RG {X:Cx}(hc:X.calm=true):dN X (.builtin "max") Ub:=by
 intro pins s σ H xs us Q I r h;unfold Ub at h;split at h
 ·exact RJ hc pins s σ H _ us Q I r ⟨_,_,rfl,h⟩
 exact h.elim
structure QE (X:Cx)(e:Expr)(t:TE):Prop where
 h:PE X e t
structure QT (X:Cx)(e:Expr)(t:TT):Prop where
 h:PT X e t
structure QW (X:Cx)(e:Expr)(t:TT):Prop where
 h:PW X e t
structure QA (X:Cx)(es:List Expr)(t:TA):Prop where
 h:PA X es t
structure QS (X:Cx)(st:Stmt)(t:TS):Prop where
 h:PS X st t
structure QB (X:Cx)(st:List Stmt)(t:TS):Prop where
 h:PSs X st t
structure QG (X:Cx)(e:Expr)(t:TG):Prop where
 h:PG X e t
structure QGs (X:Cx)(es:List Expr)(t:TGs):Prop where
 h:PGs X es t
structure QI (X:Cx)(tg e:Expr)(t:TI):Prop where
 h:PI X tg e t
structure QC (X:Cx)(cs:List Expr)(t:TT):Prop where
 h:PTs X cs t
section
variable {X:Cx}{i:Nat}{x:Str}{pos pos' p tpos:Pos}{e a b c o:Expr}{es rest:List Expr}{te ta tb tc to ti:TE}{tA tB':TT}{t:TA}{k n kk:Nat}{ps:List Str}{sp:Sp}{id T:String}{r:List V->Hp->VK->Prop}{st:Stmt}{sts:List Stmt}{ts us:TS}{tg iter:Expr}{wi:TI}{g:TG}{gs:TGs}
theorem adb (h:Nm X.N X.env.scope i x):QE X (.Name x pos) (PK i):=⟨pn h⟩
theorem ada (i:Nat) {x:Str}{pos:Pos}(hN:X.N[i]?=some x:=by rfl) (hv:Vis X.env.scope x:=by first|exact C2 rfl|exact Or.inr (C2 rfl)|exact Or.inr (Or.inr rfl)) (hd:(x == ("__debug__" : Str))=false:=by decide)
  (hcd:(x == ("__classdict__" : Str))=false:=by decide):QE X (.Name x pos) (PK i):=⟨Uw hN hv hd hcd⟩
theorem au {i j pos}:QE X (.Constant (.int i) j pos) (tC (.int i)):=⟨Uy⟩
theorem jB {b j pos}:QE X (.Constant (.bool b) j pos) (tC (.bl b)):=⟨acG⟩
theorem tQ {j pos}:QE X (.Constant .none j pos) (tC .non):=⟨abg⟩
theorem dg {x j pos}:QE X (.Constant (.str x) j pos) (tC (.str x)):=⟨abb⟩
theorem aL {op:Operator}{r:R2}(ho:OpR X (Da op) r)(ha:QE X a ta)(hb:QE X b tb):QE X (.BinOp a op b pos) (tOp r ta tb):=⟨acA ho ha.h hb.h⟩
theorem zp {op:UnaryOp}{r:V->Hp->VK->Prop}(ho:UnR X (unaryOp op) r)(ha:QE X a ta):QE X (.UnaryOp op a pos) (tUn r ta):=⟨aai ho ha.h⟩
theorem Um (ha:QE X a ta):QE X (.UnaryOp .Not a pos) (SN ta):=⟨abf ha.h⟩
theorem v8 {op:CmpOp}{r:R2}(ho:OpR X (D0 op) r)(ha:QE X a ta)(hb:QE X b tb)(hm:F7 op b=false):QE X (.Compare a [op] [b] pos) (tOp r ta tb):=⟨YF ho ha.h hb.h hm⟩
theorem bW {op:CmpOp}{r:R2}(ho:OpR X (D0 op) r)(ha:QE X a ta)(hb:QE X b tb)(hm:F7 op b=false):QT X (.Compare a [op] [b] pos) (wW (tOp r ta tb)):=⟨Yh ho ha.h hb.h hm⟩
theorem KD {op}(h:QE X a ta):QE X (.BoolOp op [a] pos) ta:=⟨abe h.h⟩
theorem KH (ha:QE X a ta)(hb:QE X (.BoolOp .And (b::rest) pos) tb):QE X (.BoolOp .And (a::b::rest) pos) (Tc ta tb):=⟨abk ha.h hb.h⟩
theorem acr (ha:QE X a ta)(hb:QE X (.BoolOp .Or (b::rest) pos) tb):QE X (.BoolOp .Or (a::b::rest) pos) (aaz ta tb):=⟨acz ha.h hb.h⟩
theorem Dk (hc:QT X c tA)(ha:QE X a ta)(hb:QE X b tb):QE X (.IfExp c a b pos) (tIf tA ta tb):=⟨Uz hc.h ha.h hb.h⟩
theorem aR {r:R2}(hr:IxR X r)(ha:QE X a ta)(hb:QE X b tb)(hs:O8 b):QE X (.Subscript a b pos) (tOp r ta tb):=⟨acB hr ha.h hb.h hs⟩
theorem bD (h:QA X es t):QE X (.List es pos) (Eo t):=⟨abh h.h⟩
theorem bY {x1}(h:QA X es t):QE X (.Tuple es x1 pos) (Hu t):=⟨aa9 h.h⟩
theorem aq:QA X [] rZ:=⟨abl⟩
theorem ak (ha:QE X e te)(hr:QA X es t)(hs:AL (e::es) X.env=(false,eval e X.env)::AL es X.env:=by rfl):QA X (e::es) (gU te t):=⟨YL ha.h hr.h hs⟩
theorem bf (C:Cal X.prog X.w X.K X.mg X.base x k ps sp)(hr:gH k X.A)(hg:Gl X x)(hdb:Bn x)(ha:QA X (e::es) t)
  (he:AL (e::es) X.env=(false,eval e X.env)::AL es X.env:=by rfl) (hpl:(CB pos (AL es X.env)).any (·.1)=false:=by rfl):QE X (.Call (.Name x p) (e::es) [] pos) (pX sp [] E0 t):=⟨acD C hr hg hdb ha.h he hpl⟩
theorem bU (hc:dN X (.builtin id) r)(hg:Gl X x)(hm:X.mg x=none)(hv:Dx x=some (.builtin id))(b:Bn x)(ha:QA X (e::es) t)
  (he:AL (e::es) X.env=(false,eval e X.env)::AL es X.env:=by rfl) (hpl:(CB pos (AL es X.env)).any (·.1)=false:=by rfl):QE X (.Call (.Name x p) (e::es) [] pos) (tCB r t):=⟨acE hc hg hm hv b ha.h he hpl⟩
theorem lF (hc:dN X (.type T) r)(hg:Gl X x)(hm:X.mg x=none)(hv:Dx x=some (.type T))(b:Bn x)(ha:QA X (e::es) t)
  (he:AL (e::es) X.env=(false,eval e X.env)::AL es X.env:=by rfl) (hpl:(CB pos (AL es X.env)).any (·.1)=false:=by rfl):QE X (.Call (.Name x p) (e::es) [] pos) (tCB r t):=⟨acC hc hg hm hv b ha.h he hpl⟩
theorem jT (n:String)(hg:Gl X x)(hm:X.mg x=none)(hv:Dx x=some (.type n))(b:Bn x):QE X (.Name x pos) (tC (.ty n)):=⟨acF n hg hm hv b⟩
theorem vZ (ha:QT X a tA):QT X (.UnaryOp .Not a pos) (Xc tA):=⟨aa1 ha.h⟩
theorem jD (h:QE X e te)(he:∀whole,isTrue e X.env whole=(do let v <- whole;standAt e.pos;Fc [v] (truthy v)):=by intro _;rfl):QT X e (tB te):=⟨aaZ h.h he⟩
theorem yC (ha:QT X a tA):QW X (.BoolOp .And [a] pos) tA:=⟨Yd ha.h⟩
theorem Kz (ha:QT X a tA):QW X (.BoolOp .Or [a] pos) tA:=⟨aaX ha.h⟩
theorem Ft (ha:QT X a tA)(hb:QW X (.BoolOp .And (b::rest) pos) tB'):QW X (.BoolOp .And (a::b::rest) pos) (Xd tA tB'):=⟨aaY ha.h hb.h⟩
theorem Nr (ha:QT X a tA)(hb:QW X (.BoolOp .Or (b::rest) pos) tB'):QW X (.BoolOp .Or (a::b::rest) pos) (tOr tA tB'):=⟨acu ha.h hb.h⟩
theorem KC (h:QW X e tA):QT X e tA:=⟨h.h.pt⟩
theorem cN:QB X [] MK:=⟨Yj⟩
theorem aN (h:QS X st ts):QB X [st] ts:=⟨Yi h.h⟩
theorem aG (h:QS X st ts)(h2:QB X sts us):QB X (st::sts) (Kg ts us):=⟨Uq h.h h2.h⟩
theorem aY (he:QE X e te):QS X (.Return (some e) pos) (Kh te):=⟨aa3 he.h⟩
theorem eG {c:Expr}{a b:List Stmt}{tc:TT}(hc:QT X c tc)(ha:QB X a ts)(hb:QB X b us):QS X (.If c a b pos) (PL tc ts us):=⟨acw hc.h ha.h hb.h⟩
theorem fJ (he:QE X e te)(hs:HC e none pos.line X.env=pure false:=by rfl):QS X (.Expr e pos) (wX te):=⟨Ym he.h hs⟩
theorem bB (h:Nm X.N X.env.scope i x)(hN:X.N.Nodup)(he:QE X e te)(hs:HC e (some (.Name x pos')) pos.line X.env=pure false:=by rfl)(hf:X.fn x=true\/X.env.scope.names.lookup x=some .local:=by exact .inl rfl) :
  QS X (.Assign [.Name x pos'] e pos) (uG te (j6 i)):=⟨acv h hN he.h hs hf⟩
theorem qj (he:QE X e te)(hg:QG X tg g)(hs:F6 [tg] e pos.line X.env=pure false:=by rfl)(hw:swappedStores [tg] e X.env=pure none:=by rfl)
  (h1:(CU [tg] X.env).map (·.2)=[ES tg X.env]:=by rfl):QS X (.Assign [tg] e pos) (uG te g):=⟨aa5 he.h hg.h hs hw h1⟩
theorem iI {body:List Stmt}(hp:PassesOwn (A0 X.prog X.w) X.A X.env X.xe)(hc:X.calm=true)(hi:QI X tg iter wi)(hg:QG X tg g)(hb:QB X body ts)
  (hs:∀x,DD iter X.env x=pure x:=by intro _;rfl):QS X (.For tg iter body [] pos) (aaA wi g ts):=⟨aa4 hp hc hi.h hg.h hb.h hs⟩
theorem fU (h:Nm X.N X.env.scope i x)(hN:X.N.Nodup)(hf:X.fn x=true\/X.env.scope.names.lookup x=some .local:=by exact .inl rfl):QG X (.Name x pos) (j6 i):=⟨acy h hN hf⟩
theorem cj (i:Nat)(hN:X.N.Nodup)(hi:X.N[i]?=some x)(hx:Loc X.env.scope x)(hf:X.fn x=true\/X.env.scope.names.lookup x=some .local:=by first|exact .inl rfl|exact .inr rfl):QG X (.Name x pos) (j6 i):=⟨NK hN hi hx hf⟩
theorem j8:QGs X [] abV:=⟨Yt⟩
theorem cR (h1:QG X e g)(h2:QGs X es gs)(hs:(CU (e::es) X.env).map (·.2)=ES e X.env::(CU es X.env).map (·.2):=by rfl):QGs X (e::es) (Wb g gs):=⟨Uu h1.h h2.h hs⟩
theorem nZ {n:Nat}(hc:X.calm=true)(h:QGs X es gs)(hn:(CU es X.env).length=n:=by rfl)(hst:(CU es X.env).findIdx? (·.1)=none:=by rfl):QG X (.Tuple es k pos) (Ou n gs):=⟨Yu hc h.h hn hst⟩
theorem WW (o:Expr)(c j)(p pos:Pos)(env:Env)(v:An):ES (.Subscript o (.Constant c j p) pos) env v=(do
   let ov <- Fc [v] (eval o env)
   let iv <- Fc [v,ov] (eval (.Constant c j p) env)
   standAt pos
   Fc [v,ov,iv] (setItem ov iv v)
   release [v,ov,iv] []):=rfl
theorem Fv {c j}{t:W2}(ho:QE X o to)(hi:QE X (.Constant c j p) ti)(hs:W5 X t):QG X (.Subscript o (.Constant c j p) pos) (Zz to ti t):=⟨Uv ho.h hi.h hs (fun v=>WW o c j p pos X.env v)⟩
theorem gB (hg:Gl X "range") (hm:X.mg "range" = none) (ha:QA X [a] t) (hs:AL [a] X.env=[(false,eval a X.env)]:=by rfl):QI X tg (.Call (.Name "range" p) [a] [] pos) (pG t):=⟨Qj hg hm ha.h hs⟩
theorem v7 (hg:Gl X "range") (hm:X.mg "range" = none) (ha:QA X [a,b] t) (hs:AL [a,b] X.env=[(false,eval a X.env),(false,eval b X.env)]:=by rfl) (hs2:AL [b] X.env=[(false,eval b X.env)]:=by rfl):QI X tg (.Call (.Name "range" p) [a,b] [] pos) (Jh t):=⟨Qi hg hm ha.h hs hs2⟩
theorem gF:QC X [] aaw:=⟨Yg⟩
theorem zq (h:QT X c tA):QC X [c] tA:=⟨Ye h.h⟩
theorem dG {NX:List Str}{kX:List (Str×CM)}{scope:D3}{elt:Expr}{ifs:List Expr}{tc:TT}(N:List Str)(mp:List (Option Nat))(hNX:X.N=NX)(hkX:X.env.scope.names=kX)(S:xO NX kX N mp scope)(hc:X.calm=true)
  (hi:QI X tg iter wi) (hg:∀cl C s H fp,QG (bQ X N scope cl C s H fp) tg g) (ht:∀cl C s H fp,QC (bQ X N scope cl C s H fp) ifs tc) (he:∀cl C s H fp,QE (bQ X N scope cl C s H fp) elt te)
  (hs:∀x,DD iter X.env x=pure x:=by intro _;rfl):QE X (.ListComp elt [⟨tg,iter,ifs,0⟩] scope pos) (CZ mp wi g tc te):=
 ⟨YD N mp hNX hkX S hc hi.h (fun cl C s H fp=>(hg cl C s H fp).h) (fun cl C s H fp=>(ht cl C s H fp).h) (fun cl C s H fp=>(he cl C s H fp).h) hs⟩
end
section
variable {P:AU}{w:Be}{K:Au}{mg:Str->Option An}{base:Heap}
theorem Fun.okq {x qual:Str}{st:Stmt}{f:Addr}{fd:BU}{N ps:List Str}{k:Nat}{sp:Sp}(F:Fun K x qual st f fd)(S:bw N ps (aj st))(len:∀vs H Q E,sp vs H Q E->vs.length=ps.length)
  (hbody:∀(cdv:An)(A:BA)(outer:List Env)(s:AC)(H:Hp)(vs:List V)(Q:VK)(E:XK),gH k (A.deeper (Fk qual (aj st) s.heap.objs.size f cdv))->sp vs H Q E ->
   ∃t,QB (JG CX0 P w K mg base N qual (aj st) f cdv A outer s H E).nox (aQ st) t/\t { nx:=fun _ H'=>Q .non H',rt:=Q } (L2.start N vs) H):dj P w K mg base CX0 (k+1) f fd ps sp:=
 F.ok S len fun cdv A outer s H vs Q E hr hsp=>by
  obtain⟨t,h,q⟩:=hbody cdv A outer s H vs Q E hr hsp;exact⟨t,h.h,q⟩
end
theorem KN:∀(ns:List Int),preSum (fun i=>(ns[i]?).getD 0) ns.length=ns.sum:=by
 have key:∀(f:Nat->Int)(n:Nat),preSum f (n+1)=preSum f n+f n:=fun f n=>rfl;have key2:∀(n:Nat)(f g:Nat->Int),(∀i,i<n->f i=g i)->preSum f n=preSum g n:=by
  intro n
  induction n with
  | zero=>intros;rfl
  | succ n ih=>intro f g h;rw[key,key,ih f g fun i hi=>h i (CF hi),h n (Ct n)]
 have key3:∀(n:Nat)(f:Nat->Int),preSum f (n+1)=f 0+preSum (fun i=>f (i+1)) n:=by
  intro n
  induction n with
  | zero=>intro f;show(0:Int)+f 0=f 0+0;omega
  | succ n ih=>intro f;rw[key,ih,key];omega
 intro ns
 induction ns with
 | nil=>rfl
 | cons a r ih=>
  rw[BN,key3,sum_cons,<- ih];rfl
noncomputable def smq (o:Option HO)(H:Hp)(Q:VK):Prop:=match o with
 | some (.lst xs)=>∃ns:List Int,xs=ns.map V.int/\Q (.int ns.sum) H
 | _=>False
noncomputable def TY:List V->Hp->VK->Prop:=fun xs H Q=>match xs with
 | [.ref p]=>smq (H p) H Q
 | _=>False
theorem Qc (p:Addr)(H:Hp)(Q:VK):TY [.ref p] H Q=smq (H p) H Q:=rfl
theorem Xj (xs:List V)(H:Hp)(Q:VK):smq (some (.lst xs)) H Q=∃ns:List Int,xs=ns.map V.int/\Q (.int ns.sum) H:=rfl
section
variable {X:Cx}
theorem lu (hc:X.calm=true):dN X (.builtin "sum") TY:=by
 intro pins s σ H xs us Q I r h;unfold TY at h;split at h
 ·rename_i p;unfold smq at h;split at h
  ·rename_i ys e;obtain⟨ns,rfl,q⟩:=h;cases r with
   | cons r rr=>
    cases rr;cases r;obtain⟨its,rv,pl,hz⟩:=I.list (SqL.of e);have hl:=rv.length;have lt:p<s.heap.objs.size:=by obtain⟨_,e,_⟩:=pl.isList;exact A3 e
    refine call_sum_walkG (D8 pl.isList ?_);refine⟨s.heap.objs.size,[s.heap.objs.size,p],[s.heap.objs.size],its.toArray.size,_,_,fun i=>(ns[i]?).getD 0,rfl,HZ (A:=X.A.in1) (I.ok.hd hc) _ p (BG lt) _,
     ⟨⟨_,AY _ rfl,rfl,rfl⟩,pl.isList.push _⟩,?_,fun i v hP=>?_,fun h' tk t' hk=>?_⟩
    ·intro b hb;rw[CA];simp only[AX,Bz,or_false] at hb;rcases hb with rfl|rfl
     ·exact Ct _
     exact CF lt
    ·have e1:its[i]?=some v:=by simpa using hP
     have hi:i<its.length:=by
      rcases GB i its.length with z|z
      ·exact z
      rw[F1 z] at e1;cases e1
     have hi2:i<ns.length:=by rw[<- hl,AG] at hi;exact hi
     obtain⟨u,hu,ru⟩:=rv.get (i:=i) (x:=.int ns[i]) (by rw[A5,AF hi2];rfl);rw[e1] at hu;cases hu;obtain⟨t,rfl⟩:=ru;exact⟨t,by show _=An.int ((ns[i]?).getD 0) t;rw[AF hi2];rfl⟩
    have e2:its.toArray.size=ns.length:=by rw[AN,<- hl,AG]
    rw[e2,KN];refine⟨.int _,H,I.kept fun b o e=>hk b o (fun hm=>?_) (AB _ e),⟨t',rfl⟩,q⟩;rw[AJ.mp hm] at e;exact C6 _ (A3 e)
  exact h.elim
 exact h.elim
noncomputable def adq (a b:Option HO)(H:Hp)(Q:VK):Prop:=match a,b with
 | some (.lst xs),some (.lst zs)=>xs.length+zs.length<=AK/\∀p,H p=none->Q (.ref p) (upd H p (.lst (xs++zs)))
 | _,_=>False
noncomputable def zm:R2:=fun x y H Q=>match x,y with
 | .int i,.int j=>Q (.int (i+j)) H
 | .ref p,.ref q=>adq (H p) (H q) H Q
 | _,_=>False
theorem XS (i j:Int)(H:Hp)(Q:VK):zm (.int i) (.int j) H Q=Q (.int (i+j)) H:=rfl
theorem Nq (p q:Addr)(H:Hp)(Q:VK):zm (.ref p) (.ref q) H Q=adq (H p) (H q) H Q:=rfl
theorem Mv (xs zs:List V)(H:Hp)(Q:VK):adq (some (.lst xs)) (some (.lst zs)) H Q=(xs.length+zs.length<=AK/\∀p,H p=none->Q (.ref p) (upd H p (.lst (xs++zs)))):=rfl
theorem bx:OpR X (Da .Add) zm:=by
 intro pins s σ H x y v u Q I rx ry h;unfold zm at h;split at h
 ·exact abr pins s σ H _ _ v u Q I rx ry ⟨_,_,rfl,rfl,h⟩
 ·rename_i p q;unfold adq at h;split at h
  ·rename_i xs zs e1 e2;exact abq pins s σ H _ _ v u Q I rx ry ⟨p,q,xs,zs,rfl,rfl,e1,e2,h.1,h.2⟩
  exact h.elim
 exact h.elim
noncomputable def eqL:List V->List V->Bool
 | [],[]=>true
 | x::xs,y::ys=>eqV x y&&eqL xs ys
 | _,_=>false
noncomputable def acN (a b:Option HO)(H:Hp)(Q:VK):Prop:=match a,b with
 | some (.lst xs),some (.lst zs)=>xs.all DR=true/\zs.all DR=true/\Q (.bl (!eqL xs zs)) H
 | _,_=>False
noncomputable def T7:R2:=fun x y H Q=>match x,y with
 | .ref p,.ref q=>acN (H p) (H q) H Q
 | x,y=>rNe x y H Q
theorem aaR (i j:Int)(H:Hp)(Q:VK):T7 (.int i) (.int j) H Q=rNe (.int i) (.int j) H Q:=rfl
theorem aaS (i j:Bool)(H:Hp)(Q:VK):T7 (.bl i) (.bl j) H Q=rNe (.bl i) (.bl j) H Q:=rfl
theorem aaQ (i j:Str)(H:Hp)(Q:VK):T7 (.str i) (.str j) H Q=rNe (.str i) (.str j) H Q:=rfl
theorem Ow:∀(xs zs:List V),xs.length=zs.length->((EG xs.length).all fun j=>match xs[j]?,zs[j]? with|some a,some b=>eqV a b|_,_=>true)=eqL xs zs
 | [],[],_=>rfl
 | [],_::_,h=>by cases h
 | _::_,[],h=>by cases h
 | x::xs,z::zs,h=>by
  have ih:=Ow xs zs (by simpa using h);rw[BN,List.range_succ_eq_map,all_cons,List.all_map];show(eqV x z&&_)=(eqV x z&&eqL xs zs);rw[<- ih];rfl
theorem Ov:∀(xs zs:List V),xs.length≠zs.length->eqL xs zs=false
 | [],[],h=>absurd rfl h
 | [],_::_,_=>rfl
 | _::_,[],_=>rfl
 | x::xs,z::zs,h=>by
  show(eqV x z&&eqL xs zs)=false;rw[Ov xs zs (by simpa using h),Bool.and_false]
theorem v9 (hu:X.A.units<FI):OpR X (D0 .NotEq) T7:=by
 intro pins s σ H x y v u Q I rx ry h;unfold T7 at h;split at h
 ·rename_i p q;unfold acN at h;split at h
  ·rename_i xs zs e1 e2;obtain⟨f1,f2,q⟩:=h;cases rx;cases ry;obtain⟨its1,r1,pl1,hz1⟩:=I.list (SqL.of e1);obtain⟨its2,r2,pl2,hz2⟩:=I.list (SqL.of e2);have l1:=r1.length;have l2:=r2.length;by_cases hl:xs.length=zs.length
   ·refine SeqAt.RcNeAt.lists (e:=fun j=>match xs[j]?,zs[j]? with|some a,some b=>eqV a b|_,_=>true) pl1.isList pl2.isList (by simp only[AN];omega) hu (fun j h1 h2=>?_) X.prog X.w X.xe (EP X pins σ Q) ?_
    ·have j1:j<xs.length:=by simp only[AN] at h1;omega
     have j2:j<zs.length:=ω;have g1:xs[j]?=some xs[j]:=AF j1;have g2:zs[j]?=some zs[j]:=AF j2;obtain⟨u1,hu1,ru1⟩:=r1.get g1;obtain⟨u2,hu2,ru2⟩:=r2.get g2;have k1:its1.toArray[j]=u1:=by
      have:=AR.mp hu1;obtain⟨_,z⟩:=this;simpa using z
     have k2:its2.toArray[j]=u2:=by
      have:=AR.mp hu2;obtain⟨_,z⟩:=this;simpa using z
     rw[k1,k2,g1,g2];exact abZ ru1 ru2 (IG.mp f1 _ (FA j1)) (IG.mp f2 _ (FA j2))
    rw[show its1.toArray.size=xs.length by simp only[AN];omega,Ow xs zs hl];exact⟨.bl _,H,I,rfl,q⟩
   rw[Ov xs zs hl] at q;refine SeqAt.RcNeAt.lists_lengths pl1.isList pl2.isList (by simp only[AN,bne_iff_ne,ne_eq];omega) hu X.prog X.w X.xe (EP X pins σ Q) ⟨.bl _,H,I,rfl,q⟩
  exact h.elim
 exact acH pins s σ H _ _ v u Q I rx ry h
end
structure aP (H:Hp)(p:Addr)(B:Int):Prop where
 ex:∃a b c:Int,H p=some (.lst [.int a,.int b,.int c])/\0<=a/\0<=b/\b<2147483629/\0<=c/\c<=B
theorem aP.same {H H':Hp}{p:Addr}{B:Int}(h:aP H p B)(s:Same H H'):aP H' p B:=by
 obtain⟨a,b,c,e,r⟩:=h;exact⟨a,b,c,s _ _ e,r⟩
theorem aP.le {H:Hp}{p:Addr}{B B':Int}(h:aP H p B)(l:B<=B'):aP H p B':=by
 obtain⟨a,b,c,e,r1,r2,r3,r4,r5⟩:=h;exact⟨a,b,c,e,r1,r2,r3,r4,ω⟩
theorem aP.ne {H:Hp}{p q:Addr}{B:Int}(h:aP H p B)(n:H q=none):q≠p:=by
 obtain⟨a,b,c,e,_⟩:=h;exact(aF e n).symm
theorem aP.net {H:Hp}{p q:Addr}{B:Int}{xs:List V}(h:aP H p B)(n:H q=some (.tup xs)):q≠p:=by
 obtain⟨a,b,c,e,_⟩:=h;intro z;rw[z,e] at n;cases n
noncomputable def Tj (K:Au):Sp:=fun vs H Q _=>∃(a:Addr)(ns:List Int)(k:Int),vs=[.ref a,.int k]/\SqL K H a (ns.map V.int)/\0<=k/\∀v:Int,Q (.int v) H
noncomputable def Td (K:Au):Sp:=fun vs H Q _=>∃(a:Addr)(ns:List Int)(k:Int),vs=[.ref a,.int k]/\SqL K H a (ns.map V.int)/\0<=k/\k<=100/\∀p H',H p=none->Same H H'->aP H' p 0->Q (.ref p) H'
noncomputable def lA (n:Nat):Sp:=fun vs H Q _=>∃(p:Addr)(m B:Int),vs=[.ref p,.int m]/\aP H p B/\B+(n:Int)<=1000100/\0<m/\m<2^70/\1<=n/\(1000000<=m->2<=n) /\
 ∀r H',0<=r->r<m->aW p H H'->aP H' p (B+n)->Q (.int r) H'
theorem aa6 (c:Int):∃v:Int,atI [V.int 2147483587,V.int 2147483579,V.int 2147483563,V.int 2147483549,V.int 2147483543,V.int 2147483497,V.int 2147483489] (c%7)=some (.int v)/\0<v:=by
 have h1:0<=c%7:=EZ _ δ;have h2:c%7<7:=DZ _ δ;generalize c%7=d at h1 h2;have h3:d=0\/d=1\/d=2\/d=3\/d=4\/d=5\/d=6:=ω;rcases h3 with rfl|rfl|rfl|rfl|rfl|rfl|rfl
 ·exact⟨_,dH (j:=0) rfl,δ⟩
 ·exact⟨_,dH (j:=1) rfl,δ⟩
 ·exact⟨_,dH (j:=2) rfl,δ⟩
 ·exact⟨_,dH (j:=3) rfl,δ⟩
 ·exact⟨_,dH (j:=4) rfl,δ⟩
 ·exact⟨_,dH (j:=5) rfl,δ⟩
 exact⟨_,dH (j:=6) rfl,δ⟩
theorem Hf (X k:Nat):((X:Int)/2^k)%2=if X.testBit k then 1 else 0:=by
 have e:(X:Int)/2^k%2=((X/2^k%2:Nat):Int):=by
  rw[Int.natCast_emod,Int.natCast_ediv,EB];rfl
 rw[e,Nat.testBit_eq_decide_div_mod_eq];have:=mod_lt (X/2^k) (show 0<2 by decide);by_cases h:X/2^k%2=1
 ·simp [h]
 have h0:X/2^k%2=0:=ω;simp [h0]
theorem Z6 (y:Int):AZ.bitAnd y 1=y%2:=by
 have:=PySem.W.kbt_mask y 1;simpa using this
theorem Xn (X k:Nat):AZ.bitAnd ((X:Int)/2^k) 1=if X.testBit k then 1 else 0:=by
 rw[Z6,Hf]
theorem Mt (a b:Nat):AZ.bitAnd (a:Int) (b:Int)=((a &&& b:Nat):Int):=by
 unfold AZ.bitAnd;simp
inductive It1 where
 | one (a:Int)
 | rng (a b:Int)
 | bits (m v:Nat)
section
variable {mp:List (Option Nat)}{g:TG}{tc:TT}{te:TE}{σ:St}{H:Hp}{Q:VK}{R:It->Hp->Prop}{K:Au}
theorem Bh {lo:Int}{n:Nat}(hR:R=R5 mp g tc te σ Q)(hz:n<=AK)(Pv:Nat->List V->St->Hp->Prop)(h0:Pv 0 [] (mq mp σ) H)(hl:∀i acc τ H,Pv i acc τ H->acc.length<=i)
  (hs:∀i acc τ H,i<n->Pv i acc τ H->g (.int (lo+i)) τ H fun τ1 H4=>tc τ1 H4 fun b H5=>if b=true then te τ1 H5 fun v H6=>Pv (i+1) (acc++[v]) τ1 H6 else Pv (i+1) acc τ1 H5)
  (hd:∀acc τ H d,Pv n acc τ H->H d=none->Q (.ref d) (upd H d (.lst acc))):R (Itr lo n) H:=by
 refine O3 hR n hz Pv h0 hl (fun i acc τ H hi _=>hi) (fun acc τ H _=>A9 n) (fun i acc τ H x H3 hi p y=>?_) hd;obtain⟨rfl,rfl⟩:=y;exact hs i acc τ _ hi p
theorem oW {a:Addr}{xs:List V}(hR:R=R5 mp g tc te σ Q)(hz:xs.length<=AK)(Pv:Nat->List V->St->Hp->Prop)(h0:Pv 0 [] (mq mp σ) H)(hl:∀i acc τ H,Pv i acc τ H->acc.length<=i)
  (hq:∀i acc τ H,Pv i acc τ H->SqL K H a xs)
  (hs:∀i x acc τ H,xs[i]?=some x->Pv i acc τ H->g x τ H fun τ1 H4=>tc τ1 H4 fun b H5=>if b=true then te τ1 H5 fun v H6=>Pv (i+1) (acc++[v]) τ1 H6 else Pv (i+1) acc τ1 H5)
  (hd:∀acc τ H d,Pv xs.length acc τ H->H d=none->Q (.ref d) (upd H d (.lst acc))):R (Itl K a) H:=by
 refine O3 hR xs.length hz Pv h0 hl (fun i acc τ H hi p=>⟨xs,xs[i],hq i acc τ H p,AF hi⟩) (fun acc τ H p=>⟨xs,hq _ acc τ H p,A9 _⟩) (fun i acc τ H x H3 hi p y=>?_) hd;obtain⟨rfl,hx⟩:=y;exact hs i x acc τ _ (hx xs (hq i acc τ _ p)) p
end
noncomputable def m8 (l:List Nat):List V:=l.map fun k=>V.int (k:Nat)
theorem Iv (l:List Nat):(m8 l).length=l.length:=by simp [m8]
theorem Qw (l:List Nat):(m8 l).all DR=true:=by
 rw[IG];intro x hx;obtain⟨k,_,rfl⟩:=D9.mp hx;rfl
theorem ZC (g:TG)(gs:TGs)(x:V)(xs:List V)(σ:St)(H:Hp)(Q:St->Hp->Prop):Wb g gs (x::xs) σ H Q=g x σ H fun σ1 H1=>gs xs σ1 H1 Q:=
 propext ⟨fun⟨_,_,e,h⟩=>by cases e;exact h,fun h=>⟨x,xs,rfl,h⟩⟩
theorem abU (σ:St)(H:Hp)(Q:St->Hp->Prop):abV [] σ H Q=Q σ H:=propext ⟨fun h=>h.2,fun h=>⟨rfl,h⟩⟩
theorem Wh {a b:Int}{P:Int->Int->Prop}:(∃v w,(a=v/\b=w)/\P v w)=P a b:=propext ⟨fun⟨_,_,⟨h1,h2⟩,h⟩=>h1 ▸ h2 ▸ h,fun h=>⟨a,b,⟨rfl,rfl⟩,h⟩⟩
theorem gb {tc:TT}{ts us:TS}{D:Ends}{σ:St}{H:Hp}(h:∀kt ke,kt=ts D->ke=us D->tc σ H fun b H1=>if b=true then kt σ H1 else ke σ H1):PL tc ts us D σ H:=h _ _ rfl rfl
theorem Xr {p:Addr}{H H':Hp}(h:aW p H H')(e:H p=none):Same H H':=fun b o hb=>h b o (aF hb e) hb
section
variable {X:Cx}{e o:Expr}{te to:TE}{pos:Pos}
noncomputable def apq (ob:Option HO)(l:Addr)(y:V)(H:Hp)(Q:VK):Prop:=match ob with
 | some (.lst xs)=>xs.length<AK/\Q .non (upd H l (.lst (xs++[y])))
 | _=>False
noncomputable def isq (ob:Option HO):Prop:=match ob with
 | some (.lst _)=>True
 | _=>False
theorem yH (xs:List V):isq (some (.lst xs))=True:=rfl
theorem O7 (xs:List V)(l:Addr)(y:V)(H:Hp)(Q:VK):apq (some (.lst xs)) l y H Q=(xs.length<AK/\Q .non (upd H l (.lst (xs++[y])))):=rfl
noncomputable def Z5 (x:V)(te:TE)(σ:St)(H1:Hp)(Q:VK):Prop:=match x with
 | .ref l=>isq (H1 l)/\te σ H1 fun y H2=>apq (H2 l) l y H2 Q
 | _=>False
noncomputable def yR (to te:TE):TE:=fun σ H Q=>to σ H fun x H1=>Z5 x te σ H1 Q
theorem S9 (to te:TE)(σ:St)(H:Hp)(Q:VK):yR to te σ H Q=to σ H fun x H1=>Z5 x te σ H1 Q:=rfl
theorem J5 (l:Addr)(te:TE)(σ:St)(H1:Hp)(Q:VK):Z5 (.ref l) te σ H1 Q=(isq (H1 l)/\te σ H1 fun y H2=>apq (H2 l) l y H2 Q):=rfl
theorem YK {apos cpos:Pos}(ho:PE X o to)(he:PE X e te)
  (hbase:DS o "append" X.env (eval o X.env)=eval o X.env:=by rfl)
  (hfew:((CB cpos (AL [e] X.env)).all (fun x=>!x.1)&&(HG cpos (FB [] X.env)).all (fun x=>x.1.isSome)
   && decide ([e].length+([]:List EV).length+(if ([]:List EV).isEmpty then 0 else 1)<30))=true:=by rfl)
  (hline:(apos.endLine == cpos.line)=true:=by rfl) (hs:AL [e] X.env=(false,eval e X.env)::AL [] X.env:=by rfl) (hplain:(CB cpos (AL [] X.env)).any (·.1)=false:=by rfl) :
  PE X (.Call (.Attribute o "append" apos) [e] [] cpos) (yR to te):=by
 intro pins s σ H Q I h;refine FO hbase hfew hline rfl (thE (ho pins s σ H _ I h) fun v s1 x H1 I1 r1 q=>?_);cases x with
 | ref l=>
  obtain⟨q1,q2⟩:=q;cases el:H1 l with
  | none=>rw[el] at q1;exact q1.elim
  | some ob=>
   cases ob with
   | lst xs=>
    obtain⟨h1,h2⟩:=yO (T := "list") I1 r1 (.inl ⟨rfl,xs,SqL.of el⟩);refine⟨"list","list.append",FC,PySem.F.slot_list_append,PySem.F.type_list_append,h1,h2,?_⟩;rw[hs];refine DI (by show(false||(CB cpos (AL [] X.env)).any (·.1))=false;rw[hplain] <;> rfl) (E3 ?_)
    refine DU (thE (he pins s1 σ H1 _ I1 q2) fun u s2 y H2 I2 r2 q3=>D4 ?_);replace q3:apq (H2 l) l y H2 Q:=q3;cases el2:H2 l with
    | none=>rw[el2] at q3;exact q3.elim
    | some ob2=>
     cases ob2 with
     | lst ys=>
      rw[el2] at q3;exact QK pins s2 σ H2 (.ref l) [y] v [u] Q I2 r1 (.cons r2 .nil) ⟨l,ys,y,rfl,rfl,el2,q3.1,q3.2⟩
     | _=>rw[el2] at q3;exact q3.elim
   | _=>rw[el] at q1;exact q1.elim
 | _=>exact q.elim
theorem gK {apos cpos:Pos}(ho:QE X o to)(he:QE X e te)
  (hbase:DS o "append" X.env (eval o X.env)=eval o X.env:=by rfl)
  (hfew:((CB cpos (AL [e] X.env)).all (fun x=>!x.1)&&(HG cpos (FB [] X.env)).all (fun x=>x.1.isSome)
   && decide ([e].length+([]:List EV).length+(if ([]:List EV).isEmpty then 0 else 1)<30))=true:=by rfl)
  (hline:(apos.endLine == cpos.line)=true:=by rfl) (hs:AL [e] X.env=(false,eval e X.env)::AL [] X.env:=by rfl) (hplain:(CB cpos (AL [] X.env)).any (·.1)=false:=by rfl) :
  QE X (.Call (.Attribute o "append" apos) [e] [] cpos) (yR to te):=⟨YK ho.h he.h hbase hfew hline hs hplain⟩
noncomputable def slq (ob:Option HO)(lo hi:Option Int)(H:Hp)(Q:VK):Prop:=match ob with
 | some (.lst xs)=>∀p,H p=none->Q (.ref p) (upd H p (.lst (sO xs lo hi)))
 | some (.tup xs)=>¬(HT.sIx xs.length 0 lo=0/\HT.sIx xs.length xs.length hi=xs.length)/\∀p,H p=none->Q (.ref p) (upd H p (.tup (sO xs lo hi)))
 | _=>False
noncomputable def T4:V->Option Int->Option Int->Hp->VK->Prop:=fun x lo hi H Q=>match x with
 | .ref p=>slq (H p) lo hi H Q
 | _=>False
theorem Ih (p:Addr)(lo hi:Option Int)(H:Hp)(Q:VK):T4 (.ref p) lo hi H Q=slq (H p) lo hi H Q:=rfl
theorem Nf (xs:List V)(lo hi:Option Int)(H:Hp)(Q:VK):slq (some (.lst xs)) lo hi H Q=∀p,H p=none->Q (.ref p) (upd H p (.lst (sO xs lo hi))):=rfl
theorem Xl (xs:List V)(lo hi:Option Int)(H:Hp)(Q:VK):slq (some (.tup xs)) lo hi H Q=(¬(HT.sIx xs.length 0 lo=0/\HT.sIx xs.length xs.length hi=xs.length)/\∀p,H p=none->Q (.ref p) (upd H p (.tup (sO xs lo hi)))):=rfl
theorem vU:SlR X T4:=by
 intro pins s σ H x v vl vu lo hi sl Q I rx hs pl pu h;unfold T4 at h;split at h
 ·rename_i p;unfold slq at h;split at h
  ·rename_i xs e;exact Xm pins s σ H _ v vl vu lo hi sl Q I rx hs pl pu ⟨p,xs,rfl,SqL.of e,h⟩
  ·rename_i xs e;exact aaF pins s σ H _ v vl vu lo hi sl Q I rx hs pl pu ⟨p,xs,rfl,SqT.of e,h.1,h.2⟩
  exact h.elim
 exact h.elim
structure QO (X:Cx)(e:Option Expr)(t:TO):Prop where
 h:PO X e t
theorem dF:QO X none rm:=⟨Yo⟩
theorem cZ (h:QE X e te):QO X (some e) (yP te):=⟨Nz h.h⟩
theorem cA {r:V->Option Int->Option Int->Hp->VK->Prop}{lo hi:Option Expr}{tl th:TO}{p2:Pos}(hr:SlR X r)(he:QE X e te)(hl:QO X lo tl)(hu:QO X hi th):QE X (.Subscript e (.Slice lo hi none p2) pos) (tSl r te tl th):=⟨Ux hr he.h hl.h hu.h⟩
noncomputable def rpq (ob:Option HO)(k:Int)(H:Hp)(Q:VK):Prop:=match ob with
 | some (.lst xs)=>-(2^63)<=k/\k<2^63/\xs.length*k.toNat<=AK/\∀p,H p=none->Q (.ref p) (upd H p (.lst (B3 k.toNat xs).flatten))
 | _=>False
noncomputable def Nk:R2:=fun x y H Q=>match x,y with
 | .ref p,.int k=>rpq (H p) k H Q
 | x,y=>rI R6 (fun i j=>.int (i*j)) x y H Q
theorem Xx (p:Addr)(k:Int)(H:Hp)(Q:VK):Nk (.ref p) (.int k) H Q=rpq (H p) k H Q:=rfl
theorem Xy (i j:Int)(H:Hp)(Q:VK):Nk (.int i) (.int j) H Q=rI R6 (fun i j=>.int (i*j)) (.int i) (.int j) H Q:=rfl
theorem Xw (xs:List V)(k:Int)(H:Hp)(Q:VK):rpq (some (.lst xs)) k H Q=(-(2^63)<=k/\k<2^63/\xs.length*k.toNat<=AK/\∀p,H p=none->Q (.ref p) (upd H p (.lst (B3 k.toNat xs).flatten))):=rfl
theorem fK:OpR X (Da .Mult) Nk:=by
 intro pins s σ H x y v u Q I rx ry h;unfold Nk at h;split at h
 ·rename_i p k;unfold rpq at h;split at h
  ·rename_i xs e;exact abn pins s σ H _ _ v u Q I rx ry ⟨p,k,xs,rfl,rfl,e,h.1,h.2.1,h.2.2.1,h.2.2.2⟩
  exact h.elim
 exact abo pins s σ H _ _ v u Q I rx ry h
noncomputable def eqo (ob:Option HO)(H:Hp)(Q:VK):Prop:=match ob with
 | some (.lst _)=>Q (.bl false) H
 | some (.tup _)=>Q (.bl false) H
 | _=>False
noncomputable def XJ:R2:=fun x y H Q=>match x,y with
 | .ref p,.str _=>eqo (H p) H Q
 | x,y=>rEq x y H Q
theorem XH (i j:Int)(H:Hp)(Q:VK):XJ (.int i) (.int j) H Q=rEq (.int i) (.int j) H Q:=rfl
theorem XF (i j:Str)(H:Hp)(Q:VK):XJ (.str i) (.str j) H Q=rEq (.str i) (.str j) H Q:=rfl
theorem jg (hu:X.A.units<FI):OpR X (D0 .Eq) XJ:=by
 intro pins s σ H x y v u Q I rx ry h;unfold XJ at h;split at h
 ·rename_i p z;cases rx;obtain⟨t,rfl⟩:=ry;unfold eqo at h;split at h
  ·rename_i xs e;obtain⟨its,r,pl,hz⟩:=I.list (SqL.of e);exact SeqAt.RcAt.list_str z t pl.isList hu X.prog X.w X.xe (EP X pins σ Q) ⟨.bl false,H,I,rfl,h⟩
  ·rename_i xs e;obtain⟨its,r,pl,hz⟩:=I.tuple (SqT.of e);exact SeqAt.RcAt.tuple_str z t pl hu X.prog X.w X.xe (EP X pins σ Q) ⟨.bl false,H,I,rfl,h⟩
  exact h.elim
 exact acJ pins s σ H _ _ v u Q I rx ry h
theorem Fw {x:Str}{v:V}{u:An}(hg:Gl X x)(hm:X.mg x=some u)(r:RelV v u)(b:Bn x):QE X (.Name x pos) (tC v):=⟨Yz hg hm r b.hd⟩
end
mutual
inductive aJ (ok:Addr->Prop)(H:Hp):V->AD->Prop
 | non:aJ ok H .non .none
 | bl (b:Bool):aJ ok H (.bl b) (.bool b)
 | int (i:Int):aJ ok H (.int i) (.int i)
 | str (x:Str):aJ ok H (.str x) (.str x)
 | lst {p:Addr} {xs:List V} {ds:List AD}:ok p->H p=some (.lst xs)->xs.length<=1000000->aH ok H xs ds->aJ ok H (.ref p) (.list ds)
 | tup {p:Addr} {xs:List V} {ds:List AD}:ok p->H p=some (.tup xs)->xs.length<=1000000->aH ok H xs ds->aJ ok H (.ref p) (.tuple ds)
inductive aH (ok:Addr->Prop)(H:Hp):List V->List AD->Prop
 | nil:aH ok H [] []
 | cons {x:V} {d:AD} {xs:List V} {ds:List AD}:aJ ok H x d->aH ok H xs ds->aH ok H (x::xs) (d::ds)
end
mutual
theorem aJ.keep {ok ok':Addr->Prop}{H H':Hp}(k:∀a o,ok a->H a=some o->ok' a/\H' a=some o):∀{v:V}{d:AD},aJ ok H v d->aJ ok' H' v d
 | _,_,.non=>.non
 | _,_,.bl b=>.bl b
 | _,_,.int i=>.int i
 | _,_,.str x=>.str x
 | _,_,.lst o e z t=>.lst (k _ _ o e).1 (k _ _ o e).2 z (aH.keep k t)
 | _,_,.tup o e z t=>.tup (k _ _ o e).1 (k _ _ o e).2 z (aH.keep k t)
theorem aH.keep {ok ok':Addr->Prop}{H H':Hp}(k:∀a o,ok a->H a=some o->ok' a/\H' a=some o):∀{vs:List V}{ds:List AD},aH ok H vs ds->aH ok' H' vs ds
 | _,_,.nil=>.nil
 | _,_,.cons t r=>.cons (aJ.keep k t) (aH.keep k r)
end
theorem aJ.same {ok:Addr->Prop}{H H':Hp}{v:V}{d:AD}(t:aJ ok H v d)(s:Same H H'):aJ ok H' v d:=t.keep fun a o h e=>⟨h,s a o e⟩
theorem aH.same {ok:Addr->Prop}{H H':Hp}{v:List V}{d:List AD}(t:aH ok H v d)(s:Same H H'):aH ok H' v d:=t.keep fun a o h e=>⟨h,s a o e⟩
theorem aJ.gW {p:Addr}{H H':Hp}{v:V}{d:AD}(t:aJ (·≠p) H v d)(s:aW p H H'):aJ (·≠p) H' v d:=t.keep fun a o h e=>⟨h,s a o h e⟩
theorem aH.length {ok:Addr->Prop}{H:Hp}:∀{vs:List V}{ds:List AD},aH ok H vs ds->vs.length=ds.length
 | _,_,.nil=>rfl
 | _,_,.cons _ r=>by rw[BN,BN,r.length]
theorem aH.append {ok:Addr->Prop}{H:Hp}:∀{vs ws:List V}{ds es:List AD},aH ok H vs ds->aH ok H ws es->aH ok H (vs++ws) (ds++es)
 | _,_,_,_,.nil,t=>t
 | _,_,_,_,.cons h r,t=>.cons h (r.append t)
theorem aH.get {ok:Addr->Prop}{H:Hp}:∀{vs:List V}{ds:List AD}{i:Nat}{v:V},aH ok H vs ds->vs[i]?=some v->∃d,ds[i]?=some d/\aJ ok H v d
 | _,_,0,_,.cons h _,e=>by cases e;exact⟨_,rfl,h⟩
 | _,_,i+1,_,.cons _ r,e=>aH.get r (i:=i) e
theorem aH.take {ok:Addr->Prop}{H:Hp}:∀{vs:List V}{ds:List AD}(n:Nat),aH ok H vs ds->aH ok H (vs.take n) (ds.take n)
 | _,_,0,_=>.nil
 | _,_,_+1,.nil=>.nil
 | _,_,n+1,.cons h r=>.cons h (r.take n)
theorem aH.drop {ok:Addr->Prop}{H:Hp}:∀{vs:List V}{ds:List AD}(n:Nat),aH ok H vs ds->aH ok H (vs.drop n) (ds.drop n)
 | _,_,0,h=>h
 | _,_,_+1,.nil=>.nil
 | _,_,n+1,.cons _ r=>r.drop n
theorem aH.cut {ok:Addr->Prop}{H:Hp}{vs:List V}{ds:List AD}(t:aH ok H vs ds)(lo hi:Option Int):aH ok H (sO vs lo hi) ((ds.drop (HT.sIx ds.length 0 lo)).take (HT.sIx ds.length ds.length hi-HT.sIx ds.length 0 lo)):=by
 unfold sO;rw[t.length];exact(t.drop _).take _
section
variable {X:Cx}{pins:List (Addr×Obj)}{σ:St}{H:Hp}{s:AC}{ok:Addr->Prop}
mutual
theorem aJ.reads (I:Inv X pins σ H s):∀{v:V}{d:AD}{u:An},aJ ok H v d->RelV v u->∃as,Reads s.heap u d as
 | _,_,_,.non,r=>by cases r;exact⟨_,.none⟩
 | _,_,_,.bl b,r=>by cases r;exact⟨_,.bool b⟩
 | _,_,_,.int i,r=>by obtain⟨t,rfl⟩:=r;exact⟨_,.int i t⟩
 | _,_,_,.str x,r=>by obtain⟨t,rfl⟩:=r;exact⟨_,.str x t⟩
 | _,_,_,.lst o e z t,r=>by
  cases r;obtain⟨its,rv,pl,hz⟩:=I.list (SqL.of e);obtain⟨ob,h1,h2,n,h3⟩:=pl.isList;obtain⟨as,h4⟩:=aH.reads I t rv;exact⟨_,.list h1 h2 h3 (by simpa using h4)⟩
 | _,_,_,.tup o e z t,r=>by
  cases r;obtain⟨its,rv,pl,hz⟩:=I.tuple (SqT.of e);obtain⟨ob,h1,h2,n,h3⟩:=pl;obtain⟨as,h4⟩:=aH.reads I t rv;exact⟨_,.tuple h1 h2 h3 (by simpa using h4)⟩
theorem aH.reads (I:Inv X pins σ H s):∀{vs:List V}{ds:List AD}{us:List An},aH ok H vs ds->Vals vs us->∃as,ReadsAll s.heap us ds as
 | _,_,_,.nil,r=>by cases r;exact⟨_,.nil⟩
 | _,_,_,.cons h t,r=>by
  cases r with
  | cons r1 r2=>
   obtain⟨as,h1⟩:=aJ.reads I h r1;obtain⟨bs,h2⟩:=aH.reads I t r2;exact⟨_,.cons h1 h2⟩
end
end
mutual
noncomputable def nodes:AD->Nat
 | .list ds=>1+aK ds
 | .tuple ds=>1+aK ds
 | _=>1
noncomputable def aK:List AD->Nat
 | []=>0
 | d::ds=>nodes d+aK ds
end
mutual
noncomputable def smD:AD->Bool
 | .none=>true
 | .bool _=>true
 | .int i=>decide (i.natAbs<2^50\/i.natAbs=10^20\/i.natAbs<2^55)
 | .str x=>decide ((reprText x).length<=50)
 | .list ds=>Tq ds
 | .tuple ds=>Tq ds
 | .dict _=>false
noncomputable def Tq:List AD->Bool
 | []=>true
 | d::ds=>smD d&&Tq ds
end
theorem Zn {i:Int}(h:i.natAbs<2^70):(D6 (toString i)).length<=71:=by
 rw[PySem.ofString_length];have:=int_text_length_le10 (a:=i) (k:=30) δ ω;omega
section
variable {X:Cx}{tg l:Expr}{tl:TE}
noncomputable def itq (K:Au)(ob:Option HO)(a:Addr)(H:Hp)(R:It->Hp->Prop):Prop:=match ob with
 | some (.lst _)=>R (Itl K a) H
 | some (.tup _)=>R (Itt K a) H
 | _=>False
noncomputable def itK (K:Au)(x:V)(H:Hp)(R:It->Hp->Prop):Prop:=match x with
 | .ref a=>itq K (H a) a H R
 | _=>False
noncomputable def Jg (K:Au)(tl:TE):TI:=fun σ H R=>tl σ H fun x H1=>itK K x H1 R
theorem lN (K:Au)(tl:TE)(σ:St)(H:Hp)(R:It->Hp->Prop):Jg K tl σ H R=tl σ H fun x H1=>itK K x H1 R:=rfl
theorem mF (K:Au)(a:Addr)(H:Hp)(R:It->Hp->Prop):itK K (.ref a) H R=itq K (H a) a H R:=rfl
theorem oJ (K:Au)(xs:List V)(a:Addr)(H:Hp)(R:It->Hp->Prop):itq K (some (.lst xs)) a H R=R (Itl K a) H:=rfl
theorem Zm (K:Au)(xs:List V)(a:Addr)(H:Hp)(R:It->Hp->Prop):itq K (some (.tup xs)) a H R=R (Itt K a) H:=rfl
theorem Ys (hl:PE X l tl):PI X tg l (Jg X.K tl):=by
 intro pins s σ H R I h;refine thn (hl pins s σ H _ I h) fun v s1 ⟨x,H1,I1,r1,q1⟩=>?_;cases x with
 | ref a=>
  replace q1:itq X.K (H1 a) a H1 R:=q1;cases r1;unfold itq at q1;split at q1
  ·rename_i xs e;obtain⟨its,rv,p,hz⟩:=I1.list (SqL.of e);refine D8 p.isList ?_;refine⟨s1.heap.objs.size,[s1.heap.objs.size],_,_,H1,rfl,I1.kept (t':=s1.toks) fun b o e=>AB _ e,Pq a _,⟨_,AY _ rfl,rfl,rfl⟩,fun b hb=>?_,q1⟩;have e:b=s1.heap.objs.size:=by simpa using hb
   subst e;exact I1.LK (A9 _) (I1.hok.fresh (A9 _))
  ·rename_i xs e;obtain⟨its,rv,p,hz⟩:=I1.tuple (SqT.of e);refine EJ (show s1.heap.IsTuple a its.toArray from p) ?_;refine⟨s1.heap.objs.size,[s1.heap.objs.size],_,_,H1,rfl,I1.kept (t':=s1.toks) fun b o e=>AB _ e,Kd a _,⟨_,AY _ rfl,rfl,rfl⟩,fun b hb=>?_,q1⟩;have e:b=s1.heap.objs.size:=by simpa using hb
   subst e;exact I1.LK (A9 _) (I1.hok.fresh (A9 _))
  exact q1.elim
 | _=>exact q1.elim
theorem cU (hl:QE X l tl):QI X tg l (Jg X.K tl):=⟨Ys hl.h⟩
end
noncomputable def Gv (ok:Addr->Prop)(t:TE)(σ:St)(H0:Hp)(d:AD):Prop:=∀H,Same H0 H->∀Q:VK,(∀v H',Same H H'->aJ ok H' v d->Q v H')->t σ H Q
noncomputable def GvA (ok:Addr->Prop)(t:TA)(σ:St)(H0:Hp)(ds:List AD):Prop:=∀H,Same H0 H->∀Q:List V->Hp->Prop,(∀vs H',Same H H'->aH ok H' vs ds->Q vs H')->t σ H Q
noncomputable def cJ (ok:Addr->Prop)(H0:Hp):Prop:=∀H p,Same H0 H->H p=none->ok p
theorem Vg {H0:Hp}{p:Addr}{o:HO}(h:H0 p=some o):cJ (·≠p) H0:=fun H q s hq=>(aF (s _ _ h) hq).symm
theorem cJ.same {ok:Addr->Prop}{H0 H1:Hp}(n:cJ ok H0)(s:Same H0 H1):cJ ok H1:=fun H p s2 h=>n H p (s.trans s2) h
section
variable {ok:Addr->Prop}{σ:St}{H0:Hp}{ta tb:TE}{tr:TA}{d e:AD}{ds es:List AD}
theorem uh:Gv ok (tC .non) σ H0 .none:=fun H _ Q q=>q _ _ (Same.refl _) .non
theorem xq {b:Bool}:Gv ok (tC (.bl b)) σ H0 (.bool b):=fun H _ Q q=>q _ _ (Same.refl _) (.bl b)
theorem iM {i:Int}:Gv ok (tC (.int i)) σ H0 (.int i):=fun H _ Q q=>q _ _ (Same.refl _) (.int i)
theorem ji {x:Str}:Gv ok (tC (.str x)) σ H0 (.str x):=fun H _ Q q=>q _ _ (Same.refl _) (.str x)
theorem aU:GvA ok rZ σ H0 []:=fun H _ Q q=>q _ _ (Same.refl _) .nil
theorem aD (h:Gv ok ta σ H0 d)(h2:GvA ok tr σ H0 ds):GvA ok (gU ta tr) σ H0 (d::ds):=fun H s Q q=>
 h H s _ fun v H1 s1 t1=>h2 H1 (s.trans s1) _ fun vs H2 s2 t2=>q _ _ (s1.trans s2) (.cons (t1.same s2) t2)
theorem eU (n:cJ ok H0)(h:GvA ok tr σ H0 ds)(hl:ds.length<=1000000):Gv ok (Hu tr) σ H0 (.tuple ds):=fun H s Q q=>
 h H s _ fun vs H1 s1 t1=>⟨aX (by rw[t1.length];exact hl),fun p hp=>q _ _ (s1.trans (aA hp)) (.tup (n H1 p (s.trans s1) hp) aB (by rw[t1.length];exact hl) (t1.same (aA hp)))⟩
theorem dm (n:cJ ok H0)(h:GvA ok tr σ H0 ds)(hl:ds.length<=1000000):Gv ok (Eo tr) σ H0 (.list ds):=fun H s Q q=>
 h H s _ fun vs H1 s1 t1=>⟨aX (by rw[t1.length];exact hl),fun p hp=>q _ _ (s1.trans (aA hp)) (.lst (n H1 p (s.trans s1) hp) aB (by rw[t1.length];exact hl) (t1.same (aA hp)))⟩
theorem wC {r:R2}{i j k:Int}(h:Gv ok ta σ H0 (.int i))(h2:Gv ok tb σ H0 (.int j))(hr:∀H Q,Q (.int k) H->r (.int i) (.int j) H Q):Gv ok (tOp r ta tb) σ H0 (.int k):=fun H s Q q=>
 h H s _ fun v H1 s1 t1=>by
  cases t1;exact h2 H1 (s.trans s1) _ fun w H2 s2 t2=>by
   cases t2;exact hr _ _ (q _ _ (s1.trans s2) (.int k))
theorem qH (n:cJ ok H0)(h:Gv ok ta σ H0 (.list ds))(h2:Gv ok tb σ H0 (.list es))(hl:ds.length+es.length<=1000000):Gv ok (tOp zm ta tb) σ H0 (.list (ds++es)):=fun H s Q q=>
 h H s _ fun v H1 s1 t1=>by
  cases t1 with
  | lst o1 e1 z1 t1=>
   refine h2 H1 (s.trans s1) _ fun w H2 s2 t2=>?_;cases t2 with
   | lst o2 e2 z2 t2=>
    have l1:=t1.length;have l2:=t2.length;show zm _ _ _ _;rw[Nq,s2 _ _ e1,e2,Mv];refine⟨aX ω,fun p hp=>q _ _ ((s1.trans s2).trans (aA hp)) (.lst (n H2 p ((s.trans s1).trans s2) hp) aB (by rw[AI];omega) (((t1.same s2).append t2).same (aA hp)))⟩
end
noncomputable def fZ:AD->Bool
 | .int _=>true
 | _=>false
noncomputable def Tg:Sp:=fun vs H Q _=>∃v ok d,vs=[v]/\aJ ok H v d/\Q (.bl (fZ d)) H
section
variable {X:Cx}{NX N:List Str}{kX:List (Str×CM)}{mp:List (Option Nat)}{scope:D3}
set_option maxHeartbeats 8000000 in
theorem Yl {tg iter elt:Expr}{ifs:List Expr}{pos pos' pos2:Pos}{wi:TI}{g:TG}{tc:TT}{te:TE}{i:Nat}{x:Str}(N:List Str)(mp:List (Option Nat))(hn:Nm X.N X.env.scope i x)(hNd:X.N.Nodup)(hNX:X.N=NX)(hkX:X.env.scope.names=kX)(S:xO NX kX N mp scope)(hc:X.calm=true)
  (hi:PI X tg iter wi) (hg:∀cl C s H fp,PG (bQ X N scope cl C s H fp) tg g) (ht:∀cl C s H fp,PTs (bQ X N scope cl C s H fp) ifs tc) (he:∀cl C s H fp,PE (bQ X N scope cl C s H fp) elt te)
  (hf:X.fn x=true\/X.env.scope.names.lookup x=some .local:=by exact .inl rfl)
  (hsw:F6 [.Name x pos'] (.ListComp elt [⟨tg,iter,ifs,0⟩] scope pos) pos2.line X.env=pure true:=by rfl)
  (h1:(CU [.Name x pos'] X.env).map (·.2)=[ES (.Name x pos') X.env]:=by rfl)
  (hs:∀x,DD iter X.env x=pure x:=by intro _;rfl):PS X (.Assign [.Name x pos'] (.ListComp elt [⟨tg,iter,ifs,0⟩] scope pos) pos2) (uG (CZ mp wi g tc te) (j6 i)):=by
 intro pins s σ H Dn I h;rw[exec_Assign_arm];refine Ap (F5 ?_);rw[hsw];refine Ap (AE ?_);rw[if_pos rfl,h1];replace h:CZ mp wi g tc te σ H (fun v H1=>Dn.nx (σ.set i (some v)) H1):=h;obtain⟨cl,hcl,hsub,hhas⟩:=G3 (env:=X.env) (scope:=scope) fun y hy hf=>I.ok.has y.1 (by
  rcases S.fre y hy hf with q|q
  ·exact .inl (show X.env.scope.names.lookup y.1=_ by rw[hkX];exact q)
  exact .inr (show X.env.scope.names.lookup y.1=_ by rw[hkX];exact q))
 generalize hQ:(fun(v:V)(H1:Hp)=>Dn.nx (σ.set i (some v)) H1)=Q at h
 let QQ:An->AC->Prop:=fun _ s'=>∃τ H',Inv X pins τ H' s'/\Dn.nx τ H'
 refine Ap (Ap (thn (Q:=QQ) (Hm (e:=.ListComp elt [⟨tg,iter,ifs,0⟩] scope pos) (use:=some fun v=>assignAll v [ES (.Name x pos') X.env]) rfl hs hcl S.kind S.locs ?_) fun _ s' ⟨τ,H',I',q'⟩=>AE (AE ⟨τ,H',I',q'⟩)));refine thn (hi pins s σ H _ I h) fun v s1 h1=>thn h1 fun itv s2 h2=>?_;obtain⟨it,fp,tn,J,H2,e,I2,T,st2,f2,W,⟨m0,w0⟩,turn⟩:=h2;subst e;refine BF (Go S.nocell (by intro y hy;simp at hy) (fun h3 hns hsb=>?_) S.kind);dsimp only at hns hsb |-;have hold:∀b∈fp,b<s2.heap.objs.size:=fun b hb=>by
  obtain⟨o,q,_⟩:=T.obj _ _ st2 b hb;exact A3 q
 generalize hD:s2.heap.objs.size=D at hns hsb;generalize hH2:s2.heap.push { cls:=.type "list",dict:=none,data:=.seq ([]:List An).toArray }=P2 at hns hsb |-;have hC:P2.objs.size=D+1:=by rw[<- hH2,CA,hD]
 generalize hC':P2.objs.size=C at hns hsb |-;rw[hC'] at hC;have old:∀b o,s2.heap.get? b=some o->h3.get? b=some o:=fun b o q=>by
  have hb:=A3 q;exact hsb.extBut b o (na1 hb hD hC) (AB _ (hH2 ▸ AB _ q))
 have accD:h3.get? D=some { cls:=.type "list",data:=.seq ([]:List An).toArray }:=
  hsb.extBut _ _ (na2 hC) (AB _ (by rw[<- hH2,<- hD];exact AY _ rfl))
 have hfr:D∉frs X.stack:=fun z=>by
  rcases AX.mp (I2.tO D z) with q|q
  ·exact na0 I2.lt hD q.symm
  exact I2.Y7 (na4 hD) q
 have I0:Inv (bQ X N scope cl C s2 H2 fp) [(D,{ cls:=.type "list",data:=.seq ([]:List An).toArray })] (mq mp σ) H2 { s2 with heap:=h3,toks:=s2.toks+([]:List (Str×An)).length }:=
  GZ (s':={ s2 with heap:=h3,toks:=s2.toks+([]:List (Str×An)).length }) hNX hkX S I2 f2 hold (na3 hD hC) hsub hhas rfl rfl ⟨_,hns⟩ old fun p hp=>by
   have ep:=AJ.mp hp;subst ep;exact⟨accD,I2.hok.fresh (na4 hD),na2 hC,hfr,fun v z=>by cases z⟩
 have T0:tn 0 h3:=T.keep _ _ _ st2 fun b _ o q=>old b o q;have loop:∀z:AC,z={ s2 with heap:=h3,toks:=s2.toks+([]:List (Str×An)).length } ->
   FK (A0 X.prog X.w) X.A (.compLoop (.ListComp elt [⟨tg,iter,ifs,0⟩] scope pos) 0 (.ref it) (.ref D) (Gc scope cl C X.env))
    (compPost (A0 X.prog X.w) X.A X.xe (some fun v=>assignAll v [ES (.Name x pos') X.env]) QQ (.ref D) C) z:=by
  rintro z rfl;have stat:∀{H':Hp}{pl:List (Addr×Obj)},(∀b∈fp,H' b=none)->(∀p∈pl,p.1=D)->∀b∈fp,sU (bQ X N scope cl C s2 H2 fp) pl H' b:=fun hn hp b hb=>by
   have hb2:=hold b hb;refine⟨hn b hb,na1 hb2 hD hC,(GX hkX S I2 f2 hold (na3 hD hC) hsub hhas).exfs b hb,.inl hb,fun x c q=>(f2 b hb).2.2.2.2.1 x c (hsub x c q),fun p hpp=>?_⟩;have hpD:=hp p (by simpa [bQ] using hpp);rw[hpD];exact(na0 hb2 hD).symm
  refine DX (env:=Gc scope cl C X.env) (fun n z=>∃i acc τ H' its k,Inv (bQ X N scope cl C s2 H2 fp) [(D,{ cls:=.type "list",data:=.seq (GN its) k })] τ H' z/\tn i z.heap/\(∀b∈fp,H' b=none)/\Vals acc its/\acc.length<=AK/\W i n acc τ H')
   ?_ m0 ⟨0,[],_,H2,[],0,I0,T0,fun b hb=>(f2 b hb).1,.nil,ET _,w0⟩
  rintro n s5 ⟨i,acc,τ,H5,its,k,I5,st5,fr5,va,hz,w5⟩;rcases turn i n acc τ H5 w5 with⟨stop,qn⟩|⟨go,hz2,N9,hN9,step⟩
  ·refine thn (T.done (bQ X N scope cl C s2 H2 fp) rfl rfl rfl hc i _ s5 τ H5 _ I5 (stat fr5 (by simp)) st5 stop) fun r s6 ⟨hr,I6⟩=>?_;subst hr;obtain⟨m6,hn6,_⟩:=I6.loc;obtain⟨dD,nD,_,_,_⟩:=I6.pin (D,_) (Bi _ (AJ.mpr rfl));have U:=I6.base;have nC:H5 C=none:=I6.free;have ne:∀b o,s2.heap.get? b=some o->b≠C/\b≠D:=fun b o q=>by
    exact⟨na1 (A3 q) hD hC,na0 (A3 q) hD⟩
   have key:∀h',B7 C s6.heap h'->Inv X pins σ (upd H5 D (.lst acc)) { s6 with heap:=h' }:=fun h' sb=>by
    have keepC:∀b o,b≠C->s6.heap.get? b=some o->h'.get? b=some o:=fun b o hb q=>(sb.2 b hb).trans q;have U':Un (frs X.stack) fp H2 (upd H5 D (.lst acc)) s2.heap h':=by
     refine⟨fun b o q n1 hb hx=>keepC b o (ne b o q).1 (U.keep b o q n1 hb hx),fun b o q n1 hb hx=>?_,fun b o q n1 hx=>?_,fun b o q hx=>?_,fun b xs q=>?_,fun b o xs q=>?_,fun b ps q=>?_⟩
     ·obtain⟨sl,z⟩:=U.slot b o q n1 hb hx;exact⟨sl,keepC b _ (ne b o q).1 z⟩
     ·rw[aM (ne b o q).2];exact U.free b o q n1 hx
     ·obtain⟨o',z⟩:=U.there b o q hx;exact⟨o',keepC b _ (ne b o q).1 z⟩
     ·have z:=U.tups b xs q;rw[aM (aF z nD)];exact z
     ·have z:=U.frzs b o xs q;rw[aM (aF z nD)];exact z
     obtain⟨more,z⟩:=U.tbls b ps q;exact⟨more,by rw[aM (aF z nD)];exact z⟩
    have hok:HOk X.prog X.w (upd H5 D (.lst acc)) h':=fun b u q=>by
     by_cases hb:b=D
     ·subst hb;rw[aB] at q;cases q;exact⟨hz,its,k,va,keepC _ _ (na2 hC) dD⟩
     rw[aM hb] at q;refine(I6.hok b u q).stay (fun c v hcc z=>keepC c v ?_ z) (fun c z=>by rw[aM (aF z nD)];exact z) fun c xs z=>by rw[aM (aF z nD)];exact z
     rcases hcc with z1|z1
     ·subst z1;exact aF q nC
     exact aF z1 nC
    have I7:Inv X pins σ (upd H5 D (.lst acc)) { s6 with heap:=h' }:=I2.call' (s':={ s6 with heap:=h' }) (ch:=fp) I6.os U' hok I6.bare fun b hb=>by
     obtain⟨_,a2,_,a4,a5,a6⟩:=f2 b hb;exact⟨a4,a2,a5,a6⟩
    exact I7
   have I7:Inv X pins σ (upd H5 D (.lst acc)) s6:=key s6.heap (B7.refl _ _);have lC:X.env.locals≠C:=na1 I2.lt hD hC;have cC:∀y c,X.env.cells.lookup y=some c->c≠C:=fun y c z=>by
    obtain⟨_,o,h1,_⟩:=I2.cell y c z;exact na1 (A3 h1) hD hC
   show AM _ _ (ES (.Name x pos') X.env (.ref D)) _ _ s6;refine wpAny_assign_Name (vO (v:=.ref D) I7 hNd hn.hN hn.hv rfl (fun s7 I8 ⟨a,sa,ha⟩=>?_) hf);have aC:a≠C:=by
    rcases ha with rfl|ha
    ·exact lC
    exact cC _ _ ha
   obtain⟨o6,es6,ep6,g1,g2,g3,g4⟩:=hn6;refine⟨m6,⟨o6,es6,ep6,(sa.2 C (B6 aC)).trans g1,g2,g3,g4⟩,fun h' sb=>?_⟩;have q9:=qn D nD;rw[<- hQ] at q9;refine⟨_,_,I8.turned (it:=C) (t':=s7.toks) (fun b o hb q=>(sb.2 b hb).trans q) ?_ (B6 lC) (.inr (BB I2.sz (na3 hD hC))) cC (fun p hp=>?_),q9⟩
   ·rw[aM (B6 (na2 hC))];exact nC
   obtain⟨h1,_⟩:=I2.pin p hp;exact na1 (A3 h1) hD hC
  refine thn (T.item (bQ X N scope cl C s2 H2 fp) rfl rfl rfl hc i _ s5 τ H5 _ I5 (stat fr5 (by simp)) st5 go) fun r s6 ⟨u,hr,h6⟩=>?_;subst hr;refine thn h6 fun _ s7 ⟨x,H7,I7,r7,y7,st7,fr7⟩=>?_;have I7':=I7.pinned (stat fr7 (by simp)) (T.obj _ _ st7);have no:∀{α:Type}{t:Sem α}{Q1 Q2:α->AC->Prop}{E:An->AC->Prop}{z:AC},AM (A0 X.prog X.w) X.A t Q1 (fun _ _=>False) z->(∀a z,Q1 a z->Q2 a z)->AM (A0 X.prog X.w) X.A t Q2 E z:=
   fun q f=>B5 q f fun _ _ z=>z.elim
  refine no (hg cl C s2 H2 fp _ s7 τ H7 x u _ I7' r7 (step x H7 y7)) fun _ s8 ⟨τ1,H8,I8,q8⟩=>?_;refine no (ht cl C s2 H2 fp _ s8 τ1 H8 _ I8 q8) fun ok s9 ⟨H9,I9,q9⟩=>?_;have IA:∀{H':Hp}{z:AC}{its':List An}{k':Nat},Inv (bQ X N scope cl C s2 H2 fp) ([(D,{ cls:=.type "list",data:=.seq (GN its') k' })]++jE fp s7.heap) τ1 H' z ->
    tn (i+1) z.heap/\(∀b∈fp,H' b=none)/\Inv (bQ X N scope cl C s2 H2 fp) [(D,{ cls:=.type "list",data:=.seq (GN its') k' })] τ1 H' z:=fun {H' z its' k'} Iz=>by
   have get:∀b∈fp,∀o,s7.heap.get? b=some o->z.heap.get? b=some o/\H' b=none:=fun b hb o q=>by
    obtain⟨a1,a2,_⟩:=Iz.pin (b,o) (Bi _ (Bi _ (lM hb q)));exact⟨a1,a2⟩
   refine⟨T.keep _ _ _ st7 fun b hb o q=>(get b hb o q).1,fun b hb=>?_,Iz.mY⟩;obtain⟨o,q,_⟩:=T.obj _ _ st7 b hb;exact(get b hb o q).2
  cases ok with
  | false=>
   rw[if_neg A4] at q9 |-;obtain⟨m',hm,w9⟩:=hN9 _ _ _ q9;obtain⟨a1,a2,a3⟩:=IA I9;exact⟨m',hm,i+1,acc,τ1,H9,its,k,a3,a1,a2,va,hz,w9⟩
  | true=>
   rw[if_pos rfl] at q9 |-;refine no (he cl C s2 H2 fp _ s9 τ1 H9 _ I9 q9) fun y s10 ⟨v,H10,I10,rv,q10⟩=>?_;obtain⟨m',hm,w10⟩:=hN9 _ _ _ q10;obtain⟨a1,a2,a3⟩:=IA I10;obtain⟨dD,nD,_,_,_⟩:=a3.pin (D,_) (Bi _ (AJ.mpr rfl));have hlen:=va.length;refine Fm F.slot_list_append ⟨_,dD,rfl⟩ IY (IE _ _) (PySem.list_append D its.toArray k y (by rw[AN];omega)) ⟨dD,?_⟩;obtain⟨k',q⟩:∃k',(s10.heap.update D (Db fun a=>a.push y)).get? D=some { cls:=.type "list",data:=.seq (its++[y]).toArray k' }:=by
    have q:=PySem.IsL.update dD (fun a=>a.push y);rw[show its.toArray.push y=(its++[y]).toArray by simp] at q;exact⟨_,q⟩
   have a4:Inv (bQ X N scope cl C s2 H2 fp) (jE fp s7.heap) τ1 H10 s10:=I10.mz fun p hp=>I10.pin p (Bi _ (Bi _ hp));have a5:Inv (bQ X N scope cl C s2 H2 fp) (jE fp s7.heap) τ1 H10 { s10 with heap:=s10.heap.update D (Db fun a=>a.push y),toks:=s10.toks }:=
    a4.turned (it:=D) (fun b o hb z=>(C4 _ _ (B6 hb)).trans z) nD (na2 hC) (.inr (na4 hD))
     (fun x c z=>by
      obtain⟨_,o,h1,_⟩:=I2.cell x c (hsub x c z);exact na0 (A3 h1) hD) fun p hp=>by
      have hb:=(rD (by simpa [bQ] using hp)).1;exact na0 (hold _ hb) hD
   obtain⟨b1,b2,b3⟩:=(show tn (i+1) (s10.heap.update D (Db fun a=>a.push y))/\(∀b∈fp,H10 b=none)/\True from
    ⟨T.keep _ _ _ a1 fun b hb o z=>(C4 _ _ (na0 (hold b hb) hD).symm).trans z,a2,trivial⟩)
   refine⟨m',hm,i+1,acc++[v],τ1,H10,its++[y],k',a5.mz fun p hp=>?_,b1,b2,va.append (.cons rv .nil),by rw[AI,BE];omega,w10⟩;have ep:=AJ.mp hp;subst ep;exact⟨q,nD,na2 hC,hfr,fun v z=>by cases z⟩
 have e1:{ newEnv scope C X.env.globals cl X.env.qual none .none (some X.env) X.env.builtins with scope:=relabel scope X.env }=Gc scope cl C X.env:=rfl;exact codeAny_compStart_list (loop _ rfl) (T.self _ 0 _ _ _ T0 (loop _ rfl))
theorem X5 {tg iter elt:Expr}{ifs:List Expr}{pos pos' pos2:Pos}{wi:TI}{g:TG}{tc:TT}{te:TE}{i:Nat}{x:Str}(N:List Str)(mp:List (Option Nat))(hn:Nm X.N X.env.scope i x)(hNd:X.N.Nodup)(hNX:X.N=NX)(hkX:X.env.scope.names=kX)(S:xO NX kX N mp scope)(hc:X.calm=true)
  (hi:QI X tg iter wi) (hg:∀cl C s H fp,QG (bQ X N scope cl C s H fp) tg g) (ht:∀cl C s H fp,QC (bQ X N scope cl C s H fp) ifs tc) (he:∀cl C s H fp,QE (bQ X N scope cl C s H fp) elt te)
  (hf:X.fn x=true\/X.env.scope.names.lookup x=some .local:=by exact .inl rfl)
  (hsw:F6 [.Name x pos'] (.ListComp elt [⟨tg,iter,ifs,0⟩] scope pos) pos2.line X.env=pure true:=by rfl)
  (h1:(CU [.Name x pos'] X.env).map (·.2)=[ES (.Name x pos') X.env]:=by rfl)
  (hs:∀x,DD iter X.env x=pure x:=by intro _;rfl):QS X (.Assign [.Name x pos'] (.ListComp elt [⟨tg,iter,ifs,0⟩] scope pos) pos2) (uG (CZ mp wi g tc te) (j6 i)):=
 ⟨Yl N mp hn hNd hNX hkX S hc hi.h (fun cl C s H fp=>(hg cl C s H fp).h) (fun cl C s H fp=>(ht cl C s H fp).h) (fun cl C s H fp=>(he cl C s H fp).h) hf hsw h1 hs⟩
end
section
variable {mp:List (Option Nat)}{g:TG}{te:TE}{σ:St}{H:Hp}{Q:VK}{R:It->Hp->Prop}{K:Au}{a:Addr}{xs:List V}{ds:List AD}{ok:Addr->Prop}
theorem take_snoc {α:Type}{l:List α}{i:Nat}{x:α}(h:l[i]?=some x):l.take (i+1)=l.take i++[x]:=by
 rw[List.take_add_one,h];rfl
end
theorem Bd {p c:Addr}{H Hk:Hp}{B:Int}(s:aW p H Hk)(t:aP Hk p B)(h:Hk c=none):c≠p/\H c=none:=by
 have n:=t.ne h;refine⟨n,?_⟩;cases e:H c with
 | none=>rfl
 | some o=>rw[s _ _ n e] at h;cases h
theorem vX {p c:Addr}{H H':Hp}{o:HO}(s:aW p H H')(h:H c=none):aW p H (upd H' c o):=fun b u n e=>by
 rw[aM (aF e h)];exact s b u n e
theorem aP.upd {H:Hp}{p c:Addr}{B:Int}{o:HO}(t:aP H p B)(n:c≠p):aP (upd H c o) p B:=by
 obtain⟨a,b,c',e,r⟩:=t;exact⟨a,b,c',by rw[aM (B6 n)];exact e,r⟩
section
variable {ok:Addr->Prop}{σ:St}{H0 H:Hp}{ta tb te:TE}{tr:TA}{d e:AD}{ds es:List AD}{D:Ends}{i:Nat}
noncomputable def cutD (ds:List AD)(lo hi:Option Int):List AD:=(ds.drop (HT.sIx ds.length 0 lo)).take (HT.sIx ds.length ds.length hi-HT.sIx ds.length 0 lo)
theorem Ws {lo hi:Option Int}{x:AD}(h:x∈cutD ds lo hi):x∈ds:=GM (List.mem_of_mem_take h)
theorem qO (ds:List AD)(lo hi:Option Int):(cutD ds lo hi).length<=ds.length:=by
 unfold cutD;rw[DL,EW];omega
theorem jb {tl th:TO}{lo hi:Option Int}(n:cJ ok H0)(h:Gv ok te σ H0 (.list ds))(hl:∀(H:Hp)(Q:Option Int->Hp->Prop),Q lo H->tl σ H Q)(hh:∀(H:Hp)(Q:Option Int->Hp->Prop),Q hi H->th σ H Q):Gv ok (tSl T4 te tl th) σ H0 (.list (cutD ds lo hi)):=fun H s Q q=>
 h H s _ fun v H1 s1 t1=>by
  cases t1 with
  | lst o1 e1 z1 t1=>
   refine hl H1 _ (hh H1 _ ?_);rw[Ih,e1,Nf];intro p hp;refine q _ _ (s1.trans (aA hp)) (.lst (n H1 p (s.trans s1) hp) aB (BB (qN _ _ _) z1) ?_);exact(t1.cut lo hi).same (aA hp)
theorem WX (h:Gv ok te σ H d)(q:∀v H',Same H H'->aJ ok H' v d->D.nx (σ.set i (some v)) H'):uG te (j6 i) D σ H:=h H (Same.refl _) _ fun v H' s t=>q v H' s t
end
theorem gH.aad {k:Nat}{A:BA}(r:gH k A):A.units+200<FI:=by have:=r.un;omega
theorem aH.set {ok:Addr->Prop}{H:Hp}{x:V}{d:AD}(t:aJ ok H x d):∀{xs:List V}{ds:List AD}(j:Nat),aH ok H xs ds->aH ok H (xs.set j x) (ds.set j d)
 | _,_,_,.nil=>.nil
 | _,_,0,.cons _ r=>.cons t r
 | _,_,j+1,.cons h r=>.cons h (aH.set t j r)
theorem aH.last {ok:Addr->Prop}{H:Hp}{xs:List V}{ds:List AD}{d:AD}(t:aH ok H xs (ds++[d])):∃x,atI xs (-1)=some x/\aJ ok H x d:=by
 have hl:=t.length;rw[AI,BE] at hl;have h1:ds.length<xs.length:=ω;obtain⟨e,he,te⟩:=t.get (i:=ds.length) (v:=xs[ds.length]) (AF h1);rw[Cs (A9 _),IH] at he;cases he;refine⟨_,?_,te⟩;unfold atI ixN;rw[if_neg δ,if_pos ω];show xs[_]?=_;rw[show(-1+(xs.length:Int)).toNat=ds.length by omega];exact AF h1
theorem Zv {ok:Addr->Prop}{σ:St}{H0:Hp}{te:TE}{ds:List AD}{d:AD}(h:Gv ok te σ H0 (.list (ds++[d]))):Gv ok (tOp vY te (tUn (rU fun i=>V.int (-i)) (tC (V.int 1)))) σ H0 d:=fun H s Q q=>
 h H s _ fun v H1 s1 t1=>by
  cases t1 with
  | lst o1 e1 z1 t1=>
   obtain⟨x,hx,tx⟩:=t1.last;refine⟨1,rfl,?_⟩;show vY _ _ _ _;rw[zj,e1,Om];exact⟨x,hx,q _ _ s1 tx⟩
theorem wB {α:Type}(l:List α)(h:0<l.length):∃a b,l=a++[b]:=by
 induction l with
 | nil=>cases h
 | cons x r ih=>
  cases r with
  | nil=>exact⟨[],x,rfl⟩
  | cons y r=>
   obtain⟨a,b,e⟩:=ih (by simp);exact⟨x::a,b,by rw[e];rfl⟩
theorem yG {n:Nat}{i:Int}(h0:0<=i)(h:i<n):ixN n i=some i.toNat:=by
 unfold ixN;rw[if_pos h0,if_pos h]
theorem aP.newOk {H:Hp}{p:Addr}{B:Int}(t:aP H p B):cJ (·≠p) H:=by
 obtain⟨a,b,c,e,_⟩:=t;exact Vg e
theorem Rr (t:Addr) (items:Array An):Meets (AZ.«enumerate.__new__» { pos:=[An.type "enumerate",An.ref t] }) fun _ R s=>
  s.heap.IsTuple t items/\R (.ok (.ret (.ref (s.heap.objs.size+1)))) { s with heap:=(s.heap.push { cls:=.type "tuple_iterator",data:=.fields #[.ref t,.int 0 0] }).push { cls:=.type "enumerate",data:=.fields #[.none,.bool false,.ref s.heap.objs.size,C9 0,.none,.none] } }:=by
 refine Meets.of_wp fun prog w A R s h=>?_;obtain⟨ht,hR⟩:=h;unfold AZ.«enumerate.__new__» AZ.SmallTypes.newClass;refine Ap (Ap (AE (EM rfl (Ap (GG sub_enumerate (EM rfl (AE (wpAny_ite_true rfl (Ap ?_)))))))));unfold AZ.SmallTypes.calledThroughType;refine Ap (wpAny_stack_any fun st=>AE ?_);have fin:AM (A0 prog w) A.in1 (do
   let it <- pyIter (An.ref t)
   let r <- AZ.SmallTypes.newRecord (An.type "enumerate") (AZ.SmallTypes.ownedTupleFields++[it,C9 0,An.none,An.none])
   ret r) (fun fin s'=>∃v,fin=Fin.done (Flow.ret v)/\R (Except.ok (Flow.ret v)) s') (fun e s'=>R (Except.error e) s') s:=by
  refine Ap (EJ ht ?_);show AM _ _ (newObj (.type "enumerate") (.fields #[.none,.bool false,.ref s.heap.objs.size,C9 0,.none,.none]) >>= fun r=>ret r) _ _ _;refine Ap (BF ?_);refine AE ⟨_,rfl,?_⟩;have e:(s.heap.push { cls:=An.type "tuple_iterator",data:=CI #[An.ref t,An.int 0 0] }).objs.size=s.heap.objs.size+1:=CA ..;rw[e];exact hR
 dsimp only;split
 ·split
  ·exact Ap (AE fin)
  exact Ap (AE fin)
 split
 ·exact Ap (AE fin)
 exact Ap (AE fin)
theorem gM {prog:AU}{w:Be}{A:BA}{E:An->AC->Prop}{s:AC}{it t:Addr}{i:Nat}{items:Array An}{x:An}{Q:An->AC->Prop}(hit:s.heap.IsTupleIter it t i)(ht:s.heap.IsTuple t items)(hx:items[i]?=some x)
  (hQ:∀h',h'.IsTupleIter it t (i+1)->B7 it s.heap h'->Q x { s with heap:=h' }):AM (A0 prog w) A (AZ.SmallTypes.nextOf (An.ref it)) Q E s:=by
 obtain⟨o,ho,hc,hd⟩:=id hit;obtain⟨ol,hol,hcl,nl,hdl⟩:=ht;unfold AZ.SmallTypes.nextOf;refine Ap (Cb hit.typeIs E4 (Co E4 hit.typeIs F.entry_tuple_iterator_next ?_ (F.args_tuple_iterator_next_1 _)));refine Ap (AE (Ap (CY ho hd (i:=0) rfl ?_)));refine EM rfl (Ap (CY ho hd (i:=1) rfl ?_));refine Ap (C5 hol hdl ?_);show AM _ _ (match items[(i:Int).toNat]? with
  | some x=>(do FR (.ref it) 1 (C9 ((i:Int)+1));ret x)
  | none=>_) _ _ _
 rw[BO,hx];refine Ap (wpAny_setField ho hd (Ct 1) (AE ⟨x,rfl,AE (hQ _ ?_ ?_)⟩))
 ·refine⟨_,F0 _ ho (Obj.isFreed_of_fields (Obj.data_mapFields hd _)),(Obj.cls_mapFields o _).trans hc,?_⟩;rw[Obj.data_mapFields hd];rfl
 exact B7.update s.heap it _
theorem jG {prog:AU}{w:Be}{A:BA}{E:An->AC->Prop}{s:AC}{it t:Addr}{i:Nat}{items:Array An}{Q:An->AC->Prop}(hh:A.handled=none)(hit:s.heap.IsTupleIter it t i)(ht:s.heap.IsTuple t items)(hx:items[i]?=none)
  (hE:∀h' e,Heap.ExtBut it s.heap h'->(∃o,h'.get? e=some o/\o.cls=An.type "StopIteration")->E (.ref e) { s with heap:=h' }):AM (A0 prog w) A (AZ.SmallTypes.nextOf (An.ref it)) Q E s:=by
 obtain⟨o,ho,hc,hd⟩:=id hit;obtain⟨ol,hol,hcl,nl,hdl⟩:=ht;unfold AZ.SmallTypes.nextOf;refine Ap (Cb hit.typeIs E4 (Co E4 hit.typeIs F.entry_tuple_iterator_next ?_ (F.args_tuple_iterator_next_1 _)));refine Ap (AE (Ap (CY ho hd (i:=0) rfl ?_)));refine EM rfl (Ap (CY ho hd (i:=1) rfl ?_));refine Ap (C5 hol hdl ?_);show AM _ _ (match items[(i:Int).toNat]? with
  | some x=>_
  | none=>(do rule (toString "tuple_iterator.__next__" ++ toString ".end");FR (.ref it) 0 .none;AZ.SmallTypes.stopIteration)) _ _ _
 rw[BO,hx];refine Ap (F2 (Ap (wpAny_setField ho hd (FS 1) ?_)));unfold AZ.SmallTypes.stopIteration newExc;refine Ap (Ap (BF ?_));refine Ap (GG (a:=.none) rfl ?_);refine BF ?_;refine wpAny_raiseNew_none hh (hE _ _ ?_ ?_)
 ·exact fun b ob hb e=>AB _ (AB _ ((C4 _ _ (B6 hb)).trans e))
 exact⟨_,AY _ rfl,rfl⟩
theorem xK {prog:AU}{w:Be}{A:BA}(hh:A.handled=none)(it t:Addr)(hne:t≠it)(items:Array An):Draws prog w A it [it,t] items.size (fun i v=>items[i]?=some v) fun i h=>h.IsTupleIter it t i/\h.IsTuple t items where
 live:=fun _ _ st=>by
  obtain⟨⟨o,ho,_⟩,_⟩:=st;exact⟨o,ho⟩
 frame:=fun _ _ _ st hk=>by
  obtain⟨h1,⟨o,e,r⟩⟩:=st;exact⟨h1.at fun o e=>hk it (by simp) o e,o,hk t (by simp) o e,r⟩
 item:=fun i s Q E hi st hQ=>by
  have e:items[i]?=some items[i]:=by simp [hi]
  refine gM st.1 st.2 e fun h' h1 sb=>hQ _ _ s.toks e ⟨h1,?_⟩ sb;obtain⟨o,g,r⟩:=st.2;exact⟨o,(sb.2 t hne).trans g,r⟩
 done:=fun s Q E st hE=>jG hh st.1 st.2 (by simp) hE
noncomputable def Iet (K:Au)(a:Addr):It:=
 ⟨fun i H=>∃xs x,SqT K H a xs/\xs[i]?=some x,
  fun i H v H'=>∃p x,v=.ref p/\H p=none/\H'=upd H p (.tup [.int (i:Nat),x])/\∀xs,SqT K H a xs->xs[i]?=some x,
  fun i H=>∃xs,SqT K H a xs/\xs.length=i⟩
theorem Kf {P:AU}{w:Be}{K:Au}{es:List Expr}{kk:Nat}{tpos:Pos}{e it l:Addr}(hne:e≠it) :
  Turn P w K (.Tuple es kk tpos) (Iet K l) [e,it] e (fun i h=>(∃old,IsEnum h e it ((i:Nat):Int) old)/\h.IsTupleIter it l i) where
 mem:=by simp
 obj:=fun i h st b hb=>by
  obtain⟨⟨old,he⟩,⟨o1,e1,c1,d1⟩⟩:=st;simp only[AX,Bz,or_false] at hb;rcases hb with rfl|rfl
  ·exact⟨_,he,fun v q=>by cases q⟩
  exact⟨o1,e1,fun v q=>by rw[d1] at q;cases q⟩
 keep:=fun i h h' st k=>by
  obtain⟨⟨old,he⟩,h1⟩:=st;exact⟨⟨old,k e (by simp) _ he⟩,h1.at fun o q=>k it (by simp) o q⟩
 item:=by
  intro X hP hw hK hc i pins s σ H E I hf st hg;subst hP hw hK;obtain⟨xs,x,q1,hx⟩:=hg;obtain⟨its1,rv1,p1,hz1⟩:=I.tuple q1;obtain⟨u1,hu1,ru1⟩:=rv1.get hx;obtain⟨⟨old,he⟩,h1⟩:=st;have hel:e≠l:=fun z=>by
   obtain⟨ol,g1,g2,_⟩:=p1;rw[<- z,he] at g1;cases g1;injection g2 with g2;exact absurd g2 δ
  have hil:l≠it:=fun z=>by
   obtain⟨ol,g1,g2,_⟩:=p1;obtain⟨oi,g3,g4,_⟩:=h1;rw[z,g3] at g1;cases g1;rw[g4] at g2;injection g2 with g2;exact absurd g2 δ
  have hsz1:i<its1.toArray.size:=by
   obtain⟨z,_⟩:=AR.mp hu1;simpa using z
  refine wpAny_pyNext_enum_itemD (xK (A:=X.A.in1) (I.ok.hd hc) it l hil its1.toArray) he ⟨h1,p1⟩ hsz1 hne (by simp [hne,hel]) fun x1 h' tk hP a1 a2 a3 a4 hk=>?_;have ex:x1=u1:=by
   have hP':its1[i]?=some x1:=by simpa using hP
   rw[hu1] at hP';exact(A7 hP').symm
  subst ex;obtain⟨a2,_⟩:=a2;have new:cI X.prog X.w (upd H s.heap.objs.size (.tup [.int (i:Nat),x])) h' s.heap.objs.size (.tup [.int (i:Nat),x]):=⟨by show 2<=AK;decide,[.int (i:Nat) tk,x1],.cons ⟨_,rfl⟩ (.cons ru1 .nil),_,a3,rfl,_,rfl⟩;have I1:Inv X pins σ (upd H s.heap.objs.size (.tup [.int (i:Nat),x])) { s with heap:=h',toks:=tk+1 }:=I.Sy (ch:=[e,it]) hf
   (fun b o hb q=>hk b o (fun z=>hb (by simp [z])) (fun z=>hb (by simp [z])) q) (A9 _) new
  have hsz:∀b,b∈[e,it]->b≠s.heap.objs.size:=fun b hb=>by
   have lt:∃o,s.heap.get? b=some o:=by
    simp only[AX,Bz,or_false] at hb;rcases hb with rfl|rfl
    ·exact⟨_,he⟩
    obtain⟨o,q,_⟩:=h1;exact⟨o,q⟩
   obtain⟨o,q⟩:=lt;exact BG (A3 q)
  refine⟨_,rfl,wpAny_letOwnedTupleGo_enum (s:={ s with heap:=h',toks:=tk+1 }) a1 fun h'' z2 sb=>?_⟩;have fz:=hf e (by simp);have I2:Inv X pins σ (upd H s.heap.objs.size (.tup [.int (i:Nat),x])) { s with heap:=h'',toks:=tk+1 }:=Inv.turned (s:={ s with heap:=h',toks:=tk+1 }) (it:=e) I1 (fun b o hb q=>(sb.2 b hb).trans q) (by rw[aM (hsz e (by simp))];exact fz.1) fz.2.1 fz.2.2.2.1 fz.2.2.2.2.1 fz.2.2.2.2.2;refine⟨.ref s.heap.objs.size,_,I2,rfl,⟨_,x,rfl,I.fresh,rfl,fun xs' q=>by rw[I.qZ q q1];exact hx⟩,
   ⟨⟨_,by simpa using z2⟩,a2.extBut sb.extBut hne.symm⟩,fun b hb=>by rw[aM (hsz b hb)];exact(hf b hb).1⟩
 done:=by
  intro X hP hw hK hc i pins s σ H E I hf st hg;subst hP hw hK;obtain⟨xs,q1,hx⟩:=hg;obtain⟨its1,rv1,p1,hz1⟩:=I.tuple q1;obtain⟨⟨old,he⟩,h1⟩:=st;have hil:l≠it:=fun z=>by
   obtain⟨ol,g1,g2,_⟩:=p1;obtain⟨oi,g3,g4,_⟩:=h1;rw[z,g3] at g1;cases g1;rw[g4] at g2;injection g2 with g2;exact absurd g2 δ
  have hl1:=rv1.length;have hsi:its1.toArray.size=i:=by rw[AN];omega
  refine wpAny_pyNext_enum_endD (xK (A:=X.A.in1) (I.ok.hd hc) it l hil its1.toArray) he (by rw[hsi];exact⟨h1,p1⟩) fun h' hk=>⟨rfl,?_⟩;exact I.SJ (t':=s.toks) (ch:=[e,it]) hf (fun b o hb q=>hk b o (fun z=>hb (by simp [z])) q)
 self:=fun _ _ _ _ _ st h=>by
  obtain⟨⟨old,he⟩,_⟩:=st;exact Hd he h
noncomputable def ieq (K:Au)(ob:Option HO)(a:Addr)(H:Hp)(R:It->Hp->Prop):Prop:=match ob with
 | some (.lst _)=>R (Ite K a) H
 | some (.tup _)=>R (Iet K a) H
 | _=>False
noncomputable def ieK (K:Au)(vs:List V)(H:Hp)(R:It->Hp->Prop):Prop:=match vs with
 | [.ref a]=>ieq K (H a) a H R
 | _=>False
noncomputable def Ln (K:Au)(ta:TA):TI:=fun σ H R=>ta σ H fun vs H1=>ieK K vs H1 R
theorem DP (K:Au)(ta:TA)(σ:St)(H:Hp)(R:It->Hp->Prop):Ln K ta σ H R=ta σ H fun vs H1=>ieK K vs H1 R:=rfl
theorem Ot (K:Au)(a:Addr)(H:Hp)(R:It->Hp->Prop):ieK K [.ref a] H R=ieq K (H a) a H R:=rfl
theorem Zr (K:Au)(xs:List V)(a:Addr)(H:Hp)(R:It->Hp->Prop):ieq K (some (.lst xs)) a H R=R (Ite K a) H:=rfl
theorem Zq (K:Au)(xs:List V)(a:Addr)(H:Hp)(R:It->Hp->Prop):ieq K (some (.tup xs)) a H R=R (Iet K a) H:=rfl
section
variable {X:Cx}
theorem Ut {es:List Expr}{kk:Nat}{tpos:Pos}{a:Expr}{ta:TA}{p pos:Pos}(hg:Gl X "enumerate") (hm:X.mg "enumerate" = none) (ha:PA X [a] ta) (hs:AL [a] X.env=[(false,eval a X.env)]:=by rfl) :
  PI X (.Tuple es kk tpos) (.Call (.Name "enumerate" p) [a] [] pos) (Ln X.K ta):=by
 intro pins s σ H R I h;refine Call_ (oH I hg hm PyProof.Rows.Boot.«enumerate» (C1 (thA (ha pos pins s σ H _ I h) fun us s1 vs H1 I1 r1 q1=>?_) hs rfl));replace q1:ieK X.K vs H1 R:=q1;unfold ieK at q1;split at q1
 ·rename_i l1;cases r1 with
  | cons r rr=>
   cases rr;cases r;unfold ieq at q1;split at q1
   ·rename_i xs e;obtain⟨its1,rv1,p1,hz1⟩:=I1.list (SqL.of e);refine call_enumerate_list p1.isList fun h' b1 b2 b3 hk=>?_;refine Hd (s:={ s1 with heap:=h' }) b1 ?_;have I2:Inv X pins σ H1 { s1 with heap:=h' }:=I1.kept (t':=s1.toks) hk;refine⟨_,_,_,_,H1,rfl,I2,Pr (ne_of_gt (Ct _)),⟨⟨_,b1⟩,b2⟩,fun b hb=>?_,q1⟩;have hle:s1.heap.objs.size<=b:=by
     simp only[AX,Bz,or_false] at hb;rcases hb with rfl|rfl <;> simp
    exact I1.LK hle (I1.hok.fresh hle)
   ·rename_i xs e;obtain⟨its1,rv1,p1,hz1⟩:=I1.tuple (SqT.of e);refine callType_new F.called_enumerate δ (F.typeCall_enumerate_1 _) (F.newCall_enumerate_1 _) (fun obj=>F.args_object_init_2 obj _) F.entry_enumerate_new (Rr l1 its1.toArray) ⟨p1,?_⟩;have hz:(s1.heap.push { cls:=An.type "tuple_iterator",data:=CI #[An.ref l1,An.int 0 0] }).objs.size=s1.heap.objs.size+1:=CA ..;have b1:((s1.heap.push { cls:=An.type "tuple_iterator",data:=CI #[An.ref l1,An.int 0 0] }).push { cls:=An.type "enumerate",data:=CI #[An.none,An.bool false,An.ref s1.heap.objs.size,C9 0,An.none,An.none] }).get? (s1.heap.objs.size+1)=some { cls:=An.type "enumerate",data:=CI #[An.none,An.bool false,An.ref s1.heap.objs.size,C9 0,An.none,An.none] }:=by
     rw[<- hz];exact AY _ rfl
    have b2:((s1.heap.push { cls:=An.type "tuple_iterator",data:=CI #[An.ref l1,An.int 0 0] }).push { cls:=An.type "enumerate",data:=CI #[An.none,An.bool false,An.ref s1.heap.objs.size,C9 0,An.none,An.none] }).IsTupleIter s1.heap.objs.size l1 0:=
     ⟨_,AB _ (AY _ rfl),rfl,rfl⟩
    have hk:∀b o,s1.heap.get? b=some o->((s1.heap.push { cls:=An.type "tuple_iterator",data:=CI #[An.ref l1,An.int 0 0] }).push { cls:=An.type "enumerate",data:=CI #[An.none,An.bool false,An.ref s1.heap.objs.size,C9 0,An.none,An.none] }).get? b=some o:=fun b o z=>AB _ (AB _ z);refine⟨⟨_,b1,rfl⟩,?_⟩;generalize (s1.heap.push { cls:=An.type "tuple_iterator",data:=CI #[An.ref l1,An.int 0 0] }).push { cls:=An.type "enumerate",data:=CI #[An.none,An.bool false,An.ref s1.heap.objs.size,C9 0,An.none,An.none] }=h' at b1 b2 hk;refine Hd (s:={ s1 with heap:=h' }) b1 ?_;have I2:Inv X pins σ H1 { s1 with heap:=h' }:=I1.kept (t':=s1.toks) hk;refine⟨_,_,_,_,H1,rfl,I2,Kf (ne_of_gt (Ct _)),⟨⟨_,b1⟩,b2⟩,fun b hb=>?_,q1⟩;have hle:s1.heap.objs.size<=b:=by
     simp only[AX,Bz,or_false] at hb;rcases hb with rfl|rfl <;> simp
    exact I1.LK hle (I1.hok.fresh hle)
   exact q1.elim
 exact q1.elim
theorem Ul {es:List Expr}{kk:Nat}{tpos:Pos}{a:Expr}{ta:TA}{p pos:Pos}(hg:Gl X "enumerate") (hm:X.mg "enumerate" = none) (ha:QA X [a] ta) (hs:AL [a] X.env=[(false,eval a X.env)]:=by rfl) :
  QI X (.Tuple es kk tpos) (.Call (.Name "enumerate" p) [a] [] pos) (Ln X.K ta):=⟨Ut hg hm ha.h hs⟩
end
theorem LQ {J:It}{g:TG}{tb:TS}{D:Ends}{σ:St}{H:Hp}{R:It->Hp->Prop}(hR:R=(fun J H1=>∃W:Nat->Nat->St->Hp->Prop,(∃m,W 0 m σ H1)/\∀i m σ H,W i m σ H ->
  (J.stop i H/\D.nx σ H)\/(J.go i H/\∃N:St->Hp->Prop,(∀σ' H',N σ' H'->∃m',m'<m/\W (i+1) m' σ' H')/\∀x H',J.yld i H x H'->g x σ H' fun σ2 H2=>tb { D with nx:=N,ct:=N,bk:=D.nx } σ2 H2)))
  (n:Nat) (Pv:Nat->St->Hp->Prop) (h0:Pv 0 σ H) (hgo:∀i σ H,i<n->Pv i σ H->J.go i H) (hst:∀σ H,Pv n σ H->J.stop n H)
  (hs:∀i σ H x H3,i<n->Pv i σ H->J.yld i H x H3->g x σ H3 fun σ2 H2=>tb { D with nx:=Pv (i+1),ct:=Pv (i+1),bk:=D.nx } σ2 H2) (hd:∀σ H,Pv n σ H->D.nx σ H):R J H:=by
 subst hR;refine⟨fun i m σ H2=>m=n-i/\i<=n/\Pv i σ H2,⟨_,rfl,ET _,h0⟩,?_⟩;rintro i m σ H2 ⟨rfl,hi,p⟩;by_cases hlt:i<n
 ·exact .inr ⟨hgo i σ H2 hlt p,Pv (i+1),fun σ' H' q=>⟨_,ω,rfl,hlt,q⟩,fun x H3 y=>hs i σ H2 x H3 hlt p y⟩
 have e:i=n:=ω;subst e;exact .inl ⟨hst σ H2 p,hd σ H2 p⟩
section
variable {X:Cx}{e o:Expr}{te to:TE}{pos:Pos}
noncomputable def exq (ob oc:Option HO)(l:Addr)(H:Hp)(Q:VK):Prop:=match ob,oc with
 | some (.lst xs),some (.lst zs)=>xs.length+zs.length<=AK/\Q .non (upd H l (.lst (xs++zs)))
 | _,_=>False
noncomputable def Rq (l:Addr)(y:V)(H:Hp)(Q:VK):Prop:=match y with
 | .ref b=>exq (H l) (H b) l H Q
 | _=>False
noncomputable def exK (x:V)(te:TE)(σ:St)(H1:Hp)(Q:VK):Prop:=match x with
 | .ref l=>isq (H1 l)/\te σ H1 fun y H2=>Rq l y H2 Q
 | _=>False
noncomputable def S6 (to te:TE):TE:=fun σ H Q=>to σ H fun x H1=>exK x te σ H1 Q
theorem yQ (to te:TE)(σ:St)(H:Hp)(Q:VK):S6 to te σ H Q=to σ H fun x H1=>exK x te σ H1 Q:=rfl
theorem GQ (l:Addr)(te:TE)(σ:St)(H1:Hp)(Q:VK):exK (.ref l) te σ H1 Q=(isq (H1 l)/\te σ H1 fun y H2=>Rq l y H2 Q):=rfl
theorem Bf (l b:Addr)(H:Hp)(Q:VK):Rq l (.ref b) H Q=exq (H l) (H b) l H Q:=rfl
theorem Ma (xs zs:List V)(l:Addr)(H:Hp)(Q:VK):exq (some (.lst xs)) (some (.lst zs)) l H Q=(xs.length+zs.length<=AK/\Q .non (upd H l (.lst (xs++zs)))):=rfl
theorem YB {apos cpos:Pos}(ho:PE X o to)(he:PE X e te)
  (hbase:DS o "extend" X.env (eval o X.env)=eval o X.env:=by rfl)
  (hfew:((CB cpos (AL [e] X.env)).all (fun x=>!x.1)&&(HG cpos (FB [] X.env)).all (fun x=>x.1.isSome)
   && decide ([e].length+([]:List EV).length+(if ([]:List EV).isEmpty then 0 else 1)<30))=true:=by rfl)
  (hline:(apos.endLine == cpos.line)=true:=by rfl) (hs:AL [e] X.env=(false,eval e X.env)::AL [] X.env:=by rfl) (hplain:(CB cpos (AL [] X.env)).any (·.1)=false:=by rfl) :
  PE X (.Call (.Attribute o "extend" apos) [e] [] cpos) (S6 to te):=by
 intro pins s σ H Q I h;refine FO hbase hfew hline rfl (thE (ho pins s σ H _ I h) fun v s1 x H1 I1 r1 q=>?_);cases x with
 | ref l=>
  obtain⟨q1,q2⟩:=q;cases el:H1 l with
  | none=>rw[el] at q1;exact q1.elim
  | some ob=>
   cases ob with
   | lst xs=>
    obtain⟨h1,h2⟩:=yO (T := "list") I1 r1 (.inl ⟨rfl,xs,SqL.of el⟩);refine⟨"list","list.extend",FC,PySem.F.slot_list_extend,PySem.F.type_list_extend,h1,h2,?_⟩;rw[hs];refine DI (by show(false||(CB cpos (AL [] X.env)).any (·.1))=false;rw[hplain] <;> rfl) (E3 ?_)
    refine DU (thE (he pins s1 σ H1 _ I1 q2) fun u s2 y H2 I2 r2 q3=>D4 ?_);replace q3:Rq l y H2 Q:=q3;unfold Rq at q3;split at q3
    ·rename_i b;unfold exq at q3;split at q3
     ·rename_i ys zs e1 e2;exact QJ pins s2 σ H2 (.ref l) [.ref b] v [u] Q I2 r1 (.cons r2 .nil) ⟨l,b,ys,zs,rfl,rfl,e1,e2,q3.1,q3.2⟩
     exact q3.elim
    exact q3.elim
   | _=>rw[el] at q1;exact q1.elim
 | _=>exact q.elim
theorem Ny {apos cpos:Pos}(ho:QE X o to)(he:QE X e te)
  (hbase:DS o "extend" X.env (eval o X.env)=eval o X.env:=by rfl)
  (hfew:((CB cpos (AL [e] X.env)).all (fun x=>!x.1)&&(HG cpos (FB [] X.env)).all (fun x=>x.1.isSome)
   && decide ([e].length+([]:List EV).length+(if ([]:List EV).isEmpty then 0 else 1)<30))=true:=by rfl)
  (hline:(apos.endLine == cpos.line)=true:=by rfl) (hs:AL [e] X.env=(false,eval e X.env)::AL [] X.env:=by rfl) (hplain:(CB cpos (AL [] X.env)).any (·.1)=false:=by rfl) :
  QE X (.Call (.Attribute o "extend" apos) [e] [] cpos) (S6 to te):=⟨YB ho.h he.h hbase hfew hline hs hplain⟩
theorem Im:∀(l:List An),(EG l.length).filterMap (fun k=>l[k]?)=l
 | []=>rfl
 | x::l=>by
  rw[BN,List.range_succ_eq_map,FG];show x::((EG l.length).map Nat.succ).filterMap _=_;rw[filterMap_map];congr 1;exact Im l
theorem Jv {α β:Type}{f g:α->Option β}:∀{l:List α},(∀x∈l,f x=g x)->l.filterMap f=l.filterMap g
 | [],_=>rfl
 | x::l,h=>by
  rw[FG,FG,h x A6,Jv fun y hy=>h y (BI _ hy)]
theorem Bu (its:List An):slicePick its.toArray none none (some (-1))=its.reverse.toArray:=by
 unfold slicePick Fu sliceRange;simp only[Option.getD_some,AN,show ¬((-1:Int)>0) by decide,if_false];congr 1;have key:(if ((its.length:Int)-1) > -1 then ((its.length:Int)-1 - -1 - -1-1)/(- -1) else 0).toNat=its.length:=by
  rw[show(- -1:Int)=1 from rfl,Int.ediv_one];split <;> omega
 rw[key,filterMap_map];rw[<- Im its.reverse,II];refine Jv fun k hk=>?_;have hk':=HA.mp hk;show its.toArray[((its.length:Int)-1 + -1*(k:Int)).toNat]?=its.reverse[k]?;rw[List.getElem?_reverse hk',show((its.length:Int)-1 + -1*(k:Int)).toNat=its.length-1-k by omega];simp
noncomputable def rvq (ob:Option HO)(H:Hp)(Q:VK):Prop:=match ob with
 | some (.lst xs)=>∀p,H p=none->Q (.ref p) (upd H p (.lst xs.reverse))
 | _=>False
noncomputable def rvK (x:V)(H:Hp)(Q:VK):Prop:=match x with
 | .ref p=>rvq (H p) H Q
 | _=>False
noncomputable def aay (te:TE):TE:=fun σ H Q=>te σ H fun x H1=>rvK x H1 Q
theorem Xv (p:Addr)(H:Hp)(Q:VK):rvK (.ref p) H Q=rvq (H p) H Q:=rfl
theorem Xu (xs:List V)(H:Hp)(Q:VK):rvq (some (.lst xs)) H Q=∀p,H p=none->Q (.ref p) (upd H p (.lst xs.reverse)):=rfl
theorem abd {p2 p3 p4:Pos}{j}(he:PE X e te)(hlt:∀o r,letTemporaryGo e o r=pure ():=by intro _ _;rfl):PE X (.Subscript e (.Slice none none (some (.UnaryOp .USub (.Constant (.int 1) j p3) p4)) p2) pos) (aay te):=by
 intro pins s σ H Q I h;refine wpAny_Subscript_Slice_step (T := "list") slot_list_getitem.lookup (thE (he pins s σ H _ I h) fun v s1 x H1 I1 r1 q1=>?_) hlt;replace q1:rvK x H1 Q:=q1;unfold rvK at q1;split at q1
 ·rename_i p;unfold rvq at q1;split at q1
  ·rename_i xs e1;cases r1;refine wpAny_Slice ?_;rw[evalPart_none];refine AE ?_;refine AE ?_;refine thn (Nz (aai pW Uy) pins s1 σ H1 (fun o H'=>o=some (-1)/\H'=H1) I1 ⟨_,rfl,_,rfl,rfl,rfl⟩) fun vs s3 ⟨o3,H3,I3,pu,e3,e4⟩=>?_;subst e3;subst e4;have I4:Inv X pins σ H3 { s3 with heap:=s3.heap.push { cls:=.type "slice",data:=.fields #[.none,.none,vs] } }:=I3.kept (t':=s3.toks) fun b ob q=>AB _ q;obtain⟨its,r,ht,hz⟩:=I4.list (SqL.of e1);have hlen:=r.length;refine⟨ht.isList.typeIs,?_⟩;refine wpAny_getItem_list_slice ht.isList (Heap.IsSliceOf.new ..) .none .none pu δ ?_ (by rw[AN] <;> omega)
   rw[Bu];refine⟨.ref _,_,I4.laid (t':=s3.toks) (o:=.lst xs.reverse) (fun b ob q=>AB _ q) (A9 _) ?_,rfl,q1 _ (I4.hok.fresh (A9 _))⟩;exact⟨by rw[II];exact hz,_,0,r.reverse,AY _ rfl⟩
  exact q1.elim
 exact q1.elim
theorem aaV {p2 p3 p4:Pos}{j}(he:QE X e te)(hlt:∀o r,letTemporaryGo e o r=pure ():=by intro _ _;rfl):QE X (.Subscript e (.Slice none none (some (.UnaryOp .USub (.Constant (.int 1) j p3) p4)) p2) pos) (aay te):=⟨abd he.h hlt⟩
noncomputable def ac8:R2:=fun x y H Q=>∃p q xs ys,x=.ref p/\y=.ref q/\H p=some (.tup xs)/\H q=some (.tup ys)/\xs.all DR=true/\ys=[]/\Q (.bl xs.isEmpty) H
theorem abp (hu:X.A.units<FI):OpR X (D0 .Eq) ac8:=by
 intro pins s σ H x y v u Q I rx ry h;obtain⟨p,q,xs,ys,rfl,rfl,e1,e2,f1,rfl,qq⟩:=h;cases rx;cases ry;obtain⟨its1,r1,pl1,hz1⟩:=I.tuple (SqT.of e1);obtain⟨its2,r2,pl2,hz2⟩:=I.tuple (SqT.of e2);cases r2;refine SeqAt.RcAt.tuples (e:=fun _=>true) pl1 pl2 hu (fun j h1 h2=>absurd h2 (Nat.not_lt_zero _)) X.prog X.w X.xe (EP X pins σ Q) ?_;have hl:=r1.length;refine⟨.bl xs.isEmpty,H,I,?_,qq⟩;show An.bool _=An.bool _;congr 1;rw[AN,AN];cases xs with
 | nil=>
  cases r1;rfl
 | cons a b=>
  cases r1;rfl
theorem WT (o a b:Expr)(p pos:Pos)(env:Env)(v:An):ES (.Subscript o (.Subscript a b p) pos) env v=(do
   let ov <- Fc [v] (eval o env)
   let iv <- Fc [v,ov] (eval (.Subscript a b p) env)
   standAt pos
   Fc [v,ov,iv] (setItem ov iv v)
   release [v,ov,iv] []):=rfl
theorem X8 {a b:Expr}{ti:TE}{p:Pos}{t:W2}(ho:QE X o to)(hi:QE X (.Subscript a b p) ti)(hs:W5 X t):QG X (.Subscript o (.Subscript a b p) pos) (Zz to ti t):=⟨Uv ho.h hi.h hs (fun v=>WT o a b p pos X.env v)⟩
end
mutual
noncomputable def szD (a:Nat):AD->Prop
 | .none=>True
 | .bool _=>True
 | .int i=>i.natAbs<=10^20*2^a
 | .str x=>x.length<=30+a/\∀c∈x.cps.toList,c<16^8
 | .list ds=>ds.length<=210*5^a/\pA a ds
 | .tuple ds=>ds.length<=210*5^a/\pA a ds
 | .dict _=>False
noncomputable def pA (a:Nat):List AD->Prop
 | []=>True
 | d::ds=>szD a d/\pA a ds
end
theorem iy {a:Nat}:∀{ds:List AD},pA a ds ↔ ∀d∈ds,szD a d
 | []=>⟨fun _ d h=>(nomatch h),fun _=>trivial⟩
 | x::ds=>by
  show szD a x/\pA a ds↔_;rw[iy (ds:=ds)];constructor
  ·intro⟨h1,h2⟩ d hd;rcases AX.mp hd with rfl|z
   ·exact h1
   exact h2 d z
  intro h;exact⟨h x A6,fun d hd=>h d (BI _ hd)⟩
theorem Fx (a:Nat):210*5^a<=210*5^(a+1):=by rw[pow_succ];omega
mutual
theorem tM {a:Nat}:∀{d:AD},szD a d->szD (a+1) d
 | .none,_=>trivial
 | .bool _,_=>trivial
 | .int i,h=>by
  have h':i.natAbs<=10^20*2^a:=h;show i.natAbs<=10^20*2^(a+1);rw[pow_succ];omega
 | .str x,h=>⟨by have:=h.1;omega,h.2⟩
 | .list ds,h=>⟨BB h.1 (Fx a),yS h.2⟩
 | .tuple ds,h=>⟨BB h.1 (Fx a),yS h.2⟩
 | .dict _,h=>h.elim
theorem yS {a:Nat}:∀{ds:List AD},pA a ds->pA (a+1) ds
 | [],_=>trivial
 | d::ds,h=>⟨tM h.1,yS h.2⟩
end
mutual
theorem yX:∀(d:AD),szD 2 d->d.shown.length+2<=400*nodes d
 | .none,_=>by decide
 | .bool b,_=>by cases b <;> decide
 | .int i,h=>by
  have h':i.natAbs<=10^20*2^2:=h;have:=Zn (i:=i) ω;show(D6 (toString i)).length+2<=400*1;omega
 | .str x,h=>by
  have h1:=StrLaws.reprText_len x h.2;have h2:=h.1;show(reprText x).length+2<=400*1;omega
 | .list ds,h=>by
  have h1:=mL ds h.2;have h2:=listText_len_le (AD.shownAll ds);rw[AD.shown.eq_5,nodes];omega
 | .tuple ds,h=>by
  have h1:=mL ds h.2;have h2:=tupleText_len_le (AD.shownAll ds);rw[AD.shown.eq_6,nodes];omega
 | .dict kvs,h=>h.elim
theorem mL:∀(ds:List AD),pA 2 ds->((AD.shownAll ds).map fun x=>x.length).sum+2*(AD.shownAll ds).length<=400*aK ds
 | [],_=>by simp [AD.shownAll,aK]
 | d::ds,h=>by
  have h1:=yX d h.1;have h2:=mL ds h.2;rw[AD.shownAll.eq_2,aK,DV,sum_cons,BN];omega
end
mutual
theorem MN:∀(d:AD),szD 2 d->d.showable=true/\d.hasDict=false
 | .none,_=>⟨rfl,rfl⟩
 | .bool b,_=>⟨rfl,rfl⟩
 | .int i,h=>by
  refine⟨?_,rfl⟩;have h':i.natAbs<=10^20*2^2:=h;show decide (i.natAbs.log2<1920)=true;refine decide_eq_true ?_;by_cases z:i.natAbs=0
  ·rw[z];decide
  have:=(log2_lt (k:=70) z).mpr ω;omega
 | .str x,_=>⟨rfl,rfl⟩
 | .list ds,h=>by
  obtain⟨h1,h2⟩:=tL ds h.2;exact⟨h1,h2⟩
 | .tuple ds,h=>by
  obtain⟨h1,h2⟩:=tL ds h.2;exact⟨h1,h2⟩
 | .dict kvs,h=>h.elim
theorem tL:∀(ds:List AD),pA 2 ds->AD.showableAll ds=true/\AD.hasDictAll ds=false
 | [],_=>⟨rfl,rfl⟩
 | d::ds,h=>by
  obtain⟨h1,h2⟩:=MN d h.1;obtain⟨h3,h4⟩:=tL ds h.2;refine⟨?_,?_⟩
  ·rw[AD.showableAll.eq_2,h1,h3];rfl
  rw[AD.hasDictAll.eq_2,h2,h4];rfl
end
structure Shw (d:AD):Prop where
 sh:d.showable=true
 nd:d.hasDict=false
 dp:d.depth<=100
 ln:d.shown.length<=AK
theorem aaH {d:AD}(h:szD 2 d)(hn:nodes d<=40000)(hd:d.depth<=100):Shw d:=by
 obtain⟨h1,h2⟩:=MN d h;have h3:=yX d h;have h4:16000000<=AK:=by decide
 exact⟨h1,h2,hd,ω⟩
noncomputable def aaO:List V->Hp->VK->Prop:=fun xs H Q=>∃v ok d,xs=[v]/\aJ ok H v d/\Shw d/\Q (.str d.shown) H
theorem Bk {X:Cx}(hg:X.A.guards=some []) (hu:X.A.units+200<FI):dN X (.builtin "repr") aaO:=by
 intro pins s σ H xs us Q I r h;obtain⟨v,ok,d,rfl,t,⟨sh,hd,hdp,hl⟩,q⟩:=h;obtain⟨u,rfl,rv⟩:=vals1 r;have nodict:∀as:List Addr,d.hasDict=true->¬DE∈as:=fun as z=>by rw[hd] at z;cases z
 cases t with
 | non=>cases rv;exact P.repr_of_none ⟨.str _,H,I.tok _,⟨_,rfl⟩,q⟩
 | bl b=>cases rv;exact P.repr_of_bool ⟨.str _,H,I.tok _,⟨_,rfl⟩,q⟩
 | int i=>
  obtain⟨t,rfl⟩:=rv;exact P.repr_of_int (of_decide_eq_true sh) ⟨.str _,H,I.tok _,⟨_,rfl⟩,q⟩
 | str x=>
  obtain⟨t,rfl⟩:=rv;exact P.repr_of_str ⟨.str _,H,I.tok _,⟨_,rfl⟩,q⟩ hl
 | lst o e z t=>
  obtain⟨as,rd⟩:=aJ.reads I (aJ.lst o e z t) rv;cases rv;exact repr_of_reads' rd sh (nodict as) hg ω (fun _ _ z=>z) (fun h' u tk k=>⟨.str _,H,I.kept k,⟨_,rfl⟩,q⟩) hl
 | tup o e z t=>
  obtain⟨as,rd⟩:=aJ.reads I (aJ.tup o e z t) rv;cases rv;exact repr_of_reads' rd sh (nodict as) hg ω (fun _ _ z=>z) (fun h' u tk k=>⟨.str _,H,I.kept k,⟨_,rfl⟩,q⟩) hl
noncomputable def okS (a:Nat)(x:Str):Prop:=x.length<=30+a/\∀c∈x.cps.toList,c<16^8
theorem tW (s:String)(a:Nat)(h:s.length<=30+a):okS a (D6 s):=by
 refine⟨by rw[PySem.ofString_length];exact h,?_⟩;rw[PySem.Str.ofString_eq_toList];intro c hc;obtain⟨ch,_,rfl⟩:=D9.mp (by simpa using hc);have:=ch.valid;have h2:ch.toNat<1114112:=by
  rcases ch.valid with z|⟨_,z⟩
  ·have:ch.val.toNat<55296:=z;show ch.val.toNat<_;omega
  exact z
 omega
noncomputable def valid:AD->List Nat->Prop
 | _,[]=>True
 | .list ds,i::r=>∃d,ds[i]?=some d/\valid d r
 | .tuple ds,i::r=>∃d,ds[i]?=some d/\valid d r
 | _,_::_=>False
structure wV (a:Nat)(d d':AD):Prop where
 sz:szD (a+1) d'
 nd:nodes d'<=4*nodes d+20
 dp:d'.depth<=d.depth+2
theorem Qv (d:AD):1<=nodes d:=by cases d <;> simp [nodes]
theorem b8:∀(a b:List AD),aK (a++b)=aK a+aK b
 | [],b=>by simp [aK]
 | x::a,b=>by rw[cons_append,aK,aK,b8 a b];omega
theorem jr {x:AD}:∀{ds:List AD},x∈ds->nodes x<=aK ds
 | y::ds,h=>by
  rw[aK];rcases AX.mp h with rfl|z
  ·omega
  have:=jr z;omega
theorem iU (n:Nat):∀(ds:List AD),aK (ds.take n)<=aK ds:=by
 intro ds;have h:ds=ds.take n++ds.drop n:=(List.take_append_drop n ds).symm;have:=b8 (ds.take n) (ds.drop n);rw[<- h] at this;omega
theorem BZ (n:Nat):∀(ds:List AD),aK (ds.drop n)<=aK ds:=by
 intro ds;have h:ds=ds.take n++ds.drop n:=(List.take_append_drop n ds).symm;have:=b8 (ds.take n) (ds.drop n);rw[<- h] at this;omega
theorem j9 (ds:List AD)(lo hi:Option Int):aK (cutD ds lo hi)<=aK ds:=BB (iU _ _) (BZ _ _)
theorem m7:∀(ds:List AD),aK ds.reverse=aK ds
 | []=>rfl
 | x::ds=>by rw[HV,b8,m7 ds,aK,aK,aK];omega
theorem dX {x:AD}:∀{ds:List AD},x∈ds->x.depth<=AD.depthAll ds
 | y::ds,h=>by
  rw[AD.depthAll.eq_2];rcases AX.mp h with rfl|z
  ·omega
  have:=dX z;omega
theorem mH {k:Nat}:∀{ds:List AD},(∀d∈ds,d.depth<=k)->AD.depthAll ds<=k
 | [],_=>ET _
 | x::ds,h=>by
  rw[AD.depthAll.eq_2];have h1:=h x A6;have h2:=mH fun d hd=>h d (BI _ hd);omega
theorem Fz {ds:List AD}{i:Nat}{d d':AD}(h:ds[i]?=some d):aK (ds.set i d')+nodes d=aK ds+nodes d':=by
 induction ds generalizing i with
 | nil=>cases h
 | cons x ds ih=>
  cases i with
  | zero=>cases h;rw[DA,aK,aK];omega
  | succ i=>rw[DB,aK,aK];have:=ih (i:=i) h;omega
theorem aH.reverse {ok:Addr->Prop}{H:Hp}:∀{vs:List V}{ds:List AD},aH ok H vs ds->aH ok H vs.reverse ds.reverse
 | _,_,.nil=>.nil
 | _,_,.cons h r=>by
  rw[HV,HV];exact r.reverse.append (.cons h .nil)
noncomputable def ctq (a b:Option HO)(pa:Addr)(H:Hp)(Q:VK):Prop:=match a,b with
 | some (.tup xs),some (.tup ys)=>xs≠[]/\xs.length+ys.length<=AK/\(ys=[]->Q (.ref pa) H)/\(ys≠[]->∀p,H p=none->Q (.ref p) (upd H p (.tup (xs++ys))))
 | _,_=>False
noncomputable def Uk:R2:=fun x y H Q=>match x,y with
 | .ref p,.ref q=>ctq (H p) (H q) p H Q
 | _,_=>False
theorem Fq (p q:Addr)(H:Hp)(Q:VK):Uk (.ref p) (.ref q) H Q=ctq (H p) (H q) p H Q:=rfl
theorem Mg (xs ys:List V)(pa:Addr)(H:Hp)(Q:VK):ctq (some (.tup xs)) (some (.tup ys)) pa H Q=(xs≠[]/\xs.length+ys.length<=AK/\(ys=[]->Q (.ref pa) H)/\(ys≠[]->∀p,H p=none->Q (.ref p) (upd H p (.tup (xs++ys))))):=rfl
theorem NQ {X:Cx}:OpR X (Da .Add) Uk:=by
 intro pins s σ H x y v u Q I rx ry h;unfold Uk at h;split at h
 ·rename_i p q;unfold ctq at h;split at h
  ·rename_i xs ys e1 e2;exact YM pins s σ H _ _ v u Q I rx ry ⟨p,q,xs,ys,rfl,rfl,SqT.of e1,SqT.of e2,h.1,h.2.1,h.2.2.1,h.2.2.2⟩
  exact h.elim
 exact h.elim
inductive bR (H:Hp):List V->List (List Nat)->Prop
 | nil:bR H [] []
 | cons {t:Addr} {p:List Nat} {vs:List V} {ps:List (List Nat)}:H t=some (.tup (m8 p))->bR H vs ps->bR H (.ref t::vs) (p::ps)
theorem bR.keep {H H':Hp}(k:∀a xs,H a=some (.tup xs)->H' a=some (.tup xs)):∀{vs:List V}{ps:List (List Nat)},bR H vs ps->bR H' vs ps
 | _,_,.nil=>.nil
 | _,_,.cons h r=>.cons (k _ _ h) (r.keep k)
theorem bR.same {H H':Hp}{vs:List V}{ps:List (List Nat)}(h:bR H vs ps)(s:Same H H'):bR H' vs ps:=h.keep fun a xs e=>s _ _ e
theorem bR.Pj {H:Hp}{vs:List V}{ps:List (List Nat)}{l:Addr}{xs ys:List V}(h:bR H vs ps)(e:H l=some (.lst xs)):bR (upd H l (.lst ys)) vs ps:=h.keep fun a zs z=>by
 rw[aM (fun w=>by rw[w,e] at z;cases z)];exact z
theorem bR.append {H:Hp}:∀{vs ws:List V}{ps qs:List (List Nat)},bR H vs ps->bR H ws qs->bR H (vs++ws) (ps++qs)
 | _,_,_,_,.nil,t=>t
 | _,_,_,_,.cons h r,t=>.cons h (r.append t)
theorem bR.length {H:Hp}:∀{vs:List V}{ps:List (List Nat)},bR H vs ps->vs.length=ps.length
 | _,_,.nil=>rfl
 | _,_,.cons _ r=>by rw[BN,BN,r.length]
theorem bR.get {H:Hp}:∀{vs:List V}{ps:List (List Nat)}{i:Nat}{v:V},bR H vs ps->vs[i]?=some v->∃t p,v=.ref t/\ps[i]?=some p/\H t=some (.tup (m8 p))
 | _,_,0,_,.cons h _,e=>by cases e;exact⟨_,_,rfl,rfl,h⟩
 | _,_,i+1,_,.cons _ r,e=>bR.get r (i:=i) e
theorem yW {n:Nat}(h:n<=100000):n<=AK:=BB h δ
theorem gm {ds:List AD}{i:Nat}{d:AD}(h:ds[i]?=some d):aK (ds.take (i+1))=aK (ds.take i)+nodes d:=by
 rw[take_snoc h,b8,aK,aK];omega
theorem qY {ds:List AD}{i:Nat}{d:AD}{p:List Nat}(h:ds[i]?=some d)(v:valid d p):valid (.list ds) (i::p)/\valid (.tuple ds) (i::p):=⟨⟨d,h,v⟩,⟨d,h,v⟩⟩
theorem eY {H H':Hp}{l:Addr}{o:HO}(s:Same H H')(h:H l=none):Same H (upd H' l o):=fun b u e=>by
 rw[aM (aF e h)];exact s b u e
theorem mX:∀(p:List Nat)(d:AD),valid d p->p.length<=d.depth
 | [],d,_=>ET _
 | i::r,.list ds,h=>by
  obtain⟨d,h1,h2⟩:=h;have:=mX r d h2;have:=dX (AV h1);rw[AD.depth.eq_1,BN];omega
 | i::r,.tuple ds,h=>by
  obtain⟨d,h1,h2⟩:=h;have:=mX r d h2;have:=dX (AV h1);rw[AD.depth.eq_2,BN];omega
 | _::_,.none,h=>h.elim
 | _::_,.bool _,h=>h.elim
 | _::_,.int _,h=>h.elim
 | _::_,.str _,h=>h.elim
 | _::_,.dict _,h=>h.elim
theorem VP {ok:Addr->Prop}{te tb:TE}{σ:St}{H:Hp}{Q:VK}{ds:List AD}(d:AD)(he:d=.list ds)(h:Gv ok te σ H d)(q:∀p xs H',Same H H'->H' p=some (.lst xs)->ok p->aH ok H' xs ds->tb σ H' fun y H2=>vY (.ref p) y H2 Q):tOp vY te tb σ H Q:=by
 subst he;refine h H (Same.refl _) _ fun v H' s t=>?_;cases t with
 | lst o e z ts=>exact q _ _ _ s e o ts
theorem aH.at {ok:Addr->Prop}{H:Hp}{xs:List V}{ds:List AD}(t:aH ok H xs ds){i:Int}(h0:0<=i)(h:i<ds.length):∃x d,atI xs i=some x/\d∈ds/\aJ ok H x d:=by
 have hl:=t.length;have h1:i.toNat<xs.length:=ω;obtain⟨d,hd,td⟩:=t.get (AF h1);refine⟨_,d,?_,AV hd,td⟩;unfold atI;rw[yG h0 ω];exact AF h1
structure yw (d:AD):Prop where
 sz:szD 0 d
 nd:nodes d<=4
 dp:d.depth<=1
theorem Es {a:Nat}{d:AD}(h:szD 0 d):szD a d:=by
 induction a with
 | zero=>exact h
 | succ a ih=>exact tM ih
theorem uY:yw .none:=⟨trivial,δ,δ⟩
theorem zB {b:Bool}:yw (.bool b):=⟨trivial,by show 1<=4;decide,by show 0<=1;decide⟩
theorem ou {i:Int}(h:i.natAbs<=10^20):yw (.int i):=⟨by show i.natAbs<=10^20*2^0;omega,by show 1<=4;decide,by show 0<=1;decide⟩
theorem NZ (s:String)(h:s.length<=30):yw (.str (D6 s)):=⟨tW s 0 h,by show 1<=4;decide,by show 0<=1;decide⟩
theorem yD:yw (.list [])/\yw (.tuple []):=⟨⟨⟨δ,trivial⟩,δ,δ⟩,⟨⟨δ,trivial⟩,δ,δ⟩⟩
theorem yw.Hg {a:Nat}{d d':AD}(h:yw d'):wV a d d':=⟨Es h.sz,by have:=h.nd;omega,by have:=h.dp;omega⟩
theorem Z2 {a:Nat}{d:AD}{ds ds':List AD}(hn0:nodes d=1+aK ds)(hd0:d.depth=AD.depthAll ds+1)(hs:∀x∈ds',szD (a+1) x)(hl:ds'.length<=210*5^(a+1))(hn:aK ds'<=4*aK ds+10)(hd:∀x∈ds',x.depth<=AD.depthAll ds+2) :
  wV a d (.list ds')/\wV a d (.tuple ds'):=by
 have h1:=mH hd;refine⟨⟨⟨hl,iy.mpr hs⟩,?_,?_⟩,⟨⟨hl,iy.mpr hs⟩,?_,?_⟩⟩
 ·show 1+aK ds'<=_;omega
 ·rw[AD.depth.eq_1];omega
 ·show 1+aK ds'<=_;omega
 rw[AD.depth.eq_2];omega
noncomputable def abP:AD->Bool
 | .list _=>true
 | .tuple _=>true
 | _=>false
theorem cJ.gW {ok:Addr->Prop}{p:Addr}{H H1:Hp}{B:Int}(n:cJ ok H)(s:aW p H H1)(t:aP H1 p B):cJ ok H1:=fun H' q s' hq=>by
 refine n H q (Same.refl _) ?_;cases e:H q with
 | none=>rfl
 | some o=>
  have qp:q≠p:=(t.same s').ne hq;rw[s' _ _ (s q o qp e)] at hq;cases hq
theorem aJ.qg {ok:Addr->Prop}{p:Addr}{H H':Hp}{v:V}{d:AD}(t:aJ ok H v d)(hk:∀a,ok a->a≠p)(s:aW p H H'):aJ ok H' v d:=t.keep fun a o h e=>⟨h,s a o (hk a h) e⟩
theorem aH.qg {ok:Addr->Prop}{p:Addr}{H H':Hp}{v:List V}{d:List AD}(t:aH ok H v d)(hk:∀a,ok a->a≠p)(s:aW p H H'):aH ok H' v d:=t.keep fun a o h e=>⟨h,s a o (hk a h) e⟩
theorem cJ.new {ok:Addr->Prop}{H:Hp}(n:cJ ok H){q:Addr}(h:H q=none):ok q:=n H q (Same.refl _) h
noncomputable def uI (sq:Bool):Sp:=fun vs H Q _=>∃(p:Addr)(B:Int)(v:V)(d:AD)(a:Nat)(ok:Addr->Prop),vs=[.ref p,v]/\aP H p B/\0<=B/\B<=900000/\cJ ok H/\(∀a,ok a->a≠p)/\aJ ok H v d/\szD a d/\a<=1/\(sq=true->abP d=true) /\
 ∀v' d' H',aW p H H'->aP H' p (B+10)->aJ ok H' v' d'->wV a d d'->Q v' H'
theorem Ur {a:Nat}(h:a<=1):210*5^a<=1050/\4*(210*5^a)+1<=210*5^(a+1)/\210<=210*5^a:=by
 have:a=0\/a=1:=by omega
 rcases this with rfl|rfl <;> decide
structure Sm3 (a:Nat)(d:AD):Prop where
 sz:szD (a+1) d
 nd:nodes d<=20
 dp:d.depth<=2
theorem Sm3.Hg {a:Nat}{d d':AD}(h:Sm3 a d'):wV a d d':=⟨h.sz,by have:=h.nd;omega,by have:=h.dp;omega⟩
theorem yw.sm3 {a:Nat}{d:AD}(h:yw d):Sm3 a d:=⟨Es h.sz,by have:=h.nd;omega,by have:=h.dp;omega⟩
theorem Kw {a:Nat}:∀d∈([]:List AD),Sm3 a d:=fun d h=>(nomatch h)
theorem cg {a:Nat}{x:AD}{xs:List AD}(h:Sm3 a x)(h2:∀d∈xs,Sm3 a d):∀d∈x::xs,Sm3 a d:=fun d hd=>by
 rcases AX.mp hd with rfl|z
 ·exact h
 exact h2 d z
theorem Ew {a:Nat}{i:Int}(h:i.natAbs<=10^20*2^(a+1)):Sm3 a (.int i):=⟨h,by show 1<=20;decide,by show 0<=2;decide⟩
theorem vQ {a:Nat}{x:Str}(h:okS (a+1) x):Sm3 a (.str x):=⟨h,by show 1<=20;decide,by show 0<=2;decide⟩
theorem Xk {a:Nat}{i:Int}(h:i.natAbs<=10^20*2^(a+1)):Sm3 a (.list [.int i])/\Sm3 a (.tuple [.int i]):=by
 have p:1<=210*5^(a+1):=by have:=Nat.pow_pos (n:=a+1) (show 0<5 by decide);omega
 exact⟨⟨⟨p,h,trivial⟩,by show 2<=20;decide,by show max 0 0+1<=2;decide⟩,⟨⟨p,h,trivial⟩,by show 2<=20;decide,by show max 0 0+1<=2;decide⟩⟩
theorem aa7 {a:Nat}(h:a<=1):10^20*2^a<=2*10^20/\2*(10^20*2^a)=10^20*2^(a+1)/\10^20<=10^20*2^a:=by
 have:a=0\/a=1:=by omega
 rcases this with rfl|rfl <;> decide
theorem WN {a:Nat}{d:AD}{ds ds':List AD}(hn0:nodes d=1+aK ds)(hd0:d.depth=AD.depthAll ds+1)(hs:∀x∈ds',szD (a+1) x)(hl:ds'.length<=210*5^(a+1))(hn:aK ds'<=4*aK ds+23)(hd:∀x∈ds',x.depth<=AD.depthAll ds+2) :
  wV a d (.list ds')/\wV a d (.tuple ds'):=by
 have h1:=mH hd;refine⟨⟨⟨hl,iy.mpr hs⟩,?_,?_⟩,⟨⟨hl,iy.mpr hs⟩,?_,?_⟩⟩
 ·show 1+aK ds'<=_;omega
 ·rw[AD.depth.eq_1];omega
 ·show 1+aK ds'<=_;omega
 rw[AD.depth.eq_2];omega
theorem J0 {a:Nat}{d:AD}{ds:List AD}{i:Nat}{c c':AD}(hn0:nodes d=1+aK ds)(hd0:d.depth=AD.depthAll ds+1)(hl:ds.length<=210*5^a)(hs:∀x∈ds,szD a x)(hc:ds[i]?=some c)(b:wV a c c') :
  wV a d (.list (ds.set i c'))/\wV a d (.tuple (ds.set i c')):=by
 have hm:=AV hc;have h1:=Fz (d':=c') hc;have h2:=jr hm;have h3:=b.nd;refine WN hn0 hd0 (fun x hx=>?_) (by rw[length_set];exact BB hl (Fx a)) ω (fun x hx=>?_)
 ·rcases List.mem_or_eq_of_mem_set hx with z|rfl
  ·exact tM (hs x z)
  exact b.sz
 rcases List.mem_or_eq_of_mem_set hx with z|rfl
 ·have:=dX z;omega
 have:=b.dp;have:=dX hm;omega
theorem JH (x:V)(xs:List V):sO (x::xs) (some 1) none=xs:=by
 unfold sO;have e1:HT.sIx (x::xs).length 0 (some 1)=1:=by
  rw[BN];simp [HT.sIx]
 have e2:HT.sIx (x::xs).length (x::xs).length none=(x::xs).length:=by simp [HT.sIx]
 rw[e1,e2];simp
theorem Wr (x:V)(xs:List V):¬(HT.sIx (x::xs).length 0 (some 1)=0/\HT.sIx (x::xs).length (x::xs).length none=(x::xs).length):=by
 have e1:HT.sIx (x::xs).length 0 (some 1)=1:=by
  rw[BN];simp [HT.sIx]
 rw[e1];exact fun h=>absurd h.1 δ
theorem bR.PB {H H':Hp}{p:Addr}{B:Int}{vs:List V}{ps:List (List Nat)}(h:bR H vs ps)(t:aP H p B)(s:aW p H H'):bR H' vs ps:=h.keep fun a xs e=>s _ _ (t.net e) e
theorem bR.nt {H:Hp}{p l:Addr}{B:Int}{vs:List V}{ps:List (List Nat)}(h:bR H vs ps)(t:aP H p B)(e:H l=some (.lst vs))(n:1<=ps.length):l≠p:=fun z=>by
 obtain⟨a,b,c,e2,_⟩:=t;rw[z,e2] at e;cases e;cases h
theorem Zg {α:Type}(xs:List α)(h:1<=xs.length):∃(i:Nat)(x:α),xs[i]?=some x/\atI xs (-1)=some x:=by
 have h1:xs.length-1<xs.length:=ω;refine⟨xs.length-1,xs[xs.length-1],AF h1,?_⟩;unfold atI ixN;rw[if_neg δ,if_pos ω];show xs[_]?=_;rw[show(-1+(xs.length:Int)).toNat=xs.length-1 by omega];exact AF h1
section
variable {X:Cx}{a:Expr}{ta:TE}
noncomputable def trq (ob:Option HO)(H:Hp)(Q:Bool->Hp->Prop):Prop:=match ob with
 | some (.lst xs)=>Q (!xs.isEmpty) H
 | some (.tup xs)=>Q (!xs.isEmpty) H
 | _=>False
noncomputable def aau (x:V)(H:Hp)(Q:Bool->Hp->Prop):Prop:=match x with
 | .ref p=>trq (H p) H Q
 | .bl b=>Q b H
 | .int i=>Q (i != 0) H
 | .non=>Q false H
 | _=>False
noncomputable def aax (te:TE):TT:=fun σ H Q=>te σ H fun x H1=>aau x H1 Q
theorem Xb (te:TE)(σ:St)(H:Hp)(Q:Bool->Hp->Prop):aax te σ H Q=te σ H fun x H1=>aau x H1 Q:=rfl
theorem SM (i:Int)(H:Hp)(Q:Bool->Hp->Prop):aau (.int i) H Q=Q (i != 0) H:=rfl
theorem aa0 (ha:PE X a ta)(he:∀whole,isTrue a X.env whole=(do let v <- whole;standAt a.pos;Fc [v] (truthy v))):PT X a (aax ta):=by
 intro pins s σ H Q I h;refine isTrue_plain (thE (ha pins s σ H _ I h) fun v s1 x H1 I1 r1 q1=>aat pins s1 σ H1 x v Q I1 r1 ?_) (he _);cases x with
 | ref p=>
  replace q1:trq (H1 p) H1 Q:=q1;unfold trq at q1;split at q1
  ·rename_i xs e;exact⟨_,.inl ⟨xs,SqL.of e,rfl⟩,q1⟩
  ·rename_i xs e;exact⟨_,.inr (.inl ⟨xs,SqT.of e,rfl⟩),q1⟩
  exact q1.elim
 | bl b=>exact⟨_,rfl,q1⟩
 | int i=>exact⟨_,rfl,q1⟩
 | non=>exact⟨_,rfl,q1⟩
 | _=>exact(show False from q1).elim
theorem aaU (h:QE X a ta)(he:∀whole,isTrue a X.env whole=(do let v <- whole;standAt a.pos;Fc [v] (truthy v)):=by intro _;rfl):QT X a (aax ta):=⟨aa0 h.h he⟩
noncomputable def aaP:R2:=fun x y H Q=>∃p q xs,x=.ref p/\y=.ref q/\H p=some (.lst xs)/\H q=some (.lst [])/\Q (.bl (!xs.isEmpty)) H
theorem UW (hu:X.A.units<FI):OpR X (D0 .NotEq) aaP:=by
 intro pins s σ H x y v u Q I rx ry h;obtain⟨p,q,xs,rfl,rfl,e1,e2,qq⟩:=h;cases rx;cases ry;obtain⟨its1,r1,pl1,hz1⟩:=I.list (SqL.of e1);obtain⟨its2,r2,pl2,hz2⟩:=I.list (SqL.of e2);cases r2;cases xs with
 | nil=>
  cases r1;exact SeqAt.RcNeAt.lists (e:=fun _=>true) pl1.isList pl2.isList rfl hu (fun j h1 h2=>absurd h2 (Nat.not_lt_zero _)) X.prog X.w X.xe (EP X pins σ Q) ⟨.bl false,H,I,rfl,qq⟩
 | cons a b=>
  cases r1;exact SeqAt.RcNeAt.lists_lengths pl1.isList pl2.isList (by simp) hu X.prog X.w X.xe (EP X pins σ Q) ⟨.bl true,H,I,rfl,qq⟩
end
noncomputable def stD (s:Int×Int×Int):AD:=.tuple [.int s.1,.int s.2.1,.int s.2.2]
theorem aJ.st {ok:Addr->Prop}{H:Hp}{x:V}{s:Int×Int×Int}(t:aJ ok H x (stD s)):∃a,x=.ref a/\ok a/\H a=some (.tup [.int s.1,.int s.2.1,.int s.2.2]):=by
 cases t with
 | tup o e z ts=>
  rename_i p xs;refine⟨p,rfl,o,?_⟩;cases ts with
  | cons t1 ts=>
   cases t1;cases ts with
   | cons t2 ts=>
    cases t2;cases ts with
    | cons t3 ts=>
     cases t3;cases ts;exact e
theorem aH.st {ok:Addr->Prop}{H:Hp}{xs:List V}{ss:List (Int×Int×Int)}{i:Nat}{x:V}(t:aH ok H xs (ss.map stD))(h:xs[i]?=some x):∃a s,x=.ref a/\ok a/\ss[i]?=some s/\H a=some (.tup [.int s.1,.int s.2.1,.int s.2.2]):=by
 obtain⟨d,hd,td⟩:=t.get h;rw[A5] at hd;cases hs:ss[i]? with
 | none=>rw[hs] at hd;cases hd
 | some s=>
  rw[hs] at hd;cases hd;obtain⟨a,h1,h2,h3⟩:=td.st;exact⟨a,s,h1,h2,rfl,h3⟩
theorem ql {is:List Int}{r:Int}(h0:0<=r)(h:r<is.length):∃i,i∈is/\atI (is.map V.int) r=some (.int i):=by
 have h1:r.toNat<is.length:=ω;refine⟨is[r.toNat],FA h1,?_⟩;unfold atI;rw[yG h0 (by rw[AG];omega)];show(is.map V.int)[r.toNat]?=_;rw[A5,AF h1];rfl
structure J7 (ss:List (Int×Int×Int)):Prop where
 lh:∀(i:Nat) s,ss[i]?=some s->s.1<=s.2.1/\0<=s.2.2/\s.2.2<=9
 nx:∀(i:Nat) s t,ss[i]?=some s->ss[i+1]?=some t->t.1=s.2.1+1
 bd:∀(i:Nat) s,ss[i]?=some s->-(10^12)<=s.1/\s.2.1<=10^9+(10^12+10)*(i+1)
theorem J7.nil:J7 []:=⟨fun i s h=>(by cases h),fun i s t h=>(by cases h),fun i s h=>(by cases h)⟩
theorem J7.snoc {ss:List (Int×Int×Int)}(h:J7 ss){lo hi b:Int}(h1:lo<=hi)(h2:0<=b/\b<=9)(h3:-(10^12)<=lo/\hi<=10^9+(10^12+10)*(ss.length+1))(h4:∀s,ss[ss.length-1]?=some s->lo=s.2.1+1):J7 (ss++[(lo,hi,b)]):=by
 have get:∀(i:Nat) s,(ss++[(lo,hi,b)])[i]?=some s->(i<ss.length/\ss[i]?=some s)\/(i=ss.length/\s=(lo,hi,b)):=fun i s e=>by
  rcases GB i ss.length with z|z
  ·rw[D5 z] at e;exact .inl ⟨z,e⟩
  rw[Cs z] at e;cases hk:i-ss.length with
  | zero=>rw[hk] at e;cases e;exact .inr ⟨ω,rfl⟩
  | succ k=>rw[hk] at e;cases e
 refine⟨fun i s e=>?_,fun i s t e1 e2=>?_,fun i s e=>?_⟩
 ·rcases get i s e with⟨z,e⟩|⟨z,rfl⟩
  ·exact h.lh i s e
  exact⟨h1,h2.1,h2.2⟩
 ·rcases get i s e1 with⟨z,e1⟩|⟨z,rfl⟩
  ·rcases get (i+1) t e2 with⟨z2,e2⟩|⟨z2,rfl⟩
   ·exact h.nx i s t e1 e2
   exact h4 s (by rw[show ss.length-1=i by omega];exact e1)
  rcases get (i+1) t e2 with⟨z2,e2⟩|⟨z2,rfl⟩ <;> omega
 rcases get i s e with⟨z,e⟩|⟨z,rfl⟩
 ·exact h.bd i s e
 rw[z];exact h3
noncomputable def JF:Nat->AD
 | 0=>.int 0
 | n+1=>.tuple [JF n]
section
variable {κ:Type}[DecidableEq κ]
noncomputable def j7 (kvs:List (κ×V))(k:κ):Option V:=(kvs.find? fun kv=>decide (kv.1=k)).map (·.2)
noncomputable def putK (kvs:List (κ×V))(k:κ)(v:V):List (κ×V):=
 if (kvs.any fun kv=>decide (kv.1=k))=true then kvs.map (fun kv=>if kv.1=k then (kv.1,v) else kv) else kvs++[(k,v)]
theorem Ss {k:κ}:j7 ([]:List (κ×V)) k=none:=rfl
theorem gQ {p:κ×V}{r:List (κ×V)}{k:κ}(e:p.1=k):j7 (p::r) k=some p.2:=by simp [j7,Ic,e]
theorem gR {p:κ×V}{r:List (κ×V)}{k:κ}(e:¬p.1=k):j7 (p::r) k=j7 r k:=by simp [j7,Ic,e]
theorem uF (k:κ):∀kvs:List (κ×V),(kvs.any fun kv=>decide (kv.1=k))=(j7 kvs k).isSome
 | []=>rfl
 | p::r=>by
  rw[any_cons];by_cases e:p.1=k
  ·simp only[gQ e,decide_eq_true e,Bool.true_or,Option.isSome_some]
  rw[gR e,decide_eq_false e,Bool.false_or];exact uF k r
theorem Ht (k j:κ)(y:V):∀kvs:List (κ×V),j7 (kvs.map fun kv=>if kv.1=k then (kv.1,y) else kv) j=(j7 kvs j).map fun x=>if j=k then y else x
 | []=>rfl
 | p::r=>by
  have ih:=Ht k j y r;rw[DV];by_cases h:p.1=k
  ·rw[if_pos h];by_cases e:p.1=j
   ·rw[gQ (p:=(p.1,y)) e,gQ e,map_some,if_pos (e.symm.trans h)]
   rw[gR (p:=(p.1,y)) e,gR e,ih]
  rw[if_neg h];by_cases e:p.1=j
  ·rw[gQ (p:=p) e,gQ e,map_some,if_neg (fun z=>h (e.trans z))]
  rw[gR (p:=p) e,gR e,ih]
theorem CV (k j:κ)(y:V):∀kvs:List (κ×V),j7 kvs k=none->j7 (kvs++[(k,y)]) j=if j=k then some y else j7 kvs j
 | [],_=>by
  by_cases e:k=j
  ·rw[if_pos e.symm];exact gQ (p:=(k,y)) e
  rw[if_neg (fun z=>e z.symm)];exact gR (p:=(k,y)) e
 | p::r,hn=>by
  rw[cons_append];have hk:¬p.1=k:=fun z=>by rw[gQ z] at hn;cases hn
  rw[gR hk] at hn;have ih:=CV k j y r hn;by_cases e:p.1=j
  ·rw[gQ e,gQ e,if_neg (fun z=>hk (e.trans z))]
  rw[gR e,gR e,ih]
theorem Sq (kvs:List (κ×V))(k j:κ)(y:V):j7 (putK kvs k y) j=if j=k then some y else j7 kvs j:=by
 unfold putK;by_cases a:(kvs.any fun kv=>decide (kv.1=k))=true
 ·rw[if_pos a,Ht];rw[uF] at a;by_cases e:j=k
  ·obtain⟨x,hx⟩:=Option.isSome_iff_exists.mp a;rw[if_pos e,e,hx,map_some,if_pos rfl]
  rw[if_neg e];cases j7 kvs j with
  | none=>rfl
  | some x=>rw[map_some,if_neg e]
 rw[if_neg a];refine CV k j y kvs ?_;rw[uF] at a;cases q:j7 kvs k with
 | none=>rfl
 | some x=>rw[q] at a;exact(a rfl).elim
theorem mD (kvs:List (κ×V))(k:κ)(v:V):(putK kvs k v).length<=kvs.length+1:=by
 unfold putK;split
 ·rw[AG];omega
 rw[AI,BN,length_nil];omega
theorem Bp.Q8 {o:Option V}{u:Option An}(r:Bp o u):o.isSome=u.isSome:=by
 cases o with
 | none=>cases u with
  | none=>rfl
  | some _=>exact(show False from r).elim
 | some _=>cases u with
  | none=>exact(show False from r).elim
  | some _=>rfl
theorem KV.val {kvs:List (κ×V)}{vs:List (κ×An)}(r:KV kvs vs)(k:κ):Bp (j7 kvs k) (valueAt vs k):=by
 unfold KV at r
 induction r with
 | nil=>exact DF
 | @cons p q ps qs h t ih=>
  obtain⟨h1,h2⟩:=h;by_cases e:p.1=k
  ·have e':q.1=k:=h1.symm.trans e;have b:valueAt (q::qs) k=some q.2:=by simp [valueAt,Ic,e']
   rw[gQ e,b];exact h2
  have e':¬q.1=k:=fun z=>e (h1.trans z);have b:valueAt (q::qs) k=valueAt qs k:=by simp [valueAt,Ic,e']
  rw[gR e,b];exact ih
theorem KV.any {kvs:List (κ×V)}{vs:List (κ×An)}(r:KV kvs vs)(k:κ):(kvs.any fun kv=>decide (kv.1=k))=vs.any fun kv=>decide (kv.1=k):=by
 unfold KV at r
 induction r with
 | nil=>rfl
 | cons h t ih=>rw[any_cons,any_cons,ih,h.1]
theorem KV.repl {kvs:List (κ×V)}{vs:List (κ×An)}(r:KV kvs vs)(k:κ){y:V}{u:An}(ry:RelV y u) :
  KV (kvs.map fun kv=>if kv.1=k then (kv.1,y) else kv) (vs.map fun kv=>if kv.1=k then (kv.1,u) else kv):=by
 unfold KV at r |-
 induction r with
 | nil=>exact .nil
 | @cons p q ps qs h t ih=>
  rw[DV,DV];refine .cons ?_ ih;obtain⟨h1,h2⟩:=h;by_cases e:p.1=k
  ·rw[if_pos e,if_pos (h1.symm.trans e)];exact⟨h1,ry⟩
  rw[if_neg e,if_neg (fun z=>e (h1.trans z))];exact⟨h1,h2⟩
theorem KV.put {kvs:List (κ×V)}{vs:List (κ×An)}(r:KV kvs vs)(k:κ){y:V}{u:An}(ry:RelV y u):KV (putK kvs k y) (stored vs k u):=by
 unfold putK stored;rw[r.any k];by_cases e:(vs.any fun kv=>decide (kv.1=k))=true
 ·rw[if_pos e,if_pos e];exact r.repl k ry
 rw[if_neg e,if_neg e];exact Paired.snoc r ⟨rfl,ry⟩
theorem KV.length {kvs:List (κ×V)}{vs:List (κ×An)}(r:KV kvs vs):kvs.length=vs.length:=Jn r
end
theorem Ol {P:AU}{w:Be}{k:Key}{u:An}(r:RelV (kV k) u):(eX P w).is k u=true:=by
 cases k with
 | inl i=>obtain⟨t,e⟩:=(show ∃t,u=An.int i t from r);subst e;exact Jd P w i t
 | inr x=>obtain⟨t,e⟩:=(show ∃t,u=An.str x t from r);subst e;exact Jc P w x t
theorem DK {P:AU}{w:Be}:∀{ks:List Key}{us:List An},Vals (ks.map kV) us->ItemsAre (eX P w) ks us
 | [],_,r=>by rw[map_nil] at r;cases r;exact .nil
 | k::ks,_,r=>by
  rw[DV] at r;cases r with
  | cons h t=>exact .cons (Ol h) (DK t)
noncomputable abbrev KT (H:Hp):List (List Key×V)->List (List Key×Addr×An)->Prop:=Paired fun p q=>p.1=q.1/\H q.2.1=some (.tup (p.1.map kV))/\RelV p.2 q.2.2
theorem KT.val {H:Hp}{kvs:List (List Key×V)}{xs:List (List Key×Addr×An)}(r:KT H kvs xs)(k:List Key):Bp (j7 kvs k) ((atKey xs k).map (·.2)):=by
 induction r with
 | nil=>exact DF
 | @cons p q ps qs h t ih=>
  obtain⟨h1,_,h2⟩:=h;by_cases e:p.1=k
  ·have e':q.1=k:=h1.symm.trans e;have b:atKey (q::qs) k=some q.2:=by simp [atKey,Ic,e']
   rw[gQ e,b];exact h2
  have e':¬q.1=k:=fun z=>e (h1.trans z);have b:atKey (q::qs) k=atKey qs k:=by simp [atKey,Ic,e']
  rw[gR e,b];exact ih
theorem KT.repl {H:Hp}{kvs:List (List Key×V)}{xs:List (List Key×Addr×An)}(r:KT H kvs xs)(k:List Key){y:V}{u:An}(ry:RelV y u) :
  KT H (kvs.map fun kv=>if kv.1=k then (kv.1,y) else kv) (xs.map (putAt k u)):=by
 induction r with
 | nil=>exact .nil
 | @cons p q ps qs h t ih=>
  rw[DV,DV];refine .cons ?_ ih;obtain⟨h1,h2,h3⟩:=h;unfold putAt;by_cases e:p.1=k
  ·rw[if_pos e,if_pos (h1.symm.trans e)];exact⟨h1,h2,ry⟩
  rw[if_neg e,if_neg (fun z=>e (h1.trans z))];exact⟨h1,h2,h3⟩
theorem KT.put {H:Hp}{kvs:List (List Key×V)}{xs:List (List Key×Addr×An)}(r:KT H kvs xs)(k:List Key){b:Addr}{y:V}{u:An}(hb:H b=some (.tup (k.map kV)))(ry:RelV y u) :
  KT H (putK kvs k y) (storedH xs k b u):=by
 have e:(kvs.any fun kv=>decide (kv.1=k))=(atKey xs k).isSome:=by
  rw[uF,(r.val k).Q8,Option.isSome_map]
 unfold putK storedH;rw[e];by_cases q:(atKey xs k).isSome=true
 ·rw[if_pos q,if_pos q];exact r.repl k ry
 rw[if_neg q,if_neg q];exact Paired.snoc r ⟨rfl,hb,ry⟩
theorem KT.keeps {H H':Hp}{kvs:List (List Key×V)}{xs:List (List Key×Addr×An)}(r:KT H kvs xs)(ht:∀b ys,H b=some (.tup ys)->H' b=some (.tup ys)):KT H' kvs xs:=
 Paired.abA r fun _ _ z=>⟨z.1,ht _ _ z.2.1,z.2.2⟩
section
variable {P:AU}{w:Be}{H:Hp}{h:Heap}{a:Addr}
theorem aag {u:HO}(ok:HOk P w H h)(e:Rd H a u):cI P w H h a u:=e.ok ok
theorem Wl {kvs:List (Key×V)}(ok:HOk P w H h)(e:Rd H a (.dK kvs)):kvs.length<=AK/\(a == DE)=false/\∃vs,KV kvs vs/\h.DictOf (eX P w) a vs:=
 show cI P w H h a (.dK kvs) from aag ok e
theorem acW {kvs:List (Key×V)}(ok:HOk P w H h)(e:H a=some (.dK kvs)):kvs.length<=AK/\(a == DE)=false/\∃vs,KV kvs vs/\h.DictOf (eX P w) a vs:=Wl ok (.inl e)
theorem Lj {ks:List Key}(ok:HOk P w H h)(e:H a=some (.tup (ks.map kV))):(tupleKind (eX P w)).is h ks a:=by
 obtain⟨_,its,r,o,h1,h2,n,h3⟩:=(show cI P w H h a (.tup (ks.map kV)) from ok a _ e);exact⟨o,its.toArray,n,h1,h2,h3,by simpa using DK r⟩
theorem Wi {kvs:List (List Key×V)}(ok:HOk P w H h)(e:Rd H a (.dT kvs)):kvs.length<=AK/\(a == DE)=false /\
  ∃xs,KT H kvs xs/\h.DictOfH (tupleKind (eX P w)) a xs:=by
 obtain⟨z,y,xs,r,o,es,ep,h1,h2,h3,h4,h5⟩:=(show cI P w H h a (.dT kvs) from aag ok e);refine⟨z,y,xs,r,o,es,ep,h1,h2,h3,h4,fun x hx=>?_,h5⟩;have all:∀{l:List (List Key×V)}{m:List (List Key×Addr×An)},KT H l m->∀x∈m,(tupleKind (eX P w)).is h x.1 x.2.1:=by
  intro l m q
  induction q with
  | nil=>intro x hx;exact nomatch hx
  | @cons p q ps qs hq t ih=>
   intro x hx;rcases AX.mp hx with e|hx
   ·subst e;exact Lj ok (by rw[<- hq.1];exact hq.2.1)
   exact ih x hx
 exact all r x hx
theorem acV {kvs:List (List Key×V)}(ok:HOk P w H h)(e:H a=some (.dT kvs)):kvs.length<=AK/\(a == DE)=false /\
  ∃xs,KT H kvs xs/\h.DictOfH (tupleKind (eX P w)) a xs:=Wi ok (.inl e)
end
noncomputable def CQ (H:Hp)(a:Addr)(y:V)(r:Option V):Prop:=
 (∃kvs k,Rd H a (.dK kvs)/\y=kV k/\r=j7 kvs k)\/∃kvs k b,Rd H a (.dT kvs)/\y=.ref b/\H b=some (.tup (k.map kV))/\r=j7 kvs k
noncomputable def R4 (H:Hp)(a:Addr)(y v:V)(H':Hp):Prop:=
 (∃kvs k,H a=some (.dK kvs)/\y=kV k/\kvs.length<AK/\H'=upd H a (.dK (putK kvs k v))) \/
 ∃kvs k b,H a=some (.dT kvs)/\y=.ref b/\H b=some (.tup (k.map kV))/\kvs.length<AK/\H'=upd H a (.dT (putK kvs k v))
theorem CQ.k {H:Hp}{a:Addr}{kvs:List (Key×V)}{k:Key}(e:H a=some (.dK kvs)):CQ H a (kV k) (j7 kvs k):=.inl ⟨kvs,k,.inl e,rfl,rfl⟩
theorem R4.k {H:Hp}{a:Addr}{kvs:List (Key×V)}{k:Key}{v:V}(e:H a=some (.dK kvs))(hl:kvs.length<AK):R4 H a (kV k) v (upd H a (.dK (putK kvs k v))):=.inl ⟨kvs,k,e,rfl,hl,rfl⟩
section
variable {X:Cx}{pins:List (Addr×Obj)}{σ:St}{H:Hp}{s:AC}{a:Addr}{y v:V}{u r:An}{o:Option V}{A:BA}{E:An->AC->Prop}
theorem Inv.big (I:Inv X pins σ H s):DE<s.heap.objs.size:=by
 have h:AH<s.heap.objs.size:=(I.mod.glob.keeps I.bk).lt;exact lt_trans δ h
theorem Rv {Q:An->AC->Prop}(hu:A.units+1<FI)(I:Inv X pins σ H s)(g:CQ H a y (some v))(ry:RelV y u)(h:∀w' s',Inv X pins σ H s'->RelV v w'->Q w' s') :
  AM (A0 X.prog X.w) A (IX (.ref a) u) Q E s:=by
 rcases g with⟨kvs,k,e,ey,l⟩|⟨kvs,k,b,e,ey,eb,l⟩
 ·subst ey;obtain⟨z,hd,vs,rel,dd⟩:=Wl I.hok e;obtain⟨w',hw,rw'⟩:=Bp.some_of (v:=v) (o:=valueAt vs k) (by rw[l];exact rel.val k);exact wpAny_getItem_of (Ol ry) dd.mapOf hw (h w' _ (I.tok _) rw')
 subst ey;cases (show u=An.ref b from ry);obtain⟨z,hd,xs,rel,dd⟩:=Wi I.hok e;obtain⟨w',hw,rw'⟩:=Bp.some_of (v:=v) (o:=(atKey xs k).map (·.2)) (by rw[l];exact rel.val k);obtain⟨p,hp,hp2⟩:=B8.mp hw;refine wpAny_getItem_heap (tupleKind_room_in1 hu) (Lj I.hok eb) dd hp ?_;rw[hp2];exact h w' _ (I.tok _) rw'
theorem O2 {h':Heap}{t':Nat}{ob:HO}(I:Inv X pins σ H s)(mu:Mut (H a))(hs:B7 a s.heap h')(he:∃q,h'.get? a=some q)(new:cI X.prog X.w (upd H a ob) h' a ob) :
  Inv X pins σ (upd H a ob) { s with heap:=h',toks:=t' }:=
 I.write (x:=a) (e:=a) mu (.inl rfl) (fun b q hb z=>(hs.2 b hb).trans z) he new
theorem Wm {P:AU}{w:Be}{H':Hp}{h':Heap}{kvs:List (Key×V)}{vs:List (Key×An)}(z:kvs.length<=AK)(hd:(a == DE)=false)(rel:KV kvs vs)(dd:h'.DictOf (eX P w) a vs) :
  cI P w H' h' a (.dK kvs):=⟨z,hd,vs,rel,dd⟩
theorem Ru {H':Hp}{Q:Unit->AC->Prop}(hu:A.units+1<FI)(I:Inv X pins σ H s)(g:R4 H a y v H')(ry:RelV y u)(rv:RelV v r)(h:∀s',Inv X pins σ H' s'->Q () s') :
  AM (A0 X.prog X.w) A (setItem (.ref a) u r) Q E s:=by
 rcases g with⟨kvs,k,e,ey,l,eH⟩|⟨kvs,k,b,e,ey,eb,l,eH⟩
 ·subst ey eH;obtain⟨z,hd,vs,rel,dd⟩:=acW I.hok e;have hz:vs.length<=AK:=by rw[<- rel.length];exact z
  have hl:(putK kvs k v).length<=AK:=by have:=mD kvs k v;omega
  refine wpAny_setItem_pairs (hsz:=hz) (Ol ry) dd fun h' dd' hs=>h _ ?_;have he:∃q,h'.get? a=some q:=let ⟨q,_,_,hq,_⟩:=dd';⟨q,hq⟩;exact O2 I (by rw[e];exact DF) hs he (Wm hl hd (rel.put k rv) dd')
 subst ey eH;cases (show u=An.ref b from ry);obtain⟨z,hd,xs,rel,dd⟩:=acV I.hok e;have hz:xs.length<=AK:=by rw[<- Jn rel];exact z
 have hl:(putK kvs k v).length<=AK:=by have:=mD kvs k v;omega
 refine wpAny_setItem_heap (hsz:=hz) (tupleKind_room_in1 hu) (Lj I.hok eb) dd fun h' dd' hs=>h _ ?_;obtain⟨q,es,ep,hq,h2,h3,h4,_,h5⟩:=dd';refine O2 I (by rw[e];exact DF) hs ⟨q,hq⟩ ⟨hl,hd,_,(rel.put k eb rv).keeps fun c ys ec=>?_,q,es,ep,hq,h2,h3,h4,h5⟩;rw[aM (acO ec e (fun z=>nomatch z))];exact ec
end
noncomputable def ab6 (i:Expr):Prop:=∀ov iv,subscripted i false ov iv=operate [ov,iv] (IX ov iv)
theorem Xe {prog:AU}{w:Be}{A:BA}{E:An->AC->Prop}{s:AC}{env:Env}{value slice:Expr}{pos:Pos}{T id:String}{Q:An->AC->Prop}
  (hl:typeLookup (.type T) "__getitem__" = pure (some (.builtin id))) (hs:ab6 slice)
  (h:AM (A0 prog w) A (eval value env) (fun o s₁=>AM (A0 prog w) A (eval slice env) (fun i s₂=>s₂.TypeIs o T/\AM (A0 prog w) A (IX o i) Q E s₂) E s₁) E s) :
  AM (A0 prog w) A (eval (.Subscript value slice pos) env) Q E s:=by
 refine Subscript_ (B5 h (fun o s₁ h₁=>B5 h₁ (fun i s₂ h₂=>?_) fun _ _ x=>x) fun _ _ x=>x);obtain⟨hT,h₂⟩:=h₂;unfold subscriptTail;refine Ap ?_;rw[getitemInPython_of_ne hT.not_modules];refine Ap (wpAny_specialOf hT hl ?_);have fin:AM (A0 prog w) A (subscripted slice false o i) (fun r s₃=>AM (A0 prog w) A (letTemporaryGo value o r >>= fun _=>pure r) Q E s₃) E s₂:=by
  rw[hs o i];exact wpAny_operating (B5 h₂ (fun r s₃ h₃=>Ap (wpAny_letTemporaryGo (AE h₃))) fun _ _ x=>x)
 first
  | exact AE (Ap fin)
  | exact Ap (AE (Ap fin))
  | exact Ap fin
theorem JD {X:Cx}{pins:List (Addr×Obj)}{σ:St}{H:Hp}{s:AC}{a:Addr}{y:V}{o:Option V}(I:Inv X pins σ H s) (g:CQ H a y o):s.TypeIs (.ref a) "dict" := by
 rcases g with⟨kvs,k,e,_,_⟩|⟨kvs,k,b,e,_,_,_⟩
 ·obtain⟨_,_,vs,_,dd⟩:=Wl I.hok e;exact dd.typeIs
 obtain⟨_,_,xs,_,dd⟩:=Wi I.hok e;exact dd.typeIs
noncomputable def acd (td ty:TE):TE:=fun σ H Q=>td σ H fun x H1=>ty σ H1 fun y H2=>∃a v,x=.ref a/\CQ H2 a y (some v)/\Q v H2
noncomputable def ach (td ty tv:TE):TS:=fun D σ H=>tv σ H fun v H1=>td σ H1 fun x H2=>ty σ H2 fun y H3=>∃a H4,x=.ref a/\R4 H3 a y v H4/\D.nx σ H4
section
variable {X:Cx}{o i e value:Expr}{pos pos' tpos:Pos}{td ty tv:TE}
theorem YC (hu:X.A.units+1<FI)(ho:PE X o td)(hi:PE X i ty)(hs:ab6 i):PE X (.Subscript o i pos) (acd td ty):=by
 intro pins s σ H Q I h;refine Xe PySem.F.slot_dict_getitem.lookup hs (thE (ho pins s σ H _ I h) fun u s1 x H1 I1 rx q1=>thn (hi pins s1 σ H1 _ I1 q1) fun iv s2 ⟨y,H2,I2,ry,a,v,ex,g,q2⟩=>?_);subst ex;obtain rfl:u=An.ref a:=rx;exact⟨JD I2 g,Rv hu I2 g ry fun w' s3 I3 rw'=>⟨v,H2,I3,rw',q2⟩⟩
theorem Yn (hu:X.A.units+1<FI)(ho:PE X o td)(hi:PE X i ty)(hv:PE X value tv)(hs:HC value (some (.Subscript o i pos')) pos.line X.env=pure false) :
  PS X (.Assign [.Subscript o i pos'] value pos) (ach td ty tv):=by
 intro pins s σ H D I h;refine wpAny_Assign_Subscript (thE (hv pins s σ H _ I h) fun r s1 v H1 I1 rv q1=>thE (ho pins s1 σ H1 _ I1 q1) fun u s2 x H2 I2 rx q2=>thn (hi pins s2 σ H2 _ I2 q2) fun iv s3 ⟨y,H3,I3,ry,a,H4,ex,g,q3⟩=>?_) hs;subst ex;obtain rfl:u=An.ref a:=rx;exact Ru hu I3 g ry rv fun s4 I4=>⟨σ,H4,I4,q3⟩
end
theorem Wn {P:AU}{w:Be}{H:Hp}(h:Heap) (hb:DE<h.objs.size):cI P w H (h.push { cls:=.type "dict",data:=.dict #[] }) h.objs.size (.dK []):=
 ⟨ET _,beq_eq_false_iff_ne.mpr (B6 (BG hb)),[],.nil,Heap.DictOf.new h⟩
noncomputable def iK (kvs more:List (Key×V)):List (Key×V):=more.foldl (fun acc kv=>putK acc kv.1 kv.2) kvs
theorem mU:∀(more kvs:List (Key×V)),(iK kvs more).length<=kvs.length+more.length
 | [],kvs=>by show kvs.length<=kvs.length+0;omega
 | p::r,kvs=>by
  have h1:=mU r (putK kvs p.1 p.2);have h2:=mD kvs p.1 p.2;show(iK (putK kvs p.1 p.2) r).length<=_;rw[BN];omega
theorem gH.Sx {k:Nat}{A:BA}(r:gH k A):A.units+1<FI:=by have:=r.un;omega
theorem gH.un1 {k:Nat}{A:BA}(r:gH k A):A.in1.units<FI:=by
 have:=r.un;show A.units+1<FI;omega
theorem aH.ints {ok:Addr->Prop}{H:Hp}:∀{xs:List V}{is:List Int},aH ok H xs (is.map AD.int)->xs=is.map V.int
 | _,[],.nil=>rfl
 | _,i::is,.cons h r=>by
  cases h;rw[r.ints];rfl
theorem Same.none {H H':Hp}(s:Same H H'){p:Addr}(h:H' p=none):H p=none:=by
 cases e:H p with
 | none=>rfl
 | some o=>rw[s _ _ e] at h;cases h
mutual
noncomputable def szB:AD->Bool
 | .none=>true
 | .bool _=>true
 | .int i=>decide (i.natAbs<=10^20)
 | .str x=>decide (x.length<=30)&&x.cps.toList.all fun c=>decide (c<16^8)
 | .list ds=>decide (ds.length<=210)&&aaC ds
 | .tuple ds=>decide (ds.length<=210)&&aaC ds
 | .dict _=>false
noncomputable def aaC:List AD->Bool
 | []=>true
 | d::ds=>szB d&&aaC ds
end
theorem acS {K:Au}{a:Addr}{xs:List V}{g:TG}{tb:TS}{D:Ends}{σ:St}{H:Hp}{R:It->Hp->Prop}(hR:R=(fun J H1=>∃W:Nat->Nat->St->Hp->Prop,(∃m,W 0 m σ H1)/\∀i m σ H,W i m σ H ->
  (J.stop i H/\D.nx σ H)\/(J.go i H/\∃N:St->Hp->Prop,(∀σ' H',N σ' H'->∃m',m'<m/\W (i+1) m' σ' H')/\∀x H',J.yld i H x H'->g x σ H' fun σ2 H2=>tb { D with nx:=N,ct:=N,bk:=D.nx } σ2 H2)))
  (Pv:Nat->St->Hp->Prop) (h0:Pv 0 σ H) (hl:∀i σ H,Pv i σ H->H a=some (.tup xs))
  (hs:∀i x σ H,xs[i]?=some x->Pv i σ H->g x σ H fun σ2 H2=>tb { D with nx:=Pv (i+1),ct:=Pv (i+1),bk:=D.nx } σ2 H2) (hd:∀σ H,Pv xs.length σ H->D.nx σ H):R (Itt K a) H:=by
 refine LQ hR xs.length Pv h0 (fun i σ H hi p=>?_) (fun σ H p=>?_) (fun i σ H x H3 hi p y=>?_) hd
 ·exact⟨xs,_,SqT.of (hl i σ H p),AF hi⟩
 ·exact⟨xs,SqT.of (hl _ σ H p),A9 _⟩
 obtain⟨rfl,hx⟩:=y;exact hs i x σ _ (hx _ (SqT.of (hl i σ _ p))) p
theorem yM {prog:AU}{w:Be}{A:BA}{E:An->AC->Prop}{s:AC}{z TI TO i1 i2 l1 l2:Addr}{k1 k2:Nat}{xs ys:Array An}{x y a b:An}{Q:An->AC->Prop}(D:ZipApart z TI TO i1 i2 l1 l2)(hz:IsZip s.heap z TI TO An.none)(hTI:Ex s.heap TI (An.ref i1) (An.ref i2))(hTO:Ex s.heap TO a b)
  (h1:s.heap.IsTupleIter i1 l1 k1) (h2:s.heap.IsTupleIter i2 l2 k2) (hl1:s.heap.IsTuple l1 xs) (hl2:s.heap.IsTuple l2 ys) (hx:xs[k1]?=some x) (hy:ys[k2]?=some y)
  (hQ:∀h':Heap,IsZip h' z TI TO (C9 s.heap.objs.size)->Ex h' TO x y->h'.IsTupleIter i1 l1 (k1+1)->h'.IsTupleIter i2 l2 (k2+1)->Ex h' s.heap.objs.size x y->h'.objs.size=s.heap.objs.size+1->(∀c o,c≠z->c≠TO->c≠i1->c≠i2->s.heap.get? c=some o->h'.get? c=some o)->Q (An.ref s.heap.objs.size) { s with heap:=h' }) :
  AM (A0 prog w) A (AZ.«zip.__next__» { pos:=[An.ref z] }) (fun fin s'=>∃v,fin=Fin.done (Flow.ret v)/\Q v s') E s:=by
 show AM _ _ (field (An.ref z) 2 >>= _) _ _ _;refine Ap (CY hz rfl rfl ?_);show AM _ _ (field (An.ref z) 3 >>= _) _ _ _;refine Ap (CY hz rfl rfl ?_);refine Ap (C5 hTI rfl ?_);show AM _ _ (AZ.SmallTypes.ownedTupleIsFree (An.ref z) >>= _) _ _ _;refine Ap ?_;show AM _ _ (field (An.ref z) 0 >>= _) _ _ _;refine Ap (CY hz rfl rfl (AE ?_));show AM _ _ (rule _ >>= _) _ _ _;refine Ap (F2 (Ap (CY hz rfl rfl ?_)));show AM _ _ (FR (An.ref z) 0 An.ellipsis >>= _) _ _ _;refine Ap (Ch hz (F8 (FS 4)) fun h₁ hz₁ hs₁=>?_);have old1:∀c o,c≠z->s.heap.get? c=some o->h₁.get? c=some o:=fun c o hc e=>(hs₁.2 c hc).trans e;have h1a:h₁.IsTupleIter i1 l1 k1:=h1.at fun o e=>old1 i1 o D.i1z e;have h2a:h₁.IsTupleIter i2 l2 k2:=h2.at fun o e=>old1 i2 o D.i2z e;have tup:∀{h:Heap}{l:Addr}{vs:Array An},s.heap.IsTuple l vs->(∀o,s.heap.get? l=some o->h.get? l=some o)->h.IsTuple l vs:=fun⟨o,e,r⟩ k=>⟨o,k o e,r⟩;refine Ap ?_;show AM _ _ (forIn [(An.ref i1,0),(An.ref i2,1)] (none,()) _) _ _ _;rw[EX];refine Ap ?_;show AM _ _ ((Sem.onRaise (AZ.SmallTypes.nextOf (An.ref i1) >>= fun v=>pure (some v)) (fun _=>FR (An.ref z) 0 An.none)) >>= _) _ _ _;refine Ap (Hn (Ap (gM (s:={ s with heap:=h₁ }) h1a (tup hl1 fun o e=>old1 l1 o D.l1z e) hx fun h₂ h1b sb₂=>AE ?_)));have old2:∀c o,c≠z->c≠i1->s.heap.get? c=some o->h₂.get? c=some o:=fun c o hc hc1 e=>(sb₂.2 c hc1).trans (old1 c o hc e);have hTO2:Ex h₂ TO a b:=old2 TO _ D.TOz D.TOi1 hTO;show AM _ _ (seqItems? (An.ref TO) >>= _) _ _ _;refine Ap (C5 (s:={ s with heap:=h₂ }) hTO2 rfl ?_);show AM _ _ (updateSeq TO _ >>= _) _ _ _;refine Ap (IJ (s:={ s with heap:=h₂ }) hTO2 fun h₃ g₃ sb₃=>?_);refine Ap (wpAny_letGo (AE ?_));show AM _ _ (forIn [(An.ref i2,1)] (none,()) _) _ _ _;rw[EX];refine Ap ?_;have old3:∀c o,c≠z->c≠i1->c≠TO->s.heap.get? c=some o->h₃.get? c=some o:=fun c o hc hc1 hc2 e=>(sb₃.2 c hc2).trans (old2 c o hc hc1 e);have h2c:h₃.IsTupleIter i2 l2 k2:=h2.at fun o e=>old3 i2 o D.i2z (B6 D.i12) (B6 D.TOi2) e;have g₃':Ex h₃ TO x b:=g₃;show AM _ _ ((Sem.onRaise (AZ.SmallTypes.nextOf (An.ref i2) >>= fun v=>pure (some v)) (fun _=>FR (An.ref z) 0 An.none)) >>= _) _ _ _;refine Ap (Hn (Ap (gM (s:={ s with heap:=h₃ }) h2c (tup hl2 fun o e=>old3 l2 o D.l2z D.l2i1 D.l2TO e) hy fun h₄ h2d sb₄=>AE ?_)));have hTO4:Ex h₄ TO x b:=(sb₄.2 TO D.TOi2).trans g₃';show AM _ _ (seqItems? (An.ref TO) >>= _) _ _ _;refine Ap (C5 (s:={ s with heap:=h₄ }) hTO4 rfl ?_);show AM _ _ (updateSeq TO _ >>= _) _ _ _
 refine Ap (IJ (s:={ s with heap:=h₄ }) hTO4 fun h₅ g₅ sb₅=>?_);refine Ap (wpAny_letGo (AE ?_));have g₅':Ex h₅ TO x y:=g₅;show AM _ _ (forIn [] (none,()) _) _ _ _;rw[forIn_nil];refine AE ?_;show AM _ _ (seqItems? (An.ref TO) >>= _) _ _ _;refine Ap (C5 (s:={ s with heap:=h₅ }) g₅' rfl ?_);show AM _ _ (newTuple [x,y] >>= _) _ _ _;refine Ap (IL ?_ (by show 2<=AK;decide));have sz:h₅.objs.size=s.heap.objs.size:=by
  rw[sb₅.1,sb₄.1,sb₃.1,sb₂.1,hs₁.1]
 have z5:h₅.get? z=_:=(sb₅.2 z (B6 D.TOz)).trans ((sb₄.2 z (B6 D.i2z)).trans ((sb₃.2 z (B6 D.TOz)).trans ((sb₂.2 z (B6 D.i1z)).trans hz₁)));have z6:(h₅.push { cls:=An.type "tuple",data:=GA #[x,y] }).get? z=_:=AB _ z5;refine Ap ?_;show AM _ _ (FR (An.ref z) 0 (C9 h₅.objs.size) >>= fun _=>FR (An.ref z) 1 (An.bool false)) _ _ _;refine Ap (Ch (s:={ s with heap:=h₅.push { cls:=An.type "tuple",data:=GA #[x,y] } }) z6 (F8 (FS 4)) fun h₇ hz₇ hs₇=>?_);refine Ch (s:={ s with heap:=h₇ }) hz₇ (F8 (FS 3)) fun h₈ hz₈ hs₈=>?_;have nzs:s.heap.objs.size≠z:=fun q=>by
  have:=A3 hz;rw[<- q] at this;exact C6 _ this
 have old6:∀c o,h₅.get? c=some o->(h₅.push { cls:=An.type "tuple",data:=GA #[x,y] }).get? c=some o:=fun c o e=>AB _ e;have old8:∀c o,c≠z->h₅.get? c=some o->h₈.get? c=some o:=fun c o hc e=>(hs₈.2 c hc).trans ((hs₇.2 c hc).trans (old6 c o e));have new8:h₈.get? s.heap.objs.size=some { cls:=An.type "tuple",data:=GA #[x,y] }:=by
  refine(hs₈.2 _ nzs).trans ((hs₇.2 _ nzs).trans ?_);show(h₅.push { cls:=An.type "tuple",data:=GA #[x,y] }).get? s.heap.objs.size=_;rw[<- sz];exact AY _ rfl
 refine AE ⟨_,rfl,?_⟩;rw[show(({ s with heap:=h₅ }:AC).heap.objs.size)=s.heap.objs.size from sz];refine hQ h₈ ?_ ?_ ?_ ?_ new8 ?_ ?_
 ·rw[sz] at hz₈;exact hz₈
 ·exact old8 TO _ D.TOz g₅'
 ·refine h1b.at fun o e=>old8 i1 o D.i1z ?_;exact(sb₅.2 i1 (B6 D.TOi1)).trans ((sb₄.2 i1 D.i12).trans ((sb₃.2 i1 (B6 D.TOi1)).trans e))
 ·refine h2d.at fun o e=>old8 i2 o D.i2z ?_;exact(sb₅.2 i2 (B6 D.TOi2)).trans e
 ·rw[hs₈.1,hs₇.1];show(h₅.push { cls:=An.type "tuple",data:=GA #[x,y] }).objs.size=_;rw[CA,sz]
 intro c o hc1 hc2 hc3 hc4 e;exact old8 c o hc1 ((sb₅.2 c hc2).trans ((sb₄.2 c hc4).trans (old3 c o hc1 hc3 hc2 e)))
theorem nU {prog:AU}{w:Be}{A:BA}{E:An->AC->Prop}{s:AC}{z TI TO i1 i2 l1 l2:Addr}{k1 k2:Nat}{xs ys:Array An}{x y a b:An}{Q:Option An->AC->Prop}(D:ZipApart z TI TO i1 i2 l1 l2)(hz:IsZip s.heap z TI TO An.none)(hTI:Ex s.heap TI (An.ref i1) (An.ref i2))(hTO:Ex s.heap TO a b)
  (h1:s.heap.IsTupleIter i1 l1 k1) (h2:s.heap.IsTupleIter i2 l2 k2) (hl1:s.heap.IsTuple l1 xs) (hl2:s.heap.IsTuple l2 ys) (hx:xs[k1]?=some x) (hy:ys[k2]?=some y)
  (hQ:∀h':Heap,IsZip h' z TI TO (C9 s.heap.objs.size)->Ex h' TO x y->h'.IsTupleIter i1 l1 (k1+1)->h'.IsTupleIter i2 l2 (k2+1)->Ex h' s.heap.objs.size x y->h'.objs.size=s.heap.objs.size+1->(∀c o,c≠z->c≠TO->c≠i1->c≠i2->s.heap.get? c=some o->h'.get? c=some o)->Q (some (An.ref s.heap.objs.size)) { s with heap:=h' }) :
  AM (A0 prog w) A (FH (An.ref z)) Q E s:=by
 have hT:∃o,s.heap.get? z=some o/\o.cls=An.type "zip" := ⟨_,hz,rfl⟩;exact Ap (F9 (Cb hT IB (Co IB hT F.entry_zip_next
  (yM D hz hTI hTO h1 h2 hl1 hl2 hx hy fun h' a1 a2 a3 a4 a5 a6 a7=>AE (hQ h' a1 a2 a3 a4 a5 a6 a7)) (F.args_zip_next_1 (An.ref z)))))
theorem Bs {prog:AU}{w:Be}{A:BA}{E:An->AC->Prop}{s:AC}{z TI TO i1 i2 l1 l2:Addr}{k1 k2:Nat}{xs ys:Array An}{a b:An}{Q:PySem.Fin->AC->Prop}(hh:A.handled=none)(D:ZipApart z TI TO i1 i2 l1 l2)(hz:IsZip s.heap z TI TO An.none)(hTI:Ex s.heap TI (An.ref i1) (An.ref i2))(hTO:Ex s.heap TO a b)
  (h1:s.heap.IsTupleIter i1 l1 k1) (h2:s.heap.IsTupleIter i2 l2 k2) (hl1:s.heap.IsTuple l1 xs) (hl2:s.heap.IsTuple l2 ys) (hend:xs[k1]?=none\/ys[k2]?=none)
  (hE:∀(h':Heap)(e:Addr),(∀c o,c≠z->c≠TO->c≠i1->c≠i2->s.heap.get? c=some o->h'.get? c=some o)->(∃o,h'.get? e=some o/\o.cls=An.type "StopIteration")->E (An.ref e) { s with heap:=h' }) :
  AM (A0 prog w) A (AZ.«zip.__next__» { pos:=[An.ref z] }) Q E s:=by
 show AM _ _ (field (An.ref z) 2 >>= _) _ _ _;refine Ap (CY hz rfl rfl ?_);show AM _ _ (field (An.ref z) 3 >>= _) _ _ _;refine Ap (CY hz rfl rfl ?_);refine Ap (C5 hTI rfl ?_);show AM _ _ (AZ.SmallTypes.ownedTupleIsFree (An.ref z) >>= _) _ _ _;refine Ap ?_;show AM _ _ (field (An.ref z) 0 >>= _) _ _ _;refine Ap (CY hz rfl rfl (AE ?_));show AM _ _ (rule _ >>= _) _ _ _;refine Ap (F2 (Ap (CY hz rfl rfl ?_)));show AM _ _ (FR (An.ref z) 0 An.ellipsis >>= _) _ _ _;refine Ap (Ch hz (F8 (FS 4)) fun h₁ hz₁ hs₁=>?_);have old1:∀c o,c≠z->s.heap.get? c=some o->h₁.get? c=some o:=fun c o hc e=>(hs₁.2 c hc).trans e;have h1a:h₁.IsTupleIter i1 l1 k1:=h1.at fun o e=>old1 i1 o D.i1z e;have tup:∀{h:Heap}{l:Addr}{vs:Array An},s.heap.IsTuple l vs->(∀o,s.heap.get? l=some o->h.get? l=some o)->h.IsTuple l vs:=fun⟨o,e,r⟩ k=>⟨o,k o e,r⟩;have out:∀{h:Heap}{e:Addr}{vs:Array An},h.get? z=some { cls:=An.type "zip",data:=CI vs }->0<vs.size->(∀c o,c≠z->c≠TO->c≠i1->c≠i2->s.heap.get? c=some o->h.get? c=some o)->(∃o,h.get? e=some o/\o.cls=An.type "StopIteration") ->
   AM (A0 prog w) A (FR (An.ref z) 0 An.none) (fun _ s''=>E (An.ref e) s'') E { s with heap:=h }:=fun {h e vs} ez hv hk he=>by
  refine Ch (s:={ s with heap:=h }) ez hv fun h' _ hs=>hE h' e (fun c o c1 c2 c3 c4 g=>(hs.2 c c1).trans (hk c o c1 c2 c3 c4 g)) ?_;obtain⟨o,ho,hc⟩:=he;refine⟨o,(hs.2 e fun q=>?_).trans ho,hc⟩;rw[q,ez] at ho;cases ho;injection hc with hc;exact absurd hc δ
 refine Ap ?_;show AM _ _ (forIn [(An.ref i1,0),(An.ref i2,1)] (none,()) _) _ _ _;rw[EX];refine Ap ?_;show AM _ _ ((Sem.onRaise (AZ.SmallTypes.nextOf (An.ref i1) >>= fun v=>pure (some v)) (fun _=>FR (An.ref z) 0 An.none)) >>= _) _ _ _;cases hx:xs[k1]? with
 | none=>
  refine Ap (Hn (Ap (jG (s:={ s with heap:=h₁ }) hh h1a (tup hl1 fun o e=>old1 l1 o D.l1z e) hx fun h₂ e ext he=>?_)));exact out (h:=h₂) (ext z _ (B6 D.i1z) hz₁) (F8 (FS 4)) (fun c o c1 c2 c3 c4 g=>ext c o c3 (old1 c o c1 g)) he
 | some x=>
  have hy:ys[k2]?=none:=by
   rcases hend with q|q
   ·rw[hx] at q;cases q
   exact q
  refine Ap (Hn (Ap (gM (s:={ s with heap:=h₁ }) h1a (tup hl1 fun o e=>old1 l1 o D.l1z e) hx fun h₂ h1b sb₂=>AE ?_)));have old2:∀c o,c≠z->c≠i1->s.heap.get? c=some o->h₂.get? c=some o:=fun c o hc hc1 e=>(sb₂.2 c hc1).trans (old1 c o hc e);have hTO2:Ex h₂ TO a b:=old2 TO _ D.TOz D.TOi1 hTO;show AM _ _ (seqItems? (An.ref TO) >>= _) _ _ _;refine Ap (C5 (s:={ s with heap:=h₂ }) hTO2 rfl ?_);show AM _ _ (updateSeq TO _ >>= _) _ _ _;refine Ap (IJ (s:={ s with heap:=h₂ }) hTO2 fun h₃ g₃ sb₃=>?_);refine Ap (wpAny_letGo (AE ?_));show AM _ _ (forIn [(An.ref i2,1)] (none,()) _) _ _ _;rw[EX];refine Ap ?_;have old3:∀c o,c≠z->c≠i1->c≠TO->s.heap.get? c=some o->h₃.get? c=some o:=fun c o hc hc1 hc2 e=>(sb₃.2 c hc2).trans (old2 c o hc hc1 e);have h2c:h₃.IsTupleIter i2 l2 k2:=h2.at fun o e=>old3 i2 o D.i2z (B6 D.i12) (B6 D.TOi2) e;have z3:h₃.get? z=_:=(sb₃.2 z (B6 D.TOz)).trans ((sb₂.2 z (B6 D.i1z)).trans hz₁);show AM _ _ ((Sem.onRaise (AZ.SmallTypes.nextOf (An.ref i2) >>= fun v=>pure (some v)) (fun _=>FR (An.ref z) 0 An.none)) >>= _) _ _ _;refine Ap (Hn (Ap (jG (s:={ s with heap:=h₃ }) hh h2c (tup hl2 fun o e=>old3 l2 o D.l2z D.l2i1 D.l2TO e) hy fun h₄ e ext he=>?_)));exact out (h:=h₄) (ext z _ (B6 D.i2z) z3) (F8 (FS 4)) (fun c o c1 c2 c3 c4 g=>ext c o c4 (old3 c o c1 c3 c2 g)) he
theorem pH {prog:AU}{w:Be}{A:BA}{E:An->AC->Prop}{s:AC}{z TI TO i1 i2 l1 l2:Addr}{k1 k2:Nat}{xs ys:Array An}{a b:An}{Q:Option An->AC->Prop}(hh:A.handled=none)(D:ZipApart z TI TO i1 i2 l1 l2)(hz:IsZip s.heap z TI TO An.none)(hTI:Ex s.heap TI (An.ref i1) (An.ref i2))(hTO:Ex s.heap TO a b)
  (h1:s.heap.IsTupleIter i1 l1 k1) (h2:s.heap.IsTupleIter i2 l2 k2) (hl1:s.heap.IsTuple l1 xs) (hl2:s.heap.IsTuple l2 ys) (hend:xs[k1]?=none\/ys[k2]?=none)
  (hQ:∀h':Heap,(∀c o,c≠z->c≠TO->c≠i1->c≠i2->s.heap.get? c=some o->h'.get? c=some o)->Q none { s with heap:=h' }):AM (A0 prog w) A (FH (An.ref z)) Q E s:=by
 have hT:∃o,s.heap.get? z=some o/\o.cls=An.type "zip" := ⟨_,hz,rfl⟩;exact Ap (F9 (Cb hT IB (Co IB hT F.entry_zip_next
  (Bs hh D hz hTI hTO h1 h2 hl1 hl2 hend fun h' e hk he=>by
   obtain⟨o,ho,hc⟩:=he;exact Ap (HH ⟨o,ho,hc⟩ isSubtype_stop (AE (hQ h' hk)))) (F.args_zip_next_1 (An.ref z)))))
noncomputable def tz1 (h:Heap) (l1:Addr):Heap:=h.push { cls:=An.type "tuple_iterator",data:=CI #[An.ref l1,An.int 0 0] }
noncomputable def tz2 (h:Heap) (l1 l2:Addr):Heap:=(tz1 h l1).push { cls:=An.type "tuple_iterator",data:=CI #[An.ref l2,An.int 0 0] }
noncomputable def tz3 (h:Heap) (l1 l2:Addr):Heap:=(tz2 h l1 l2).push { cls:=An.type "tuple",data:=GA #[An.ref h.objs.size,An.ref (tz1 h l1).objs.size] }
noncomputable def tz4 (h:Heap) (l1 l2:Addr):Heap:=(tz3 h l1 l2).push { cls:=An.type "tuple",data:=GA #[An.none,An.none] }
noncomputable def tz5 (h:Heap) (l1 l2:Addr):Heap:=(tz4 h l1 l2).push { cls:=An.type "zip",data:=CI #[An.none,An.bool false,An.bool false,An.ref (tz2 h l1 l2).objs.size,An.ref (tz3 h l1 l2).objs.size] }
theorem R7 (l1 l2:Addr) (xs ys:Array An):Meets (AZ.«zip.__new__» { pos:=[An.type "zip",An.ref l1,An.ref l2] }) fun _ R s=>
  s.heap.IsTuple l1 xs/\s.heap.IsTuple l2 ys/\R (.ok (.ret (.ref (tz4 s.heap l1 l2).objs.size))) { s with heap:=tz5 s.heap l1 l2 }:=by
 refine Meets.of_wp fun prog w A R s h=>?_;obtain⟨ht1,ht2,hR⟩:=h;unfold AZ.«zip.__new__» AZ.SmallTypes.newClass;refine Ap (Ap (AE (EM rfl (Ap (GG sub_zip (EM rfl (AE ?_)))))));show AM _ _ (AZ.SmallTypes.iterAll [An.ref l1,An.ref l2] >>= _) _ _ _;refine Ap ?_;unfold AZ.SmallTypes.iterAll;refine Ap ?_;rw[EX];refine Ap (Ap (CL (EJ ht1 (AE ?_))));show AM _ _ (forIn [An.ref l2] #[An.ref s.heap.objs.size] _) _ _ _;rw[EX];have ht2':(tz1 s.heap l1).IsTuple l2 ys:=by
  obtain⟨o,e,r⟩:=ht2;exact⟨o,AB _ e,r⟩
 refine Ap (Ap (CL (EJ (s:={ s with heap:=tz1 s.heap l1 }) ht2' (AE ?_))));show AM _ _ (forIn [] #[An.ref s.heap.objs.size,An.ref (tz1 s.heap l1).objs.size] _) _ _ _;rw[forIn_nil];refine AE (AE ?_);show AM _ _ (newTuple [An.ref s.heap.objs.size,An.ref (tz1 s.heap l1).objs.size] >>= _) _ _ { s with heap:=tz2 s.heap l1 l2 };refine Ap (IL ?_ (by show 2<=AK;decide));show AM _ _ (newTuple [An.none,An.none] >>= _) _ _ { s with heap:=tz3 s.heap l1 l2 };refine Ap (IL ?_ (by show 2<=AK;decide));show AM _ _ (newObj (.type "zip") (.fields #[.none,.bool false,.bool false,.ref (tz2 s.heap l1 l2).objs.size,.ref (tz3 s.heap l1 l2).objs.size]) >>= fun r=>ret r) _ _ { s with heap:=tz4 s.heap l1 l2 };refine Ap (BF ?_);exact AE ⟨_,rfl,hR⟩
theorem JM {prog:AU}{w:Be}{A:BA}{E:An->AC->Prop}{s:AC}{l1 l2:Addr}{xs ys:Array An}{Q:An->AC->Prop}(hl1:s.heap.IsTuple l1 xs)(hl2:s.heap.IsTuple l2 ys)
  (h:∀h':Heap,IsZip h' (s.heap.objs.size+4) (s.heap.objs.size+2) (s.heap.objs.size+3) An.none->Ex h' (s.heap.objs.size+2) (An.ref s.heap.objs.size) (An.ref (s.heap.objs.size+1))->Ex h' (s.heap.objs.size+3) An.none An.none->h'.IsTupleIter s.heap.objs.size l1 0->h'.IsTupleIter (s.heap.objs.size+1) l2 0 ->
   h'.objs.size=s.heap.objs.size+5->(∀c o,s.heap.get? c=some o->h'.get? c=some o)->Q (An.ref (s.heap.objs.size+4)) { s with heap:=h' }):AM (A0 prog w) A (call (An.type "zip") [An.ref l1,An.ref l2]) Q E s:=by
 refine callType_new F.called_zip δ (F.typeCall_zip_2 _ _) (F.newCall_zip_2 _ _) (fun obj=>F.args_object_init_3 obj _ _) F.entry_zip_new (R7 l1 l2 xs ys) ⟨hl1,hl2,?_⟩;have z1:(tz1 s.heap l1).objs.size=s.heap.objs.size+1:=CA ..;have z2:(tz2 s.heap l1 l2).objs.size=s.heap.objs.size+2:=(CA ..).trans (by rw[z1]);have z3:(tz3 s.heap l1 l2).objs.size=s.heap.objs.size+3:=(CA ..).trans (by rw[z2]);have z4:(tz4 s.heap l1 l2).objs.size=s.heap.objs.size+4:=(CA ..).trans (by rw[z3]);have z5:(tz5 s.heap l1 l2).objs.size=s.heap.objs.size+5:=(CA ..).trans (by rw[z4]);have g5:(tz5 s.heap l1 l2).get? (tz4 s.heap l1 l2).objs.size=_:=AY _ rfl;have g4:(tz5 s.heap l1 l2).get? (tz3 s.heap l1 l2).objs.size=_:=AB _ (AY _ rfl);have g3:(tz5 s.heap l1 l2).get? (tz2 s.heap l1 l2).objs.size=_:=AB _ (AB _ (AY _ rfl));have g2:(tz5 s.heap l1 l2).get? (tz1 s.heap l1).objs.size=_:=AB _ (AB _ (AB _ (AY _ rfl)));have g1:(tz5 s.heap l1 l2).get? s.heap.objs.size=_:=AB _ (AB _ (AB _ (AB _ (AY _ rfl))));have hk:∀c o,s.heap.get? c=some o->(tz5 s.heap l1 l2).get? c=some o:=fun c o e=>AB _ (AB _ (AB _ (AB _ (AB _ e))));rw[z4,z2,z3] at g5;rw[z3] at g4;rw[z2,z1] at g3;rw[z1] at g2;rw[z4];generalize tz5 s.heap l1 l2=h' at z5 g5 g4 g3 g2 g1 hk;exact⟨⟨_,g5,rfl⟩,h h' g5 g3 g4 ⟨_,g1,rfl,rfl⟩ ⟨_,g2,rfl,rfl⟩ z5 hk⟩
noncomputable def Itu (K:Au)(a b:Addr):It:=
 ⟨fun i H=>∃xs ys x y,SqT K H a xs/\SqT K H b ys/\xs[i]?=some x/\ys[i]?=some y,
  fun i H v H'=>∃p x y,v=.ref p/\H p=none/\H'=upd H p (.tup [x,y])/\(∀xs,SqT K H a xs->xs[i]?=some x)/\∀ys,SqT K H b ys->ys[i]?=some y,
  fun i H=>∃xs ys,SqT K H a xs/\SqT K H b ys/\(xs[i]?=none\/ys[i]?=none)⟩
theorem Pk {P:AU}{w:Be}{K:Au}{es:List Expr}{kk:Nat}{tpos:Pos}{z TI TO i1 i2 l1 l2:Addr}(D:ZipApart z TI TO i1 i2 l1 l2) :
  Turn P w K (.Tuple es kk tpos) (Itu K l1 l2) [z,TI,TO,i1,i2] z (fun i h=>IsZip h z TI TO .none/\Ex h TI (.ref i1) (.ref i2)/\(∃a b,Ex h TO a b)/\h.IsTupleIter i1 l1 i/\h.IsTupleIter i2 l2 i) where
 mem:=by simp
 obj:=fun i h st b hb=>by
  obtain⟨hz,hTI,⟨a,b',hTO⟩,⟨o1,e1,c1,d1⟩,⟨o2,e2,c2,d2⟩⟩:=st;simp only[AX,Bz,or_false] at hb;rcases hb with rfl|rfl|rfl|rfl|rfl
  ·exact⟨_,hz,fun v q=>by cases q⟩
  ·exact⟨_,hTI,fun v q=>by cases q⟩
  ·exact⟨_,hTO,fun v q=>by cases q⟩
  ·exact⟨o1,e1,fun v q=>by rw[d1] at q;cases q⟩
  exact⟨o2,e2,fun v q=>by rw[d2] at q;cases q⟩
 keep:=fun i h h' st k=>by
  obtain⟨hz,hTI,⟨a,b',hTO⟩,h1,h2⟩:=st;exact⟨k z (by simp) _ hz,k TI (by simp) _ hTI,⟨a,b',k TO (by simp) _ hTO⟩,h1.at fun o e=>k i1 (by simp) o e,h2.at fun o e=>k i2 (by simp) o e⟩
 item:=by
  intro X hP hw hK hc i pins s σ H E I hf st hg;subst hP hw hK;obtain⟨xs,ys,x,y,q1,q2,hx,hy⟩:=hg;obtain⟨its1,rv1,p1,hz1⟩:=I.tuple q1;obtain⟨its2,rv2,p2,hz2⟩:=I.tuple q2;obtain⟨u1,hu1,ru1⟩:=rv1.get hx;obtain⟨u2,hu2,ru2⟩:=rv2.get hy;obtain⟨hz,hTI,⟨a,b',hTO⟩,h1,h2⟩:=st;refine nU D hz hTI hTO h1 h2 p1 p2 (x:=u1) (y:=u2) (by simpa using hu1) (by simpa using hu2) fun h' a1 a2 a3 a4 a5 a6 hk=>?_;have new:cI X.prog X.w (upd H s.heap.objs.size (.tup [x,y])) h' s.heap.objs.size (.tup [x,y]):=⟨by show 2<=AK;decide,[u1,u2],.cons ru1 (.cons ru2 .nil),_,a5,rfl,_,rfl⟩;have I1:Inv X pins σ (upd H s.heap.objs.size (.tup [x,y])) { s with heap:=h' }:=I.Sy (t':=s.toks) (ch:=[z,TO,i1,i2]) (fun b hb=>hf b (by
   simp only[AX,Bz,or_false] at hb |-;rcases hb with r|r|r|r <;> simp [r]))
   (fun b o hb e=>hk b o (fun q=>hb (by simp [q])) (fun q=>hb (by simp [q])) (fun q=>hb (by simp [q])) (fun q=>hb (by simp [q])) e) (A9 _) new
  have hTI':Ex h' TI (.ref i1) (.ref i2):=hk _ _ D.TIz D.TITO D.TIi1 D.TIi2 hTI;have hsz:∀b,b∈[z,TI,TO,i1,i2]->b≠s.heap.objs.size:=fun b hb=>by
   obtain⟨_,_,hlt,_⟩:=hf b hb;have lt:∃o,s.heap.get? b=some o:=by
    simp only[AX,Bz,or_false] at hb;rcases hb with rfl|rfl|rfl|rfl|rfl
    ·exact⟨_,hz⟩
    ·exact⟨_,hTI⟩
    ·exact⟨_,hTO⟩
    ·obtain⟨o,e,_⟩:=h1;exact⟨o,e⟩
    obtain⟨o,e,_⟩:=h2;exact⟨o,e⟩
   obtain⟨o,e⟩:=lt;exact BG (A3 e)
  refine⟨_,rfl,wpAny_letOwnedTupleGo_zip (s:={ s with heap:=h' }) a1 fun h'' z2 sb=>?_⟩;have fz:=hf z (by simp);have I2:Inv X pins σ (upd H s.heap.objs.size (.tup [x,y])) { s with heap:=h'' }:=Inv.turned (s:={ s with heap:=h' }) (it:=z) (t':=s.toks) I1 (fun b o hb e=>(sb.2 b hb).trans e) (by rw[aM (hsz z (by simp))];exact fz.1) fz.2.1 fz.2.2.2.1 fz.2.2.2.2.1 fz.2.2.2.2.2;refine⟨.ref s.heap.objs.size,_,I2,rfl,⟨_,x,y,rfl,I.fresh,rfl,fun xs' q=>by rw[I.qZ q q1];exact hx,fun ys' q=>by rw[I.qZ q q2];exact hy⟩,
   ⟨z2,(sb.2 _ D.TIz).trans hTI',⟨_,_,(sb.2 _ D.TOz).trans a2⟩,a3.extBut sb.extBut D.i1z,a4.extBut sb.extBut D.i2z⟩,fun b hb=>by rw[aM (hsz b hb)];exact(hf b hb).1⟩
 done:=by
  intro X hP hw hK hc i pins s σ H E I hf st hg;subst hP hw hK;obtain⟨xs,ys,q1,q2,hx⟩:=hg;obtain⟨its1,rv1,p1,hz1⟩:=I.tuple q1;obtain⟨its2,rv2,p2,hz2⟩:=I.tuple q2;obtain⟨hz,hTI,⟨a,b',hTO⟩,h1,h2⟩:=st;have hend:its1.toArray[i]?=none\/its2.toArray[i]?=none:=by
   rcases hx with r|r
   ·exact .inl (by simpa using rv1.none_of r)
   exact .inr (by simpa using rv2.none_of r)
  refine pH (I.ok.hd hc) D hz hTI hTO h1 h2 p1 p2 hend fun h' hk=>⟨rfl,?_⟩;exact I.SJ (t':=s.toks) (ch:=[z,TO,i1,i2]) (fun b hb=>hf b (by
   simp only[AX,Bz,or_false] at hb |-;rcases hb with r|r|r|r <;> simp [r]))
   (fun b o hb e=>hk b o (fun q=>hb (by simp [q])) (fun q=>hb (by simp [q])) (fun q=>hb (by simp [q])) (fun q=>hb (by simp [q])) e)
 self:=fun _ _ _ _ _ st h=>wpAny_pyIter_zip st.1 h
inductive RowC where
 | one (n t:Int)
 | rng (a b t:Int)
 | low (n t:Int)
 | msk (lo wd bits t:Int)
 | tab (lo:Int) (gs:List Int)
 | pik (l:Int)
noncomputable def scV:AD->Option V
 | .int i=>some (.int i)
 | .str z=>some (.str z)
 | _=>none
theorem aJ.sc {ok:Addr->Prop}{H:Hp}{x v:V}{d:AD}(t:aJ ok H x d)(h:scV d=some v):x=v:=by
 cases t with
 | int i=>exact A7 h
 | str z=>exact A7 h
 | _=>cases h
theorem aH.sc {ok:Addr->Prop}{H:Hp}:∀{xs vs:List V}{ds:List AD},aH ok H xs ds->ds.map scV=vs.map some->xs=vs
 | _,[],_,.nil,_=>rfl
 | _,v::vs,_,.nil,h=>by cases h
 | _,[],_,.cons _ _,h=>by cases h
 | _,v::vs,_,.cons t ts,h=>by
  rw[DV,DV] at h;injection h with h1 h2;rw[t.sc h1,ts.sc h2]
theorem aH.uncons {ok:Addr->Prop}{H:Hp}{xs:List V}{d:AD}{ds:List AD}(t:aH ok H xs (d::ds)):∃x r,xs=x::r/\aJ ok H x d/\aH ok H r ds:=by
 cases t with
 | cons h r=>exact⟨_,_,rfl,h,r⟩
theorem aJ.tupOf {ok:Addr->Prop}{H:Hp}{x:V}{ds:List AD}(t:aJ ok H x (.tuple ds)):∃p xs,x=.ref p/\H p=some (.tup xs)/\aH ok H xs ds:=by
 cases t with
 | tup o e z ts=>exact⟨_,_,rfl,e,ts⟩
theorem QX (pre:List Int)(j:Int):atI ((pre++[j]).map V.int) (-1)=some (V.int j):=by
 unfold atI ixN;rw[if_neg δ,if_pos (by rw[AG,AI,BE];omega)];show((pre++[j]).map V.int)[_]?=_;rw[show(-1+(((pre++[j]).map V.int).length:Int)).toNat=pre.length by rw[AG,AI,BE];omega,A5,Cs (A9 _),IH];rfl
section
variable {X:Cx}{e o:Expr}{te to:TE}{pos:Pos}
noncomputable def ints1 (H:Hp)(p:Addr)(is:List Int):Prop:=H p=some (.lst (is.map V.int))\/H p=some (.tup (is.map V.int))
theorem jf {is:List Int}{its:List An}(r:Vals (is.map V.int) its)(i:Nat)(v:An)(h:its.toArray[i]?=some v):∃t,v=An.int (is.getD i 0) t:=by
 have hl:=r.length;rw[AG] at hl;have hi:i<its.length:=by
  rcases GB i its.length with z|z
  ·exact z
  rw[HI,F1 z] at h;cases h
 have hx:(is.map V.int)[i]?=some (V.int (is.getD i 0)):=by
  rw[A5,AF ω,AO,AF ω];rfl
 obtain⟨u,hu,ru⟩:=r.get hx;rw[HI,hu] at h;cases h;exact ru
theorem rR (hc:X.calm=true):dN X (.builtin "min") (fun xs H Q=>∃p is,xs=[.ref p]/\ints1 H p is/\is≠[]/\∀M,M∈is->(∀a∈is,M<=a)->Q (.int M) H):=by
 intro pins s σ H xs us Q I r h;obtain⟨p,is,rfl,hp,hne,q⟩:=h;obtain⟨u,rfl,rv⟩:=vals1 r;cases rv;have hpos:0<is.length:=IM.mpr hne;have fin:∀{its:List An}(rvs:Vals (is.map V.int) its) (v:An) (h':Heap) (tk:Nat),its.toArray[argBest (fun i j=>decide (is.getD i 0<is.getD j 0)) (its.toArray.size-1)]?=some v->Inv X pins σ H { s with heap:=h',toks:=tk }->EP X pins σ Q v { s with heap:=h',toks:=tk }:=fun {its} rvs v h' tk hv I3=>by
  have hl:=rvs.length;rw[AG] at hl;obtain⟨t,rfl⟩:=jf rvs _ v hv;have hb:=argBest_lt (fun i=>is.getD i 0) (its.toArray.size-1);rw[AN] at hb |-;refine⟨.int _,H,I3,⟨_,rfl⟩,q _ ?_ ?_⟩
  ·rw[AO,AF ω];exact FA _
  intro a ha;obtain⟨j,hj,e⟩:=D1.mp ha;have:=hb.2 j ω;rw[show is.getD j 0=a by rw[AO,AF hj];exact e] at this;exact this
 have kept:∀{ob:Obj}{h':Heap}{tk:Nat},(∀(b:Addr)(o:Obj),¬b∈[s.heap.objs.size]->(s.heap.push ob).get? b=some o->h'.get? b=some o)->Inv X pins σ H { s with heap:=h',toks:=tk }:=fun {ob h' tk} hk=>
  I.kept (t':=tk) fun b o e=>hk b o (fun z=>BG (A3 e) (AJ.mp z)) (AB _ e)
 rcases hp with hp|hp
 ·obtain⟨its,rvs,pl,hz⟩:=I.list (SqL.of hp);have hl:=rvs.length;rw[AG] at hl;have pl':s.heap.IsList p its.toArray:=pl.isList;have hlt:p<s.heap.objs.size:=by obtain⟨_,e,_⟩:=pl';exact A3 e
  refine call_min_walk (D8 pl' ?_);refine⟨s.heap.objs.size,_,_,_,_,_,_,rfl,HZ (A:=X.A.in1) (I.ok.hd hc) s.heap.objs.size p (BG hlt) its.toArray,?_,fun b hb=>?_,?_,CmpOf.ints_lt (fun i=>is.getD i 0) fun i v hv=>jf rvs i v hv,fun v h' tk hv hk=>fin rvs v h' tk hv (kept hk)⟩
  ·obtain⟨ob,e,r⟩:=pl';exact⟨⟨_,AY _ rfl,rfl,rfl⟩,ob,AB _ e,r⟩
  ·rw[CA];simp only[AX,Bz,or_false] at hb;rcases hb with rfl|rfl
   ·exact Ct _
   exact CF hlt
  rw[AN];omega
 obtain⟨its,rvs,pl,hz⟩:=I.tuple (SqT.of hp);have hl:=rvs.length;rw[AG] at hl;have pl':s.heap.IsTuple p its.toArray:=pl;have hlt:p<s.heap.objs.size:=by obtain⟨_,e,_⟩:=pl';exact A3 e
 refine call_min_walk (EJ pl' ?_);refine⟨s.heap.objs.size,_,_,_,_,_,_,rfl,Walks.tuple (A:=X.A.in1) (I.ok.hd hc) s.heap.objs.size p (BG hlt) its.toArray,?_,fun b hb=>?_,?_,CmpOf.ints_lt (fun i=>is.getD i 0) fun i v hv=>jf rvs i v hv,fun v h' tk hv hk=>fin rvs v h' tk hv (kept hk)⟩
 ·obtain⟨ob,e,r⟩:=pl';exact⟨⟨_,AY _ rfl,rfl,rfl⟩,ob,AB _ e,r⟩
 ·rw[CA];simp only[AX,Bz,or_false] at hb;rcases hb with rfl|rfl
  ·exact Ct _
  exact CF hlt
 rw[AN];omega
theorem DY (hc:X.calm=true):dN X (.builtin "max") (fun xs H Q=>∃p is,xs=[.ref p]/\ints1 H p is/\is≠[]/\∀M,M∈is->(∀a∈is,a<=M)->Q (.int M) H):=by
 intro pins s σ H xs us Q I r h;obtain⟨p,is,rfl,hp,hne,q⟩:=h;obtain⟨u,rfl,rv⟩:=vals1 r;cases rv;have hpos:0<is.length:=IM.mpr hne;have fin:∀{its:List An}(rvs:Vals (is.map V.int) its) (v:An) (h':Heap) (tk:Nat),its.toArray[argBest (fun i j=>decide (is.getD i 0>is.getD j 0)) (its.toArray.size-1)]?=some v->Inv X pins σ H { s with heap:=h',toks:=tk }->EP X pins σ Q v { s with heap:=h',toks:=tk }:=fun {its} rvs v h' tk hv I3=>by
  have hl:=rvs.length;rw[AG] at hl;obtain⟨t,rfl⟩:=jf rvs _ v hv;have hb:=argBest_gt (fun i=>is.getD i 0) (its.toArray.size-1);rw[AN] at hb |-;refine⟨.int _,H,I3,⟨_,rfl⟩,q _ ?_ ?_⟩
  ·rw[AO,AF ω];exact FA _
  intro a ha;obtain⟨j,hj,e⟩:=D1.mp ha;have:=hb.2 j ω;rw[show is.getD j 0=a by rw[AO,AF hj];exact e] at this;exact this
 have kept:∀{ob:Obj}{h':Heap}{tk:Nat},(∀(b:Addr)(o:Obj),¬b∈[s.heap.objs.size]->(s.heap.push ob).get? b=some o->h'.get? b=some o)->Inv X pins σ H { s with heap:=h',toks:=tk }:=fun {ob h' tk} hk=>
  I.kept (t':=tk) fun b o e=>hk b o (fun z=>BG (A3 e) (AJ.mp z)) (AB _ e)
 rcases hp with hp|hp
 ·obtain⟨its,rvs,pl,hz⟩:=I.list (SqL.of hp);have hl:=rvs.length;rw[AG] at hl;have pl':s.heap.IsList p its.toArray:=pl.isList;have hlt:p<s.heap.objs.size:=by obtain⟨_,e,_⟩:=pl';exact A3 e
  refine call_max_walk (D8 pl' ?_);refine⟨s.heap.objs.size,_,_,_,_,_,_,rfl,HZ (A:=X.A.in1) (I.ok.hd hc) s.heap.objs.size p (BG hlt) its.toArray,?_,fun b hb=>?_,?_,CmpOf.ints_gt (fun i=>is.getD i 0) fun i v hv=>jf rvs i v hv,fun v h' tk hv hk=>fin rvs v h' tk hv (kept hk)⟩
  ·obtain⟨ob,e,r⟩:=pl';exact⟨⟨_,AY _ rfl,rfl,rfl⟩,ob,AB _ e,r⟩
  ·rw[CA];simp only[AX,Bz,or_false] at hb;rcases hb with rfl|rfl
   ·exact Ct _
   exact CF hlt
  rw[AN];omega
 obtain⟨its,rvs,pl,hz⟩:=I.tuple (SqT.of hp);have hl:=rvs.length;rw[AG] at hl;have pl':s.heap.IsTuple p its.toArray:=pl;have hlt:p<s.heap.objs.size:=by obtain⟨_,e,_⟩:=pl';exact A3 e
 refine call_max_walk (EJ pl' ?_);refine⟨s.heap.objs.size,_,_,_,_,_,_,rfl,Walks.tuple (A:=X.A.in1) (I.ok.hd hc) s.heap.objs.size p (BG hlt) its.toArray,?_,fun b hb=>?_,?_,CmpOf.ints_gt (fun i=>is.getD i 0) fun i v hv=>jf rvs i v hv,fun v h' tk hv hk=>fin rvs v h' tk hv (kept hk)⟩
 ·obtain⟨ob,e,r⟩:=pl';exact⟨⟨_,AY _ rfl,rfl,rfl⟩,ob,AB _ e,r⟩
 ·rw[CA];simp only[AX,Bz,or_false] at hb;rcases hb with rfl|rfl
  ·exact Ct _
  exact CF hlt
 rw[AN];omega
noncomputable def GP (ws:List Str)(w:Str)(j:Nat):Prop:=ws[j]?=some w/\∀m,m<j->ws[m]?≠some w
end
theorem En (l:Addr)(items:Array An)(x:An)(e:An->Bool)(j:Nat)(hj:j<items.size)(h1:e items[j]=true)(h2:∀m (hm:m<items.size),m<j->e items[m]=false) :
  Meets (AZ.«tuple.index» { pos:=[An.ref l,x] }) fun A R s=>s.heap.IsTuple l items/\(∀y,y∈items->B4 A.in1 s y x (e y))/\R (.ok (.ret (.int j s.toks))) { s with toks:=s.toks+1 }:=by
 refine Meets.of_wp fun prog w A R s h=>?_;obtain⟨⟨o,ho,hc,n,hd⟩,heq,hR⟩:=h;unfold AZ.«tuple.index» selfAndSome;refine Ap (Ap (GG (a:=()) rfl ?_));refine Ap (GG (a:=()) rfl (AE ?_));unfold AZ.Tuple.tupleItemsOf;refine Ap (Ap (C5 ho hd (AE ?_)));refine Ap (AE ?_);refine Ap (AE ?_);refine Ap ?_;rw[Std.Legacy.Range.forIn_eq_forIn_range'];have hsz:[:min items.size items.size].size=items.size:=by simp [Std.Legacy.Range.size]
 rw[hsz];refine wpAny_forIn_list _ (fun rest b s'=>b=(none,())/\s'=s/\∃i,rest=List.range' i (items.size-i)/\i<=j) _ ?_ ?_ _ _ ⟨rfl,rfl,0,rfl,ET _⟩
 ·rintro i rest b s' ⟨rfl,rfl,i0,hrest,hij⟩;obtain⟨k,hk⟩:∃k,items.size-i0=k+1:=⟨items.size-i0-1,ω⟩;rw[hk,List.range'_succ] at hrest;cases hrest;have hi:i<items.size:=ω;have he:items[i]?=some items[i]:=Array.getElem?_eq_getElem hi;simp only[he];refine Ap (heq _ (Array.getElem_mem hi) _ _ _ _ ?_);by_cases hj2:i=j
  ·subst hj2;rw[h1,if_pos rfl];refine Ap ?_;unfold retInt;refine Ap (wpAny_mkInt ?_);exact AE (AE (AE ⟨_,rfl,hR⟩))
  rw[h2 i hi ω,if_neg δ];exact AE ⟨rfl,rfl,i+1,by rw[show items.size-(i+1)=k by omega],ω⟩
 rintro b s' ⟨rfl,rfl,i,hrest,hij⟩;obtain⟨k,hk⟩:∃k,items.size-i=k+1:=⟨items.size-i-1,ω⟩;rw[hk,List.range'_succ] at hrest;cases hrest
section
variable {X:Cx}{e o:Expr}{te to:TE}{pos:Pos}
noncomputable def KTup (K:Au) (p:Addr) (xs:List V):Prop:=∃(o:Obj)(its:Array An)(n:Nat),K.lookup p=some o/\o.cls=.type "tuple" /\ o.dict=none/\o.data=.seq its n/\its.size<=AK/\Vals xs its.toList
theorem KTup.sq {K:Au}{p:Addr}{xs:List V}{H:Hp}(h:KTup K p xs):SqT K H p xs:=by
 obtain⟨o,its,n,h1,h2,_,h3,h4,h5⟩:=h;exact .inr ⟨o,its,n,h1,h2,h3,h4,h5⟩
noncomputable def SqB (b:Bool)(K:Au)(H:Hp)(p:Addr)(xs:List V):Prop:=match b with
 | true=>SqL K H p xs
 | false=>KTup K p xs
noncomputable def S5 (K:Au)(to te:TE):TE:=fun σ H Q=>to σ H fun x H1=>∃(p:Addr)(ws:List Str)(b:Bool),x=.ref p/\SqB b K H1 p (ws.map V.str)/\te σ H1 fun y H2=>∃w j,y=.str w/\SqB b K H2 p (ws.map V.str)/\GP ws w j/\Q (.int (j:Nat)) H2
theorem tK {ws:List Str}{its:List An}(r:Vals (ws.map V.str) its){i:Nat}{v:An}(h:its[i]?=some v):∃w t,ws[i]?=some w/\v=An.str w t:=by
 have hl:=r.length;rw[AG] at hl;have hi:=(AR.mp h).1;have hx:(ws.map V.str)[i]?=some (V.str ws[i]):=by rw[A5,AF ω];rfl
 obtain⟨u,hu,ru⟩:=r.get hx;rw[hu] at h;cases h;obtain⟨t,rfl⟩:=ru;exact⟨ws[i],t,AF ω,rfl⟩
theorem Yy {apos cpos:Pos}(hu:X.A.in1.units<FI)(ho:PE X o to)(he:PE X e te)
  (hbase:DS o "index" X.env (eval o X.env)=eval o X.env:=by rfl)
  (hfew:((CB cpos (AL [e] X.env)).all (fun x=>!x.1)&&(HG cpos (FB [] X.env)).all (fun x=>x.1.isSome)
   && decide ([e].length+([]:List EV).length+(if ([]:List EV).isEmpty then 0 else 1)<30))=true:=by rfl)
  (hline:(apos.endLine == cpos.line)=true:=by rfl) (hs:AL [e] X.env=(false,eval e X.env)::AL [] X.env:=by rfl) (hplain:(CB cpos (AL [] X.env)).any (·.1)=false:=by rfl) :
  PE X (.Call (.Attribute o "index" apos) [e] [] cpos) (S5 X.K to te):=by
 intro pins s σ H Q I h;refine FO hbase hfew hline rfl (thE (ho pins s σ H _ I h) fun v s1 x H1 I1 r1 q=>?_);obtain⟨p,ws,b,rfl,hq,q⟩:=q;have key:∀{its:List An}{w:Str}{j:Nat}{u:An}{s2:AC},Vals (ws.map V.str) its->GP ws w j->RelV (.str w) u->∃(g:An->Bool)(hj:j<its.toArray.size),g its.toArray[j]=true/\(∀m (hm:m<its.toArray.size),m<j->g its.toArray[m]=false)/\∀y,y∈its.toArray->B4 X.A.in1 s2 y u (g y):=fun {its w j u s2} rv hf ru=>by
  obtain⟨t,rfl⟩:=ru;have hl:=rv.length;rw[AG] at hl;have hj:j<its.length:=by have:=(AR.mp hf.1).1;omega
  refine⟨fun y=>match y with | .str z _=>z == w|_=>false,by simpa using hj,?_,fun m hm hmj=>?_,fun y hy=>?_⟩
  ·obtain⟨w',t',h1,h2⟩:=tK rv (AF hj);rw[hf.1] at h1;cases h1;have:its.toArray[j]=An.str w t':=by simpa using h2
   rw[this];simp
  ·have hm':m<its.length:=by simpa using hm
   obtain⟨w',t',h1,h2⟩:=tK rv (AF hm');have:its.toArray[m]=An.str w' t':=by simpa using h2
   rw[this];have hne:w'≠w:=fun z=>hf.2 m hmj (by rw[h1,z]);simpa using hne
  have hy':y∈its:=by simpa using hy
  obtain⟨m,hm,em⟩:=D1.mp hy';obtain⟨w',t',h1,h2⟩:=tK rv (AF hm);rw[em] at h2;rw[h2];exact B4.str_str w' t' w t
 cases b with
 | true=>
  obtain⟨h1,h2⟩:=yO (T := "list") I1 r1 (.inl ⟨rfl,_,hq⟩);refine⟨"list","list.index",FC,PySem.F.slot_list_index,PySem.F.type_list_index,h1,h2,?_⟩;rw[hs];refine DI (by show(false||(CB cpos (AL [] X.env)).any (·.1))=false;rw[hplain] <;> rfl) (E3 ?_)
  refine DU (thn (he pins s1 σ H1 _ I1 q) fun u s2 ⟨y,H2,I2,r2,w,j,ey,hq2,hf,q3⟩=>D4 ?_);subst ey;cases r1;obtain⟨its,rv,pl,hz⟩:=I2.list hq2;obtain⟨g,hj,g1,g2,g3⟩:=key (s2:=s2) rv hf r2;obtain⟨ob,n,eo,ec,ed,es⟩:=pl;cases ob with
  | mk cls dict data slots=>
   cases ec;cases es;have hj2:((j:Nat):Int)<2^63-1:=by
    rw[AN] at hj;have hl:=rv.length;have:=sizeLine_eq;omega
   refine Fm F.slot_list_index ⟨_,eo,rfl⟩ F.entry_list_index (F.args_list_index_2 _ _) (SeqAt.list_indexAt p its.toArray n _ _ u g j hj hj2 g1 g2) ⟨eo,g3,?_⟩;exact⟨.int (j:Nat),H2,I2.tok _,⟨_,rfl⟩,q3⟩
 | false=>
  obtain⟨h1,h2⟩:=yO (T := "tuple") I1 r1 (.inr (.inl ⟨rfl,by obtain⟨o,_,_,k1,k2,k3,_⟩:=hq;exact⟨o,k1,k2,k3⟩⟩));refine⟨"tuple","tuple.index",PySem.F.plainAttrs_tuple,PySem.F.slot_tuple_index,PySem.F.type_tuple_index,h1,h2,?_⟩;rw[hs];refine DI (by show(false||(CB cpos (AL [] X.env)).any (·.1))=false;rw[hplain] <;> rfl) (E3 ?_)
  refine DU (thn (he pins s1 σ H1 _ I1 q) fun u s2 ⟨y,H2,I2,r2,w,j,ey,hq2,hf,q3⟩=>D4 ?_);subst ey;cases r1;obtain⟨its,rv,pl,hz⟩:=I2.tuple (KTup.sq hq2);obtain⟨g,hj,g1,g2,g3⟩:=key (s2:=s2) rv hf r2;have pl':s2.heap.IsTuple p its.toArray:=pl;obtain⟨ob,eo,ec,n,ed⟩:=id pl';refine Fm F.slot_tuple_index ⟨_,eo,ec⟩ F.entry_tuple_index (F.args_tuple_index_2 _ _) (En p its.toArray u g j hj g1 g2) ⟨pl',g3,?_⟩;exact⟨.int (j:Nat),H2,I2.tok _,⟨_,rfl⟩,q3⟩
theorem Nv {apos cpos:Pos}(hu:X.A.in1.units<FI)(ho:QE X o to)(he:QE X e te)
  (hbase:DS o "index" X.env (eval o X.env)=eval o X.env:=by rfl)
  (hfew:((CB cpos (AL [e] X.env)).all (fun x=>!x.1)&&(HG cpos (FB [] X.env)).all (fun x=>x.1.isSome)
   && decide ([e].length+([]:List EV).length+(if ([]:List EV).isEmpty then 0 else 1)<30))=true:=by rfl)
  (hline:(apos.endLine == cpos.line)=true:=by rfl) (hs:AL [e] X.env=(false,eval e X.env)::AL [] X.env:=by rfl) (hplain:(CB cpos (AL [] X.env)).any (·.1)=false:=by rfl) :
  QE X (.Call (.Attribute o "index" apos) [e] [] cpos) (S5 X.K to te):=⟨Yy hu ho.h he.h hbase hfew hline hs hplain⟩
end
inductive Pl where
 | pick (l:Int)
 | one (k:Nat) (r:Pl)
 | wit (k:Nat) (r:Pl)
 | low (k:Nat) (a b:Pl)
 | msk (l:Int) (r:Pl)
 | tab
noncomputable def plD:Pl->AD
 | .pick l=>.tuple [.str "pick",.int l]
 | .one k r=>.tuple [.str "is",.int (k:Int),plD r]
 | .wit k r=>.tuple [.str "within",.int (k:Int),plD r]
 | .low k a b=>.tuple [.str "below",.int (k:Int),plD a,plD b]
 | .msk l r=>.tuple [.str "mask",.int l,plD r]
 | .tab=>.tuple [.str "table"]
noncomputable def pI:Pl->Nat
 | .pick _=>1
 | .one _ r=>pI r+1
 | .wit _ r=>pI r+1
 | .low _ a b=>pI a+pI b+1
 | .msk _ r=>pI r+1
 | .tab=>1
noncomputable abbrev Sts:=List (Int×Int×Int)
noncomputable def iH (ss:Sts)(k:Nat):Int×Int×Int:=ss.getD k (0,0,0)
structure Lf (ss:Sts)(left:List Nat):Prop where
 ne:left≠[]
 lt:∀k∈left,k<ss.length
 up:left.Pairwise (· < ·)
noncomputable def Et (ss:Sts)(f:List Nat->Pl->Int):Pl->List Nat->Int
 | .pick l,left=>f left (.pick l)
 | .tab,left=>f left .tab
 | .one k r,left=>f left (.one k r)+Et ss f r (left.filter (·≠k))
 | .wit k r,left=>f left (.wit k r)+Et ss f r (left.filter (·≠k))
 | .low k a b,left=>f left (.low k a b)+Et ss f a (left.filter (· < k))+Et ss f b (left.filter (k<=·))
 | .msk l r,left=>f left (.msk l r)+Et ss f r (left.filter fun k=>(iH ss k).2.2≠l)
noncomputable def xg (left:List Nat):AD:=.list (left.map fun(k:Nat)=>.int (k:Int))
noncomputable def dY (ss:Sts)(left:List Nat):Int:=(iH ss (left.getLast?.getD 0)).2.1-(iH ss (left.head?.getD 0)).1+1
noncomputable def Hz:Sp:=fun vs H Q _=>∃(s l:V)(ok:Addr->Prop)(ss:Sts)(left:List Nat),vs=[s,l]/\aJ ok H s (.list (ss.map stD))/\aJ ok H l (xg left)/\Lf ss left/\Q (.int (dY ss left)) H
theorem vJ {k:Nat}:∀{left:List Nat},left.Pairwise (· < ·)->left.drop (left.filter (· < k)).length=left.filter (k<=·)
 | [],_=>rfl
 | a::left,h=>by
  rw[ER] at h;by_cases ha:a<k
  ·rw[EK (by simpa using ha),EL (by simpa using ha),BN,List.drop_succ_cons];exact vJ h.2
  have h1:left.filter (· < k)=[]:=Iq.mpr fun b hb=>by have:=h.1 b hb;simp;omega
  have h2:left.filter (k<=·)=left:=List.filter_eq_self.mpr fun b hb=>by have:=h.1 b hb;simp;omega
  rw[EL (by simpa using ha),h1,EK (by simp;omega),h2];rfl
theorem Y9 {ok:Addr->Prop}{H:Hp}(left:List Nat):aH ok H (left.map fun(k:Nat)=>V.int (k:Int)) (left.map fun(k:Nat)=>AD.int (k:Int)):=by
 induction left with
 | nil=>exact .nil
 | cons a l ih=>exact .cons (.int _) ih
theorem aH.nats {ok:Addr->Prop}{H:Hp}:∀{xs:List V}{left:List Nat},aH ok H xs (left.map fun(k:Nat)=>AD.int (k:Int))->xs=left.map fun(k:Nat)=>V.int (k:Int)
 | _,[],.nil=>rfl
 | _,a::l,.cons h r=>by
  cases h;rw[r.nats];rfl
theorem aJ.left {ok:Addr->Prop}{H:Hp}{x:V}{left:List Nat}(t:aJ ok H x (xg left)):∃a,x=.ref a/\ok a/\H a=some (.lst (left.map fun(k:Nat)=>V.int (k:Int)))/\left.length<=1000000:=by
 cases t with
 | lst o e z ts=>
  rw[ts.nats] at e z;rw[AG] at z;exact⟨_,rfl,o,e,z⟩
theorem aaD {ss:Sts}{k:Nat}(h:k<ss.length):ss[k]?=some (iH ss k):=by
 unfold iH;rw[AO,AF h];rfl
theorem aH.stN {ok:Addr->Prop}{H:Hp}{xs:List V}{ss:Sts}(t:aH ok H xs (ss.map stD)){k:Nat}(h:k<ss.length):∃a,atI xs (k:Int)=some (.ref a)/\H a=some (.tup [.int (iH ss k).1,.int (iH ss k).2.1,.int (iH ss k).2.2]):=by
 have hl:=t.length;rw[AG] at hl;have hx:xs[k]?=some xs[k]:=AF ω;obtain⟨a,s,h1,_,h2,h3⟩:=t.st hx;rw[aaD h] at h2;cases h2;refine⟨a,?_,h3⟩;rw[<- h1];exact dH hx
noncomputable def nv (left:List Nat):List V:=left.map fun(k:Nat)=>V.int (k:Int)
theorem iJ (left:List Nat):(nv left).length=left.length:=by unfold nv;rw[AG]
theorem Vf {left:List Nat}{i:Nat}{x:V}(h:(nv left)[i]?=some x):∃k,left[i]?=some k/\x=.int (k:Int):=by
 unfold nv at h;rw[A5] at h;cases e:left[i]? with
 | none=>rw[e] at h;cases h
 | some k=>rw[e] at h;cases h;exact⟨k,rfl,rfl⟩
theorem N6 {left:List Nat}(h:left≠[]):∃k,left.getLast?=some k/\k∈left/\atI (nv left) (-1)=some (.int (k:Int)):=by
 obtain⟨a,b,rfl⟩:=wB left (IM.mpr h);refine⟨b,by simp,by simp,?_⟩;have:=QX (a.map fun(k:Nat)=>(k:Int)) (b:Int);unfold nv;rw[show((a++[b]).map fun(k:Nat)=>V.int (k:Int))=((a.map fun(k:Nat)=>(k:Int))++[(b:Int)]).map V.int by simp];exact this
theorem N7 {left:List Nat}(h:left≠[]):∃k,left.head?=some k/\k∈left/\atI (nv left) 0=some (.int (k:Int)):=by
 cases left with
 | nil=>exact absurd rfl h
 | cons a l=>exact⟨a,rfl,A6,dH (j:=0) (show(nv (a::l))[0]?=_ from rfl)⟩
theorem DW {left:List Nat}{P:Nat->Bool}{i k:Nat}(h:left[i]?=some k):(left.take (i+1)).filter P=(left.take i).filter P++(if P k=true then [k] else []):=by
 rw[take_snoc h,List.filter_append];cases hp:P k with
 | true=>rw[EK hp];rfl
 | false=>rw[EL (by rw[hp];decide)];rfl
theorem abx (a b:List Nat):nv (a++b)=nv a++nv b:=by unfold nv;rw[BC]
theorem Ab {ok:Addr->Prop}{H:Hp}{a:Addr}{left:List Nat}(h:ok a)(e:H a=some (.lst (nv left)))(hl:left.length<=1000000):aJ ok H (.ref a) (xg left):=.lst h e (by rw[iJ];exact hl) (Y9 left)
theorem wL {K:Au}{mp:List (Option Nat)}{g:TG}{tc:TT}{te:TE}{σ:St}{H:Hp}{Q:VK}{R:It->Hp->Prop}{a:Addr}{left:List Nat}(P:Nat->Bool)(okT:St->Prop)(hR:R=R5 mp g tc te σ Q)(e:H a=some (.lst (nv left)))(hz:left.length<=1000000)(h0:okT (mq mp σ))
  (hs:∀(i k:Nat) τ (acc:List V) (Pn:List V->St->Hp->Prop),left[i]?=some k->okT τ->(P k=true->∀τ1,okT τ1->Pn (acc++[V.int (k:Int)]) τ1 H)->(P k=false->∀τ1,okT τ1->Pn acc τ1 H)->g (.int (k:Int)) τ H fun τ1 H4=>tc τ1 H4 fun b H5=>if b=true then te τ1 H5 fun v H6=>Pn (acc++[v]) τ1 H6 else Pn acc τ1 H5)
  (hd:∀d,H d=none->Q (.ref d) (upd H d (.lst (nv (left.filter P))))):R (Itl K a) H:=by
 refine oW hR (xs:=nv left) (aX (by rw[iJ];exact hz)) (fun i acc τ H'=>H'=H/\acc=nv ((left.take i).filter P)/\okT τ) ⟨rfl,rfl,h0⟩ ?_ ?_ ?_ ?_
 ·rintro i acc τ H' ⟨_,rfl,_⟩;rw[iJ];exact BB (DT _ _) (G1 _ _)
 ·rintro i acc τ H' ⟨rfl,_,_⟩;exact SqL.of e
 ·rintro i x acc τ H' hx ⟨rfl,rfl,ht⟩;obtain⟨k,hk,rfl⟩:=Vf hx;refine hs i k τ _ (fun acc τ H1=>H1=H'/\acc=nv ((left.take (i+1)).filter P)/\okT τ) hk ht (fun hp τ1 h1=>⟨rfl,?_,h1⟩) (fun hp τ1 h1=>⟨rfl,?_,h1⟩)
  ·rw[DW hk,abx,if_pos hp];rfl
  rw[DW hk,if_neg (by rw[hp];decide),Cf]
 rintro acc τ H' d ⟨rfl,rfl,_⟩ hdn;rw[FU (by rw[iJ];exact A9 _)];exact hd d hdn
noncomputable def lz:Pl->Str
 | .pick _ => "pick"
 | .one _ _ => "is"
 | .wit _ _ => "within"
 | .low _ _ _ => "below"
 | .msk _ _ => "mask"
 | .tab => "table"
noncomputable def ug:Pl->Nat
 | .pick _=>0
 | .one _ _=>0
 | .wit _ _=>1
 | .low _ _ _=>2
 | .msk _ _=>3
 | .tab=>4
noncomputable def vh:Pl->Bool
 | .pick _=>true
 | _=>false
noncomputable def jC:List Str:=["is","within","below","mask","table"]
theorem LR {p:Pl}(h:vh p=false):GP jC (lz p) (ug p):=by
 cases p with
 | pick l=>cases h
 | one k r=>exact⟨rfl,fun m hm=>absurd hm (Nat.not_lt_zero _)⟩
 | wit k r=>exact⟨rfl,fun m hm=>by
   have:m=0:=by simp only[ug] at hm;omega
   subst this;exact(by decide +kernel:(some ("is" : Str))≠some "within")⟩
 | low k a b=>exact⟨rfl,fun m hm=>by
   have:m=0\/m=1:=by simp only[ug] at hm;omega
   rcases this with rfl|rfl
   ·exact(by decide +kernel:(some ("is" : Str))≠some "below")
   exact(by decide +kernel:(some ("within" : Str))≠some "below")⟩
 | msk l r=>exact⟨rfl,fun m hm=>by
   have:m=0\/m=1\/m=2:=by simp only[ug] at hm;omega
   rcases this with rfl|rfl|rfl
   ·exact(by decide +kernel:(some ("is" : Str))≠some "mask")
   ·exact(by decide +kernel:(some ("within" : Str))≠some "mask")
   exact(by decide +kernel:(some ("below" : Str))≠some "mask")⟩
 | tab=>exact⟨rfl,fun m hm=>by
   have:m=0\/m=1\/m=2\/m=3:=by simp only[ug] at hm;omega
   rcases this with rfl|rfl|rfl|rfl
   ·exact(by decide +kernel:(some ("is" : Str))≠some "table")
   ·exact(by decide +kernel:(some ("within" : Str))≠some "table")
   ·exact(by decide +kernel:(some ("below" : Str))≠some "table")
   exact(by decide +kernel:(some ("mask" : Str))≠some "table")⟩
theorem yL {zs:List Int}{i:Nat}(h:i<zs.length):atI (zs.map V.int) (i:Int)=some (.int (zs.getD i 0)):=by
 refine dH ?_;rw[A5,AF h,AO,AF h];rfl
theorem jn {K:Au}{mp:List (Option Nat)}{g:TG}{tc:TT}{te:TE}{σ:St}{H:Hp}{Q:VK}{R:It->Hp->Prop}{a:Addr}{left:List Nat}(fI:Nat->Int)(okT:St->Prop)(hR:R=R5 mp g tc te σ Q)(e:H a=some (.lst (nv left)))(hz:left.length<=1000000)(h0:okT (mq mp σ))
  (hs:∀(i k:Nat) τ (acc:List V) (Pn:List V->St->Hp->Prop),left[i]?=some k->okT τ->(∀τ1,okT τ1->Pn (acc++[V.int (fI k)]) τ1 H)->g (.int (k:Int)) τ H fun τ1 H4=>tc τ1 H4 fun b H5=>if b=true then te τ1 H5 fun v H6=>Pn (acc++[v]) τ1 H6 else Pn acc τ1 H5)
  (hd:∀d,H d=none->Q (.ref d) (upd H d (.lst ((left.map fI).map V.int)))):R (Itl K a) H:=by
 refine oW hR (xs:=nv left) (aX (by rw[iJ];exact hz)) (fun i acc τ H'=>H'=H/\acc=((left.take i).map fI).map V.int/\okT τ) ⟨rfl,rfl,h0⟩ ?_ ?_ ?_ ?_
 ·rintro i acc τ H' ⟨_,rfl,_⟩;rw[AG,AG];exact G1 _ _
 ·rintro i acc τ H' ⟨rfl,_,_⟩;exact SqL.of e
 ·rintro i x acc τ H' hx ⟨rfl,rfl,ht⟩;obtain⟨k,hk,rfl⟩:=Vf hx;refine hs i k τ _ (fun acc τ H1=>H1=H'/\acc=((left.take (i+1)).map fI).map V.int/\okT τ) hk ht (fun τ1 h1=>⟨rfl,?_,h1⟩);rw[take_snoc hk,BC,BC];rfl
 rintro acc τ H' d ⟨rfl,rfl,_⟩ hdn;rw[FU (by rw[iJ];exact A9 _)];exact hd d hdn
theorem X7 (K:Au){X:Cx}{tg l:Expr}{tl:TE}(hl:QE X l tl)(hK:X.K=K:=by rfl):QI X tg l (Jg K tl):=by
 subst hK;exact cU hl
noncomputable def sumK (ws:List Int)(left:List Nat):Int:=(left.map fun k=>ws.getD k 0).sum
noncomputable def cT (ws zs:List Int)(left:List Nat):Pl->Int
 | .pick _=>0
 | p=>zs.getD (ug p) 0*sumK ws left
theorem zG {ws zs:List Int}{left:List Nat}{p:Pl}(h:vh p=false):cT ws zs left p=zs.getD (ug p) 0*sumK ws left:=by
 cases p with
 | pick l=>cases h
 | _=>rfl
noncomputable def Few (zs:List Int):Prop:=∀z∈zs,-(2^40)<z/\z<2^40
theorem Few.at {zs:List Int}(h:Few zs)(i:Nat):-(2^64)<zs.getD i 0/\zs.getD i 0<2^64:=by
 rw[AO];cases e:zs[i]? with
 | none=>exact⟨δ,δ⟩
 | some z=>
  have:=h z (AV e);exact⟨by show -(2^64)<z;omega,by show z<2^64;omega⟩
noncomputable def Dd:Sp:=fun vs H Q _=>∃(p:Addr)(B:Int),vs=[.ref p,.int 5]/\aP H p B/\0<=B/\B<=900000 /\
 ∀(t:Addr)(zs:List Int) H',aW p H H'->aP H' p (B+20)->t≠p->H t=none->H' t=some (.tup (zs.map V.int))->zs.length=5->(∀z∈zs,1<=z/\z<=99)->Q (.ref t) H'
noncomputable def Dc:Sp:=fun vs H Q _=>∃(p:Addr)(m:Nat)(B:Int),vs=[.ref p,.int (m:Int)]/\aP H p B/\0<=B/\B<=900000/\m<=60 /\
 ∀(l:Addr)(ws:List Int) H',aW p H H'->aP H' p (B+130)->l≠p->H l=none->H' l=some (.lst (ws.map V.int))->ws.length=m->(∀z∈ws,0<=z/\z<=1000000)->Q (.ref l) H'
noncomputable def lbl (ss:Sts)(k:Nat):Int:=(iH ss k).2.2
noncomputable def vP (ss:Sts):Pl->List Nat->List (List Nat×Pl)
 | .pick l,left=>[(left,.pick l)]
 | .tab,left=>[(left,.tab)]
 | .one k r,left=>(left,.one k r)::vP ss r (left.filter (·≠k))
 | .wit k r,left=>(left,.wit k r)::vP ss r (left.filter (·≠k))
 | .low k a b,left=>(left,.low k a b)::(vP ss b (left.filter (k<=·))++vP ss a (left.filter (· < k)))
 | .msk l r,left=>(left,.msk l r)::vP ss r (left.filter fun k=>(iH ss k).2.2≠l)
noncomputable def VL (ss:Sts)(left:List Nat):Pl->Prop
 | .pick l=>∀k∈left,lbl ss k=l
 | .tab=>dY ss left<=200
 | .one k _=>k∈left/\(iH ss k).1=(iH ss k).2.1
 | .wit k _=>k∈left
 | .low k _ _=>k∈left
 | .msk l _=>dY ss left<=64/\∃k∈left,lbl ss k=l
noncomputable def PlV (ss:Sts):Pl->List Nat->Prop
 | .pick l,left=>Lf ss left/\VL ss left (.pick l)
 | .tab,left=>Lf ss left/\VL ss left .tab
 | .one k r,left=>(Lf ss left/\VL ss left (.one k r))/\PlV ss r (left.filter (·≠k))
 | .wit k r,left=>(Lf ss left/\VL ss left (.wit k r))/\PlV ss r (left.filter (·≠k))
 | .low k a b,left=>(Lf ss left/\VL ss left (.low k a b))/\PlV ss a (left.filter (· < k))/\PlV ss b (left.filter (k<=·))
 | .msk l r,left=>(Lf ss left/\VL ss left (.msk l r))/\PlV ss r (left.filter fun k=>(iH ss k).2.2≠l)
noncomputable def rT:Pl->Nat->List (Nat×Nat)
 | .pick _,_=>[]
 | .tab,_=>[]
 | .one _ r,p=>rT r (p+1)
 | .wit _ r,p=>rT r (p+1)
 | .msk _ r,p=>rT r (p+1)
 | .low _ a b,p=>rT b (p+1)++(p,p+1+pI b)::rT a (p+1+pI b)
noncomputable def abW:List Pl->List Nat->Nat->List (Nat×Nat)
 | [],_,_=>[]
 | c::rest,T,p=>rT c p++(match T with | []=>[]|t::T'=>match rest with | []=>[]|_::_=>(t,p+pI c)::abW rest T' (p+pI c))
noncomputable def dgQ (x y:V)(H:Hp)(Q:VK):Prop:=∃a v,x=.ref a/\CQ H a y (some v)/\Q v H
noncomputable def tDG (td ty:TE):TE:=fun σ H Q=>td σ H fun x H1=>ty σ H1 fun y H2=>dgQ x y H2 Q
theorem aaB (td ty:TE)(σ:St)(H:Hp)(Q:VK):tDG td ty σ H Q=td σ H fun x H1=>ty σ H1 fun y H2=>dgQ x y H2 Q:=rfl
noncomputable def dpQ (x y v:V)(H:Hp)(R:Hp->Prop):Prop:=∃a H4,x=.ref a/\R4 H a y v H4/\R H4
noncomputable def sDP (td ty tv:TE):TS:=fun D σ H=>tv σ H fun v H1=>td σ H1 fun x H2=>ty σ H2 fun y H3=>dpQ x y v H3 fun H4=>D.nx σ H4
theorem aaK (td ty tv:TE)(D:Ends)(σ:St)(H:Hp):sDP td ty tv D σ H=tv σ H fun v H1=>td σ H1 fun x H2=>ty σ H2 fun y H3=>dpQ x y v H3 fun H4=>D.nx σ H4:=rfl
section
variable {X:Cx}{o i e value:Expr}{pos pos' tpos:Pos}{td ty tv:TE}
theorem acs (hu:X.A.units+1<FI)(ho:QE X o td)(hi:QE X i ty)(hs:ab6 i):QE X (.Subscript o i pos) (tDG td ty):=⟨YC hu ho.h hi.h hs⟩
theorem acq (hu:X.A.units+1<FI)(ho:QE X o td)(hi:QE X i ty)(hv:QE X value tv)(hs:HC value (some (.Subscript o i pos')) pos.line X.env=pure false) :
  QS X (.Assign [.Subscript o i pos'] value pos) (sDP td ty tv):=⟨Yn hu ho.h hi.h hv.h hs⟩
end
noncomputable def rdA:=AA @aaB @aaK
noncomputable def oV (zs:List Int):List (Key×V):=[(DH "is",V.int (zs.getD 0 0)),(DH "within",V.int (zs.getD 1 0)),(DH "below",V.int (zs.getD 2 0)),(DH "mask",V.int (zs.getD 3 0)),(DH "table",V.int (zs.getD 4 0))]
theorem Wg (zs:List Int):(oV zs).length=5:=rfl
theorem ZD (zs:List Int):(iK [] (oV zs)).length<AK:=by
 have:=mU (oV zs) [];rw[Wg,length_nil] at this;exact FV this δ
theorem kne {a b:Str}(h:a≠b):¬(DH a:Key)=DH b:=fun e=>h (DH.inj e)
noncomputable def Z8 (P:AU)(w:Be)(o:Obj)(vs:List (Key×An)):Prop:=∃es ep,o.ExactDict/\o.data=Data.dict es ep/\PySem.KeysOf (eX P w) es/\Pairs (eX P w) es.toList vs/\(HE (fun x=>x.fst) vs).Nodup
theorem Z8.at {P:AU}{w:Be}{o:Obj}{vs:List (Key×An)}{h:Heap}{a:Addr}(d:Z8 P w o vs)(e:h.get? a=some o):h.DictOf (eX P w) a vs:=by
 obtain⟨es,ep,r⟩:=d;exact⟨o,es,ep,e,r⟩
theorem Wk {P:AU}{w:Be}{h:Heap}(hb:DE<h.objs.size):Z8 P w { cls:=.type "dict",data:=.dict #[] } []:=by
 obtain⟨_,_,vs,kv,o,es,ep,e,r⟩:=Wn (P:=P) (w:=w) (H:=fun _=>none) h hb;cases kv;have e2:(h.push { cls:=.type "dict",data:=.dict #[] }).get? h.objs.size=some { cls:=.type "dict",data:=.dict #[] }:=AY _ rfl;rw[e2] at e;cases e;exact⟨es,ep,r⟩
section
variable {prog:AU}{w:Be}{A:BA}{R:Result->AC->Prop}{s:AC}
theorem Mh {kx vx tg iter:Expr}{ifs:List Expr}{scope:D3}{pos:Pos}{it:An}{D:Addr}{env:Env}(J:Nat->AC->Prop)
  (turn:∀n s,J n s->AM (A0 prog w) A (FH it) (fun r s1=>match r with
   | none=>R (.ok .next) s1
   | some v=>AM (A0 prog w) A (GH tg it v) (fun _ s1'=>AM (A0 prog w) A (ES tg env v) (fun _ s2=>
     AM (A0 prog w) A (forIn ifs true fun c r=>if r=true then do let ok <- isTrue c env (eval c env);pure (C8 ok) else pure (C8 r)) (fun ok s3=>
      if ok=true then AM (A0 prog w) A (eval kx env) (fun x s4=>AM (A0 prog w) A (eval vx env) (fun y s4'=>
       AM (A0 prog w) A (dictSet D x y) (fun _ s5=>∃m,m<n/\J m s5) (FM (A0 prog w) A env fun e z=>R (.error e) z) s4') (FM (A0 prog w) A env fun e z=>R (.error e) z) s4) (FM (A0 prog w) A env fun e z=>R (.error e) z) s3
      else ∃m,m<n/\J m s3) (FM (A0 prog w) A env fun e z=>R (.error e) z) s2) (FM (A0 prog w) A env fun e z=>R (.error e) z) s1') (FM (A0 prog w) A env fun e z=>R (.error e) z) s1) (FM (A0 prog w) A env fun e z=>R (.error e) z) s)
  (n:Nat) (h:J n s):FK (A0 prog w) A (.compLoop (.DictComp kx vx [⟨tg,iter,ifs,0⟩] scope pos) 0 it (.ref D) env) R s:=by
 refine codeAny_loop rfl J (fun n z hJ=>?_) n h;show AM _ A ((compTurn (.DictComp kx vx [⟨tg,iter,ifs,0⟩] scope pos) 0 it (.ref D) env).onRaise (fun y=>do noteFrame y env;theTreesLotGoes y)) _ _ z;refine wpAny_noted ?_;rw[compTurn_dict];refine Ap (F5 (Ap (B5 (turn n z hJ) (fun r s1 h1=>?_) fun _ _ q=>q)));cases r with
 | none=>exact AE h1
 | some v=>
  refine Ap (B5 h1 (fun _ s1' h1'=>?_) fun _ _ q=>q);refine Ap (B5 h1' (fun _ s2 h2=>Ap (B5 h2 (fun ok s3 h3=>?_) fun _ _ q=>q)) fun _ _ q=>q);cases ok with
  | false=>exact AE ⟨rfl,h3⟩
  | true=>
   exact Ap (Ap (B5 h3 (fun x s4 h4=>Ap (CL (B5 h4 (fun y s4' h4'=>Ap (F5 (CL (B5 h4' (fun _ s5 h5=>AE ⟨rfl,h5⟩) fun _ _ q=>q)))) fun _ _ q=>q))) fun _ _ q=>q))
end
noncomputable def kvQ (kx:V)(R:Key->Prop):Prop:=∃k,kx=kV k/\R k
noncomputable def Ep (mp:List (Option Nat))(wi:TI)(g:TG)(tc:TT)(tk tv:TE):TE:=fun σ H Q=>wi σ H fun J H1=>
 ∃W:Nat->Nat->List (Key×V)->St->Hp->Prop,(∃m,W 0 m [] (mq mp σ) H1)/\∀i m acc τ H2,W i m acc τ H2 ->
  (J.stop i H2/\∀d,H2 d=none->Q (.ref d) (upd H2 d (.dK acc))) \/
  (J.go i H2/\acc.length<AK/\∃N:List (Key×V)->St->Hp->Prop,(∀acc' τ' H',N acc' τ' H'->∃m',m'<m/\W (i+1) m' acc' τ' H')/\∀x H3,J.yld i H2 x H3->g x τ H3 fun τ1 H4=>tc τ1 H4 fun b H5=>
   if b=true then tk τ1 H5 fun kv H6=>tv τ1 H6 fun v H7=>kvQ kv fun k=>N (putK acc k v) τ1 H7 else N acc τ1 H5)
section
variable {X:Cx}{NX N:List Str}{kX:List (Str×CM)}{mp:List (Option Nat)}{scope:D3}
set_option maxHeartbeats 8000000 in
theorem Yk {tg iter kx vx:Expr}{ifs:List Expr}{pos pos' pos2:Pos}{wi:TI}{g:TG}{tc:TT}{tk tv:TE}{i:Nat}{x:Str}(N:List Str)(mp:List (Option Nat))(hn:Nm X.N X.env.scope i x)(hNd:X.N.Nodup)(hNX:X.N=NX)(hkX:X.env.scope.names=kX)(S:xO NX kX N mp scope)(hc:X.calm=true)
  (hi:PI X tg iter wi) (hg:∀cl C s H fp,PG (bQ X N scope cl C s H fp) tg g) (ht:∀cl C s H fp,PTs (bQ X N scope cl C s H fp) ifs tc) (hek:∀cl C s H fp,PE (bQ X N scope cl C s H fp) kx tk) (hev:∀cl C s H fp,PE (bQ X N scope cl C s H fp) vx tv)
  (hf:X.fn x=true\/X.env.scope.names.lookup x=some .local:=by exact .inl rfl)
  (hsw:F6 [.Name x pos'] (.DictComp kx vx [⟨tg,iter,ifs,0⟩] scope pos) pos2.line X.env=pure true:=by rfl)
  (h1:(CU [.Name x pos'] X.env).map (·.2)=[ES (.Name x pos') X.env]:=by rfl)
  (hs:∀x,DD iter X.env x=pure x:=by intro _;rfl):PS X (.Assign [.Name x pos'] (.DictComp kx vx [⟨tg,iter,ifs,0⟩] scope pos) pos2) (uG (Ep mp wi g tc tk tv) (j6 i)):=by
 intro pins s σ H Dn I h;rw[exec_Assign_arm];refine Ap (F5 ?_);rw[hsw];refine Ap (AE ?_);rw[if_pos rfl,h1];replace h:Ep mp wi g tc tk tv σ H (fun v H1=>Dn.nx (σ.set i (some v)) H1):=h;obtain⟨cl,hcl,hsub,hhas⟩:=G3 (env:=X.env) (scope:=scope) fun y hy hf=>I.ok.has y.1 (by
  rcases S.fre y hy hf with q|q
  ·exact .inl (show X.env.scope.names.lookup y.1=_ by rw[hkX];exact q)
  exact .inr (show X.env.scope.names.lookup y.1=_ by rw[hkX];exact q))
 generalize hQ:(fun(v:V)(H1:Hp)=>Dn.nx (σ.set i (some v)) H1)=Q at h
 let QQ:An->AC->Prop:=fun _ s'=>∃τ H',Inv X pins τ H' s'/\Dn.nx τ H'
 refine Ap (Ap (thn (Q:=QQ) (Hm (e:=.DictComp kx vx [⟨tg,iter,ifs,0⟩] scope pos) (use:=some fun v=>assignAll v [ES (.Name x pos') X.env]) rfl hs hcl S.kind S.locs ?_) fun _ s' ⟨τ,H',I',q'⟩=>AE (AE ⟨τ,H',I',q'⟩)));refine thn (hi pins s σ H _ I h) fun v s1 h1=>thn h1 fun itv s2 h2=>?_;obtain⟨it,fp,tn,J,H2,e,I2,T,st2,f2,W,⟨m0,w0⟩,turn⟩:=h2;subst e;refine BF (Go S.nocell (by intro y hy;simp at hy) (fun h3 hns hsb=>?_) S.kind);dsimp only at hns hsb |-;have hold:∀b∈fp,b<s2.heap.objs.size:=fun b hb=>by
  obtain⟨o,q,_⟩:=T.obj _ _ st2 b hb;exact A3 q
 generalize hD:s2.heap.objs.size=D at hns hsb;generalize hH2:s2.heap.push { cls:=.type "dict",dict:=none,data:=.dict #[] }=P2 at hns hsb |-;have hC:P2.objs.size=D+1:=by rw[<- hH2,CA,hD]
 generalize hC':P2.objs.size=C at hns hsb |-;rw[hC'] at hC;have old:∀b o,s2.heap.get? b=some o->h3.get? b=some o:=fun b o q=>by
  have hb:=A3 q;exact hsb.extBut b o (na1 hb hD hC) (AB _ (hH2 ▸ AB _ q))
 have accD:h3.get? D=some { cls:=.type "dict",data:=.dict #[] }:=
  hsb.extBut _ _ (na2 hC) (AB _ (by rw[<- hH2,<- hD];exact AY _ rfl))
 have hfr:D∉frs X.stack:=fun z=>by
  rcases AX.mp (I2.tO D z) with q|q
  ·exact na0 I2.lt hD q.symm
  exact I2.Y7 (na4 hD) q
 have I0:Inv (bQ X N scope cl C s2 H2 fp) [(D,{ cls:=.type "dict",data:=.dict #[] })] (mq mp σ) H2 { s2 with heap:=h3,toks:=s2.toks+([]:List (Str×An)).length }:=
  GZ (s':={ s2 with heap:=h3,toks:=s2.toks+([]:List (Str×An)).length }) hNX hkX S I2 f2 hold (na3 hD hC) hsub hhas rfl rfl ⟨_,hns⟩ old fun p hp=>by
   have ep:=AJ.mp hp;subst ep;exact⟨accD,I2.hok.fresh (na4 hD),na2 hC,hfr,fun v z=>by cases z⟩
 have hsys:(D == DE)=false:=by
  have t1:@LT.lt Nat _ DE s2.heap.objs.size:=I2.big;have t2:@Eq Nat s2.heap.objs.size D:=hD;exact beq_false_of_ne (by intro(z:@Eq Nat _ _);omega)
 have T0:tn 0 h3:=T.keep _ _ _ st2 fun b _ o q=>old b o q;have loop:∀z:AC,z={ s2 with heap:=h3,toks:=s2.toks+([]:List (Str×An)).length } ->
   FK (A0 X.prog X.w) X.A (.compLoop (.DictComp kx vx [⟨tg,iter,ifs,0⟩] scope pos) 0 (.ref it) (.ref D) (Gc scope cl C X.env))
    (compPost (A0 X.prog X.w) X.A X.xe (some fun v=>assignAll v [ES (.Name x pos') X.env]) QQ (.ref D) C) z:=by
  rintro z rfl;have stat:∀{H':Hp}{pl:List (Addr×Obj)},(∀b∈fp,H' b=none)->(∀p∈pl,p.1=D)->∀b∈fp,sU (bQ X N scope cl C s2 H2 fp) pl H' b:=fun hn hp b hb=>by
   have hb2:=hold b hb;refine⟨hn b hb,na1 hb2 hD hC,(GX hkX S I2 f2 hold (na3 hD hC) hsub hhas).exfs b hb,.inl hb,fun x c q=>(f2 b hb).2.2.2.2.1 x c (hsub x c q),fun p hpp=>?_⟩;have hpD:=hp p (by simpa [bQ] using hpp);rw[hpD];exact(na0 hb2 hD).symm
  refine Mh (env:=Gc scope cl C X.env) (fun n z=>∃i acc τ H' o vs,Inv (bQ X N scope cl C s2 H2 fp) [(D,o)] τ H' z/\Z8 X.prog X.w o vs/\tn i z.heap/\(∀b∈fp,H' b=none)/\KV acc vs/\acc.length<=AK/\W i n acc τ H')
   ?_ m0 ⟨0,[],_,H2,_,[],I0,Wk I2.big,T0,fun b hb=>(f2 b hb).1,.nil,ET _,w0⟩
  rintro n s5 ⟨i,acc,τ,H5,ob,vs,I5,dob,st5,fr5,va,hz,w5⟩;rcases turn i n acc τ H5 w5 with⟨stop,qn⟩|⟨go,hz2,N9,hN9,step⟩
  ·refine thn (T.done (bQ X N scope cl C s2 H2 fp) rfl rfl rfl hc i _ s5 τ H5 _ I5 (stat fr5 (by simp)) st5 stop) fun r s6 ⟨hr,I6⟩=>?_;subst hr;obtain⟨m6,hn6,_⟩:=I6.loc;obtain⟨dD,nD,_,_,_⟩:=I6.pin (D,_) (Bi _ (AJ.mpr rfl));have U:=I6.base;have nC:H5 C=none:=I6.free;have ne:∀b o,s2.heap.get? b=some o->b≠C/\b≠D:=fun b o q=>by
    exact⟨na1 (A3 q) hD hC,na0 (A3 q) hD⟩
   have key:∀h',B7 C s6.heap h'->Inv X pins σ (upd H5 D (.dK acc)) { s6 with heap:=h' }:=fun h' sb=>by
    have keepC:∀b o,b≠C->s6.heap.get? b=some o->h'.get? b=some o:=fun b o hb q=>(sb.2 b hb).trans q;have U':Un (frs X.stack) fp H2 (upd H5 D (.dK acc)) s2.heap h':=by
     refine⟨fun b o q n1 hb hx=>keepC b o (ne b o q).1 (U.keep b o q n1 hb hx),fun b o q n1 hb hx=>?_,fun b o q n1 hx=>?_,fun b o q hx=>?_,fun b xs q=>?_,fun b o xs q=>?_,fun b ps q=>?_⟩
     ·obtain⟨sl,z⟩:=U.slot b o q n1 hb hx;exact⟨sl,keepC b _ (ne b o q).1 z⟩
     ·rw[aM (ne b o q).2];exact U.free b o q n1 hx
     ·obtain⟨o',z⟩:=U.there b o q hx;exact⟨o',keepC b _ (ne b o q).1 z⟩
     ·have z:=U.tups b xs q;rw[aM (aF z nD)];exact z
     ·have z:=U.frzs b o xs q;rw[aM (aF z nD)];exact z
     obtain⟨more,z⟩:=U.tbls b ps q;exact⟨more,by rw[aM (aF z nD)];exact z⟩
    have hok:HOk X.prog X.w (upd H5 D (.dK acc)) h':=fun b u q=>by
     by_cases hb:b=D
     ·subst hb;rw[aB] at q;cases q;exact Wm hz hsys va (dob.at (keepC _ _ (na2 hC) dD))
     rw[aM hb] at q;refine(I6.hok b u q).stay (fun c v hcc z=>keepC c v ?_ z) (fun c z=>by rw[aM (aF z nD)];exact z) fun c xs z=>by rw[aM (aF z nD)];exact z
     rcases hcc with z1|z1
     ·subst z1;exact aF q nC
     exact aF z1 nC
    have I7:Inv X pins σ (upd H5 D (.dK acc)) { s6 with heap:=h' }:=I2.call' (s':={ s6 with heap:=h' }) (ch:=fp) I6.os U' hok I6.bare fun b hb=>by
     obtain⟨_,a2,_,a4,a5,a6⟩:=f2 b hb;exact⟨a4,a2,a5,a6⟩
    exact I7
   have I7:Inv X pins σ (upd H5 D (.dK acc)) s6:=key s6.heap (B7.refl _ _);have lC:X.env.locals≠C:=na1 I2.lt hD hC;have cC:∀y c,X.env.cells.lookup y=some c->c≠C:=fun y c z=>by
    obtain⟨_,o,h1,_⟩:=I2.cell y c z;exact na1 (A3 h1) hD hC
   show AM _ _ (ES (.Name x pos') X.env (.ref D)) _ _ s6;refine wpAny_assign_Name (vO (v:=.ref D) I7 hNd hn.hN hn.hv rfl (fun s7 I8 ⟨a,sa,ha⟩=>?_) hf);have aC:a≠C:=by
    rcases ha with rfl|ha
    ·exact lC
    exact cC _ _ ha
   obtain⟨o6,es6,ep6,g1,g2,g3,g4⟩:=hn6;refine⟨m6,⟨o6,es6,ep6,(sa.2 C (B6 aC)).trans g1,g2,g3,g4⟩,fun h' sb=>?_⟩;have q9:=qn D nD;rw[<- hQ] at q9;refine⟨_,_,I8.turned (it:=C) (t':=s7.toks) (fun b o hb q=>(sb.2 b hb).trans q) ?_ (B6 lC) (.inr (BB I2.sz (na3 hD hC))) cC (fun p hp=>?_),q9⟩
   ·rw[aM (B6 (na2 hC))];exact nC
   obtain⟨h1,_⟩:=I2.pin p hp;exact na1 (A3 h1) hD hC
  refine thn (T.item (bQ X N scope cl C s2 H2 fp) rfl rfl rfl hc i _ s5 τ H5 _ I5 (stat fr5 (by simp)) st5 go) fun r s6 ⟨u,hr,h6⟩=>?_;subst hr;refine thn h6 fun _ s7 ⟨x,H7,I7,r7,y7,st7,fr7⟩=>?_;have I7':=I7.pinned (stat fr7 (by simp)) (T.obj _ _ st7);have no:∀{α:Type}{t:Sem α}{Q1 Q2:α->AC->Prop}{E:An->AC->Prop}{z:AC},AM (A0 X.prog X.w) X.A t Q1 (fun _ _=>False) z->(∀a z,Q1 a z->Q2 a z)->AM (A0 X.prog X.w) X.A t Q2 E z:=
   fun q f=>B5 q f fun _ _ z=>z.elim
  refine no (hg cl C s2 H2 fp _ s7 τ H7 x u _ I7' r7 (step x H7 y7)) fun _ s8 ⟨τ1,H8,I8,q8⟩=>?_;refine no (ht cl C s2 H2 fp _ s8 τ1 H8 _ I8 q8) fun ok s9 ⟨H9,I9,q9⟩=>?_;have IA:∀{H':Hp}{z:AC}{o':Obj},Inv (bQ X N scope cl C s2 H2 fp) ([(D,o')]++jE fp s7.heap) τ1 H' z ->
    tn (i+1) z.heap/\(∀b∈fp,H' b=none)/\Inv (bQ X N scope cl C s2 H2 fp) [(D,o')] τ1 H' z:=fun {H' z o'} Iz=>by
   have get:∀b∈fp,∀o,s7.heap.get? b=some o->z.heap.get? b=some o/\H' b=none:=fun b hb o q=>by
    obtain⟨a1,a2,_⟩:=Iz.pin (b,o) (Bi _ (Bi _ (lM hb q)));exact⟨a1,a2⟩
   refine⟨T.keep _ _ _ st7 fun b hb o q=>(get b hb o q).1,fun b hb=>?_,Iz.mY⟩;obtain⟨o,q,_⟩:=T.obj _ _ st7 b hb;exact(get b hb o q).2
  cases ok with
  | false=>
   rw[if_neg A4] at q9 |-;obtain⟨m',hm,w9⟩:=hN9 _ _ _ q9;obtain⟨a1,a2,a3⟩:=IA I9;exact⟨m',hm,i+1,acc,τ1,H9,ob,vs,a3,dob,a1,a2,va,hz,w9⟩
  | true=>
   rw[if_pos rfl] at q9 |-;refine no (hek cl C s2 H2 fp _ s9 τ1 H9 _ I9 q9) fun uk s10 ⟨xk,H10,I10,rk,q10⟩=>?_;refine no (hev cl C s2 H2 fp _ s10 τ1 H10 _ I10 q10) fun y s11 ⟨v,H11,I11,rv,kk,ek,q11⟩=>?_;subst ek;obtain⟨m',hm,w11⟩:=hN9 _ _ _ q11;obtain⟨a1,a2,a3⟩:=IA I11;obtain⟨dD,nD,_,_,_⟩:=a3.pin (D,_) (Bi _ (AJ.mpr rfl));have hlen:=va.length;refine wpAny_dictSet_pairs (knd:=eX X.prog X.w) (Ol rk) (dob.at dD) (fun h' dd sb=>?_) (by rw[<- hlen];omega);obtain⟨o',es',ep',g1,g2⟩:=dd;have a4:Inv (bQ X N scope cl C s2 H2 fp) (jE fp s7.heap) τ1 H11 s11:=I11.mz fun p hp=>I11.pin p (Bi _ (Bi _ hp));have a5:Inv (bQ X N scope cl C s2 H2 fp) (jE fp s7.heap) τ1 H11 { s11 with heap:=h',toks:=s11.toks+1 }:=
    a4.turned (it:=D) (fun b o hb z=>(sb.2 b hb).trans z) nD (na2 hC) (.inr (na4 hD))
     (fun x c z=>by
      obtain⟨_,o,h1,_⟩:=I2.cell x c (hsub x c z);exact na0 (A3 h1) hD) fun p hp=>by
      have hb:=(rD (by simpa [bQ] using hp)).1;exact na0 (hold _ hb) hD
   have b1:tn (i+1) h':=T.keep _ _ _ a1 fun b hb o z=>(sb.2 b (na0 (hold b hb) hD)).trans z;have hpl:=mD acc kk v;refine⟨m',hm,i+1,putK acc kk v,τ1,H11,o',stored vs kk y,a5.mz fun p hp=>?_,⟨es',ep',g2⟩,b1,a2,va.put kk rv,ω,w11⟩;have ep:=AJ.mp hp;subst ep;exact⟨g1,nD,na2 hC,hfr,fun v z=>by rw[g2.2.1] at z;cases z⟩
 have e1:{ newEnv scope C X.env.globals cl X.env.qual none .none (some X.env) X.env.builtins with scope:=relabel scope X.env }=Gc scope cl C X.env:=rfl;exact codeAny_compStart_dict (loop _ rfl) (T.self _ 0 _ _ _ T0 (loop _ rfl))
theorem X4 {tg iter kx vx:Expr}{ifs:List Expr}{pos pos' pos2:Pos}{wi:TI}{g:TG}{tc:TT}{tk tv:TE}{i:Nat}{x:Str}(N:List Str)(mp:List (Option Nat))(hn:Nm X.N X.env.scope i x)(hNd:X.N.Nodup)(hNX:X.N=NX)(hkX:X.env.scope.names=kX)(S:xO NX kX N mp scope)(hc:X.calm=true)
  (hi:QI X tg iter wi) (hg:∀cl C s H fp,QG (bQ X N scope cl C s H fp) tg g) (ht:∀cl C s H fp,QC (bQ X N scope cl C s H fp) ifs tc) (hek:∀cl C s H fp,QE (bQ X N scope cl C s H fp) kx tk) (hev:∀cl C s H fp,QE (bQ X N scope cl C s H fp) vx tv)
  (hf:X.fn x=true\/X.env.scope.names.lookup x=some .local:=by exact .inl rfl)
  (hsw:F6 [.Name x pos'] (.DictComp kx vx [⟨tg,iter,ifs,0⟩] scope pos) pos2.line X.env=pure true:=by rfl)
  (h1:(CU [.Name x pos'] X.env).map (·.2)=[ES (.Name x pos') X.env]:=by rfl)
  (hs:∀x,DD iter X.env x=pure x:=by intro _;rfl):QS X (.Assign [.Name x pos'] (.DictComp kx vx [⟨tg,iter,ifs,0⟩] scope pos) pos2) (uG (Ep mp wi g tc tk tv) (j6 i)):=
 ⟨Yk N mp hn hNd hNX hkX S hc hi.h (fun cl C s H fp=>(hg cl C s H fp).h) (fun cl C s H fp=>(ht cl C s H fp).h) (fun cl C s H fp=>(hek cl C s H fp).h) (fun cl C s H fp=>(hev cl C s H fp).h) hf hsw h1 hs⟩
end
noncomputable def zsQ (K:Au)(vs:List V)(H:Hp)(R:It->Hp->Prop):Prop:=∃a b xs ys,vs=[.ref a,.ref b]/\SqT K H a xs/\SqT K H b ys/\R (Itu K a b) H
noncomputable def V3 (K:Au)(ta:TA):TI:=fun σ H R=>ta σ H fun vs H1=>zsQ K vs H1 R
theorem V2 (K:Au)(ta:TA)(σ:St)(H:Hp)(R:It->Hp->Prop):V3 K ta σ H R=ta σ H fun vs H1=>zsQ K vs H1 R:=rfl
section
variable {X:Cx}
theorem Yr {es:List Expr}{kk:Nat}{tpos:Pos}{a b:Expr}{ta:TA}{p pos:Pos}(hg:Gl X "zip") (hm:X.mg "zip" = none) (ha:PA X [a,b] ta) (hs:AL [a,b] X.env=[(false,eval a X.env),(false,eval b X.env)]:=by rfl) (hs2:AL [b] X.env=[(false,eval b X.env)]:=by rfl) :
  PI X (.Tuple es kk tpos) (.Call (.Name "zip" p) [a,b] [] pos) (V3 X.K ta):=by
 intro pins s σ H R I h;refine Call_ (oH I hg hm boot_zip (C1 (thA (ha pos pins s σ H _ I h) fun us s1 vs H1 I1 r1 q1=>?_) (by rw[hs,hs2]) (by rw[hs2];rfl)));obtain⟨l1,l2,xs,ys,rfl,e1,e2,q⟩:=q1;cases r1 with
 | cons r rr=>
  cases rr with
  | cons r' rr=>
   cases rr;cases r;cases r';have apart:l1<s1.heap.objs.size->l2<s1.heap.objs.size->ZipApart (s1.heap.objs.size+4) (s1.heap.objs.size+2) (s1.heap.objs.size+3) s1.heap.objs.size (s1.heap.objs.size+1) l1 l2:=by
    generalize s1.heap.objs.size=n;intro lt1 lt2;have lt1':@LT.lt Nat _ l1 n:=lt1;have lt2':@LT.lt Nat _ l2 n:=lt2;constructor <;> (intro(z:@Eq Nat _ _);omega)
   have fp:∀b∈[s1.heap.objs.size+4,s1.heap.objs.size+2,s1.heap.objs.size+3,s1.heap.objs.size,s1.heap.objs.size+1],sU X pins H1 b:=fun b hb=>by
    have hle:s1.heap.objs.size<=b:=by
     simp only[AX,Bz,or_false] at hb;rcases hb with rfl|rfl|rfl|rfl|rfl <;> simp
    exact I1.LK hle (I1.hok.fresh hle)
   obtain⟨its1,rv1,p1,hz1⟩:=I1.tuple e1;obtain⟨its2,rv2,p2,hz2⟩:=I1.tuple e2;have lt1:l1<s1.heap.objs.size:=by obtain⟨_,e,_⟩:=p1;exact A3 e
   have lt2:l2<s1.heap.objs.size:=by obtain⟨_,e,_⟩:=p2;exact A3 e
   refine JM p1 p2 fun h' b1 b2 b3 b4 b5 b6 hk=>?_;refine wpAny_pyIter_zip (s:={ s1 with heap:=h' }) b1 ?_;exact⟨_,_,_,_,H1,rfl,I1.kept (t':=s1.toks) hk,Pk (apart lt1 lt2),⟨b1,b2,⟨_,_,b3⟩,b4,b5⟩,fp,q⟩
theorem X6 {es:List Expr}{kk:Nat}{tpos:Pos}{a b:Expr}{t:TA}{p pos:Pos}(hg:Gl X "zip") (hm:X.mg "zip" = none) (ha:QA X [a,b] t) (hs:AL [a,b] X.env=[(false,eval a X.env),(false,eval b X.env)]:=by rfl) (hs2:AL [b] X.env=[(false,eval b X.env)]:=by rfl):QI X (.Tuple es kk tpos) (.Call (.Name "zip" p) [a,b] [] pos) (V3 X.K t):=⟨Yr hg hm ha.h hs hs2⟩
end
theorem SqT.same {K:Au}{H H':Hp}{a:Addr}{xs:List V}(h:SqT K H a xs)(s:Same H H'):SqT K H' a xs:=by
 rcases h with h|h
 ·rcases h with h|⟨o,h⟩
  ·exact .inl (.inl (s _ _ h))
  exact .inl (.inr ⟨o,s _ _ h⟩)
 exact .inr h
noncomputable def aao (mp:List (Option Nat))(g:TG)(tc:TT)(tk tv:TE)(σ:St)(Q:VK)(J:It)(H1:Hp):Prop:=
 ∃W:Nat->Nat->List (Key×V)->St->Hp->Prop,(∃m,W 0 m [] (mq mp σ) H1)/\∀i m acc τ H2,W i m acc τ H2 ->
  (J.stop i H2/\∀d,H2 d=none->Q (.ref d) (upd H2 d (.dK acc))) \/
  (J.go i H2/\acc.length<AK/\∃N:List (Key×V)->St->Hp->Prop,(∀acc' τ' H',N acc' τ' H'->∃m',m'<m/\W (i+1) m' acc' τ' H')/\∀x H3,J.yld i H2 x H3->g x τ H3 fun τ1 H4=>tc τ1 H4 fun b H5=>
   if b=true then tk τ1 H5 fun kv H6=>tv τ1 H6 fun v H7=>kvQ kv fun k=>N (putK acc k v) τ1 H7 else N acc τ1 H5)
theorem ZP {mp:List (Option Nat)}{wi:TI}{g:TG}{tc:TT}{tk tv:TE}{σ:St}{H:Hp}{Q:VK}(h:∀R:It->Hp->Prop,R=aao mp g tc tk tv σ Q->wi σ H R):Ep mp wi g tc tk tv σ H Q:=h _ rfl
theorem Lb (kvs:List (Key×V))(kv:Key×V):iK [] (kvs++[kv])=putK (iK [] kvs) kv.1 kv.2:=by
 unfold iK;rw[List.foldl_append];rfl
theorem ZM {K:Au}{mp:List (Option Nat)}{g:TG}{tc:TT}{tk tv:TE}{σ:St}{H:Hp}{Q:VK}{R:It->Hp->Prop}{a b:Addr}{ys:List V}{kvs:List (Key×V)}(okT:St->Prop)(hR:R=aao mp g tc tk tv σ Q)(ea:SqT K H a (kvs.map fun kv=>kV kv.1))(eb:SqT K H b ys)(hl:kvs.length<=ys.length)(hz:kvs.length<=15)(h0:okT (mq mp σ))
  (hs:∀(i:Nat) kv y τ H' p (Nx:List (Key×V)->St->Hp->Prop),kvs[i]?=some kv->ys[i]?=some y->Same H H'->okT τ->H' p=none->(∀τ1 H1,Same H H1->okT τ1->Nx (putK (iK [] (kvs.take i)) kv.1 kv.2) τ1 H1) ->
   g (.ref p) τ (upd H' p (.tup [kV kv.1,y])) fun τ1 H4=>tc τ1 H4 fun bb H5=>if bb=true then tk τ1 H5 fun kx H6=>tv τ1 H6 fun v H7=>kvQ kx fun k=>Nx (putK (iK [] (kvs.take i)) k v) τ1 H7 else Nx (iK [] (kvs.take i)) τ1 H5)
  (hd:∀d H',Same H H'->H' d=none->Q (.ref d) (upd H' d (.dK (iK [] kvs)))):R (Itu K a b) H:=by
 rw[hR];refine⟨fun i m acc τ H'=>m+i=kvs.length/\Same H H'/\okT τ/\acc=iK [] (kvs.take i),⟨kvs.length,ω,Same.refl _,h0,rfl⟩,?_⟩;rintro i m acc τ H2 ⟨hm,s2,ot,rfl⟩;cases m with
 | zero=>
  refine .inl ⟨⟨_,ys,ea.same s2,eb.same s2,.inl (F1 (by rw[AG];omega))⟩,fun d hd'=>?_⟩;rw[FU ω];exact hd d H2 s2 hd'
 | succ m=>
  have hi:i<kvs.length:=ω;have hy:i<ys.length:=ω;have hk:kvs[i]?=some kvs[i]:=AF hi;have hx:(kvs.map fun kv=>kV kv.1)[i]?=some (kV kvs[i].1):=by rw[A5,hk];rfl
  refine .inr ⟨⟨_,ys,_,_,ea.same s2,eb.same s2,hx,AF hy⟩,?_,fun acc' τ' H'=>acc'=iK [] (kvs.take (i+1))/\Same H H'/\okT τ',fun acc' τ' H' ⟨e,s',o'⟩=>⟨m,ω,ω,s',o',e⟩,?_⟩
  ·have:=mU (kvs.take i) [];rw[length_nil] at this;have h2:(kvs.take i).length<=15:=by rw[DL];omega
   exact FV (by omega:_<=15) δ
  rintro x H3 ⟨p,x1,y1,rfl,hp,rfl,g1,g2⟩;have e1:=g1 _ (ea.same s2);rw[hx] at e1;cases e1;have e2:=g2 _ (eb.same s2);refine hs i kvs[i] y1 τ H2 p (fun acc' τ' H'=>acc'=iK [] (kvs.take (i+1))/\Same H H'/\okT τ') hk e2 s2 ot hp fun τ1 H1 s1 o1=>⟨?_,s1,o1⟩;rw[List.take_add_one,hk];exact(Lb _ _).symm
noncomputable def GR (zs:List Int) (t:Int):List (Key×V):=putK (iK [] (oV (zs.map (· * t)))) (DH "pick") (V.int 0)
theorem ZF {zs:List Int}{i:Nat}{kv:Key×V}(h:(oV zs)[i]?=some kv):kv.2=V.int (zs.getD i 0):=by
 match i,h with
 | 0,h=>cases h;rfl
 | 1,h=>cases h;rfl
 | 2,h=>cases h;rfl
 | 3,h=>cases h;rfl
 | 4,h=>cases h;rfl
 | n+5,h=>simp [oV] at h
theorem Ji (zs:List Int)(t:Int)(i:Nat):(zs.map (· * t)).getD i 0=zs.getD i 0*t:=by
 rw[AO,AO,A5];cases zs[i]? with
 | none=>simp
 | some z=>rfl
noncomputable def M6:Sp:=fun vs H Q _=>∃(l:V)(wa z:Addr)(ok:Addr->Prop)(ws zs:List Int)(left:List Nat),vs=[.ref wa,.ref z,l]/\aJ ok H l (xg left)/\(∀k∈left,k<ws.length)/\H wa=some (.lst (ws.map V.int))/\H z=some (.tup (zs.map V.int))/\zs.length=5/\Few zs /\
 ∀p H',Same H H'->H' p=some (.dK (GR zs (sumK ws left)))->Q (.ref p) H'
theorem Wt (ws zs:List Int)(left:List Nat)(p:Pl):j7 (GR zs (sumK ws left)) (DH (lz p))=some (V.int (cT ws zs left p)):=by
 unfold GR iK oV;simp only[List.foldl_cons,List.foldl_nil,Sq,Ss,Ji];cases p with
 | pick l=>
  rw[show lz (.pick l)=("pick" : Str) from rfl];rw[if_pos rfl];rfl
 | one k r=>
  rw[show lz (.one k r)=("is" : Str) from rfl];rw[if_neg (kne (a := "is") (b := "pick") ψ),if_neg (kne (a := "is") (b := "table") ψ),if_neg (kne (a := "is") (b := "mask") ψ),if_neg (kne (a := "is") (b := "below") ψ),if_neg (kne (a := "is") (b := "within") ψ),if_pos rfl];rfl
 | wit k r=>
  rw[show lz (.wit k r)=("within" : Str) from rfl];rw[if_neg (kne (a := "within") (b := "pick") ψ),if_neg (kne (a := "within") (b := "table") ψ),if_neg (kne (a := "within") (b := "mask") ψ),if_neg (kne (a := "within") (b := "below") ψ),if_pos rfl];rfl
 | low k a b=>
  rw[show lz (.low k a b)=("below" : Str) from rfl];rw[if_neg (kne (a := "below") (b := "pick") ψ),if_neg (kne (a := "below") (b := "table") ψ),if_neg (kne (a := "below") (b := "mask") ψ),if_pos rfl];rfl
 | msk l r=>
  rw[show lz (.msk l r)=("mask" : Str) from rfl];rw[if_neg (kne (a := "mask") (b := "pick") ψ),if_neg (kne (a := "mask") (b := "table") ψ),if_pos rfl];rfl
 | tab=>
  rw[show lz .tab=("table" : Str) from rfl];rw[if_neg (kne (a := "table") (b := "pick") ψ),if_pos rfl];rfl
noncomputable def pk (c:Int×Int):List Int:=[c.1,c.2]
noncomputable def slc (ws:List Int)(i j:Nat):List Int:=(ws.drop i).take (j-i)
inductive Tr:List Int->Int->Prop
 | leaf (w:Int):Tr [w] 0
 | node {a b:List Int} {x y:Int}:Tr a x->Tr b y->Tr (a++b) ((a++b).sum+(x+y))
inductive PTr (ss:Sts)(ws:List Int):Nat->Nat->Pl->Int->Prop
 | leaf {i:Nat}:i<ss.length->PTr ss ws i (i+1) (.pick (iH ss i).2.2) 0
 | node {i k j:Nat} {a b:Pl} {x y:Int}:i<k->k<j->PTr ss ws i k a x->PTr ss ws k j b y->PTr ss ws i j (.low k a b) ((slc ws i j).sum+(x+y))
noncomputable def key2 (a b:Int):List Key:=[G2 a,G2 b]
theorem Ng {n:Nat}(h:n<=1000000):n<AK:=FV h δ
open PySem.W (Frag clsIn findIn takerIn InstAt looks_clsIn looks_findIn looks_takesIn Looks check_slot looks_mroIn mroIn set_plain osa_eq)
open Builtin Builtin.ObjectAttr
noncomputable def vbm:List An:=[.type "ValueError",.type "Exception",.type "BaseException",.type "object"]
open PySem.W (Frag clsIn findIn takerIn InstAt looks_clsIn looks_findIn looks_takesIn Looks check_slot looks_mroIn mroIn handedIn handedOut_of)
structure XCls (K:Au)(C D N fI:Addr):Prop where
 obj:∃nm q bs sn sub ab col dd k0 k1 k2 k3 k5,K.lookup C=some (excClassObj nm q C N bs (.ref D::vbm) true sn sub ab col dd k0 k1 k2 k3 k5 "ValueError.__new__")
 tail:PySem.W.tailIn K vbm (.ref D::vbm)=true
 nsok:PySem.W.nsOkIn K N=true
 init:nsIn K N "__init__" = some (some (.ref fI))
 set:G0 K (.ref C) "__setattr__" = some (some (.builtin "object.__setattr__"))
 ga:G0 K (.ref C) "__getattribute__" = some (some (.builtin "BaseException.__getattribute__"))
 gk:G0 K (.ref C) "__getattr__" = some none
noncomputable abbrev TJ:=St->Hp->(Hp->Prop)->Prop
open PySem.W (Frag clsIn findIn takerIn InstAt looks_clsIn looks_findIn looks_takesIn looks_specialIn specialIn takesIn Looks check_slot looks_mroIn mroIn handedIn handedOut_of class_get KitX)
open Builtin
mutual
noncomputable def noL:AD->Bool
 | .list _=>false
 | .tuple ds=>acL ds
 | _=>true
noncomputable def acL:List AD->Bool
 | []=>true
 | d::ds=>noL d&&acL ds
end
theorem CW {ok:Addr->Prop}{H:Hp}:∀gs:List Int,aH ok H (gs.map V.int) (gs.map AD.int)
 | []=>.nil
 | g::gs=>.cons (.int g) (CW gs)
noncomputable def abQ:Pl->Bool
 | .pick _=>true
 | .tab=>true
 | _=>false
noncomputable def acU (ss:Sts)(C:List (List Nat×Pl)):List (List Nat×Pl):=(C.map fun x=>vP ss x.2 x.1).flatten
noncomputable def Vz (S:List (List Nat×Pl)):Nat->Bool
 | 0=>false
 | i+1=>match S[i]? with
  | some x=>abQ x.2
  | none=>false
structure AhSt (ss:Sts)(S:List (List Nat×Pl))(tot:List (Nat×Nat))(i:Nat)(C:List (List Nat×Pl))(T:List Nat)(done:List (Nat×Nat)):Prop where
 fl:S.drop i=acU ss C
 no:Vz S i=false->T.length+1=C.length/\tot=done++abW (C.map (·.2)) T i
 yes:Vz S i=true->T.length=C.length/\((C=[]/\tot=done)\/∃t T',T=t::T'/\tot=done++(t,i)::abW (C.map (·.2)) T' i)
noncomputable def Ti:Sp:=fun vs H Q _=>∃(s l:V)(ok:Addr->Prop)(ss:Sts)(left:List Nat),vs=[s,l]/\aJ ok H s (.list (ss.map stD))/\aJ ok H l (xg left)/\Lf ss left /\
 ∀(a:Addr),H a=none->Q (.ref a) (upd H a (.lst ((left.map (lbl ss)).map V.int)))
noncomputable def Te:Sp:=fun vs H Q _=>∃(p:Addr)(m B:Int),vs=[.ref p,.int m]/\aP H p B/\0<=B/\B<=900000/\1<=m/\m<=60 /\
 ∀(l:Addr)(ss:Sts) H',aW p H H'->aP H' p (B+2000)->aJ (·≠p) H' (.ref l) (.list (ss.map stD))->(ss.length:Int)=m->J7 ss->(∀s,ss[0]?=some s->s.1<=10^9)->Q (.ref l) H'
theorem CQ.k' {H:Hp}{a:Addr}{kvs:List (Key×V)}{k:Key}{v:V}(e:H a=some (.dK kvs))(hv:j7 kvs k=some v):CQ H a (kV k) (some v):=by
 rw[<- hv];exact CQ.k e
theorem ln1 {α:Type}{us:List α}(h:us.length=1):∃a,us=[a]:=by
 cases us with
 | nil=>cases h
 | cons a r=>
  cases r with
  | nil=>exact⟨a,rfl⟩
  | cons b r=>cases h
theorem ln2 {α:Type}{us:List α}(h:us.length=2):∃a0 a1,us=[a0,a1]:=by
 cases us with
 | nil=>cases h
 | cons a0 r=>
  obtain⟨a1,rfl⟩:=ln1 (Nat.succ.inj h);exact⟨a0,a1,rfl⟩
theorem ln3 {α:Type}{us:List α}(h:us.length=3):∃a0 a1 a2,us=[a0,a1,a2]:=by
 cases us with
 | nil=>cases h
 | cons a0 r=>
  obtain⟨a1,a2,rfl⟩:=ln2 (Nat.succ.inj h);exact⟨a0,a1,a2,rfl⟩
theorem ln4 {α:Type}{us:List α}(h:us.length=4):∃a0 a1 a2 a3,us=[a0,a1,a2,a3]:=by
 cases us with
 | nil=>cases h
 | cons a0 r=>
  obtain⟨a1,a2,a3,rfl⟩:=ln3 (Nat.succ.inj h);exact⟨a0,a1,a2,a3,rfl⟩
noncomputable def tV (i:Nat):TE:=fun σ H Q=>match σ[i]? with
 | some (some x)=>Q x H
 | _=>False
theorem aae {i:Nat}{σ:St}{H:Hp}{Q:VK}(h:tV i σ H Q):PK i σ H Q:=by
 unfold tV at h;split at h
 ·rename_i x e;exact⟨x,e,h⟩
 exact h.elim
section
variable {X:Cx}{i:Nat}{x:Str}{pos:Pos}
theorem ao (h:Nm X.N X.env.scope i x):QE X (.Name x pos) (tV i):=⟨fun pins s σ H Q I q=>(adb h).h pins s σ H Q I (aae q)⟩
theorem bG (i:Nat) {x:Str}{pos:Pos}(hN:X.N[i]?=some x:=by rfl) (hv:Vis X.env.scope x:=by first|exact C2 rfl|exact Or.inr (C2 rfl)|exact Or.inr (Or.inr rfl)) (hd:(x == ("__debug__" : Str))=false:=by decide)
  (hcd:(x == ("__classdict__" : Str))=false:=by decide):QE X (.Name x pos) (tV i):=⟨fun pins s σ H Q I q=>(ada i hN hv hd hcd).h pins s σ H Q I (aae q)⟩
end
noncomputable def atq (o:Option V)(H:Hp)(Q:VK):Prop:=∃v,o=some v/\Q v H
theorem WR (v:V)(H:Hp)(Q:VK):atq (some v) H Q=Q v H:=propext ⟨fun⟨_,e,h⟩=>by cases e;exact h,fun h=>⟨v,rfl,h⟩⟩
theorem VN (xs:List V)(i:Int)(H:Hp)(Q:VK):ixq (some (.lst xs)) i H Q=atq (atI xs i) H Q:=rfl
theorem VJ (xs:List V)(i:Int)(H:Hp)(Q:VK):ixq (some (.tup xs)) i H Q=atq (atI xs i) H Q:=rfl
theorem abY {b:Bool}{P:Bool->Prop}:(∃k,V.bl b=V.bl k/\P k)=P b:=propext ⟨fun⟨_,e,h⟩=>by cases e;exact h,fun h=>⟨b,rfl,h⟩⟩
theorem ZJ {a:Int}{P:Int->Prop}:(∃k,V.int a=V.int k/\P k)=P a:=propext ⟨fun⟨_,e,h⟩=>by cases e;exact h,fun h=>⟨a,rfl,h⟩⟩
theorem ZG {a b:Int}{P:Int->Int->Prop}:(∃i j,V.int a=V.int i/\V.int b=V.int j/\P i j)=P a b:=propext ⟨fun⟨_,_,e,f,h⟩=>by cases e;cases f;exact h,fun h=>⟨a,b,rfl,rfl,h⟩⟩
noncomputable def ry0:=AA @Kg.eq_1 (AA @wW.eq_1 (AA @tOp.eq_1 (AA @rI.eq_1 (AA @rI0.eq_1 (AA @rU.eq_1 (AA @tUn.eq_1 (AA @tC.eq_1 (AA @Kh.eq_1 (AA @pX.eq_1 (AA @gU.eq_1 (AA @rZ.eq_1 (AA @tCB.eq_1 (AA @tIf.eq_1 (AA @Tc.eq_1 (AA @aaz.eq_1 (AA @SN.eq_1 (AA @Eo.eq_1 (AA @Hu.eq_1 (AA @uG.eq_1 (AA @j6.eq_1 (AA @Zz.eq_1 (AA @Rk (AA @Zx (AA @Ii (AA @T8 (AA @Ua (AA @X3 (AA @aaw.eq_1 (AA @ZC @abU)))))))))))))))))))))))))))))
noncomputable def ry1:=AA @zj (AA @Qd (AA @Qe (AA @XC (AA @VN (AA @VJ (AA @Xf (AA @Zf (AA @Ze (AA VR.1 (AA VR.2.1 (AA VR.2.2 (AA @ac1 (AA @ac0 (AA @acZ (AA @aB (AA @Uh (AA @Ue (AA @abR (AA @Zj (AA @VH (AA @abL (AA @abK (AA @kc_bool (AA @ty_int (AA @ab9 (AA @ty_str (AA @aas (AA @aar (AA @W9 (AA @W8 (AA @vW (AA @xT (AA @xR (AA @vV (AA @uT (AA @Fo (AA @Ib @Ia)))))))))))))))))))))))))))))))))))))
noncomputable def ry2:=AA @Fl (AA @BW (AA @HY (AA @Kv (AA @Ku (AA @HX (AA @Fj (AA @HS (AA @Ks (AA @Kr (AA @HN (AA @Fe (AA @Fi (AA @HW (AA @Fg (AA @BV (AA @BR (AA @Fd (AA @BP (AA @zf (AA @Bool.or_false (AA @Bool.or_self (AA @Bool.or_true (AA @Bool.not_true (AA @Bool.not_false (AA @Bool.false_eq_true (AA @decide_true (AA @wX.eq_1 (AA @rEq.eq_1 (AA @rNe.eq_1 @XS)))))))))))))))))))))))))))))
noncomputable def ry3:=AA @Nq (AA @Mv (AA @aaR (AA @aaS (AA @aaQ (AA @Qc (AA @Xj (AA @TQ (AA @Xo (AA @TF (AA @R6.eq_1 (AA @Z9.eq_1 (AA @aap.eq_1 (AA @L2.start.eq_1 (AA @DV.{0,0} (AA @map_nil.{0,0} (AA @BN.{0} (AA @length_nil.{0} (AA @cons_append.{0} (AA @nil_append.{0} (AA @FL.{0} (AA @List.replicate_zero.{0} (AA @Cf.{0} (AA @HK.{0} @HL.{0})))))))))))))))))))))))
noncomputable def ry4:=AA @DA.{0} (AA @DB.{0} (AA @IH (AA @Option.some.injEq.{0} (AA @exists_eq_left'.{1} (AA @Wh (AA @V.int.injEq (AA @V.str.injEq (AA @V.bl.injEq (AA @V.ref.injEq (AA @List.cons.injEq.{0} (AA @and_true (AA @true_and (AA @exists_and_left.{1} (AA @decide_eq_true_eq (AA @S9 (AA @J5 (AA @yH (AA @O7 (AA @Ih (AA @Nf (AA @Xl (AA @tSl.eq_1 (AA @rm.eq_1 (AA @yP.eq_1 @Xx))))))))))))))))))))))))
noncomputable def ry5:=AA @Xy (AA @Xw (AA @XH (AA @XF (AA @lN (AA @mF (AA @oJ (AA @Xb @SM)))))))
noncomputable def ry6:=AA @WR (AA @abY (AA @ZJ @ZG))
noncomputable def rdy:=AA ry0 (AA ry1 (AA ry2 (AA ry3 (AA ry4 (AA ry5 (AA ry6 @tV.eq_1))))))
theorem bV {K:Au}{h:Heap}{mg:Str->Option An}{x:Str}{st:Stmt}{ps:List Str}{f:Addr}{oc:An}{od an:Option Addr}{osl:Array (Option An)}{kV doc pm cdv ct:An}(X:K.In h)(G:h.Ns AH mg)(a:nsIn K AH x=some (some (.ref f)))
  (l:K.lookup f=some ⟨oc,od,.func (fnOf x x (aV st) (aQ st) (aj st) .none kV doc pm an cdv ct),osl⟩) (c:B9 K cdv x=true) (k:Cc K (.ref f)=true)
  (hb:∀(kV doc pm:An)(an:Option Addr)(cdv ct:An)(us:List An),us.length=ps.length->bindArgs (fnOf x x (aV st) (aQ st) (aj st) .none kV doc pm an cdv ct) ⟨us,[]⟩=pure (ps.zip us)):ab8 K mg x st ps f (fnOf x x (aV st) (aQ st) (aj st) .none kV doc pm an cdv ct):=
 ⟨Wc (st:=st) l c k,(Wc (st:=st) l c k).binds hb,mg_of X G a⟩
end L2
set_option maxHeartbeats 4100000
namespace SRT
open PySem PyProof.Rows
noncomputable def Ris (xs:Array Nat):Prop:=xs.toList.Pairwise (· < ·)
theorem Ris.lt {xs:Array Nat}(h:Ris xs){i k x y:Nat}(hx:xs[i]?=some x)(hy:xs[k]?=some y)(hik:i<k):x<y:=by
 rw[<- CS] at hx hy;obtain⟨h1,rfl⟩:=AR.mp hx;obtain⟨h2,rfl⟩:=AR.mp hy;exact List.pairwise_iff_getElem.mp h i k h1 h2 hik
theorem Zy {xs:Array Nat}(hr:Ris xs)(j:Nat):∀fuel lo hi,hi-lo<=fuel->lo<=hi->hi<=xs.size->(∀i x,xs[i]?=some x->i<lo->x<j)->(∀i x,xs[i]?=some x->hi<=i->j<=x) ->
  (∀i x,xs[i]?=some x->(i<AQ.below.go xs j fuel lo hi↔x<j))/\AQ.below.go xs j fuel lo hi<=xs.size:=by
 intro fuel
 induction fuel with
 | zero=>
  intro lo hi h1 h2 h3 h4 h5;have e:hi=lo:=ω;subst e;refine⟨fun i x hx=>⟨fun hl=>h4 i x hx hl,fun hl=>?_⟩,h3⟩;show i<hi;refine Nat.lt_of_not_le fun hle=>?_;have:=h5 i x hx hle;omega
 | succ fuel ih=>
  intro lo hi h1 h2 h3 h4 h5;show(∀i x,xs[i]?=some x->(i<(if lo<hi then if xs.getD ((lo+hi)/2) j<j then AQ.below.go xs j fuel ((lo+hi)/2+1) hi else AQ.below.go xs j fuel lo ((lo+hi)/2) else lo)↔x<j))/\(if lo<hi then if xs.getD ((lo+hi)/2) j<j then AQ.below.go xs j fuel ((lo+hi)/2+1) hi else AQ.below.go xs j fuel lo ((lo+hi)/2) else lo)<=xs.size;by_cases hl:lo<hi
  ·rw[if_pos hl];have hm:(lo+hi)/2<xs.size:=ω;have hg:xs[(lo+hi)/2]?=some xs[(lo+hi)/2]:=by simp [hm]
   have hd:xs.getD ((lo+hi)/2) j=xs[(lo+hi)/2]:=by simp [Array.getD,hm]
   rw[hd];by_cases hc:xs[(lo+hi)/2]<j
   ·rw[if_pos hc];refine ih _ _ ω ω h3 (fun i x hx hi'=>?_) h5;by_cases e:i=(lo+hi)/2
    ·subst e;rw[hg] at hx;cases hx;exact hc
    exact lt_trans (hr.lt hx hg ω) hc
   rw[if_neg hc];refine ih _ _ ω ω ω h4 (fun i x hx hi'=>?_);by_cases e:i=(lo+hi)/2
   ·subst e;rw[hg] at hx;cases hx;omega
   have:=hr.lt hg hx ω;omega
  rw[if_neg hl];have e:hi=lo:=ω;subst e;refine⟨fun i x hx=>⟨fun hl=>h4 i x hx hl,fun hl=>?_⟩,h3⟩;refine Nat.lt_of_not_le fun hle=>?_;have:=h5 i x hx hle;omega
theorem uD {xs:Array Nat}(hr:Ris xs)(j:Nat):(∀i x,xs[i]?=some x->(i<AQ.below xs j↔x<j))/\AQ.below xs j<=xs.size:=by
 unfold AQ.below;refine Zy hr j _ _ _ ω ω (A9 _) (fun _ _ _ h=>absurd h ω) fun i x hx hi=>?_;have:=(Array.getElem?_eq_some_iff.mp hx).1;omega
theorem J1 {xs:Array Nat}(hr:Ris xs){j:Nat}(hn:xs[AQ.below xs j]?≠some j):∀x∈xs.toList,x≠j:=by
 intro x hx e;subst e;obtain⟨i,hi,e⟩:=D1.mp hx;have hg:xs[i]?=some x:=by rw[<- CS,AF hi,e]
 have hs:=uD hr x;have h1:=(hs.1 i x hg);have h2:AQ.below xs x<=i:=by
  refine Nat.le_of_not_lt fun h=>?_;exact C6 _ (h1.mp h)
 rcases GB (AQ.below xs x) i with h|h
 ·have hi':i<xs.size:=by simpa using hi
  have hb:AQ.below xs x<xs.size:=ω;have hgb:xs[AQ.below xs x]?=some xs[AQ.below xs x]:=by simp [hb]
  have l1:=hr.lt hgb hg h;have:=(hs.1 _ _ hgb).mpr l1;omega
 have e:AQ.below xs x=i:=ω;rw[e] at hn;exact hn hg
theorem Cm {α:Type}(xs:Array α)(p:Nat)(x:α):(AQ.insertAt xs p x).toList=xs.toList.take p++x::xs.toList.drop p:=by
 unfold AQ.insertAt;simp [Array.toList_extract,List.extract,FU]
theorem Ky {xs:Array Nat}(hr:Ris xs){j:Nat}(hn:xs[AQ.below xs j]?≠some j):Ris (AQ.insertAt xs (AQ.below xs j) j):=by
 have hs:=uD hr j;have hne:=J1 hr hn;show(AQ.insertAt xs (AQ.below xs j) j).toList.Pairwise (· < ·);rw[Cm];have hx:xs.toList.Pairwise (· < ·):=hr;rw[List.pairwise_append,ER];refine⟨hx.sublist (List.take_sublist _ _),⟨fun y hy=>?_,hx.sublist (List.drop_sublist _ _)⟩,fun a ha b hb=>?_⟩
 ·obtain⟨i,hi,e⟩:=D1.mp hy;rw[List.getElem_drop] at e;have hl:AQ.below xs j+i<xs.toList.length:=by rw[EW] at hi;omega
  have hg:xs[AQ.below xs j+i]?=some y:=by rw[<- CS,AF hl,e]
  have h1:=hs.1 _ _ hg;have h2:=hne y (GM hy);have:¬(y<j):=fun h=>by have:=h1.mpr h;omega
  omega
 have l1:a<j:=by
  obtain⟨i,hi,e⟩:=D1.mp ha;rw[List.getElem_take] at e;have hl:i<AQ.below xs j/\i<xs.toList.length:=by rw[DL] at hi;omega
  have hg:xs[i]?=some a:=by rw[<- CS,AF hl.2,e]
  exact(hs.1 _ _ hg).mp hl.1
 rcases AX.mp hb with rfl|hb
 ·exact l1
 obtain⟨i,hi,e⟩:=D1.mp hb;rw[List.getElem_drop] at e;have hl:AQ.below xs j+i<xs.toList.length:=by rw[EW] at hi;omega
 have hg:xs[AQ.below xs j+i]?=some b:=by rw[<- CS,AF hl,e]
 have h1:=hs.1 _ _ hg;have:¬(b<j):=fun h=>by have:=h1.mpr h;omega
 omega
noncomputable def TOk (b:Bool)(t:AQ):Prop:=Ris t.place/\t.dummies=#[]/\t.led=b
theorem Py {b:Bool}{t:AQ}(h:TOk b t)(p:Bool):TOk b { t with plain:=p }:=h
theorem Qa (n:Nat):Ris (Array.range n):=by
 show(Array.range n).toList.Pairwise (· < ·);rw[Array.toList_range];exact Ix
theorem mj {b:Bool}{t:AQ}(h:TOk b t)(n:Nat):TOk b (t.standIn n):=⟨Qa n,rfl,h.2.2⟩
theorem Bt {b:Bool}{t:AQ}(h:TOk b t)(n:Nat):TOk b (t.orStandIn n):=by
 unfold AQ.orStandIn;split
 ·exact h
 exact mj h n
theorem Pz (f m:Nat)(b:Bool):TOk b (AQ.fresh f m b):=⟨List.Pairwise.nil,rfl,rfl⟩
theorem KJ {t:AQ}(hd:t.dummies=#[]){f:Nat->Int}{h:Int}(hf:∀i,(f i == h)=false):∀(fuel:Nat)(p:AQ.Probe),p.dummy=none ->
  ∀m,AQ.probe.go t f h fuel p=some m->∃j,m=.empty j none/\t.place[AQ.below t.place j]?≠some j:=by
 intro fuel
 induction fuel with
 | zero=>intro p _ m e;exact absurd e (by simp [AQ.probe.go])
 | succ fuel ih=>
  intro p hp m e;unfold AQ.probe.go at e;have hnd:∀j,AQ.has t.dummies j=false:=fun j=>by rw[hd];simp [AQ.has]
  have hadv:∀q:AQ.Probe,q.dummy=none->(t.advance q).dummy=none:=fun q hq=>by
   unfold AQ.advance;split
   ·exact hq
   exact hq
  split at e
  ·rename_i hs;cases e;refine⟨p.j,by rw[hp],fun hc=>?_⟩;unfold AQ.slot at hs;simp [hc] at hs
  ·rename_i hs;unfold AQ.slot at hs;dsimp only at hs;split at hs
   ·cases hs
   rw[hnd] at hs;simp at hs
  rw[hf,if_neg (by simp)] at e;exact ih _ (hadv _ hp) m e
theorem Ju {t:AQ}(hd:t.dummies=#[]){h:Int}{j:Nat}{b:Bool}(e:t.freeSlot h=some (j,b)):t.place[AQ.below t.place j]?≠some j:=by
 unfold AQ.freeSlot AQ.probe at e;split at e
 ·rename_i j' d hp;obtain⟨j2,e2,hn⟩:=KJ hd (f:=fun _=>h+1) (h:=h) (fun i=>by simp;omega) _ _ rfl _ hp;cases e2;simp at e;rw[<- e.1];exact hn
 cases e
theorem Lh {b:Bool}{t:AQ}(ht:TOk b t)(es:Array (Int×An))(h:Int)(x:An):TOk b (layNew t es h x).2.1:=by
 unfold layNew;split
 ·rename_i slot wd hs;have hn:=Ju ht.2.1 hs;refine Bt ?_ _;unfold AQ.put;refine⟨Ky ht.1 hn,?_,ht.2.2⟩;show(if AQ.has t.dummies slot=true then AQ.eraseAt t.dummies (AQ.below t.dummies slot) else t.dummies)=#[];rw[ht.2.1];rfl
 exact mj ht _
theorem Fp {b:Bool}{t:AQ}(ht:TOk b t)(es:Array (Int×An))(n:Nat):TOk b (relayAll t es n).2.1:=by
 unfold relayAll;split
 ·rename_i t' order hr;dsimp only;split
  ·unfold AQ.relaid AQ.laid at hr;cases ho:AQ.layClean (AQ.sizeAbove n-1) (es.map (·.1)) with
   | none=>rw[ho] at hr;cases hr
   | some owner=>
    rw[ho] at hr;simp only[Option.bind_eq_bind,Option.bind_some,Option.pure_def,Option.some.injEq,Prod.mk.injEq] at hr;obtain⟨rfl,-⟩:=hr;refine⟨?_,rfl,ht.2.2⟩;show(HE _ _).toArray.toList.Pairwise (· < ·);rw[List.toList_toArray,List.pairwise_map,List.pairwise_filterMap];refine Ix.imp fun {a c} hac p hp q hq=>?_;simp only[B8] at hp hq;obtain⟨_,_,rfl⟩:=hp;obtain⟨_,_,rfl⟩:=hq;exact hac
  exact mj ht _
 exact mj ht _
end SRT
namespace SRT
open PySem PyProof.Rows
section
variable {prog:AU}{w:Be}{K:Type}[DecidableEq K]
noncomputable def SetT (knd:KeyKind prog w K)(b:Bool)(h:Heap)(a:Addr)(S:K->Bool)(n:Nat):Prop:=
 ∃o es ep t,h.get? a=some o/\o.ExactSet/\o.data=.set es ep t/\(ElemsOf knd es.toList/\(∀k,S k=true ↔ ∃e∈es.toList,knd.is k e.2=true)/\es.size<FD)/\t.fits es.size=true/\es.size=n/\TOk b t
variable {knd:KeyKind prog w K}{A:BA}{E:An->AC->Prop}{s:AC}{b:Bool}
theorem SetT.get {h h':Heap}{a:Addr}{S:K->Bool}{n:Nat}(hS:SetT knd b h a S n)(hk:∀o,h.get? a=some o->h'.get? a=some o):SetT knd b h' a S n:=
 let ⟨o,es,ep,t,ho,r⟩:=hS;⟨o,es,ep,t,hk o ho,r⟩
theorem SetT.congr {h:Heap}{a:Addr}{S S':K->Bool}{n n':Nat}(hS:SetT knd b h a S n)(e:∀k,S k=S' k)(en:n=n'):SetT knd b h a S' n':=by
 have:S=S':=funext e;subst this;subst en;exact hS
theorem Dg {h:Heap}{a:Addr}{o:Obj}{es:Array (Int×An)}{ep:Nat}{t:AQ}(ho:h.get? a=some o)(hex:o.ExactSet)(hd:o.data=.set es ep t)
  {es':Array (Int×An)} {t':AQ} {S':K->Bool} (hel:ElemsOf knd es'.toList/\(∀k,S' k=true ↔ ∃e∈es'.toList,knd.is k e.2=true)/\es'.size<FD) (hf:t'.fits es'.size=true) (ht:TOk b t') :
  (h.update a (Obj.putSet es' t')).get? a=some { o with data:=.set es' (ep+1) t' }/\SetT knd b (h.update a (Obj.putSet es' t')) a S' es'.size:=by
 have hg:(h.update a (Obj.putSet es' t')).get? a=some { o with data:=.set es' (ep+1) t' }:=by
  have q:=F0 (Obj.putSet es' t') ho (by rw[putSet_of es' t' hd];rfl);rw[putSet_of es' t' hd] at q;exact q
 exact⟨hg,_,es',ep+1,t',hg,hex,rfl,hel,hf,rfl,ht⟩
theorem J6 {g:Bool->Sem Unit}(hg:∀(c:Bool)(s₁:AC)(Q':Unit->AC->Prop),Q' () s₁->AM (A0 prog w) A (g c) Q' E s₁)
  {a:Addr} {o:Obj} {es:Array (Int×An)} {ep:Nat} {t:AQ} (ho:s.heap.get? a=some o) (hex:o.ExactSet) (hd:o.data=.set es ep t)
  {es1:Array (Int×An)} {t2:AQ} {S':K->Bool} (hel:ElemsOf knd es1.toList/\(∀k,S' k=true ↔ ∃e∈es1.toList,knd.is k e.2=true)/\es1.size<FD)
  (hf:t2.fits es1.size=true) (ht:TOk b t2) {wd:Bool} {R:Option Bool->AC->Prop}
  (h:∀h',B7 a s.heap h'->SetT knd b h' a S' es1.size->R (some true) { s with heap:=h' }) :
  AM (A0 prog w) A (storeSet a es1 t2 >>= fun _=>if (!wd&&t2.tooFull)=true then (g (relayAll t2 es1 (AQ.grown es1.size)).2.2 >>= fun _=>storeSet a (relayAll t2 es1 (AQ.grown es1.size)).1 (relayAll t2 es1 (AQ.grown es1.size)).2.1 >>= fun _=>pure (some true)) else pure (some true)) R E s:=by
 refine Ap (wpAny_storeSet_of ho hd ?_ (fits_of_scanBound hel.2.2));obtain⟨ho1,hS1⟩:=Dg (knd:=knd) ho hex hd hel hf ht;have hsb1:=B7.update s.heap a (Obj.putSet es1 t2);by_cases hc:(!wd&&t2.tooFull)=true
 ·rw[if_pos hc];have hp:=relayAll_perm t2 es1 (AQ.grown es1.size);have hfr:=relayAll_fits t2 es1 (AQ.grown es1.size);have htr:=Fp ht es1 (AQ.grown es1.size);generalize relayAll t2 es1 (AQ.grown es1.size)=Rl at hp hfr htr |-;obtain⟨es2,t3,gv⟩:=Rl;dsimp only at hp hfr htr |-;have hsz:es2.size=es1.size:=by rw[<- DJ,hp.length_eq,DJ]
  have hel2:ElemsOf knd es2.toList/\(∀k,S' k=true ↔ ∃e∈es2.toList,knd.is k e.2=true)/\es2.size<FD:=
   ⟨hel.1.perm hp,fun k=>(hel.2.1 k).trans ⟨fun⟨e,he,q⟩=>⟨e,hp.mem_iff.mpr he,q⟩,fun⟨e,he,q⟩=>⟨e,hp.mem_iff.mp he,q⟩⟩,by rw[hsz];exact hel.2.2⟩
  refine Ap (hg _ _ _ (Ap (wpAny_storeSet_of ho1 rfl ?_ (fits_of_scanBound hel2.2.2))));obtain⟨_,hS2⟩:=Dg (knd:=knd) ho1 hex rfl hel2 hfr htr;rw[hsz] at hS2;exact AE (h _ (hsb1.trans (B7.update _ a _)) hS2)
 rw[if_neg hc];exact AE (h _ hsb1 hS1)
theorem Tw {a:Addr}{S:K->Bool}{n:Nat}{k:K}{x:An}{Q:Bool->AC->Prop}(hkey:knd.is k x=true)(hsc:x.scannable=true)(hS:SetT knd b s.heap a S n)(hroom:n+1<FD)
  (h:∀h',B7 a s.heap h'->SetT knd b h' a (fun k'=>S k'||decide (k'=k)) (if S k then n else n+1)->Q (!S k) { s with heap:=h' }) :
  AM (A0 prog w) A (setAddHashed a x (knd.hash k)) Q E s:=by
 obtain⟨o,es,ep,t,ho,hex,hd,hel,hf,hn,ht⟩:=hS;unfold setAddHashed setAddHashedIn;refine CL (Ap (wpAny_setState_of ho hd hf ?_));dsimp only;rw[byScan_of hsc hel.2.2 hel.1,if_pos rfl];unfold setAddByScan;refine Ap (Ap (F2 (Ap (wpAny_setScan_of hkey ho hd hf hel.1 ?_))));cases hr:List.findIdx? (fun e=>knd.is k e.2) es.toList with
 | some j=>
  dsimp only;obtain⟨hj,hpj,_⟩:=List.findIdx?_eq_some_iff_getElem.mp hr;have hSk:S k=true:=(hel.2.1 k).mpr ⟨es.toList[j],FA hj,hpj⟩;refine AE (AE ?_);have q:=h s.heap (B7.refl a s.heap) ⟨o,es,ep,t,ho,hex,hd,⟨hel.1,fun k'=>by
   rw[Bool.or_eq_true,decide_eq_true_eq,<- hel.2.1 k'];exact⟨fun hk=>hk.elim id (fun e=>e ▸ hSk),.inl⟩,hel.2.2⟩,hf,by rw[hSk];exact hn,ht⟩
  rw[hSk] at q;exact q
 | none=>
  dsimp only;have hSk:S k=false:=by
   cases hk:S k with
   | false=>rfl
   | true=>
    obtain⟨e,he,hp⟩:=(hel.2.1 k).mp hk;have q:=List.findIdx?_eq_none_iff.mp hr e he;rw[hp] at q;exact Bool.noConfusion q
  have hgw:∀(c:Bool){s₁:AC}{Q':Unit->AC->Prop},Q' () s₁->AM (A0 prog w) A (match c with|true=>rule "set.scan.the-table-gave-way" | false=>pure ()) Q' E s₁:=
   fun c s₁ Q' hq=>by cases c <;> first|exact AE hq|exact F2 hq
  have hperm:=layNew_perm t es (knd.hash k) x;have hfits:=layNew_fits t es (knd.hash k) x;have htok:=Lh ht es (knd.hash k) x;generalize layNew t es (knd.hash k) x=L at hperm hfits htok |-;obtain⟨es1,t1,wd,gv⟩:=L;dsimp only at hperm hfits htok |-;rw[toList_push] at hperm;have hsz1:es1.size=n+1:=by rw[<- DJ,hperm.length_eq,AI,DJ,hn];rfl
  have hel1:ElemsOf knd es1.toList/\(∀k',(S k'||decide (k'=k))=true ↔ ∃e∈es1.toList,knd.is k' e.2=true)/\es1.size<FD:=
   ⟨(hel.1.push hkey hsc).perm hperm,mem_push_iff hkey hel.2.1 hperm,by rw[hsz1];exact hroom⟩
  have hend:∀h',B7 a s.heap h'->SetT knd b h' a (fun k'=>S k'||decide (k'=k)) es1.size->Q true { s with heap:=h' }:=by
   intro h' hsb hS';have q:=h h' hsb;rw[hSk] at q;rw[hsz1] at hS';exact q hS'
  refine Ap (hgw _ ?_);by_cases hpl:t1.plain=true
  ·rw[if_pos hpl,hashByValue_scannable 8 hsc];refine Ap (AE ?_);refine J6 (b:=b) ?_ ho hex hd hel1 (t2:=if plainKind x=true then t1 else { t1 with plain:=false }) ?_ ?_ ?_
   ·intro c s₁ Q' hq;cases c <;> first|exact AE hq|exact F2 hq
   ·split
    ·exact hfits
    exact AQ.fits_plain_off hfits
   ·split
    ·exact htok
    exact Py htok false
   intro h' hsb hS';dsimp only;exact AE (hend h' hsb hS')
  rw[if_neg hpl];refine Ap (AE ?_);refine J6 (b:=b) ?_ ho hex hd hel1 hfits htok ?_
  ·intro c s₁ Q' hq;cases c <;> first|exact AE hq|exact F2 hq
  intro h' hsb hS';dsimp only;exact AE (hend h' hsb hS')
end
end SRT
namespace SRT
open PySem PyProof.Rows
noncomputable abbrev bt (w:Be):Bool:=w.params.followText "set-order"
section
variable {prog:AU}{w:Be}{A:BA}{R:Result->AC->Prop}{I:Addr}{fp wr:List Addr}{G:Array GenState->Array GenState->Prop}{n:Nat}{P:Nat->An->Prop}{St:Nat->AC->Prop}{b:Bool}
theorem Sw (W:WalksS prog w A.in1 I fp wr G n P St)(S:Addr)(hSf:S∉fp)(val:Nat->Int)(hval:∀i v,P i v->∃t,v=.int (val i) t)(hb:n+1<FD) :
  ∀(k i:Nat)(s:AC),n-i=k->i<=n->St i s->SetT (F4 prog w) b s.heap S (fun k'=>(EN val i).any (· == k')) (EN val i).length ->
   (∀s',Moved (S::wr) G s s'->SetT (F4 prog w) b s'.heap S (fun k'=>(EN val n).any (· == k')) (EN val n).length->R (.ok (.ret .none)) s') ->
   FK (A0 prog w) A (.builtin "set.update.loop" ⟨[.ref S,.ref I],[]⟩) R s:=by
 have hSw:S∉wr:=fun h=>hSf (W.sub _ h);have hsub:∀c∈wr,c∈S::wr:=fun c hc=>BI _ hc;intro k
 induction k with
 | zero=>
  intro i s hk hi hst hS hR;have hin:i=n:=ω;subst hin;refine Fh F.entry_set_update_loop ?_;rw[BA.under_plainId HM _];show AM _ A.in1 (FH (.ref I) >>= _) _ _ s;refine Ap (W.done s _ _ hst fun s' hm=>?_);show AM _ A.in1 (ret An.none) _ _ s';exact AE (hR s' (hm.mono hsub) (hS.get fun o e=>hm.heap S _ hSw e))
 | succ k ih=>
  intro i s hk hi hst hS hR;have hlt:i<n:=ω;refine Fh F.entry_set_update_loop ?_;rw[BA.under_plainId HM _];show AM _ A.in1 (FH (.ref I) >>= _) _ _ s;refine Ap (W.item i s _ _ hlt hst fun v s' hP hst' hm=>?_);obtain⟨t,rfl⟩:=hval i v hP;have hS':=hS.get fun o e=>hm.heap S _ hSw e;show AM _ A.in1 (Fc [An.int (val i) t] (setAdd S (.int (val i) t)) >>= _) _ _ s';refine Ap (CL ?_);unfold setAdd;refine CL (Ap ((F4 prog w).pyHash (k:=val i) (intKind_is _ _ _ _) ?_));have hroom:(EN val i).length+1<FD:=by have:=firstMet_length_le val i;omega
  refine Tw (knd:=F4 prog w) (s:={ s' with toks:=s'.toks+1 }) (intKind_is _ _ _ _) rfl hS' hroom fun h' hsb hS2=>?_;have hSi:SetT (F4 prog w) b h' S (fun k'=>(EN val (i+1)).any (· == k')) (EN val (i+1)).length:=
   hS2.congr (fun k'=>by rw[firstMet_succ,step_any]) (by rw[firstMet_succ,step_length])
  refine AE ⟨JA HM _,ih (i+1) _ ω hlt (W.frame _ s' _ _ hst' (le_succ _) fun c hc o e=>?_) hSi fun s'' hm'' hS''=>?_⟩
  ·rw[hsb.2 c (fun h:c=S=>hSf (by rw[<- h];exact hc))];exact e
  refine hR s'' (Moved.trans W.gtrans ((hm.mono hsub).then_heap (le_succ _) fun c o hc e=>?_) hm'') hS'';rw[hsb.2 c (fun h:c=S=>hc (by rw[h];exact A6))];exact e
end
noncomputable abbrev Bx (w:Be):Obj:={ cls:=.type "set",dict:=none,data:=.set #[] 0 (.fresh 0 0 (!bt w)) }
section
variable {prog:AU}{w:Be}{A:BA}{E:An->AC->Prop}{s:AC}
theorem Rx (a:An){Q₁:An->AC->Prop}(h:Q₁ (.ref s.heap.objs.size) { s with heap:=s.heap.push (Bx w) }) :
  FK (A0 prog w) A (.call (.builtin "set.__new__") ⟨[.type "set",a],[]⟩) (wants Q₁ E) s:=by
 refine codeAny_of_tree (show AM _ A.in1 (checkBuiltinCall "set.__new__" ⟨[.type "set",a],[]⟩ >>= fun _=>IA (.builtin "set.__new__" ⟨[.type "set",a],[]⟩)) _ _ s from ?_);refine Ap (GG (F.newCall_set_1 a) (AE ⟨JA F.plain_set_new _,Fh F.entry_set_new ?_⟩));rw[BA.under_plainId F.plain_set_new _];unfold AZ.«set.__new__» AZ.Frozenset.newClass;have hsub:=sub_set_self;obtain⟨hp,g,d,tk,os⟩:=s;dsimp only
 wp_walk
 refine E6 (AE ?_);dsimp only;simp only[newObj];exact Ap (wpAny_alloc (AE (AE h)))
set_option maxHeartbeats 3200000 in
theorem Ry {l:Addr}{items:Array An}{ns:List Int}{Q:An->AC->Prop}(hh:A.handled=none)(hl:s.heap.IsList l items)(hi:EU items.toList ns)(hb:items.size+1<FD)
  (h:∀(h':Heap)(tk:Nat),SetT (F4 prog w) (!bt w) h' s.heap.objs.size (fun k'=>(EN (fun i=>ns.getD i 0) items.size).any (· == k')) (EN (fun i=>ns.getD i 0) items.size).length ->
   (∀c o,c<s.heap.objs.size->s.heap.get? c=some o->h'.get? c=some o)->Q (.ref s.heap.objs.size) { s with heap:=h',toks:=tk }) :
  AM (A0 prog w) A (call (.type "set") [.ref l]) Q E s:=by
 obtain⟨c,tl,hmro⟩:=E7.mro;have hmade:=E7.made;have hsub:=E7.sub;refine wpAny_call (codeAny_of_tree (show AM _ _ (callAny (.type "set") _) _ _ _ from AE ⟨Code.quiet_builtin _ ψ,Fh F.entry_type_call ?_⟩));rw[BA.under_plain (weight_type_call_type "set" [.ref l] []) rfl];have h1:=E7.notType;have h2:=E7.canCreate;have hct:=F.typeCall_set_1 (.ref l)
 repeat (any_goals (first|assumption|wp_step))
 refine E5 (Rx (.ref l) (E:=E) (Q₁:=fun obj s₁=>obj=.ref s.heap.objs.size/\s₁={ s with heap:=s.heap.push (Bx w) }) ⟨rfl,rfl⟩) fun r s₁ hr=>?_;cases r with
 | error e=>exact hr
 | ok fl=>
  cases fl with
  | ret obj=>
   obtain⟨rfl,rfl⟩:=hr;have hS:(s.heap.push (Bx w)).get? s.heap.objs.size=some (Bx w):=AY _ rfl;have hT:AC.TypeIs { s with heap:=s.heap.push (Bx w) } (.ref s.heap.objs.size) "set" := ⟨_,hS,rfl⟩;have hli:=E7.init.lookup;have hbi:=E7.init.bind (.ref s.heap.objs.size)
   repeat (any_goals (first|assumption|wp_step))
   refine E5 (codeAny_call_builtin (R:=wants (fun r s₂=>r=.none/\∃h' tk,s₂={ s with heap:=h',toks:=tk } /\
     SetT (F4 prog w) (!bt w) h' s.heap.objs.size (fun k'=>(EN (fun i=>ns.getD i 0) items.size).any (· == k')) (EN (fun i=>ns.getD i 0) items.size).length /\
     (∀c o,c<s.heap.objs.size->s.heap.get? c=some o->h'.get? c=some o)) E) E7.init.plain F.entry_set_init (check_set_init_1 hT ?_)) fun r₂ s₂ hr₂=>?_
   ·obtain⟨ol,hol,hcl,nl,hdl⟩:=hl;obtain⟨ocls,odict,odata,oslots⟩:=ol;simp only at hcl hdl;subst hcl;subst hdl;have hol':(s.heap.push (Bx w)).get? l=some { cls:=.type "list",dict:=odict,data:=.seq items nl,slots:=oslots }:=AB _ hol;have hsls:=F.sub_list_set;have hslf:=F.sub_list_frozenset;have hne:(An.type "list" == An.type "dict")=false:=by decide
    have hl1:(s.heap.push (Bx w)).IsList l items:=⟨_,hol',rfl,nl,rfl⟩;unfold AZ.«set.__init__» noKeywords AZ.Frozenset.updateFrom;generalize hPI:pyIter=PI
    wp_walk
    subst hPI;refine D8 hl1 (Ap (wpAny_runValue ?_));have hlS:l<s.heap.objs.size:=A3 hol;have hh3:A.in1.in1.in1.handled=none:=by simp [hh]
    have hneI:l≠(s.heap.push (Bx w)).objs.size:=by
     rw[CA];exact BG (CF hlS)
    have hSf:s.heap.objs.size∉[(s.heap.push (Bx w)).objs.size,l]:=by
     rw[CA];simp only[AX,AJ,Bz,or_false,not_or];exact⟨BG (Ct _),ne_of_gt hlS⟩
    have hval:∀(i:Nat)(v:An),items[i]?=some v->∃t,v=.int ((fun i=>ns.getD i 0) i) t:=fun i v hv=>EU.int_at hi i v (by rw[CS];exact hv);refine Sw (b:=!bt w) ((HZ hh3 _ l hneI items).toS) s.heap.objs.size hSf (fun i=>ns.getD i 0) hval hb (items.size-0) 0 _ ω (ET _)
     ⟨⟨_,AY _ rfl,rfl,rfl⟩,(hl1.push _)⟩ ?hS0 ?hR
    case hS0=>exact⟨_,#[],0,_,AB _ hS,⟨rfl,rfl,rfl⟩,rfl,⟨fun e he=>by simp at he,fun k=>by simp [firstMet_zero],δ⟩,by rfl,rfl,Pz _ _ _⟩
    case hR=>
     intro s' hm hS';obtain⟨h',g',d',tk',os'⟩:=s';have eg:g'=s.gens:=hm.gens;have ed:d'=s.drawn:=hm.drawn;have eo:os'=s.os:=hm.os;subst eg;subst ed;subst eo;show AM _ _ _ _ _ _;refine AE (show AM _ _ (ret An.none) _ _ _ from AE ⟨rfl,h',tk',rfl,hS',fun c o hc e=>?_⟩);have hc1:c≠s.heap.objs.size:=BG hc;have hc2:c≠(s.heap.push (Bx w)).objs.size:=by
      rw[CA];exact BG (CF hc)
     exact hm.heap c o (by simp only[AX,AJ,Bz,or_false,not_or];exact⟨hc1,hc2⟩) (AB _ (AB _ e))
   cases r₂ with
   | error e=>exact hr₂
   | ok fl₂=>
    cases fl₂ with
    | ret r=>
     obtain⟨rfl,h',tk,rfl,hS',hk'⟩:=hr₂
     repeat (any_goals (first|assumption|wp_step))
     exact h _ _ hS' hk'
    | _=>exact hr₂.elim
  | _=>exact hr.elim
end
end SRT
namespace SRT
open PySem PyProof.Rows
theorem tR {α:Type}:∀{l:List α}{i:Nat}(h:i<l.length),(l[i]::l.eraseIdx i).Perm l
 | x::l,0,_=>E8.refl _
 | x::l,i+1,h=>by
  have h':i<l.length:=by simpa using h
  show(l[i]::x::l.eraseIdx i).Perm (x::l);exact(E8.swap _ _ _).trans (E8.cons _ (tR h'))
section
variable {prog:AU}{w:Be}{A:BA}{E:An->AC->Prop}
theorem wp_choose {s:AC}{src:Source}{n:Nat}{Q:Nat->AC->Prop}(hn:n≠0)(h:∀k d,k<n->Q k { s with drawn:=d }):AM (A0 prog w) A (choose src n) Q E s:=
 fun _ _ _=>⟨hn,h _ _ (mod_lt _ (Nat.pos_of_ne_zero hn))⟩
theorem ZL {α:Type}:∀(n:Nat)(xs:List α)(s:AC){Q:List α->AC->Prop},xs.length=n->(∀ys d,ys.Perm xs->Q ys { s with drawn:=d })->AM (A0 prog w) A (drawOrder n xs) Q E s:=by
 intro n
 induction n with
 | zero=>
  intro xs s Q hl h;have e:xs=[]:=HP.mp hl;subst e;exact AE (h [] s.drawn (E8.refl _))
 | succ n ih=>
  intro xs s Q hl h;cases xs with
  | nil=>cases hl
  | cons x xs=>
   unfold drawOrder;refine Ap (wp_choose (by simp) fun i d hi=>?_);have hg:(x::xs)[i]?=some (x::xs)[i]:=AF hi;rw[hg];dsimp only;refine Ap (ih _ _ (by rw[List.length_eraseIdx,if_pos hi];simpa using hl) fun ys d' hp=>AE (h _ d' ?_));exact(E8.cons _ hp).trans (tR hi)
end
theorem Yq {α:Type}(next:Nat->Nat):∀(fuel k:Nat)(left:List α)(out:Array α),left.length=fuel->(GU.go next fuel k left out).toList.Perm (out.toList++left):=by
 intro fuel
 induction fuel with
 | zero=>
  intro k left out hl;have e:left=[]:=HP.mp hl;subst e;show out.toList.Perm _;rw[Cf]
 | succ fuel ih=>
  intro k left out hl;unfold GU.go;have hi:next k%left.length<left.length:=mod_lt _ ω;rw[AF hi];dsimp only;refine(ih (k+1) _ _ (by rw[List.length_eraseIdx,if_pos hi];omega)).trans ?_;rw[toList_push,D7];exact E8.append_left _ (tR hi)
theorem Qh {α:Type}(next:Nat->Nat)(xs:Array α):(GU next xs).toList.Perm xs.toList:=by
 have:=Yq next xs.size 0 xs.toList #[] (by simp);simpa [GU] using this
noncomputable def jx (h:Heap)(S:Addr)(es:Array (Int×An))(ep:Nat)(t:AQ):Prop:=∃o,h.get? S=some o/\o.ExactSet/\o.data=.set es ep t
noncomputable def iQ (h:Heap)(I:Addr)(first:An)(i:Nat)(S:Addr)(n ep:Nat):Prop:=
 h.get? I=some { cls:=.type "set_iterator",dict:=none,data:=.fields #[first,.int i 0,.ref S,.int n 0,.int ep 0],slots:=#[] }
theorem jx.get {h h':Heap}{S:Addr}{es:Array (Int×An)}{ep:Nat}{t:AQ}(hS:jx h S es ep t)(hk:∀o,h.get? S=some o->h'.get? S=some o):jx h' S es ep t:=
 let ⟨o,ho,r⟩:=hS;⟨o,hk o ho,r⟩
section
variable {prog:AU}{w:Be}{A:BA}{E:An->AC->Prop}{s:AC}{S:Addr}{es:Array (Int×An)}{ep:Nat}{t:AQ}
theorem pY {Q:(Array (Int×An)×Nat×AQ)->AC->Prop}(hS:jx s.heap S es ep t)(hf:t.fits es.size=true)(h:Q (es,ep,t) s):AM (A0 prog w) A (setState S) Q E s:=
 let ⟨_,ho,_,hd⟩:=hS;wpAny_setState_of ho hd hf h
theorem below_at {xs:Array Nat}(hr:Ris xs){i:Nat}(hi:i<=xs.size):AQ.below xs (if i=0 then 0 else xs.getD (i-1) 0+1)=i:=by
 have hs:=uD hr (if i=0 then 0 else xs.getD (i-1) 0+1);generalize hb:AQ.below xs (if i=0 then 0 else xs.getD (i-1) 0+1)=b at hs;by_cases h0:i=0
 ·subst h0;simp only[↓reduceIte] at hs;rcases Nat.eq_zero_or_pos b with h|h
  ·exact h
  have hl:0<xs.size:=ω;have hg:xs[0]?=some xs[0]:=by simp [hl]
  have:=(hs.1 0 _ hg).mp h;omega
 rw[if_neg h0] at hs;have hl:i-1<xs.size:=ω;have hg:xs[i-1]?=some xs[i-1]:=by simp [hl]
 have hd:xs.getD (i-1) 0=xs[i-1]:=by simp [Array.getD,hl]
 rw[hd] at hs;have h1:i-1<b:=(hs.1 _ _ hg).mpr ω;rcases GB i b with h|h
 ·have hl2:i<xs.size:=ω;have hg2:xs[i]?=some xs[i]:=by simp [hl2]
  have h2:=(hs.1 _ _ hg2).mp h;have h3:=hr.lt hg hg2 ω;omega
 omega
theorem Y8 (hf:t.fits es.size=true)(ht:TOk (!bt w) t)(hd:bt w=true\/(!t.plain&&decide (es.size>1))=false) :
  ∃(vs:List An)(sl:Nat->Nat),sl 0=0/\vs.Perm (es.toList.map (·.2))/\∀(i:Nat)(s:AC)(A:BA)(E:An->AC->Prop)(Q:Option (An×Nat)->AC->Prop),i<=vs.length->jx s.heap S es ep t ->
   Q (vs[i]?.map fun x=>(x,sl (i+1))) s->AM (A0 prog w) A (setNext S (sl i) i ep) Q E s:=by
 by_cases hb:bt w=true
 ·refine⟨(GU (w.params.setOrder S ep) es).toList.map (·.2),fun _=>0,rfl,(Qh _ es).map _,fun i s A E Q hi hS h=>?_⟩;unfold setNext;refine Ap (pY hS hf ?_);dsimp only;unfold setsByText;refine Ap (Ap (E6 (AE ?_)));show AM _ _ (if bt w=true then _ else _) _ _ _;rw[if_pos hb,if_neg (by simp)];unfold setWalk;refine Ap (Ap (pY hS hf ?_));dsimp only;unfold setsByText;refine Ap (Ap (E6 (AE ?_)));show AM _ _ (if bt w=true then _ else _) _ _ _;rw[if_pos hb];refine Ap (E6 (AE (AE ?_)));have e:((GU (w.params.setOrder S ep) es)[i]?).map (fun e=>(e.2,0))=(((GU (w.params.setOrder S ep) es).toList.map (·.2))[i]?).map fun x=>(x,0):=by
   rw[A5,Option.map_map,CS];rfl
  show Q (((GU (w.params.setOrder S ep) es)[i]?).map (fun e=>(e.2,0))) s;rw[e];exact h
 have hb':bt w=false:=by simpa using hb
 have hdr:=hd.resolve_left hb;have hps:t.place.size=es.size:=by
  have:=hf;unfold AQ.fits at this;simp only[C7,beq_iff_eq] at this;exact this.1
 refine⟨es.toList.map (·.2),fun i=>if i=0 then 0 else t.place.getD (i-1) 0+1,rfl,E8.refl _,fun i s A E Q hi hS h=>?_⟩;unfold setNext;refine Ap (pY hS hf ?_);dsimp only;unfold setsByText;refine Ap (Ap (E6 (AE ?_)));show AM _ _ (if bt w=true then _ else _) _ _ _;rw[if_neg hb];show AM _ _ (if (!t.plain&&decide (es.size>1))=true then _ else _) _ _ _;rw[if_neg (by rw[hdr];simp)];refine Ap ?_;show AM _ _ (if (!t.led && !es.isEmpty)=true then _ else _) _ _ _;have hled:t.led=true:=by rw[ht.2.2,hb'];rfl
 rw[if_neg (by rw[hled];simp)];refine AE (AE ?_);have hi':i<=es.size:=by simpa using hi
 rw[below_at ht.1 (by rw[hps];exact hi')];rcases GB i es.size with hlt|hge
 ·have g1:es[i]?=some es[i]:=by simp [hlt]
  have g2:t.place[i]?=some t.place[i]:=by simp [hps,hlt]
  have g3:(es.toList.map (·.2))[i]?=some es[i].2:=by rw[A5,CS,g1];rfl
  rw[g1,g2];rw[g3] at h;have g4:t.place.getD i 0=t.place[i]'(by rw[hps];exact hlt):=by simp [Array.getD,hps,hlt]
  simp only[map_some,Nat.add_one_ne_zero,if_false,Nat.add_sub_cancel,g4] at h;exact h
 have g1:es[i]?=none:=by simp [hge]
 have g3:(es.toList.map (·.2))[i]?=none:=by rw[A5,CS,g1];rfl
 rw[g1];rw[g3] at h;exact h
end
end SRT
namespace SRT
open PySem PyProof.Rows
theorem Jz:entryFor table "set.__iter__" = some AZ.«frozenset.__iter__»:=entryFor_alias (id' := "frozenset.__iter__") (by kernel_rfl) rfl ψ (by kernel_rfl)
theorem eF:Slot "set_iterator" "__next__" "set_iterator.__next__" :=
 .of (owner := "set_iterator") (n := "__next__") (by rw[typeLookup_type,builtinLookup_eq_fast];kernel_rfl) ψ ψ ψ (by first|exact .inl ψ|exact .inr ψ) (by rw[isSubtype_type];kernel_rfl)
theorem yU:Slot "set_iterator" "__iter__" "set_iterator.__iter__" :=
 .of (owner := "set_iterator") (n := "__iter__") (by rw[typeLookup_type,builtinLookup_eq_fast];kernel_rfl) ψ ψ ψ (by first|exact .inl ψ|exact .inr ψ) (by rw[isSubtype_type];kernel_rfl)
theorem mG:entryFor table "set_iterator.__next__" = some AZ.«set_iterator.__next__»:=entryFor_of_tree (by kernel_rfl)
theorem Jy:entryFor table "set_iterator.__iter__" = some AZ.«dict_keyiterator.__iter__»:=entryFor_alias (id' := "dict_keyiterator.__iter__") (by kernel_rfl) rfl ψ (by kernel_rfl)
theorem oY (a:An):argsOk "set_iterator.__next__" ⟨[a],[]⟩:=by unfold argsOk;kernel_rfl
theorem Mu (a:An):argsOk "set_iterator.__iter__" ⟨[a],[]⟩:=by unfold argsOk;kernel_rfl
section
variable {prog:AU}{w:Be}{A:BA}{E:An->AC->Prop}{s:AC}{S I:Addr}{es:Array (Int×An)}{ep:Nat}{t:AQ}
theorem iQ.ty {h:AC}{first:An}{i n:Nat}(hI:iQ h.heap I first i S n ep):h.TypeIs (.ref I) "set_iterator" := ⟨_,hI,rfl⟩
theorem iQ.get {h h':Heap}{first:An}{i n:Nat}(hI:iQ h I first i S n ep)(hk:∀o,h.get? I=some o->h'.get? I=some o):iQ h' I first i S n ep:=hk _ hI
theorem lR {Q:Array (Int×An)->AC->Prop}(hS:jx s.heap S es ep t)(hf:t.fits es.size=true)(h:Q es s):AM (A0 prog w) A (setEntries S) Q E s:=
 let ⟨_,ho,_,hd⟩:=hS;wpAny_setEntries_of ho hd hf h
theorem Jw {Q:Nat->AC->Prop}(hS:jx s.heap S es ep t)(hf:t.fits es.size=true)(h:Q ep s):AM (A0 prog w) A (setEpoch S) Q E s:=
 let ⟨_,ho,_,hd⟩:=hS;wpAny_setEpoch_of ho hd hf h
theorem M4 (hh:A.handled=none) {s:AC}{P:Fin->AC->Prop}{E':An->AC->Prop}(h:∀(h':Heap)(e:An),(∀c o,s.heap.get? c=some o->h'.get? c=some o)->AC.TypeIs { s with heap:=h' } e "StopIteration" -> E' e { s with heap:=h' }) :
  AM (A0 prog w) A (newExc (.type "StopIteration") [] >>= fun e=>(raiseNew e:Sem Fin)) P E' s:=by
 refine Ap ?_;simp only[newExc,newTuple];refine Ap (BF (Ap (m:=firstArgMember _ _) (GG (a:=An.none) (by first|rfl|(simp only[firstArgMember];rfl)) ?_)) (by size_fits))
 refine BF ?_ (by size_fits);simp only[raiseNew];refine Ap (wpAny_handled ?_);rw[hh];refine Ap (AE (wpAny_throw (h _ (.ref _) (fun c o e=>AB _ (AB _ e)) ⟨_,AY _ rfl,rfl⟩)))
theorem next_item {n i:Nat}{first:Nat}{v:An}{sl:Nat}{Q:Option An->AC->Prop}(hI:iQ s.heap I (.int first 0) i S es.size ep)(hS:jx s.heap S es ep t)(hf:t.fits es.size=true)
  (hn:∀(s:AC)(A:BA)(E:An->AC->Prop)(Q:Option (An×Nat)->AC->Prop),jx s.heap S es ep t->Q (some (v,sl)) s->AM (A0 prog w) A (setNext S first i ep) Q E s)
  (hne:S≠I) (hQ:∀h',iQ h' I (.int sl 0) (i+1) S es.size ep->B7 I s.heap h'->Q (some v) { s with heap:=h' }):AM (A0 prog w) A (FH (.ref I)) Q E s:=by
 unfold FH;refine Ap (F9 (Cb (name:=D6 "__next__") hI.ty eF (Co eF hI.ty mG ?_ (oY _))));show AM _ _ (fieldsOf (.ref I) >>= _) _ _ s;refine Ap (IP hI rfl ?_);refine Ap (lR hS hf ?_);rw[if_neg (by simp)];dsimp only;refine Ap (hn s _ _ _ hS ?_);dsimp only;refine Ap (Ch hI (by simp) fun h1 g1 b1=>?_);refine Ap (Ch (s:={ s with heap:=h1 }) g1 (by simp) fun h2 g2 b2=>?_);exact AE ⟨_,rfl,AE (hQ h2 g2 (b1.trans b2))⟩
end
end SRT
namespace SRT
open PySem PyProof.Rows
section
variable {prog:AU}{w:Be}{A:BA}{E:An->AC->Prop}{s:AC}{S I T:Addr}{es:Array (Int×An)}{ep:Nat}{t:AQ}
theorem Ie {a:Addr}{h h' h'':Heap}(b:B7 a h h')(k:∀c o,h'.get? c=some o->h''.get? c=some o)(c:Addr)(o:Obj)(hc:c≠a)(e:h.get? c=some o):h''.get? c=some o:=k c o (b.extBut c o hc e)
theorem next_end {i first:Nat}{Q:Option An->AC->Prop}(hh:A.handled=none)(hI:iQ s.heap I (.int first 0) i S es.size ep)(hS:jx s.heap S es ep t)(hf:t.fits es.size=true)
  (hn:∀(s:AC)(A:BA)(E:An->AC->Prop)(Q:Option (An×Nat)->AC->Prop),jx s.heap S es ep t->Q none s->AM (A0 prog w) A (setNext S first i ep) Q E s)
  (hQ:∀h',(∀c o,c≠I->s.heap.get? c=some o->h'.get? c=some o)->Q none { s with heap:=h' }):AM (A0 prog w) A (FH (.ref I)) Q E s:=by
 unfold FH;refine Ap (F9 (Cb (name:=D6 "__next__") hI.ty eF (Co eF hI.ty mG ?_ (oY _))));show AM _ _ (fieldsOf (.ref I) >>= _) _ _ s;refine Ap (IP hI rfl (Ap (lR hS hf ?_)));rw[if_neg (by simp)];dsimp only;refine Ap (hn s _ _ _ hS ?_);dsimp only;refine Ap (Ch hI (by simp) fun h1 g1 b1=>?_);refine M4 (s:={ s with heap:=h1 }) (by simpa using hh) fun h2 e k2 ty=>Ap (HH ty isSubtype_stop (AE (hQ h2 fun c o hc x=>Ie b1 k2 c o hc x)))
noncomputable def TupAt (h:Heap) (T:Addr) (ds:List Nat):Prop:=h.get? T=some { cls:=.type "tuple",data:=.seq (ds.map fun(i:Nat)=>C9 i).toArray }
theorem Mf {i d:Nat}{ds:List Nat}{v:An}{Q:Option An->AC->Prop}(hI:iQ s.heap I (.ref T) i S es.size ep)(hS:jx s.heap S es ep t)(hT:TupAt s.heap T ds)(hf:t.fits es.size=true)
  (hd:ds[i]?=some d) (hv:(es[d]?).map (·.2)=some v) (hne:S≠I)
  (hQ:∀h',iQ h' I (.ref T) (i+1) S es.size ep->B7 I s.heap h'->Q (some v) { s with heap:=h' }):AM (A0 prog w) A (FH (.ref I)) Q E s:=by
 unfold FH;refine Ap (F9 (Cb (name:=D6 "__next__") hI.ty eF (Co eF hI.ty mG ?_ (oY _))));show AM _ _ (fieldsOf (.ref I) >>= _) _ _ s;refine Ap (IP hI rfl (Ap (lR hS hf ?_)));rw[if_neg (by simp)];dsimp only;refine Ap (C5 hT rfl ?_);dsimp only;have hg:(ds.map fun(i:Nat)=>C9 i).toArray[(i:Int).toNat]?=some (.int (d:Int) 0):=by
  rw[BO,HI,A5,hd];rfl
 rw[hg];dsimp only;unfold setNextDrawn;refine Ap (Ap (pY hS hf ?_));dsimp only;rw[if_neg (by simp)];obtain⟨⟨hh,x⟩,he,rfl⟩:=B8.mp hv;rw[BO,he];dsimp only;refine AE ?_;refine Ap (Ch hI (by simp) fun h1 g1 b1=>?_);exact AE ⟨_,rfl,AE (hQ h1 g1 b1)⟩
theorem Rt {i:Nat}{ds:List Nat}{Q:Option An->AC->Prop}(hh:A.handled=none)(hI:iQ s.heap I (.ref T) i S es.size ep)(hS:jx s.heap S es ep t)(hT:TupAt s.heap T ds)(hf:t.fits es.size=true)
  (hd:ds[i]?=none) (hQ:∀h',(∀c o,c≠I->s.heap.get? c=some o->h'.get? c=some o)->Q none { s with heap:=h' }):AM (A0 prog w) A (FH (.ref I)) Q E s:=by
 unfold FH;refine Ap (F9 (Cb (name:=D6 "__next__") hI.ty eF (Co eF hI.ty mG ?_ (oY _))));show AM _ _ (fieldsOf (.ref I) >>= _) _ _ s;refine Ap (IP hI rfl (Ap (lR hS hf ?_)));rw[if_neg (by simp)];dsimp only;refine Ap (C5 hT rfl ?_);dsimp only;have hg:(ds.map fun(i:Nat)=>C9 i).toArray[(i:Int).toNat]?=none:=by
  rw[BO,HI,A5,hd];rfl
 rw[hg];dsimp only;refine Ap (Ch hI (by simp) fun h1 g1 b1=>?_);refine Ap (Ch (s:={ s with heap:=h1 }) g1 (by simp) fun h2 g2 b2=>?_);refine M4 (s:={ s with heap:=h2 }) (by simpa using hh) fun h3 e k3 ty=>Ap (HH ty isSubtype_stop (AE (hQ h3 fun c o hc x=>Ie (b1.trans b2) k3 c o hc x)))
theorem Ni {first:An}{i n:Nat}{Q:An->AC->Prop}(hI:iQ s.heap I first i S n ep)(h:Q (.ref I) s):AM (A0 prog w) A (pyIter (.ref I)) Q E s:=by
 refine wpAny_pyIter_slot hI.ty yU (Co yU hI.ty Jy ?_ (Mu _));show AM _ _ (ret (.ref I)) _ _ s;exact AE ⟨_,rfl, "set_iterator",_,hI.ty,eF.lookup,h⟩
theorem Tv {Q:An->AC->Prop}(hh:A.handled=none)(hS:jx s.heap S es ep t)(hf:t.fits es.size=true)(ht:TOk (!bt w) t)(hz:es.size<=AK)
  (h:∀(s':AC)(I:Addr)(fp:List Addr)(vs:List An)(St:Nat->AC->Prop),(∀c o,s.heap.get? c=some o->s'.heap.get? c=some o)->s'.gens=s.gens->s'.os=s.os->s'.toks=s.toks->vs.Perm (es.toList.map (·.2))->I=s'.heap.objs.size-1->s.heap.objs.size<=I->I<s'.heap.objs.size ->
   (∀A':BA,A'.handled=none->WalksS prog w A' I fp [I] (fun a b=>b=a) vs.length (fun i v=>vs[i]?=some v) St)->St 0 s'->(∀b∈fp,b<s'.heap.objs.size/\(b=S\/s.heap.objs.size<=b))->Q (.ref I) s') :
  AM (A0 prog w) A (pyIter (.ref S)) Q E s:=by
 obtain⟨o,ho,hx,hd⟩:=id hS;have hty:s.TypeIs (.ref S) "set" := ⟨o,ho,hx.1⟩;have lt:S<s.heap.objs.size:=A3 ho;refine wpAny_pyIter_slot hty F.slot_set_iter (Co F.slot_set_iter hty Jz ?_ (F.args_set_iter_1 _));unfold AZ.«frozenset.__iter__»;show AM _ _ (AZ.Frozenset.sizeOf S >>= _) _ _ s;unfold AZ.Frozenset.sizeOf;refine Ap (Ap (lR hS hf (AE ?_)));unfold setDrawn setsByText;refine Ap (Ap (pY hS hf ?_));dsimp only;refine Ap (Ap (E6 (AE (AE ?_))));show AM _ _ (if (!bt w&&(!t.plain&&decide (es.size>1)))=true then _ else _) _ _ _;have arith:∀{n m:Nat},m=n+1->n=m-1:=by intros;omega
 by_cases hc:(!bt w&&(!t.plain&&decide (es.size>1)))=true
 ·rw[if_pos hc];refine Ap (ZL es.size (EG es.size) _ (GO) fun ds d hp=>?_);have hdl:ds.length=es.size:=by rw[hp.length_eq,GO]
  refine Ap (IL ?_ (by rw[AG,hdl];exact hz));have hS1:jx (s.heap.push { cls:=.type "tuple",data:=.seq (ds.map fun(i:Nat)=>C9 i).toArray }) S es ep t:=hS.get fun o e=>AB _ e;have hT1:TupAt (s.heap.push { cls:=.type "tuple",data:=.seq (ds.map fun(i:Nat)=>C9 i).toArray }) s.heap.objs.size ds:=AY _ rfl;have hz1:(s.heap.push { cls:=.type "tuple",data:=.seq (ds.map fun(i:Nat)=>C9 i).toArray }).objs.size=s.heap.objs.size+1:=CA ..;have hk1:∀c o,s.heap.get? c=some o->(s.heap.push { cls:=.type "tuple",data:=.seq (ds.map fun(i:Nat)=>C9 i).toArray }).get? c=some o:=fun c o e=>AB _ e;generalize s.heap.push { cls:=.type "tuple",data:=.seq (ds.map fun(i:Nat)=>C9 i).toArray }=h1 at hS1 hT1 hz1 hk1 |-;refine Ap (Jw (s:={ s with drawn:=d,heap:=h1 }) hS1 hf (Ap (BF ?_)));have hI:iQ (h1.push { cls:=.type "set_iterator",data:=.fields #[.ref s.heap.objs.size,.int (0:Nat) 0,.ref S,.int (es.size:Nat) 0,.int (ep:Nat) 0] }) h1.objs.size (.ref s.heap.objs.size) 0 S es.size ep:=AY _ rfl;refine AE ⟨_,rfl, "set_iterator",_,⟨_,hI,rfl⟩,eF.lookup,?_⟩;have hz2:(h1.push { cls:=.type "set_iterator",data:=.fields #[.ref s.heap.objs.size,.int (0:Nat) 0,.ref S,.int (es.size:Nat) 0,.int (ep:Nat) 0] }).objs.size=h1.objs.size+1:=CA ..;have hk2:∀c o,h1.get? c=some o->(h1.push { cls:=.type "set_iterator",data:=.fields #[.ref s.heap.objs.size,.int (0:Nat) 0,.ref S,.int (es.size:Nat) 0,.int (ep:Nat) 0] }).get? c=some o:=fun c o e=>AB _ e;show Q (.ref h1.objs.size) { s with drawn:=d,heap:=h1.push { cls:=.type "set_iterator",data:=.fields #[.ref s.heap.objs.size,.int (0:Nat) 0,.ref S,.int (es.size:Nat) 0,.int (ep:Nat) 0] } };generalize h1.push { cls:=.type "set_iterator",data:=.fields #[.ref s.heap.objs.size,.int (0:Nat) 0,.ref S,.int (es.size:Nat) 0,.int (ep:Nat) 0] }=h2 at hI hz2 hk2 |-;have n1:S≠h1.objs.size:=by rw[hz1];exact BG (CF lt)
  have n2:s.heap.objs.size≠h1.objs.size:=by rw[hz1];exact BG (Ct _)
  have hmem:∀i d:Nat,ds[i]?=some d->∃x:An,(es[d]?).map (fun(e:Int×An)=>e.2)=some x/\(ds.map fun d=>(es.toList.map (·.2)).getD d .none)[i]?=some x:=by
   intro i d hi;have:d<es.size:=by have:=hp.mem_iff.mp (AV hi);simpa using this
   refine⟨es[d].2,by simp [this],?_⟩;rw[A5,hi];simp [this]
  refine h { s with drawn:=d,heap:=h2 } h1.objs.size [h1.objs.size,S,s.heap.objs.size] (ds.map fun d=>(es.toList.map (·.2)).getD d .none)
   (fun i s'=>iQ s'.heap h1.objs.size (.ref s.heap.objs.size) i S es.size ep/\jx s'.heap S es ep t/\TupAt s'.heap s.heap.objs.size ds)
   (fun c o e=>hk2 c o (hk1 c o e)) rfl rfl rfl ?_ (arith hz2) (by rw[hz1];exact le_succ _) (by show h1.objs.size<h2.objs.size;rw[hz2];exact Ct _) (fun A' hh'=>?_) ⟨hI,hS1.get (hk2 S),hk2 _ _ hT1⟩ ?_
  ·have e:(EG es.size).map (fun d=>(es.toList.map (·.2)).getD d .none)=es.toList.map (·.2):=by
    refine ext_getElem (by simp) fun i h1 h2=>?_;simp at h1 h2;simp [h2]
   exact(hp.map fun d=>(es.toList.map fun(x:Int×An)=>x.2).getD d An.none).trans (E8.of_eq e)
  ·have hlen:(ds.map fun d=>(es.toList.map (·.2)).getD d .none).length=ds.length:=AG _;exact {
    sub:=fun b hb=>by simp at hb;simp [hb]
    grefl:=fun _=>rfl
    gtrans:=fun a b c e f=>f.trans e
    frame:=fun i s1 h' tk st _ hk=>⟨st.1.get fun o e=>hk _ (by simp) o e,st.2.1.get fun o e=>hk _ (by simp) o e,hk _ (by simp) _ st.2.2⟩
    item:=fun i s1 Q1 E1 hi st hQ1=>by
     rw[hlen] at hi;obtain⟨x,e1,e2⟩:=hmem i ds[i] (AF hi);refine Mf st.1 st.2.1 st.2.2 hf (AF hi) e1 n1 fun h' i' b'=>?_;exact hQ1 x { s1 with heap:=h' } e2 ⟨i',st.2.1.get fun o e=>b'.extBut _ o n1 e,b'.extBut _ _ n2 st.2.2⟩ ⟨fun b o hb e=>b'.extBut b o (fun z=>hb (by simp [z])) e,rfl,rfl,rfl,A9 _⟩
    done:=fun s1 Q1 E1 st hQ1=>by
     refine Rt hh' st.1 st.2.1 st.2.2 hf (by rw[hlen];simp) fun h' k'=>?_;exact hQ1 { s1 with heap:=h' } ⟨fun b o hb e=>k' b o (fun z=>hb (by simp [z])) e,rfl,rfl,rfl,A9 _⟩
    self:=fun i s1 Q1 E1 st hQ1=>Ni st.1 hQ1 }
  intro b hb;show b<h2.objs.size/\_;have l0:=CF lt;simp only[AX,Bz,or_false] at hb;rw[hz2,hz1];rcases hb with rfl|rfl|rfl
  ·rw[hz1];exact⟨Ct _,.inr (le_succ _)⟩
  ·exact⟨CF l0,.inl rfl⟩
  exact⟨CF (Ct _),.inr (A9 _)⟩
 rw[if_neg hc];obtain⟨vs,sl,sl0,hp,hn⟩:=Y8 (prog:=prog) (w:=w) (S:=S) (ep:=ep) hf ht (by
  cases hb:bt w with
  | true=>exact .inl rfl
  | false=>rw[hb] at hc;exact .inr (by simpa using hc))
 refine Ap (AE (Ap (Jw hS hf (Ap (BF ?_)))));have hI:iQ (s.heap.push { cls:=.type "set_iterator",data:=.fields #[.int (0:Nat) 0,.int (0:Nat) 0,.ref S,.int (es.size:Nat) 0,.int (ep:Nat) 0] }) s.heap.objs.size (.int (sl 0) 0) 0 S es.size ep:=by rw[sl0];exact AY _ rfl
 refine AE ⟨_,rfl, "set_iterator",_,⟨_,hI,rfl⟩,eF.lookup,?_⟩;have hz2:(s.heap.push { cls:=.type "set_iterator",data:=.fields #[.int (0:Nat) 0,.int (0:Nat) 0,.ref S,.int (es.size:Nat) 0,.int (ep:Nat) 0] }).objs.size=s.heap.objs.size+1:=CA ..;have hk2:∀c o,s.heap.get? c=some o->(s.heap.push { cls:=.type "set_iterator",data:=.fields #[.int (0:Nat) 0,.int (0:Nat) 0,.ref S,.int (es.size:Nat) 0,.int (ep:Nat) 0] }).get? c=some o:=fun c o e=>AB _ e;show Q (.ref s.heap.objs.size) { s with heap:=s.heap.push { cls:=.type "set_iterator",data:=.fields #[.int (0:Nat) 0,.int (0:Nat) 0,.ref S,.int (es.size:Nat) 0,.int (ep:Nat) 0] } };generalize s.heap.push { cls:=.type "set_iterator",data:=.fields #[.int (0:Nat) 0,.int (0:Nat) 0,.ref S,.int (es.size:Nat) 0,.int (ep:Nat) 0] }=h2 at hI hz2 hk2 |-;have n1:S≠s.heap.objs.size:=BG lt;refine h { s with heap:=h2 } s.heap.objs.size [s.heap.objs.size,S] vs (fun i s'=>iQ s'.heap s.heap.objs.size (.int (sl i) 0) i S es.size ep/\jx s'.heap S es ep t)
  (fun c o e=>hk2 c o e) rfl rfl rfl hp (arith hz2) (A9 _) (by show s.heap.objs.size<h2.objs.size;rw[hz2];exact Ct _) (fun A' hh'=>?_) ⟨hI,hS.get (hk2 S)⟩ ?_
 ·exact {
   sub:=fun b hb=>by simp at hb;simp [hb]
   grefl:=fun _=>rfl
   gtrans:=fun a b c e f=>f.trans e
   frame:=fun i s1 h' tk st _ hk=>⟨st.1.get fun o e=>hk _ (by simp) o e,st.2.get fun o e=>hk _ (by simp) o e⟩
   item:=fun i s1 Q1 E1 hi st hQ1=>by
    have hv:vs[i]?=some vs[i]:=AF hi;refine next_item (n:=0) st.1 st.2 hf (v:=vs[i]) (sl:=sl (i+1)) (fun s2 A2 E2 Q2 st2 hQ2=>hn i s2 A2 E2 Q2 (GY hi) st2 (by rw[hv];exact hQ2)) n1 fun h' i' b'=>?_;exact hQ1 vs[i] { s1 with heap:=h' } hv ⟨i',st.2.get fun o e=>b'.extBut _ o n1 e⟩ ⟨fun b o hb e=>b'.extBut b o (fun z=>hb (by simp [z])) e,rfl,rfl,rfl,A9 _⟩
   done:=fun s1 Q1 E1 st hQ1=>by
    have hv:vs[vs.length]?=none:=by simp
    refine next_end hh' st.1 st.2 hf (fun s2 A2 E2 Q2 st2 hQ2=>hn vs.length s2 A2 E2 Q2 (A9 _) st2 (by rw[hv];exact hQ2)) fun h' k'=>?_;exact hQ1 { s1 with heap:=h' } ⟨fun b o hb e=>k' b o (fun z=>hb (by simp [z])) e,rfl,rfl,rfl,A9 _⟩
   self:=fun i s1 Q1 E1 st hQ1=>Ni st.1 hQ1 }
 intro b hb;show b<h2.objs.size/\_;rw[hz2];simp only[AX,Bz,or_false] at hb;rcases hb with rfl|rfl
 ·exact⟨Ct _,.inr (A9 _)⟩
 exact⟨CF lt,.inl rfl⟩
end
end SRT
namespace SRT
open PySem PyProof.Rows
noncomputable def gallopF:Bool->EC->Array EC->Nat->Nat->Nat->StateT F3 Sem (Option Nat):=sortPriv% PySem.Builtin.gallop
noncomputable def mergeLoF:Array EC->Array EC->StateT F3 Sem (Array EC):=sortPriv% PySem.Builtin.mergeLo
noncomputable def mergeHiF:Array EC->Array EC->StateT F3 Sem (Array EC):=sortPriv% PySem.Builtin.mergeHi
noncomputable def IK (p:EC):Prop:=∃n t,p.1=.int n t
noncomputable def Em (xs:Array EC):Prop:=∀(i:Nat) p,xs[i]?=some p->IK p
end SRT
namespace SRT
open PySem PyProof.Rows
noncomputable abbrev withG (st:F3)(g:Nat):F3:=F3.mk' (kindOf st) (arrOf st) (D2 st) g (failedOf st)
section
variable {prog:AU}{w:Be}{s:AC}{A:BA}{E:An->AC->Prop}
noncomputable def aaM (a b out:Array EC)(i j:Nat):List EC:=out.toList++(a.toList.drop i++b.toList.drop j)
noncomputable def LoI (a b out:Array EC)(i j:Nat):Prop:=(aaM a b out i j).Perm (a.toList++b.toList)/\i+1<a.size/\j<b.size
noncomputable def RetI (a b:Array EC)(c:Option (Array EC)):Prop:=∃r,c=some r/\r.toList.Perm (a.toList++b.toList)
end
end SRT
namespace SRT
open PySem PyProof.Rows
section
variable {prog:AU}{w:Be}{s:AC}{A:BA}{E:An->AC->Prop}
noncomputable def aaN (a b out:Array EC)(i j:Nat):List EC:=(a.toList.take i++b.toList.take j)++out.toList
noncomputable def HiI (a b out:Array EC)(i j:Nat):Prop:=(aaN a b out i j).Perm (a.toList++b.toList)/\0<i/\1<j/\i<=a.size/\j<=b.size
end
end SRT
namespace SRT
open PySem PyProof.Rows
noncomputable def Chain:List (Nat×Nat×Nat)->Nat->Nat->Prop
 | [],a,b=>a=b
 | (p,n,_)::t,a,b=>p=a/\1<=n/\Chain t (a+n) b
theorem Chain.le:∀{l:List (Nat×Nat×Nat)}{a b:Nat},Chain l a b->a<=b
 | [],_,_,h=>Nat.le_of_eq h
 | (_,n,_)::_,a,_,⟨_,_,h⟩=>BB (Nat.le_add_right a n) h.le
theorem Chain.two:∀{pre post:List (Nat×Nat×Nat)}{sa na w sb nb v a b:Nat},Chain (pre++(sa,na,w)::(sb,nb,v)::post) a b ->
  sb=sa+na/\1<=na/\1<=nb/\sb+nb<=b/\Chain (pre++(sa,na+nb,w)::post) a b
 | [],post,sa,na,w,sb,nb,v,a,b,⟨h1,h2,h3,h4,h5⟩=>by
  have:=h5.le;refine⟨ω,h2,h4,ω,h1,ω,?_⟩;rw[<- Nat.add_assoc];exact h5
 | (_,_,_)::pre,post,sa,na,w,sb,nb,v,a,b,⟨h1,h2,h3⟩=>by
  obtain⟨k1,k2,k3,k4,k5⟩:=Chain.two h3;exact⟨k1,k2,k3,k4,h1,h2,k5⟩
theorem Chain.snoc:∀{l:List (Nat×Nat×Nat)}{a b n w:Nat},Chain l a b->1<=n->Chain (l++[(b,n,w)]) a (b+n)
 | [],a,b,n,w,h,h1=>by cases h;exact⟨rfl,h1,rfl⟩
 | (_,_,_)::t,a,b,n,w,⟨k1,k2,k3⟩,h1=>⟨k1,k2,k3.snoc h1⟩
theorem Chain.TX:∀{l:List (Nat×Nat×Nat)}{a b p n w v:Nat},Chain (l++[(p,n,w)]) a b->Chain (l++[(p,n,v)]) a b
 | [],a,b,p,n,w,v,h=>h
 | (_,_,_)::t,a,b,p,n,w,v,⟨k1,k2,k3⟩=>⟨k1,k2,k3.TX⟩
theorem Em.perm {a b:Array EC}(h:Em a)(hp:b.toList.Perm a.toList):Em b:=by
 intro i p hi;have h1:p∈b.toList:=by rw[<- CS] at hi;exact AV hi
 obtain⟨j,hj⟩:=List.getElem?_of_mem (hp.mem_iff.mp h1);exact h j p (by rw[<- CS];exact hj)
theorem Em.ext {a:Array EC}(h:Em a)(x y:Nat):Em (a.extract x y):=by
 intro i p hi;rw[Array.getElem?_extract] at hi;split at hi
 ·exact h _ p hi
 cases hi
section
variable {prog:AU}{w:Be}{s:AC}{A:BA}{E:An->AC->Prop}{a₀:Array EC}
structure MB (a₀:Array EC)(st:F3):Prop where
 kind:kindOf st=oneType'
 perm:(arrOf st).toList.Perm a₀.toList
 fail:failedOf st=none
theorem MB.size {st:F3}(h:MB a₀ st):(arrOf st).size=a₀.size:=by simpa using h.perm.length_eq
end
end SRT
namespace SRT
open PySem PyProof.Rows
section
variable {prog:AU}{w:Be}{s:AC}{A:BA}{E:An->AC->Prop}{a₀:Array EC}{pd:Array (Nat×Nat×Nat)}
noncomputable def MP (a₀:Array EC)(pd:Array (Nat×Nat×Nat))(st:F3):Prop:=MB a₀ st/\D2 st=pd
theorem MP.set {st:F3}{xs:Array EC}(h:MP a₀ pd st)(hp:xs.Perm (arrOf st)):MP a₀ pd (setArr st xs):=
 ⟨⟨h.1.kind,(Array.perm_iff_toList_perm.mp hp).trans h.1.perm,h.1.fail⟩,h.2⟩
end
end SRT
namespace SRT
open PySem PyProof.Rows
section
variable {prog:AU}{w:Be}{s:AC}{A:BA}{E:An->AC->Prop}{a₀:Array EC}{pd:Array (Nat×Nat×Nat)}
noncomputable def MC (a₀:Array EC)(hi:Nat)(st:F3):Prop:=MB a₀ st/\Chain (D2 st).toList 0 hi
theorem Xi:∀(l:List (Nat×Nat×Nat)),l≠[]->∃t p n v,l=t++[(p,n,v)]
 | l,h=>⟨l.dropLast,(l.getLast h).1,(l.getLast h).2.1,(l.getLast h).2.2,(List.dropLast_concat_getLast h).symm⟩
theorem w6 {α:Type}(f:α->α)(x:α):∀t:List α,(t++[x]).modify t.length f=t++[f x]
 | []=>rfl
 | y::t=>congrArg (y :: ·) (w6 f x t)
theorem MC.TX {st:F3}{hi pw:Nat}(h:MC a₀ hi st):MC a₀ hi (setPending st ((D2 st).modify ((D2 st).size-1) fun(x,len,_)=>(x,len,pw))):=by
 refine⟨⟨h.1.kind,h.1.perm,h.1.fail⟩,?_⟩;show Chain ((D2 st).modify ((D2 st).size-1) fun(x,len,_)=>(x,len,pw)).toList 0 hi;have hc:=h.2;by_cases he:(D2 st).toList=[]
 ·have:D2 st=#[]:=by simpa using he
  rw[this] at hc |-;simpa using hc
 obtain⟨t,p,n,v,e⟩:=Xi _ he;have e2:D2 st=(t++[(p,n,v)]).toArray:=by rw[<- e]
 rw[e] at hc;rw[e2];have:((t++[(p,n,v)]).toArray.modify ((t++[(p,n,v)]).toArray.size-1) fun(x,len,_)=>(x,len,pw)).toList=t++[(p,n,pw)]:=by
  simp [w6]
 rw[this];exact hc.TX
theorem MC.push {st:F3}{lo n:Nat}(h:MC a₀ lo st)(h1:1<=n):MC a₀ (lo+n) (setPending st ((D2 st).push (lo,n,0))):=by
 refine⟨⟨h.1.kind,h.1.perm,h.1.fail⟩,?_⟩;show Chain ((D2 st).push (lo,n,0)).toList 0 (lo+n);rw[toList_push];exact h.2.snoc h1
theorem MC.of {st st':F3}{lo:Nat}(h:MC a₀ lo st)(h':MP a₀ (D2 st) st'):MC a₀ lo st':=⟨h'.1,by rw[h'.2];exact h.2⟩
end
end SRT
namespace SRT
open PySem PyProof.Rows
end SRT
namespace SRT
open PySem PyProof.Rows
theorem Rb {vs xs:List An}(hp:xs.Perm vs):∀{ns:List Int},EU vs ns->∃ns',EU xs ns'/\ns'.Perm ns:=by
 induction hp with
 | nil=>intro ns h;exact⟨ns,h,E8.refl _⟩
 | cons x _ ih=>
  intro ns h;cases h with
  | cons n t h=>
   obtain⟨ns',h1,h2⟩:=ih h;exact⟨n::ns',.cons n t h1,h2.cons n⟩
 | swap x y l=>
  intro ns h;cases h with
  | cons n t h=>
   cases h with
   | cons m u h=>exact⟨m::n::_,.cons m u (.cons n t h),E8.swap _ _ _⟩
 | trans _ _ ih1 ih2=>
  intro ns h;obtain⟨n1,a1,b1⟩:=ih2 h;obtain⟨n2,a2,b2⟩:=ih1 a1;exact⟨n2,a2,b2.trans b1⟩
theorem sV {α:Type}[DecidableEq α]:∀{l ks:List α},l.Nodup->(∀x∈l,x∈ks)->ks.length=l.length->ks.Perm l
 | [],ks,_,_,h=>by rw[HP.mp h]
 | x::l,ks,hn,hs,hl=>by
  obtain⟨h1,h2⟩:=HU.mp hn;have hx:x∈ks:=hs x (A6 ..);refine(List.perm_cons_erase hx).trans (E8.cons _ (sV h2 (fun y hy=>?_) ?_))
  ·have:y≠x:=fun e=>h1 (e ▸ hy);exact(List.mem_erase_of_ne this).mpr (hs y (BI _ hy))
  rw[List.length_erase_of_mem hx,hl];rfl
theorem qM (val:Nat->Int):∀i,(EN val i).Nodup
 | 0=>List.nodup_nil
 | i+1=>by
  rw[firstMet_succ];unfold step_dedup;have ih:=qM val i;split
  ·exact ih
  rename_i h;rw[List.nodup_append];refine⟨ih,by simp,fun a ha b hb e=>?_⟩;simp only[AJ] at hb;exact h (any_eq_true.mpr ⟨a,ha,by simp [e,hb]⟩)
noncomputable def ded (ns:List Int):List Int:=EN (fun i=>ns.getD i 0) ns.length
theorem wK (ns:List Int):(ded ns).Nodup:=qM _ _
theorem yJ (ns:List Int):(ded ns).length<=ns.length:=firstMet_length_le _ _
theorem Ox {ns:List Int}{k:Int}:k∈ded ns↔k∈ns:=by
 have e:=firstMet_any (fun i=>ns.getD i 0) ns.length k;have hr:(EG ns.length).map (fun i=>ns.getD i 0)=ns:=by
  refine ext_getElem (by simp) fun i h1 h2=>?_;simp at h1 h2;simp [h2]
 rw[hr] at e;have a1:∀l:List Int,l.any (· == k)=true↔k∈l:=fun l=>by simp
 rw[<- a1,<- a1];unfold ded;rw[e]
section
variable {prog:AU}{w:Be}{A:BA}{E:An->AC->Prop}{s:AC}{S:Addr}{es:Array (Int×An)}{ep:Nat}{t:AQ}
theorem Bg:∀{l:List (Int×An)},ElemsOf (F4 prog w) l->∃ks:List Int,EU (l.map (·.2)) ks/\∀k,k∈ks ↔ ∃e∈l,(F4 prog w).is k e.2=true
 | [],_=>⟨[],.nil,fun k=>by simp⟩
 | (h,v)::l,he=>by
  obtain⟨⟨k,hk,_⟩,_⟩:=he.head;obtain⟨tk,e⟩:=An.isInt_shape hk;dsimp only at e hk;subst e;obtain⟨ks,h1,h2⟩:=Bg he.tail;refine⟨k::ks,.cons k tk h1,fun j=>?_⟩;rw[AX,h2];constructor
  ·rintro(rfl|⟨e,a,b⟩)
   ·exact⟨_,A6 ..,hk⟩
   exact⟨e,BI _ a,b⟩
  rintro⟨e,a,b⟩;rcases AX.mp a with rfl|a
  ·exact .inl ((F4 prog w).inj _ _ _ b hk)
  exact .inr ⟨e,a,b⟩
theorem V0 {vs:List An}{acc:Array An}(h:ItemsOf (fun i v=>vs[i]?=some v) acc vs.length):acc.toList=vs:=by
 refine ext_getElem (by simpa using h.1) fun i h1 h2=>?_;have:vs[i]?=some acc[i]:=h.2 i acc[i] (by simp);rw[AF h2] at this;simpa using this.symm
theorem JK {Q:List An->AC->Prop}(hh:A.handled=none)(hS:jx s.heap S es ep t)(hf:t.fits es.size=true)(ht:TOk (!bt w) t)(hz:es.size<=AK)
  (hQ:∀(s':AC)(vs:List An),vs.Perm (es.toList.map (·.2))->(∀c o,s.heap.get? c=some o->s'.heap.get? c=some o)->s'.gens=s.gens->s'.os=s.os->s.heap.objs.size<=s'.heap.objs.size->Q vs s') :
  AM (A0 prog w) A (collect (.ref S)) Q E s:=by
 obtain⟨o,ho,hx,hd⟩:=id hS;have hty:s.TypeIs (.ref S) "set" := ⟨o,ho,hx.1⟩;have lt:S<s.heap.objs.size:=A3 ho;unfold collect;refine Ap (wpAny_runValue (Fh F.entry_proto_collect ?_));rw[BA.under_plainId F.plain_proto_collect _];show AM _ A.in1 (newList [] >>= fun l=>IA (.builtin "list.__iadd__" ⟨[l,.ref S],[]⟩)) _ _ s;refine Ap (BF ?_);refine AE ⟨JA F.plain_list_iadd _,Fh F.entry_list_iadd ?_⟩;rw[BA.under_plainId F.plain_list_iadd _];have hS1:jx (s.heap.push { cls:=.type "list",data:=.seq ([]:List An).toArray }) S es ep t:=hS.get fun o e=>AB _ e;have hL1:(s.heap.push { cls:=.type "list",data:=.seq ([]:List An).toArray }).get? s.heap.objs.size=some { cls:=.type "list",data:=.seq ([]:List An).toArray }:=AY _ rfl;have hk1:∀c o,s.heap.get? c=some o->(s.heap.push { cls:=.type "list",data:=.seq ([]:List An).toArray }).get? c=some o:=fun c o e=>AB _ e;have hty1:AC.TypeIs { s with heap:=s.heap.push { cls:=.type "list",data:=.seq ([]:List An).toArray } } (.ref S) "set" := ⟨o,hk1 _ _ ho,hx.1⟩;generalize s.heap.push { cls:=.type "list",data:=.seq ([]:List An).toArray }=h1 at hS1 hL1 hk1 hty1 |-;have ne1:s.heap.objs.size≠S:=ne_of_gt lt;show AM _ A.in1 (AZ.List.listExtendWith (.ref s.heap.objs.size) (.ref S) (.ref s.heap.objs.size)) _ _ _;unfold AZ.List.listExtendWith;refine Ap (wpAny_typeOf hty1 ?_);have q1:AZ.List.listSameRef (.ref s.heap.objs.size) (.ref S)=false:=by simp [AZ.List.listSameRef,ne1]
 rw[if_neg (by rw[q1];decide)];refine Ap (Tv (s:={ s with heap:=h1 }) hh hS1 hf ht hz fun s2 I fp vs St hk2 hg2 ho2 ht2 hp hI hle hlt W st0 hfp=>?_);have hty2:s2.TypeIs (.ref S) "set" := ⟨o,hk2 _ _ (hk1 _ _ ho),hx.1⟩;refine Ap (CL ?_);unfold AZ.List.listLengthHint;refine Ap (wpAny_specialOf hty2 F.slot_set_len.lookup ?_)
 (generalize hid:("set.__len__" : String)=id0;(fail_if_success (clear hid id0));wp_delta;rw[show splitId id0=some ("set","__len__") from by subst hid;decide +kernel];subst hid)
 refine Ap (HH (b:=true) hty2 sub_set_self ?_);refine EM rfl (wpAny_ite_true ψ (Ap (wpAny_typeOf hty2 (AE ?_))));rw[if_pos δ];have hSf:s.heap.objs.size∉fp:=fun z=>by
  have l1:s.heap.objs.size<h1.objs.size:=A3 hL1;rcases(hfp _ z).2 with e|e
  ·exact ne1 e
  exact C6 _ (A8 l1 e)
 have hL2:=hk2 _ _ hL1;refine Ap (F2 (Ap ?_));show AM _ A.in1 (updateSeq s.heap.objs.size (·.push .none) >>= fun _=>updateSeq s.heap.objs.size (·.pop)) _ _ _;refine Ap (wpAny_updateSeq hL2 rfl ?_);have hL3:=F0 (Db (·.push An.none)) hL2 rfl;refine wpAny_updateSeq hL3 rfl ?_;have hL4:=F0 (Db (·.pop)) hL3 rfl;have oth:∀b o,b≠s.heap.objs.size->s2.heap.get? b=some o->((s2.heap.update s.heap.objs.size (Db (·.push An.none))).update s.heap.objs.size (Db (·.pop))).get? b=some o:=
  fun b o hb e=>(C4 _ _ (B6 hb)).trans ((C4 _ _ (B6 hb)).trans e)
 have W1:=W A.in1 (by simpa using hh);refine AE ⟨JA F.plain_extend_loop _,codeAny_extend_loopS W1 (by rw[hp.length_eq,AG,DJ];exact hz) _ hSf _ vs.length 0 _ _ _ rfl (ET _)
  (W1.frame 0 s2 _ s2.toks st0 (A9 _) fun b hb o e=>oth b o (fun z=>hSf (z ▸ hb)) e) hL4 (ItemsOf.nil _) fun s' acc' c' hm hS' hacc=>?_⟩
 show AM _ A (load s.heap.objs.size >>= _) _ _ s';refine Ap (wpAny_load hS' (AE ?_));rw[V0 hacc];have l2:s.heap.objs.size<s'.heap.objs.size:=A3 hS';refine hQ s' vs hp (fun c o e=>?_) (hm.gens.trans hg2) (hm.os.trans ho2) (GY l2);have lc:c<s.heap.objs.size:=A3 e;have nI:c≠I:=fun z=>by
  have l3:s.heap.objs.size<h1.objs.size:=A3 hL1;have l4:h1.objs.size<=I:=hle;rw[z] at lc;exact C6 _ (A8 (lt_trans lc l3) l4)
 exact hm.heap c o (by simp only[AX,Bz,or_false,not_or];exact⟨BG lc,nI⟩) (oth c o (BG lc) (hk2 _ _ (hk1 _ _ e)))
theorem Tp {l:List Int}{Q:An->AC->Prop}(hh:A.handled=none)(hS:SetT (F4 prog w) (!bt w) s.heap S (fun k'=>l.any (· == k')) l.length)(hnd:l.Nodup)(h64:l.length<64)
  (h:∀(s':AC)(L:Addr)(xs:List An)(ns':List Int)(k:Nat),s'.heap.get? L=some (seqObj "list" xs.toArray k)->EU xs ns'->ns'.Perm l->(l.length<64->ns'.Pairwise (·<=·)) ->
   (∀c o,s.heap.get? c=some o->s'.heap.get? c=some o)->s'.gens=s.gens->s'.os=s.os->s.heap.objs.size<=L->Q (.ref L) s'):AM (A0 prog w) A (call (.builtin "sorted") [.ref S]) Q E s:=by
 obtain⟨o,es,ep,t,ho,hex,hd,⟨hel,hmem,hb⟩,hf,hn,ht⟩:=hS;have hz:es.size<=AK:=fits_of_scanBound hb;obtain⟨ks,hks,hkm⟩:=Bg hel;have hkp:ks.Perm l:=sV hnd (fun x hx=>(hkm x).mpr ((hmem x).mp (by simpa using hx))) (by rw[<- hn,<- DJ,<- EU.length hks,AG]);refine Calls.call_function_entry kind_sorted plain_sorted entry_sorted (args_sorted1 (.ref S)) ?_;unfold AZ.«sorted»;refine Ap (m:=checkCount "sorted" 1 1 _) (AE (Ap (JK (by simpa using hh) ⟨o,ho,hex,hd⟩ hf ht hz fun s1 vs hp hk1 hg1 ho1 hl1=>Ap (wpAny_newList ?_ ?_))))
 ·obtain⟨ms,hms,hmp⟩:=Rb hp hks;have hvl:vs.length=l.length:=by rw[EU.length hms,hmp.length_eq,hkp.length_eq]
  have hL:(s1.heap.push (seqObj "list" vs.toArray 0)).get? s1.heap.objs.size=some (seqObj "list" vs.toArray 0):=AY _ rfl;show AM (A0 prog w) A.in1 _ _ E { s1 with heap:=s1.heap.push (seqObj "list" vs.toArray 0) };refine Ap (CL (Co slot_list_sort ⟨_,hL,rfl⟩ entry_list_sort (list_sort_tree hL hms ?_ fun xs ns' a1 a2 a3=>⟨_,rfl,AE ⟨_,rfl,?_⟩⟩) (args_list_sort _)))
  ·rw[hvl];exact h64
  obtain⟨e,he⟩:=sortedHeap_at (out:=xs) hL;refine h _ _ xs.toList ns' e (by simpa using he) a1 (a2.trans (hmp.trans hkp)) (fun _=>a3) (fun c o x=>?_) hg1 ho1 hl1;have lc:c<s1.heap.objs.size:=A3 (hk1 c o x);show(sortedHeap _ _ _ _).get? c=some o;rw[sortedHeap_old (BG lc) (by rw[size_push'];exact CF lc)];exact AB _ (hk1 c o x)
 rw[hp.length_eq,AG,DJ];exact hz
end
end SRT
set_option maxHeartbeats 4000000
namespace L2
open PySem PySem.Spec PyProof.Rows
theorem yN:∀{xs:List Int}{us:List An},Vals (xs.map V.int) us->EU us xs
 | [],_,h=>by cases h;exact .nil
 | x::xs,_,h=>by
  cases h with
  | cons r h=>
   obtain⟨t,rfl⟩:=r;exact .cons x t (yN h)
theorem DN:∀{us:List An}{xs:List Int},EU us xs->Vals (xs.map V.int) us
 | _,_,.nil=>.nil
 | _,_,.cons n t h=>.cons ⟨t,rfl⟩ (DN h)
noncomputable def tSS (K:Au)(ta:TA):TE:=fun σ H Q=>ta σ H fun vs H1=>∃(l:Addr)(xs:List Int),vs=[.ref l]/\SqL K H1 l (xs.map V.int)/\xs.length<64 /\
 ∀(p:Addr)(ys:List Int),H1 p=none->ys.Perm (SRT.ded xs)->((SRT.ded xs).length<64->ys.Pairwise (·<=·))->Q (.ref p) (upd H1 p (.lst (ys.map V.int)))
section
variable {X:Cx}{pins:List (Addr×Obj)}{s:AC}{σ:St}{H:Hp}
theorem Inv.drawn (I:Inv X pins σ H s)(d:Drawn):Inv X pins σ H { s with drawn:=d }:=
 I.step (g':=s.gens) (d':=d) (t':=s.toks) (h':=s.heap) (ch:=[]) (fun _ z=>nomatch z) (fun b o _ _ _ e _=>e) (fun b o _ _ _ e _=>⟨o.slots,e⟩) (fun _ _ _ _ n=>n) (fun b o _ e=>⟨o,e⟩) (fun _ _ e=>e) (fun _ _ _ e=>e) (fun b ps e=>⟨#[],by rw[e];simp⟩) (fun _ h=>h) I.hok I.bare
theorem Yv {a:Expr}{ta:TA}{p p2 pos pos2:Pos}(hc:X.calm=true) (hgl:Gl X "sorted") (hml:X.mg "sorted" = none) (hg:Gl X "set") (hm:X.mg "set" = none) (ha:PA X [a] ta)
  (hs:AL [a] X.env=[(false,eval a X.env)]:=by rfl)
  (he:AL [.Call (.Name "set" p2) [a] [] pos2] X.env=[(false,eval (.Call (.Name "set" p2) [a] [] pos2) X.env)]:=by rfl) :
  PE X (.Call (.Name "sorted" p) [.Call (.Name "set" p2) [a] [] pos2] [] pos) (tSS X.K ta):=by
 intro pins s σ H Q I h;refine EH (oH I hgl hml PyProof.Rows.boot_sorted ?_ δ δ);refine PyProof.Rows.callWith_builtin1 ?_ he rfl;rw[he];show AM _ _ (spliced ((false,eval (.Call (.Name "set" p2) [a] [] pos2) X.env)::[])) _ _ s;refine DU ?_;refine Call_ (oH I hg hm PyProof.Rows.boot_set (C1 (thA (ha pos2 pins s σ H _ I h) fun us s1 vs H1 I1 r1 q1=>?_) hs rfl));obtain⟨l,xs,rfl,sq,hn,q⟩:=q1;cases r1 with
 | cons r rr=>
  cases rr;cases r;obtain⟨its,rv,pl,hz⟩:=I1.list sq;have hI:=yN rv;have hlen:its.length=xs.length:=EU.length hI;refine SRT.Ry (I1.ok.hd hc) pl.isList (by simpa using hI) (by simp [hlen,FD];omega) fun h2 t2 hS hk=>D4 ?_;have eq:EN (fun i=>xs.getD i 0) its.toArray.size=SRT.ded xs:=by unfold SRT.ded;rw[AN,hlen]
  rw[eq] at hS;have hk2:∀c o,s1.heap.get? c=some o->h2.get? c=some o:=fun c o e=>hk c o (A3 e) e;refine SRT.Tp (s:={ s1 with heap:=h2,toks:=t2 }) (I1.ok.hd hc) hS (SRT.wK xs) (FV (SRT.yJ xs) hn) fun s3 L ys ns k gL iL pL oL k3 g3 o3 l3=>?_;have le:s1.heap.objs.size<=L:=by
   obtain⟨o,_,_,_,e,_⟩:=hS;exact BB (GY (A3 e)) l3
  have hf:H1 L=none:=I1.hok.fresh le;obtain⟨h3,g3',d3,t3,o3'⟩:=s3;cases g3;cases o3;have hl:ns.length<=AK:=by
   rw[pL.length_eq];exact BB (SRT.yJ xs) (BB (GY hn) δ)
  refine⟨.ref L,_,((I1.drawn d3).laid (t':=t3) (h':=h3) (fun c o e=>k3 c o (hk2 c o e)) le (show cI X.prog X.w _ h3 _ (.lst (ns.map V.int)) from⟨by simpa using hl,ys,k,DN iL,gL⟩)),rfl,q L ns hf pL oL⟩
theorem Nt {a:Expr}{ta:TA}{p p2 pos pos2:Pos}(hc:X.calm=true) (hgl:Gl X "sorted") (hml:X.mg "sorted" = none) (hg:Gl X "set") (hm:X.mg "set" = none) (ha:QA X [a] ta)
  (hs:AL [a] X.env=[(false,eval a X.env)]:=by rfl)
  (he:AL [.Call (.Name "set" p2) [a] [] pos2] X.env=[(false,eval (.Call (.Name "set" p2) [a] [] pos2) X.env)]:=by rfl) :
  QE X (.Call (.Name "sorted" p) [.Call (.Name "set" p2) [a] [] pos2] [] pos) (tSS X.K ta):=⟨Yv hc hgl hml hg hm ha.h hs he⟩
end
noncomputable def aZ:List Nat->Nat
 | []=>0
 | k::l=>2^k+aZ l
noncomputable def bH (n s:Nat):List Nat:=(EG n).filter fun k=>s.testBit k
theorem HF:∀(l m:List Nat),aZ (l++m)=aZ l+aZ m
 | [],m=>(Nat.zero_add _).symm
 | k::l,m=>by
  show 2^k+aZ (l++m)=2^k+aZ l+aZ m;rw[HF l m];omega
theorem snoc_ind {P:List Nat->Prop}(h0:P [])(h1:∀l m,P l->P (l++[m])):∀l,P l:=by
 intro l;have:∀(n:Nat)(l:List Nat),l.length=n->P l:=by
  intro n
  induction n with
  | zero=>intro l h;rw[ED h];exact h0
  | succ n ih=>
   intro l h;obtain⟨a,b,rfl⟩:=wB l ω;refine h1 a b (ih a ?_);rw[AI,BE] at h;omega
 exact this l.length l rfl
theorem rB:∀l:List Nat,l.Pairwise (· < ·)->∀n,(∀k∈l,k<n)->aZ l<2^n/\∀j,(aZ l).testBit j=decide (j∈l):=by
 refine snoc_ind ?_ ?_
 ·intro _ n _;exact⟨EO n,fun j=>by show Nat.testBit 0 j=_;rw[Nat.zero_testBit];simp⟩
 intro l m ih hp n hl;obtain⟨p1,_,p3⟩:=List.pairwise_append.mp hp;have hm:∀k∈l,k<m:=fun k hk=>p3 k hk m (AJ.mpr rfl);obtain⟨i1,i2⟩:=ih p1 m hm;have hmn:=hl m (by simp);have e:aZ (l++[m])=2^m+aZ l:=by
  rw[HF];show aZ l+(2^m+0)=_;omega
 have hlt:2^m+aZ l<2^(m+1):=by rw[pow_succ];omega
 rw[e];refine⟨A8 hlt (CH δ hmn),fun j=>?_⟩;rcases Nat.lt_trichotomy j m with c|c|c
 ·rw[Nat.testBit_two_pow_add_gt c,i2 j];have:j≠m:=by omega
  simp [this]
 ·subst c;rw[Nat.testBit_two_pow_add_eq,i2 j];have:j∉l:=fun z=>C6 _ (hm j z);simp [this]
 rw[Iy (A8 hlt (CH δ c))];have h1:j≠m:=ω;have h2:j∉l:=fun z=>by have:=hm j z;omega
 simp [h1,h2]
theorem uV:∀{a b:List Nat},a.Pairwise (· < ·)->b.Pairwise (· < ·)->(∀x,x∈a↔x∈b)->a=b
 | [],[],_,_,_=>rfl
 | [],y::b,_,_,h=>absurd ((h y).mpr A6) Bz
 | x::a,[],_,_,h=>absurd ((h x).mp A6) Bz
 | x::a,y::b,ha,hb,h=>by
  obtain⟨a1,a2⟩:=ER.mp ha;obtain⟨b1,b2⟩:=ER.mp hb;have e:x=y:=by
   rcases AX.mp ((h x).mp A6) with z|z
   ·exact z
   rcases AX.mp ((h y).mpr A6) with w|w
   ·exact w.symm
   have:=b1 x z;have:=a1 y w;omega
  subst e;congr 1;refine uV a2 b2 fun z=>?_;constructor
  ·intro m;rcases AX.mp ((h z).mp (BI _ m)) with w|w
   ·have:=a1 z m;omega
   exact w
  intro m;rcases AX.mp ((h z).mpr (BI _ m)) with w|w
  ·have:=b1 z m;omega
  exact w
theorem lW (n s:Nat):(bH n s).Pairwise (· < ·):=Ix.filter _
theorem iC {n s k:Nat}:k∈bH n s↔k<n/\s.testBit k=true:=by
 unfold bH;rw[Ev,HA]
theorem JX {l:List Nat}(hp:l.Pairwise (· < ·)){n:Nat}(hl:∀k∈l,k<n):bH n (aZ l)=l:=by
 refine uV (lW _ _) hp fun x=>?_;rw[iC,(rB l hp n hl).2 x,decide_eq_true_eq];exact⟨fun z=>z.2,fun z=>⟨hl x z,z⟩⟩
theorem lB {n s:Nat}(h:s<2^n):aZ (bH n s)=s:=by
 have hb:=(rB (bH n s) (lW n s) n fun k hk=>(iC.mp hk).1).2;refine Nat.eq_of_testBit_eq fun j=>?_;rw[hb j];by_cases c:j<n
 ·cases e:s.testBit j with
  | true=>exact decide_eq_true (iC.mpr ⟨c,e⟩)
  | false=>exact decide_eq_false fun z=>by rw[(iC.mp z).2] at e;cases e
 rw[Iy (A8 h (CH δ ω))];exact decide_eq_false fun z=>c (iC.mp z).1
theorem lD (p:Nat->Bool):∀l:List Nat,aZ (l.filter p)+aZ (l.filter fun k=>!p k)=aZ l
 | []=>rfl
 | k::l=>by
  have ih:=lD p l;cases h:p k with
  | true=>
   rw[EK (by rw[h]),EL (by rw[h];decide)];show 2^k+_+_=2^k+aZ l;omega
  | false=>
   rw[EL (by rw[h];decide),EK (by rw[h];rfl)];show _+(2^k+_)=2^k+aZ l;omega
theorem HD {l:List Nat}(hp:l.Pairwise (· < ·)){k:Nat}(hk:k∈l):aZ (l.filter (·≠k))+2^k=aZ l:=by
 have e:(l.filter fun j=>!(decide (j≠k)))=[k]:=by
  refine uV (hp.filter _) (List.pairwise_singleton _ _) fun x=>?_;rw[Ev,AJ];constructor
  ·intro z;have:=z.2;simpa using this
  intro z;subst z;exact⟨hk,by simp⟩
 have h:=lD (fun j=>decide (j≠k)) l;rw[e] at h;exact h
theorem uK:∀{l:List Nat},l≠[]->0<aZ l
 | [],h=>absurd rfl h
 | k::l,_=>by
  have:=EO k;show 0<2^k+aZ l;omega
theorem Tz {l:List Nat}(hp:l.Pairwise (· < ·))(k:Nat):aZ l &&& (2^k-1)=aZ (l.filter (· < k)):=by
 have bound:∀x∈l,x<aZ l+1:=fun x hx=>by
  have h1:=HD hp hx;have:=@Nat.lt_two_pow_self x;omega
 have b1:=(rB l hp _ bound).2;have b2:=(rB (l.filter (· < k)) (hp.filter _) _ fun x hx=>bound x (Ev.mp hx).1).2;refine Nat.eq_of_testBit_eq fun j=>?_;rw[Nat.testBit_and,Nat.testBit_two_pow_sub_one,b1 j,b2 j];by_cases c1:j∈l <;> by_cases c2:j<k <;> simp [c1,c2]
theorem zb:∀l:List Nat,(l.map fun k=>((2^k:Nat):Int)).sum=(aZ l:Nat)
 | []=>rfl
 | k::l=>by
  rw[DV,sum_cons,zb l];show _=((2^k+aZ l:Nat):Int);omega
theorem WM {x n:Nat}(h:x<2^n):x<2^AZ.Int.intBits (x:Int)/\AZ.Int.intBits (x:Int)<=n:=by
 unfold AZ.Int.intBits;by_cases c:x=0
 ·subst c;exact⟨δ,by simp⟩
 rw[if_neg (by simp;omega),Int.natAbs_natCast];exact⟨Nat.lt_log2_self,(log2_lt c).mpr h⟩
theorem Ms {n m s:Nat}(h1:s<2^n)(h2:s<2^m):bH n s=bH m s:=by
 refine uV (lW _ _) (lW _ _) fun k=>?_;rw[iC,iC];have no:∀{a},s<2^a->s.testBit k=true->k<a:=fun {a} h z=>by
  rcases GB k a with c|c
  ·exact c
  rw[Iy (A8 h (CH δ c))] at z;cases z
 exact⟨fun z=>⟨no h2 z.2,z.2⟩,fun z=>⟨no h1 z.2,z.2⟩⟩
theorem oX (n s:Nat):bH (n+1) s=bH n s++(if s.testBit n=true then [n] else []):=by
 unfold bH;rw[List.range_succ,List.filter_append];congr 1;by_cases c:s.testBit n=true
 ·rw[if_pos c,EK (by simpa using c)];rfl
 rw[if_neg c,EL (by simpa using c)];rfl
noncomputable def blK (x:V)(H:Hp)(Q:VK):Prop:=match x with
 | .int i=>Q (.int (AZ.Int.intBits i:Nat)) H
 | _=>False
noncomputable def S8 (to:TE):TE:=fun σ H Q=>to σ H fun x H1=>blK x H1 Q
theorem S7 (to:TE)(σ:St)(H:Hp)(Q:VK):S8 to σ H Q=to σ H fun x H1=>blK x H1 Q:=rfl
theorem Z1 (i:Int)(H:Hp)(Q:VK):blK (.int i) H Q=Q (.int (AZ.Int.intBits i:Nat)) H:=rfl
section
variable {X:Cx}{o:Expr}{to:TE}
theorem YJ {apos cpos:Pos}(ho:PE X o to) (hbase:DS o "bit_length" X.env (eval o X.env)=eval o X.env:=by rfl) (hline:(apos.endLine == cpos.line)=true:=by rfl) :
  PE X (.Call (.Attribute o "bit_length" apos) [] [] cpos) (S8 to):=by
 intro pins s σ H Q I h;refine wpAny_Call_method0_late hbase hline (thE (ho pins s σ H _ I h) fun v s1 x H1 I1 r1 q=>?_);cases x with
 | int i=>
  replace q:Q (.int (AZ.Int.intBits i:Nat)) H1:=q;obtain⟨t,rfl⟩:=r1;have c:AM (A0 X.prog X.w) X.A (call (.builtin "int.bit_length") [.int i t]) (EP X pins σ Q) X.xe s1:=
   call_givesAt (P:=fun _=>True) F.slot_int_bit_length (typeIs_int s1 i t) F.entry_int_bit_length (F.args_int_bit_length_1 _) (PySem.AutoIntG2.int_bit_length_int_0 i t).at trivial
    (show EP X pins σ Q _ _ from⟨.int _,H1,I1.tok _,⟨_,rfl⟩,q⟩)
  exact⟨"int","int.bit_length",F.plainAttrs_int,F.slot_int_bit_length,F.type_int_bit_length,typeIs_int s1 i t,(fun a (e:An.int i t=.ref a)=>nomatch e),DI rfl (PySem.evalArgs_none c)⟩
 | _=>exact q.elim
theorem Yc {apos cpos:Pos}(ho:QE X o to) (hbase:DS o "bit_length" X.env (eval o X.env)=eval o X.env:=by rfl) (hline:(apos.endLine == cpos.line)=true:=by rfl) :
  QE X (.Call (.Attribute o "bit_length" apos) [] [] cpos) (S8 to):=⟨YJ ho.h hbase hline⟩
end
inductive Wy where
 | pick (l:Int)
 | tab
 | msk (l:Int)
 | one (k:Nat)
 | wit (k:Nat)
 | low (k:Nat)
noncomputable def hdL:Wy->List AD
 | .pick l=>[.str "pick",.int l]
 | .tab=>[.str "table"]
 | .msk l=>[.str "mask",.int l]
 | .one k=>[.str "is",.int (k:Int)]
 | .wit k=>[.str "within",.int (k:Int)]
 | .low k=>[.str "below",.int (k:Int)]
noncomputable def gP (ss:Sts)(left:List Nat):Wy->List (List Nat)
 | .pick _=>[]
 | .tab=>[]
 | .msk l=>[left.filter fun k=>(iH ss k).2.2≠l]
 | .one k=>[left.filter (·≠k)]
 | .wit k=>[left.filter (·≠k)]
 | .low k=>[left.filter (· < k),left.filter (k<=·)]
noncomputable def ptD (p:List Nat):AD:=.int ((aZ p:Nat):Int)
noncomputable def wyD (ss:Sts)(left:List Nat)(w:Wy):AD:=.tuple [.tuple (hdL w),.list ((gP ss left w).map ptD)]
noncomputable def qm (ss:Sts)(k:Nat):List Wy:=if (iH ss k).1=(iH ss k).2.1 then [.one k,.wit k] else [.wit k]
noncomputable def Pb (ss:Sts)(left:List Nat):List Wy:=left.flatMap (qm ss)++(left.drop 1).map Wy.low
theorem yx (ss:Sts):∀l:List Nat,(l.flatMap (qm ss)).length<=2*l.length
 | []=>ET _
 | k::l=>by
  have:=yx ss l;rw[GS,AI,BN];have:(qm ss k).length<=2:=by unfold qm;split <;> simp
  omega
theorem low_split {left:List Nat}(hp:left.Pairwise (· < ·))(k:Nat):aZ left-aZ (left.filter (· < k))=aZ (left.filter (k<=·)):=by
 have h:=lD (fun j=>decide (j<k)) left;have e:(left.filter fun j=>!(decide (j<k)))=left.filter (k<=·):=List.filter_congr fun j _=>by
  by_cases c:j<k
  ·rw[decide_eq_true c,decide_eq_false (show ¬k<=j by omega)];rfl
  rw[decide_eq_false c,decide_eq_true (show k<=j by omega)];rfl
 rw[e] at h;omega
section
variable {ok:Addr->Prop}{σ:St}{H:Hp}{te:TE}{d:AD}{ds:List AD}{D:Ends}{i:Nat}
theorem gvV {v:V}(h:σ[i]?=some (some v))(t:aJ ok H v d):Gv ok (tV i) σ H d:=fun H2 s Q q=>by
 unfold tV;rw[h];exact q _ _ (Same.refl _) (t.same s)
theorem uE {r:Addr}{xs:List V}(hσ:σ[i]?=some (some (.ref r)))(er:H r=some (.lst xs))(hx:xs.length<1000000)(hr:∀a,ok a->a≠r)(t:aH ok H xs ds)(h:Gv ok te σ H d)
  (q:∀v H',Same H H'->aH ok (upd H' r (.lst (xs++[v]))) (xs++[v]) (ds++[d])->D.nx σ (upd H' r (.lst (xs++[v])))):wX (yR (tV i) te) D σ H:=by
 unfold wX yR tV;rw[hσ];show Z5 _ _ _ _ _;rw[J5];refine⟨by rw[er];trivial,h H (Same.refl _) _ fun v H' s tv=>?_⟩;rw[s _ _ er,O7];refine⟨A8 hx δ,q v H' s ?_⟩;exact((t.same s).append (.cons tv .nil)).keep fun a o h e=>⟨h,by rw[aM (hr a h)];exact e⟩
end
theorem Wq (left:List Nat):sO (nv left) (some 1) none=nv (left.drop 1):=by
 unfold sO;have e2:HT.sIx (nv left).length (nv left).length none=(nv left).length:=rfl;rw[e2];cases left with
 | nil=>rfl
 | cons a r=>
  have e1:HT.sIx (nv (a::r)).length 0 (some 1)=1:=by
   simp only[HT.sIx,iJ,BN];split
   ·omega
   omega
  rw[e1];show(((nv (a::r)).drop 1).take _)=nv r;rw[FU (by rw[EW];exact A9 _)];rfl
theorem aaq {ss:Sts}{left:List Nat}{i k:Nat}(h:left[i]?=some k):((left.take (i+1)).flatMap (qm ss))=(left.take i).flatMap (qm ss)++qm ss k:=by
 rw[take_snoc h,List.flatMap_append,GS,flatMap_nil,Cf]
theorem HB {left:List Nat}(hp:left.Pairwise (· < ·)){k:Nat}(hk:k∈left):((aZ left:Nat):Int)-1*2^((k:Int)).toNat=((aZ (left.filter (·≠k)):Nat):Int):=by
 have h:=HD hp hk;rw[EE,BO,show((2:Int)^k)=((2^k:Nat):Int) by rw[EB];rfl];omega
theorem PN {left:List Nat}(hp:left.Pairwise (· < ·))(k:Nat):AZ.bitAnd ((aZ left:Nat):Int) (1*2^((k:Int)).toNat-1)=((aZ (left.filter (· < k)):Nat):Int):=by
 have p:=EO k;rw[EE,BO,show((2:Int)^k-1)=((2^k-1:Nat):Int) by rw[Int.natCast_sub p,EB];rfl,Mt,Tz hp]
theorem yZ {left:List Nat}(hp:left.Pairwise (· < ·))(k:Nat):((aZ left:Nat):Int)-((aZ (left.filter (· < k)):Nat):Int)=((aZ (left.filter (k<=·)):Nat):Int):=by
 have h:=lD (fun j=>decide (j<k)) left;have:=low_split hp k;omega
noncomputable def qX (ss:Sts)(left:List Nat)(L:List Int):Prop:=L.Nodup/\∀l,l∈L ↔ ∃k∈left,lbl ss k=l
noncomputable def wyP (L:List Int):List Wy:=if L.length=1 then [.pick (L.getD 0 0)] else []
noncomputable def wyT (ss:Sts)(left:List Nat):List Wy:=if dY ss left<=200 then [.tab] else []
noncomputable def wyM (ss:Sts)(left:List Nat)(L:List Int):List Wy:=if dY ss left<=64/\1<L.length then L.map Wy.msk else []
noncomputable def J9 (ss:Sts)(left:List Nat)(L:List Int):List Wy:=wyP L++wyT ss left++wyM ss left L
theorem abT {ok:Addr->Prop}{σ:St}{H:Hp}{i:Nat}{p:Addr}{L:List Int}(hσ:σ[i]?=some (some (.ref p)))(e:H p=some (.lst (L.map V.int)))(hL:0<L.length):Gv ok (tOp vY (tV i) (tC (V.int 0))) σ H (.int (L.getD 0 0)):=fun H' s Q q=>by
 unfold tOp tV tC;rw[hσ];show vY (.ref p) (.int 0) H' Q;rw[zj,s _ _ e,Om];cases L with
 | nil=>exact absurd hL δ
 | cons x L=>exact⟨V.int x,dH (xs:=V.int x::L.map V.int) (j:=0) rfl,q _ _ (Same.refl _) (.int x)⟩
theorem R9 (ss:Sts)(left:List Nat)(L:List Int):(J9 ss left L).length<=2+L.length:=by
 have h1:(wyP L).length<=1:=by unfold wyP;split <;> simp
 have h2:(wyT ss left).length<=1:=by unfold wyT;split <;> simp
 have h3:(wyM ss left L).length<=L.length:=by unfold wyM;split <;> simp
 unfold J9;rw[AI,AI];omega
theorem R8 (ss:Sts)(left:List Nat):(Pb ss left).length<=3*left.length:=by
 have h1:=yx ss left;unfold Pb;rw[AI,AG,EW];omega
noncomputable def Ph (ss:Sts)(left:List Nat)(L:List Int):List Wy:=J9 ss left L++if 1<left.length then Pb ss left else []
theorem mK {ss:Sts}{n s:Nat}(hn:ss.length=n)(h0:0<s)(h:s<2^n):Lf ss (bH n s):=by
 refine⟨fun z=>?_,fun k hk=>by have:=(iC.mp hk).1;omega,lW n s⟩;have e:=lB h;rw[z] at e;have:(0:Nat)=s:=e;omega
theorem lV (n s:Nat):(bH n s).length<=n:=BB (DT _ _) (by rw[GO];exact A9 _)
inductive Pg where
 | pick (l:Int)
 | one (k:Nat) (r:Pg)
 | wit (k:Nat) (r:Pg)
 | low (k:Nat) (a b:Pg)
 | msk (l:Int) (r:Pg)
 | tab
 | odd (d:AD)
structure OddOk (d:AD):Prop where
 tab:d≠.tuple [.str "table"]
 pick:∀l,d≠.tuple [.str "pick",.int l]
 one:∀(k:Nat) r,d≠.tuple [.str "is",.int (k:Int),r]
 wit:∀(k:Nat) r,d≠.tuple [.str "within",.int (k:Int),r]
 low:∀(k:Nat) a b,d≠.tuple [.str "below",.int (k:Int),a,b]
 msk:∀l r,d≠.tuple [.str "mask",.int l,r]
noncomputable def pR (ss:Sts)(left:List Nat):Wy->Prop
 | .pick l=>∀k∈left,lbl ss k=l
 | .tab=>dY ss left<=200
 | .msk l=>dY ss left<=64/\(∃k∈left,lbl ss k=l)/\∃k∈left,lbl ss k≠l
 | .one k=>(k∈left/\1<left.length)/\(iH ss k).1=(iH ss k).2.1
 | .wit k=>k∈left/\1<left.length
 | .low k=>k∈left.drop 1
noncomputable def mkP:Wy->List Pl->Pl
 | .pick l,_=>.pick l
 | .tab,_=>.tab
 | .msk l,ps=>.msk l (ps.getD 0 .tab)
 | .one k,ps=>.one k (ps.getD 0 .tab)
 | .wit k,ps=>.wit k (ps.getD 0 .tab)
 | .low k,ps=>.low k (ps.getD 0 .tab) (ps.getD 1 .tab)
noncomputable def jP (w:Wy):Pl:=mkP w []
theorem Rp {p:Nat->Bool}{left:List Nat}(h:∃a∈left,p a=false):aZ (left.filter p)<aZ left/\(left.filter p).length<left.length:=by
 obtain⟨a,ha,e⟩:=h;have h1:=lD p left;have h2:(left.filter fun k=>!p k)≠[]:=fun z=>by
  have:a∈left.filter fun k=>!p k:=Ev.mpr ⟨ha,by rw[e];rfl⟩;rw[z] at this;cases this
 have h3:=uK h2;refine⟨ω,?_⟩;rcases GB (left.filter p).length left.length with c|c
 ·exact c
 have hs:=(List.filter_sublist (p:=p) (l:=left)).eq_of_length_le c;rw[List.filter_eq_self] at hs;rw[hs a ha] at e;cases e
theorem Ro {p:Nat->Bool}{left:List Nat}(h:∃a∈left,p a=true):left.filter p≠[]:=fun z=>by
 obtain⟨a,ha,e⟩:=h;have:a∈left.filter p:=Ev.mpr ⟨ha,e⟩;rw[z] at this;cases this
theorem Io {left:List Nat}(hu:left.Pairwise (· < ·))(h:1<left.length)(k:Nat):∃a∈left,a≠k:=by
 match left,h with
 | a::b::l,_=>
  have:a<b:=(ER.mp hu).1 b A6;by_cases c:a=k
  ·exact⟨b,by simp,ω⟩
  exact⟨a,by simp,c⟩
theorem lG {ss:Sts}{left:List Nat}(lf:Lf ss left){w:Wy}(h:pR ss left w):∀p∈gP ss left w,Lf ss p/\aZ p<aZ left/\p.length<left.length:=by
 have mk:∀q:Nat->Bool,(∃a∈left,q a=true)->(∃a∈left,q a=false)->Lf ss (left.filter q)/\aZ (left.filter q)<aZ left/\(left.filter q).length<left.length:=fun q h1 h2=>
  ⟨⟨Ro h1,fun k hk=>lf.lt k (Ev.mp hk).1,lf.up.filter _⟩,Rp h2⟩
 intro p hp;cases w with
 | pick l=>cases hp
 | tab=>cases hp
 | msk l=>
  rw[AJ.mp hp];obtain⟨_,⟨a,ha,ea⟩,b,hb,eb⟩:=h;exact mk _ ⟨b,hb,decide_eq_true eb⟩ ⟨a,ha,decide_eq_false fun z=>z ea⟩
 | one k=>
  rw[AJ.mp hp];obtain⟨b,hb,eb⟩:=Io lf.up h.1.2 k;exact mk _ ⟨b,hb,decide_eq_true eb⟩ ⟨k,h.1.1,decide_eq_false fun z=>z rfl⟩
 | wit k=>
  rw[AJ.mp hp];obtain⟨b,hb,eb⟩:=Io lf.up h.2 k;exact mk _ ⟨b,hb,decide_eq_true eb⟩ ⟨k,h.1,decide_eq_false fun z=>z rfl⟩
 | low k=>
  have hk:k∈left:=GM h;have ha:∃a∈left,a<k:=by
   match left,h,lf with
   | a::l,h,lf=>exact⟨a,A6,(ER.mp lf.up).1 k (show k∈(a::l).drop 1 from h)⟩
  obtain⟨a,ha,ea⟩:=ha;rcases AX.mp hp with rfl|hp
  ·exact mk _ ⟨a,ha,decide_eq_true ea⟩ ⟨k,hk,decide_eq_false (C6 k)⟩
  rw[AJ.mp hp];exact mk _ ⟨k,hk,decide_eq_true (A9 k)⟩ ⟨a,ha,decide_eq_false ω⟩
noncomputable def jO (f:List Nat->Pl->Int)(N:List Int)(ss:Sts)(left:List Nat)(w:Wy):Int:=f left (jP w)+((gP ss left w).map fun p=>N.getD (aZ p) 0).sum
noncomputable def Br (f:List Nat->Pl->Int)(N:List Int)(ss:Sts)(left:List Nat)(c:Int):Prop:=(∃w,pR ss left w/\c=jO f N ss left w)/\∀w,pR ss left w->c<=jO f N ss left w
structure Tbl (f:List Nat->Pl->Int)(ss:Sts)(n m:Nat)(N:List Int):Prop where
 len:N.length=m
 at0:N.getD 0 0=0
 lst:∀x,0<x->x<m->Br f N ss (bH n x) (N.getD x 0)
theorem Ka {f:List Nat->Pl->Int}{N M:List Int}{ss:Sts}{left:List Nat}{w:Wy}(h:∀p∈gP ss left w,N.getD (aZ p) 0=M.getD (aZ p) 0):jO f N ss left w=jO f M ss left w:=by
 unfold jO;rw[List.map_congr_left h]
theorem Br.congr {f:List Nat->Pl->Int}{N M:List Int}{ss:Sts}{left:List Nat}{c:Int}(lf:Lf ss left)(h:∀p,Lf ss p->aZ p<aZ left->N.getD (aZ p) 0=M.getD (aZ p) 0)(h1:Br f N ss left c):Br f M ss left c:=by
 have key:∀w,pR ss left w->jO f N ss left w=jO f M ss left w:=fun w hw=>Ka fun p hp=>by
  obtain⟨a,b,_⟩:=lG lf hw p hp;exact h p a b
 obtain⟨⟨w,hw,ew⟩,l1⟩:=h1;exact⟨⟨w,hw,by rw[<- key w hw];exact ew⟩,fun v hv=>by rw[<- key v hv];exact l1 v hv⟩
theorem Tbl.snoc {f:List Nat->Pl->Int}{ss:Sts}{n m:Nat}{N:List Int}{c:Int}(hn:ss.length=n)(h0:0<m)(hm:m<2^n)(h:Tbl f ss n m N)(hc:Br f N ss (bH n m) c):Tbl f ss n (m+1) (N++[c]):=by
 have old:∀y,y<m->(N++[c]).getD y 0=N.getD y 0:=fun y hy=>by
  rw[AO,AO,D5 (by rw[h.len];exact hy)]
 have new:(N++[c]).getD m 0=c:=by
  rw[AO,Cs (by rw[h.len];exact A9 m),h.len,IH];rfl
 refine⟨by rw[AI,h.len];rfl,by rw[old 0 h0,h.at0],fun x hx hlt=>?_⟩;have lf:=mK hn hx (show x<2^n by omega);have e:=lB (show x<2^n by omega);by_cases c':x=m
 ·subst c';rw[new];exact hc.congr lf fun p _ hp=>(old _ ω).symm
 rw[old x ω];exact(h.lst x hx ω).congr lf fun p _ hp=>(old _ ω).symm
theorem Tbl.start (f:List Nat->Pl->Int)(ss:Sts)(n:Nat):Tbl f ss n 1 [0]:=⟨rfl,rfl,fun x h1 h2=>ω⟩
structure PlT (f:List Nat->Pl->Int)(ss:Sts)(n m:Nat)(N:List Int)(T:List Pl):Prop where
 len:T.length=m
 ok:∀x,0<x->x<m->PlV ss (T.getD x .tab) (bH n x)/\Et ss f (T.getD x .tab) (bH n x)=N.getD x 0/\pI (T.getD x .tab)+1<=2*(bH n x).length
theorem acP (ss:Sts)(left:List Nat)(w:Wy)(ps:List Pl)(h:ps.length=(gP ss left w).length):plD (mkP w ps)=.tuple (hdL w++ps.map plD):=by
 cases w with
 | pick l=>cases ED h;rfl
 | tab=>cases ED h;rfl
 | msk l=>obtain⟨a,rfl⟩:=Ee.mp h;rfl
 | one l=>obtain⟨a,rfl⟩:=Ee.mp h;rfl
 | wit l=>obtain⟨a,rfl⟩:=Ee.mp h;rfl
 | low k=>
  match ps,h with
  | [a,b],_=>rfl
noncomputable def ab4 (f:List Nat->Pl->Int):Prop:=∀left w ps,f left (mkP w ps)=f left (jP w)
theorem Pu (ws zs:List Int):ab4 (cT ws zs):=fun left w ps=>by cases w <;> rfl
theorem abz {f:List Nat->Pl->Int}(hf:ab4 f){ss:Sts}{n m:Nat}{N:List Int}{T:List Pl}(hn:ss.length=n)(hm:m<2^n)(h0:0<m)(h:PlT f ss n m N T){w:Wy}(hw:pR ss (bH n m) w){c:Int}(hc:c=jO f N ss (bH n m) w) :
  PlV ss (mkP w ((gP ss (bH n m) w).map fun p=>T.getD (aZ p) .tab)) (bH n m)/\Et ss f (mkP w ((gP ss (bH n m) w).map fun p=>T.getD (aZ p) .tab)) (bH n m)=c/\pI (mkP w ((gP ss (bH n m) w).map fun p=>T.getD (aZ p) .tab))+1<=2*(bH n m).length:=by
 have lf:=mK hn h0 hm;have e:=lB hm;generalize bH n m=left at *;have part:∀p∈gP ss left w,PlV ss (T.getD (aZ p) .tab) p/\Et ss f (T.getD (aZ p) .tab) p=N.getD (aZ p) 0/\pI (T.getD (aZ p) .tab)+1<=2*p.length/\p.length<left.length:=fun p hp=>by
  obtain⟨l1,l2,l3⟩:=lG lf hw p hp;have hb:bH n (aZ p)=p:=JX l1.up fun k hk=>by have:=l1.lt k hk;omega
  have:=h.ok (aZ p) (uK l1.ne) ω;rw[hb] at this;exact⟨this.1,this.2.1,this.2.2,l3⟩
 have hl:0<left.length:=IM.mpr lf.ne;have ht:=hf left w ((gP ss left w).map fun p=>T.getD (aZ p) .tab);unfold jO at hc;rw[<- ht] at hc;cases w with
 | pick l=>exact⟨⟨lf,hw⟩,by rw[hc];exact(add_zero _).symm,by show 1+1<=_;omega⟩
 | tab=>exact⟨⟨lf,hw⟩,by rw[hc];exact(add_zero _).symm,by show 1+1<=_;omega⟩
 | msk l=>
  obtain⟨p1,p2,p3,p4⟩:=part _ (AJ.mpr rfl);exact⟨⟨⟨lf,hw.1,hw.2.1⟩,p1⟩,by rw[hc];exact congrArg (f left _ + ·) (p2.trans (add_zero _).symm),by show pI _+1+1<=_;exact BB (IQ p3 1) ω⟩
 | one k=>
  obtain⟨p1,p2,p3,p4⟩:=part _ (AJ.mpr rfl);exact⟨⟨⟨lf,hw.1.1,hw.2⟩,p1⟩,by rw[hc];exact congrArg (f left _ + ·) (p2.trans (add_zero _).symm),by show pI _+1+1<=_;exact BB (IQ p3 1) ω⟩
 | wit k=>
  obtain⟨p1,p2,p3,p4⟩:=part _ (AJ.mpr rfl);exact⟨⟨⟨lf,hw.1⟩,p1⟩,by rw[hc];exact congrArg (f left _ + ·) (p2.trans (add_zero _).symm),by show pI _+1+1<=_;exact BB (IQ p3 1) ω⟩
 | low k=>
  obtain⟨p1,p2,p3,p4⟩:=part _ A6;obtain⟨q1,q2,q3,q4⟩:=part _ (BI _ A6);have hsum:(left.filter (· < k)).length+(left.filter (k<=·)).length=left.length:=by
   have hd:=vJ (k:=k) lf.up;have:=congrArg List.length hd;rw[EW] at this;have:=DT (fun x=>decide (x<k)) left;omega
  exact⟨⟨⟨lf,GM hw⟩,p1,q1⟩,by rw[hc];show _+_+_=_+(N.getD (aZ (left.filter (· < k))) 0+(N.getD (aZ (left.filter (k<=·))) 0+0));rw[<- p2,<- q2,add_zero,Int.add_assoc];rfl,by show pI (T.getD (aZ (left.filter (· < k))) .tab)+pI (T.getD (aZ (left.filter (k<=·))) .tab)+1+1<=_;omega⟩
theorem PlT.snoc {f:List Nat->Pl->Int}{ss:Sts}{n m:Nat}{N:List Int}{T:List Pl}{c:Int}{p:Pl}(hN:N.length=m)(h:PlT f ss n m N T)(hp:PlV ss p (bH n m)/\Et ss f p (bH n m)=c/\pI p+1<=2*(bH n m).length):PlT f ss n (m+1) (N++[c]) (T++[p]):=by
 refine⟨by rw[AI,h.len];rfl,fun x hx hlt=>?_⟩;by_cases e:x=m
 ·subst e;rw[AO,Cs (by rw[h.len];exact A9 _),h.len,IH,AO,Cs (by rw[hN];exact A9 _),hN,IH];exact hp
 rw[AO,D5 (by rw[h.len];omega),AO,D5 (by rw[hN];omega),<- AO,<- AO];exact h.ok x hx ω
theorem PlT.start (f:List Nat->Pl->Int)(ss:Sts)(n:Nat)(N:List Int):PlT f ss n 1 N [.tab]:=⟨rfl,fun x h1 h2=>ω⟩
theorem Gk {ss:Sts}{left:List Nat}{L:List Int}(hL:qX ss left L)(lf:Lf ss left):L.length=1 ↔ ∃l,∀k∈left,lbl ss k=l:=by
 constructor
 ·intro h;obtain⟨l,rfl⟩:=Ee.mp h;exact⟨l,fun k hk=>AJ.mp ((hL.2 _).mpr ⟨k,hk,rfl⟩)⟩
 rintro⟨l,h⟩;have all:∀x∈L,x=l:=fun x hx=>by
  obtain⟨k,hk,e⟩:=(hL.2 x).mp hx;rw[<- e,h k hk]
 match L,hL,all with
 | [],hL,_=>
  obtain⟨k,hk⟩:=List.exists_mem_of_ne_nil _ lf.ne;have:=(hL.2 _).mpr ⟨k,hk,rfl⟩;cases this
 | [a],_,_=>rfl
 | a::b::L,hL,all=>
  have h1:=(HU.mp hL.1).1;rw[all a (by simp),all b (by simp)] at h1;exact absurd A6 h1
theorem Og {ss:Sts}{left:List Nat}{L:List Int}(hL:qX ss left L)(lf:Lf ss left):0<L.length:=by
 obtain⟨k,hk⟩:=List.exists_mem_of_ne_nil _ lf.ne;exact List.length_pos_of_mem ((hL.2 _).mpr ⟨k,hk,rfl⟩)
theorem VB {ss:Sts}{left:List Nat}{L:List Int}(hL:qX ss left L)(lf:Lf ss left)(h:1<L.length)(l:Int):∃k∈left,lbl ss k≠l:=by
 refine Classical.byContradiction fun no=>?_;have:=(Gk hL lf).mpr ⟨l,fun k hk=>Classical.byContradiction fun z=>no ⟨k,hk,z⟩⟩;omega
theorem Zc {ss:Sts}{left:List Nat}{L:List Int}(hL:qX ss left L)(lf:Lf ss left)(w:Wy):w∈wyP L ↔ ∃l,w=.pick l/\pR ss left (.pick l):=by
 unfold wyP;constructor
 ·intro h;split at h
  ·rename_i c;obtain⟨a,rfl⟩:=Ee.mp c;exact⟨a,AJ.mp h,fun k hk=>AJ.mp ((hL.2 _).mpr ⟨k,hk,rfl⟩)⟩
  cases h
 rintro⟨l,rfl,h⟩;have c:=(Gk hL lf).mpr ⟨l,h⟩;rw[if_pos c];obtain⟨a,rfl⟩:=Ee.mp c;obtain⟨k,hk,e⟩:=(hL.2 a).mp A6;rw[h k hk] at e;rw[e];exact A6
theorem Zd {ss:Sts}{left:List Nat}{L:List Int}(hL:qX ss left L)(lf:Lf ss left)(w:Wy):w∈wyM ss left L ↔ ∃l,w=.msk l/\pR ss left (.msk l):=by
 unfold wyM;constructor
 ·intro h;split at h
  ·rename_i c;obtain⟨l,hl,rfl⟩:=D9.mp h;exact⟨l,rfl,c.1,(hL.2 l).mp hl,VB hL lf c.2 l⟩
  cases h
 rintro⟨l,rfl,h1,h2,k,hk,hne⟩;have hl:=(hL.2 l).mpr h2;have c:1<L.length:=by
  have:=Og hL lf;rcases GB 1 L.length with c|c
  ·exact c
  obtain⟨l',h⟩:=(Gk hL lf).mp ω;obtain⟨j,hj,ej⟩:=h2;rw[h k hk,<- ej,h j hj] at hne;exact absurd rfl hne
 rw[if_pos ⟨h1,c⟩];exact FX hl
theorem Od {ss:Sts}{left:List Nat}(w:Wy):w∈wyT ss left↔w=.tab/\pR ss left .tab:=by
 unfold wyT;constructor
 ·intro h;split at h
  ·rename_i c;exact⟨AJ.mp h,c⟩
  cases h
 rintro⟨rfl,h⟩;rw[if_pos (show dY ss left<=200 from h)];exact A6
theorem Vt {ss:Sts}{left:List Nat}{L:List Int}(hL:qX ss left L)(lf:Lf ss left)(w:Wy):w∈Ph ss left L↔pR ss left w:=by
 unfold Ph J9;rw[BS,BS,BS,Zc hL lf,Od,Zd hL lf];have hS:w∈(if 1<left.length then Pb ss left else []) ↔ ∃k,(w=.one k\/w=.wit k\/w=.low k)/\pR ss left w:=by
  by_cases c:1<left.length
  ·rw[if_pos c];unfold Pb;rw[BS,List.mem_flatMap,D9];constructor
   ·rintro(⟨k,hk,h⟩|⟨k,hk,rfl⟩)
    ·unfold qm at h;split at h
     ·rename_i e;rcases AX.mp h with rfl|h
      ·exact⟨k,.inl rfl,⟨hk,c⟩,e⟩
      rw[AJ.mp h];exact⟨k,.inr (.inl rfl),hk,c⟩
     rw[AJ.mp h];exact⟨k,.inr (.inl rfl),hk,c⟩
    exact⟨k,.inr (.inr rfl),hk⟩
   rintro⟨k,rfl|rfl|rfl,h⟩
   ·exact .inl ⟨k,h.1.1,by unfold qm;rw[if_pos h.2];exact A6⟩
   ·exact .inl ⟨k,h.1,by unfold qm;split <;> simp⟩
   exact .inr ⟨k,h,rfl⟩
  rw[if_neg c];constructor
  ·intro h;cases h
  rintro⟨k,rfl|rfl|rfl,h⟩
  ·exact absurd h.1.2 c
  ·exact absurd h.2 c
  have:k∈left.drop 1:=h;rw[List.drop_of_length_le ω] at this;cases this
 rw[hS];constructor
 ·rintro(((⟨l,rfl,h⟩|⟨rfl,h⟩)|⟨l,rfl,h⟩)|⟨k,_,h⟩) <;> exact h
 intro h;cases w with
 | pick l=>exact .inl (.inl (.inl ⟨l,rfl,h⟩))
 | tab=>exact .inl (.inl (.inr ⟨rfl,h⟩))
 | msk l=>exact .inl (.inr ⟨l,rfl,h⟩)
 | one k=>exact .inr ⟨k,.inl rfl,h⟩
 | wit k=>exact .inr ⟨k,.inr (.inl rfl),h⟩
 | low k=>exact .inr ⟨k,.inr (.inr rfl),h⟩
noncomputable def aal (is:List Int)(w:Int)(j:Nat):Prop:=is[j]?=some w/\∀m<j,is[m]?≠some w
noncomputable def SX (K:Au)(to te:TE):TE:=fun σ H Q=>to σ H fun x H1=>∃(p:Addr)(is:List Int),x=.ref p/\SqL K H1 p (is.map V.int)/\te σ H1 fun y H2=>∃w,y=.int w/\SqL K H2 p (is.map V.int)/\w∈is/\∀j,aal is w j->Q (.int (j:Nat)) H2
theorem Wd:∀{is:List Int}{w:Int},w∈is->∃j,aal is w j
 | a::is,w,h=>by
  by_cases c:a=w
  ·subst c;exact⟨0,rfl,fun m hm=>ω⟩
  obtain⟨j,h1,h2⟩:=Wd (is:=is) (w:=w) (by
   rcases AX.mp h with z|z
   ·exact absurd z.symm c
   exact z)
  refine⟨j+1,h1,fun m hm=>?_⟩;cases m with
  | zero=>intro z;exact c (A7 z)
  | succ m=>exact h2 m ω
section
variable {X:Cx}{o e:Expr}{to te:TE}
theorem Yx {apos cpos:Pos}(hu:X.A.in1.units<FI)(ho:PE X o to)(he:PE X e te)
  (hbase:DS o "index" X.env (eval o X.env)=eval o X.env:=by rfl)
  (hfew:((CB cpos (AL [e] X.env)).all (fun x=>!x.1)&&(HG cpos (FB [] X.env)).all (fun x=>x.1.isSome)
   && decide ([e].length+([]:List EV).length+(if ([]:List EV).isEmpty then 0 else 1)<30))=true:=by rfl)
  (hline:(apos.endLine == cpos.line)=true:=by rfl) (hs:AL [e] X.env=(false,eval e X.env)::AL [] X.env:=by rfl) (hplain:(CB cpos (AL [] X.env)).any (·.1)=false:=by rfl) :
  PE X (.Call (.Attribute o "index" apos) [e] [] cpos) (SX X.K to te):=by
 intro pins s σ H Q I h;refine FO hbase hfew hline rfl (thE (ho pins s σ H _ I h) fun v s1 x H1 I1 r1 q=>?_);obtain⟨p,is,rfl,hq,q⟩:=q;obtain⟨h1,h2⟩:=yO (T := "list") I1 r1 (.inl ⟨rfl,_,hq⟩);refine⟨"list","list.index",FC,PySem.F.slot_list_index,PySem.F.type_list_index,h1,h2,?_⟩;rw[hs];refine DI (by show(false||(CB cpos (AL [] X.env)).any (·.1))=false;rw[hplain] <;> rfl) (E3 ?_)
 refine DU (thn (he pins s1 σ H1 _ I1 q) fun u s2 ⟨y,H2,I2,r2,w,ey,hq2,hw,q3⟩=>D4 ?_);subst ey;obtain⟨j,hf⟩:=Wd hw;cases r1;obtain⟨its,rv,pl,hz⟩:=I2.list hq2;have hl:=rv.length;rw[AG] at hl;have hj:j<its.length:=by have:=(AR.mp hf.1).1;omega
 have at':∀m (hm:m<its.length),∃t,its[m]=An.int (is.getD m 0) t:=fun m hm=>jf rv m _ (by simp [AF hm]);have gd:∀m,m<its.length->is[m]?=some (is.getD m 0):=fun m hm=>by
  rw[AO,AF ω];rfl
 obtain⟨tu,rfl⟩:=r2;obtain⟨ob,n,eo,ec,ed,es⟩:=pl;cases ob with
 | mk cls dict data slots=>
  cases ec;cases es;have hj2:((j:Nat):Int)<2^63-1:=by
   have hl:=rv.length;have:=sizeLine_eq;omega
  refine Fm F.slot_list_index ⟨_,eo,rfl⟩ F.entry_list_index (F.args_list_index_2 _ _) (SeqAt.list_indexAt p its.toArray n _ _ (.int w tu) (fun y=>match y with | .int z _=>z == w|_=>false) j (by simpa using hj) hj2 ?_ ?_) ⟨eo,fun y hy=>?_,?_⟩
  ·obtain⟨t,e⟩:=at' j hj;have:its.toArray[j]'(by simpa using hj)=An.int (is.getD j 0) t:=by simpa using e
   rw[this];have:=hf.1;rw[gd j hj] at this;simpa using A7 this
  ·intro m hm hmj;have hm':m<its.length:=by simpa using hm
   obtain⟨t,e⟩:=at' m hm';have:its.toArray[m]=An.int (is.getD m 0) t:=by simpa using e
   rw[this];have:=hf.2 m hmj;rw[gd m hm'] at this;have:is.getD m 0≠w:=fun z=>this (by rw[z]);simpa using this
  ·have hy':y∈its:=by simpa using hy
   obtain⟨m,hm,em⟩:=D1.mp hy';obtain⟨t,e⟩:=at' m hm;rw[em] at e;rw[e];exact B4.int_int _ t w tu
  exact⟨.int (j:Nat),H2,I2.tok _,⟨_,rfl⟩,q3 j hf⟩
theorem Yb {apos cpos:Pos}(hu:X.A.in1.units<FI)(ho:QE X o to)(he:QE X e te)
  (hbase:DS o "index" X.env (eval o X.env)=eval o X.env:=by rfl)
  (hfew:((CB cpos (AL [e] X.env)).all (fun x=>!x.1)&&(HG cpos (FB [] X.env)).all (fun x=>x.1.isSome)
   && decide ([e].length+([]:List EV).length+(if ([]:List EV).isEmpty then 0 else 1)<30))=true:=by rfl)
  (hline:(apos.endLine == cpos.line)=true:=by rfl) (hs:AL [e] X.env=(false,eval e X.env)::AL [] X.env:=by rfl) (hplain:(CB cpos (AL [] X.env)).any (·.1)=false:=by rfl) :
  QE X (.Call (.Attribute o "index" apos) [e] [] cpos) (SX X.K to te):=⟨Yx hu ho.h he.h hbase hfew hline hs hplain⟩
end
noncomputable abbrev nR:=List Nat->Pl->Int
noncomputable def chD (f:nR)(ss:Sts)(left:List Nat)(w:Wy):AD:=.tuple [.int (f left (jP w)),.tuple (hdL w),.list ((gP ss left w).map ptD)]
noncomputable def MJ (f:nR)(n:Nat)(H:Hp)(ca:Addr):Prop:=∃cds:List Addr,H ca=some (.lst (cds.map V.ref))/\cds.length=2^n/\∀x d,0<x->cds[x]?=some d->∃kvs,H d=some (.dK kvs)/\∀p:Pl,j7 kvs (DH (lz p))=some (.int (f (bH n x) p))
theorem MJ.same {f:nR}{n:Nat}{H H':Hp}{ca:Addr}(h:MJ f n H ca)(s:Same H H'):MJ f n H' ca:=by
 obtain⟨cds,e,l,h⟩:=h;exact⟨cds,s _ _ e,l,fun x d h0 hx=>by obtain⟨kvs,ek,hk⟩:=h x d h0 hx;exact⟨kvs,s _ _ ek,hk⟩⟩
noncomputable def rz (n:Nat):Sp:=fun vs H Q _=>∃(s:V)(wa z:Addr)(ok:Addr->Prop)(ss:Sts)(ws zs:List Int),vs=[s,.ref wa,.ref z]/\cJ ok H/\aJ ok H s (.list (ss.map stD))/\ss.length=n/\H wa=some (.lst (ws.map V.int))/\ws.length=n/\H z=some (.tup (zs.map V.int))/\zs.length=5/\Few zs /\
 ∀ca H',Same H H'->H ca=none->MJ (cT ws zs) n H' ca->Q (.ref ca) H'
noncomputable def rA (f:nR)(n:Nat):Sp:=fun vs H Q _=>∃(s:V)(ca:Addr)(x:Nat)(ok:Addr->Prop)(ss:Sts),vs=[s,.ref ca,.int (x:Int)]/\cJ ok H/\aJ ok H s (.list (ss.map stD))/\ss.length=n/\0<x/\x<2^n/\MJ f n H ca /\
 ∀(r:Addr)(xs:List V)(W:List Wy) H',Same H H'->H r=none->H' r=some (.lst xs)->(∀w,w∈W↔pR ss (bH n x) w)->aH ok H' xs (W.map (chD f ss (bH n x)))->xs.length<=1000->Q (.ref r) H'
structure WY (f:nR)(ss:Sts)(left:List Nat)(ok:Addr->Prop)(H:Hp)(r na:Addr)(xs:List V)(W:List Wy)(N:List Int):Prop where
 er:H r=some (.lst xs)
 t:aH ok H xs (W.map (chD f ss left))
 hx:xs.length<=1000
 en:H na=some (.lst (N.map V.int))
 lt:∀w∈W,∀p∈gP ss left w,aZ p<N.length
noncomputable def uJ (f:nR):Sp:=fun vs H Q _=>∃(r na:Addr)(ok:Addr->Prop)(ss:Sts)(left:List Nat)(xs:List V)(W:List Wy)(N:List Int),vs=[.ref r,.ref na]/\WY f ss left ok H r na xs W N /\
 ∀b H',Same H H'->H b=none->H' b=some (.lst ((W.map (jO f N ss left)).map V.int))->Q (.ref b) H'
noncomputable def Sg (ss:Sts)(left:List Nat)(PD:List AD)(w:Wy):AD:=.tuple (hdL w++(gP ss left w).map fun p=>PD.getD (aZ p) .none)
noncomputable def Df (f:nR):Sp:=fun vs H Q _=>∃(r na pa:Addr)(ok:Addr->Prop)(ss:Sts)(left:List Nat)(xs:List V)(W:List Wy)(N:List Int)(ps:List V)(PD:List AD),vs=[.ref r,.ref na,.ref pa]/\WY f ss left ok H r na xs W N/\cJ ok H/\H pa=some (.lst ps)/\aH ok H ps PD/\PD.length=N.length/\W≠[] /\
 ∀(v:V) w H',Same H H'->w∈W->(∀w'∈W,jO f N ss left w<=jO f N ss left w')->aJ ok H' v (.tuple [.int (jO f N ss left w),Sg ss left PD w])->Q v H'
noncomputable def Il:List Pl->List AD
 | []=>[]
 | _::r=>.none::r.map plD
theorem Ik (T:List Pl):(Il T).length=T.length:=by
 cases T with
 | nil=>rfl
 | cons a r=>show(r.map plD).length+1=_;rw[AG];rfl
theorem Yp {T:List Pl}{x:Nat}(h0:0<x)(h:x<T.length):(Il T).getD x .none=plD (T.getD x .tab):=by
 match T,x,h0,h with
 | a::r,x+1,_,h=>
  show(r.map plD).getD x .none=plD (r.getD x .tab);rw[AO,AO,A5,AF (by simpa using h)];rfl
theorem Qg {T:List Pl}(h:T≠[])(p:Pl):Il (T++[p])=Il T++[plD p]:=by
 match T,h with
 | a::r,_=>
  show AD.none::(r++[p]).map plD=AD.none::r.map plD++[plD p];rw[BC];rfl
theorem Uo (ss:Sts)(left:List Nat)(w:Wy):(gP ss left w).length<=2:=by cases w <;> simp [gP]
theorem Zu (w:Wy):(hdL w).length<=2:=by cases w <;> simp [hdL]
noncomputable def Hw (f:nR)(n:Nat):Sp:=fun vs H Q _=>∃(s:V)(ca:Addr)(ok:Addr->Prop)(ss:Sts),vs=[s,.ref ca]/\cJ ok H/\aJ ok H s (.list (ss.map stD))/\ss.length=n/\MJ f n H ca /\
 ∀(t na pa:Addr)(N:List Int)(T:List Pl)(ps:List V) H',Same H H'->H' t=some (.tup [.ref na,.ref pa])->H' na=some (.lst (N.map V.int))->H' pa=some (.lst ps)->aH ok H' ps (Il T)->Tbl f ss n (2^n) N->PlT f ss n (2^n) N T->Q (.ref t) H'
noncomputable def stW (ss:Sts)(left:List Nat)(w:Wy):AD:=.tuple [.str (lz (jP w)),.list ((gP ss left w).map ptD)]
noncomputable def pJ (ss:Sts)(left:List Nat)(k:Nat):List Wy:=(if 1<left.length then .wit k::(if (iH ss k).1=(iH ss k).2.1 then [.one k] else []) else [])++if left.filter (· < k)=[] then [] else [.low k]
noncomputable def Li (ss:Sts)(left:List Nat)(L:List Int)(mn mx:Int):List Wy:=if dY ss left<=64/\mn<mx then L.map Wy.msk else []
noncomputable def xV (mn mx:Int):List Wy:=if mn=mx then [.pick mn] else []
noncomputable def VF (ss:Sts)(left:List Nat)(L:List Int)(mn mx:Int):List Wy:=xV mn mx++wyT ss left++left.flatMap (pJ ss left)++Li ss left L mn mx
noncomputable def stB (m:Nat):Nat:=if m=1 then 2 else 4*m
structure MinMax (ss:Sts)(left:List Nat)(mn mx:Int):Prop where
 a:mn∈left.map (lbl ss)
 b:∀x∈left.map (lbl ss),mn<=x
 c:mx∈left.map (lbl ss)
 d:∀x∈left.map (lbl ss),x<=mx
theorem JB {left:List Nat}(hu:left.Pairwise (· < ·)){k:Nat}:k∈left.drop 1↔k∈left/\left.filter (· < k)≠[]:=by
 match left,hu with
 | [],_=>simp
 | a::r,hu=>
  have ha:=(ER.mp hu).1;show k∈r↔_;constructor
  ·intro hk;refine⟨BI _ hk,fun z=>?_⟩;have:a∈(a::r).filter (· < k):=Ev.mpr ⟨A6,decide_eq_true (ha k hk)⟩;rw[z] at this;cases this
  rintro⟨hk,hne⟩;rcases AX.mp hk with rfl|hk
  ·refine absurd (Iq.mpr fun j hj=>?_) hne;rcases AX.mp hj with rfl|hj
   ·simp
   have:=ha j hj;simp;omega
  exact hk
theorem Vu {ss:Sts}{left:List Nat}{L:List Int}{mn mx:Int}(hL:qX ss left L)(lf:Lf ss left)(hm:MinMax ss left mn mx)(w:Wy):w∈VF ss left L mn mx↔pR ss left w:=by
 have at':∀{k},k∈left->mn<=lbl ss k/\lbl ss k<=mx:=fun hk=>⟨hm.b _ (FX hk),hm.d _ (FX hk)⟩;obtain⟨kn,hkn,en⟩:=D9.mp hm.a;obtain⟨kx,hkx,ex⟩:=D9.mp hm.c;unfold VF;rw[BS,BS,BS,Od,List.mem_flatMap];constructor
 ·rintro(((h|⟨rfl,h⟩)|⟨k,hk,h⟩)|h)
  ·unfold xV at h;split at h
   ·rename_i c;rw[AJ.mp h];intro k hk;have:=at' hk;omega
   cases h
  ·exact h
  ·unfold pJ at h;rcases BS.mp h with h|h
   ·split at h
    ·rename_i c;rcases AX.mp h with rfl|h
     ·exact⟨hk,c⟩
     split at h
     ·rename_i e;rw[AJ.mp h];exact⟨⟨hk,c⟩,e⟩
     cases h
    cases h
   split at h
   ·cases h
   rename_i c;rw[AJ.mp h];exact(JB lf.up).mpr ⟨hk,c⟩
  unfold Li at h;split at h
  ·rename_i c;obtain⟨l,hl,rfl⟩:=D9.mp h;refine⟨c.1,(hL.2 l).mp hl,?_⟩;by_cases e:mn=l
   ·exact⟨kx,hkx,ω⟩
   exact⟨kn,hkn,ω⟩
  cases h
 intro h;cases w with
 | pick l=>
  have h1:lbl ss kn=l:=h kn hkn;have h2:lbl ss kx=l:=h kx hkx;refine .inl (.inl (.inl ?_));unfold xV;rw[if_pos ω,show mn=l by omega];exact A6
 | tab=>exact .inl (.inl (.inr ⟨rfl,h⟩))
 | msk l=>
  obtain⟨h1,h2,k,hk,hne⟩:=h;refine .inr ?_;unfold Li;obtain⟨j,hj,ej⟩:=h2;have:=at' hk;have:=at' hj;rw[if_pos ⟨h1,ω⟩];exact FX ((hL.2 l).mpr ⟨j,hj,ej⟩)
 | one k=>exact .inl (.inr ⟨k,h.1.1,BS.mpr (.inl (by rw[if_pos h.1.2,if_pos h.2];simp))⟩)
 | wit k=>exact .inl (.inr ⟨k,h.1,BS.mpr (.inl (by rw[if_pos h.2];simp))⟩)
 | low k=>
  obtain⟨h1,h2⟩:=(JB lf.up).mp (show k∈left.drop 1 from h);exact .inl (.inr ⟨k,h1,BS.mpr (.inr (by rw[if_neg h2];simp))⟩)
theorem Jf (ss:Sts)(left:List Nat)(k:Nat):(pJ ss left k).length<=3:=by
 unfold pJ;rw[AI];have h1:(if 1<left.length then Wy.wit k::(if (iH ss k).1=(iH ss k).2.1 then [Wy.one k] else []) else []).length<=2:=by
  split
  ·split <;> simp
  simp
 have h2:(if left.filter (· < k)=[] then [] else [Wy.low k]).length<=1:=by split <;> simp
 omega
theorem rN (ss:Sts)(left:List Nat):∀l:List Nat,(l.flatMap (pJ ss left)).length<=3*l.length
 | []=>ET _
 | k::l=>by
  have:=rN ss left l;rw[GS,AI,BN];have:=Jf ss left k;omega
theorem VD {ss:Sts}{left:List Nat}{L:List Int}{mn mx:Int}(hL:0<L.length)(hl:L.length<=left.length)(lf:Lf ss left):(VF ss left L mn mx).length<=stB left.length:=by
 have h1:(xV mn mx).length+(Li ss left L mn mx).length<=left.length:=by
  unfold xV Li;by_cases c:mn=mx
  ·rw[if_pos c,if_neg ω];show 1+0<=_;omega
  rw[if_neg c];show 0+_<=_;split
  ·rw[AG];omega
  exact ET _
 have h2:(wyT ss left).length<=1:=by unfold wyT;split <;> simp
 unfold VF;rw[AI,AI,AI]
 match left,lf,h1,hl with
 | [],lf,_,_=>exact absurd rfl lf.ne
 | [a],lf,h1,_=>
  have e:pJ ss [a] a=[]:=by
   unfold pJ;rw[if_neg (show ¬1<[a].length from C6 1),if_pos (by simp)];rfl
  rw[GS,e];show _+_+0+_<=2;have:[a].length=1:=rfl;omega
 | a::b::r,lf,h1,_=>
  have hf:(a::b::r).filter (· < a)=[]:=by
   refine Iq.mpr fun j hj=>?_;rcases AX.mp hj with rfl|hj
   ·simp
   have:=(ER.mp lf.up).1 j hj;simp;omega
  have e:(pJ ss (a::b::r) a).length<=2:=by
   unfold pJ;rw[if_pos hf,Cf];split
   ·split <;> simp
   simp
  have h3:=rN ss (a::b::r) (b::r);rw[GS,AI];unfold stB;have h4:(a::b::r).length=(b::r).length+1:=rfl;have h5:0<(b::r).length:=succ_pos _;rw[if_neg ω];omega
noncomputable def Hy:Sp:=fun vs H Q _=>∃(s:V)(la:Addr)(ok:Addr->Prop)(ss:Sts)(left:List Nat),vs=[s,.ref la]/\cJ ok H/\aJ ok H s (.list (ss.map stD))/\H la=some (.lst (nv left))/\Lf ss left/\ss.length<=60/\left.length<=60 /\
 ∀(r:Addr)(xs:List V)(W:List Wy) H',Same H H'->H r=none->H' r=some (.lst xs)->(∀w,w∈W↔pR ss left w)->aH ok H' xs (W.map (stW ss left))->xs.length<=stB left.length->Q (.ref r) H'
noncomputable abbrev ScP:=nR->Sts->Hp->Addr->Prop
noncomputable def W4 (Sc:ScP):Prop:=∀f ss H H' sc,Sc f ss H sc->Same H H'->Sc f ss H' sc
noncomputable def qR:ScP:=fun f ss H sc=>∃(wa z:Addr)(ws zs:List Int),f=cT ws zs/\H sc=some (.tup [.str "cost",.ref wa,.ref z])/\H wa=some (.lst (ws.map V.int))/\ws.length=ss.length/\H z=some (.tup (zs.map V.int))/\zs.length=5/\Few zs
theorem HJ:W4 qR:=fun f ss H H' sc ⟨wa,z,ws,zs,e,h1,h2,h3,h4,h5⟩ s=>⟨wa,z,ws,zs,e,s _ _ h1,s _ _ h2,h3,s _ _ h4,h5⟩
noncomputable def Tf (Sc:ScP):Sp:=fun vs H Q _=>∃(s:V)(sc la:Addr)(ok:Addr->Prop)(f:nR)(ss:Sts)(left:List Nat)(w:Wy),vs=[s,.ref sc,.ref la,.str (lz (jP w))]/\aJ ok H s (.list (ss.map stD))/\Sc f ss H sc/\H la=some (.lst (nv left))/\Lf ss left/\ss.length<=60/\left.length<=60 /\
 ∀H',Same H H'->Q (.int (f left (jP w))) H'
noncomputable def Eu (n:Nat):Sp:=fun vs H Q _=>∃(s:V)(wa z:Addr)(ok:Addr->Prop)(ss:Sts)(ws zs:List Int),vs=[s,.ref wa,.ref z]/\cJ ok H/\aJ ok H s (.list (ss.map stD))/\ss.length=n/\H wa=some (.lst (ws.map V.int))/\ws.length=n/\H z=some (.tup (zs.map V.int))/\zs.length=5/\Few zs /\
 ∀(na:Addr)(N:List Int) H',Same H H'->H' na=some (.lst (N.map V.int))->Tbl (cT ws zs) ss n (2^n) N->Q (.ref na) H'
noncomputable def O9 (m:Nat)(d:AD)(N:List Int):Prop:=d=.list (N.map AD.int)/\N.length=m
noncomputable def Below (f:nR)(ss:Sts)(n:Nat)(N:List Int)(m:Nat):Prop:=∀x,0<x->x<m->∀w,pR ss (bH n x) w->N.getD x 0<=jO f N ss (bH n x) w
noncomputable def Mx (f:nR)(ss:Sts)(n:Nat)(d:AD):Prop:=∃N,O9 (2^n) d N/\Below f ss n N (2^n)
noncomputable def blP (p:Prop):V:=.bl (@decide p (FE p))
theorem Ed {p:Prop}(h:p):blP p=.bl true:=congrArg V.bl (@decide_eq_true p (FE p) h)
theorem tG {p:Prop}(h:¬p):blP p=.bl false:=congrArg V.bl (@decide_eq_false p (FE p) h)
noncomputable def spListN:Sp:=fun vs H Q _=>∃(v:V)(m:Nat)(ok:Addr->Prop)(d:AD),vs=[v,.int (m:Int)]/\cJ ok H/\aJ ok H v d/\(∀H',Same H H'->Q (blP (∃N,O9 m d N)) H')
noncomputable def spShowsL (f:nR)(n:Nat):Sp:=fun vs H Q _=>∃(s:V)(ca na:Addr)(ok:Addr->Prop)(ss:Sts)(N:List Int),vs=[s,.ref ca,.ref na]/\cJ ok H/\aJ ok H s (.list (ss.map stD))/\ss.length=n/\MJ f n H ca/\H na=some (.lst (N.map V.int))/\N.length=2^n /\
 ∀H',Same H H'->Q (blP (Below f ss n N (2^n))) H'
noncomputable def spShowsC (n:Nat):Sp:=fun vs H Q _=>∃(s v:V)(wa z:Addr)(ok:Addr->Prop)(ss:Sts)(ws zs:List Int)(d:AD),vs=[s,.ref wa,.ref z,v]/\cJ ok H/\aJ ok H s (.list (ss.map stD))/\ss.length=n/\H wa=some (.lst (ws.map V.int))/\ws.length=n/\H z=some (.tup (zs.map V.int))/\zs.length=5/\Few zs/\aJ ok H v d /\
 ∀H',Same H H'->Q (blP (Mx (cT ws zs) ss n d)) H'
noncomputable def spLShows (Sc:ScP)(n:Nat):Sp:=fun vs H Q _=>∃(s v:V)(sc:Addr)(ok:Addr->Prop)(f:nR)(ss:Sts)(d:AD),vs=[s,.ref sc,v]/\cJ ok H/\aJ ok H s (.list (ss.map stD))/\ss.length=n/\Sc f ss H sc/\aJ ok H v d /\
 ∀H',Same H H'->Q (blP (Mx f ss n d)) H'
end L2
set_option maxHeartbeats 8000000
namespace L2
open PySem PySem.Spec PyProof.Rows
end L2
set_option maxHeartbeats 4000000
namespace L2
open PySem PySem.Spec PyProof.Rows
end L2
namespace SRT
open PySem PySem.Builtin PySem.Builtin.List PyProof.Rows
noncomputable def Xa:SortKind:=(sortPriv% PySem.Builtin.KeyKind.tuples) true
end SRT
namespace SRT
open PySem PyProof.Rows
structure RB (a₀:Array EC)(st:F3):Prop where
 kind:kindOf st=Xa
 perm:(arrOf st).toList.Perm a₀.toList
 fail:failedOf st=none
 pend:D2 st=#[]
end SRT
namespace SRT
open PySem PyProof.Rows
end SRT
namespace SRT
open PySem PyProof.Rows
end SRT
namespace SRT
open PySem PyProof.Rows
end SRT
namespace L2
open PySem PySem.Spec PyProof.Rows
end L2
namespace SRT
open PySem PyProof.Rows
end SRT
namespace SRT
open PySem PyProof.Rows
end SRT
namespace L2
open PySem PySem.Spec PyProof.Rows
open PySem PySem.Spec PyProof.Rows Builtin Builtin.Str
open PySem PySem.Spec PyProof.Rows PySem.NumText
noncomputable def aci:V->Option Int->Option Int->Hp->VK->Prop:=fun x lo hi H Q=>match x with
 | .str z=>z.length<=AK/\Q (.str (AW z lo hi)) H
 | _=>False
theorem aaG {X:Cx}:SlR X aci:=by
 intro pins s σ H x v vl vu lo hi sl Q I rx hs pl pu h;unfold aci at h;split at h
 ·rename_i z;obtain⟨hz,q⟩:=h;obtain⟨t,rfl⟩:=rx;refine⟨"str",_,F.slot_str_getitem.lookup,typeIs_str _ _ _,?_⟩;have fin:∀t' k,EP X pins σ Q (.str (AW z lo hi) t') { s with toks:=k }:=fun t' k=>⟨.str _,H,I.tok _,⟨_,rfl⟩,q⟩;cases pl with
  | none=>
   cases pu with
   | none=>exact FF (l:=none) (u:=none) (st:=none) hs rfl (IC ⟨BB (E9 z _ _) hz,fin⟩)
   | int j uj=>exact FF (l:=none) (u:=some (j,uj)) (st:=none) hs rfl (IC ⟨BB (E9 z _ _) hz,fin⟩)
  | int i ui=>
   cases pu with
   | none=>exact FF (l:=some (i,ui)) (u:=none) (st:=none) hs rfl (IC ⟨BB (E9 z _ _) hz,fin⟩)
   | int j uj=>exact FF (l:=some (i,ui)) (u:=some (j,uj)) (st:=none) hs rfl (IC ⟨BB (E9 z _ _) hz,fin⟩)
 exact h.elim
noncomputable def ack:R2:=fun x y H Q=>match x,y with
 | .str z,.int i=>z.length<=AK/\∃c,atI z.cps.toList i=some c/\Q (.str ⟨#[c]⟩) H
 | _,_=>False
theorem Zk {X:Cx}:IxR X ack:=by
 intro value slice pins s σ H x y v u Q I rx ry q hs;unfold ack at q;split at q
 ·obtain⟨h1,c,h2,h3⟩:=q;exact abN value slice pins s σ H _ _ v u Q I rx ry ⟨_,_,c,rfl,rfl,h1,h2,h3⟩ hs
 exact q.elim
noncomputable def aah:List V->Hp->VK->Prop:=fun vs H Q=>match vs with
 | [.str z]=>z.length<=AK/\Q (.int z.length) H
 | _=>False
theorem RK {X:Cx}:dN X (.builtin "len") aah:=by
 intro pins s σ H xs us Q I r h;unfold aah at h;split at h
 ·exact G5 pins s σ H _ us Q I r ⟨_,rfl,h.1,h.2⟩
 exact h.elim
noncomputable def qi:R2:=fun x y H Q=>match x,y with
 | .str a,.str b=>a.length+b.length<=AK/\Q (.str (a++b)) H
 | x,y=>zm x y H Q
theorem XR (a b:Int)(H:Hp)(Q:VK):qi (.int a) (.int b) H Q=Q (.int (a+b)) H:=rfl
theorem XQ (p q:Addr)(H:Hp)(Q:VK):qi (.ref p) (.ref q) H Q=adq (H p) (H q) H Q:=rfl
theorem fL {X:Cx}:OpR X (Da .Add) qi:=by
 intro pins s σ H x y v u Q I rx ry h;unfold qi at h;split at h
 ·exact KR pins s σ H _ _ v u Q I rx ry ⟨_,_,rfl,rfl,h.1,h.2⟩
 exact bx pins s σ H _ _ v u Q I rx ry h
noncomputable def T3:V->Option Int->Option Int->Hp->VK->Prop:=fun x lo hi H Q=>match x with
 | .str z=>z.length<=AK/\Q (.str (AW z lo hi)) H
 | x=>T4 x lo hi H Q
theorem Bw {X:Cx}:SlR X T3:=by
 intro pins s σ H x v vl vu lo hi sl Q I rx hs pl pu h;cases x with
 | str z=>exact aaG pins s σ H _ v vl vu lo hi sl Q I rx hs pl pu h
 | _=>exact vU pins s σ H _ v vl vu lo hi sl Q I rx hs pl pu h
noncomputable def Ud:R2:=fun x y H Q=>match x,y with
 | .str z,.int i=>z.length<=AK/\∃c,atI z.cps.toList i=some c/\Q (.str ⟨#[c]⟩) H
 | x,y=>vY x y H Q
theorem aaT (p:Addr)(i:Int)(H:Hp)(Q:VK):Ud (.ref p) (.int i) H Q=ixq (H p) i H Q:=rfl
theorem abO {X:Cx}:IxR X Ud:=by
 intro value slice pins s σ H x y v u Q I rx ry q hs;unfold Ud at q;split at q
 ·exact Zk value slice pins s σ H _ _ v u Q I rx ry q hs
 exact bT value slice pins s σ H _ _ v u Q I rx ry q hs
noncomputable def Uc:List V->Hp->VK->Prop:=fun vs H Q=>match vs with
 | [.str z]=>z.length<=AK/\Q (.int z.length) H
 | vs=>Np vs H Q
theorem Xz (z:Str)(H:Hp)(Q:VK):Uc [.str z] H Q=(z.length<=AK/\Q (.int z.length) H):=rfl
theorem RL {X:Cx}:dN X (.builtin "len") Uc:=by
 intro pins s σ H xs us Q I r h;unfold Uc at h;split at h
 ·exact RK pins s σ H _ us Q I r h
 exact cO pins s σ H _ us Q I r h
noncomputable def rdX:=AA @XR (AA @aaT @Xz)
theorem Ez {x:Str}{lo hi:Option Int}{c:Nat}(h:c∈(AW x lo hi).cps.toList):c∈x.cps.toList:=by
 unfold AW at h;split at h
 ·exact h
 rw[List.toList_toArray] at h;obtain⟨i,_,e⟩:=mem_filterMap.mp h;exact Array.mem_toList_iff.mpr (Array.mem_of_getElem? e)
theorem Tt (x:Str)(lo hi:Option Int):(AW x lo hi).length<=(AZ.Str.strSliceIndices lo hi 1 x.length).length:=by
 unfold AW;split
 ·rename_i h;rw[C7] at h;have:=eq_of_beq h.2;omega
 show Array.size _<=_;rw[AN];exact List.length_filterMap_le _ _
theorem aaE {x:Str}{a b:Int}(h0:0<=a)(h:a<=b):(AW x none (some a)).length+(AW x (some b) none).length<=x.length:=by
 have h1:=Tt x none (some a);have h2:=Tt x (some b) none;simp only[AZ.Str.strSliceIndices,sliceRange,AG,GO] at h1 h2;simp only[if_pos (show(1:Int)>0 by decide),if_neg (show ¬a<0 by omega),if_neg (show ¬b<0 by omega)] at h1 h2;split at h1 <;> split at h2 <;> omega
theorem zA {n:Nat}{x m:Str}{a b:Int}(h:okS n x)(h0:0<=a)(hab:a<=b)(hm:okS 0 m)(hl:m.length<=1):okS (n+1) (AW x none (some a)++m++AW x (some b) none)/\okS (n+1) (AW x none (some a)++AW x (some b) none):=by
 have ht:=aaE (x:=x) h0 hab;have hx:=h.1;have app:∀(p q:Str),(p++q).cps=p.cps++q.cps:=fun _ _=>rfl;refine⟨⟨by rw[He,He];omega,fun c hc=>?_⟩,⟨by rw[He];omega,fun c hc=>?_⟩⟩
 ·rw[app,app,Fa,Fa] at hc;rcases BS.mp hc with z|z
  ·rcases BS.mp z with z|z
   ·exact h.2 c (Ez z)
   exact hm.2 c z
  exact h.2 c (Ez z)
 rw[app,Fa] at hc;rcases BS.mp hc with z|z
 ·exact h.2 c (Ez z)
 exact h.2 c (Ez z)
section
variable {ok:Addr->Prop}{σ:St}{H0:Hp}{ta tb te:TE}{ds es:List AD}{d:AD}{tl th:TO}{lo hi:Option Int}
theorem xY {i:Nat}{v:V}(h:σ[i]?=some (some v))(t:aJ ok H0 v d):Gv ok (tV i) σ H0 d:=fun H s Q q=>by
 unfold tV;rw[h];exact q _ _ (Same.refl _) (t.same s)
theorem Gn {x y:Str}(h:Gv ok ta σ H0 (.str x))(h2:Gv ok tb σ H0 (.str y))(hl:x.length+y.length<=AK):Gv ok (tOp qi ta tb) σ H0 (.str (x++y)):=fun H s Q q=>
 h H s _ fun v H1 s1 t1=>by
  cases t1;refine h2 H1 (s.trans s1) _ fun w H2 s2 t2=>?_;cases t2;exact⟨hl,q _ _ (s1.trans s2) (.str _)⟩
theorem Lp {x:Str}(h:Gv ok te σ H0 (.str x))(hx:x.length<=AK)(hl:∀(H:Hp)(Q:Option Int->Hp->Prop),Q lo H->tl σ H Q)(hh:∀(H:Hp)(Q:Option Int->Hp->Prop),Q hi H->th σ H Q):Gv ok (tSl T3 te tl th) σ H0 (.str (AW x lo hi)):=fun H s Q q=>
 h H s _ fun v H1 s1 t1=>by
  cases t1;exact hl H1 _ (hh H1 _ ⟨hx,q _ _ s1 (.str _)⟩)
theorem Zw (n:cJ ok H0)(h:Gv ok ta σ H0 (.list ds))(h2:Gv ok tb σ H0 (.list es))(hl:ds.length+es.length<=1000000):Gv ok (tOp qi ta tb) σ H0 (.list (ds++es)):=fun H s Q q=>
 h H s _ fun v H1 s1 t1=>by
  cases t1 with
  | lst o1 e1 z1 t1=>
   refine h2 H1 (s.trans s1) _ fun w H2 s2 t2=>?_;cases t2 with
   | lst o2 e2 z2 t2=>
    have l1:=t1.length;have l2:=t2.length;show qi _ _ _ _;rw[XQ,s2 _ _ e1,e2,Mv];refine⟨aX ω,fun p hp=>q _ _ ((s1.trans s2).trans (aA hp)) (.lst (n H2 p ((s.trans s1).trans s2) hp) aB (by rw[AI];omega) (((t1.same s2).append t2).same (aA hp)))⟩
theorem Gm {H:Hp}{Q:VK}(d:AD)(he:d=.list ds)(h:Gv ok te σ H d)(q:∀p xs H',Same H H'->H' p=some (.lst xs)->ok p->aH ok H' xs ds->tb σ H' fun y H2=>Ud (.ref p) y H2 Q):tOp Ud te tb σ H Q:=by
 subst he;refine h H (Same.refl _) _ fun v H' s t=>?_;cases t with
 | lst o e z ts=>exact q _ _ _ s e o ts
theorem abS (n:cJ ok H0)(h:Gv ok te σ H0 (.list ds)):Gv ok (aay te) σ H0 (.list ds.reverse):=fun H s Q q=>h H s _ fun v H1 s1 t1=>by
 cases t1 with
 | lst o e z ts=>
  show rvK _ _ _;rw[Xv,e,Xu];intro p hp;exact q _ _ (s1.trans (aA hp)) (.lst (n H1 p (s.trans s1) hp) aB (by rw[II];exact z) (ts.reverse.same (aA hp)))
theorem Rf {k:Int}(h:Gv ok te σ H0 (.int k))(hl:k.natAbs.log2<1920):Gv ok (tCB (fun xs H Q=>∃i,xs=[.int i]/\i.natAbs.log2<1920/\Q (.str (toString i)) H) (gU te rZ)) σ H0 (.str (toString k)):=
 fun H s Q q=>h H s _ fun v H1 s1 t1=>by
  cases t1;exact⟨k,rfl,hl,q _ _ s1 (.str _)⟩
theorem Sv {i:Nat}{v:V}{H:Hp}{Q:VK}(h:σ[i]?=some (some v))(q:Q v H):tV i σ H Q:=by
 unfold tV;rw[h];exact q
theorem vo {i j:Nat}{x:Str}{at0:Int}(hi:σ[i]?=some (some (.str x)))(hj:σ[j]?=some (some (.int at0)))(hx:x.length<=1000):Gv ok (tSl T3 (tV i) rm (yP (tV j))) σ H0 (.str (AW x none (some at0))):=
 Lp (xY hi (.str x)) (aX ω) (fun H Q q=>q) fun H Q q=>Sv hj ⟨at0,rfl,q⟩
theorem vm {i j:Nat}{x:Str}{at0:Int}(hi:σ[i]?=some (some (.str x)))(hj:σ[j]?=some (some (.int at0)))(hx:x.length<=1000):Gv ok (tSl T3 (tV i) (yP (tOp qi (tV j) (tC (.int 1)))) rm) σ H0 (.str (AW x (some (at0+1)) none)):=
 Lp (xY hi (.str x)) (aX ω) (fun H Q q=>by unfold yP tOp;exact Sv hj ⟨at0+1,rfl,q⟩) fun H Q q=>q
theorem V6 {i j:Nat}{x:Str}{at0:Int}(hi:σ[i]?=some (some (.str x)))(hj:σ[j]?=some (some (.int at0)))(hx:x.length<=1000):Gv ok (tSl T3 (tV i) (yP (tV j)) rm) σ H0 (.str (AW x (some at0) none)):=
 Lp (xY hi (.str x)) (aX ω) (fun H Q q=>Sv hj ⟨at0,rfl,q⟩) fun H Q q=>q
theorem yI {x m:Str}{b at0:Int}(h:Gv ok ta σ H0 (.str (AW x none (some at0))))(h2:Gv ok tb σ H0 (.str (AW x (some b) none)))(hx:x.length<=1000)(hm:m.length<=1):Gv ok (tOp qi (tOp qi ta (tC (.str m))) tb) σ H0 (.str (AW x none (some at0)++m++AW x (some b) none)):=by
 have l1:=E9 x none (some at0);have l2:=E9 x (some b) none;exact Gn (Gn h ji (aX ω)) h2 (aX (by rw[He];omega))
theorem V7 {x:Str}{b at0:Int}(h:Gv ok ta σ H0 (.str (AW x none (some at0))))(h2:Gv ok tb σ H0 (.str (AW x (some b) none)))(hx:x.length<=1000):Gv ok (tOp qi ta tb) σ H0 (.str (AW x none (some at0)++AW x (some b) none)):=by
 have l1:=E9 x none (some at0);have l2:=E9 x (some b) none;exact Gn h h2 (aX ω)
theorem Rg {i:Nat}{v:V}(n:cJ ok H0)(h:σ[i]?=some (some v))(t:aJ ok H0 v (.list ds)):∃d,(d=.int (-(1))\/d∈ds)/\Gv ok (tIf (wW (tOp aaP (tV i) (Eo rZ))) (tOp vY (tV i) (tUn (rU fun i=>V.int (-i)) (tC (V.int 1)))) (tUn (rU fun i=>V.int (-i)) (tC (V.int 1)))) σ H0 d:=by
 have test:∀{H:Hp}{Q:Bool->Hp->Prop},Same H0 H->(∀H',Same H H'->Q (!ds.isEmpty) H')->wW (tOp aaP (tV i) (Eo rZ)) σ H Q:=fun {H Q} s q=>by
  unfold wW tOp;refine Sv h ?_;cases t with
  | lst o e z ts=>
   rename_i l xs;refine⟨aX δ,fun p hp=>?_⟩;have s1:=aA (o:=HO.lst []) hp;have hl:=ts.length;have:xs.isEmpty=ds.isEmpty:=by cases xs <;> cases ds <;> first|rfl|(cases hl)
   exact⟨l,p,xs,rfl,rfl,s1 _ _ (s _ _ e),aB,_,rfl,by rw[this];exact q _ s1⟩
 by_cases hd:ds=[]
 ·refine⟨.int (-(1)),.inl rfl,fun H s Q q=>?_⟩;subst hd;refine test s fun H' s'=>?_;exact⟨1,rfl,q _ _ s' (.int _)⟩
 obtain⟨a,b,e⟩:=wB ds (by cases ds with|nil=>exact absurd rfl hd|cons _ _=>exact succ_pos _);subst e;refine⟨b,.inr (BS.mpr (.inr A6)),fun H s Q q=>?_⟩;refine test s fun H' s'=>?_;have:(!(a++[b]).isEmpty)=true:=by cases a <;> rfl
 rw[this,if_pos rfl];exact Zv (xY h t) H' (s.trans s') _ fun v H2 s2 t2=>q v H2 (s'.trans s2) t2
end
noncomputable def qP (c:Addr)(q:Str):HO:=.ext fun h=>h.CodeRec (.ref c) q
theorem Wu {P:AU}{w:Be}{H:Hp}{h:Heap}{c:Addr}{q:Str}(e:h.CodeRec (.ref c) q):cI P w H h c (qP c q):=by
 refine⟨e,?_,fun h1 h2 e1 k=>?_⟩
 ·obtain⟨c',o,vs,t,ec,ho,_⟩:=e;cases ec;exact⟨o,ho⟩
 obtain⟨c',o,vs,t,ec,ho,r⟩:=e1;cases ec;exact⟨c,o,vs,t,rfl,k o ho,r⟩
noncomputable def jA (H:Hp)(P:Addr)(pos:Pos)(q:Str):Prop:=∃ps,H P=some (.tbl ps)/\TriplesOk ps.toList/\(GV pos ps.toList=none\/∃c',GV pos ps.toList=some (.ref c')/\H c'=some (qP c' q))
theorem jA.same {H H':Hp}{P:Addr}{pos:Pos}{q:Str}(h:jA H P pos q)(s:Same H H'):jA H' P pos q:=by
 obtain⟨ps,e,t,k⟩:=h;exact⟨ps,s _ _ e,t,k.imp id fun⟨c',a,b⟩=>⟨c',a,s _ _ b⟩⟩
theorem jA.gW {H H':Hp}{P p:Addr}{pos:Pos}{q:Str}(h:jA H P pos q)(s:aW p H H')(hp:∀ps,H p≠some (.tbl ps))(hq:∀c,H p≠some (qP c q)):jA H' P pos q:=by
 obtain⟨ps,e,t,k⟩:=h;refine⟨ps,s _ _ (fun z=>hp ps (by rw[<- z];exact e)) e,t,k.imp id fun⟨c',a,b⟩=>⟨c',a,s _ _ (fun z=>hq c' (by rw[<- z];exact b)) b⟩⟩
noncomputable def Jx (qual:Str) (scope:D3) (L:Addr) (cl:List (Str×Addr)) (f:Addr) (cd:An):Env:=newEnv scope L AH cl (qual ++ ".<locals>.") (some f) cd none builtinsNs
noncomputable def Rw (P:AU)(w:Be)(K:Au)(mg:Str->Option An)(base:Heap)(N:List Str)(qual:Str)(scope:D3)(cl:List (Str×Addr))(f:Addr)(cd:An)(A:BA)(outer:List Env)(s:AC)(H:Hp)(E:XK):Cx where
 prog:=P
 w:=w
 K:=K
 mg:=mg
 base:=base
 A:=A.deeper (Jx qual scope s.heap.objs.size cl f cd)
 N:=N
 s₀:=s
 H₀:=H
 env:=Jx qual scope s.heap.objs.size cl f cd
 outer:=outer
 stack:=Jx qual scope s.heap.objs.size cl f cd::outer
 ex:=[]
 calm:=true
 fn:=fun _=>false
 pn:=[]
 xe:=fun e s'=>AM (A0 P w) (A.deeper (Jx qual scope s.heap.objs.size cl f cd)) (leaving (Jx qual scope s.heap.objs.size cl f cd) e) (fun _ s''=>CX0 outer H s E e s'') (fun e' s''=>CX0 outer H s E e' s'') s'
structure yK (x:Str)(N:List Str)(cl:List (Str×Addr))(sc:D3):Prop where
 kind:sc.kind=.function
 co:sc.isCoroutine=false
 gen:sc.isGenerator=false
 par:sc.names.lookup x=some .local
 nocell:∀y∈sc.names,y.2≠.cell
 free:∀y∈N,sc.names.lookup y=some .free
 has:∀y,sc.names.lookup y=some .free->∃c,cl.lookup y=some c
 inj:∀y z c,cl.lookup y=some c->cl.lookup z=some c->y=z
theorem VG {P:AU}{w:Be}{K:Au}{mg:Str->Option An}{base:Heap}{A:BA}{outer:List Env}{s:AC}{H:Hp}{f c':Addr}{name qual:Str}{params:Fs}{body:Expr}{scope:D3}{cl:List (Str×Addr)}{pm ctv:An}{x:Str}{N:List Str}{k:Nat}{u:An}{v:V}{vs:List V}{Q:VK}{E:XK}{t:TE}
  (ho:s.heap.get? f=some (Cn name qual params body scope cl pm c' ctv)) (hcd:s.heap.CodeRec (.ref c') qual) (S:yK x N cl scope) (hr:gH (k+1) A) (e0:J8 P w K mg base A outer s H)
  (hb:bindArgs (PySem.W.kla_fn name qual params body scope cl pm (.ref c') ctv) ⟨[u],[]⟩=pure [(x,u)]) (rv:RelV v u) (hl:vs.length=N.length)
  (hcl:∀y c,cl.lookup y=some c->∃z,s.heap.IsCell c z) (hfr:∀y c,cl.lookup y=some c->H c=none)
  (hcap:∀(i:Nat) y z,N[i]?=some y->vs[i]?=some z->∃uz c,RelV z uz/\cl.lookup y=some c/\s.heap.IsCell c (some uz))
  (hp:PE (Rw P w K mg base (x::N) qual scope cl f (.ref c') A outer s H E) body t) (hq:t (some v::vs.map some) H Q) :
  FK (A0 P w) A (.call (.ref f) ⟨[u],[]⟩) (CR CX0 outer P w H s Q E) s:=by
 have lim:s.heap.NoLimit:=e0.mod.nolimit.keeps fun b o e=>(e0.bs b o e).1;refine PySem.W.kla_callFunE hr.depth ho rfl S.co S.gen rfl hcd ?_;rw[hb];refine AE (Go S.nocell (fun y hy=>by rw[AJ.mp hy];exact S.par) (fun h' hns hsb=>?_) S.kind);have keep:∀b o,s.heap.get? b=some o->h'.get? b=some o:=fun b o e=>(hsb.2 b (BG (A3 e))).trans (AB _ e);refine⟨lim.keeps keep,PySem.W.kla_codeExpr ?_⟩;have noA:∀b:Addr,b∉(Rw P w K mg base (x::N) qual scope cl f (.ref c') A outer s H E).ex:=fun b z=>absurd (show b∈([]:List Addr) from z) (by simp);have I:Inv (Rw P w K mg base (x::N) qual scope cl f (.ref c') A outer s H E) [] (some v::vs.map some) H { s with heap:=h',toks:=s.toks+[(x,u)].length }:=by
  refine⟨⟨e0.mod,S.kind,rfl,rfl,A9 _,fun y z c h1 h2=>S.inj y z c h1 h2,fun y hy=>?_,fun y c h _=>absurd (show false=true from h) δ,fun _=>hr.hd,BA.frames_deeper e0.frames,.inr ⟨rfl,rfl⟩,fun b z=>absurd z (noA b),e0.bs,e0.bsz,fun b _ _=>noA b,fun b z=>absurd z (noA b),e0.sJ,e0.frf⟩,
   rfl,e0.bare,Un.kept keep,⟨_,hns,fun i y z h1 h2 h3=>?_⟩,fun y c h=>?_,e0.hok.fresh (A9 _),fun y c h=>hfr y c h,fun p hp=>absurd (show p∈([]:List (Addr×Obj)) from hp) (by simp),e0.hok.kept keep,?_⟩
  ·have hy:scope.names.lookup y=some .cell\/scope.names.lookup y=some .free:=hy;rcases hy with hy|hy
   ·exact absurd rfl (S.nocell _ (BD hy))
   exact S.has y hy
  ·cases i with
   | zero=>
    obtain rfl:x=y:=A7 h1;obtain rfl:v=z:=A7 (A7 h2);exact⟨u,rv,.inl ⟨S.par,by simp⟩⟩
   | succ i=>
    have h1':N[i]?=some y:=h1;have h2':vs[i]?=some z:=by
     have:(vs.map some)[i]?=some (some z):=h2;rw[A5] at this;cases e:vs[i]? with
     | none=>rw[e] at this;cases this
     | some a=>rw[e] at this;cases this;rfl
    obtain⟨uz,c,r1,c1,c2⟩:=hcap i y z h1' h2';exact⟨uz,r1,.inr ⟨.inr (S.free y (AV h1')),c,c1,c2.keeps keep⟩⟩
  ·obtain⟨z,hz⟩:=hcl y c h;exact⟨z,hz.keeps keep⟩
  show(vs.map some).length+1=N.length+1;rw[AG,hl]
 refine B5 (hp [] _ (some v::vs.map some) H _ I hq) (fun u s' hs=>?_) fun e s' hs=>hs;obtain⟨v,H',J,r,q⟩:=hs;exact⟨v,H',J.os,J.bare,J.base,J.hok,r,q⟩
noncomputable def su (f:Addr)(o:Obj):HO:=.ext fun h=>h.get? f=some o
theorem N5 {P:AU}{w:Be}{H:Hp}{h:Heap}{f:Addr}{o:Obj}(e:h.get? f=some o):cI P w H h f (su f o):=
 ⟨e,⟨o,e⟩,fun h1 h2 e1 k=>k o e1⟩
open Classical in
noncomputable def hidC (cs:List Addr)(H:Hp):Hp:=fun b=>if b∈cs then none else H b
noncomputable def backC (cs:List Addr)(H H1:Hp):Hp:=fun b=>if b∈cs then H b else H1 b
theorem rO {cs:List Addr}{H:Hp}{b:Addr}(h:b∈cs):hidC cs H b=none:=if_pos h
theorem fB {cs:List Addr}{H:Hp}{b:Addr}(h:b∉cs):hidC cs H b=H b:=if_neg h
theorem J2 {cs:List Addr}{H H1:Hp}{b:Addr}(h:b∈cs):backC cs H H1 b=H b:=if_pos h
theorem jo {cs:List Addr}{H H1:Hp}{b:Addr}(h:b∉cs):backC cs H H1 b=H1 b:=if_neg h
section
variable {P:AU}{w:Be}{cs:List Addr}{H H1:Hp}{h h':Heap}
theorem Zt (hok:HOk P w H h)(hc:∀c∈cs,∃φ,H c=some (.ext φ)):HOk P w (hidC cs H) h:=fun b u e=>by
 by_cases hb:b∈cs
 ·rw[rO hb] at e;cases e
 rw[fB hb] at e;refine(hok b u e).stay (fun d v _ q=>q) (fun d q=>?_) fun d xs q=>?_
 ·rw[fB fun z=>?_]
  ·exact q
  obtain⟨φ,e2⟩:=hc d z;rw[q] at e2;cases e2
 rw[fB fun z=>?_]
 ·exact q
 obtain⟨φ,e2⟩:=hc d z;rw[q] at e2;cases e2
theorem WQ (hok:HOk P w H1 h')(hc:∀c∈cs,∃φ,H c=some (.ext φ)/\cI P w H h' c (.ext φ))(hn:∀c∈cs,H1 c=none):HOk P w (backC cs H H1) h':=fun b u e=>by
 by_cases hb:b∈cs
 ·rw[J2 hb] at e;obtain⟨φ,e2,k⟩:=hc b hb;rw[e] at e2;cases e2;exact k
 rw[jo hb] at e;refine(hok b u e).stay (fun d v _ q=>q) (fun d q=>?_) fun d xs q=>?_
 ·rw[jo fun z=>?_]
  ·exact q
  rw[hn d z] at q;cases q
 rw[jo fun z=>?_]
 ·exact q
 rw[hn d z] at q;cases q
theorem Z4 {fs:List Addr}(u:Un fs [] (hidC cs H) H1 h h')(hc:∀c∈cs,∃φ,H c=some (.ext φ)):Un fs [] H (backC cs H H1) h h':=by
 have out:∀{b o},H b=some o->(∀φ,o≠.ext φ)->b∉cs:=fun {b o} e n z=>by
  obtain⟨φ,e2⟩:=hc b z;rw[e] at e2;exact n φ (A7 e2)
 have non:∀{b},H b=none->b∉cs:=fun {b} e z=>by
  obtain⟨φ,e2⟩:=hc b z;rw[e] at e2;cases e2
 refine⟨fun b o e n h1 h2=>u.keep b o e ((fB (non n)).trans n) h1 h2,fun b o e n h1 h2=>u.slot b o e ((fB (non n)).trans n) h1 h2,fun b o e n h2=>?_,fun b o e h2=>u.there b o e h2,fun b xs e=>?_,fun b o v e=>?_,fun b ps e=>?_⟩
 ·rw[jo (non n)];exact u.free b o e ((fB (non n)).trans n) h2
 ·have hb:=out e fun φ z=>by cases z
  rw[jo hb];exact u.tups b xs ((fB hb).trans e)
 ·have hb:=out e fun φ z=>by cases z
  rw[jo hb];exact u.frzs b o v ((fB hb).trans e)
 have hb:=out e fun φ z=>by cases z
 rw[jo hb];exact u.tbls b ps ((fB hb).trans e)
end
theorem Dj {cs:List Addr}{H H1:Hp}(s:Same (hidC cs H) H1):Same H (backC cs H H1):=fun b o e=>by
 by_cases hb:b∈cs
 ·rw[J2 hb];exact e
 rw[jo hb];exact s b o ((fB hb).trans e)
theorem ZQ {P:AU}{w:Be}{cs:List Addr}{H:Hp}{outer:List Env}{s s':AC}{Q:VK}{E:XK}{r:Result}(hok:HOk P w H s.heap)(hc:∀c∈cs,∃φ,H c=some (.ext φ))(hf:∀c∈cs,c∉frs outer)
  (h:CR CX0 outer P w (hidC cs H) s (fun v H1=>Q v (backC cs H H1)) E r s'):CR CX0 outer P w H s Q E r s':=by
 match r,h with
 | .ok (.ret u),h=>
  obtain⟨v,H1,os,bare,un,hok',rv,q⟩:=h;have got:∀c∈cs,∃φ o,H c=some (.ext φ)/\cI P w H s.heap c (.ext φ)/\s.heap.get? c=some o:=fun c hm=>by
   obtain⟨φ,e⟩:=hc c hm;have k:=hok c _ e;obtain⟨k1,⟨o,k2⟩,k3⟩:=id k;exact⟨φ,o,e,k,k2⟩
  refine⟨v,backC cs H H1,os,bare,Z4 un hc,WQ hok' (fun c hm=>?_) (fun c hm=>?_),rv,q⟩
  ·obtain⟨φ,o,e,⟨k1,⟨o2,k2⟩,k3⟩,e2⟩:=got c hm;have e3:s'.heap.get? c=some o:=un.keep c o e2 (rO hm) (hf c hm) (by simp);exact⟨φ,e,k3 _ _ k1 (fun o' q'=>by rw[e2] at q';cases q';exact e3),⟨o,e3⟩,k3⟩
  obtain⟨φ,o,e,_,e2⟩:=got c hm;exact un.free c o e2 (rO hm) (by simp)
 | .error e,h=>exact h
 | .ok .next,h=>exact h
 | .ok .brk,h=>exact h
 | .ok .cont,h=>exact h
noncomputable def Ek (P:AU)(w:Be)(K:Au)(mg:Str->Option An)(base:Heap)(k:Nat)(f:Addr)(sp:V->Hp->VK->Prop):Prop:=
 ∀(A:BA)(outer:List Env)(s:AC)(H:Hp)(u:An)(v:V)(Q:VK)(E:XK),gH k A->J8 P w K mg base A outer s H->RelV v u->sp v H Q->FK (A0 P w) A (.call (.ref f) ⟨[u],[]⟩) (CR CX0 outer P w H s Q E) s
noncomputable def El (H:Hp)(f:Addr):Prop:=∃oc od fd sl,H f=some (su f ⟨oc,od,.func fd,sl⟩)
noncomputable def Er (P:AU)(w:Be)(K:Au)(mg:Str->Option An)(base:Heap)(k i:Nat)(ta:TA):TE:=fun σ H Q=>∃f,σ[i]?=some (some (.ref f))/\El H f /\
 ta σ H fun vs H1=>El H1 f/\∃v sp,vs=[v]/\Ek P w K mg base k f sp/\sp v H1 Q
section
variable {X:Cx}{k i:Nat}{x:Str}{p pos:Pos}{e:Expr}{ta:TA}
theorem UG (hr:gH k X.A)(hx:Hq CX0 X E0)(hn:PE X (.Name x p) (PK i))(ha:PA X [e] ta)(he:AL [e] X.env=(false,eval e X.env)::AL [] X.env:=by rfl)(hpl:(CB pos (AL [] X.env)).any (·.1)=false:=by rfl) :
  PE X (.Call (.Name x p) [e] [] pos) (Er X.prog X.w X.K X.mg X.base k i ta):=by
 intro pins s σ H Q I h;obtain⟨f,hf,⟨oc,od,fd,sl,hH⟩,h⟩:=h;refine EH (thn (hn pins s σ H (fun v H'=>v=.ref f/\H'=H) I ⟨_,hf,rfl,rfl⟩) fun fv s0 ⟨v,H0,I0,r0,e1,e2⟩=>?_);subst e1;subst e2;cases r0;have at0:PySem.W.FnAt f s0.heap:=⟨oc,od,fd,sl,(I0.hok f _ hH).1⟩;refine PySem.W.callWith_F at0 (thn (ha pos pins s0 σ H0 _ I0 h) fun us s1 ⟨vs,H1,I1,r,⟨oc1,od1,fd1,sl1,hH1⟩,v,sp,ev,L,q⟩=>⟨⟨oc1,od1,fd1,sl1,(I1.hok f _ hH1).1⟩,?_⟩) he hpl;subst ev;cases r with
 | cons r1 rr=>
  cases rr;refine wpAny_call (E5 (L X.A X.stack s1 H1 _ v Q E0 hr I1.env0 r1 q) fun r s' hq=>?_);cases r with
  | error e=>exact hx pins σ H1 s1 e s' I1 hq
  | ok fl=>
   cases fl with
   | ret u=>exact I1.after hq
   | next=>exact C3 hq
   | brk=>exact C3 hq
   | cont=>exact C3 hq
end
noncomputable def gJ (H:Hp)(c:Addr)(u:An):Prop:=∃o,H c=some (su c o)/\o.data=.cell (some u)
theorem Oh {P:AU}{w:Be}{K:Au}{mg:Str->Option An}{base:Heap}{f c':Addr}{name qual:Str}{params:Fs}{body:Expr}{scope:D3}{cl:List (Str×Addr)}{pm ctv:An}{x:Str}{N:List Str}{k:Nat}{vs:List V}{t:TE}
  (S:yK x N cl scope) (hb:∀u,bindArgs (PySem.W.kla_fn name qual params body scope cl pm (.ref c') ctv) ⟨[u],[]⟩=pure [(x,u)]) (hl:vs.length=N.length)
  (hp:∀(A:BA)(outer:List Env)(s:AC)(H:Hp)(E:XK),gH (k+1) A->PE (Rw P w K mg base (x::N) qual scope cl f (.ref c') A outer s H E) body t) :
  Ek P w K mg base (k+1) f fun v H Q=>H f=some (su f (Cn name qual params body scope cl pm c' ctv))/\H c'=some (qP c' qual)/\(∀y c,cl.lookup y=some c->∃u,gJ H c u) /\
   (∀(i:Nat) y z,N[i]?=some y->vs[i]?=some z->∃uz c,RelV z uz/\cl.lookup y=some c/\gJ H c uz)/\(∀c∈cl.map (·.2),∃u,gJ H c u) /\
   f∉cl.map (·.2)/\c'∉cl.map (·.2)/\t (some v::vs.map some) (hidC (cl.map (·.2)) H) fun v' H1=>Q v' (backC (cl.map (·.2)) H H1):=by
 intro A outer s H u v Q E hr e0 rv ⟨h1,h2,h3,h4,h5,h6,h7,q⟩;have hext:∀c∈cl.map (·.2),∃φ,H c=some (.ext φ):=fun c hc=>by
  obtain⟨u,o,e,_⟩:=h5 c hc;exact⟨_,e⟩
 have mem:∀y c,cl.lookup y=some c->c∈cl.map (·.2):=fun y c e=>D9.mpr ⟨(y,c),BD e,rfl⟩;have e1:J8 P w K mg base A outer s (hidC (cl.map (·.2)) H):=⟨e0.frames,e0.mod,fun b o e=>⟨(e0.bs b o e).1,by
  by_cases hb:b∈cl.map (·.2)
  ·exact rO hb
  ·exact(fB hb).trans (e0.bs b o e).2⟩,e0.bsz,e0.sJ,fun b hb=>by
  by_cases hm:b∈cl.map (·.2)
  ·exact rO hm
  exact(fB hm).trans (e0.frf b hb),Zt e0.hok hext,e0.bare⟩
 have hf:∀c∈cl.map (·.2),c∉frs outer:=fun c hc hm=>by
  obtain⟨u,o,e,_⟩:=h5 c hc;rw[e0.frf c hm] at e;cases e
 have cellAt:∀c u,gJ H c u->s.heap.IsCell c (some u):=fun c u ⟨o,e,d⟩=>⟨o,(e0.hok c _ e).1,d⟩;refine E5 (VG (e0.hok f _ h1).1 (e0.hok c' _ h2).1 S hr e1 (hb u) rv hl (fun y c e=>?_) (fun y c e=>rO (mem y c e)) (fun i y z e2 e3=>?_) (hp A outer s _ E hr) q) fun r s' hq=>ZQ e0.hok hext hf hq
 ·obtain⟨u,e2⟩:=h3 y c e;exact⟨_,cellAt c u e2⟩
 obtain⟨uz,c,a1,a2,a3⟩:=h4 i y z e2 e3;exact⟨uz,c,a1,a2,cellAt c uz a3⟩
noncomputable def vN (g:Addr->Option Obj)(H:Hp):Hp:=fun b=>match g b with
 | some o=>some (su b o)
 | none=>H b
noncomputable def nQ (g:Addr->Option Obj)(H:Hp):Hp:=fun b=>match g b with
 | some _=>none
 | none=>H b
theorem Ho {g:Addr->Option Obj}{H:Hp}{b:Addr}{o:Obj}(h:g b=some o):vN g H b=some (su b o):=by unfold vN;rw[h]
theorem gw {g:Addr->Option Obj}{H:Hp}{b:Addr}(h:g b=none):vN g H b=H b:=by unfold vN;rw[h]
theorem JC {g:Addr->Option Obj}{H:Hp}{b:Addr}{o:Obj}(h:g b=some o):nQ g H b=none:=by unfold nQ;rw[h]
theorem jm {g:Addr->Option Obj}{H:Hp}{b:Addr}(h:g b=none):nQ g H b=H b:=by unfold nQ;rw[h]
section
variable {P:AU}{w:Be}{g:Addr->Option Obj}{H H2:Hp}{h h':Heap}
theorem Z7 (hok:HOk P w H h)(hg:∀c o,g c=some o->h.get? c=some o/\H c=none):HOk P w (vN g H) h:=fun b u e=>by
 cases hb:g b with
 | some o=>
  rw[Ho hb] at e;cases e;exact N5 (hg b o hb).1
 | none=>
  rw[gw hb] at e;have keep:∀{d v},H d=some v->vN g H d=some v:=fun {d v} q=>by
   cases hd:g d with
   | some o=>rw[(hg d o hd).2] at q;cases q
   | none=>rw[gw hd];exact q
  exact(hok b u e).stay (fun d v _ q=>q) (fun d q=>keep q) fun d xs q=>keep q
theorem Wj (hok:HOk P w H2 h')(hg:∀c o,g c=some o->H2 c=some (su c o)):HOk P w (nQ g H2) h':=fun b u e=>by
 cases hb:g b with
 | some o=>
  rw[JC hb] at e;cases e
 | none=>
  rw[jm hb] at e;have keep:∀{d v},H2 d=some v->(∀φ,v≠.ext φ)->nQ g H2 d=some v:=fun {d v} q n=>by
   cases hd:g d with
   | some o=>rw[hg d o hd] at q;exact absurd (A7 q).symm (n _)
   | none=>rw[jm hd];exact q
  exact(hok b u e).stay (fun d v _ q=>q) (fun d q=>keep q fun φ z=>by cases z) fun d xs q=>keep q fun φ z=>by cases z
theorem ZK {fs:List Addr}(u:Un fs [] (vN g H) H2 h h')(hok:HOk P w H2 h')(hg:∀c o,g c=some o->h.get? c=some o/\H c=none/\c∉fs)(h2:∀c o,g c=some o->H2 c=some (su c o)):Un fs [] H (nQ g H2) h h':=by
 have out:∀{b o},H b=some o->g b=none:=fun {b o} e=>by
  cases hb:g b with
  | some o2=>rw[(hg b o2 hb).2.1] at e;cases e
  | none=>rfl
 have kept:∀c o,g c=some o->h'.get? c=some o:=fun c o e=>(hok c _ (h2 c o e)).1;refine⟨fun b o e n n1 n2=>?_,fun b o e n n1 n2=>?_,fun b o e n n2=>?_,fun b o e n2=>u.there b o e n2,fun b xs e=>?_,fun b o v e=>?_,fun b ps e=>?_⟩
 ·cases hb:g b with
  | some o2=>
   have e2:=(hg b o2 hb).1;rw[e] at e2;cases e2;exact kept b o hb
  | none=>exact u.keep b o e ((gw hb).trans n) n1 n2
 ·cases hb:g b with
  | some o2=>exact absurd n1 (hg b o2 hb).2.2
  | none=>exact u.slot b o e ((gw hb).trans n) n1 n2
 ·cases hb:g b with
  | some o2=>exact JC hb
  | none=>rw[jm hb];exact u.free b o e ((gw hb).trans n) n2
 ·rw[jm (out e)];exact u.tups b xs ((gw (out e)).trans e)
 ·rw[jm (out e)];exact u.frzs b o v ((gw (out e)).trans e)
 rw[jm (out e)];exact u.tbls b ps ((gw (out e)).trans e)
end
structure Hs (cs:List (Nat×Addr))(σ:St)(H:Hp)(g:Addr->Option Obj):Prop where
 val:∀i c,(i,c)∈cs->∀v,σ[i]?=some (some v)->∃u o,RelV v u/\g c=some o/\o.data=.cell (some u)
 dom:∀c o,g c=some o->∃i,(i,c)∈cs
 fre:∀c o,g c=some o->H c=none
 all:∀i c,(i,c)∈cs->∃o,g c=some o
noncomputable def Kl (sp:Sp)(cs:List (Nat×Addr))(t:TA):TE:=fun σ H Q=>t σ H fun vs H1=>∀g,Hs cs σ H1 g->sp vs (vN g H1) (fun v H2=>(∀c o,g c=some o->H2 c=some (su c o))/\Q v (nQ g H2)) E0
section
variable {X:Cx}{k:Nat}{ps:List Str}{sp:Sp}{x:Str}{p pos:Pos}{e:Expr}{es:List Expr}{t:TA}
theorem abi (C:Cal X.prog X.w X.K X.mg X.base x k ps sp)(hr:gH k X.A)(hg:Gl X x)(cs:List (Nat×Addr))(hcs:∀i c,(i,c)∈cs->∃y,X.N[i]?=some y/\X.env.kindOf y=some .cell/\X.env.cells.lookup y=some c/\X.fn y=true)
  (ha:PA X (e::es) t) (hdb:(x == ("__debug__" : Str))=false:=by decide)
  (he:AL (e::es) X.env=(false,eval e X.env)::AL es X.env:=by rfl) (hpl:(CB pos (AL es X.env)).any (·.1)=false:=by rfl):PE X (.Call (.Name x p) (e::es) [] pos) (Kl sp cs t):=by
 obtain⟨f,fd,F,hb,hk,hm⟩:=C.ex;intro pins s σ H Q I h;refine EH (Gj I hg hm ?_ hdb);refine PySem.W.callWith_K (h₀:=X.base) I.ok.mod.kin hk (thA (ha pos pins s σ H _ I h) fun us s1 vs H1 I1 r q=>⟨I1.kIn,?_⟩) he hpl;obtain⟨g,hgd⟩:∃g:Addr->Option Obj,g=fun b=>if b∈cs.map (·.2) then s1.heap.get? b else none:=⟨_,rfl⟩;have gin:∀c o,g c=some o->c∈cs.map (·.2)/\s1.heap.get? c=some o:=fun c o e=>by
  rw[hgd] at e;dsimp only at e;split at e
  ·exact⟨by assumption,e⟩
  cases e
 have gmem:∀i c,(i,c)∈cs->g c=s1.heap.get? c:=fun i c hm=>by
  rw[hgd];exact if_pos (D9.mpr ⟨(i,c),hm,rfl⟩)
 have own:∀c o,g c=some o->∃i y,(i,c)∈cs/\X.env.cells.lookup y=some c/\X.fn y=true:=fun c o e=>by
  obtain⟨⟨i,c2⟩,hm,rfl⟩:=D9.mp (gin c o e).1;obtain⟨y,_,_,h3,h4⟩:=hcs i c2 hm;exact⟨i,y,hm,h3,h4⟩
 have fr1:∀c o,g c=some o->H1 c=none:=fun c o e=>by
  obtain⟨i,y,_,h3,_⟩:=own c o e;exact I1.freeC y c h3
 have G:Hs cs σ H1 g:=by
  refine⟨fun i c hm v hv=>?_,fun c o e=>?_,fr1,fun i c hm=>?_⟩
  ·obtain⟨y,h1,h2,h3,_⟩:=hcs i c hm;obtain⟨m,hns,loc⟩:=I1.loc;obtain⟨u,ru,look⟩:=loc i y v h1 hv (.inr (.inl h2));rcases look with⟨z,_⟩|⟨_,c2,e2,o,e3,e4⟩
   ·rw[h2] at z;cases z
   rw[h3] at e2;cases e2;exact⟨u,o,ru,(gmem i c hm).trans e3,e4⟩
  ·obtain⟨i,y,hm,_⟩:=own c o e;exact⟨i,hm⟩
  obtain⟨y,_,_,h3,_⟩:=hcs i c hm;obtain⟨z,o,e,_⟩:=I1.cell y c h3;exact⟨o,(gmem i c hm).trans e⟩
 have celd:∀c o,g c=some o->∃z,o.data=.cell z:=fun c o e=>by
  obtain⟨i,y,_,h3,_⟩:=own c o e;obtain⟨z,o2,e2,d⟩:=I1.cell y c h3;rw[(gin c o e).2] at e2;cases e2;exact⟨z,d⟩
 have nfr:∀c o,g c=some o->c∉frs X.stack:=fun c o e hm=>by
  obtain⟨i,y,_,h3,h4⟩:=own c o e;rcases AX.mp (I1.tO c hm) with z|z
  ·obtain⟨m,⟨o2,es,ep,e2,d2,_⟩,_⟩:=I1.loc;obtain⟨zz,d⟩:=celd c o e;rw[<- z,(gin c o e).2] at e2;cases e2;rw[d] at d2;cases d2
  obtain⟨_,o2,e2,_⟩:=I1.ok.sJ.mem z;have a1:=I1.ok.cab y c h4 h3;have a2:=A3 e2;exact absurd (A8 a2 a1) (C6 _)
 have gk:∀c o,g c=some o->s1.heap.get? c=some o/\H1 c=none/\c∉frs X.stack:=fun c o e=>⟨(gin c o e).2,fr1 c o e,nfr c o e⟩;have e0:=I1.env0;have e1:J8 X.prog X.w X.K X.mg X.base X.A X.stack s1 (vN g H1):=by
  refine⟨e0.frames,e0.mod,fun b o e=>⟨(e0.bs b o e).1,?_⟩,e0.bsz,e0.sJ,fun b hm=>?_,Z7 e0.hok fun c o e=>⟨(gk c o e).1,(gk c o e).2.1⟩,e0.bare⟩
  ·cases hgb:g b with
   | none=>exact(gw hgb).trans (e0.bs b o e).2
   | some o2=>
    obtain⟨i,y,_,h3,h4⟩:=own b o2 hgb;have a1:=I1.ok.cab y b h4 h3;have a2:=A3 e;have a3:=I1.ok.bsz;exact absurd (A8 a2 (BB a3 a1)) (C6 _)
  cases hgb:g b with
  | none=>exact(gw hgb).trans (e0.frf b hm)
  | some o2=>exact absurd hm (nfr b o2 hgb)
 have r2:Vals (vs++[]) (us++[]):=r.append .nil;have q2:sp (vs++[]) (vN g H1) (fun v H2=>(∀c o,g c=some o->H2 c=some (su c o))/\Q v (nQ g H2)) E0:=by
  rw[Cf];exact q g G
 have hl:(us++[]).length=ps.length:=by rw[<- r2.length];exact F.len _ _ _ _ q2
 refine wpAny_call (E5 (F.run X.A X.stack s1 (vN g H1) ⟨us,[]⟩ (us++[]) (vs++[]) _ E0 hr e1 (hb s1 us I1.kIn hl) r2 q2) fun r s' hq=>?_);cases r with
 | error e=>exact(UL pins σ H1 s1 e s' I1 hq)
 | ok fl=>
  cases fl with
  | ret u=>
   obtain⟨v,H2,os,bare,un,hok,rv,hk2,q3⟩:=hq;exact I1.after ⟨v,nQ g H2,os,bare,ZK un hok gk hk2,Wj hok hk2,rv,q3⟩
  | next=>exact C3 hq
  | brk=>exact C3 hq
  | cont=>exact C3 hq
end
theorem yr {pos pos2:Pos}{c:An}(hne:pos2.line≠pos.line\/pos2.col≠pos.col)(l:List An)(h:TriplesOk l):GV pos2 (l++[C9 pos.line,C9 pos.col,c])=GV pos2 l:=by
 fun_induction TriplesOk l with
 | case1=>
  simp only[nil_append,GV,C9];rw[if_neg];intro z;rw[C7] at z;have z1:(pos.line:Int)=(pos2.line:Int):=eq_of_beq z.1;have z2:(pos.col:Int)=(pos2.col:Int):=eq_of_beq z.2;omega
 | case2 a t b u x rest ih=>
  simp only[cons_append,GV];rw[ih h]
 | case3 l h1 h2=>exact h.elim
section
variable {X:Cx}{pins:List (Addr×Obj)}{σ:St}{H:Hp}{s:AC}{E:An->AC->Prop}{c P:Addr}{params:Fs}{body:Expr}{scope:D3}{pos:Pos}{qual:Str}{Q:An->AC->Prop}
theorem QZ {cl:List (Str×Addr)}(I:Inv X pins σ H s) (hcl:EI scope X.env=pure cl) (hdef:defaultsOf params X.env=([],[])) (hcode:X.env.code=.ref c) (C:EA X.base c P) (hb:X.base.BuiltinsAt X.mg P) (hq:X.env.qual ++ "<lambda>" = qual) (hL:jA H P pos qual)
  (h:∀(f c':Addr)(ctv pm:An)(H':Hp)(s':AC),Inv X pins σ H' s'->s.heap.objs.size<=f->H' f=none->s'.heap.get? f=some (Cn "<lambda>" qual params body scope cl pm c' ctv)->H' c'=some (qP c' qual)->jA H' P pos qual->aW P H H'->(∀(pos2:Pos) q2,(pos2.line≠pos.line\/pos2.col≠pos.col)->jA H P pos2 q2->jA H' P pos2 q2)->Q (.ref f) s') :
  AM (A0 X.prog X.w) X.A (eval (.Lambda params body scope pos) X.env) Q E s:=by
 refine PySem.W.kla_eval hdef ?_;rw[hq];obtain⟨ps,hP,ht,hk⟩:=hL;have kb:=I.bk;have hPh:s.heap.get? P=some (IR ps):=I.hok P _ hP;have hg:s.heap.Ns AH X.mg:=I.mod.glob.keeps kb;have hgP:AH≠P:=fun z=>by
  obtain⟨o,es,ep,e,d,_⟩:=hg;rw[z,hPh] at e;cases e;cases d
 have hbs:s.heap.BuiltinsAt X.mg P:=by
  obtain⟨bm,o,e1,e2,e3,e4,e5,r⟩:=hb;exact⟨bm,o,e1,e2,e3,e4,kb _ _ e5,r⟩
 have hC:EA s.heap c P:=C.keeps kb;have hsz:=I.hok;rcases hk with hnf|⟨c',hf,hc'⟩
 ·refine PySem.W.kla_makeFunction hcl I.ok.glob hg hcode hC hPh ht hnf hgP hbs fun c' ctv h' tk hx hge hlt hrec htb=>?_;have hcn:H c'=none:=I.hok.fresh hge;have ncP:c'≠P:=fun z=>by rw[z,hP] at hcn;cases hcn
  obtain⟨H',hH'⟩:∃H',H'=upd (upd H P (.tbl (ps ++ #[C9 pos.line,C9 pos.col,.ref c']))) c' (qP c' qual):=⟨_,rfl⟩;have oth:∀b,b≠P->b≠c'->H' b=H b:=fun b n1 n2=>by rw[hH',aM n2,aM n1]
  have atP:H' P=some (.tbl (ps ++ #[C9 pos.line,C9 pos.col,.ref c'])):=by rw[hH',aM ncP.symm,aB]
  have atC:H' c'=some (qP c' qual):=by rw[hH',aB]
  have up:∀b o,b≠P->s.heap.get? b=some o->(h'.push (Cn "<lambda>" qual params body scope cl ((X.mg "__name__").getD .none) c' ctv)).get? b=some o:=fun b o n e=>AB _ (hx b o n e);have old:∀{b o},s.heap.get? b=some o->b≠c':=fun {b o} e=>BG (A8 (A3 e) hge);have lc:∀{b o},H b=some o->b≠c':=fun {b o} e z=>by rw[z,hcn] at e;cases e
  have nP:∀{b o},s.heap.get? b=some o->H b=none->b≠P:=fun {b o} _ n z=>by rw[z,hP] at n;cases n
  have fH:H' h'.objs.size=none:=by
   have hs:s.heap.objs.size<=h'.objs.size:=GY (FV hge hlt);have:H h'.objs.size=none:=I.hok.fresh hs;rw[oth _ (fun z=>by rw[z,hP] at this;cases this) (ne_of_gt hlt)];exact this
  have un:Un X.fs [] H H' s.heap (h'.push (Cn "<lambda>" qual params body scope cl ((X.mg "__name__").getD .none) c' ctv)):=by
   refine⟨fun b o e n _ _=>up b o (nP e n) e,fun b o e n _ _=>⟨o.slots,up b o (nP e n) e⟩,fun b o e n _=>by rw[oth b (nP e n) (old e)];exact n,fun b o e _=>?_,fun b xs e=>?_,fun b o u e=>?_,fun b qs e=>?_⟩
   ·by_cases z:b=P
    ·rw[z];exact⟨_,AB _ htb⟩
    exact⟨o,up b o z e⟩
   ·rw[oth b (fun z=>by rw[z,hP] at e;cases e) (lc e)];exact e
   ·rw[oth b (fun z=>by rw[z,hP] at e;cases e) (lc e)];exact e
   by_cases z:b=P
   ·rw[z,hP] at e;cases e;rw[z];exact⟨_,atP⟩
   rw[oth b z (lc e)];exact⟨#[],by rw[e];simp⟩
  have hrec2:(h'.push (Cn "<lambda>" qual params body scope cl ((X.mg "__name__").getD .none) c' ctv)).CodeRec (.ref c') qual:=by
   obtain⟨c1,o,vs,t,ec,ho,r⟩:=hrec;exact⟨c1,o,vs,t,ec,AB _ ho,r⟩
  have hok:HOk X.prog X.w H' (h'.push (Cn "<lambda>" qual params body scope cl ((X.mg "__name__").getD .none) c' ctv)):=fun b u e=>by
   by_cases z1:b=c'
   ·rw[z1,atC] at e;cases e;rw[z1];exact Wu hrec2
   by_cases z2:b=P
   ·rw[z2,atP] at e;cases e;rw[z2];exact AB _ htb
   rw[oth b z2 z1] at e;refine(I.hok b u e).stay (fun d v hd q=>up d v (fun z=>?_) q) (fun d q=>?_) fun d xs q=>?_
   ·rcases hd with hd|hd
    ·exact z2 (hd.symm.trans z)
    rw[z,hP] at hd;cases hd
   ·rw[oth d (fun z=>by rw[z,hP] at q;cases q) (lc q)];exact q
   rw[oth d (fun z=>by rw[z,hP] at q;cases q) (lc q)];exact q
  refine h h'.objs.size c' ctv _ H' _ (I.un (t':=tk) un hok) (GY (FV hge hlt)) fH (AY _ rfl) atC ⟨_,atP,?_,.inr ⟨c',?_,atC⟩⟩ (fun b o n e=>by rw[oth b n (lc e)];exact e) fun pos2 q2 hne ⟨ps2,e2,t2,k2⟩=>?_
  ·rw[Fa];exact TriplesOk_snoc _ _ _ _ ht
  ·rw[Fa];exact codeAmong_snoc _ ht hnf
  rw[hP] at e2;cases e2;refine⟨_,atP,?_,?_⟩
  ·rw[Fa];exact TriplesOk_snoc _ _ _ _ ht
  rw[Fa];rw[show GV pos2 (ps.toList++[C9 pos.line,C9 pos.col,.ref c'])=GV pos2 ps.toList from yr hne _ ht];exact k2.imp id fun⟨c2,a,b⟩=>⟨c2,a,by rw[oth c2 (fun z=>by rw[z,hP] at b;cases b) (lc b)];exact b⟩
 refine PySem.W.kla_makeFunctionHit hcl I.ok.glob hg hcode hC hPh ht hf hbs fun ctv h' tk hx hge=>?_;have kp:∀b o,s.heap.get? b=some o->(h'.push (Cn "<lambda>" qual params body scope cl ((X.mg "__name__").getD .none) c' ctv)).get? b=some o:=fun b o e=>AB _ (hx b o e);refine h h'.objs.size c' ctv _ H _ (I.kept (t':=tk) kp) hge (I.hok.fresh hge) (AY _ rfl) hc' ⟨ps,hP,ht,.inr ⟨c',hf,hc'⟩⟩ (aW.refl _ _) fun _ _ _ z=>z
end
section
variable {X:Cx}{pins:List (Addr×Obj)}{σ:St}{H:Hp}{s:AC}
theorem Inv.track {f:Addr}{o:HO}(I:Inv X pins σ H s)(hf:sU X pins H f)(new:cI X.prog X.w (upd H f o) s.heap f o):Inv X pins σ (upd H f o) s:=by
 obtain⟨fn,fl,ffs,fe,fc,fp⟩:=hf;have oth:∀{b u},H b=some u->upd H f o b=some u:=fun {b u} e=>by rw[aM (aF e fn)];exact e
 refine⟨I.ok,I.os,I.bare,⟨I.base.keep,I.base.slot,fun b u e n nx=>?_,I.base.there,fun b xs e=>oth (I.base.tups b xs e),fun b u v e=>oth (I.base.frzs b u v e),fun b ps e=>?_⟩,I.loc,I.cell,?_,fun x c e=>?_,fun p hp=>?_,fun b u e=>?_,I.len⟩
 ·have:b≠f:=fun z=>by
   rcases fe with fe|fe
   ·exact nx (z ▸ fe)
   exact absurd (A3 e) (Nat.not_lt.mpr (by rw[z];exact fe))
  rw[aM this];exact I.base.free b u e n nx
 ·obtain⟨m,em⟩:=I.base.tbls b ps e;exact⟨m,oth em⟩
 ·rw[aM (B6 fl)];exact I.free
 ·rw[aM (fc x c e)];exact I.freeC x c e
 ·obtain⟨a1,a2,a3⟩:=I.pin p hp;refine⟨a1,?_,a3⟩;rw[aM (fp p hp)];exact a2
 by_cases z:b=f
 ·rw[z,aB] at e;cases e;rw[z];exact new
 rw[aM z] at e;exact(I.hok b u e).stay (fun _ _ _ q=>q) (fun _ q=>oth q) fun _ _ q=>oth q
end
noncomputable def SQ (T:Addr)(pos:Pos)(qual:Str)(params:Fs)(body:Expr)(scope:D3)(cl:List (Str×Addr)):TE:=fun _ H Q=>jA H T pos qual /\
 ∀(f c':Addr)(ctv pm:An)(H':Hp),aW T H H'->H f=none->H' f=some (su f (Cn "<lambda>" qual params body scope cl pm c' ctv))->H' c'=some (qP c' qual)->jA H' T pos qual ->
  (∀(pos2:Pos) q2,(pos2.line≠pos.line\/pos2.col≠pos.col)->jA H T pos2 q2->jA H' T pos2 q2)->Q (.ref f) H'
section
variable {X:Cx}{c T:Addr}{params:Fs}{body:Expr}{scope:D3}{pos:Pos}{qual:Str}{cl:List (Str×Addr)}
theorem Yw (hcl:EI scope X.env=pure cl) (hdef:defaultsOf params X.env=([],[])) (hcode:X.env.code=.ref c) (C:EA X.base c T) (hb:X.base.BuiltinsAt X.mg T) (hq:X.env.qual ++ "<lambda>" = qual) :
  PE X (.Lambda params body scope pos) (SQ T pos qual params body scope cl):=by
 intro pins s σ H Q I h;obtain⟨hL,q⟩:=h;refine QZ I hcl hdef hcode C hb hq hL fun f c' ctv pm H2 s2 I2 hfs hfn hfo hcc hL2 sx oth=>?_;have fp:sU X pins H2 f:=I.LK hfs hfn;have I3:=I2.track fp (N5 hfo);have s23:Same H2 (upd H2 f (su f (Cn "<lambda>" qual params body scope cl pm c' ctv))):=aA hfn;exact⟨.ref f,_,I3,rfl,q f c' ctv pm _ (sx.trans s23.x) (I.hok.fresh hfs) aB (s23 _ _ hcc) (hL2.same s23) fun pos2 q2 ne z=>(oth pos2 q2 ne z).same s23⟩
end
section
variable {X:Cx}{c T:Addr}{params:Fs}{body:Expr}{scope:D3}{p pos:Pos}{qual x:Str}{cl:List (Str×Addr)}{k i:Nat}{ps:List Str}{sp:Sp}{e:Expr}{es:List Expr}{ta:TA}
theorem Nu (hcl:EI scope X.env=pure cl) (hdef:defaultsOf params X.env=([],[])) (hcode:X.env.code=.ref c) (C:EA X.base c T) (hb:X.base.BuiltinsAt X.mg T) (hq:X.env.qual ++ "<lambda>" = qual) :
  QE X (.Lambda params body scope pos) (SQ T pos qual params body scope cl):=⟨Yw hcl hdef hcode C hb hq⟩
theorem Ij (hr:gH k X.A)(hn:Nm X.N X.env.scope i x)(ha:QA X [e] ta)(he:AL [e] X.env=(false,eval e X.env)::AL [] X.env:=by rfl)(hpl:(CB pos (AL [] X.env)).any (·.1)=false:=by rfl) :
  QE X (.Call (.Name x p) [e] [] pos) (Er X.prog X.w X.K X.mg X.base k i ta):=⟨UG hr UL (pn hn) ha.h he hpl⟩
theorem aaW {cs:List (Nat×Addr)}(C:Cal X.prog X.w X.K X.mg X.base x k ps sp)(hr:gH k X.A)(hg:Gl X x)(hdb:Bn x)(hcs:∀i c,(i,c)∈cs->∃y,X.N[i]?=some y/\X.env.kindOf y=some .cell/\X.env.cells.lookup y=some c/\X.fn y=true)
  (ha:QA X (e::es) ta) (he:AL (e::es) X.env=(false,eval e X.env)::AL es X.env:=by rfl) (hpl:(CB pos (AL es X.env)).any (·.1)=false:=by rfl):QE X (.Call (.Name x p) (e::es) [] pos) (Kl sp cs ta):=
 ⟨abi C hr hg cs hcs ha.h hdb.hd he hpl⟩
end
theorem QV {P:AU}{w:Be}{K:Au}{mg mb:Str->Option An}{CX:CXT}{k:Nat}{fa a c T:Addr}{fd:BU}{x:Str}{sp:Sp}{s₁:AC}{vs:List An}{ns:List Int}
  (KX:K.In s₁.heap) (hns:s₁.heap.Ns AH mg) (hb:s₁.heap.Ns builtinsNs mb) (hbb:∀x:Str,x ≠ "__name__" -> mb x=Dx x) (hlim:s₁.heap.NoLimit) (hg:s₁.gens=#[])
  (ha:s₁.heap.get? a=some { cls:=.type "list",data:=.seq vs.toArray }) (hi:EU vs ns) (hl:ns.length<=AK) (hr:gH k callerA)
  (hcd:EA s₁.heap c T) (hT:s₁.heap.get? T=some (IR #[])) (hKT:K.lookup T=none) (hBu:s₁.heap.BuiltinsAt mg T)
  (F:∀base:Heap,K.In base->base.Ns AH mg->base.BuiltinsAt mg T->dj P w K mg base CX k fa fd [x] sp) (hbind:∀(s:AC)(u:An),BindsTo s fd ⟨[u],[]⟩ [(x,u)])
  (hsp:∀H:Hp,H T=some (.tbl #[])->SqL K H a (ns.map V.int)->sp [.ref a] H (fun v _=>v=.bl true) fun _ _ _=>False)
  (hCX:∀H e s',CX [] H s₁ (fun _ _ _=>False) e s'->False) :
  FK (A0 P w) callerA (.call (.ref fa) ⟨[.ref a],[]⟩) (fun r s'=>r=.ok (.ret (.bool true))/\OldK s₁.heap s'.heap/\s'.os=s₁.os/\HR s'.gens) s₁:=by
 have rv:=CT hi;have lenV:=hi.length;have naT:a≠T:=fun z=>by rw[z,hT] at ha;cases ha
 have core:∀H:Hp,H T=some (.tbl #[])->SqL K H a (ns.map V.int)->HOk P w H s₁.heap->(∀b,b≠T->H b=none\/(b=a/\K.lookup a=none/\∃o xs,H b=some (.frz o (.lst xs)))) ->
   FK (A0 P w) callerA (.call (.ref fa) ⟨[.ref a],[]⟩) (fun r s'=>r=.ok (.ret (.bool true))/\OldK s₁.heap s'.heap/\s'.os=s₁.os/\HR s'.gens) s₁:=by
  intro H hHT hS hok hA;have base_of:∀{b:Addr}{o:Obj},s₁.heap.get? b=some o->H b=none->(Cp s₁.heap H).get? b=some o:=fun e n=>V4 e n;have noA:∀{b:Addr}{o:Obj},s₁.heap.get? b=some o->b≠T->b≠a->H b=none:=fun {b o} _ n1 n2=>by
   rcases hA b n1 with z|z
   ·exact z
   exact absurd z.1 n2
  have nsK:∀{b:Addr}{m:Str->Option An},s₁.heap.Ns b m->(Cp s₁.heap H).Ns b m:=fun {b m} ⟨o,es,ep,e,d,r⟩=>⟨o,es,ep,base_of e (noA e (fun z=>by rw[z,hT] at e;cases e;cases d) fun z=>by
   rw[z,ha] at e;cases e;have d':GA vs.toArray _=Data.dict es ep:=d;cases d'),d,r⟩
  have hKb:K.In (Cp s₁.heap H):=fun b o e=>base_of (KX b o e) (by
   rcases hA b (fun z=>by rw[z,hKT] at e;cases e) with z|⟨z,z2,_⟩
   ·exact z
   rw[z,z2] at e;cases e)
  have hBb:(Cp s₁.heap H).BuiltinsAt mg T:=by
   obtain⟨bm,o,e1,e2,e3,e4,e5,e6,e7,e8⟩:=hBu;exact⟨bm,o,e1,e2,e3,e4,base_of e5 (noA e5 e4 fun z=>by rw[z,ha] at e5;cases e5;cases e8),e6,e7,e8⟩
  have hM:Mod K mg (Cp s₁.heap H):=⟨hKb,nsK hns,⟨mb,nsK hb,hbb⟩,let ⟨mc,h1,h2⟩:=hlim;⟨mc,nsK h1,h2⟩⟩;have e0:J8 P w K mg (Cp s₁.heap H) callerA [] s₁ H:=⟨rfl,hM,fun b o e=>Y5 e,Nat.le_of_eq (Rc _ _),trivial,fun b hb=>absurd (show b∈([]:List Addr) from hb) (by simp),hok,.of_eq hg⟩;refine E5 ((F _ hKb (nsK hns) hBb).run callerA [] s₁ H ⟨[.ref a],[]⟩ [.ref a] [.ref a] _ _ hr e0 (hbind s₁ (.ref a)) (.cons rfl .nil) (hsp H hHT hS)) fun r s' h=>?_;cases r with
  | error e=>exact(hCX H e s' h).elim
  | ok fl=>
   cases fl with
   | next=>exact C3 h
   | brk=>exact C3 h
   | cont=>exact C3 h
   | ret u=>
    obtain⟨v,H',os,bare,un,hok',r',q⟩:=h;have q':v=.bl true:=q;subst q';obtain rfl:u=An.bool true:=r';have kp:∀b o,b≠T->s₁.heap.get? b=some o->s'.heap.get? b=some o:=fun b o n e=>by
     rcases hA b n with z|⟨_,_,ob,xs,z⟩
     ·exact un.keep b o e z (by intro z;exact absurd (show b∈([]:List Addr) from z) (by simp)) (by simp)
     have z2:=un.frzs b ob _ z;obtain⟨e1,_⟩:=hok b _ z;obtain⟨e2,_⟩:=hok' b _ z2;rw[e] at e1;cases e1;exact e2
    obtain⟨more,hm⟩:=un.tbls T _ hHT;have hT':s'.heap.get? T=some { cls:=.none,data:=.fields (#[]++more) }:=hok' T _ hm;refine⟨rfl,⟨fun b o e=>?_,fun b o e=>?_⟩,os,bare⟩
    ·by_cases z:b=T
     ·subst z;rw[hT] at e;cases e;obtain⟨oc,ws,_,_,_,_,_,_,_,c1,c2,c3,c4,_⟩:=hcd;exact .inr (.inl ⟨⟨c,oc,ws,c1,c2,c3,c4⟩,rfl,#[],more,rfl,hT'⟩)
     exact .inl (kp b o z e)
    by_cases z:b=T
    ·rw[z];exact⟨_,hT'⟩
    exact⟨o,kp b o z e⟩
 cases hk:K.lookup a with
 | some o=>
  have e:=KX a o hk;rw[ha] at e;cases e;refine core (fun b=>if b=T then some (.tbl #[]) else none) (if_pos rfl) (.inr ⟨_,vs.toArray,_,hk,rfl,rfl,rfl,by rw[AN,lenV];exact hl,by simpa using rv⟩) (fun b u z=>?_) fun b n=>.inl (if_neg n);by_cases hbT:b=T
  ·have z':=(if_pos hbT).symm.trans z;cases z';rw[hbT];exact hT
  have z':=(if_neg hbT).symm.trans z;cases z'
 | none=>
  refine core (fun b=>if b=T then some (.tbl #[]) else if b=a then some (.frz { cls:=.type "list",data:=.seq vs.toArray } (.lst (ns.map V.int))) else none) (if_pos rfl) (.inl (.inr ⟨{ cls:=.type "list",data:=.seq vs.toArray },(if_neg naT).trans (if_pos rfl)⟩)) (fun b u z=>?_) fun b n=>?_
  ·by_cases hbT:b=T
   ·have z':=(if_pos hbT).symm.trans z;cases z';rw[hbT];exact hT
   by_cases hba:b=a
   ·have z':=((if_neg hbT).trans (if_pos hba)).symm.trans z;cases z';subst hba;exact⟨ha,by rw[AG];exact hl,vs,_,rv,ha⟩
   have z':=((if_neg hbT).trans (if_neg hba)).symm.trans z;cases z'
  by_cases hba:b=a
  ·exact .inr ⟨hba,hk,_,_,(if_neg n).trans (if_pos hba)⟩
  exact .inl ((if_neg n).trans (if_neg hba))
theorem Sh {l:PySem.W.OpenLaw}{n k:Nat}{q:AU}{loose:List Str}{XP:(Str->Option An)->Heap->Prop}{YP:Be->Heap->Prop}{d:DefRec}{K:Params->Au}{CX:Be->CXT}{sp:Be->Sp}{x:Str}{c T:Addr}
  (hn:l.most=some n) (hn2:n<=AK) (hdf:d.params.defaults=[]) (hr:gH k callerA)
  (hY:∀(w:Be)(h:Heap),YP w h->(K w.params).In h/\h.get? T=some (IR #[])/\(K w.params).lookup T=none/\EA h c T)
  (F:∀(w:Be)(mg:Str->Option An)(fa:Addr)(h:Heap),(K w.params).In h->h.Ns AH mg->mg d.name=some (.ref fa) ->
   ∃fd:BU,(∀(s:AC)(u:An),BindsTo s fd ⟨[u],[]⟩ [(x,u)]) /\
    ∀base:Heap,(K w.params).In base->base.Ns AH mg->base.BuiltinsAt mg T->dj l.prog w (K w.params) mg base (CX w) k fa fd [x] (sp w))
  (hsp:∀(w:Be)(H:Hp)(a:Addr)(ns:List Int),ns.length<=n->H T=some (.tbl #[])->SqL (K w.params) H a (ns.map V.int)->sp w [.ref a] H (fun v _=>v=.bl true) fun _ _ _=>False)
  (hCX:∀(w:Be)(H:Hp)(s:AC)(e:An)(s':AC),CX w [] H s (fun _ _ _=>False) e s'->False) :
  PySem.W.WalkO q loose XP YP l.row.toRowW d [] (fun f vs=>PySem.call f vs):=by
 refine Att.J3 hn hdf fun w s₀ s₁ mg mb fa o pm cd doc a vs ns G Y ho hd hcd hmg hobj hints hlen hg=>?_;obtain⟨KX,hT,hKT,hC⟩:=hY w _ Y;obtain⟨fd,hb,hF⟩:=F w mg fa _ KX G.T.g hmg;have hBu:s₁.heap.BuiltinsAt mg T:=by
  obtain⟨bm,ob,b1,b2,b3,b4,b5,b6⟩:=G.T.bmain;refine⟨bm,ob,b1,b2,fun z=>?_,fun z=>?_,b3,b4,b5,b6⟩
  ·obtain⟨o',es,ep,e,d',_⟩:=G.T.g;rw[<- z,b3] at e;cases e;rw[b6] at d';cases d'
  rw[z,hT] at b3;cases b3;cases b6
 exact QV KX G.T.g G.T.b G.T.builtins G.T.nolimit hg hobj hints (BB hlen hn2) hr hC hT hKT hBu hF hb (fun H hO hS=>hsp w H a ns hlen hO hS) fun H e s'=>hCX w H s₁ e s'
noncomputable def aan (H:Hp)(a:Addr):Prop:=∃xs,H a=some (.lst xs)\/H a=some (.tup xs)
mutual
theorem aJ.seq {ok:Addr->Prop}{H:Hp}:∀{v:V}{d:AD},aJ ok H v d->aJ (fun a=>ok a/\aan H a) H v d
 | _,_,.non=>.non
 | _,_,.bl b=>.bl b
 | _,_,.int i=>.int i
 | _,_,.str x=>.str x
 | _,_,.lst o e z t=>.lst ⟨o,_,.inl e⟩ e z t.seq
 | _,_,.tup o e z t=>.tup ⟨o,_,.inr e⟩ e z t.seq
theorem aH.seq {ok:Addr->Prop}{H:Hp}:∀{vs:List V}{ds:List AD},aH ok H vs ds->aH (fun a=>ok a/\aan H a) H vs ds
 | _,_,.nil=>.nil
 | _,_,.cons h r=>.cons h.seq r.seq
end
theorem aJ.hid {ok:Addr->Prop}{H:Hp}{cs:List Addr}(hc:∀c∈cs,∃φ,H c=some (.ext φ)){v:V}{d:AD}(t:aJ ok H v d):aJ ok (hidC cs H) v d:=t.seq.keep fun a o h e=>by
 obtain⟨h1,xs,h2⟩:=h;refine⟨h1,?_⟩;rw[fB fun z=>?_]
 ·exact e
 obtain⟨φ,e2⟩:=hc a z;rw[e2] at h2;rcases h2 with h2|h2 <;> cases h2
theorem aP.hid {H:Hp}{cs:List Addr}(hc:∀c∈cs,∃φ,H c=some (.ext φ)){p:Addr}{B:Int}(t:aP H p B):aP (hidC cs H) p B:=by
 obtain⟨a,b,c,e,r⟩:=t;refine⟨a,b,c,?_,r⟩;rw[fB fun z=>?_]
 ·exact e
 obtain⟨φ,e2⟩:=hc p z;rw[e2] at e;cases e
theorem gJ.ext {H:Hp}{c:Addr}{u:An}(h:gJ H c u):∃φ,H c=some (.ext φ):=by
 obtain⟨o,e,_⟩:=h;exact⟨_,e⟩
theorem wJ {H:Hp}{p c:Addr}{B:Int}{φ:Heap->Prop}(tp:aP H p B)(e:H c=some (.ext φ)):c≠p:=fun z=>by
 obtain⟨_,_,_,e2,_⟩:=tp.ex;rw[z,e2] at e;cases e
section
variable {P:AU}{w:Be}{K:Au}{mg:Str->Option An}{base:Heap}
theorem abX {x qual:Str}{st:Stmt}{f c:Addr}{oc kV doc pm ct:An}{od an:Option Addr}{osl:Array (Option An)}{N ps:List Str}{k:Nat}{sp:Sp}
  (lk:K.lookup f=some ⟨oc,od,.func (fnOf x qual (aV st) (aQ st) (aj st) .none kV doc pm an (.ref c) ct),osl⟩) (hcd:B9 K (.ref c) qual=true) (S:bw N ps (aj st)) (len:∀vs H Q E,sp vs H Q E->vs.length=ps.length)
  (hbody:∀(A:BA)(outer:List Env)(s:AC)(H:Hp)(vs:List V)(Q:VK)(E:XK),gH k (A.deeper (Fk qual (aj st) s.heap.objs.size f (.ref c)))->sp vs H Q E ->
   ∃t,QB (JG CX0 P w K mg base N qual (aj st) f (.ref c) A outer s H E).nox (aQ st) t/\t { nx:=fun _ H'=>Q .non H',rt:=Q } (L2.start N vs) H):dj P w K mg base CX0 (k+1) f (fnOf x qual (aV st) (aQ st) (aj st) .none kV doc pm an (.ref c) ct) ps sp:=by
 refine aam lk hcd S len fun A outer s H vs Q E hr hsp=>?_;obtain⟨t,h,q⟩:=hbody A outer s H vs Q E hr hsp;exact⟨t,h.h.nox,q⟩
end
theorem J4 {T:Addr}{pos:Pos}{qual:Str}{params:Fs}{body:Expr}{scope:D3}{cl:List (Str×Addr)}{i:Nat}{D:Ends}{σ:St}{H:Hp}(hL:jA H T pos qual)
  (h:∀(f c':Addr)(ctv pm:An)(H':Hp),aW T H H'->H f=none->H' f=some (su f (Cn "<lambda>" qual params body scope cl pm c' ctv))->H' c'=some (qP c' qual)->jA H' T pos qual ->
   (∀(pos2:Pos) q2,(pos2.line≠pos.line\/pos2.col≠pos.col)->jA H T pos2 q2->jA H' T pos2 q2)->D.nx (σ.set i (some (.ref f))) H'):uG (SQ T pos qual params body scope cl) (j6 i) D σ H:=⟨hL,h⟩
theorem aJ.tbl {ok:Addr->Prop}{H H':Hp}{T:Addr}{pos:Pos}{q:Str}(hL:jA H T pos q)(s:aW T H H'){v:V}{d:AD}(t:aJ ok H v d):aJ ok H' v d:=t.seq.keep fun a o h e=>by
 obtain⟨h1,xs,h2⟩:=h;refine⟨h1,s a o (fun z=>?_) e⟩;obtain⟨ps,e2,_⟩:=hL;rw[z,e2] at h2;rcases h2 with h2|h2 <;> cases h2
theorem jA.ne {H:Hp}{T a:Addr}{pos:Pos}{q:Str}(hL:jA H T pos q){o:HO}(e:H a=some o)(h:∀ps,o≠.tbl ps):a≠T:=fun z=>by
 obtain⟨ps,e2,_⟩:=hL;rw[z,e2] at e;exact h ps (A7 e).symm
theorem aP.tbl {H H':Hp}{T p:Addr}{B:Int}{pos:Pos}{q:Str}(hL:jA H T pos q)(s:aW T H H')(t:aP H p B):aP H' p B:=by
 obtain⟨a,b,c,e,r⟩:=t;exact⟨a,b,c,s _ _ (hL.ne e fun ps z=>by cases z) e,r⟩
theorem jA.PB {H H':Hp}{T p:Addr}{B:Int}{pos:Pos}{q:Str}(hL:jA H T pos q)(tp:aP H p B)(s:aW p H H'):jA H' T pos q:=by
 obtain⟨_,_,_,e,_⟩:=tp.ex;exact hL.gW s (fun ps z=>by rw[e] at z;cases z) (fun c z=>by rw[e] at z;cases z)
theorem Hs.same {cs:List (Nat×Addr)}{σ:St}{H:Hp}{g:Addr->Option Obj}(G:Hs cs σ H g):Same H (vN g H):=fun b o e=>by
 cases hb:g b with
 | none=>rw[gw hb];exact e
 | some o2=>rw[G.fre b o2 hb] at e;cases e
theorem Hs.at {cs:List (Nat×Addr)}{σ:St}{H:Hp}{g:Addr->Option Obj}(G:Hs cs σ H g){i:Nat}{c:Addr}{v:V}(hm:(i,c)∈cs)(hv:σ[i]?=some (some v)):∃u,RelV v u/\gJ (vN g H) c u/\H c=none:=by
 obtain⟨u,o,r,e,d⟩:=G.val i c hm v hv;exact⟨u,r,⟨o,Ho e,d⟩,G.fre c o e⟩
theorem Hs.back {cs:List (Nat×Addr)}{σ:St}{H H2:Hp}{g:Addr->Option Obj}{p:Addr}{B:Int}(G:Hs cs σ H g)(tp:aP H p B)(s:aW p (vN g H) H2):(∀c o,g c=some o->H2 c=some (su c o))/\aW p H (nQ g H2):=by
 have np:∀c o,g c=some o->c≠p:=fun c o e=>tp.ne (G.fre c o e);refine⟨fun c o e=>s _ _ (np c o e) (Ho e),fun a o n e=>?_⟩;cases hb:g a with
 | none=>rw[jm hb];exact s a o n ((gw hb).trans e)
 | some o2=>rw[G.fre a o2 hb] at e;cases e
theorem aP.drop {cs:List (Nat×Addr)}{σ:St}{H H2:Hp}{g:Addr->Option Obj}{p:Addr}{B B2:Int}(G:Hs cs σ H g)(tp:aP H p B)(t2:aP H2 p B2):aP (nQ g H2) p B2:=by
 obtain⟨_,_,_,e,_⟩:=tp.ex;have hb:g p=none:=by
  cases hb:g p with
  | none=>rfl
  | some o2=>rw[G.fre p o2 hb] at e;cases e
 obtain⟨a,b,c,e2,r⟩:=t2;exact⟨a,b,c,(jm hb).trans e2,r⟩
theorem MT {ws:List Int}(hw:∀z∈ws,0<=z/\z<=1000000):∀left:List Nat,0<=sumK ws left/\sumK ws left<=1000000*(left.length:Int)
 | []=>⟨IT 0,by show(0:Int)<=_;omega⟩
 | k::l=>by
  have ih:=MT hw l;have h0:0<=ws.getD k 0/\ws.getD k 0<=1000000:=by
   rw[AO];cases e:ws[k]? with
   | none=>exact⟨δ,δ⟩
   | some z=>exact hw z (AV e)
  have e:sumK ws (k::l)=ws.getD k 0+sumK ws l:=rfl;rw[e,BN];omega
theorem wY {ws zs:List Int}(hw:∀z∈ws,0<=z/\z<=1000000)(hz:∀z∈zs,1<=z/\z<=99){left:List Nat}(hl:left.length<=60)(p:Pl):0<=cT ws zs left p/\cT ws zs left p<=10^10:=by
 have hs:=MT hw left;have h0:0<=zs.getD (ug p) 0/\zs.getD (ug p) 0<=99:=by
  rw[AO];cases e:zs[ug p]? with
  | none=>exact⟨δ,δ⟩
  | some z=>have:=hz z (AV e);exact⟨by show 0<=z;omega,by show z<=99;omega⟩
 by_cases c:vh p=true
 ·cases p with
  | pick l=>exact⟨IT 0,by show(0:Int)<=_;decide⟩
  | _=>cases c
 rw[zG (eq_false_iff.mpr c)];refine⟨Int.mul_nonneg h0.1 hs.1,?_⟩;have h1:=Int.mul_le_mul h0.2 (show sumK ws left<=60000000 by omega) hs.1 δ;omega
theorem aav {ws zs:List Int}{ss:Sts}{n:Nat}(hn:ss.length=n)(h60:n<=60)(hw:∀z∈ws,0<=z/\z<=1000000)(hz:∀z∈zs,1<=z/\z<=99){N:List Int}(tb:Tbl (cT ws zs) ss n (2^n) N):∀x,x<2^n->0<=N.getD x 0/\N.getD x 0<=10^10*((bH n x).length:Int):=by
 intro x
 induction x using Nat.strongRecOn with
 | ind x ih=>
  intro hx;by_cases c:x=0
  ·subst c;rw[tb.at0];omega
  have lf:=mK hn (show 0<x by omega) hx;have e:=lB hx;have hbl:=lV n x;obtain⟨⟨w,hw1,ew⟩,hle⟩:=tb.lst x ω hx;generalize bH n x=left at *;have part:∀w,pR ss left w->∀p∈gP ss left w,(0<=N.getD (aZ p) 0/\N.getD (aZ p) 0<=10^10*(p.length:Int))/\p.length<left.length:=fun w h p hp=>by
   obtain⟨l1,l2,l3⟩:=lG lf h p hp;have hb:bH n (aZ p)=p:=JX l1.up fun k hk=>by have:=l1.lt k hk;omega
   have:=ih (aZ p) ω ω;rw[hb] at this;exact⟨this,l3⟩
  have sum0:∀l:List (List Nat),(∀p∈l,0<=N.getD (aZ p) 0)->0<=(l.map fun p=>N.getD (aZ p) 0).sum:=fun l h=>by
   induction l with
   | nil=>exact IT 0
   | cons p l ih=>have:=h p A6;have:=ih fun q hq=>h q (BI _ hq);rw[DV,sum_cons];omega
  constructor
  ·rw[ew];have h1:=(wY hw hz (show left.length<=60 by omega) (jP w)).1;have h2:=sum0 (gP ss left w) fun p hp=>(part w hw1 p hp).1.1;unfold jO;omega
  match left,lf,hle,part with
  | [],lf,_,_=>exact absurd rfl lf.ne
  | [a],lf,hle,_=>
   have:=hle (.pick (lbl ss a)) fun k hk=>by rw[AJ.mp hk]
   have e0:jO (cT ws zs) N ss [a] (.pick (lbl ss a))=0:=rfl;rw[e0] at this;have:(1:Int)<=(([a].length:Nat):Int):=by show(1:Int)<=((1:Nat):Int);decide
   omega
  | a::b::l,lf,hle,part=>
   have iw:pR ss (a::b::l) (.wit a):=⟨A6,by simp⟩;have h1:=hle _ iw;have h2:=part _ iw _ A6;have h3:=(wY hw hz (show(a::b::l).length<=60 by omega) (jP (.wit a))).2;have e1:jO (cT ws zs) N ss (a::b::l) (.wit a)=cT ws zs (a::b::l) (jP (.wit a))+(N.getD (aZ ((a::b::l).filter (·≠a))) 0+0):=rfl;rw[e1] at h1;have h4:(((a::b::l).filter (·≠a)).length:Int)+1<=((a::b::l).length:Int):=by have:=h2.2;omega
   have h5:=h2.1.2;omega
theorem Y6 {N:List Int}(hl:N.length<=200)(h:∀z∈N,z.natAbs<=10^20):szD 0 (.list (N.map AD.int)):=by
 refine⟨by rw[AG];show _<=210*1;omega,iy.mpr fun d hd=>?_⟩;obtain⟨z,hz,rfl⟩:=D9.mp hd;show z.natAbs<=10^20*2^0;have:=h z hz;omega
theorem zE:∀N:List Int,aK (N.map AD.int)=N.length
 | []=>rfl
 | z::N=>by show 1+aK (N.map AD.int)=_;rw[zE N,BN];omega
theorem K4 (N:List Int):AD.depthAll (N.map AD.int)=0:=Nat.le_zero.mp (mH fun d hd=>by
 obtain⟨z,_,rfl⟩:=D9.mp hd;exact A9 0)
theorem V9 {N:List Int}{P:Int->Prop}(h:∀x,x<N.length->P (N.getD x 0)):∀z∈N,P z:=fun z hz=>by
 obtain⟨x,hx,e⟩:=IZ hz;have:=h x hx;rw[AO,AF hx] at this;rw[<- e];exact this
noncomputable def spPaperA:Sp:=fun vs H Q E=>∃n,n<=8/\Eu n vs H Q E
noncomputable def spShowsCA:Sp:=fun vs H Q E=>∃n,n<=8/\spShowsC n vs H Q E
noncomputable def spLShowsA:Sp:=fun vs H Q E=>∃n,n<=8/\spLShows qR n vs H Q E
theorem GK {P:AU}{w:Be}{K:Au}{mg:Str->Option An}{base:Heap}{CX:CXT}{k:Nat}{f:Addr}{fd:BU}{ps:List Str}{sp:Nat->Sp}(h:∀n,n<=8->dj P w K mg base CX k f fd ps (sp n)):dj P w K mg base CX k f fd ps (fun vs H Q E=>∃n,n<=8/\sp n vs H Q E):=
 ⟨fun vs H Q E ⟨n,hn,z⟩=>(h n hn).1 vs H Q E z,fun A outer s H args us vs Q E a b c d ⟨n,hn,z⟩=>(h n hn).2 A outer s H args us vs Q E a b c d z⟩
section
variable {ok:Addr->Prop}{σ:St}{H0:Hp}{te:TE}{ds:List AD}{K:Au}
theorem V5 (n:cJ ok H0)(h:Gv ok te σ H0 (.list ds)):Gv ok (tCB (fun xs H Q=>∃p ys,xs=[V.ref p]/\((SqL K H p ys/\∀l,H l=none->Q (.ref l) (upd H l (.tup ys)))\/(SqT K H p ys/\Q (.ref p) H))) (gU te rZ)) σ H0 (.tuple ds):=fun H s Q q=>
 h H s _ fun v H1 s1 t1=>by
  cases t1 with
  | lst o e z ts=>
   refine⟨_,_,rfl,.inl ⟨SqL.of e,fun l hl=>?_⟩⟩;exact q _ _ (s1.trans (aA hl)) (.tup (n H1 l (s.trans s1) hl) aB z (ts.same (aA hl)))
end
theorem V1 {K:Au}{ok:Addr->Prop}{te:TE}{σ:St}{H:Hp}{R:It->Hp->Prop}{ds:List AD}(h:Gv ok te σ H (.tuple ds))(q:∀p xs H',Same H H'->H' p=some (.tup xs)->aH ok H' xs ds->R (Itt K p) H'):Jg K te σ H R:=by
 refine h H (Same.refl _) _ fun v H' s t=>?_;cases t with
 | tup o e z ts=>
  show itK _ _ _ _;rw[mF,e,Zm];exact q _ _ _ s e ts
end L2
local macro_rules | `(tactic| push_cast) => `(tactic| ((try dsimp only [L2.tV, L2.Kg, L2.PL, L2.wW, L2.tOp, L2.tC, L2.Kh, L2.MK, L2.pX, L2.gU, L2.rZ, L2.tCB, L2.tIf, L2.Xc, L2.tB, L2.Xd, L2.tOr, L2.Eo, L2.Hu, L2.uG, L2.j6, L2.rI0, HK, HL, DA, DB]); try simp only [↓L2.rdy, L2.rdy, ↓reduceIte, reduceCtorEq, Nat.reduceAdd, Nat.reduceSub]))
local macro_rules | `(tactic| push_cast [$ls,*]) => `(tactic| ((try dsimp only [L2.tV, L2.Kg, L2.PL, L2.wW, L2.tOp, L2.tC, L2.Kh, L2.MK, L2.pX, L2.gU, L2.rZ, L2.tCB, L2.tIf, L2.Xc, L2.tB, L2.Xd, L2.tOr, L2.Eo, L2.Hu, L2.uG, L2.j6, L2.rI0, HK, HL, DA, DB]); try simp only [↓L2.rdy, L2.rdy, ↓reduceIte, reduceCtorEq, Nat.reduceAdd, Nat.reduceSub, $ls,*]))
namespace K35
open PySem L2 PyProof.Rows
noncomputable abbrev q0_:List Str:=["_law_tape_here","_law_many"]
noncomputable abbrev q1_:List Str:=["_law_stretches_here","_law_scale","_law_thing"]
noncomputable abbrev q2_:List Str:=["stretches","weights","prices"]
noncomputable abbrev q3_:List Str:=["_law_tape_here","_law_thing","_law_spot"]
noncomputable abbrev q4_:List Str:=["stretches","weights","prices","thing"]
noncomputable abbrev q5_:List Str:=["stretches","left"]
noncomputable abbrev q6_:List Str:=["_law_tape_here","_law_thing"]
noncomputable abbrev q7_:List Str:=["_law_stretches_here","_law_scale","_law_left_here","_law_word"]
noncomputable abbrev q8_:List Str:=["_law_tape_here","_law_ask","_law_due","_law_handed"]
noncomputable abbrev q9_:List Str:=["stretches","charges","some"]
noncomputable abbrev q10_:List Str:=["_law_script","_law_k"]
noncomputable abbrev q11_:List Str:=["_law_stretches_here","_law_left_here"]
noncomputable abbrev q12_:List Str:=["_law_thing","_law_inner"]
noncomputable abbrev q13_:List Str:=["stretches","charges","numbers"]
noncomputable abbrev q14_:List Str:=["_law_tape_here","_law_handed"]
noncomputable abbrev q15_:List Str:=["ways","numbers"]
noncomputable abbrev q16_:List Str:=["weights","prices","left"]
noncomputable abbrev q17_:List Str:=["ways","numbers","plans"]
noncomputable abbrev q18_:List Str:=["_law_number","_law_many"]
noncomputable abbrev q19_:List Str:=["_law_thing"]
noncomputable def top (i:Nat):Stmt:=PySem.Challenge.pw_caseways_k35_papers_of_costs_spoilt.main.body.getD i (.Pass ⟨0,0,0,0⟩)
noncomputable abbrev BLs:List Str:=["abs","all","any","bool","enumerate","int","isinstance","len","list","max","min","range","repr","set","sorted","str","sum","tuple","zip"]
theorem Vx:("abs" : Str)∈BLs:=by decide +kernel
theorem abE:("all" : Str)∈BLs:=by decide +kernel
theorem abC:("any" : Str)∈BLs:=by decide +kernel
theorem vg:("bool" : Str)∈BLs:=by decide +kernel
theorem Gi:("enumerate" : Str)∈BLs:=by decide +kernel
theorem qF:("int" : Str)∈BLs:=by decide +kernel
theorem bL:("isinstance" : Str)∈BLs:=by decide +kernel
theorem ig:("len" : Str)∈BLs:=by decide +kernel
theorem mC:("list" : Str)∈BLs:=by decide +kernel
theorem Lg:("max" : Str)∈BLs:=by decide +kernel
theorem zZ:("min" : Str)∈BLs:=by decide +kernel
theorem fY:("range" : Str)∈BLs:=by decide +kernel
theorem Oe:("repr" : Str)∈BLs:=by decide +kernel
theorem Vw:("set" : Str)∈BLs:=by decide +kernel
theorem Dz:("sorted" : Str)∈BLs:=by decide +kernel
theorem Vv:("str" : Str)∈BLs:=by decide +kernel
theorem wA:("sum" : Str)∈BLs:=by decide +kernel
theorem jt:("tuple" : Str)∈BLs:=by decide +kernel
theorem abB:("zip" : Str)∈BLs:=by decide +kernel
noncomputable abbrev Bq:List Str:=["_law_script","_law_k"]
noncomputable abbrev GI_ (s:Stmt)(x:Str):Prop:=(aj s).names.lookup x=some .globalImplicit
noncomputable abbrev NM_ (N:List Str)(s:Stmt)(i:Nat)(x:Str):Prop:=Nm N (aj s) i x
noncomputable abbrev jq:Stmt:=top 29
theorem P0:bw Bq q10_ (aj jq):=⟨rfl,rfl,rfl,ψ,rfl,ψ,ψ⟩
theorem zM:NM_ Bq jq 0 "_law_script" := .of ψ
theorem zL:NM_ Bq jq 1 "_law_k" := .of ψ
theorem Gz:GI_ jq "len" := by decide +kernel
theorem RZ:Bn "_law_cell_at" := ⟨ψ,ψ⟩
noncomputable abbrev Hr:List Str:=["_law_script","_law_k","_law_cell"]
noncomputable abbrev jY:Stmt:=top 30
theorem Nj:bw Hr q10_ (aj jY):=⟨rfl,rfl,rfl,ψ,rfl,ψ,ψ⟩
theorem Vi:NM_ Hr jY 0 "_law_script" := .of ψ
theorem zH:NM_ Hr jY 1 "_law_k" := .of ψ
theorem uZ:NM_ Hr jY 2 "_law_cell" := .of ψ
theorem Af:GI_ jY "_law_cell_at" := by decide +kernel
theorem Ae:GI_ jY "abs" := by decide +kernel
theorem Lq:GI_ jY "int" := by decide +kernel
theorem ZS:Bn "_law_tape" := ⟨ψ,ψ⟩
noncomputable abbrev wO:List Str:=["_law_tape_here","_law_many","_law_found","_law_prime","_law_once"]
noncomputable abbrev jZ:Stmt:=top 31
theorem uL:bw wO q0_ (aj jZ):=⟨rfl,rfl,rfl,ψ,rfl,ψ,ψ⟩
theorem eN:NM_ wO jZ 0 "_law_tape_here" := .of ψ
theorem qu:NM_ wO jZ 1 "_law_many" := .of ψ
theorem qt:NM_ wO jZ 2 "_law_found" := .of ψ
theorem Ja:NM_ wO jZ 3 "_law_prime" := .of ψ
theorem zJ:NM_ wO jZ 4 "_law_once" := .of ψ
theorem Gp:GI_ jZ "_law_take" := by decide +kernel
theorem cH:Bn "_law_take" := ⟨ψ,ψ⟩
section
variable {P:AU}{w:Be}{K:Au}{mg:Str->Option An}{base:Heap}{f:Addr}{fd:BU}{bs:List Str}
theorem Y0 (hB:∀x:Str,x∈BLs->mg x=none) (F:Fun K "_law_cell_at" "_law_cell_at" jq f fd):dj P w K mg base CX0 1 f fd q10_ (Tj K):=by
 refine F.okq P0 (fun vs H Q E h=>?_) (fun cdv A outer s H vs Q E hr h=>?_)
 ·obtain⟨a,ns,k,rfl,_⟩:=h;rfl
 obtain⟨a,ns,k,rfl,hS,h0,q⟩:=h;refine⟨_,(aN (aY (Dk (bW Dl (ao zL) (bU kJ Gz (hB "len" ig) B0 iu (ak (ao zM) aq rfl) rfl rfl) (bN _)) (aR Oo (ao zM) (ao zL) (fun _ _=>rfl)) au))),?_⟩;push_cast;refine⟨_,.inl hS,?_⟩;split
 ·rename_i c;rw[AG] at c;have hk:k.toNat<ns.length:=ω;have ek:k=((k.toNat:Nat):Int):=ω;have z:atI (ns.map V.int) ((k.toNat:Nat):Int)=some (.int ns[k.toNat]):=dH (by rw[A5,AF hk];rfl);rw[<- ek] at z;unfold acn;exact⟨a,_,k,_,rfl,rfl,hS,z,q _⟩
 exact q _
theorem YW (hB:∀x:Str,x∈BLs->mg x=none) (CZCellAt:Cal P w K mg base "_law_cell_at" 1 q10_ (Tj K)) (F:Fun K "_law_tape" "_law_tape" jY f fd):dj P w K mg base CX0 2 f fd q10_ (Td K):=by
 refine F.okq Nj (fun vs H Q E h=>?_) (fun cdv A outer s H vs Q E hr h=>?_)
 ·obtain⟨a,ns,k,rfl,_⟩:=h;rfl
 obtain⟨a,ns,k,rfl,hS,h0,h1,q⟩:=h;refine⟨_,(aG (bB uZ Nj.nd (bf CZCellAt (hr.mono δ) Af RZ (ak (ao Vi) (ak (ao zH) aq rfl) rfl) rfl rfl) rfl (.inl rfl))
  (aN (aY (bD (ak (aL fK (bU JN Ae (hB "abs" Vx) PyProof.Rows.Boot.«abs» WD (ak (ao uZ) aq rfl) rfl rfl) (lF lU Lq (hB "int" qF) HQ qQ (ak (v8 acI (bU JN Ae (hB "abs" Vx) PyProof.Rows.Boot.«abs» WD (ak (ao uZ) aq rfl) rfl rfl) (aL tU au au) (bN _)) aq rfl) rfl rfl)) (ak (aL jF (aL fK (aL bx (aL bx (aL jF (ao uZ) au) (aL fK (aL fK au (ao zH)) (ao zH))) au) au) au) (ak au aq rfl) rfl) rfl))))),?_⟩
 push_cast;refine⟨a,ns,k,rfl,hS,h0,fun v=>?_⟩;push_cast;refine⟨⟨δ,δ,δ⟩,?_,δ,.inl δ,.inr ω,.inr δ,δ,aX δ,fun p hp=>q p _ hp (aA hp) ⟨_,_,_,aB,?_,?_,?_,IT _,IT _⟩⟩
 ·right;generalize (if v<0 then -v else v)=u;split <;> decide
 ·refine Int.mul_nonneg ?_ ?_
  ·split <;> omega
  generalize (if v<0 then -v else v)=u;split <;> decide
 ·exact EZ _ δ
 exact DZ _ δ
theorem NT {n:Nat}(hB:∀x:Str,x∈BLs->mg x=none) (hn:n<=10) (CZTake:Cal P w K mg base "_law_take" n q0_ (lA n)) (F:Fun K "_law_take" "_law_take" jZ f fd):dj P w K mg base CX0 (n+1) f fd q0_ (lA (n+1)):=by
 refine F.okq uL (fun vs H Q E h=>?_) (fun cdv A outer s H vs Q E hr h=>?_)
 ·obtain⟨p,m,B,rfl,_⟩:=h;rfl
 obtain⟨p,m,B,rfl,⟨a,b,c,hp,ha,hb0,hb1,hc0,hc1⟩,hB0,hm0,hm1,hn1,hn2,q⟩:=h;refine⟨_,(aG (eG (bW zx (aR bT (ao eN) au (fun _ _=>rfl)) au (bN _)) (aG (bB qt uL.nd (aL jF (aR bT (ao eN) au (fun _ _=>rfl)) (ao qu)) rfl (.inl rfl))
  (aG (qj (aL zy (aR bT (ao eN) au (fun _ _=>rfl)) (ao qu)) (Fv (ao eN) au Nh) rfl rfl rfl)
  (aN (aY (ao qt))))) cN)
  (aG (qj (aL bx (aR bT (ao eN) au (fun _ _=>rfl)) au) (Fv (ao eN) au Nh) rfl rfl rfl)
  (aG (bB Ja uL.nd (aR bT (bD (ak au (ak au (ak au (ak au (ak au (ak au (ak au aq rfl) rfl) rfl) rfl) rfl) rfl) rfl)) (aL jF (aR bT (ao eN) au (fun _ _=>rfl)) au) (fun _ _=>rfl)) rfl (.inl rfl))
  (aG (bB zJ uL.nd (aL jF (aL fK (aL bx (aR bT (ao eN) au (fun _ _=>rfl)) (aL fK au (aR bT (ao eN) au (fun _ _=>rfl)))) (aL bx au (aR bT (ao eN) au (fun _ _=>rfl)))) (ao Ja)) rfl (.inl rfl))
  (aG (qj (aL jF (aL bx (aL fK (ao zJ) (aL bx (aL jF (ao zJ) au) au)) (aR bT (ao eN) au (fun _ _=>rfl))) au) (Fv (ao eN) au Nh) rfl rfl rfl)
  (aG (bB qt uL.nd (aL zy (aL jF (aL fK (aR bT (ao eN) au (fun _ _=>rfl)) (aL bx (aL jF (aR bT (ao eN) au (fun _ _=>rfl)) au) au)) au) au) rfl (.inl rfl))
  (aN (aY (Dk (bW Dl (ao qu) (aL tU au au) (bN _)) (aL jF (ao qt) (ao qu)) (aL jF (aL bx (aL fK (ao qt) au) (bf CZTake (hr.mono ω) Gp cH (ak (ao eN) (ak au aq rfl) rfl) rfl rfl)) (ao qu))))))))))),?_⟩
 push_cast [hp];split
 ·refine⟨hm0,⟨hm0,hm1⟩,?_⟩;refine q _ _ (EZ _ ω) (DZ _ hm0) aW.upd ⟨_,_,_,aB,Int.ediv_nonneg ha ω,hb0,hb1,hc0,ω⟩
 refine⟨aX δ,fun p1 hp1=>?_⟩;have np:p≠p1:=fun z=>by rw[<- z,aB] at hp1;cases hp1
 obtain⟨v,hv,v0⟩:=aa6 (c+1);push_cast [hp,aM np,ne_eq,np,not_false_eq_true,hv];have m1:∀x:Int,0<=x%40009/\x%40009<40009:=fun x=>⟨EZ _ δ,DZ _ δ⟩;have m2:∀x:Int,0<=x%1009/\x%1009<1009:=fun x=>⟨EZ _ δ,DZ _ δ⟩;have m3:∀x:Int,0<=x%2147483629/\x%2147483629<2147483629:=fun x=>⟨EZ _ δ,DZ _ δ⟩;refine⟨δ,.inl δ,.inr ω,v0,δ,.inr ?_,δ,δ,.inr ?_,δ,δ,δ,?_⟩
 ·have:=m1 ((b+39373*(c+1))*(48271+(c+1))%v);omega
 ·have:=m2 (((b+39373*(c+1))*(48271+(c+1))%v*((b+39373*(c+1))*(48271+(c+1))%v%40009+7)+(c+1))%2147483629);omega
 have e3:=m3 ((b+39373*(c+1))*(48271+(c+1))%v*((b+39373*(c+1))*(48271+(c+1))%v%40009+7)+(c+1));generalize ((b+39373*(c+1))*(48271+(c+1))%v*((b+39373*(c+1))*(48271+(c+1))%v%40009+7)+(c+1))%2147483629=y at e3 |-;have sx:aW p H (upd (upd (upd H p (HO.lst [V.int a,V.int b,V.int (c+1)])) p1 (HO.lst [V.int 2147483587,V.int 2147483579,V.int 2147483563,V.int 2147483549,V.int 2147483543,V.int 2147483497,V.int 2147483489])) p (HO.lst [V.int a,V.int y,V.int (c+1)])):=
  (aW.upd.trans (aA hp1).x).trans aW.upd
 have tp:aP (upd (upd (upd H p (HO.lst [V.int a,V.int b,V.int (c+1)])) p1 (HO.lst [V.int 2147483587,V.int 2147483579,V.int 2147483563,V.int 2147483549,V.int 2147483543,V.int 2147483497,V.int 2147483489])) p (HO.lst [V.int a,V.int y,V.int (c+1)])) p (B+1):=
  ⟨a,y,c+1,aB,ha,e3.1,e3.2,ω,ω⟩
 generalize upd (upd (upd H p (HO.lst [V.int a,V.int b,V.int (c+1)])) p1 (HO.lst [V.int 2147483587,V.int 2147483579,V.int 2147483563,V.int 2147483549,V.int 2147483543,V.int 2147483497,V.int 2147483489])) p (HO.lst [V.int a,V.int y,V.int (c+1)])=H2 at sx tp |-;split
 ·refine⟨hm0,q _ _ (EZ _ ω) (DZ _ hm0) sx ?_⟩;obtain⟨a',b',c',z1,z2,z3,z4,z5,z6⟩:=tp;exact⟨a',b',c',z1,z2,z3,z4,z5,ω⟩
 rename_i hm;have hm':1000000<=m:=by
  rw[show(10:Int)^BH 6=1000000 from by decide] at hm;omega
 have hn3:=hn2 hm';refine⟨.inr δ,p,99991,B+1,rfl,tp,ω,δ,δ,ω,fun z=>absurd z δ,fun r H3 r0 r1 s3 t3=>?_⟩;push_cast;refine⟨hm0,q _ _ (EZ _ ω) (DZ _ hm0) (sx.trans s3) ?_⟩;obtain⟨a',b',c',z1,z2,z3,z4,z5,z6⟩:=t3;exact⟨a',b',c',z1,z2,z3,z4,z5,ω⟩
theorem PJ:dj P w K mg base CX0 0 f fd q0_ (lA 0):=by
 have no:∀vs H Q E,¬lA 0 vs H Q E:=fun vs H Q E h=>by
  obtain⟨p,m,B,_,_,_,_,_,h1,_⟩:=h;omega
 exact⟨fun vs H Q E h=>absurd h (no vs H Q E),fun A outer s H args us vs Q E _ _ _ _ h=>absurd h (no vs H Q E)⟩
end
noncomputable abbrev oZ:List Str:=["some"]
noncomputable abbrev dW:Stmt:=top 14
theorem BJ:bw oZ ["some"] (aj dW):=⟨rfl,rfl,rfl,ψ,rfl,ψ,ψ⟩
theorem zQ:NM_ oZ dW 0 "some" := .of ψ
theorem ux:GI_ dW "range" := by decide +kernel
theorem sZ:Bn "stretches_in" := ⟨ψ,ψ⟩
noncomputable abbrev MF:List Str:=["left"]
noncomputable abbrev nY:Stmt:=top 15
theorem Xq:bw MF ["left"] (aj nY):=⟨rfl,rfl,rfl,ψ,rfl,ψ,ψ⟩
theorem Vn:NM_ MF nY 0 "left" := .of ψ
theorem Ly:GI_ nY "sum" := by decide +kernel
theorem O6:Bn "set_of" := ⟨ψ,ψ⟩
noncomputable def Xg (n:Nat):Sp:=fun vs H Q _=>∃s:Nat,vs=[.int (s:Int)]/\s<2^n/\∀p H',Same H H'->H p=none->H' p=some (.lst (nv (bH n s)))->Q (.ref p) H'
noncomputable def uH:Sp:=fun vs H Q _=>∃(l:Addr)(left:List Nat),vs=[.ref l]/\H l=some (.lst (nv left))/\left.length<=100/\(∀k∈left,k<=100)/\∀H',Same H H'->Q (.int (aZ left:Nat)) H'
section
variable {P:AU}{w:Be}{K:Au}{mg:Str->Option An}{base:Heap}{f:Addr}{fd:BU}{bs:List Str}
theorem Va (hB:∀x:Str,x∈BLs->mg x=none) (F:Fun K "set_of" "set_of" nY f fd):dj P w K mg base CX0 1 f fd ["left"] uH:=by
 refine F.okq Xq (fun vs H Q E h=>?_) (fun cdv A outer s H vs Q E hr h=>?_)
 ·obtain⟨l,left,rfl,_⟩:=h;rfl
 obtain⟨l,left,rfl,el,ll,lk,q⟩:=h;refine⟨_,(aN (aY (bU (lu rfl) Ly (hB "sum" wA) boot_sum wN (ak (dG (NX:=MF) (kX:=(aj nY).names) ["k"] [none] rfl rfl ⟨rfl,ψ,ψ,ψ,ψ⟩ rfl (cU (ao Vn)) (fun _ _ _ _ _=>(cj 0 (show BM (["k"]:List Str) from by decide +kernel) rfl (C2 rfl))) (fun _ _ _ _ _=>gF) (fun _ _ _ _ _=>(aL j4 au (bG 0)))) aq rfl) rfl rfl))),?_⟩;push_cast;refine eV fun R hR=>?_;push_cast [lN,mF,el,oJ];refine jn (fun k=>((2^k:Nat):Int)) (fun τ=>∃o0,τ=[o0]) hR el ω ⟨_,rfl⟩ ?_ ?_
 ·rintro i k' τ acc Pn hk' ⟨o0,rfl⟩ h1;have hk:=lk k' (AV hk');push_cast;refine⟨⟨ω,ω,δ⟩,?_⟩;rw[EE,BO,show((2:Int)^k')=((2^k':Nat):Int) by rw[EB];rfl];exact h1 _ ⟨_,rfl⟩
 intro d hd;have s1:=aA (o:=HO.lst ((left.map fun k=>((2^k:Nat):Int)).map V.int)) hd;have e1:upd H d (HO.lst ((left.map fun k=>((2^k:Nat):Int)).map V.int)) d=_:=aB;generalize upd H d (HO.lst ((left.map fun k=>((2^k:Nat):Int)).map V.int))=H1 at s1 e1 |-;push_cast [e1];refine⟨_,rfl,?_⟩;rw[zb];exact q _ s1
theorem U6 {n:Nat}(hn:n<=60) (hB:∀x:Str,x∈BLs->mg x=none) (F:Fun K "stretches_in" "stretches_in" dW f fd):dj P w K mg base CX0 1 f fd ["some"] (Xg n):=by
 refine F.okq BJ (fun vs H Q E h=>?_) (fun cdv A outer s H vs Q E hr h=>?_)
 ·obtain⟨s,rfl,_⟩:=h;rfl
 obtain⟨x,rfl,hx,q⟩:=h;refine⟨_,(aN (aY (dG (NX:=oZ) (kX:=(aj dW).names) ["k","some"] [none,some 0] rfl rfl ⟨rfl,ψ,ψ,ψ,ψ⟩ rfl (gB ux (hB "range" fY) (ak (Yc (ao zQ)) aq rfl) rfl) (fun _ _ _ _ _=>(cj 0 (show BM (["k","some"]:List Str) from by decide +kernel) rfl (C2 rfl))) (fun _ _ _ _ _=>(zq (aaU (aL U0 (aL abm (bG 1) (bG 0)) au)))) (fun _ _ _ _ _=>(bG 0))))),?_⟩;push_cast;refine eV fun R hR=>?_;push_cast [pG,S7,Z1];obtain⟨h1,h2⟩:=WM hx;generalize AZ.Int.intBits (x:Int)=m at h1 h2 |-;refine⟨ω,ω,?_⟩;rw[BO];obtain⟨Pc,hPc⟩:∃Pv:Nat->List V->L2.St->Hp->Prop,Pv=fun(i:Nat) acc τ H'=>∃(o0:Option V),H'=H/\acc=nv (bH i x)/\τ=[o0,some (.int (x:Int))]:=⟨_,rfl⟩;refine Bh hR (aX ω) Pc (by rw[hPc];exact⟨_,rfl,rfl,rfl⟩) ?_ ?_ ?_
 ·intro i acc τ H5 pc;rw[hPc] at pc;obtain⟨_,_,rfl,_⟩:=pc;rw[iJ];exact BB (DT _ _) (by rw[GO];exact A9 _)
 ·intro i acc τ H5 hi pc;rw[hPc] at pc;obtain⟨o0,rfl,rfl,rfl⟩:=pc;push_cast;refine⟨ω,?_⟩;rw[zero_add,BO,Xn,hPc];by_cases c:x.testBit i=true
  ·rw[if_pos c,if_pos δ];refine⟨_,rfl,?_,rfl⟩;rw[oX,if_pos c];unfold nv;rw[BC];rfl
  rw[if_neg c,if_neg δ];exact⟨_,rfl,by rw[oX,if_neg c,Cf],rfl⟩
 intro acc τ H5 d pc hd;rw[hPc] at pc;obtain⟨o0,rfl,rfl,rfl⟩:=pc;rw[Ms h1 hx];exact q d _ (aA hd) hd aB
end
noncomputable abbrev dM:List Str:=["stretches","left","some","ways","k","others","ahead"]
noncomputable abbrev bI:Stmt:=top 17
theorem dR:bw dM q5_ (aj bI):=⟨rfl,rfl,rfl,ψ,rfl,ψ,ψ⟩
theorem nj:NM_ dM bI 0 "stretches" := .of ψ
theorem jK:NM_ dM bI 1 "left" := .of ψ
theorem iz:NM_ dM bI 2 "some" := .of ψ
theorem fX:NM_ dM bI 3 "ways" := .of ψ
theorem cu:NM_ dM bI 4 "k" := .of ψ
theorem jJ:NM_ dM bI 5 "others" := .of ψ
theorem jH:NM_ dM bI 6 "ahead" := .of ψ
theorem qI:GI_ bI "set_of" := by decide +kernel
theorem yt:Bn "ways_by_stretch" := ⟨ψ,ψ⟩
noncomputable def ace:Sp:=fun vs H Q _=>∃(s:V)(la:Addr)(ok:Addr->Prop)(ss:Sts)(left:List Nat),vs=[s,.ref la]/\cJ ok H/\aJ ok H s (.list (ss.map stD))/\H la=some (.lst (nv left))/\Lf ss left/\ss.length<=60/\left.length<=60 /\
 ∀(r:Addr)(xs:List V) H',Same H H'->H r=none->H' r=some (.lst xs)->aH (fun a=>ok a/\a≠r) H' xs ((Pb ss left).map (wyD ss left))->Q (.ref r) H'
section
variable {P:AU}{w:Be}{K:Au}{mg:Str->Option An}{base:Heap}{f:Addr}{fd:BU}{bs:List Str}
theorem U4 (hB:∀x:Str,x∈BLs->mg x=none) (CSetOf:Cal P w K mg base "set_of" 1 ["left"] uH) (F:Fun K "ways_by_stretch" "ways_by_stretch" bI f fd):dj P w K mg base CX0 2 f fd q5_ ace:=by
 refine F.okq dR (fun vs H Q E h=>?_) (fun cdv A outer s H vs Q E hr h=>?_)
 ·obtain⟨s,la,ok,ss,left,rfl,_⟩:=h;rfl
 obtain⟨s,la,ok,ss,left,rfl,hnw,ts,el,lf,h60,ll,q⟩:=h;refine⟨_,(aG (bB iz dR.nd (bf CSetOf (hr.mono δ) qI O6 (ak (ao jK) aq rfl) rfl rfl) rfl (.inl rfl))
  (aG (bB fX dR.nd (bD aq) rfl (.inl rfl))
  (aG (iI BQ rfl (cU (ao jK)) (fU cu dR.nd (.inl rfl))
  (aG (bB jJ dR.nd (aL gG (ao iz) (aL j4 au (ao cu))) rfl (.inl rfl))
  (aG (eG (bW (jg hr.dU) (aR bT (aR bT (ao nj) (ao cu) (fun _ _=>rfl)) au (fun _ _=>rfl)) (aR bT (aR bT (ao nj) (ao cu) (fun _ _=>rfl)) au (fun _ _=>rfl)) (bN _)) (aN (fJ (gK (ao fX) (bY (ak (bY (ak dg (ak (ao cu) aq rfl) rfl)) (ak (bD (ak (ao jJ) aq rfl)) aq rfl) rfl)) rfl rfl rfl rfl rfl) rfl)) cN)
  (aN (fJ (gK (ao fX) (bY (ak (bY (ak dg (ak (ao cu) aq rfl) rfl)) (ak (bD (ak (ao jJ) aq rfl)) aq rfl) rfl)) rfl rfl rfl rfl rfl) rfl)))) (fun _=>rfl))
  (aG (iI BQ rfl (cU (cA vU (ao jK) (cZ au) dF)) (fU cu dR.nd (.inl rfl))
  (aG (bB jH dR.nd (aL U0 (ao iz) (aL gG (aL j4 au (ao cu)) au)) rfl (.inl rfl))
  (aN (fJ (gK (ao fX) (bY (ak (bY (ak dg (ak (ao cu) aq rfl) rfl)) (ak (bD (ak (ao jH) (ak (aL gG (ao iz) (ao jH)) aq rfl) rfl)) aq rfl) rfl)) rfl rfl rfl rfl rfl) rfl))) (fun _=>rfl))
  (aN (aY (ao fX))))))),?_⟩
 refine aO fun k hk=>?_;push_cast;refine⟨la,left,rfl,el,ω,fun k hk=>by have:=lf.lt k hk;omega,fun H1 s1=>?_⟩;push_cast;subst hk;refine aO fun k hk=>?_;push_cast;refine⟨aX δ,fun r hr0=>?_⟩;have hrn:H r=none:=s1.none hr0;have s2:=s1.trans (aA (o:=HO.lst []) hr0);have er2:upd H1 r (HO.lst []) r=some (HO.lst []):=aB;generalize upd H1 r (HO.lst [])=H2 at s2 er2 |-;subst hk;obtain⟨ok2,hok2⟩:∃ok2:Addr->Prop,ok2=fun a=>ok a/\a≠r:=⟨_,rfl⟩;have ok2r:∀a,ok2 a->a≠r:=fun a h=>by rw[hok2] at h;exact h.2
 have nwk:∀{H':Hp}{xs:List V},Same H H'->H' r=some (.lst xs)->cJ ok2 H':=fun {H' xs} sH er H3 q s' hq=>by
  rw[hok2];exact⟨hnw H3 q (sH.trans s') hq,(aF (s' _ _ er) hq).symm⟩
 cases ts with
 | lst os es zs tss=>
  rename_i sa sxs;have el2:=s2 _ _ el
  -- one by one
  refine aO fun k hk=>?_;refine jV fun R hR=>?_;push_cast [lN,mF,el2,oJ];obtain⟨Pv,hPv⟩:∃Pv:Nat->L2.St->Hp->Prop,Pv=fun(i:Nat) σ H'=>∃(xs:List V)(o4 o5 o6:Option V),Same H H'/\H' r=some (.lst xs)/\aH ok2 H' xs (((left.take i).flatMap (qm ss)).map (wyD ss left))/\σ=[some (.ref sa),some (.ref la),some (.int ((aZ left:Nat):Int)),some (.ref r),o4,o5,o6]:=⟨_,rfl⟩;refine DQ hR (xs:=nv left) Pv (by rw[hPv];exact⟨[],_,_,_,s2,er2,.nil,rfl⟩) ?_ ?_ ?_
  ·intro i σ H3 _ pv;rw[hPv] at pv;obtain⟨_,_,_,_,s3,_⟩:=pv;exact SqL.of (s3 _ _ el)
  ·intro i x σ H3 hx pv;rw[hPv] at pv;obtain⟨xs,o4,o5,o6,s3,er3,t3,rfl⟩:=pv;obtain⟨k',hk',rfl⟩:∃k':Nat,left[i]?=some k'/\x=.int (k':Int):=by
    unfold nv at hx;rw[A5] at hx;obtain⟨k',h1,h2⟩:=B8.mp hx;exact⟨k',h1,h2.symm⟩
   have mk:=AV hk';obtain⟨p1,x1,y1⟩:=tss.stN (lf.lt _ mk);have es3:=s3 _ _ es;have y3:=s3 _ _ y1;have hil:i<left.length:=(AR.mp hk').1;have hxl:=t3.length;have hwl:=yx ss (left.take i);rw[AG] at hxl;rw[DL] at hwl;refine aO fun k2 hk2=>?_;push_cast;refine⟨⟨ω,by have:=lf.lt _ mk;omega,δ⟩,?_⟩;rw[HB lf.up mk];subst hk2;have fin:∀(xs:List V)(ds:List AD)(H4:Hp),Same H H4->H4 r=some (.lst xs)->aH ok2 H4 xs ds->xs.length<=200->ds++[wyD ss left (.wit k')]=((left.take (i+1)).flatMap (qm ss)).map (wyD ss left) ->
     wX (yR (tV 3) (Hu (gU (Hu (gU (tC (V.str "within")) (gU (tV 4) rZ))) (gU (Eo (gU (tV 5) rZ)) rZ)))) { nx:=Pv (i+1),rt:=Q,bk:=k,ct:=Pv (i+1) } [some (.ref sa),some (.ref la),some (.int ((aZ left:Nat):Int)),some (.ref r),some (.int (k':Int)),some (.int ((aZ (left.filter (·≠k')):Nat):Int)),o6] H4:=by
    intro xs ds H4 s4 er4 t4 hxl4 hds;have n4:=nwk s4 er4;refine uE (ok:=ok2) rfl er4 ω ok2r t4 (d:=wyD ss left (.wit k')) (eU n4 (aD (eU n4 (aD ji (aD (gvV rfl (.int _)) aU)) (by show 2<=1000000;decide)) (aD (dm n4 (aD (gvV rfl (.int _)) aU) (by show 1<=1000000;decide)) aU)) (by show 2<=1000000;decide)) fun v H5 s5 t5=>?_;rw[hds] at t5;show Pv _ _ _;rw[hPv];exact⟨_,_,_,_,eY (s4.trans s5) hrn,aB,t5,rfl⟩
   have hwk:=aaq (ss:=ss) hk';refine aO fun k2 hk2=>?_;refine gb fun kt ke hkt hke=>?_;push_cast [es3,x1,y3];by_cases c:(iH ss k').1=(iH ss k').2.1
   ·rw[if_pos c];subst hkt;have n3:=nwk s3 er3;refine uE (ok:=ok2) rfl er3 ω ok2r t3 (d:=wyD ss left (.one k')) (eU n3 (aD (eU n3 (aD ji (aD (gvV rfl (.int _)) aU)) (by show 2<=1000000;decide)) (aD (dm n3 (aD (gvV rfl (.int _)) aU) (by show 1<=1000000;decide)) aU)) (by show 2<=1000000;decide)) fun v H5 s5 t5=>?_;show k2 _ _;subst hk2;refine fin _ _ _ (eY (s3.trans s5) hrn) aB t5 (by rw[AI,BE];omega) ?_;rw[hwk,BC];unfold qm;rw[if_pos c,D7];rfl
   rw[if_neg c];subst hke;show k2 _ _;subst hk2;refine fin _ _ _ s3 er3 t3 ω ?_;rw[hwk,BC];unfold qm;rw[if_neg c];rfl
  intro σ H3 pv;rw[hPv] at pv;obtain⟨xs,o4,o5,o6,s3,er3,t3,rfl⟩:=pv;rw[iJ,C0] at t3;show k _ _;subst hk;have el3:=s3 _ _ el;have hxl:=t3.length;have hwl:=yx ss left;rw[AG] at hxl
  -- halves
  refine aO fun k hk=>?_;refine jV fun R hR=>?_;push_cast [el3];intro p hp;rw[Wq];have hpr:p≠r:=(aF er3 hp).symm;have s4:=aA (o:=HO.lst (nv (left.drop 1))) hp;have ep4:upd H3 p (HO.lst (nv (left.drop 1))) p=some (HO.lst (nv (left.drop 1))):=aB;have er4:=s4 _ _ er3;have t4:=t3.same s4;have sH4:=s3.trans s4;generalize upd H3 p (HO.lst (nv (left.drop 1)))=H4 at s4 ep4 er4 t4 sH4 |-;obtain⟨Pw,hPw⟩:∃Pv:Nat->L2.St->Hp->Prop,Pv=fun(j:Nat) σ H'=>∃(xs:List V)(o4 o5 o6:Option V),Same H H'/\H' p=some (HO.lst (nv (left.drop 1)))/\H' r=some (.lst xs)/\xs.length<=120+j/\aH ok2 H' xs ((left.flatMap (qm ss)++((left.drop 1).take j).map Wy.low).map (wyD ss left))/\σ=[some (.ref sa),some (.ref la),some (.int ((aZ left:Nat):Int)),some (.ref r),o4,o5,o6]:=⟨_,rfl⟩;refine DQ hR (xs:=nv (left.drop 1)) Pw (by rw[hPw];exact⟨xs,_,_,_,sH4,ep4,er4,ω,by rw[take_zero,map_nil,Cf];exact t4,rfl⟩) ?_ ?_ ?_
  ·intro i σ H5 _ pv;rw[hPw] at pv;obtain⟨_,_,_,_,_,ep,_⟩:=pv;exact SqL.of ep
  ·intro i x σ H5 hx pv;rw[hPw] at pv;obtain⟨xs5,o4',o5',o6',s5,ep5,er5,hl5,t5,rfl⟩:=pv;obtain⟨k',hk',rfl⟩:∃k':Nat,(left.drop 1)[i]?=some k'/\x=.int (k':Int):=by
    unfold nv at hx;rw[A5] at hx;obtain⟨k',h1,h2⟩:=B8.mp hx;exact⟨k',h1,h2.symm⟩
   have mk:=GM (AV hk');have hil:i<(left.drop 1).length:=(AR.mp hk').1;rw[EW] at hil;refine aO fun k2 hk2=>?_;push_cast;refine⟨⟨ω,by have:=lf.lt _ mk;omega,δ⟩,?_⟩;rw[PN lf.up];subst hk2;have n5:=nwk s5 er5;refine uE (ok:=ok2) rfl er5 ω ok2r t5 (d:=wyD ss left (.low k')) (eU n5 (aD (eU n5 (aD ji (aD (gvV rfl (.int _)) aU)) (by show 2<=1000000;decide)) (aD (dm n5 (aD (gvV rfl (.int _)) (aD (wC (gvV rfl (.int _)) (gvV rfl (.int _)) (fun H Q q=>⟨_,_,rfl,rfl,by show Q (V.int (_-_)) H;rw[yZ lf.up];exact q⟩)) aU)) (by show 2<=1000000;decide)) aU)) (by show 2<=1000000;decide)) fun v H6 s6 t6=>?_;show Pw _ _ _;rw[hPw];refine⟨_,_,_,_,eY (s5.trans s6) hrn,(aM hpr).trans (s6 _ _ ep5),aB,by rw[AI,BE];omega,?_,rfl⟩;have e6:left.flatMap (qm ss)++((left.drop 1).take (i+1)).map Wy.low=(left.flatMap (qm ss)++((left.drop 1).take i).map Wy.low)++[Wy.low k']:=by
    rw[take_snoc hk',BC,D7];rfl
   rw[e6,BC];exact t6
  intro σ H5 pv;rw[hPw] at pv;obtain⟨xs5,o4',o5',o6',s5,ep5,er5,hl5,t5,rfl⟩:=pv;rw[iJ,C0] at t5;show k _ _;subst hk;push_cast;exact q r xs5 H5 s5 hrn er5 (t5.keep fun a o h e=>⟨by rw[hok2] at h;exact h,e⟩)
noncomputable abbrev lY:List Str:=["stretches","left"]
noncomputable abbrev dI:Stmt:=top 5
theorem xQ:bw lY q5_ (aj dI):=⟨rfl,rfl,rfl,ψ,rfl,ψ,ψ⟩
theorem nu:NM_ lY dI 0 "stretches" := .of ψ
theorem nq:NM_ lY dI 1 "left" := .of ψ
theorem yu:Bn "numbers_across" := ⟨ψ,ψ⟩
noncomputable abbrev Ej:List Str:=["thing"]
noncomputable abbrev gA:Stmt:=top 1
theorem Kp:bw Ej ["thing"] (aj gA):=⟨rfl,rfl,rfl,ψ,rfl,ψ,ψ⟩
theorem wZ:NM_ Ej gA 0 "thing" := .of ψ
theorem Bc:GI_ gA "bool" := by decide +kernel
theorem CJ:GI_ gA "int" := by decide +kernel
theorem jU:GI_ gA "isinstance" := by decide +kernel
theorem Mr:Bn "is_number" := ⟨ψ,ψ⟩
theorem G8:Bn "MOST_IN_MASK" := ⟨ψ,ψ⟩
theorem CP:Bn "MOST_IN_TABLE" := ⟨ψ,ψ⟩
theorem Z0:Bn "TESTS" := ⟨ψ,ψ⟩
theorem Qu (hB:∀x:Str,x∈BLs->mg x=none) (F:Fun K "numbers_across" "numbers_across" dI f fd):dj P w K mg base CX0 1 f fd q5_ Hz:=by
 refine F.okq xQ (fun vs H Q E h=>?_) (fun cdv A outer s H vs Q E hr h=>?_)
 ·obtain⟨s,l,ok,ss,left,rfl,_⟩:=h;rfl
 obtain⟨s,l,ok,ss,left,rfl,ts,tl,lf,q⟩:=h;refine⟨_,(aN (aY (aL bx (aL gG (aR bT (aR bT (ao nu) (aR bT (ao nq) (zp pW au) (fun _ _=>rfl)) (fun _ _=>rfl)) au (fun _ _=>rfl)) (aR bT (aR bT (ao nu) (aR bT (ao nq) au (fun _ _=>rfl)) (fun _ _=>rfl)) au (fun _ _=>rfl))) au))),?_⟩;obtain⟨la,rfl,_,el,_⟩:=tl.left;replace el:H la=some (.lst (nv left)):=el;cases ts with
 | lst o es zs tss=>
  obtain⟨k1,e1,m1,a1⟩:=N6 lf.ne;obtain⟨k0,e0,m0,a0⟩:=N7 lf.ne;obtain⟨p1,x1,y1⟩:=tss.stN (lf.lt _ m1);obtain⟨p0,x0,y0⟩:=tss.stN (lf.lt _ m0);unfold dY at q;rw[e1,e0] at q;push_cast [el,a1,a0,es,x1,x0,y1,y0];exact q
theorem Ve (hB:∀x:Str,x∈BLs->mg x=none) (F:Fun K "is_number" "is_number" gA f fd):dj P w K mg base CX0 1 f fd ["thing"] Tg:=by
 refine F.okq Kp (fun vs H Q E h=>?_) (fun cdv A outer s H vs Q E hr h=>?_)
 ·obtain⟨v,ok,d,rfl,_⟩:=h;rfl
 obtain⟨v,ok,d,rfl,t,q⟩:=h;refine⟨_,(aN (aY (KH (bU eE jU (hB "isinstance" bL) B1 bM (ak (ao wZ) (ak (jT "int" CJ (hB "int" qF) HQ qQ) aq rfl) rfl) rfl rfl) (KD (Um (bU eE jU (hB "isinstance" bL) B1 bM (ak (ao wZ) (ak (jT "bool" Bc (hB "bool" vg) boot_bool vK) aq rfl) rfl) rfl rfl)))))),?_⟩;cases t with
 | non=>push_cast;exact q
 | bl b=>push_cast;exact q
 | int i=>push_cast;exact q
 | str x=>push_cast;exact q
 | lst o e z t=>push_cast [e];exact q
 | tup o e z t=>push_cast [e];exact q
noncomputable abbrev qW:List Str:=["stretches","left"]
noncomputable abbrev gj:Stmt:=top 6
theorem Fb:bw qW q5_ (aj gj):=⟨rfl,rfl,rfl,ψ,rfl,ψ,ψ⟩
theorem Ck:NM_ qW gj 1 "left" := .of ψ
theorem G9:Bn "labels_left" := ⟨ψ,ψ⟩
theorem YZ (hB:∀x:Str,x∈BLs->mg x=none) (F:Fun K "labels_left" "labels_left" gj f fd):dj P w K mg base CX0 1 f fd q5_ Ti:=by
 refine F.okq Fb (fun vs H Q E h=>?_) (fun cdv A outer s H vs Q E hr h=>?_)
 ·obtain⟨s,l,ok,ss,left,rfl,_⟩:=h;rfl
 obtain⟨s,l,ok,ss,left,rfl,ts,tl,lf,q⟩:=h;refine⟨_,(aN (aY (dG (NX:=qW) (kX:=(aj gj).names) ["k","stretches"] [none,some 0] rfl rfl ⟨rfl,ψ,ψ,ψ,ψ⟩ rfl (cU (ao Ck)) (fun _ _ _ _ _=>(cj 0 (show BM (["k","stretches"]:List Str) from by decide +kernel) rfl (C2 rfl))) (fun _ _ _ _ _=>gF) (fun _ _ _ _ _=>(aR bT (aR bT (bG 1) (bG 0) (fun _ _=>rfl)) au (fun _ _=>rfl)))))),?_⟩;obtain⟨la,rfl,_,el,hll⟩:=tl.left;replace el:H la=some (.lst (nv left)):=el;cases ts with
 | lst o es zs tss=>
  push_cast;refine eV fun R hR=>?_;push_cast [el];refine jn (lbl ss) (fun τ=>∃o0,τ=[o0,some (.ref _)]) hR el hll ⟨_,rfl⟩ ?_ ?_
  ·rintro i k τ acc Pn hk ⟨o0,rfl⟩ hN;obtain⟨p1,x1,y1⟩:=tss.stN (lf.lt _ (AV hk));push_cast [es,x1,y1];exact hN _ ⟨_,rfl⟩
  intro d hd;exact q d hd
end
noncomputable abbrev fD:List Str:=["stretches","left","across","labels","ways","label"]
noncomputable abbrev bh:Stmt:=top 16
theorem iT:bw fD q5_ (aj bh):=⟨rfl,rfl,rfl,ψ,rfl,ψ,ψ⟩
theorem qz:NM_ fD bh 0 "stretches" := .of ψ
theorem lK:NM_ fD bh 1 "left" := .of ψ
theorem lJ:NM_ fD bh 2 "across" := .of ψ
theorem g8:NM_ fD bh 3 "labels" := .of ψ
theorem gZ:NM_ fD bh 4 "ways" := .of ψ
theorem qy:NM_ fD bh 5 "label" := .of ψ
theorem nG:GI_ bh "MOST_IN_MASK" := by decide +kernel
theorem mW:GI_ bh "MOST_IN_TABLE" := by decide +kernel
theorem nH:GI_ bh "labels_left" := by decide +kernel
theorem nF:GI_ bh "len" := by decide +kernel
theorem lQ:GI_ bh "numbers_across" := by decide +kernel
theorem wG:GI_ bh "set" := by decide +kernel
theorem uw:GI_ bh "set_of" := by decide +kernel
theorem sE:GI_ bh "sorted" := by decide +kernel
theorem CN:Bn "ways_by_label" := ⟨ψ,ψ⟩
noncomputable def acf:Sp:=fun vs H Q _=>∃(s:V)(la:Addr)(ok:Addr->Prop)(ss:Sts)(left:List Nat),vs=[s,.ref la]/\cJ ok H/\aJ ok H s (.list (ss.map stD))/\ok la/\H la=some (.lst (nv left))/\Lf ss left/\ss.length<=60/\left.length<=60 /\
 ∀(r:Addr)(xs:List V)(L:List Int) H',Same H H'->H r=none->H' r=some (.lst xs)->qX ss left L->aH (fun a=>ok a/\a≠r) H' xs ((J9 ss left L).map (wyD ss left))->xs.length<=70->Q (.ref r) H'
section
variable {P:AU}{w:Be}{K:Au}{mg:Str->Option An}{base:Heap}{f:Addr}{fd:BU}{bs:List Str}{ckMostInMask ckMostInTable:Tok}
theorem U5 (hB:∀x:Str,x∈BLs->mg x=none) (cgMostInMask:mg "MOST_IN_MASK" = some (.int 64 ckMostInMask)) (cgMostInTable:mg "MOST_IN_TABLE" = some (.int 200 ckMostInTable)) (CNumbersAcross:Cal P w K mg base "numbers_across" 1 q5_ Hz) (CLabelsLeft:Cal P w K mg base "labels_left" 1 q5_ Ti) (CSetOf:Cal P w K mg base "set_of" 1 ["left"] uH) (F:Fun K "ways_by_label" "ways_by_label" bh f fd):dj P w K mg base CX0 2 f fd q5_ acf:=by
 refine F.okq iT (fun vs H Q E h=>?_) (fun cdv A outer s H vs Q E hr h=>?_)
 ·obtain⟨s,la,ok,ss,left,rfl,_⟩:=h;rfl
 obtain⟨s,la,ok,ss,left,rfl,hnw,ts,okl,el,lf,h60,ll,q⟩:=h;refine⟨_,(aG (bB lJ iT.nd (bf CNumbersAcross (hr.mono δ) lQ yu (ak (ao qz) (ak (ao lK) aq rfl) rfl) rfl rfl) rfl (.inl rfl))
  (aG (bB g8 iT.nd (Nt rfl sE (hB "sorted" Dz) wG (hB "set" Vw) (ak (bf CLabelsLeft (hr.mono δ) nH G9 (ak (ao qz) (ak (ao lK) aq rfl) rfl) rfl rfl) aq rfl)) rfl (.inl rfl))
  (aG (bB gZ iT.nd (bD aq) rfl (.inl rfl))
  (aG (eG (bW (jg hr.dU) (bU cO nF (hB "len" ig) B0 iu (ak (ao g8) aq rfl) rfl rfl) au (bN _)) (aN (fJ (gK (ao gZ) (bY (ak (bY (ak dg (ak (aR bT (ao g8) au (fun _ _=>rfl)) aq rfl) rfl)) (ak (bD aq) aq rfl) rfl)) rfl rfl rfl rfl rfl) rfl)) cN)
  (aG (eG (bW NP (ao lJ) (Fw (v:=V.int 200) mW cgMostInTable ⟨_,rfl⟩ CP) (bN _)) (aN (fJ (gK (ao gZ) (bY (ak (bY (ak dg aq rfl)) (ak (bD aq) aq rfl) rfl)) rfl rfl rfl rfl rfl) rfl)) cN)
  (aG (eG (KC (Ft (bW NP (ao lJ) (Fw (v:=V.int 64) nG cgMostInMask ⟨_,rfl⟩ G8) (bN _)) (yC (bW zx (bU cO nF (hB "len" ig) B0 iu (ak (ao g8) aq rfl) rfl rfl) au (bN _))))) (aN (iI BQ rfl (cU (ao g8)) (fU qy iT.nd (.inl rfl))
  (aN (fJ (gK (ao gZ) (bY (ak (bY (ak dg (ak (ao qy) aq rfl) rfl)) (ak (bD (ak (bf CSetOf (hr.mono δ) uw O6 (ak (dG (NX:=fD) (kX:=(aj bh).names) ["k","label","stretches"] [none,some 5,some 0] rfl rfl ⟨rfl,ψ,ψ,ψ,ψ⟩ rfl (cU (ao lK)) (fun _ _ _ _ _=>(cj 0 (show BM (["k","label","stretches"]:List Str) from by decide +kernel) rfl (C2 rfl))) (fun _ _ _ _ _=>(zq (bW (v9 hr.dU) (aR bT (aR bT (bG 2) (bG 0) (fun _ _=>rfl)) au (fun _ _=>rfl)) (bG 1) (bN _)))) (fun _ _ _ _ _=>(bG 0))) aq rfl) rfl rfl) aq rfl)) aq rfl) rfl)) rfl rfl rfl rfl rfl) rfl)) (fun _=>rfl))) cN)
  (aN (aY (ao gZ))))))))),?_⟩
 have tl:aJ ok H (.ref la) (xg left):=Ab okl el ω;refine aO fun k hk=>?_;push_cast;refine⟨s,_,ok,ss,left,rfl,ts,tl,lf,?_⟩;push_cast;subst hk;refine aO fun k hk=>?_;push_cast [tSS];refine⟨s,_,ok,ss,left,rfl,ts,tl,lf,fun a ha=>?_⟩;have s1:=aA (o:=HO.lst ((left.map (lbl ss)).map V.int)) ha;have e1:upd H a (HO.lst ((left.map (lbl ss)).map V.int)) a=some (HO.lst ((left.map (lbl ss)).map V.int)):=aB;generalize upd H a (HO.lst ((left.map (lbl ss)).map V.int))=H1 at s1 e1 |-;refine⟨a,rfl,left.map (lbl ss),SqL.of e1,by rw[AG];omega,fun p L hp perm _=>?_⟩;have hLl:L.length<=60:=by
  have h1:=perm.length_eq;have h2:=SRT.yJ (left.map (lbl ss));rw[AG] at h2;omega
 have hL:qX ss left L:=⟨perm.nodup_iff.mpr (SRT.wK _),fun l=>by
  rw[perm.mem_iff,SRT.Ox,D9]⟩
 have s2:=s1.trans (aA (o:=HO.lst (L.map V.int)) hp);have ep2:upd H1 p (HO.lst (L.map V.int)) p=some (HO.lst (L.map V.int)):=aB;generalize upd H1 p (HO.lst (L.map V.int))=H2 at s2 ep2 |-;show k _ _;subst hk;refine aO fun k hk=>?_;push_cast;refine⟨aX δ,fun r hr0=>?_⟩;have hrn:H r=none:=s2.none hr0;have hpr:p≠r:=aF ep2 hr0;have s3:=s2.trans (aA (o:=HO.lst []) hr0);have ep3:=aA (o:=HO.lst []) hr0 _ _ ep2;have er3:upd H2 r (HO.lst []) r=some (HO.lst []):=aB;generalize upd H2 r (HO.lst [])=H3 at s3 ep3 er3 |-;subst hk;obtain⟨ok2,hok2⟩:∃ok2:Addr->Prop,ok2=fun a=>ok a/\a≠r:=⟨_,rfl⟩;have ok2r:∀a,ok2 a->a≠r:=fun a h=>by rw[hok2] at h;exact h.2
 have nwk:∀{H':Hp}{xs:List V},Same H H'->H' r=some (.lst xs)->cJ ok2 H':=fun {H' xs} sH er H3 q s' hq=>by
  rw[hok2];exact⟨hnw H3 q (sH.trans s') hq,(aF (s' _ _ er) hq).symm⟩
 obtain⟨So,hSo⟩:∃So:List Wy->Hp->Prop,So=fun W H'=>∃xs,Same H H'/\H' p=some (.lst (L.map V.int))/\H' r=some (.lst xs)/\aH ok2 H' xs (W.map (wyD ss left)):=⟨_,rfl⟩;have put:∀(W:List Wy)(wy:Wy)(v:V)(xs:List V)(H4 H5:Hp),Same H H4->H4 p=some (.lst (L.map V.int))->Same H4 H5->aH ok2 (upd H5 r (.lst (xs++[v]))) (xs++[v]) (W.map (wyD ss left)++[wyD ss left wy])->So (W++[wy]) (upd H5 r (.lst (xs++[v]))):=fun W wy v xs H4 H5 s4 ep s5 t=>by
  rw[hSo];exact⟨_,eY (s4.trans s5) hrn,(aM hpr).trans (s5 _ _ ep),aB,by rw[BC];exact t⟩
 have so3:So [] H3:=by rw[hSo];exact⟨[],s3,ep3,er3,.nil⟩
 clear er3 hr0
 -- a pick
 refine aO fun k hk=>?_;have pk:∀H4,So (wyP L) H4->k [some s,some (.ref la),some (.int (dY ss left)),some (.ref p),some (.ref r),none] H4:=by
  intro H4 so4;subst hk
  -- a table
  refine aO fun k hk=>?_;have tb:∀H5,So (wyP L++wyT ss left) H5->k [some s,some (.ref la),some (.int (dY ss left)),some (.ref p),some (.ref r),none] H5:=by
   intro H5 so5;subst hk
   -- masks
   refine aO fun k hk=>?_;have fin:∀H6 (o:Option V),So (J9 ss left L) H6->k [some s,some (.ref la),some (.int (dY ss left)),some (.ref p),some (.ref r),o] H6:=by
    intro H6 o so6;subst hk;push_cast;rw[hSo] at so6;obtain⟨xs,s6,ep6,er6,t6⟩:=so6;have hx6:=t6.length;have hw6:=R9 ss left L;rw[AG] at hx6;exact q r xs L H6 s6 hrn er6 hL (t6.keep fun a o h e=>⟨by rw[hok2] at h;exact h,e⟩) ω
   refine gb fun kt ke hkt hke=>?_;rw[hSo] at so5;obtain⟨xs5,s5,ep5,er5,t5⟩:=so5;push_cast [ep5];rw[AG];unfold J9 wyM at fin;by_cases c1:dY ss left<=64
   ·rw[if_pos c1];by_cases c2:1<L.length
    ·rw[if_pos ω];rw[if_pos ⟨c1,c2⟩] at fin;subst hkt;refine jV fun R hR=>?_;push_cast [lN,mF,ep5,oJ];obtain⟨Pm,hPm⟩:∃Pv:Nat->L2.St->Hp->Prop,Pv=fun(i:Nat) σ H'=>∃o:Option V,So (wyP L++wyT ss left++(L.take i).map Wy.msk) H'/\σ=[some s,some (.ref la),some (.int (dY ss left)),some (.ref p),some (.ref r),o]:=⟨_,rfl⟩;refine DQ hR (xs:=L.map V.int) Pm (by rw[hPm,hSo];exact⟨_,⟨xs5,s5,ep5,er5,by rw[take_zero,map_nil,Cf];exact t5⟩,rfl⟩) ?_ ?_ ?_
     ·intro i σ H6 _ pm;rw[hPm,hSo] at pm;obtain⟨_,⟨_,_,ep6,_⟩,_⟩:=pm;exact SqL.of ep6
     ·intro i x σ H6 hx pm;rw[hPm,hSo] at pm;obtain⟨o,⟨xs6,s6,ep6,er6,t6⟩,rfl⟩:=pm;rw[A5] at hx;obtain⟨l,hl,rfl⟩:=B8.mp hx;have hil:i<L.length:=(AR.mp hl).1;have n6:=nwk s6 er6;have hxl:=t6.length;have hwp:(wyP L).length<=1:=by unfold wyP;split <;> simp
      have hwt:(wyT ss left).length<=1:=by unfold wyT;split <;> simp
      rw[AG,AI,AI,AG,DL] at hxl;show wX _ _ _ _;simp only[DB,DA];refine uE (ok:=ok2) rfl er6 ω ok2r t6 (d:=wyD ss left (.msk l)) (eU n6 (aD (eU n6 (aD ji (aD (gvV rfl (.int _)) aU)) (by show 2<=1000000;decide)) (aD (dm n6 (aD ?_ aU) (by show 1<=1000000;decide)) aU)) (by show 2<=1000000;decide)) fun v H7 s7 t7=>?_
      ·intro H7 s7 Q7 q7;cases ts with
       | lst os es zs tss=>
        rename_i sa sxs;have sH7:=s6.trans s7;have el7:=sH7 _ _ el;have es7:=sH7 _ _ es;push_cast;refine eV fun R2 hR2=>?_;push_cast [el7];refine wL (fun k=>(iH ss k).2.2≠l) (fun τ=>∃o0,τ=[o0,some (.int l),some (.ref sa)]) hR2 el7 ω ⟨_,rfl⟩ ?_ ?_
        ·rintro i k' τ acc Pn hk' ⟨o0,rfl⟩ h1 h2;obtain⟨p1,x1,y1⟩:=(tss.same sH7).stN (lf.lt _ (AV hk'));push_cast [es7,x1,y1];by_cases c:(iH ss k').2.2=l
         ·rw[decide_eq_true c,if_neg δ];exact h2 (by simpa using c) _ ⟨_,rfl⟩
         rw[decide_eq_false c,if_pos (show(!false)=true from rfl)];exact h1 (by simpa using c) _ ⟨_,rfl⟩
        intro d hd;refine⟨d,_,rfl,aB,BB (DT ..) ω,fun k hk=>by have:=lf.lt k (Ev.mp hk).1;omega,fun H8 s8=>q7 _ H8 ((aA hd).trans s8) (.int _)⟩
      show Pm _ _ _;rw[hPm];refine⟨_,?_,rfl⟩;rw[show(L.take (i+1)).map Wy.msk=(L.take i).map Wy.msk++[Wy.msk l] by rw[take_snoc hl,BC];rfl,<- D7];exact put _ _ v xs6 H6 H7 s6 ep6 s7 t7
     intro σ H6 pm;rw[hPm] at pm;obtain⟨o,so6,rfl⟩:=pm;rw[AG,C0] at so6;exact fin _ _ so6
    rw[if_neg ω];rw[if_neg (fun z=>c2 z.2),Cf] at fin;subst hke;exact fin _ _ (by rw[hSo];exact⟨xs5,s5,ep5,er5,t5⟩)
   rw[if_neg c1];rw[if_neg (fun z=>c1 z.1),Cf] at fin;subst hke;exact fin _ _ (by rw[hSo];exact⟨xs5,s5,ep5,er5,t5⟩)
  refine gb fun kt ke hkt hke=>?_;push_cast;unfold wyT at tb;by_cases c:dY ss left<=200
  ·rw[if_pos c];rw[if_pos c] at tb;subst hkt;rw[hSo] at so4;obtain⟨xs,s4,ep4,er4,t4⟩:=so4;have n4:=nwk s4 er4;have hxl:=t4.length;have hwp:(wyP L).length<=1:=by unfold wyP;split <;> simp
   rw[AG] at hxl;exact uE (ok:=ok2) rfl er4 ω ok2r t4 (d:=wyD ss left .tab) (eU n4 (aD (eU n4 (aD ji aU) (by show 1<=1000000;decide)) (aD (dm n4 aU (by show 0<=1000000;decide)) aU)) (by show 2<=1000000;decide)) fun v H5 s5 t5=>tb _ (put _ _ v xs H4 H5 s4 ep4 s5 t5)
  rw[if_neg c];rw[if_neg c,Cf] at tb;subst hke;exact tb _ so4
 refine gb fun kt ke hkt hke=>?_;push_cast [ep3];unfold wyP at pk;rw[AG];by_cases c:L.length=1
 ·rw[if_pos ω];rw[if_pos c] at pk;subst hkt;rw[hSo] at so3;obtain⟨xs,s3,ep3,er3,t3⟩:=so3;have n3:=nwk s3 er3;have hxl:=t3.length;rw[AG,length_nil] at hxl;exact uE (ok:=ok2) rfl er3 ω ok2r t3 (d:=wyD ss left (.pick (L.getD 0 0))) (eU n3 (aD (eU n3 (aD ji (aD (abT rfl ep3 ω) aU)) (by show 2<=1000000;decide)) (aD (dm n3 aU (by show 0<=1000000;decide)) aU)) (by show 2<=1000000;decide)) fun v H5 s5 t5=>pk _ (put [] _ v xs H3 H5 s3 ep3 s5 t5)
 rw[if_neg ω];rw[if_neg c] at pk;subst hke;exact pk _ so3
end
noncomputable abbrev lX:List Str:=["stretches","some","left","ways"]
noncomputable abbrev cY:Stmt:=top 18
theorem qb:bw lX ["stretches","some"] (aj cY):=⟨rfl,rfl,rfl,ψ,rfl,ψ,ψ⟩
theorem u9:NM_ lX cY 0 "stretches" := .of ψ
theorem FQ:NM_ lX cY 1 "some" := .of ψ
theorem kh:NM_ lX cY 2 "left" := .of ψ
theorem oF:NM_ lX cY 3 "ways" := .of ψ
theorem Av:GI_ cY "len" := by decide +kernel
theorem oN:GI_ cY "stretches_in" := by decide +kernel
theorem oM:GI_ cY "ways_by_label" := by decide +kernel
theorem mV:GI_ cY "ways_by_stretch" := by decide +kernel
theorem JT:Bn "ways_of_set" := ⟨ψ,ψ⟩
noncomputable def aaf (n:Nat):Sp:=fun vs H Q _=>∃(s:V)(x:Nat)(ok:Addr->Prop)(ss:Sts),vs=[s,.int (x:Int)]/\cJ ok H/\aJ ok H s (.list (ss.map stD))/\ss.length=n/\0<x/\x<2^n /\
 ∀(r:Addr)(xs:List V)(L:List Int) H',Same H H'->H r=none->H' r=some (.lst xs)->qX ss (bH n x) L->aH ok H' xs ((Ph ss (bH n x) L).map (wyD ss (bH n x)))->xs.length<=1000->Q (.ref r) H'
section
variable {P:AU}{w:Be}{K:Au}{mg:Str->Option An}{base:Heap}{f:Addr}{fd:BU}{bs:List Str}
theorem abu {n:Nat}(hn:n<=60) (hB:∀x:Str,x∈BLs->mg x=none) (CStretchesIn:Cal P w K mg base "stretches_in" 1 ["some"] (Xg n)) (CWaysByLabel:Cal P w K mg base "ways_by_label" 2 q5_ acf) (CWaysByStretch:Cal P w K mg base "ways_by_stretch" 2 q5_ ace) (F:Fun K "ways_of_set" "ways_of_set" cY f fd):dj P w K mg base CX0 3 f fd ["stretches","some"] (aaf n):=by
 refine F.okq qb (fun vs H Q E h=>?_) (fun cdv A outer s H vs Q E hr h=>?_)
 ·obtain⟨s,x,ok,ss,rfl,_⟩:=h;rfl
 obtain⟨s,x,ok,ss,rfl,hnw,ts,hsn,h0,hx,q⟩:=h;refine⟨_,(aG (bB kh qb.nd (bf CStretchesIn (hr.mono δ) oN sZ (ak (ao FQ) aq rfl) rfl rfl) rfl (.inl rfl))
  (aG (bB oF qb.nd (bf CWaysByLabel (hr.mono δ) oM CN (ak (ao u9) (ak (ao kh) aq rfl) rfl) rfl rfl) rfl (.inl rfl))
  (aG (eG (bW zx (bU cO Av (hB "len" ig) B0 iu (ak (ao kh) aq rfl) rfl rfl) au (bN _)) (aN (fJ (Ny (ao oF) (bf CWaysByStretch (hr.mono δ) mV yt (ak (ao u9) (ak (ao kh) aq rfl) rfl) rfl rfl) rfl rfl rfl rfl rfl) rfl)) cN)
  (aN (aY (ao oF)))))),?_⟩
 have lf:=mK hsn h0 hx;have hc:=lV n x;refine aO fun k hk=>?_;push_cast;refine⟨x,rfl,hx,fun la H1 s1 hla el1=>?_⟩;push_cast;subst hk;have okl:ok la:=hnw.new hla;generalize bH n x=left at *;refine aO fun k hk=>?_;push_cast;refine⟨s,la,ok,ss,left,rfl,hnw.same s1,ts.same s1,okl,el1,lf,ω,ω,fun r xs L H2 s2 hr2 er2 hL t2 hxl=>?_⟩;push_cast;subst hk;have el2:=s2 _ _ el1;have hrn:H r=none:=s1.none hr2;refine aO fun k hk=>?_;refine gb fun kt ke hkt hke=>?_;push_cast [el2];rw[iJ];have fin:∀(ys:List V) H5,Same H H5->H5 r=some (.lst ys)->aH ok H5 ys ((Ph ss left L).map (wyD ss left))->ys.length<=1000->k [some s,some (.int (x:Int)),some (.ref la),some (.ref r)] H5:=fun ys H5 s5 er5 t5 hl5=>by
  subst hk;push_cast;exact q r ys L H5 s5 hrn er5 hL t5 hl5
 unfold Ph at fin;by_cases c:1<left.length
 ·rw[if_pos ω];rw[if_pos c] at fin;subst hkt;push_cast [yQ,GQ,er2,yH];refine⟨s,la,fun a=>ok a/\a≠r,ss,left,rfl,fun H4 q4 s4 hq=>⟨hnw H4 q4 ((s1.trans s2).trans s4) hq,(aF (s4 _ _ er2) hq).symm⟩,((ts.keep fun a o h e=>⟨⟨h,aF e hrn⟩,e⟩).same s1).same s2,el2,lf,ω,ω,fun r3 ys H3 s3 hr3 er3 t3=>?_⟩;have er23:=s3 _ _ er2;show Rq r (.ref r3) H3 _;rw[Bf,er23,er3,Ma];have hyl:=t3.length;have hws:=R8 ss left;rw[AG] at hyl;refine⟨yW ω,?_⟩;have rr:r3≠r:=(aF er2 hr3).symm;have sH3:=(s1.trans s2).trans s3;exact fin (xs++ys) _ (eY sH3 hrn) aB (by
   rw[BC];exact((t2.same s3).keep fun a o h e=>⟨h.1,by rw[aM h.2];exact e⟩).append (t3.keep fun a o h e=>⟨h.1.1,by rw[aM h.1.2];exact e⟩)) (by rw[AI];omega)
 rw[if_neg ω];rw[if_neg c,Cf] at fin;subst hke;exact fin xs H2 (s1.trans s2) er2 (t2.keep fun a o h e=>⟨h.1,e⟩) ω
noncomputable abbrev jL:List Str:=["weights","prices","left","together","costs"]
noncomputable abbrev cL:Stmt:=top 9
theorem qd:bw jL q16_ (aj cL):=⟨rfl,rfl,rfl,ψ,rfl,ψ,ψ⟩
theorem FZ:NM_ jL cL 1 "prices" := .of ψ
theorem FW:NM_ jL cL 2 "left" := .of ψ
theorem FT:NM_ jL cL 3 "together" := .of ψ
theorem oG:NM_ jL cL 4 "costs" := .of ψ
theorem wH:GI_ cL "TESTS" := by decide +kernel
theorem Ax:GI_ cL "sum" := by decide +kernel
theorem Aw:GI_ cL "zip" := by decide +kernel
theorem JV:Bn "step_costs" := ⟨ψ,ψ⟩
noncomputable abbrev pq:List Str:=["stretches","weights","prices"]
noncomputable abbrev dz:Stmt:=top 19
theorem BK:bw pq q2_ (aj dz):=⟨rfl,rfl,rfl,ψ,rfl,ψ,ψ⟩
theorem zW:NM_ pq dz 0 "stretches" := .of ψ
theorem wI:GI_ dz "len" := by decide +kernel
theorem uy:GI_ dz "range" := by decide +kernel
theorem tD:Bn "cost_charges" := ⟨ψ,ψ⟩
noncomputable abbrev kW:List Str:=["stretches","charges","some"]
noncomputable abbrev dB:Stmt:=top 20
theorem BL:bw kW q9_ (aj dB):=⟨rfl,rfl,rfl,ψ,rfl,ψ,ψ⟩
theorem zY:NM_ kW dB 0 "stretches" := .of ψ
theorem zX:NM_ kW dB 2 "some" := .of ψ
theorem oU:GI_ dB "ways_of_set" := by decide +kernel
theorem tE:Bn "charged_ways" := ⟨ψ,ψ⟩
theorem U7 (hB:∀x:Str,x∈BLs->mg x=none) {aTests:Addr}(cgTests:mg "TESTS" = some (.ref aTests)) (ktTests:KTup K aTests ([("is" : Str),("within" : Str),("below" : Str),("mask" : Str),("table" : Str)].map V.str)) (F:Fun K "step_costs" "step_costs" cL f fd):dj P w K mg base CX0 1 f fd q16_ M6:=by
 refine F.okq qd (fun vs H Q E h=>?_) (fun cdv A outer s H vs Q E hr h=>?_)
 ·obtain⟨l,wa,z,ok,ws,zs,left,rfl,_⟩:=h;rfl
 obtain⟨l,wa,z,ok,ws,zs,left,rfl,tl,hlt,hw,hz,h5,few,q⟩:=h;refine⟨_,(aG (bB FT qd.nd (bU (lu rfl) Ax (hB "sum" wA) boot_sum wN (ak (dG (NX:=jL) (kX:=(aj cL).names) ["k","weights"] [none,some 0] rfl rfl ⟨rfl,ψ,ψ,ψ,ψ⟩ rfl (cU (ao FW)) (fun _ _ _ _ _=>(cj 0 (show BM (["k","weights"]:List Str) from by decide +kernel) rfl (C2 rfl))) (fun _ _ _ _ _=>gF) (fun _ _ _ _ _=>(aR bT (bG 1) (bG 0) (fun _ _=>rfl)))) aq rfl) rfl rfl) rfl (.inl rfl))
  (aG (X4 (NX:=["weights","prices","left","together","costs"]) (kX:=(aj cL).names) ["word","price","together"] [none,none,some 3] oG qd.nd rfl rfl ⟨rfl,ψ,ψ,ψ,ψ⟩ rfl (X6 Aw (hB "zip" abB) (ak (Fw (v:=V.ref aTests) wH cgTests rfl Z0) (ak (ao FZ) aq rfl) rfl) rfl rfl) (fun _ _ _ _ _=>(nZ (n:=2) rfl (cR (cj 0 (show BM (["word","price","together"]:List Str) from by decide +kernel) rfl (C2 rfl)) (cR (cj 1 (show BM (["word","price","together"]:List Str) from by decide +kernel) rfl (C2 rfl)) j8 rfl) rfl) rfl rfl)) (fun _ _ _ _ _=>gF) (fun _ _ _ _ _=>(bG 0)) (fun _ _ _ _ _=>(aL fK (bG 1) (bG 2))))
  (aG (acq hr.Sx (ao oG) dg au rfl)
  (aN (aY (ao oG)))))),?_⟩
 obtain⟨la,rfl,okl,el,ll⟩:=tl.left;replace el:H la=some (.lst (nv left)):=el;refine aO fun k hk=>?_;push_cast;refine eV fun R2 hR2=>?_;push_cast [el];refine jn (fun k=>ws.getD k 0) (fun τ=>∃o0,τ=[o0,some (.ref wa)]) hR2 el ll ⟨_,rfl⟩ ?_ ?_
 ·rintro i k' τ acc Pn hk' ⟨o0,rfl⟩ h1;have hwk:=yL (zs:=ws) (i:=k') (hlt _ (AV hk'));push_cast [hw,hwk];exact h1 _ ⟨_,rfl⟩
 intro d2 hd2;have s3:=aA (o:=HO.lst ((left.map fun k=>ws.getD k 0).map V.int)) hd2;have e3:upd H d2 (HO.lst ((left.map fun k=>ws.getD k 0).map V.int)) d2=_:=aB;generalize upd H d2 (HO.lst ((left.map fun k=>ws.getD k 0).map V.int))=H3 at s3 e3 |-;push_cast [e3];refine⟨_,rfl,?_⟩;have hz3:=s3 _ _ hz;subst hk;refine aO fun k hk=>?_;push_cast;refine ZP fun R3 hR3=>?_;push_cast [V2];refine⟨aTests,z,_,_,rfl,ktTests.sq,SqT.of hz3,?_⟩;refine ZM (kvs:=oV (zs.map (· * sumK ws left))) (ys:=zs.map V.int) (fun τ=>∃o0 o1,τ=[o0,o1,some (.int (sumK ws left))]) hR3 ktTests.sq (SqT.of hz3) (by rw[AG,h5];exact A9 5) (by show 5<=15;decide) ⟨_,_,rfl⟩ ?_ ?_
 ·rintro i kv y τ H4 p Nx hkv hy s4 ⟨o0,o1,rfl⟩ hp hN;have s5:=aA (o:=HO.tup [kV kv.1,y]) hp;have e5:upd H4 p (HO.tup [kV kv.1,y]) p=_:=aB;generalize upd H4 p (HO.tup [kV kv.1,y])=H5 at s5 e5 |-;rw[A5] at hy;cases hzi:zs[i]? with
  | none=>rw[hzi] at hy;cases hy
  | some zi=>
   rw[hzi] at hy;cases hy;have hkv2:=ZF hkv;rw[Ji,AO,hzi] at hkv2;have hfz:=few zi (AV hzi);push_cast [e5];refine⟨.inl ⟨ω,ω⟩,kv.1,rfl,?_⟩;have:=hN [some (kV kv.1),some (.int zi),some (.int (sumK ws left))] H5 (s4.trans s5) ⟨_,_,rfl⟩;rw[hkv2] at this;exact this
 intro d H4 s4 hd4;have s5:=aA (o:=HO.dK (iK [] (oV (zs.map (· * sumK ws left))))) hd4;subst hk;refine aO fun k hk=>?_;push_cast [rdA];refine⟨d,_,rfl,R4.k (k:=DH "pick") aB (ZD _),?_⟩;subst hk;push_cast;rw[W7];exact q d _ ((s3.trans s4).trans (aA hd4)) aB
theorem K1 {n:Nat}(hn:n<=12) (hB:∀x:Str,x∈BLs->mg x=none) (CStretchesIn:Cal P w K mg base "stretches_in" 1 ["some"] (Xg n)) (CStepCosts:Cal P w K mg base "step_costs" 1 q16_ M6) (F:Fun K "cost_charges" "cost_charges" dz f fd):dj P w K mg base CX0 2 f fd q2_ (rz n):=by
 refine F.okq BK (fun vs H Q E h=>?_) (fun cdv A outer s H vs Q E hr h=>?_)
 ·obtain⟨s,wa,z,ok,ss,ws,zs,rfl,_⟩:=h;rfl
 obtain⟨s,wa,z,ok,ss,ws,zs,rfl,hnw,ts,hsn,hw,hwl,hz,h5,few,q⟩:=h;refine⟨_,(aN (aY (dG (NX:=pq) (kX:=(aj dz).names) ["some","weights","prices"] [none,some 1,some 2] rfl rfl ⟨rfl,ψ,ψ,ψ,ψ⟩ rfl (gB uy (hB "range" fY) (ak (aL j4 au (bU cO wI (hB "len" ig) B0 iu (ak (ao zW) aq rfl) rfl rfl)) aq rfl) rfl) (fun _ _ _ _ _=>(cj 0 (show BM (["some","weights","prices"]:List Str) from by decide +kernel) rfl (C2 rfl))) (fun _ _ _ _ _=>gF) (fun _ _ _ _ _=>(bf CStepCosts (hr.mono δ) rfl JV (ak (bG 1) (ak (bG 2) (ak (bf CStretchesIn (hr.mono δ) rfl sZ (ak (bG 0) aq rfl) rfl rfl) aq rfl) rfl) rfl) rfl rfl))))),?_⟩;have p2:2^n<=4096:=BB (CH δ hn) δ;cases ts with
 | lst os es zs' tss=>
  rename_i sa sxs;have hsl:=tss.length;rw[AG,hsn] at hsl;push_cast;refine eV fun R hR=>?_;push_cast [es,pG];refine⟨⟨ω,ω,δ⟩,?_⟩;rw[EE,hsl,BO,show((2:Int)^n)=((2^n:Nat):Int) by rw[EB];rfl];generalize hm:2^n=m at p2 |-;refine⟨ω,ω,?_⟩;rw[BO];obtain⟨Pc,hPc⟩:∃Pv:Nat->List V->L2.St->Hp->Prop,Pv=fun(i:Nat) acc τ H'=>∃(o0:Option V)(cds:List Addr),Same H H'/\acc=cds.map V.ref/\cds.length=i/\(∀(x:Nat) d,cds[x]?=some d->H' d=some (.dK (GR zs (sumK ws (bH n x)))))/\τ=[o0,some (.ref wa),some (.ref z)]:=⟨_,rfl⟩;refine Bh hR (aX ω) Pc (by rw[hPc];exact⟨_,[],Same.refl _,rfl,rfl,fun x d h=>by simp at h,rfl⟩) ?_ ?_ ?_
  ·intro i acc τ H5 pc;rw[hPc] at pc;obtain⟨_,cds,_,rfl,hl,_⟩:=pc;rw[AG];omega
  ·intro i acc τ H5 hi pc;rw[hPc] at pc;obtain⟨o0,cds,s5,rfl,hl,hc,rfl⟩:=pc;push_cast;rw[zero_add];refine⟨i,rfl,ω,fun la H6 s6 hla el6=>?_⟩;refine⟨_,wa,z,ok,ws,zs,bH n i,rfl,Ab (hnw.new (s5.none hla)) el6 (by have:=lV n i;omega),fun k hk=>by have:=(iC.mp hk).1;omega,(s5.trans s6) _ _ hw,(s5.trans s6) _ _ hz,h5,few,fun pd H7 s7 e7=>?_⟩;rw[hPc];refine⟨_,cds++[pd],(s5.trans s6).trans s7,by rw[BC];rfl,by rw[AI,hl];rfl,fun x d hx=>?_,rfl⟩;rcases GB x cds.length with c|c
   ·rw[D5 c] at hx;exact s7 _ _ (s6 _ _ (hc x d hx))
   rw[Cs c] at hx;have hx0:x-cds.length=0:=by
    rcases Nat.eq_zero_or_pos (x-cds.length) with z|z
    ·exact z
    rw[F1 (by rw[BE];omega)] at hx;cases hx
   rw[hx0] at hx;cases hx;rw[show x=i by omega];exact e7
  intro acc τ H5 d pc hd;rw[hPc] at pc;obtain⟨o0,cds,s5,rfl,hl,hc,rfl⟩:=pc;exact q d _ (s5.trans (aA hd)) (s5.none hd) ⟨cds,aB,ω,fun x e _ hx=>⟨_,aA hd _ _ (hc x e hx),fun p=>Wt ws zs (bH n x) p⟩⟩
theorem K3 {f':nR}{n:Nat}(hn:n<=12) (hB:∀x:Str,x∈BLs->mg x=none) (CWaysOfSet:Cal P w K mg base "ways_of_set" 3 ["stretches","some"] (aaf n)) (F:Fun K "charged_ways" "charged_ways" dB f fd):dj P w K mg base CX0 4 f fd q9_ (rA f' n):=by
 refine F.okq BL (fun vs H Q E h=>?_) (fun cdv A outer s H vs Q E hr h=>?_)
 ·obtain⟨s,ca,x,ok,ss,rfl,_⟩:=h;rfl
 obtain⟨s,ca,x,ok,ss,rfl,hnw,ts,hsn,h0,hx,hch,q⟩:=h;refine⟨_,(aN (aY (dG (NX:=kW) (kX:=(aj dB).names) ["head","parts","charges","some"] [none,none,some 1,some 2] rfl rfl ⟨rfl,ψ,ψ,ψ,ψ⟩ rfl (cU (bf CWaysOfSet (hr.mono δ) oU JT (ak (ao zY) (ak (ao zX) aq rfl) rfl) rfl rfl)) (fun _ _ _ _ _=>(nZ (n:=2) rfl (cR (cj 0 (show BM (["head","parts","charges","some"]:List Str) from by decide +kernel) rfl (C2 rfl)) (cR (cj 1 (show BM (["head","parts","charges","some"]:List Str) from by decide +kernel) rfl (C2 rfl)) j8 rfl) rfl) rfl rfl)) (fun _ _ _ _ _=>gF) (fun _ _ _ _ _=>(bY (ak (acs hr.Sx (aR bT (bG 2) (bG 3) (fun _ _=>rfl)) (aR bT (bG 0) au (fun _ _=>rfl)) (fun _ _=>rfl)) (ak (bG 0) (ak (bG 1) aq rfl) rfl) rfl)))))),?_⟩;have lf:=mK hsn h0 hx;push_cast;refine eV fun R hR=>?_;push_cast [lN];refine⟨s,x,ok,ss,rfl,hnw,ts,hsn,h0,hx,fun r xs L H1 s1 hr1 er1 hL t1 hx1=>?_⟩;show itK K (V.ref r) H1 R;rw[mF,er1,oJ];have hmem:=Vt hL lf;generalize Ph ss (bH n x) L=W at *;have hxl:=t1.length;rw[AG] at hxl;obtain⟨Pc,hPc⟩:∃Pv:Nat->List V->L2.St->Hp->Prop,Pv=fun(i:Nat) acc τ H'=>∃(o0 o1:Option V),Same H1 H'/\acc.length=i/\aH ok H' acc ((W.take i).map (chD f' ss (bH n x)))/\τ=[o0,o1,some (.ref ca),some (.int (x:Int))]:=⟨_,rfl⟩;refine oW hR (xs:=xs) (aX ω) Pc (by rw[hPc];exact⟨_,_,Same.refl _,rfl,.nil,rfl⟩) ?_ ?_ ?_ ?_
 ·intro i acc τ H2 pc;rw[hPc] at pc;obtain⟨_,_,_,hl,_⟩:=pc;omega
 ·intro i acc τ H2 pc;rw[hPc] at pc;obtain⟨_,_,s2,_⟩:=pc;exact SqL.of (s2 _ _ er1)
 ·intro i y acc τ H2 hy pc;rw[hPc] at pc;obtain⟨o0,o1,s2,hl,t2,rfl⟩:=pc;obtain⟨d,hd,td⟩:=(t1.same s2).get hy;rw[A5] at hd;obtain⟨w1,hw1,rfl⟩:=B8.mp hd;cases td with
  | tup ot et zt tt=>
   cases tt with
   | cons th tt=>
    cases tt with
    | cons tp tt=>
     cases tt;rename_i ta xh xp;have th0:=th;have tp0:=tp;obtain⟨hs,hwd⟩:∃r',hdL w1=.str (lz (jP w1))::r':=by cases w1 <;> exact⟨_,rfl⟩
     unfold wyD at *;cases th with
     | tup oh eh zh thh=>
      rename_i ha hxs;rw[hwd] at thh;cases thh with
      | cons tw thh=>
       cases tw;obtain⟨cds,ec,lc,hc⟩:=hch.same (s1.trans s2);obtain⟨cd,hcd⟩:∃cd,cds[x]?=some cd:=⟨cds[x]'ω,AF ω⟩;obtain⟨kvs,ek,hk⟩:=hc x cd h0 hcd;have eca:atI (cds.map V.ref) (x:Int)=some (.ref cd):=dH (by rw[A5,hcd];rfl);push_cast [et,rdA,eh,ec,eca];refine⟨cd,V.int (f' (bH n x) (jP w1)),rfl,CQ.k' (k:=DH (lz (jP w1))) ek (hk _),?_⟩;push_cast;refine⟨aX δ,fun p hp=>?_⟩;have s3:=aA (o:=HO.tup [V.int (f' (bH n x) (jP w1)),V.ref ha,xp]) hp;rw[hPc];refine⟨_,_,s2.trans s3,by rw[AI,hl];rfl,?_,rfl⟩;rw[take_snoc hw1,BC];exact(t2.same s3).append (.cons (.tup (hnw.new ((s1.trans s2).none hp)) aB (by show 3<=1000000;decide) (.cons (.int _) (.cons (th0.same s3) (.cons (tp0.same s3) .nil)))) .nil)
 intro acc τ H2 d pc hd;rw[hPc] at pc;obtain⟨o0,o1,s2,hl,t2,rfl⟩:=pc;rw[hxl,C0] at t2;exact q d acc W _ ((s1.trans s2).trans (aA hd)) ((s1.trans s2).none hd) aB hmem (t2.same (aA hd)) ω
end
noncomputable abbrev wU:List Str:=["ways","numbers"]
noncomputable abbrev jk:Stmt:=top 11
theorem Kq:bw wU q15_ (aj jk):=⟨rfl,rfl,rfl,ψ,rfl,ψ,ψ⟩
theorem Jb:NM_ wU jk 0 "ways" := .of ψ
theorem Bo:Bn "bounds_of" := ⟨ψ,ψ⟩
noncomputable abbrev jz:List Str:=["ways","numbers","plans","bounds","least","cost","head","parts"]
noncomputable abbrev dJ:Stmt:=top 24
theorem kZ:bw jz q17_ (aj dJ):=⟨rfl,rfl,rfl,ψ,rfl,ψ,ψ⟩
theorem zU:NM_ jz dJ 0 "ways" := .of ψ
theorem K9:NM_ jz dJ 1 "numbers" := .of ψ
theorem tZ:NM_ jz dJ 3 "bounds" := .of ψ
theorem tY:NM_ jz dJ 4 "least" := .of ψ
theorem K8:NM_ jz dJ 5 "cost" := .of ψ
theorem zT:NM_ jz dJ 6 "head" := .of ψ
theorem zR:NM_ jz dJ 7 "parts" := .of ψ
theorem vI:GI_ dJ "bounds_of" := by decide +kernel
theorem GF:GI_ dJ "min" := by decide +kernel
theorem Ay:GI_ dJ "tuple" := by decide +kernel
theorem R0:Bn "least_by" := ⟨ψ,ψ⟩
theorem zu (ss:Sts)(left:List Nat)(w:Wy):AD.list ((gP ss left w).map ptD)=xg ((gP ss left w).map aZ):=by
 unfold xg;rw[map_map];rfl
section
variable {P:AU}{w:Be}{K:Au}{mg:Str->Option An}{base:Heap}{f:Addr}{fd:BU}{bs:List Str}
theorem Qs {f':nR}(hB:∀x:Str,x∈BLs->mg x=none) (F:Fun K "bounds_of" "bounds_of" jk f fd):dj P w K mg base CX0 1 f fd q15_ (uJ f'):=by
 refine F.okq Kq (fun vs H Q E h=>?_) (fun cdv A outer s H vs Q E hr h=>?_)
 ·obtain⟨r,na,ok,ss,left,xs,W,N,rfl,_⟩:=h;rfl
 obtain⟨r,na,ok,ss,left,xs,W,N,rfl,⟨er,t,hx,en,hlt⟩,q⟩:=h;refine⟨_,(aN (aY (dG (NX:=wU) (kX:=(aj jk).names) ["cost","head","parts","numbers"] [none,none,none,some 1] rfl rfl ⟨rfl,ψ,ψ,ψ,ψ⟩ rfl (cU (ao Jb)) (fun _ _ _ _ _=>(nZ (n:=3) rfl (cR (cj 0 (show BM (["cost","head","parts","numbers"]:List Str) from by decide +kernel) rfl (C2 rfl)) (cR (cj 1 (show BM (["cost","head","parts","numbers"]:List Str) from by decide +kernel) rfl (C2 rfl)) (cR (cj 2 (show BM (["cost","head","parts","numbers"]:List Str) from by decide +kernel) rfl (C2 rfl)) j8 rfl) rfl) rfl) rfl rfl)) (fun _ _ _ _ _=>gF) (fun _ _ _ _ _=>(aL bx (bG 0) (bU (lu rfl) rfl (hB "sum" wA) boot_sum wN (ak (dG (NX:=["cost","head","parts","numbers"]) (kX:=_) ["part","numbers"] [none,some 3] rfl rfl ⟨rfl,ψ,ψ,by (intro y hy hf;repeat (first|(rcases AX.mp hy with rfl|hy;(first|exact Or.inr rfl|exact C2 rfl|exact absurd hf δ))|exact absurd hy Bz)),ψ⟩ rfl (X7 K (bG 2)) (fun _ _ _ _ _=>(cj 0 (show BM (["part","numbers"]:List Str) from by decide +kernel) rfl (C2 rfl))) (fun _ _ _ _ _=>gF) (fun _ _ _ _ _=>(aR bT (bG 1) (bG 0) (fun _ _=>rfl)))) aq rfl) rfl rfl)))))),?_⟩
 have hxl:=t.length;rw[AG] at hxl;push_cast;refine eV fun R hR=>?_;push_cast [er];obtain⟨Pc,hPc⟩:∃Pv:Nat->List V->L2.St->Hp->Prop,Pv=fun(i:Nat) acc τ H'=>∃(o0 o1 o2:Option V),Same H H'/\acc=((W.take i).map (jO f' N ss left)).map V.int/\τ=[o0,o1,o2,some (.ref na)]:=⟨_,rfl⟩;refine oW hR (xs:=xs) (aX ω) Pc (by rw[hPc];exact⟨_,_,_,Same.refl _,rfl,rfl⟩) ?_ ?_ ?_ ?_
 ·intro i acc τ H2 pc;rw[hPc] at pc;obtain⟨_,_,_,_,rfl,_⟩:=pc;rw[AG,AG];exact G1 _ _
 ·intro i acc τ H2 pc;rw[hPc] at pc;obtain⟨_,_,_,s2,_⟩:=pc;exact SqL.of (s2 _ _ er)
 ·intro i y acc τ H2 hy pc;rw[hPc] at pc;obtain⟨o0,o1,o2,s2,rfl,rfl⟩:=pc;obtain⟨d,hd,td⟩:=(t.same s2).get hy;rw[A5] at hd;obtain⟨w1,hw1,rfl⟩:=B8.mp hd;unfold chD at td;rw[zu] at td;cases td with
  | tup ot et zt tt=>
   cases tt with
   | cons tc tt=>
    cases tt with
    | cons th tt=>
     cases tt with
     | cons tp tt=>
      cases tt;cases tc;rename_i ta xh xp;obtain⟨la,rfl,okl,el,ll⟩:=tp.left;replace el:H2 la=some (.lst (nv ((gP ss left w1).map aZ))):=el;have en2:=s2 _ _ en;push_cast [et];refine eV fun R2 hR2=>?_;push_cast [el];refine jn (fun k=>N.getD k 0) (fun τ=>∃o0,τ=[o0,some (.ref na)]) hR2 el ll ⟨_,rfl⟩ ?_ ?_
      ·rintro j k' τ acc Pn hk' ⟨o0,rfl⟩ h1;have hmk:=AV hk';obtain⟨p,hp,rfl⟩:=D9.mp hmk;have hwk:=yL (zs:=N) (i:=aZ p) (hlt w1 (AV hw1) p hp);push_cast [en2,hwk];exact h1 _ ⟨_,rfl⟩
      intro d2 hd2;have s3:=aA (o:=HO.lst ((((gP ss left w1).map aZ).map fun k=>N.getD k 0).map V.int)) hd2;have e3:upd H2 d2 (HO.lst ((((gP ss left w1).map aZ).map fun k=>N.getD k 0).map V.int)) d2=_:=aB;generalize upd H2 d2 (HO.lst ((((gP ss left w1).map aZ).map fun k=>N.getD k 0).map V.int))=H3 at s3 e3 |-;push_cast [e3];refine⟨_,rfl,?_⟩;rw[hPc];refine⟨_,_,_,s2.trans s3,?_,rfl⟩;rw[take_snoc hw1,BC,BC,show f' left (jP w1)+(((gP ss left w1).map aZ).map fun k=>N.getD k 0).sum=jO f' N ss left w1 by unfold jO;rw[map_map];rfl];rfl
 intro acc τ H2 d pc hd;rw[hPc] at pc;obtain⟨o0,o1,o2,s2,rfl,rfl⟩:=pc;rw[hxl,C0];exact q d _ (s2.trans (aA hd)) (s2.none hd) aB
theorem KZ {f':nR}(hB:∀x:Str,x∈BLs->mg x=none) (CBoundsOf:Cal P w K mg base "bounds_of" 1 q15_ (uJ f')) (F:Fun K "least_by" "least_by" dJ f fd):dj P w K mg base CX0 2 f fd q17_ (Df f'):=by
 refine F.okq kZ (fun vs H Q E h=>?_) (fun cdv A outer s H vs Q E hr h=>?_)
 ·obtain⟨r,na,pa,ok,ss,left,xs,W,N,ps,PD,rfl,_⟩:=h;rfl
 obtain⟨r,na,pa,ok,ss,left,xs,W,N,ps,PD,rfl,wa,hnw,epa,tps,hPD,hW,q⟩:=h;refine⟨_,(aG (bB tZ kZ.nd (bf CBoundsOf (hr.mono δ) vI Bo (ak (ao zU) (ak (ao K9) aq rfl) rfl) rfl rfl) rfl (.inl rfl))
  (aG (bB tY kZ.nd (bU (rR rfl) GF (hB "min" zZ) boot_min Bl (ak (ao tZ) aq rfl) rfl rfl) rfl (.inl rfl))
  (aG (qj (aR bT (ao zU) (Yb hr.un1 (ao tZ) (ao tY)) (fun _ _=>rfl)) (nZ (n:=3) rfl (cR (fU K8 kZ.nd (.inl rfl)) (cR (fU zT kZ.nd (.inl rfl)) (cR (fU zR kZ.nd (.inl rfl)) j8 rfl) rfl) rfl) rfl rfl) rfl rfl rfl)
  (aN (aY (bY (ak (ao tY) (ak (aL NQ (ao zT) (lF jc Ay (hB "tuple" jt) Fn jw (ak (dG (NX:=jz) (kX:=(aj dJ).names) ["part","plans"] [none,some 2] rfl rfl ⟨rfl,ψ,ψ,ψ,ψ⟩ rfl (cU (ao zR)) (fun _ _ _ _ _=>(cj 0 (show BM (["part","plans"]:List Str) from by decide +kernel) rfl (C2 rfl))) (fun _ _ _ _ _=>gF) (fun _ _ _ _ _=>(aR bT (bG 1) (bG 0) (fun _ _=>rfl)))) aq rfl) rfl rfl)) aq rfl) rfl))))))),?_⟩
 refine aO fun k hk=>?_;push_cast;refine⟨r,na,ok,ss,left,xs,W,N,rfl,wa,fun b H1 s1 hb eb=>?_⟩;push_cast;subst hk;refine aO fun k hk=>?_;push_cast;refine⟨_,.inl eb,fun z=>hW (IU.mp z),fun M hM hle=>?_⟩;subst hk;refine aO fun k hk=>?_;have er1:=s1 _ _ wa.er;push_cast [er1,SX];refine⟨_,SqL.of eb,SqL.of eb,hM,fun j hj=>?_⟩;obtain⟨w1,hw1,ew1⟩:∃w1,W[j]?=some w1/\jO f' N ss left w1=M:=by
  have:=hj.1;rw[A5] at this;exact B8.mp this
 have hx:=wa.t.length;rw[AG] at hx;have hjl:=(AR.mp hw1).1;have hxj:xs[j]?=some (xs[j]'ω):=AF ω;obtain⟨d,hd,td⟩:=(wa.t.same s1).get hxj;rw[A5,hw1] at hd;cases hd;have eat:atI xs (j:Int)=some (xs[j]'ω):=dH hxj;generalize xs[j]'ω=xj at td eat;unfold chD at td;rw[zu] at td;cases td with
 | tup ot et zt tt=>
  cases tt with
  | cons tc tt=>
   cases tt with
   | cons th tt=>
    cases tt with
    | cons tp tt=>
     cases tt;cases tc;rename_i ta xh xp;obtain⟨la,rfl,okl,el,ll⟩:=tp.left;replace el:H1 la=some (.lst (nv ((gP ss left w1).map aZ))):=el;have epa1:=s1 _ _ epa;cases th with
     | tup oh eh zh thh=>
      rename_i ha hxs;push_cast [eat,et];subst hk;push_cast;refine eV fun R2 hR2=>?_;push_cast [el];have hpl:=tps.length;obtain⟨Pc,hPc⟩:∃Pv:Nat->List V->L2.St->Hp->Prop,Pv=fun(i:Nat) acc τ H'=>∃(o0:Option V),H1=H'/\acc.length=i/\aH ok H1 acc (((gP ss left w1).take i).map fun p=>PD.getD (aZ p) .none)/\τ=[o0,some (.ref pa)]:=⟨_,rfl⟩;have hpt:=Uo ss left w1;have hlw:=wa.lt w1 (AV hw1);refine oW hR2 (xs:=nv ((gP ss left w1).map aZ)) (aX (by rw[iJ,AG];omega)) Pc (by rw[hPc];exact⟨_,rfl,rfl,.nil,rfl⟩) ?_ ?_ ?_ ?_
      ·intro i acc τ H2 pc;rw[hPc] at pc;obtain⟨_,_,hl,_⟩:=pc;omega
      ·intro i acc τ H2 pc;rw[hPc] at pc;obtain⟨_,rfl,_⟩:=pc;exact SqL.of el
      ·intro i y acc τ H2 hy pc;rw[hPc] at pc;obtain⟨o0,rfl,hl,t2,rfl⟩:=pc;unfold nv at hy;rw[A5,A5] at hy;obtain⟨k',hk',rfl⟩:=B8.mp hy;obtain⟨p,hp,rfl⟩:=B8.mp hk';have hlp:=hlw p (AV hp);have hpx:ps[aZ p]?=some (ps[aZ p]'ω):=AF ω;obtain⟨dp,hdp,tdp⟩:=(tps.same s1).get hpx;have eap:atI ps ((aZ p:Nat):Int)=some (ps[aZ p]'ω):=dH hpx;generalize ps[aZ p]'ω=vp at tdp eap;push_cast [epa1,eap];rw[hPc];refine⟨_,rfl,by rw[AI,hl];rfl,?_,rfl⟩;rw[take_snoc hp,BC];refine t2.append (.cons ?_ .nil);show aJ ok _ vp (PD.getD (aZ p) .none);rw[AO,hdp];exact tdp
      intro acc τ H2 d pc hd;rw[hPc] at pc;obtain⟨o0,rfl,hl,t2,rfl⟩:=pc;rw[iJ,AG,C0] at t2;have s3:=aA (o:=HO.lst acc) hd;have e3:upd H1 d (HO.lst acc) d=_:=aB;generalize upd H1 d (HO.lst acc)=H3 at s3 e3 |-;push_cast;refine⟨acc,.inl ⟨SqL.of e3,fun l hl3=>?_⟩⟩;have s4:=aA (o:=HO.tup acc) hl3;have e4:upd H3 l (HO.tup acc) l=_:=aB;generalize upd H3 l (HO.tup acc)=H4 at s4 e4 |-;have eh4:=s4 _ _ (s3 _ _ eh);have fin:∀(v:V)(H5:Hp),Same H4 H5->aJ ok H5 v (Sg ss left PD w1)->(2<=AK/\∀(p:Addr),H5 p=none->Q (V.ref p) (upd H5 p (HO.tup [V.int M,v]))):=fun v H5 s5 t5=>⟨aX δ,fun p hp=>by
       have s6:=aA (o:=HO.tup [V.int M,v]) hp;have sA:=((s1.trans s3).trans s4).trans s5;refine q _ w1 _ (sA.trans s6) (AV hw1) (fun w' hw'=>by rw[ew1];exact hle _ (FX hw')) ?_;rw[ew1];exact .tup (hnw.new (sA.none hp)) aB (by show 2<=1000000;decide) (.cons (.int _) (.cons (t5.same s6) .nil))⟩
      have hhl:=thh.length;have hh2:=Zu w1;have hpos:0<(hdL w1).length:=by cases w1 <;> exact succ_pos _
      have hal:=t2.length;rw[AG] at hal;push_cast [eh4,e4,Fq,Mg];refine⟨fun z=>by rw[z] at hhl;exact absurd hhl (by show ¬0=_;omega),aX ω,fun hnil=>?_,fun hne p hp=>?_⟩
      ·subst hnil;refine fin _ _ (Same.refl _) ?_;unfold Sg;rw[show((gP ss left w1).map fun p=>PD.getD (aZ p) AD.none)=[] from IU.mpr (ED hal.symm),Cf];exact .tup oh eh4 zh ((thh.same s3).same s4)
      have s5:=aA (o:=HO.tup (hxs++acc)) hp;exact fin _ _ s5 (.tup (hnw.new (((s1.trans s3).trans s4).none hp)) aB (by rw[AI];omega) (((thh.same (s3.trans s4)).append (t2.same (s3.trans s4))).same s5))
end
noncomputable abbrev d9:List Str:=["stretches","charges","numbers","plans","some","number","plan"]
noncomputable abbrev bA:Stmt:=top 26
theorem fM:bw d9 ["stretches","charges"] (aj bA):=⟨rfl,rfl,rfl,ψ,rfl,ψ,ψ⟩
theorem xU:NM_ d9 bA 0 "stretches" := .of ψ
theorem pF:NM_ d9 bA 1 "charges" := .of ψ
theorem je:NM_ d9 bA 2 "numbers" := .of ψ
theorem jd:NM_ d9 bA 3 "plans" := .of ψ
theorem pD:NM_ d9 bA 4 "some" := .of ψ
theorem pC:NM_ d9 bA 5 "number" := .of ψ
theorem pB:NM_ d9 bA 6 "plan" := .of ψ
theorem lZ:GI_ bA "charged_ways" := by decide +kernel
theorem pO:GI_ bA "least_by" := by decide +kernel
theorem vH:GI_ bA "len" := by decide +kernel
theorem sI:GI_ bA "range" := by decide +kernel
theorem Bm:Bn "leasts_of_sets" := ⟨ψ,ψ⟩
noncomputable abbrev jM:List Str:=["stretches","weights","prices","numbers","plans"]
noncomputable abbrev dw:Stmt:=top 27
theorem qe:bw jM q2_ (aj dw):=⟨rfl,rfl,rfl,ψ,rfl,ψ,ψ⟩
theorem vf:NM_ jM dw 0 "stretches" := .of ψ
theorem Gh:NM_ jM dw 1 "weights" := .of ψ
theorem Gg:NM_ jM dw 2 "prices" := .of ψ
theorem vd:NM_ jM dw 3 "numbers" := .of ψ
theorem Gf:NM_ jM dw 4 "plans" := .of ψ
theorem oR:GI_ dw "cost_charges" := by decide +kernel
theorem nO:GI_ dw "leasts_of_sets" := by decide +kernel
theorem JW:Bn "cost_paper" := ⟨ψ,ψ⟩
theorem aac {ss:Sts}{left:List Nat}(lf:Lf ss left):∃w,pR ss left w:=by
 match left,lf with
 | [],lf=>exact absurd rfl lf.ne
 | [a],_=>exact⟨.pick (lbl ss a),fun k hk=>by rw[AJ.mp hk]⟩
 | a::b::l,_=>exact⟨.wit a,A6,by simp⟩
theorem Sd {ss:Sts}{left:List Nat}{w:Wy}{T:List Pl}(lf:Lf ss left)(hw:pR ss left w)(hT:aZ left<=T.length):Sg ss left (Il T) w=plD (mkP w ((gP ss left w).map fun p=>T.getD (aZ p) .tab)):=by
 rw[acP ss left w _ (AG _)];unfold Sg;rw[map_map];congr 2;refine List.map_congr_left fun p hp=>?_;obtain⟨l1,l2,_⟩:=lG lf hw p hp;exact Yp (uK l1.ne) ω
section
variable {P:AU}{w:Be}{K:Au}{mg:Str->Option An}{base:Heap}{f:Addr}{fd:BU}{bs:List Str}
theorem Qq {f':nR}(hf:ab4 f') {n:Nat}(hn:n<=12) (hB:∀x:Str,x∈BLs->mg x=none) (CLeastBy:Cal P w K mg base "least_by" 2 q17_ (Df f')) (CChargedWays:Cal P w K mg base "charged_ways" 4 q9_ (rA f' n)) (F:Fun K "leasts_of_sets" "leasts_of_sets" bA f fd):dj P w K mg base CX0 5 f fd ["stretches","charges"] (Hw f' n):=by
 refine F.okq fM (fun vs H Q E h=>?_) (fun cdv A outer s H vs Q E hr h=>?_)
 ·obtain⟨s,ca,ok,ss,rfl,_⟩:=h;rfl
 obtain⟨s,ca,ok,ss,rfl,hnw,ts,hsn,hch,q⟩:=h;refine⟨_,(aG (bB je fM.nd (bD (ak au aq rfl)) rfl (.inl rfl))
  (aG (bB jd fM.nd (bD (ak tQ aq rfl)) rfl (.inl rfl))
  (aG (iI BQ rfl (v7 sI (hB "range" fY) (ak au (ak (bU cO vH (hB "len" ig) B0 iu (ak (ao pF) aq rfl) rfl rfl) aq rfl) rfl) rfl rfl) (fU pD fM.nd (.inl rfl))
  (aG (qj (bf CLeastBy (hr.mono δ) pO R0 (ak (bf CChargedWays (hr.mono δ) lZ tE (ak (ao xU) (ak (ao pF) (ak (ao pD) aq rfl) rfl) rfl) rfl rfl) (ak (ao je) (ak (ao jd) aq rfl) rfl) rfl) rfl rfl) (nZ (n:=2) rfl (cR (fU pC fM.nd (.inl rfl)) (cR (fU pB fM.nd (.inl rfl)) j8 rfl) rfl) rfl rfl) rfl rfl rfl)
  (aG (fJ (gK (ao je) (ao pC) rfl rfl rfl rfl rfl) rfl)
  (aN (fJ (gK (ao jd) (ao pB) rfl rfl rfl rfl rfl) rfl)))) (fun _=>rfl))
  (aN (aY (bY (ak (ao je) (ak (ao jd) aq rfl) rfl))))))),?_⟩
 have p2:2^n<=4096:=BB (CH δ hn) δ;have p1:=EO n;refine aO fun k hk=>?_;push_cast;refine⟨aX δ,fun na hna=>?_⟩;subst hk;refine aO fun k hk=>?_;push_cast;refine⟨aX δ,fun pa hpa=>?_⟩;have s1:=aA (o:=HO.lst [V.int 0]) hna;have s2:=aA (o:=HO.lst [V.non]) hpa;have en2:=s2 _ _ (show upd H na (HO.lst [V.int 0]) na=_ from aB);have ep2:upd (upd H na (HO.lst [V.int 0])) pa (HO.lst [V.non]) pa=_:=aB;have hpn:H pa=none:=s1.none hpa;have hne:na≠pa:=aF (show upd H na (HO.lst [V.int 0]) na=_ from aB) hpa;have s12:=s1.trans s2;generalize upd (upd H na (HO.lst [V.int 0])) pa (HO.lst [V.non])=H2 at s12 en2 ep2 |-;clear s1 s2 hpa;subst hk;refine aO fun k hk=>?_;refine jV fun R hR=>?_;obtain⟨cds,ec,lc,hc⟩:=hch.same s12;push_cast [ec,Jh];rw[AG,lc];generalize hm:2^n=m at p1 p2 |-;rw[show((m:Int)-1).toNat=m-1 by omega];refine⟨ω,?_⟩;obtain⟨ok2,hok2⟩:∃ok2:Addr->Prop,ok2=fun a=>ok a/\a≠na/\a≠pa:=⟨_,rfl⟩;have nw2:∀{H':Hp}{xs ys:List V},Same H H'->H' na=some (.lst xs)->H' pa=some (.lst ys)->cJ ok2 H':=fun {H' xs ys} sH e1 e2 H3 p s' hp=>by
  rw[hok2];exact⟨hnw H3 p (sH.trans s') hp,(aF (s' _ _ e1) hp).symm,(aF (s' _ _ e2) hp).symm⟩
 have ts2:aJ ok2 H s (.list (ss.map stD)):=ts.keep fun a o h e=>⟨by rw[hok2];exact⟨h,aF e hna,aF e hpn⟩,e⟩;have kn:∀{H':Hp}{xs:List V}{ds:List AD}{o:HO},aH ok2 H' xs ds->aH ok2 (upd H' na o) xs ds:=fun t=>t.keep fun a o h e=>⟨h,by rw[hok2] at h;rw[aM h.2.1];exact e⟩;have kp:∀{H':Hp}{xs:List V}{ds:List AD}{o:HO},aH ok2 H' xs ds->aH ok2 (upd H' pa o) xs ds:=fun t=>t.keep fun a o h e=>⟨h,by rw[hok2] at h;rw[aM h.2.2];exact e⟩;obtain⟨Pv,hPv⟩:∃Pv:Nat->L2.St->Hp->Prop,Pv=fun(i:Nat) σ H'=>∃(N:List Int)(T:List Pl)(ps:List V)(o4 o5 o6:Option V),Same H H'/\H' na=some (.lst (N.map V.int))/\H' pa=some (.lst ps)/\aH ok2 H' ps (Il T)/\Tbl f' ss n (i+1) N/\PlT f' ss n (i+1) N T/\σ=[some s,some (.ref ca),some (.ref na),some (.ref pa),o4,o5,o6]:=⟨_,rfl⟩;refine xJ hR Pv (by rw[hPv];exact⟨[0],[.tab],[.non],_,_,_,s12,en2,ep2,.cons .non .nil,Tbl.start f' ss n,PlT.start f' ss n _,rfl⟩) ?_ ?_
 ·intro i σ H3 hi pv;rw[hPv] at pv;obtain⟨N,T,ps,o4,o5,o6,s3,en3,ep3,tp3,tb,pt,rfl⟩:=pv;have him:i+1<2^n:=ω;have lf:=mK hsn (show 0<i+1 by omega) him;have hset:=lB him;refine aO fun k2 hk2=>?_;push_cast;rw[show(1:Int)+(i:Int)=((i+1:Nat):Int) by omega];refine⟨s,ca,i+1,ok2,ss,rfl,nw2 s3 en3 ep3,ts2.same s3,hsn,ω,him,hch.same s3,fun r xs W H4 s4 hr4 er4 hW t4 hx4=>?_⟩;have en4:=s4 _ _ en3;have ep4:=s4 _ _ ep3;have hTl:T.length=N.length:=by rw[pt.len,tb.len]
  have hWne:W≠[]:=fun z=>by
   obtain⟨w1,hw1⟩:=aac lf;have:=(hW w1).mpr hw1;rw[z] at this;cases this
  refine⟨r,na,pa,ok2,ss,bH n (i+1),xs,W,N,ps,Il T,rfl,⟨er4,t4,hx4,en4,fun w1 hw1 p hp=>by
   obtain⟨_,l2,_⟩:=lG lf ((hW w1).mp hw1) p hp;rw[tb.len];omega⟩,nw2 (s3.trans s4) en4 ep4,ep4,tp3.same s4,by rw[Ik,hTl],hWne,fun v w1 H5 s5 hw1 hle t5=>?_⟩
  have en5:=s5 _ _ en4;have ep5:=s5 _ _ ep4;have tp5:=(tp3.same s4).same s5;have isw:=(hW w1).mp hw1;rw[Sd lf isw (by rw[hset,pt.len];exact A9 _)] at t5;have good:=abz hf hsn him ω pt isw rfl;have tb':=tb.snoc hsn ω him (c:=jO f' N ss (bH n (i+1)) w1) ⟨⟨w1,isw,rfl⟩,fun w' hw'=>hle w' ((hW w').mpr hw')⟩;have pt':=pt.snoc tb.len good;have hTne:T≠[]:=fun z=>by have:=pt.len;rw[z] at this;cases this
  generalize mkP w1 ((gP ss (bH n (i+1)) w1).map fun p=>T.getD (aZ p) .tab)=pl at *;generalize jO f' N ss (bH n (i+1)) w1=c at *;cases t5 with
  | tup ot et zt tt=>
   cases tt with
   | cons tc tt=>
    cases tt with
    | cons tpl tt=>
     cases tt;cases tc;rename_i ta vp;push_cast [et];subst hk2;refine aO fun k2 hk2=>?_;push_cast [en5];refine⟨Ng (by rw[AG,tb.len];omega),?_⟩;subst hk2;have ep6:upd H5 na (HO.lst (N.map V.int++[V.int c])) pa=some (HO.lst ps):=(aM hne.symm).trans ep5;have hpl:=tp3.length;rw[Ik,pt.len] at hpl;push_cast [ep6];refine⟨Ng ω,?_⟩;rw[hPv];refine⟨N++[c],T++[pl],ps++[vp],_,_,_,eY (eY ((s3.trans s4).trans s5) hna) hpn,?_,aB,?_,tb',pt',rfl⟩
     ·rw[aM hne,aB,BC];rfl
     rw[Qg hTne];exact kp (kn (tp5.append (.cons tpl .nil)))
 intro σ H3 pv;rw[hPv] at pv;obtain⟨N,T,ps,o4,o5,o6,s3,en3,ep3,tp3,tb,pt,rfl⟩:=pv;show k _ _;subst hk;push_cast;refine⟨aX δ,fun t ht=>?_⟩;have s4:=aA (o:=HO.tup [V.ref na,V.ref pa]) ht;rw[show m-1+1=2^n by omega] at tb pt;exact q t na pa N T ps _ (s3.trans s4) aB (s4 _ _ en3) (s4 _ _ ep3) ((tp3.same s4).keep fun a o h e=>⟨by rw[hok2] at h;exact h.1,e⟩) tb pt
theorem Vc {n:Nat}(hn:n<=12) (hB:∀x:Str,x∈BLs->mg x=none) (CLeastsOfSets:∀ws zs,Cal P w K mg base "leasts_of_sets" 5 ["stretches","charges"] (Hw (cT ws zs) n)) (CCostCharges:Cal P w K mg base "cost_charges" 2 q2_ (rz n)) (F:Fun K "cost_paper" "cost_paper" dw f fd):dj P w K mg base CX0 6 f fd q2_ (Eu n):=by
 refine F.okq qe (fun vs H Q E h=>?_) (fun cdv A outer s H vs Q E hr h=>?_)
 ·obtain⟨s,wa,z,ok,ss,ws,zs,rfl,_⟩:=h;rfl
 obtain⟨s,wa,z,ok,ss,ws,zs,rfl,hnw,ts,hsn,hw,hwl,hz,h5,few,q⟩:=h;have CLeastsOfSets:=CLeastsOfSets ws zs;refine⟨_,(aG (qj (bf CLeastsOfSets (hr.mono δ) nO Bm (ak (ao vf) (ak (bf CCostCharges (hr.mono δ) oR tD (ak (ao vf) (ak (ao Gh) (ak (ao Gg) aq rfl) rfl) rfl) rfl rfl) aq rfl) rfl) rfl rfl) (nZ (n:=2) rfl (cR (fU vd qe.nd (.inl rfl)) (cR (fU Gf qe.nd (.inl rfl)) j8 rfl) rfl) rfl rfl) rfl rfl rfl)
  (aN (aY (ao vd)))),?_⟩
 refine aO fun k hk=>?_;push_cast;refine⟨s,wa,z,ok,ss,ws,zs,rfl,hnw,ts,hsn,hw,hwl,hz,h5,few,fun ca H1 s1 hca hch=>?_⟩;refine⟨s,ca,ok,ss,rfl,hnw.same s1,ts.same s1,hsn,hch,fun t na pa N T ps H2 s2 et en ep tp tb pt=>?_⟩;push_cast [et];subst hk;push_cast;exact q na N H2 (s1.trans s2) en tb
noncomputable abbrev dZ:List Str:=["_law_tape_here","_law_many","_law_low","_law_labels","_law_found","_law_k","_law_far","_law_wide","_law_label"]
noncomputable abbrev bO:Stmt:=top 32
theorem cX:bw dZ q0_ (aj bO):=⟨rfl,rfl,rfl,ψ,rfl,ψ,ψ⟩
theorem cD:NM_ dZ bO 0 "_law_tape_here" := .of ψ
theorem Cd:NM_ dZ bO 1 "_law_many" := .of ψ
theorem iZ:NM_ dZ bO 2 "_law_low" := .of ψ
theorem jN:NM_ dZ bO 3 "_law_labels" := .of ψ
theorem iY:NM_ dZ bO 4 "_law_found" := .of ψ
theorem Ca:NM_ dZ bO 5 "_law_k" := .of ψ
theorem sW:NM_ dZ bO 6 "_law_far" := .of ψ
theorem iW:NM_ dZ bO 7 "_law_wide" := .of ψ
theorem iV:NM_ dZ bO 8 "_law_label" := .of ψ
theorem bK:GI_ bO "_law_take" := by decide +kernel
theorem yd:GI_ bO "max" := by decide +kernel
theorem vy:GI_ bO "range" := by decide +kernel
theorem G6:Bn "_law_stretches" := ⟨ψ,ψ⟩
theorem abv (hB:∀x:Str,x∈BLs->mg x=none) (CZTake:Cal P w K mg base "_law_take" 2 q0_ (lA 2)) (F:Fun K "_law_stretches" "_law_stretches" bO f fd):dj P w K mg base CX0 3 f fd q0_ Te:=by
 refine F.okq cX (fun vs H Q E h=>?_) (fun cdv A outer s H vs Q E hr h=>?_)
 ·obtain⟨p,m,B,rfl,_⟩:=h;rfl
 obtain⟨p,m,B,rfl,tp,hB0,hB1,hm1,hm2,q⟩:=h;refine⟨_,(aG (bB iZ cX.nd (aR bT (bD (ak au (ak (aL gG (bf CZTake (hr.mono δ) bK cH (ak (ao cD) (ak au aq rfl) rfl) rfl rfl) au) (ak (aL gG (bf CZTake (hr.mono δ) bK cH (ak (ao cD) (ak (aL tU au au) aq rfl) rfl) rfl rfl) (aL tU au au)) (ak (aL gG au (aL j4 au au)) aq rfl) rfl) rfl) rfl)) (bf CZTake (hr.mono δ) bK cH (ak (ao cD) (ak au aq rfl) rfl) rfl rfl) (fun _ _=>rfl)) rfl (.inl rfl))
  (aG (bB jN cX.nd (aL bx au (bf CZTake (hr.mono δ) bK cH (ak (ao cD) (ak au aq rfl) rfl) rfl rfl)) rfl (.inl rfl))
  (aG (bB iY cX.nd (bD aq) rfl (.inl rfl))
  (aG (iI BQ rfl (gB vy (hB "range" fY) (ak (ao Cd) aq rfl) rfl) (fU Ca cX.nd (.inl rfl))
  (aG (bB sW cX.nd (aR bT (bD (ak (aL tU au au) (ak (aL tU au au) aq rfl) rfl)) (bf CZTake (hr.mono δ) bK cH (ak (ao cD) (ak au aq rfl) rfl) rfl rfl) (fun _ _=>rfl)) rfl (.inl rfl))
  (aG (bB iW cX.nd (bD (ak au (ak au (ak au (ak (aL bx au (bf CZTake (hr.mono δ) bK cH (ak (ao cD) (ak au aq rfl) rfl) rfl rfl)) (ak (aL bx au (bf CZTake (hr.mono δ) bK cH (ak (ao cD) (ak au aq rfl) rfl) rfl rfl)) (ak (aL bx au (bf CZTake (hr.mono δ) bK cH (ak (ao cD) (ak (ao sW) aq rfl) rfl) rfl rfl)) aq rfl) rfl) rfl) rfl) rfl) rfl)) rfl (.inl rfl))
  (aG (bB iW cX.nd (aR bT (ao iW) (bU (RG rfl) yd (hB "max" Lg) boot_max Ml (ak au (ak (aL gG (bf CZTake (hr.mono δ) bK cH (ak (ao cD) (ak au aq rfl) rfl) rfl rfl) au) aq rfl) rfl) rfl rfl) (fun _ _=>rfl)) rfl (.inl rfl))
  (aG (bB iV cX.nd (bf CZTake (hr.mono δ) bK cH (ak (ao cD) (ak (ao jN) aq rfl) rfl) rfl rfl) rfl (.inl rfl))
  (aG (eG (KC (Ft (bW (UW hr.dU) (ao iY) (bD aq) (bN _)) (yC (bW (jg hr.dU) (aR bT (aR bT (ao iY) (zp pW au) (fun _ _=>rfl)) au (fun _ _=>rfl)) (ao iV) (bN _))))) (aN (bB iV cX.nd (aL jF (aL bx (aL bx (ao iV) au) (bf CZTake (hr.mono δ) bK cH (ak (ao cD) (ak (aL gG (ao jN) au) aq rfl) rfl) rfl rfl)) (ao jN)) rfl (.inl rfl))) cN)
  (aG (fJ (gK (ao iY) (bY (ak (ao iZ) (ak (aL gG (aL bx (ao iZ) (ao iW)) au) (ak (ao iV) aq rfl) rfl) rfl)) rfl rfl rfl rfl rfl) rfl)
  (aN (bB iZ cX.nd (aL bx (ao iZ) (ao iW)) rfl (.inl rfl))))))))) (fun _=>rfl))
  (aN (aY (ao iY))))))),?_⟩
 refine aO fun k hk=>?_;push_cast;refine⟨p,100,B,rfl,tp,by show B+2<=1000100;omega,δ,δ,δ,fun z=>absurd z δ,fun r1 H1 r10 r11 s1 tp1=>?_⟩;push_cast;refine⟨⟨δ,δ,δ⟩,?_⟩;refine⟨p,10^9,B+2,rfl,tp1,by show B+2+2<=1000100;omega,δ,δ,δ,fun z=>by decide,fun r2 H2 r20 r21 s2 tp2=>?_⟩;push_cast [EE];refine⟨⟨δ,δ,δ⟩,?_⟩;refine⟨⟨δ,δ,δ⟩,aX δ,fun l0 hl0=>?_⟩;have s3:=aA (o:=HO.lst [V.int 0,V.int (r1-50),V.int (r2-10^BH 8),V.int (0-2^BH 39)]) hl0;have tp3:=tp2.same s3;have n3:=tp2.ne hl0;have e3:upd H2 l0 (HO.lst [V.int 0,V.int (r1-50),V.int (r2-10^BH 8),V.int (0-2^BH 39)]) l0=_:=aB;generalize upd H2 l0 (HO.lst [V.int 0,V.int (r1-50),V.int (r2-10^BH 8),V.int (0-2^BH 39)])=H3 at s3 tp3 e3 |-;refine⟨p,4,B+2+2,rfl,tp3,by show B+2+2+2<=1000100;omega,δ,δ,δ,fun z=>absurd z δ,fun r4 H4 r40 r41 s4 tp4=>?_⟩;obtain⟨lo,hlo,elo⟩:=ql (is:=[0,r1-50,r2-10^BH 8,0-2^BH 39]) r40 r41;replace elo:atI [V.int 0,V.int (r1-50),V.int (r2-10^BH 8),V.int (0-2^BH 39)] r4=some (.int lo):=elo;have e4:=s4 _ _ n3 e3;have blo:-(10^12)<=lo/\lo<=10^9:=by
  simp only[AX,Bz,or_false] at hlo;have:(10:Int)^BH 8=100000000:=by decide
  have:(2:Int)^BH 39=549755813888:=by decide
  rcases hlo with z|z|z|z <;> omega
 have sx4:aW p H H4:=((s1.trans s2).trans s3.x).trans s4;push_cast [e4,elo];subst hk;refine aO fun k hk=>?_;push_cast;refine⟨p,4,B+2+2+2,rfl,tp4,by show B+2+2+2+2<=1000100;omega,δ,δ,δ,fun z=>absurd z δ,fun r5 H5 r50 r51 s5 tp5=>?_⟩;push_cast;subst hk;refine aO fun k hk=>?_;push_cast;refine⟨aX δ,fun l hl=>?_⟩;have sx5:=sx4.trans s5;have hlp:l≠p:=tp5.ne hl;have Hl:H l=none:=(Bd sx5 tp5 hl).2;have s6:=aA (o:=HO.lst []) hl;have tp6:=tp5.same s6;have e6:upd H5 l (HO.lst []) l=_:=aB;generalize upd H5 l (HO.lst [])=H6 at s6 tp6 e6 |-;have sx6:=sx5.trans s6.x;subst hk;obtain⟨OD,hOD⟩:∃OD:Addr->Prop,OD=fun a=>a≠p/\a≠l:=⟨_,rfl⟩;have kd:∀{H H':Hp},aW p H H'->∀a o,OD a->H a=some o->OD a/\H' a=some o:=fun {H H'} sx a o h e=>by
  refine⟨h,sx a o ?_ e⟩;rw[hOD] at h;exact h.1
 refine aO fun k hk=>?_;refine jV fun R hR=>?_;push_cast [pG];refine⟨ω,ω,?_⟩;obtain⟨Pv,hPv⟩:∃Pv:Nat->L2.St->Hp->Prop,Pv=fun(i:Nat) σ H'=>∃(xs:List V)(ss:List (Int×Int×Int)) (lo:Int) (o5 o6 o7 o8:Option V),aW p H H'/\aP H' p (B+8+18*(i:Int))/\H' l=some (.lst xs)/\aH OD H' xs (ss.map stD)/\ss.length=i/\J7 ss /\
  (∀s,ss[ss.length-1]?=some s->lo=s.2.1+1)/\(∀s,ss[0]?=some s->s.1<=10^9)/\-(10^12)<=lo/\lo<=10^9+(10^12+10)*(i:Int)/\σ=[some (.ref p),some (.int m),some (.int lo),some (.int (2+r5)),some (.ref l),o5,o6,o7,o8]:=⟨_,rfl⟩
 refine xJ hR Pv (by rw[hPv];exact⟨[],[],lo,_,_,_,_,sx6,tp6.le (by show B+2+2+2+2<=B+8+18*((0:Nat):Int);omega),e6,.nil,rfl,J7.nil,fun s h=>(by cases h),fun s h=>(by cases h),blo.1,by show lo<=10^9+(10^12+10)*((0:Nat):Int);omega,rfl⟩) ?_ ?_
 ·intro i σ H7 hi pv;rw[hPv] at pv;obtain⟨xs,ss,lo,o5,o6,o7,o8,sx7,tp7,e7,ts7,hsl,row,hlast,hfst,bl1,bl2,rfl⟩:=pv;have hi60:i<60:=ω;refine aO fun k2 hk2=>?_;push_cast;refine⟨⟨δ,δ,δ⟩,⟨δ,δ,δ⟩,aX δ,fun l1 hl1=>?_⟩;have s8:=aA (o:=HO.lst [V.int (10^BH 9),V.int (10^BH 12)]) hl1;have tp8:=tp7.same s8;have n8:=tp7.ne hl1;have e8:=s8 _ _ e7;have ts8:=ts7.same s8;have e81:upd H7 l1 (HO.lst [V.int (10^BH 9),V.int (10^BH 12)]) l1=_:=aB;generalize upd H7 l1 (HO.lst [V.int (10^BH 9),V.int (10^BH 12)])=H8 at s8 tp8 e8 ts8 e81 |-;have sx8:=sx7.trans s8.x;refine⟨p,2,B+8+18*(i:Int),rfl,tp8,by show B+8+18*(i:Int)+2<=1000100;omega,δ,δ,δ,fun z=>absurd z δ,fun r9 H9 r90 r91 s9 tp9=>?_⟩;obtain⟨far,hfar,efar⟩:=ql (is:=[10^BH 9,10^BH 12]) r90 r91;replace efar:atI [V.int (10^BH 9),V.int (10^BH 12)] r9=some (.int far):=efar;have e91:=s9 _ _ n8 e81;have e9:=s9 _ _ hlp e8;have ts9:=ts8.keep (kd s9);have sx9:=sx8.trans s9;have bfar:10^9<=far/\far<=10^12:=by
   simp only[AX,Bz,or_false] at hfar;have:(10:Int)^BH 9=1000000000:=by decide
   have:(10:Int)^BH 12=1000000000000:=by decide
   rcases hfar with z|z <;> omega
  push_cast [e91,efar];subst hk2;refine aO fun k2 hk2=>?_;push_cast;refine⟨p,4,B+8+18*(i:Int)+2,rfl,tp9,by show B+8+18*(i:Int)+2+2<=1000100;omega,δ,δ,δ,fun z=>absurd z δ,fun u1 H10 u10 u11 s10 tp10=>?_⟩;push_cast;refine⟨p,30,B+8+18*(i:Int)+2+2,rfl,tp10,by show B+8+18*(i:Int)+2+2+2<=1000100;omega,δ,δ,δ,fun z=>absurd z δ,fun u2 H11 u20 u21 s11 tp11=>?_⟩;push_cast;refine⟨p,far,B+8+18*(i:Int)+2+2+2,rfl,tp11,by show B+8+18*(i:Int)+2+2+2+2<=1000100;omega,ω,ω,δ,fun _=>by decide,fun u3 H12 u30 u31 s12 tp12=>?_⟩;push_cast;refine⟨aX δ,fun l2 hl2=>?_⟩;have e12:=s12 _ _ hlp (s11 _ _ hlp (s10 _ _ hlp e9));have ts12:=((ts9.keep (kd s10)).keep (kd s11)).keep (kd s12);have sx12:=((sx9.trans s10).trans s11).trans s12;have s13:=aA (o:=HO.lst [V.int 1,V.int 1,V.int 1,V.int (2+u1),V.int (2+u2),V.int (1+u3)]) hl2;have tp13:=tp12.same s13;have n13:=tp12.ne hl2;have e13:=s13 _ _ e12;have ts13:=ts12.same s13;have e132:upd H12 l2 (HO.lst [V.int 1,V.int 1,V.int 1,V.int (2+u1),V.int (2+u2),V.int (1+u3)]) l2=_:=aB;generalize upd H12 l2 (HO.lst [V.int 1,V.int 1,V.int 1,V.int (2+u1),V.int (2+u2),V.int (1+u3)])=H13 at s13 tp13 e13 ts13 e132 |-;have sx13:=sx12.trans s13.x;subst hk2;refine aO fun k2 hk2=>?_;push_cast;refine⟨p,11,B+8+18*(i:Int)+2+2+2+2,rfl,tp13,by show B+8+18*(i:Int)+2+2+2+2+2<=1000100;omega,δ,δ,δ,fun z=>absurd z δ,fun u4 H14 u40 u41 s14 tp14=>?_⟩;have e14:=s14 _ _ hlp e13;have ts14:=ts13.keep (kd s14);have sx14:=sx13.trans s14;have e142:=s14 _ _ n13 e132;have bu:0<=(if u4-5>0 then u4-5 else 0)/\(if u4-5>0 then u4-5 else 0)<6:=by split <;> omega
  obtain⟨wide,hwide,ewide⟩:=ql (is:=[1,1,1,2+u1,2+u2,1+u3]) bu.1 bu.2;replace ewide:atI [V.int 1,V.int 1,V.int 1,V.int (2+u1),V.int (2+u2),V.int (1+u3)] (if u4-5>0 then u4-5 else 0)=some (.int wide):=ewide;have bwide:1<=wide/\wide<=10^12:=by
   simp only[AX,Bz,or_false] at hwide;rcases hwide with z|z|z|z|z|z <;> omega
  push_cast [e142,ewide];subst hk2;refine aO fun k2 hk2=>?_;push_cast;refine⟨p,2+r5,B+8+18*(i:Int)+2+2+2+2+2,rfl,tp14,by show B+8+18*(i:Int)+2+2+2+2+2+2<=1000100;omega,ω,ω,δ,fun z=>absurd z ω,fun lab H15 lab0 lab1 s15 tp15=>?_⟩;have e15:=s15 _ _ hlp e14;have ts15:=ts14.keep (kd s15);have sx15:=sx14.trans s15;push_cast;subst hk2;refine aO fun k2 hk2=>?_;have rest:∀(b:Int) H16 o5 o6,0<=b->b<=9->aW p H H16->H16 l=some (.lst xs)->aH OD H16 xs (ss.map stD)->aP H16 p (B+8+18*(i:Int)+14)->k2 [some (.ref p),some (.int m),some (.int lo),some (.int (2+r5)),some (.ref l),o5,o6,some (.int wide),some (.int b)] H16:=by
   intro b H16 o5 o6 b0 b9 sx16 e16 ts16 tp16;subst hk2;refine aO fun k3 hk3=>?_;push_cast [e16];refine⟨aX δ,fun t ht=>?_⟩;have s17:=aA (o:=HO.tup [V.int lo,V.int (lo+wide-1),V.int b]) ht;have e17:=s17 _ _ e16;have tp17:=tp16.same s17;have ts17:=ts16.same s17;have nt:t≠p:=tp16.ne ht;have nl:t≠l:=(aF e16 ht).symm;have et:upd H16 t (HO.tup [V.int lo,V.int (lo+wide-1),V.int b]) t=_:=aB;generalize upd H16 t (HO.tup [V.int lo,V.int (lo+wide-1),V.int b])=H17 at s17 e17 tp17 ts17 et |-;have hxl:=ts17.length;rw[AG] at hxl;push_cast [e17];refine⟨A8 (show xs.length<1000000 by omega) (aX (A9 _)),?_⟩;have sx18:aW p H (upd H17 l (HO.lst (xs++[V.ref t]))):=vX (sx16.trans s17.x) Hl;have tp18:aP (upd H17 l (HO.lst (xs++[V.ref t]))) p (B+8+18*(i:Int)+14):=tp17.upd hlp;have e18:upd H17 l (HO.lst (xs++[V.ref t])) l=_:=aB;have kk:∀a o,OD a->H17 a=some o->OD a/\upd H17 l (HO.lst (xs++[V.ref t])) a=some o:=fun a o h e=>by
    refine⟨h,?_⟩;rw[hOD] at h;rw[aM h.2];exact e
   have tt:aJ OD H17 (.ref t) (stD (lo,lo+wide-1,b)):=.tup (by rw[hOD];exact⟨nt,nl⟩) et (by show 3<=1000000;decide) (.cons (.int _) (.cons (.int _) (.cons (.int _) .nil)));have ts18:=(ts17.keep kk).append (.cons (tt.keep kk) .nil);generalize upd H17 l (HO.lst (xs++[V.ref t]))=H18 at sx18 tp18 e18 ts18 |-;subst hk3;push_cast;rw[hPv];refine⟨_,ss++[(lo,lo+wide-1,b)],lo+wide,_,_,_,_,sx18,tp18.le (by show B+8+18*(i:Int)+14<=B+8+18*((i+1:Nat):Int);omega),e18,by rw[BC];exact ts18,by rw[AI,BE,hsl],row.snoc ω ⟨b0,b9⟩ ⟨bl1,by rw[hsl];omega⟩ hlast,fun s hs=>?_,fun s hs=>?_,ω,by show lo+wide<=10^9+(10^12+10)*((i+1:Nat):Int);omega,rfl⟩
   ·rw[AI,BE,Nat.add_sub_cancel,Cs (A9 _),IH] at hs;cases hs;show lo+wide=lo+wide-1+1;omega
   cases ss with
   | nil=>
    cases hs;show lo<=10^9;have:i=0:=hsl.symm;subst this;omega
   | cons s0 ss0=>exact hfst s hs
  refine gb fun kt ke hkt hke=>?_;push_cast;refine⟨aX δ,fun l3 hl3=>?_⟩;have s16:=aA (o:=HO.lst []) hl3;refine⟨_,_,xs,rfl,rfl,s16 _ _ e15,aB,?_⟩;have e16:=s16 _ _ e15;have ts16:=ts15.same s16;have sx16:=sx15.trans s16.x;have tp16:=tp15.same s16;generalize upd H15 l3 (HO.lst [])=H16 at s16 e16 ts16 sx16 tp16 |-;have hxl:=ts16.length;rw[AG] at hxl;cases hx:xs.isEmpty with
  | true=>
   push_cast;subst hke;push_cast;exact rest lab H16 _ _ lab0 ω sx16 e16 ts16 (tp16.le (by show B+8+18*(i:Int)+2+2+2+2+2+2<=_;omega))
  | false=>
   have hpos:1<=xs.length:=by
    cases xs with
    | nil=>cases hx
    | cons a b=>simp
   obtain⟨j,x,hxj,hxl2⟩:=Zg xs hpos;obtain⟨ax,sx,rfl,okx,hsx,ex⟩:=ts16.st hxj;push_cast [e16,hxl2,ex];split
   ·subst hkt;push_cast;refine⟨p,2+r5-1,B+8+18*(i:Int)+2+2+2+2+2+2,rfl,tp16,by show B+8+18*(i:Int)+2+2+2+2+2+2+2<=1000100;omega,ω,ω,δ,fun z=>absurd z ω,fun u6 H17 u60 u61 s17 tp17=>?_⟩;push_cast;refine⟨ω,?_⟩;have h1:=EZ (lab+1+u6) (show(2+r5:Int)≠0 by omega);have h2:=DZ (lab+1+u6) (show(0:Int)<2+r5 by omega);exact rest _ H17 _ _ h1 ω (sx16.trans s17) (s17 _ _ hlp e16) (ts16.keep (kd s17)) (tp17.le (by show B+8+18*(i:Int)+2+2+2+2+2+2+2<=_;omega))
   subst hke;push_cast;exact rest lab H16 _ _ lab0 ω sx16 e16 ts16 (tp16.le (by show B+8+18*(i:Int)+2+2+2+2+2+2<=_;omega))
 intro σ H7 pv;rw[hPv] at pv;obtain⟨xs,ss,lo,o5,o6,o7,o8,sx7,tp7,e7,ts7,hsl,row,hlast,hfst,bl1,bl2,rfl⟩:=pv;show k _ _;subst hk;push_cast;have hxl:=ts7.length;rw[AG] at hxl;refine q l ss H7 sx7 (tp7.le ω) (.lst hlp e7 ω (ts7.keep fun a o h e=>?_)) ω row hfst;rw[hOD] at h;exact⟨h.1,e⟩
noncomputable abbrev qT:List Str:=["_law_tape_here","_law_many","_law_most"]
noncomputable abbrev fQ:Stmt:=top 34
theorem Dh:bw qT q0_ (aj fQ):=⟨rfl,rfl,rfl,ψ,rfl,ψ,ψ⟩
theorem K7:NM_ qT fQ 0 "_law_tape_here" := .of ψ
theorem K6:NM_ qT fQ 1 "_law_many" := .of ψ
theorem K5:NM_ qT fQ 2 "_law_most" := .of ψ
theorem Am:GI_ fQ "_law_take" := by decide +kernel
theorem Al:GI_ fQ "range" := by decide +kernel
theorem Ak:GI_ fQ "tuple" := by decide +kernel
theorem RX:Bn "_law_prices" := ⟨ψ,ψ⟩
noncomputable abbrev nT:List Str:=["_law_tape_here","_law_many","_law_most"]
noncomputable abbrev eZ:Stmt:=top 33
theorem zc:bw nT q0_ (aj eZ):=⟨rfl,rfl,rfl,ψ,rfl,ψ,ψ⟩
theorem IW:NM_ nT eZ 0 "_law_tape_here" := .of ψ
theorem IV:NM_ nT eZ 1 "_law_many" := .of ψ
theorem Iw:NM_ nT eZ 2 "_law_most" := .of ψ
theorem yc:GI_ eZ "_law_take" := by decide +kernel
theorem xZ:GI_ eZ "range" := by decide +kernel
theorem Mp:Bn "_law_weights" := ⟨ψ,ψ⟩
theorem Qo (hB:∀x:Str,x∈BLs->mg x=none) (CZTake:Cal P w K mg base "_law_take" 2 q0_ (lA 2)) (F:Fun K "_law_prices" "_law_prices" fQ f fd):dj P w K mg base CX0 3 f fd q0_ Dd:=by
 refine F.okq Dh (fun vs H Q E h=>?_) (fun cdv A outer s H vs Q E hr h=>?_)
 ·obtain⟨p,B,rfl,_⟩:=h;rfl
 obtain⟨p,B,rfl,tp,hB0,hB1,q⟩:=h;refine⟨_,(aG (bB K5 Dh.nd (aR bT (bD (ak au (ak au (ak au aq rfl) rfl) rfl)) (bf CZTake (hr.mono δ) Am cH (ak (ao K7) (ak au aq rfl) rfl) rfl rfl) (fun _ _=>rfl)) rfl (.inl rfl))
  (aN (aY (lF jc Ak (hB "tuple" jt) Fn jw (ak (dG (NX:=qT) (kX:=(aj fQ).names) ["_law_k","_law_tape_here","_law_most"] [none,some 0,some 2] rfl rfl ⟨rfl,ψ,ψ,ψ,ψ⟩ rfl (gB Al (hB "range" fY) (ak (ao K6) aq rfl) rfl) (fun _ _ _ _ _=>(cj 0 (show BM (["_law_k","_law_tape_here","_law_most"]:List Str) from by decide +kernel) rfl (C2 rfl))) (fun _ _ _ _ _=>gF) (fun _ _ _ _ _=>(aL bx au (bf CZTake (hr.mono δ) rfl cH (ak (bG 1) (ak (bG 2) aq rfl) rfl) rfl rfl)))) aq rfl) rfl rfl)))),?_⟩
 refine aO fun k hk=>?_;push_cast;refine⟨aX δ,fun l0 hl0=>?_⟩;have s3:=aA (o:=HO.lst [V.int 1,V.int 5,V.int 99]) hl0;have tp3:=tp.same s3;have n3:=tp.ne hl0;have e3:upd H l0 (HO.lst [V.int 1,V.int 5,V.int 99]) l0=_:=aB;generalize upd H l0 (HO.lst [V.int 1,V.int 5,V.int 99])=H3 at s3 tp3 e3 |-;refine⟨p,3,B,rfl,tp3,by show B+2<=1000100;omega,δ,δ,δ,fun z=>absurd z δ,fun r4 H4 r40 r41 s4 tp4=>?_⟩;obtain⟨mo,hmo,emo⟩:=ql (is:=[1,5,99]) r40 r41;replace emo:atI [V.int 1,V.int 5,V.int 99] r4=some (.int mo):=emo;have e4:=s4 _ _ n3 e3;have bmo:1<=mo/\mo<=99:=by
  simp only[AX,Bz,or_false] at hmo;omega
 push_cast [e4,emo];subst hk;push_cast;refine eV fun R hR=>?_;push_cast [pG];refine⟨δ,δ,?_⟩;obtain⟨Pc,hPc⟩:∃Pv:Nat->List V->L2.St->Hp->Prop,Pv=fun(i:Nat) acc τ H'=>∃(o0:Option V)(zs:List Int),aW p H4 H'/\aP H' p (B+2+2*(i:Int))/\acc=zs.map V.int/\zs.length=i/\(∀z∈zs,1<=z/\z<=99)/\τ=[o0,some (.ref p),some (.int mo)]:=⟨_,rfl⟩;refine Bh hR (aX δ) Pc (by rw[hPc];exact⟨none,[],aW.refl _ _,tp4.le (by show B+2<=B+2+2*0;omega),rfl,rfl,fun z hz=>absurd hz Bz,rfl⟩) ?_ ?_ ?_
 ·intro i acc τ H5 pc;rw[hPc] at pc;obtain⟨_,zs,_,_,rfl,h1,_⟩:=pc;rw[AG];omega
 ·intro i acc τ H5 hi pc;rw[hPc] at pc;obtain⟨o0,zs,s5,tp5,rfl,hl5,hb5,rfl⟩:=pc;push_cast;refine⟨p,mo,_,rfl,tp5,by show B+2+2*(i:Int)+2<=1000100;omega,ω,ω,δ,fun z=>absurd z ω,fun r6 H6 r60 r61 s6 tp6=>?_⟩;push_cast;rw[hPc];refine⟨_,zs++[1+r6],s5.trans s6,tp6.le (by show B+2+2*(i:Int)+2<=B+2+2*((i+1:Nat):Int);omega),by rw[BC];rfl,by rw[AI,hl5];rfl,fun z hz=>?_,rfl⟩;rcases BS.mp hz with hz|hz
  ·exact hb5 z hz
  rw[AJ.mp hz];omega
 intro acc τ H5 d pc hd;rw[hPc] at pc;obtain⟨o0,zs,s5,tp5,rfl,hl5,hb5,rfl⟩:=pc;have s6:=aA (o:=HO.lst (zs.map V.int)) hd;have tp6:=tp5.same s6;have sx6:aW p H (upd H5 d (.lst (zs.map V.int))):=((s3.x.trans s4).trans s5).trans s6.x;refine⟨d,rfl,_,.inl ⟨SqL.of aB,fun t ht=>?_⟩⟩;have s7:=aA (o:=HO.tup (zs.map V.int)) ht;obtain⟨n7,h7⟩:=Bd sx6 tp6 ht;exact q _ zs _ (sx6.trans s7.x) ((tp6.same s7).le (by show B+2+2*(5:Int)<=B+20;omega)) n7 h7 aB hl5 hb5
theorem KY (hB:∀x:Str,x∈BLs->mg x=none) (CZTake:Cal P w K mg base "_law_take" 2 q0_ (lA 2)) (F:Fun K "_law_weights" "_law_weights" eZ f fd):dj P w K mg base CX0 3 f fd q0_ Dc:=by
 refine F.okq zc (fun vs H Q E h=>?_) (fun cdv A outer s H vs Q E hr h=>?_)
 ·obtain⟨p,m,B,rfl,_⟩:=h;rfl
 obtain⟨p,m,B,rfl,tp,hB0,hB1,hm60,q⟩:=h;refine⟨_,(aG (bB Iw zc.nd (aR bT (bD (ak au (ak au (ak au (ak (aL bx (aL tU au au) au) aq rfl) rfl) rfl) rfl)) (bf CZTake (hr.mono δ) yc cH (ak (ao IW) (ak au aq rfl) rfl) rfl rfl) (fun _ _=>rfl)) rfl (.inl rfl))
  (aN (aY (dG (NX:=nT) (kX:=(aj eZ).names) ["_law_k","_law_tape_here","_law_most"] [none,some 0,some 2] rfl rfl ⟨rfl,ψ,ψ,ψ,ψ⟩ rfl (gB xZ (hB "range" fY) (ak (ao IV) aq rfl) rfl) (fun _ _ _ _ _=>(cj 0 (show BM (["_law_k","_law_tape_here","_law_most"]:List Str) from by decide +kernel) rfl (C2 rfl))) (fun _ _ _ _ _=>gF) (fun _ _ _ _ _=>(bf CZTake (hr.mono δ) rfl cH (ak (bG 1) (ak (bG 2) aq rfl) rfl) rfl rfl)))))),?_⟩
 refine aO fun k hk=>?_;push_cast;refine⟨⟨δ,δ,δ⟩,aX δ,fun l0 hl0=>?_⟩;have s3:=aA (o:=HO.lst [V.int 2,V.int 10,V.int 1000,V.int (10^BH 6+1)]) hl0;have tp3:=tp.same s3;have n3:=tp.ne hl0;have e3:upd H l0 (HO.lst [V.int 2,V.int 10,V.int 1000,V.int (10^BH 6+1)]) l0=_:=aB;generalize upd H l0 (HO.lst [V.int 2,V.int 10,V.int 1000,V.int (10^BH 6+1)])=H3 at s3 tp3 e3 |-;refine⟨p,4,B,rfl,tp3,by show B+2<=1000100;omega,δ,δ,δ,fun z=>absurd z δ,fun r4 H4 r40 r41 s4 tp4=>?_⟩;obtain⟨mo,hmo,emo⟩:=ql (is:=[2,10,1000,10^BH 6+1]) r40 r41;replace emo:atI [V.int 2,V.int 10,V.int 1000,V.int (10^BH 6+1)] r4=some (.int mo):=emo;have e4:=s4 _ _ n3 e3;have bmo:2<=mo/\mo<=1000001:=by
  simp only[AX,Bz,or_false] at hmo;have:(10:Int)^BH 6=1000000:=by decide
  omega
 push_cast [e4,emo];subst hk;push_cast;refine eV fun R hR=>?_;push_cast [pG];refine⟨ω,ω,?_⟩;obtain⟨Pc,hPc⟩:∃Pv:Nat->List V->L2.St->Hp->Prop,Pv=fun(i:Nat) acc τ H'=>∃(o0:Option V)(zs:List Int),aW p H4 H'/\aP H' p (B+2+2*(i:Int))/\acc=zs.map V.int/\zs.length=i/\(∀z∈zs,0<=z/\z<=1000000)/\τ=[o0,some (.ref p),some (.int mo)]:=⟨_,rfl⟩;refine Bh hR (aX ω) Pc (by rw[hPc];exact⟨none,[],aW.refl _ _,tp4.le (by show B+2<=B+2+2*0;omega),rfl,rfl,fun z hz=>absurd hz Bz,rfl⟩) ?_ ?_ ?_
 ·intro i acc τ H5 pc;rw[hPc] at pc;obtain⟨_,zs,_,_,rfl,h1,_⟩:=pc;rw[AG];omega
 ·intro i acc τ H5 hi pc;rw[hPc] at pc;obtain⟨o0,zs,s5,tp5,rfl,hl5,hb5,rfl⟩:=pc;push_cast;refine⟨p,mo,_,rfl,tp5,by show B+2+2*(i:Int)+2<=1000100;omega,ω,ω,δ,fun z=>by decide,fun r6 H6 r60 r61 s6 tp6=>?_⟩;rw[hPc];refine⟨_,zs++[r6],s5.trans s6,tp6.le (by show B+2+2*(i:Int)+2<=B+2+2*((i+1:Nat):Int);omega),by rw[BC];rfl,by rw[AI,hl5];rfl,fun z hz=>?_,rfl⟩;rcases BS.mp hz with hz|hz
  ·exact hb5 z hz
  rw[AJ.mp hz];omega
 intro acc τ H5 d pc hd;rw[hPc] at pc;obtain⟨o0,zs,s5,tp5,rfl,hl5,hb5,rfl⟩:=pc;have s6:=aA (o:=HO.lst (zs.map V.int)) hd;have sx5:aW p H H5:=(s3.x.trans s4).trans s5;obtain⟨n7,h7⟩:=Bd sx5 tp5 hd;exact q _ zs _ (sx5.trans s6.x) ((tp5.same s6).le ω) n7 h7 aB ω hb5
end
noncomputable abbrev Mz:List Str:=["_law_number","_law_many"]
noncomputable abbrev nW:Stmt:=top 35
theorem Xp:bw Mz q18_ (aj nW):=⟨rfl,rfl,rfl,ψ,rfl,ψ,ψ⟩
theorem Vj:NM_ Mz nW 1 "_law_many" := .of ψ
theorem Gy:GI_ nW "range" := by decide +kernel
theorem ZW:Bn "_law_left" := ⟨ψ,ψ⟩
noncomputable abbrev W6:List Str:=["_law_left_here"]
noncomputable abbrev uU:Stmt:=top 36
theorem aaI:bw W6 ["_law_left_here"] (aj uU):=⟨rfl,rfl,rfl,ψ,rfl,ψ,ψ⟩
theorem Za:NM_ W6 uU 0 "_law_left_here" := .of ψ
theorem Rh:GI_ uU "sum" := by decide +kernel
theorem Mq:Bn "_law_set" := ⟨ψ,ψ⟩
noncomputable def M9 (n:Nat):Sp:=fun vs H Q _=>∃s:Nat,vs=[.int (s:Int),.int (n:Int)]/\s<2^n/\∀p H',Same H H'->H p=none->H' p=some (.lst (nv (bH n s)))->Q (.ref p) H'
theorem Hf (x i:Nat):((x:Int)/(((2^i:Nat)):Int)%2=1)↔x.testBit i=true:=by
 rw[Nat.testBit_eq_decide_div_mod_eq,decide_eq_true_eq];omega
section
variable {P:AU}{w:Be}{K:Au}{mg:Str->Option An}{base:Heap}{f:Addr}{fd:BU}{bs:List Str}
theorem YS (hB:∀x:Str,x∈BLs->mg x=none) (F:Fun K "_law_set" "_law_set" uU f fd):dj P w K mg base CX0 1 f fd ["_law_left_here"] uH:=by
 refine F.okq aaI (fun vs H Q E h=>?_) (fun cdv A outer s H vs Q E hr h=>?_)
 ·obtain⟨l,left,rfl,_⟩:=h;rfl
 obtain⟨l,left,rfl,el,ll,lk,q⟩:=h;refine⟨_,(aN (aY (bU (lu rfl) Rh (hB "sum" wA) boot_sum wN (ak (dG (NX:=W6) (kX:=(aj uU).names) ["_law_k"] [none] rfl rfl ⟨rfl,ψ,ψ,ψ,ψ⟩ rfl (cU (ao Za)) (fun _ _ _ _ _=>(cj 0 (show BM (["_law_k"]:List Str) from by decide +kernel) rfl (C2 rfl))) (fun _ _ _ _ _=>gF) (fun _ _ _ _ _=>(aL j4 au (bG 0)))) aq rfl) rfl rfl))),?_⟩;push_cast;refine eV fun R hR=>?_;push_cast [el];refine jn (fun k=>((2^k:Nat):Int)) (fun τ=>∃o0,τ=[o0]) hR el ω ⟨_,rfl⟩ ?_ ?_
 ·rintro i k' τ acc Pn hk' ⟨o0,rfl⟩ h1;have:=lk k' (AV hk');push_cast;refine⟨⟨ω,ω,δ⟩,?_⟩;rw[EE,BO,show((2:Int)^k')=((2^k':Nat):Int) by rw[EB];rfl];exact h1 _ ⟨_,rfl⟩
 intro d hd;have s1:=aA (o:=HO.lst ((left.map fun k=>((2^k:Nat):Int)).map V.int)) hd;have e1:upd H d (HO.lst ((left.map fun k=>((2^k:Nat):Int)).map V.int)) d=_:=aB;generalize upd H d (HO.lst ((left.map fun k=>((2^k:Nat):Int)).map V.int))=H1 at s1 e1 |-;push_cast [e1];refine⟨_,rfl,?_⟩;rw[zb];exact q _ s1
theorem U3 {n:Nat}(hn:n<=60) (hB:∀x:Str,x∈BLs->mg x=none) (F:Fun K "_law_left" "_law_left" nW f fd):dj P w K mg base CX0 1 f fd q18_ (M9 n):=by
 refine F.okq Xp (fun vs H Q E h=>?_) (fun cdv A outer s H vs Q E hr h=>?_)
 ·obtain⟨s,rfl,_⟩:=h;rfl
 obtain⟨x,rfl,hx,q⟩:=h;refine⟨_,(aN (aY (dG (NX:=Mz) (kX:=(aj nW).names) ["_law_k","_law_number"] [none,some 0] rfl rfl ⟨rfl,ψ,ψ,ψ,ψ⟩ rfl (gB Gy (hB "range" fY) (ak (ao Vj) aq rfl) rfl) (fun _ _ _ _ _=>(cj 0 (show BM (["_law_k","_law_number"]:List Str) from by decide +kernel) rfl (C2 rfl))) (fun _ _ _ _ _=>(zq (bW (jg hr.dU) (aL jF (aL zy (bG 1) (aL j4 au (bG 0))) au) au (bN _)))) (fun _ _ _ _ _=>(bG 0))))),?_⟩;push_cast;refine eV fun R hR=>?_;push_cast [pG];refine⟨ω,ω,?_⟩;rw[BO];obtain⟨Pc,hPc⟩:∃Pv:Nat->List V->L2.St->Hp->Prop,Pv=fun(i:Nat) acc τ H'=>∃(o0:Option V),H'=H/\acc=nv (bH i x)/\τ=[o0,some (.int (x:Int))]:=⟨_,rfl⟩;refine Bh hR (aX ω) Pc (by rw[hPc];exact⟨_,rfl,rfl,rfl⟩) ?_ ?_ ?_
 ·intro i acc τ H5 pc;rw[hPc] at pc;obtain⟨_,_,rfl,_⟩:=pc;rw[iJ];exact BB (DT _ _) (by rw[GO];exact A9 _)
 ·intro i acc τ H5 hi pc;rw[hPc] at pc;obtain⟨o0,rfl,rfl,rfl⟩:=pc;push_cast;have hp:2^i<2^70:=Nat.pow_lt_pow_right δ ω;have hp0:=EO i;rw[zero_add,EE,BO,show((2:Int)^i)=((2^i:Nat):Int) by rw[EB];rfl];refine⟨⟨ω,ω,δ⟩,⟨ω,ω⟩,δ,?_⟩;rw[hPc];by_cases c:x.testBit i=true
  ·rw[if_pos ((Hf x i).mpr c)];refine⟨_,rfl,?_,rfl⟩;rw[oX,if_pos c];unfold nv;rw[BC];rfl
  rw[if_neg (fun z=>c ((Hf x i).mp z))];refine⟨_,rfl,?_,rfl⟩;rw[oX,if_neg c,Cf]
 intro acc τ H5 d pc hd;rw[hPc] at pc;obtain⟨o0,rfl,rfl,rfl⟩:=pc;exact q d _ (aA hd) hd aB
noncomputable abbrev iD:List Str:=["_law_stretches_here","_law_left_here","_law_labels","_law_whole","_law_span","_law_steps_here","_law_k","_law_ahead","_law_label"]
noncomputable abbrev cF:Stmt:=top 37
theorem jQ:bw iD q11_ (aj cF):=⟨rfl,rfl,rfl,ψ,rfl,ψ,ψ⟩
theorem rG:NM_ iD cF 0 "_law_stretches_here" := .of ψ
theorem jl:NM_ iD cF 1 "_law_left_here" := .of ψ
theorem lq:NM_ iD cF 2 "_law_labels" := .of ψ
theorem rF:NM_ iD cF 3 "_law_whole" := .of ψ
theorem wg:NM_ iD cF 4 "_law_span" := .of ψ
theorem lg:NM_ iD cF 5 "_law_steps_here" := .of ψ
theorem m9:NM_ iD cF 6 "_law_k" := .of ψ
theorem rE:NM_ iD cF 7 "_law_ahead" := .of ψ
theorem Qx:NM_ iD cF 8 "_law_label" := .of ψ
theorem oK:GI_ cF "_law_set" := by decide +kernel
theorem xG:GI_ cF "int" := by decide +kernel
theorem Jk:GI_ cF "len" := by decide +kernel
theorem xu:GI_ cF "max" := by decide +kernel
theorem xr:GI_ cF "min" := by decide +kernel
theorem Jj:GI_ cF "set" := by decide +kernel
theorem Ag:GI_ cF "sorted" := by decide +kernel
theorem WK:Bn "_law_steps" := ⟨ψ,ψ⟩
theorem Ql (hB:∀x:Str,x∈BLs->mg x=none) (CZSet:Cal P w K mg base "_law_set" 1 ["_law_left_here"] uH) (F:Fun K "_law_steps" "_law_steps" cF f fd):dj P w K mg base CX0 2 f fd q11_ Hy:=by
 refine F.okq jQ (fun vs H Q E h=>?_) (fun cdv A outer s H vs Q E hr h=>?_)
 ·obtain⟨s,la,ok,ss,left,rfl,_⟩:=h;rfl
 obtain⟨s,la,ok,ss,left,rfl,hnw,ts,el,lf,h60,ll,q⟩:=h;refine⟨_,(aG (X5 (NX:=iD) (kX:=(aj cF).names) ["_law_k","_law_stretches_here"] [none,some 0] lq jQ.nd rfl rfl ⟨rfl,ψ,ψ,ψ,ψ⟩ rfl (cU (ao jl)) (fun _ _ _ _ _=>(cj 0 (show BM (["_law_k","_law_stretches_here"]:List Str) from by decide +kernel) rfl (C2 rfl))) (fun _ _ _ _ _=>gF) (fun _ _ _ _ _=>(aR bT (aR bT (bG 1) (bG 0) (fun _ _=>rfl)) au (fun _ _=>rfl))))
  (aG (bB rF jQ.nd (bf CZSet (hr.mono δ) oK Mq (ak (ao jl) aq rfl) rfl rfl) rfl (.inl rfl))
  (aG (bB wg jQ.nd (aL bx (aL gG (aR bT (aR bT (ao rG) (aR bT (ao jl) (zp pW au) (fun _ _=>rfl)) (fun _ _=>rfl)) au (fun _ _=>rfl)) (aR bT (aR bT (ao rG) (aR bT (ao jl) au (fun _ _=>rfl)) (fun _ _=>rfl)) au (fun _ _=>rfl))) au) rfl (.inl rfl))
  (aG (bB lg jQ.nd (aL bx (aL fK (bD (ak (bY (ak dg (ak (bD aq) aq rfl) rfl)) aq rfl)) (lF lU xG (hB "int" qF) HQ qQ (ak (v8 (jg hr.dU) (bU (rR rfl) xr (hB "min" zZ) boot_min Bl (ak (ao lq) aq rfl) rfl rfl) (bU (DY rfl) xu (hB "max" Lg) boot_max Ml (ak (ao lq) aq rfl) rfl rfl) (bN _)) aq rfl) rfl rfl)) (aL fK (bD (ak (bY (ak dg (ak (bD aq) aq rfl) rfl)) aq rfl)) (lF lU xG (hB "int" qF) HQ qQ (ak (v8 NP (ao wg) au (bN _)) aq rfl) rfl rfl))) rfl (.inl rfl))
  (aG (iI BQ rfl (cU (ao jl)) (fU m9 jQ.nd (.inl rfl))
  (aG (eG (bW zx (bU cO Jk (hB "len" ig) B0 iu (ak (ao jl) aq rfl) rfl rfl) au (bN _)) (aG (fJ (gK (ao lg) (bY (ak dg (ak (bD (ak (aL gG (ao rF) (aL j4 au (ao m9))) aq rfl)) aq rfl) rfl)) rfl rfl rfl rfl rfl) rfl)
  (aN (eG (bW (jg hr.dU) (aR bT (aR bT (ao rG) (ao m9) (fun _ _=>rfl)) au (fun _ _=>rfl)) (aR bT (aR bT (ao rG) (ao m9) (fun _ _=>rfl)) au (fun _ _=>rfl)) (bN _)) (aN (fJ (gK (ao lg) (bY (ak dg (ak (bD (ak (aL gG (ao rF) (aL j4 au (ao m9))) aq rfl)) aq rfl) rfl)) rfl rfl rfl rfl rfl) rfl)) cN))) cN)
  (aG (bB rE jQ.nd (bf CZSet (hr.mono δ) oK Mq (ak (dG (NX:=iD) (kX:=(aj cF).names) ["_law_one","_law_k"] [none,some 6] rfl rfl ⟨rfl,ψ,ψ,ψ,ψ⟩ rfl (cU (ao jl)) (fun _ _ _ _ _=>(cj 0 (show BM (["_law_one","_law_k"]:List Str) from by decide +kernel) rfl (C2 rfl))) (fun _ _ _ _ _=>(zq (bW Dl (bG 0) (bG 1) (bN _)))) (fun _ _ _ _ _=>(bG 0))) aq rfl) rfl rfl) rfl (.inl rfl))
  (aN (eG (bW zx (ao rE) au (bN _)) (aN (fJ (gK (ao lg) (bY (ak dg (ak (bD (ak (ao rE) (ak (aL gG (ao rF) (ao rE)) aq rfl) rfl)) aq rfl) rfl)) rfl rfl rfl rfl rfl) rfl)) cN)))) (fun _=>rfl))
  (aG (iI BQ rfl (cU (Nt rfl Ag (hB "sorted" Dz) Jj (hB "set" Vw) (ak (ao lq) aq rfl))) (fU Qx jQ.nd (.inl rfl))
  (aN (eG (KC (Ft (bW NP (ao wg) au (bN _)) (yC (bW Dl (bU (rR rfl) xr (hB "min" zZ) boot_min Bl (ak (ao lq) aq rfl) rfl rfl) (bU (DY rfl) xu (hB "max" Lg) boot_max Ml (ak (ao lq) aq rfl) rfl rfl) (bN _))))) (aN (fJ (gK (ao lg) (bY (ak dg (ak (bD (ak (bf CZSet (hr.mono δ) oK Mq (ak (dG (NX:=iD) (kX:=(aj cF).names) ["_law_k","_law_label","_law_stretches_here"] [none,some 8,some 0] rfl rfl ⟨rfl,ψ,ψ,ψ,ψ⟩ rfl (cU (ao jl)) (fun _ _ _ _ _=>(cj 0 (show BM (["_law_k","_law_label","_law_stretches_here"]:List Str) from by decide +kernel) rfl (C2 rfl))) (fun _ _ _ _ _=>(zq (bW (v9 hr.dU) (aR bT (aR bT (bG 2) (bG 0) (fun _ _=>rfl)) au (fun _ _=>rfl)) (bG 1) (bN _)))) (fun _ _ _ _ _=>(bG 0))) aq rfl) rfl rfl) aq rfl)) aq rfl) rfl)) rfl rfl rfl rfl rfl) rfl)) cN)) (fun _=>rfl))
  (aN (aY (ao lg))))))))),?_⟩
 cases ts with
 | lst os es zs tss=>
  rename_i sa sxs;refine aO fun k hk=>?_;push_cast;refine eV fun R hR=>?_;push_cast [el];refine jn (lbl ss) (fun τ=>∃o0,τ=[o0,some (.ref sa)]) hR el ω ⟨_,rfl⟩ ?_ ?_
  ·rintro i k' τ acc Pn hk' ⟨o0,rfl⟩ h1;obtain⟨p1,x1,y1⟩:=tss.stN (lf.lt _ (AV hk'));push_cast [es,x1,y1];exact h1 _ ⟨_,rfl⟩
  intro lb hlb;have s1:=aA (o:=HO.lst ((left.map (lbl ss)).map V.int)) hlb;have e1:upd H lb (HO.lst ((left.map (lbl ss)).map V.int)) lb=some (HO.lst ((left.map (lbl ss)).map V.int)):=aB;generalize upd H lb (HO.lst ((left.map (lbl ss)).map V.int))=H1 at s1 e1 |-;subst hk;refine aO fun k hk=>?_;push_cast;refine⟨la,left,rfl,s1 _ _ el,ω,fun k hk=>by have:=lf.lt k hk;omega,fun H2 s2=>?_⟩;push_cast;subst hk;have sH2:=s1.trans s2;have e2:=s2 _ _ e1;refine aO fun k hk=>?_;have el2:=sH2 _ _ el;have es2:=sH2 _ _ es;obtain⟨k1,z1,m1,a1⟩:=N6 lf.ne;obtain⟨k0,z0,m0,a0⟩:=N7 lf.ne;obtain⟨p1,x1,y1⟩:=(tss.same sH2).stN (lf.lt _ m1);obtain⟨p0,x0,y0⟩:=(tss.same sH2).stN (lf.lt _ m0);have spn:dY ss left=(iH ss k1).2.1-(iH ss k0).1+1:=by
   unfold dY;rw[z1,z0];rfl
  push_cast [el2,a1,a0,es2,x1,x0,y1,y0];rw[<- spn];subst hk;clear el2 es2 z1 z0 m1 m0 a1 a0 x1 x0 y1 y0 spn;refine aO fun k hk=>?_;push_cast [e2];have hmp:∀{P:Prop},(left.map (lbl ss)=[]->P):=fun {P} z=>absurd (IU.mp z) lf.ne;refine⟨aX δ,fun p hp=>⟨aX δ,fun p1 hp1=>⟨aX δ,fun p2 hp2=>?_⟩⟩⟩;have sa1:=aA (o:=HO.lst []) hp;have sa2:=aA (o:=HO.tup [V.str "pick",V.ref p]) hp1;have sa3:=aA (o:=HO.lst [V.ref p1]) hp2;have ea3:upd (upd (upd H2 p (HO.lst [])) p1 (HO.tup [V.str "pick",V.ref p])) p2 (HO.lst [V.ref p1]) p2=some (HO.lst [V.ref p1]):=aB;have tp:∀l,aJ ok (upd (upd (upd H2 p (HO.lst [])) p1 (HO.tup [V.str "pick",V.ref p])) p2 (HO.lst [V.ref p1])) (.ref p1) (stW ss left (.pick l)):=fun l=>(aJ.tup (hnw.new ((sH2.trans sa1).none hp1)) aB (by show 2<=1000000;decide) (.cons (.str _) (.cons ((aJ.lst (hnw.new (sH2.none hp)) aB (by show 0<=1000000;decide) .nil:aJ ok (upd H2 p (HO.lst [])) (.ref p) (.list [])).same sa2) .nil))).same sa3;have sH3:=sH2.trans (sa1.trans (sa2.trans sa3));have e3:=(sa1.trans (sa2.trans sa3)) _ _ e2;generalize upd (upd (upd H2 p (HO.lst [])) p1 (HO.tup [V.str "pick",V.ref p])) p2 (HO.lst [V.ref p1])=H3 at sH3 e3 ea3 tp |-;clear sa1 sa2 sa3 hp hp1 hp2;refine⟨_,.inl e3,hmp,fun mn a1 a2=>⟨_,.inl e3,hmp,fun mx a3 a4=>?_⟩⟩;have mm:MinMax ss left mn mx:=⟨a1,a2,a3,a4⟩;push_cast [ea3];have key:∀{c:Prop} [Decidable c],(0:Int)<=(if c then 1 else 0)/\(if c then (1:Int) else 0)<=1:=by intro c _;split <;> decide
  have rep:∀{c:Prop} [Decidable c] (v:V),(B3 (if c then (1:Int) else 0).toNat [v]).flatten=if c then [v] else []:=by intro c _ v;split <;> rfl
  have k1:=key (c:=mn=mx);have k2:=key (c:=dY ss left<=200);rw[rep];refine⟨ω,ω,aX ω,fun q1 hq1=>⟨aX δ,fun q2 hq2=>⟨aX δ,fun q3 hq3=>⟨aX δ,fun q4 hq4=>?_⟩⟩⟩⟩;have eq1:upd H3 q1 (HO.lst (if mn=mx then [V.ref p1] else [])) q1=some (HO.lst (if mn=mx then [V.ref p1] else [])):=aB;have sb1:=aA (o:=HO.lst (if mn=mx then [V.ref p1] else [])) hq1;generalize upd H3 q1 (HO.lst (if mn=mx then [V.ref p1] else []))=H4 at sb1 eq1 hq2 hq3 hq4 |-;have sb2:=aA (o:=HO.lst []) hq2;have sb3:=aA (o:=HO.tup [V.str "table",V.ref q2]) hq3;have sb4:=aA (o:=HO.lst [V.ref q3]) hq4;have tt:aJ ok (upd (upd (upd H4 q2 (HO.lst [])) q3 (HO.tup [V.str "table",V.ref q2])) q4 (HO.lst [V.ref q3])) (.ref q3) (stW ss left .tab):=(aJ.tup (hnw.new (((sH3.trans sb1).trans sb2).none hq3)) aB (by show 2<=1000000;decide) (.cons (.str _) (.cons ((aJ.lst (hnw.new ((sH3.trans sb1).none hq2)) aB (by show 0<=1000000;decide) .nil:aJ ok (upd H4 q2 (HO.lst [])) (.ref q2) (.list [])).same sb3) .nil))).same sb4;have eq4:upd (upd (upd H4 q2 (HO.lst [])) q3 (HO.tup [V.str "table",V.ref q2])) q4 (HO.lst [V.ref q3]) q4=some (HO.lst [V.ref q3]):=aB;have sb5:=sb2.trans (sb3.trans sb4);generalize upd (upd (upd H4 q2 (HO.lst [])) q3 (HO.tup [V.str "table",V.ref q2])) q4 (HO.lst [V.ref q3])=H5 at sb5 tt eq4 |-;have eq1':=sb5 _ _ eq1;push_cast [eq4];rw[rep];refine⟨ω,ω,aX ω,fun q5 hq5=>?_⟩;have sb6:=aA (o:=HO.lst (if dY ss left<=200 then [V.ref q3] else [])) hq5;have eq5:upd H5 q5 (HO.lst (if dY ss left<=200 then [V.ref q3] else [])) q5=_:=aB;have eq6:=sb6 _ _ eq1';have tt6:=tt.same sb6;have sH6:=(sH3.trans sb1).trans (sb5.trans sb6);have tp6:=fun l=>(tp l).same (sb1.trans (sb5.trans sb6));have eb6:=(sb1.trans (sb5.trans sb6)) _ _ e3;generalize upd H5 q5 (HO.lst (if dY ss left<=200 then [V.ref q3] else []))=H6 at sH6 eq5 eq6 tt6 tp6 eb6 |-;push_cast [eq5,eq6];have t0:aH ok H6 ((if mn=mx then [V.ref p1] else [])++if dY ss left<=200 then [V.ref q3] else []) ((xV mn mx++wyT ss left).map (stW ss left)):=by
   rw[BC];refine aH.append ?_ ?_
   ·unfold xV;split
    ·exact .cons (tp6 _) .nil
    exact .nil
   unfold wyT;split
   ·exact .cons tt6 .nil
   exact .nil
  have l0:(xV mn mx++wyT ss left).length<=2:=by
   rw[AI];have h1:(xV mn mx).length<=1:=by unfold xV;split <;> simp
   have h2:(wyT ss left).length<=1:=by unfold wyT;split <;> simp
   omega
  have lx0:=t0.length;rw[AG] at lx0;rw[<- AI];generalize ((if mn=mx then [V.ref p1] else [])++if dY ss left<=200 then [V.ref q3] else [])=xs0 at t0 lx0 |-;refine⟨aX ω,fun r hr0=>?_⟩;clear sb1 sb5 sb6 eq1 eq1' eq4 eq5 eq6 tt6 tp6 tt tp e3 ea3 e2 e1 a1 a2 a3 a4 k1 k2 sb2 sb3 sb4 hq1 hq2 hq3 hq4 hq5 s1 s2 sH2 sH3 hlb;have hrn:H r=none:=sH6.none hr0;have hbr:lb≠r:=aF eb6 hr0;subst hk;obtain⟨ok2,hok2⟩:∃ok2:Addr->Prop,ok2=fun a=>ok a/\a≠r:=⟨_,rfl⟩;have ok2r:∀a,ok2 a->a≠r:=fun a h=>by rw[hok2] at h;exact h.2
  have nwk:∀{H':Hp}{xs:List V},Same H H'->H' r=some (.lst xs)->cJ ok2 H':=fun {H' xs} sH er H3 q s' hq=>by
   rw[hok2];exact⟨hnw H3 q (sH.trans s') hq,(aF (s' _ _ er) hq).symm⟩
  obtain⟨So,hSo⟩:∃So:List Wy->Hp->Prop,So=fun W H'=>∃xs,Same H H'/\H' lb=some (HO.lst ((left.map (lbl ss)).map V.int))/\H' r=some (.lst xs)/\xs.length=W.length/\aH ok2 H' xs (W.map (stW ss left)):=⟨_,rfl⟩;have so6:So (xV mn mx++wyT ss left) (upd H6 r (.lst xs0)):=by
   rw[hSo];exact⟨xs0,sH6.trans (aA hr0),(aM hbr).trans eb6,aB,lx0,t0.keep fun a o h e=>⟨by rw[hok2];exact⟨h,aF e hr0⟩,by rw[aM (aF e hr0)];exact e⟩⟩
  generalize hW0:xV mn mx++wyT ss left=W0 at *;generalize upd H6 r (.lst xs0)=H7 at so6 |-
  -- one by one
  have put:∀{W:List Wy}{σ:L2.St}{te:TE}{D:Ends}{H8:Hp}(wy:Wy),So W H8->W.length<=300->σ[5]?=some (some (.ref r))->(∀xs,Same H H8->H8 r=some (.lst xs)->Gv ok2 te σ H8 (stW ss left wy))->(∀H9,So (W++[wy]) H9->aW r H8 H9->D.nx σ H9)->wX (yR (tV 5) te) D σ H8:=by
   intro W σ te D H8 wy so hl hσ hg hn;rw[hSo] at so;obtain⟨xs,s8,eb8,er8,lx8,t8⟩:=so;refine uE (ok:=ok2) hσ er8 ω ok2r t8 (hg xs s8 er8) fun v H9 s9 t9=>hn _ ?_ fun b o n h=>by rw[aM n];exact s9 _ _ h
   rw[hSo];exact⟨_,eY (s8.trans s9) hrn,(aM hbr).trans (s9 _ _ eb8),aB,by rw[AI,AI,lx8];rfl,by rw[BC];exact t9⟩
  have so_el:∀{W H8},So W H8->Same H H8:=fun h=>by rw[hSo] at h;obtain⟨_,s,_⟩:=h;exact s
  have so_st:∀{W H8 H9},So W H8->Same H8 H9->So W H9:=fun h s=>by
   rw[hSo] at h |-;obtain⟨xs,s8,eb8,er8,lx8,t8⟩:=h;exact⟨xs,s8.trans s,s _ _ eb8,s _ _ er8,lx8,t8.same s⟩
  refine aO fun k hk=>?_;refine jV fun R hR=>?_;have el7:=so_el so6 _ _ el;push_cast [lN,mF,el7,oJ];obtain⟨Pv,hPv⟩:∃Pv:Nat->L2.St->Hp->Prop,Pv=fun(i:Nat) σ H'=>∃(o6 o7:Option V),So (W0++(left.take i).flatMap (pJ ss left)) H'/\σ=[some (.ref sa),some (.ref la),some (.ref lb),some (.int ((aZ left:Nat):Int)),some (.int (dY ss left)),some (.ref r),o6,o7,none]:=⟨_,rfl⟩;refine DQ hR (xs:=nv left) Pv (by rw[hPv];exact⟨_,_,by rw[take_zero,flatMap_nil,Cf];exact so6,rfl⟩) ?_ ?_ ?_
  ·intro i σ H3 _ pv;rw[hPv] at pv;obtain⟨_,_,so,_⟩:=pv;exact SqL.of (so_el so _ _ el)
  ·intro i x σ H3 hx pv;rw[hPv] at pv;obtain⟨o6,o7,so3,rfl⟩:=pv;obtain⟨k',hk',rfl⟩:∃k':Nat,left[i]?=some k'/\x=.int (k':Int):=by
    unfold nv at hx;rw[A5] at hx;obtain⟨k',h1,h2⟩:=B8.mp hx;exact⟨k',h1,h2.symm⟩
   have mk:=AV hk';have hil:i<left.length:=(AR.mp hk').1;have hwl:=rN ss left (left.take i);rw[DL] at hwl;have fm:(left.take (i+1)).flatMap (pJ ss left)=(left.take i).flatMap (pJ ss left)++pJ ss left k':=by
    rw[take_snoc hk',List.flatMap_append,GS,flatMap_nil,Cf]
   have hlk:=Jf ss left k';have l1:(W0++(left.take i).flatMap (pJ ss left)).length<=200:=by rw[AI];omega
   have sub:∀{H8:Hp},Gv ok2 (tOp (rI0 fun i j=>V.int (i-j)) (tV 3) (tOp (rI Z9 fun i j=>V.int (i*2^j.toNat)) (tC (V.int 1)) (tV 6))) [some (.ref sa),some (.ref la),some (.ref lb),some (.int ((aZ left:Nat):Int)),some (.int (dY ss left)),some (.ref r),some (.int (k':Int)),o7,none] H8 (ptD (left.filter (·≠k'))):=by
    intro H8 H9 s9 Q9 q9;push_cast;refine⟨⟨ω,by have:=lf.lt _ mk;omega,δ⟩,?_⟩;rw[HB lf.up mk];exact q9 _ _ (Same.refl _) (.int _)
   show Kg _ _ _ _ _;simp only[DB,DA];refine aO fun k2 hk2=>?_;have aft:∀(W1:List Wy) H8,So (W0++(left.take i).flatMap (pJ ss left)++W1) H8->W1.length<=2->W1++(if left.filter (· < k')=[] then [] else [.low k'])=pJ ss left k'->k2 [some (.ref sa),some (.ref la),some (.ref lb),some (.int ((aZ left:Nat):Int)),some (.int (dY ss left)),some (.ref r),some (.int (k':Int)),o7,none] H8:=by
    intro W1 H8 so8 hl8 hW1;subst hk2;refine aO fun k2 hk2=>?_;have el8:=so_el so8 _ _ el;push_cast;refine eV fun R2 hR2=>?_;push_cast [el8];refine wL (fun j=>decide (j<k')) (fun τ=>∃o0,τ=[o0,some (.int (k':Int))]) hR2 el8 ω ⟨_,rfl⟩ ?_ ?_
    ·rintro i j τ acc Pn hj ⟨o0,rfl⟩ h1 h2;push_cast;by_cases c:j<k'
     ·rw[if_pos ω];exact h1 (decide_eq_true c) _ ⟨_,rfl⟩
     rw[if_neg ω];exact h2 (decide_eq_false c) _ ⟨_,rfl⟩
    intro d hd;refine⟨d,_,rfl,aB,BB (DT ..) ω,fun k hk=>by have:=lf.lt k (Ev.mp hk).1;omega,fun H9 s9=>?_⟩;have so9:=so_st so8 ((aA hd).trans s9);push_cast;subst hk2;refine gb fun kt ke hkt hke=>?_;push_cast;by_cases c:left.filter (· < k')=[]
    ·rw[if_pos c,Cf] at hW1;have z:aZ (left.filter (· < k'))=0:=by rw[c];rfl
     rw[if_neg ω];subst hke;show Pv _ _ _;rw[hPv];exact⟨_,_,by rw[fm,<- hW1,<- D7];exact so9,rfl⟩
    rw[if_neg c] at hW1;have z:=uK c;rw[if_pos ω];subst hkt;refine put (.low k') so9 (by rw[AI];omega) rfl (fun xs s8 er8=>eU (nwk s8 er8) (aD ji (aD (dm (nwk s8 er8) (aD (gvV rfl (.int _)) (aD (wC (gvV rfl (.int _)) (gvV rfl (.int _)) (fun H Q q=>⟨_,_,rfl,rfl,by show Q (V.int (_-_)) H;rw[yZ lf.up];exact q⟩)) aU)) (by show 2<=1000000;decide)) aU)) (by show 2<=1000000;decide)) fun H10 so10 sx10=>?_;show Pv _ _ _;rw[hPv];exact⟨_,_,by rw[fm,<- hW1,<- D7,<- D7];exact so10,rfl⟩
   refine gb fun kt ke hkt hke=>?_;have el3:=so_el so3 _ _ el;push_cast [el3];rw[iJ];unfold pJ at aft;by_cases c1:1<left.length
   ·rw[if_pos ω];rw[if_pos c1] at aft;subst hkt;refine aO fun k3 hk3=>?_;refine put (.wit k') so3 ω rfl (fun xs s8 er8=>eU (nwk s8 er8) (aD ji (aD (dm (nwk s8 er8) (aD sub aU) (by show 1<=1000000;decide)) aU)) (by show 2<=1000000;decide)) fun H9 so9 _=>?_;show k3 _ _;subst hk3;refine gb fun kt ke hkt hke=>?_;obtain⟨pk,xk,yk⟩:=(tss.same (so_el so9)).stN (lf.lt _ mk);have es9:=so_el so9 _ _ es;push_cast [es9,xk,yk];by_cases c2:(iH ss k').1=(iH ss k').2.1
    ·rw[if_pos c2];rw[if_pos c2] at aft;subst hkt;refine put (.one k') so9 (by rw[AI,BE];omega) rfl (fun xs s8 er8=>eU (nwk s8 er8) (aD ji (aD (dm (nwk s8 er8) (aD sub aU) (by show 1<=1000000;decide)) aU)) (by show 2<=1000000;decide)) fun H10 so10 sx10=>?_;exact aft _ _ (by rw[D7] at so10;exact so10) (by simp) rfl
    rw[if_neg c2];rw[if_neg c2] at aft;subst hke;exact aft _ _ so9 (by simp) rfl
   rw[if_neg ω];rw[if_neg c1] at aft;subst hke;exact aft [] _ (by rw[Cf];exact so3) (by simp) rfl
  intro σ H3 pv;rw[hPv] at pv;obtain⟨o6,o7,so3,rfl⟩:=pv;rw[iJ,C0] at so3;show k _ _;subst hk;refine aO fun k hk=>?_;refine jV fun R hR=>?_;push_cast [tSS];have eb3:H3 lb=some (HO.lst ((left.map (lbl ss)).map V.int)):=by
   rw[hSo] at so3;obtain⟨_,_,h,_⟩:=so3;exact h
  refine⟨left.map (lbl ss),SqL.of eb3,by rw[AG];omega,fun p L hp perm _=>?_⟩;have hLl:L.length<=left.length:=by
   have h1:=perm.length_eq;have h2:=SRT.yJ (left.map (lbl ss));rw[AG] at h2;omega
  have hL:qX ss left L:=⟨perm.nodup_iff.mpr (SRT.wK _),fun l=>by
   rw[perm.mem_iff,SRT.Ox,D9]⟩
  have so4:=so_st so3 (aA (o:=HO.lst (L.map V.int)) hp);have ep4:upd H3 p (HO.lst (L.map V.int)) p=some (HO.lst (L.map V.int)):=aB;have hpr:p≠r:=fun z=>by
   rw[hSo] at so3;obtain⟨xs,_,_,h,_⟩:=so3;rw[z,h] at hp;cases hp
  generalize upd H3 p (HO.lst (L.map V.int))=H4 at so4 ep4 |-;have hw4:=rN ss left left;have hw5:=VD (mn:=mn) (mx:=mx) (Og hL lf) hLl lf;have hwm:=Vu hL lf mm;unfold VF at hw5 hwm;rw[hW0] at hw5 hwm;generalize hW3:W0++left.flatMap (pJ ss left)=W3 at *;have l3:W3.length<=182:=by rw[<- hW3,AI];omega
  obtain⟨cM,hcM⟩:∃c:Bool,c=decide (dY ss left<=64/\mn<mx):=⟨_,rfl⟩;have eM:Li ss left L mn mx=if cM=true then L.map Wy.msk else []:=by
   unfold Li;by_cases c:dY ss left<=64/\mn<mx
   ·rw[hcM,if_pos c,decide_eq_true c,if_pos rfl]
   rw[hcM,if_neg c,decide_eq_false c,if_neg δ]
  obtain⟨Pw,hPw⟩:∃Pv:Nat->L2.St->Hp->Prop,Pv=fun(i:Nat) σ H'=>∃(o6 o8:Option V),So (W3++if cM=true then (L.take i).map Wy.msk else []) H'/\H' p=some (HO.lst (L.map V.int))/\σ=[some (.ref sa),some (.ref la),some (.ref lb),some (.int ((aZ left:Nat):Int)),some (.int (dY ss left)),some (.ref r),o6,o7,o8]:=⟨_,rfl⟩;refine DQ hR (xs:=L.map V.int) Pw (by rw[hPw];exact⟨_,_,by rw[take_zero,map_nil,ite_self,Cf];exact so4,ep4,rfl⟩) ?_ ?_ ?_
  ·intro i σ H5 _ pv;rw[hPw] at pv;obtain⟨_,_,_,ep,_⟩:=pv;exact SqL.of ep
  ·intro i x σ H5 hx pv;rw[hPw] at pv;obtain⟨o6,o8,so5,ep5,rfl⟩:=pv;rw[A5] at hx;obtain⟨l,hl,rfl⟩:=B8.mp hx;have hil:i<L.length:=(AR.mp hl).1;show PL _ _ _ _ _ _;simp only[DB,DA];refine gb fun kt ke hkt hke=>?_;push_cast;have eb5:H5 lb=some (HO.lst ((left.map (lbl ss)).map V.int)):=by
    rw[hSo] at so5;obtain⟨_,_,h,_⟩:=so5;exact h
   have no:cM=false->Pw (i+1) [some (.ref sa),some (.ref la),some (.ref lb),some (.int ((aZ left:Nat):Int)),some (.int (dY ss left)),some (.ref r),o6,o7,some (.int l)] H5:=fun z=>by
    rw[hPw];rw[if_neg (by rw[z];decide)] at so5;exact⟨_,_,by rw[if_neg (by rw[z];decide)];exact so5,ep5,rfl⟩
   by_cases c1:dY ss left<=64
   ·rw[if_pos c1];refine⟨_,.inl eb5,hmp,fun mn' a1 a2=>⟨_,.inl eb5,hmp,fun mx' a3 a4=>?_⟩⟩;have e1:mn'=mn:=Int.le_antisymm (a2 _ mm.a) (mm.b _ a1);have e2:mx'=mx:=Int.le_antisymm (mm.d _ a3) (a4 _ mm.c);subst e1 e2;by_cases c2:mn'<mx'
    ·rw[if_pos c2];have hc:cM=true:=by rw[hcM];exact decide_eq_true ⟨c1,c2⟩
     rw[if_pos hc] at so5;subst hkt;refine put (.msk l) so5 (by rw[AI,AG,DL];omega) rfl (fun xs s8 er8=>eU (nwk s8 er8) (aD ji (aD (dm (nwk s8 er8) (aD ?_ aU) (by show 1<=1000000;decide)) aU)) (by show 2<=1000000;decide)) fun H10 so10 sx10=>?_
     ·intro H7 s7 Q7 q7;have sH7:=s8.trans s7;have el7:=sH7 _ _ el;have es7:=sH7 _ _ es;push_cast;refine eV fun R2 hR2=>?_;push_cast [el7];refine wL (fun k=>(iH ss k).2.2≠l) (fun τ=>∃o0,τ=[o0,some (.int l),some (.ref sa)]) hR2 el7 ω ⟨_,rfl⟩ ?_ ?_
      ·rintro i k' τ acc Pn hk' ⟨o0,rfl⟩ h1 h2;obtain⟨p1,x1,y1⟩:=(tss.same sH7).stN (lf.lt _ (AV hk'));push_cast [es7,x1,y1];by_cases c:(iH ss k').2.2=l
       ·rw[decide_eq_true c,if_neg δ];exact h2 (by simpa using c) _ ⟨_,rfl⟩
       rw[decide_eq_false c,if_pos (show(!false)=true from rfl)];exact h1 (by simpa using c) _ ⟨_,rfl⟩
      intro d hd;refine⟨d,_,rfl,aB,BB (DT ..) ω,fun k hk=>by have:=lf.lt k (Ev.mp hk).1;omega,fun H8 s8=>q7 _ H8 ((aA hd).trans s8) (.int _)⟩
     show Pw _ _ _;rw[hPw];exact⟨_,_,by rw[if_pos hc,take_snoc hl,BC,<- D7];exact so10,sx10 _ _ hpr ep5,rfl⟩
    rw[if_neg c2];subst hke;exact no (by rw[hcM];exact decide_eq_false fun z=>c2 z.2)
   rw[if_neg c1];subst hke;exact no (by rw[hcM];exact decide_eq_false fun z=>c1 z.1)
  intro σ H5 pv;rw[hPw] at pv;obtain⟨o6',o8,so5,ep5,rfl⟩:=pv;rw[AG,C0,<- eM] at so5;show k _ _;subst hk;push_cast;rw[hSo] at so5;obtain⟨xs,s5,eb5,er5,lx5,t5⟩:=so5;exact q r xs _ H5 s5 hrn er5 hwm (t5.keep fun a o h e=>⟨by rw[hok2] at h;exact h.1,e⟩) (by rw[lx5];exact hw5)
noncomputable abbrev xM:List Str:=["_law_stretches_here","_law_scale","_law_left_here","_law_word","_law_words","_law_span"]
noncomputable abbrev lE:Stmt:=top 38
theorem Ko:bw xM q7_ (aj lE):=⟨rfl,rfl,rfl,ψ,rfl,ψ,ψ⟩
theorem Oa:NM_ xM lE 0 "_law_stretches_here" := .of ψ
theorem yF:NM_ xM lE 1 "_law_scale" := .of ψ
theorem FP:NM_ xM lE 2 "_law_left_here" := .of ψ
theorem yE:NM_ xM lE 3 "_law_word" := .of ψ
theorem FN:NM_ xM lE 4 "_law_words" := .of ψ
theorem N8:NM_ xM lE 5 "_law_span" := .of ψ
theorem Rj:GI_ lE "int" := by decide +kernel
theorem Ri:GI_ lE "sum" := by decide +kernel
theorem ab2:Bn "_law_own" := ⟨ψ,ψ⟩
theorem YT (hB:∀x:Str,x∈BLs->mg x=none) (F:Fun K "_law_own" "_law_own" lE f fd):dj P w K mg base CX0 1 f fd q7_ (Tf qR):=by
 refine F.okq Ko (fun vs H Q E h=>?_) (fun cdv A outer s H vs Q E hr h=>?_)
 ·obtain⟨s,sc,la,ok,f,ss,left,w,rfl,_⟩:=h;rfl
 obtain⟨s,sc,la,ok,f',ss,left,wy,rfl,ts,⟨wa,z,ws,zs,rfl,esc,ew,hwl,ez,h5,few⟩,el,lf,h60,ll,q⟩:=h;refine⟨_,(aG (bB FN Ko.nd (bD (ak dg (ak dg (ak dg (ak dg (ak dg aq rfl) rfl) rfl) rfl) rfl)) rfl (.inl rfl))
  (aG (eG (bW (jg hr.dU) (ao yE) dg (bN _)) (aN (aY au)) cN)
  (aG (eG (bW (jg hr.dU) (aR bT (ao yF) au (fun _ _=>rfl)) dg (bN _)) (aN (aY (aL fK (aR bT (aR bT (ao yF) au (fun _ _=>rfl)) (Nv hr.un1 (ao FN) (ao yE)) (fun _ _=>rfl)) (bU (lu rfl) Ri (hB "sum" wA) boot_sum wN (ak (dG (NX:=xM) (kX:=(aj lE).names) ["_law_k","_law_scale"] [none,some 1] rfl rfl ⟨rfl,ψ,ψ,ψ,ψ⟩ rfl (cU (ao FP)) (fun _ _ _ _ _=>(cj 0 (show BM (["_law_k","_law_scale"]:List Str) from by decide +kernel) rfl (C2 rfl))) (fun _ _ _ _ _=>gF) (fun _ _ _ _ _=>(aR bT (aR bT (bG 1) au (fun _ _=>rfl)) (bG 0) (fun _ _=>rfl)))) aq rfl) rfl rfl)))) cN)
  (aG (bB N8 Ko.nd (aL bx (aL gG (aR bT (aR bT (ao Oa) (aR bT (ao FP) (zp pW au) (fun _ _=>rfl)) (fun _ _=>rfl)) au (fun _ _=>rfl)) (aR bT (aR bT (ao Oa) (aR bT (ao FP) au (fun _ _=>rfl)) (fun _ _=>rfl)) au (fun _ _=>rfl))) au) rfl (.inl rfl))
  (aN (aY (aL bx (aR bT (aR bT (ao yF) au (fun _ _=>rfl)) (Nv hr.un1 (ao FN) (ao yE)) (fun _ _=>rfl)) (aL fK (aL fK (aR bT (aR bT (ao yF) au (fun _ _=>rfl)) au (fun _ _=>rfl)) (ao N8)) (lF lU Rj (hB "int" qF) HQ qQ (ak (v8 (jg hr.dU) (ao yE) dg (bN _)) aq rfl) rfl rfl))))))))),?_⟩
 refine aO fun k hk=>?_;push_cast;refine⟨aX δ,fun d hd=>?_⟩;have s1:=aA (o:=HO.lst (jC.map V.str)) hd;have e1:upd H d (HO.lst (jC.map V.str)) d=some (HO.lst (jC.map V.str)):=aB;change k _ (upd H d (HO.lst (jC.map V.str)));generalize upd H d (HO.lst (jC.map V.str))=H1 at s1 e1 |-;subst hk;refine aO fun k hk=>?_;refine gb fun kt ke hkt hke=>?_;push_cast;by_cases c:vh (jP wy)=true
 ·have e:jP wy=.pick 0\/∃l,jP wy=.pick l:=by
   cases wy with
   | pick l=>exact .inr ⟨l,rfl⟩
   | _=>cases c
  obtain⟨l,e⟩:∃l,jP wy=.pick l:=e.elim (fun z=>⟨0,z⟩) id;rw[e] at q |-;rw[if_pos (show lz (Pl.pick l) = "pick" from rfl)];subst hkt;push_cast;exact q _ s1
 replace c:vh (jP wy)=false:=eq_false_iff.mpr c;have hne:¬lz (jP wy) = "pick" := by
  cases wy with
  | pick l=>cases c
  | tab=>exact(by decide +kernel:("table" : Str) ≠ "pick")
  | msk l=>exact(by decide +kernel:("mask" : Str) ≠ "pick")
  | one l=>exact(by decide +kernel:("is" : Str) ≠ "pick")
  | wit l=>exact(by decide +kernel:("within" : Str) ≠ "pick")
  | low l=>exact(by decide +kernel:("below" : Str) ≠ "pick")
 rw[if_neg hne];subst hke;show k _ _;subst hk;refine aO fun k hk=>?_;refine gb fun kt ke hkt hke=>?_;have esc1:=s1 _ _ esc;push_cast [esc1];subst hkt;have ez1:=s1 _ _ ez;have el1:=s1 _ _ el;have ew1:=s1 _ _ ew;push_cast [esc1,ez1,e1,S5];have hix:ug (jP wy)<5:=by cases wy <;> (simp only[jP,mkP,ug];omega)
 have hat:=yL (zs:=zs) (i:=ug (jP wy)) ω;refine⟨jC,true,SqL.of e1,SqL.of e1,ug (jP wy),LR c,?_⟩;push_cast [hat];refine eV fun R2 hR2=>?_;push_cast [el1];refine jn (fun k=>ws.getD k 0) (fun τ=>∃o0,τ=[o0,some (.ref sc)]) hR2 el1 ω ⟨_,rfl⟩ ?_ ?_
 ·rintro i k' τ acc Pn hk' ⟨o0,rfl⟩ h1;have hwk:=yL (zs:=ws) (i:=k') (by rw[hwl];exact lf.lt _ (AV hk'));push_cast [esc1,ew1,hwk];exact h1 _ ⟨_,rfl⟩
 intro d2 hd2;have s3:=aA (o:=HO.lst ((left.map fun k=>ws.getD k 0).map V.int)) hd2;have e3:upd H1 d2 (HO.lst ((left.map fun k=>ws.getD k 0).map V.int)) d2=_:=aB;generalize upd H1 d2 (HO.lst ((left.map fun k=>ws.getD k 0).map V.int))=H3 at s3 e3 |-;push_cast [e3];refine⟨_,rfl,?_⟩;have hq:=q _ (s1.trans s3);rw[zG c] at hq;have hf:=few.at (ug (jP wy));exact⟨.inl hf,hq⟩
end
noncomputable abbrev iG:List Str:=["thing","many"]
noncomputable abbrev bC:Stmt:=top 12
theorem uR:bw iG ["thing","many"] (aj bC):=⟨rfl,rfl,rfl,ψ,rfl,ψ,ψ⟩
theorem jh:NM_ iG bC 0 "thing" := .of ψ
theorem ud:NM_ iG bC 1 "many" := .of ψ
theorem qL:GI_ bC "all" := by decide +kernel
theorem kE:GI_ bC "isinstance" := by decide +kernel
theorem qK:GI_ bC "len" := by decide +kernel
theorem pP:GI_ bC "list" := by decide +kernel
theorem vM:Bn "is_list_of_numbers" := ⟨ψ,ψ⟩
noncomputable abbrev jW:List Str:=["stretches","charges","numbers","some"]
noncomputable abbrev bZ:Stmt:=top 21
theorem uQ:bw jW q13_ (aj bZ):=⟨rfl,rfl,rfl,ψ,rfl,ψ,ψ⟩
theorem Cg:NM_ jW bZ 0 "stretches" := .of ψ
theorem Ce:NM_ jW bZ 1 "charges" := .of ψ
theorem mQ:NM_ jW bZ 2 "numbers" := .of ψ
theorem mO:NM_ jW bZ 3 "some" := .of ψ
theorem qJ:GI_ bZ "bounds_of" := by decide +kernel
theorem nJ:GI_ bZ "charged_ways" := by decide +kernel
theorem yh:GI_ bZ "len" := by decide +kernel
theorem yg:GI_ bZ "min" := by decide +kernel
theorem vG:GI_ bZ "range" := by decide +kernel
theorem G7:Bn "shows_least" := ⟨ψ,ψ⟩
noncomputable abbrev jX:List Str:=["stretches","weights","prices","thing"]
noncomputable abbrev cB:Stmt:=top 22
theorem EY:bw jX q4_ (aj cB):=⟨rfl,rfl,rfl,ψ,rfl,ψ,ψ⟩
theorem mR:NM_ jX cB 0 "stretches" := .of ψ
theorem Cj:NM_ jX cB 1 "weights" := .of ψ
theorem Ci:NM_ jX cB 2 "prices" := .of ψ
theorem sX:NM_ jX cB 3 "thing" := .of ψ
theorem nM:GI_ cB "cost_charges" := by decide +kernel
theorem kj:GI_ cB "is_list_of_numbers" := by decide +kernel
theorem yj:GI_ cB "len" := by decide +kernel
theorem oO:GI_ cB "shows_least" := by decide +kernel
theorem vL:Bn "shows_costs" := ⟨ψ,ψ⟩
theorem Fy:∀{ds:List AD},(ds.map fZ).all id=true->∃N:List Int,ds=N.map AD.int
 | [],_=>⟨[],rfl⟩
 | d::ds,h=>by
  rw[DV,all_cons,C7] at h;obtain⟨N,e⟩:=Fy h.2;cases d with
  | int i=>exact⟨i::N,by rw[e];rfl⟩
  | _=>exact absurd h.1 A4
theorem zF:∀N:List Int,((N.map AD.int).map fZ).all id=true
 | []=>rfl
 | i::N=>zF N
theorem Ip:∀{N M:List Int},AD.list (N.map AD.int)=.list (M.map AD.int)->N=M:=by
 intro N M h;have h2:N.map AD.int=M.map AD.int:=AD.list.inj h;exact List.map_inj_right (fun a b e=>by cases e;rfl) |>.mp h2
section
variable {P:AU}{w:Be}{K:Au}{mg:Str->Option An}{base:Heap}{f:Addr}{fd:BU}{bs:List Str}
theorem Vd (hB:∀x:Str,x∈BLs->mg x=none) (CIsNumber:Cal P w K mg base "is_number" 1 ["thing"] Tg) (F:Fun K "is_list_of_numbers" "is_list_of_numbers" bC f fd):dj P w K mg base CX0 2 f fd ["thing","many"] spListN:=by
 refine F.okq uR (fun vs H Q E h=>?_) (fun cdv A outer s H vs Q E hr h=>?_)
 ·obtain⟨v,m,ok,d,rfl,_⟩:=h;rfl
 obtain⟨v,m,ok,d,rfl,hn,t,q⟩:=h;refine⟨_,(aN (aY (KH (bU eE kE (hB "isinstance" bL) B1 bM (ak (ao jh) (ak (jT "list" pP (hB "list" mC) GW mJ) aq rfl) rfl) rfl rfl) (KH (v8 (jg hr.dU) (bU cO qK (hB "len" ig) B0 iu (ak (ao jh) aq rfl) rfl rfl) (ao ud) (bN _)) (KD (bU (RT rfl) qL (hB "all" abE) PyProof.Rows.Boot.«all» ab1 (ak (dG (NX:=iG) (kX:=(aj bC).names) ["part"] [none] rfl rfl ⟨rfl,ψ,ψ,ψ,ψ⟩ rfl (cU (ao jh)) (fun _ _ _ _ _=>(cj 0 (show BM (["part"]:List Str) from by decide +kernel) rfl (C2 rfl))) (fun _ _ _ _ _=>gF) (fun _ _ _ _ _=>(bf CIsNumber (hr.mono δ) rfl Mr (ak (bG 0) aq rfl) rfl rfl))) aq rfl) rfl rfl)))))),?_⟩;have no:(∀ds,d≠.list ds)->∀H',Same H H'->Q (.bl false) H':=fun h H' s=>by
  have:=q H' s;rw[tG] at this
  ·exact this
  rintro⟨N,rfl,_⟩;exact h _ rfl
 cases t with
 | non=>push_cast;exact no (fun ds z=>by cases z) _ (Same.refl _)
 | bl b=>push_cast;exact no (fun ds z=>by cases z) _ (Same.refl _)
 | int i=>push_cast;exact no (fun ds z=>by cases z) _ (Same.refl _)
 | str x=>push_cast;exact no (fun ds z=>by cases z) _ (Same.refl _)
 | tup o e z t=>push_cast [e];exact no (fun ds z=>by cases z) _ (Same.refl _)
 | lst o e z t=>
  rename_i p xs ds;have hl:=t.length;push_cast [e];split
  ·rename_i c;have hlm:ds.length=m:=ω;refine eV fun R hR=>?_;push_cast [e];obtain⟨Pc,hPc⟩:∃Pv:Nat->List V->L2.St->Hp->Prop,Pv=fun(i:Nat) acc τ H'=>∃(o0:Option V),Same H H'/\acc=((ds.take i).map fZ).map V.bl/\τ=[o0]:=⟨_,rfl⟩;refine oW hR (xs:=xs) (aX z) Pc (by rw[hPc];exact⟨_,Same.refl _,rfl,rfl⟩) ?_ ?_ ?_ ?_
   ·intro i acc τ H2 pc;rw[hPc] at pc;obtain⟨_,_,rfl,_⟩:=pc;rw[AG,AG];exact G1 _ _
   ·intro i acc τ H2 pc;rw[hPc] at pc;obtain⟨_,s2,_⟩:=pc;exact SqL.of (s2 _ _ e)
   ·intro i y acc τ H2 hy pc;rw[hPc] at pc;obtain⟨o0,s2,rfl,rfl⟩:=pc;obtain⟨d,hd,td⟩:=(t.same s2).get hy;push_cast;refine⟨_,ok,d,rfl,td,?_⟩;rw[hPc];exact⟨_,s2,by rw[take_snoc hd,BC,BC];rfl,rfl⟩
   intro acc τ H2 d pc hd;rw[hPc] at pc;obtain⟨o0,s2,rfl,rfl⟩:=pc;rw[hl,C0];have s3:=s2.trans (aA (o:=HO.lst ((ds.map fZ).map V.bl)) hd);have e3:upd H2 d (HO.lst ((ds.map fZ).map V.bl)) d=some (HO.lst ((ds.map fZ).map V.bl)):=aB;generalize upd H2 d (HO.lst ((ds.map fZ).map V.bl))=H3 at s3 e3 |-;push_cast [e3];refine⟨_,rfl,?_⟩;have:=q H3 s3;by_cases all:(ds.map fZ).all id=true
   ·obtain⟨N,rfl⟩:=Fy all;rw[Ed ⟨N,rfl,by rw[AG] at hlm;exact hlm⟩] at this;rw[all];exact this
   rw[tG] at this
   ·rw[eq_false_iff.mpr all];exact this
   rintro⟨N,h1,h2⟩;cases h1;exact all (zF N)
  rename_i c;have:=q H (Same.refl _);rw[tG] at this
  ·exact this
  rintro⟨N,h1,h2⟩;cases h1;rw[AG] at hl;omega
theorem Qm {f':nR}{n:Nat}(hn:n<=12) (hB:∀x:Str,x∈BLs->mg x=none) (CChargedWays:Cal P w K mg base "charged_ways" 4 q9_ (rA f' n)) (CBoundsOf:Cal P w K mg base "bounds_of" 1 q15_ (uJ f')) (F:Fun K "shows_least" "shows_least" bZ f fd):dj P w K mg base CX0 5 f fd q13_ (spShowsL f' n):=by
 refine F.okq uQ (fun vs H Q E h=>?_) (fun cdv A outer s H vs Q E hr h=>?_)
 ·obtain⟨s,ca,na,ok,ss,N,rfl,_⟩:=h;rfl
 obtain⟨s,ca,na,ok,ss,N,rfl,hnw,ts,hsn,hch,en,hN,q⟩:=h;refine⟨_,(aG (iI BQ rfl (v7 vG (hB "range" fY) (ak au (ak (bU cO yh (hB "len" ig) B0 iu (ak (ao mQ) aq rfl) rfl rfl) aq rfl) rfl) rfl rfl) (fU mO uQ.nd (.inl rfl))
  (aN (eG (bW zx (aR bT (ao mQ) (ao mO) (fun _ _=>rfl)) (bU (rR rfl) yg (hB "min" zZ) boot_min Bl (ak (bf CBoundsOf (hr.mono δ) qJ Bo (ak (bf CChargedWays (hr.mono δ) nJ tE (ak (ao Cg) (ak (ao Ce) (ak (ao mO) aq rfl) rfl) rfl) rfl rfl) (ak (ao mQ) aq rfl) rfl) rfl rfl) aq rfl) rfl rfl) (bN _)) (aN (aY jB)) cN)) (fun _=>rfl))
  (aN (aY jB))),?_⟩
 refine aO fun k hk=>?_;refine jV fun R hR=>?_;push_cast [en,Jh];have p2:2^n<=4096:=BB (CH δ hn) δ;have p1:=EO n;rw[AG,hN];generalize hm:2^n=m at p1 p2 hN q |-;rw[show((m:Int)-1).toNat=m-1 by omega];refine⟨⟨δ,δ,ω,ω⟩,?_⟩;have le0:∀m',m'<m->Below f' ss n N m'->¬Below f' ss n N (m'+1)->¬Below f' ss n N m:=fun m' h1 _ h2 h3=>h2 fun x h0 hx=>h3 x h0 ω;obtain⟨Pv,hPv⟩:∃Pv:Nat->L2.St->Hp->Prop,Pv=fun(i:Nat) σ H'=>∃(o3:Option V),Same H H'/\Below f' ss n N (i+1)/\σ=[some s,some (.ref ca),some (.ref na),o3]:=⟨_,rfl⟩;refine xJ hR Pv (by rw[hPv];exact⟨_,Same.refl _,fun x h0 hx=>ω,rfl⟩) ?_ ?_
 ·intro i σ H3 hi pv;rw[hPv] at pv;obtain⟨o3,s3,bl,rfl⟩:=pv;have him:i+1<2^n:=ω;have lf:=mK hsn (show 0<i+1 by omega) him;have hset:=lB him;have en3:=s3 _ _ en;have nat:atI (N.map V.int) ((i+1:Nat):Int)=some (.int (N.getD (i+1) 0)):=yL ω;push_cast;rw[show(1:Int)+(i:Int)=((i+1:Nat):Int) by omega];push_cast [en3,nat];refine⟨s,ca,i+1,ok,ss,rfl,hnw.same s3,ts.same s3,hsn,ω,him,hch.same s3,fun r xs W H4 s4 hr0 er4 hW t4 hx4=>?_⟩;push_cast;have en4:=s4 _ _ en3;refine⟨r,na,ok,ss,bH n (i+1),xs,W,N,rfl,⟨er4,t4,hx4,en4,fun w hw p hp=>?_⟩,fun b H5 s5 hb0 eb5=>?_⟩
  ·obtain⟨_,q2,_⟩:=lG lf ((hW w).mp hw) p hp;omega
  push_cast;refine⟨_,.inl eb5,fun z=>?_,fun M hM hle=>?_⟩
  ·obtain⟨w1,hw1⟩:=aac lf;have:=(hW w1).mpr hw1;rw[IU.mp z] at this;cases this
  have s35:=s3.trans (s4.trans s5);split
  ·rename_i c;have:=q H5 s35;rw[tG] at this
   ·exact this
   intro h;obtain⟨w1,hw1,rfl⟩:=D9.mp hM;have:=h (i+1) ω ω w1 ((hW w1).mp hw1);omega
  rename_i c;rw[hPv];refine⟨_,s35,fun x h0 hx w hw=>?_,rfl⟩;by_cases e:x=i+1
  ·subst e;have:=hle _ (FX ((hW w).mpr hw));omega
  exact bl x h0 ω w hw
 intro σ H3 pv;rw[hPv] at pv;obtain⟨o3,s3,bl,rfl⟩:=pv;rw[show m-1+1=m by omega] at bl;show k _ _;subst hk;push_cast;have:=q H3 s3;rw[Ed bl] at this;exact this
theorem Qn {n:Nat}(hB:∀x:Str,x∈BLs->mg x=none) (CIsListOfNumbers:Cal P w K mg base "is_list_of_numbers" 2 ["thing","many"] spListN) (CCostCharges:Cal P w K mg base "cost_charges" 2 q2_ (rz n)) (CShowsLeast':∀ws zs,Cal P w K mg base "shows_least" 5 q13_ (spShowsL (cT ws zs) n)) (hn:n<=12) (F:Fun K "shows_costs" "shows_costs" cB f fd):dj P w K mg base CX0 6 f fd q4_ (spShowsC n):=by
 refine F.okq EY (fun vs H Q E h=>?_) (fun cdv A outer s H vs Q E hr h=>?_)
 ·obtain⟨s,v,wa,z,ok,ss,ws,zs,d,rfl,_⟩:=h;rfl
 obtain⟨s,v,wa,z,ok,ss,ws,zs,d,rfl,hnw,ts,hsn,ew,hwl,ez,h5,few,td,q⟩:=h;have CShowsLeast:=CShowsLeast' ws zs;refine⟨_,(aG (eG (vZ (jD (bf CIsListOfNumbers (hr.mono δ) kj vM (ak (ao sX) (ak (aL j4 au (bU cO yj (hB "len" ig) B0 iu (ak (ao mR) aq rfl) rfl rfl)) aq rfl) rfl) rfl rfl) (fun _=>rfl))) (aN (aY jB)) cN)
  (aN (aY (bf CShowsLeast (hr.mono δ) oO G7 (ak (ao mR) (ak (bf CCostCharges (hr.mono δ) nM tD (ak (ao mR) (ak (ao Cj) (ak (ao Ci) aq rfl) rfl) rfl) rfl rfl) (ak (ao sX) aq rfl) rfl) rfl) rfl rfl)))),?_⟩
 refine aO fun k hk=>?_;have p2:2^n<=4096:=BB (CH δ hn) δ;have ts0:=ts;cases ts with
 | lst os es zz tss=>
  rename_i sa sxs;have hsl:=tss.length;rw[AG,hsn] at hsl;push_cast [es];rw[EE,hsl,BO,show((2:Int)^n)=((2^n:Nat):Int) by rw[EB];rfl];refine⟨⟨ω,ω,δ⟩,?_⟩;refine⟨v,2^n,ok,d,rfl,hnw,td,fun H1 s1=>?_⟩;by_cases c:∃N,O9 (2^n) d N
  ·rw[Ed c];push_cast;obtain⟨N,rfl,hN⟩:=c;subst hk;push_cast;refine⟨_,wa,z,ok,ss,ws,zs,rfl,hnw.same s1,ts0.same s1,hsn,s1 _ _ ew,hwl,s1 _ _ ez,h5,few,fun ca H2 s2 hca hch=>?_⟩;have s12:=s1.trans s2;have td2:=td.same s12;cases td2 with
   | lst od ed zd tdd=>
    cases aH.ints tdd;push_cast;refine⟨_,ca,_,ok,ss,N,rfl,hnw.same s12,ts0.same s12,hsn,hch,ed,hN,fun H3 s3=>?_⟩;push_cast;have:=q H3 (s12.trans s3);by_cases b:Below (cT ws zs) ss n N (2^n)
    ·rw[Ed b];rw[Ed ⟨N,⟨rfl,hN⟩,b⟩] at this;exact this
    rw[tG b];rw[tG] at this
    ·exact this
    rintro⟨M,⟨h1,h2⟩,h3⟩;cases Ip h1;exact b h3
  rw[tG c];push_cast;have:=q H1 s1;rw[tG] at this
  ·exact this
  rintro⟨N,h1,h2⟩;exact c ⟨N,h1⟩
noncomputable abbrev jy:List Str:=["_law_stretches_here","_law_scale","_law_thing","_law_many","_law_number","_law_left_here","_law_word","_law_sets"]
noncomputable abbrev cG:Stmt:=top 39
theorem m5:bw jy q1_ (aj cG):=⟨rfl,rfl,rfl,ψ,rfl,ψ,ψ⟩
theorem wu:NM_ jy cG 0 "_law_stretches_here" := .of ψ
theorem Qy:NM_ jy cG 1 "_law_scale" := .of ψ
theorem rK:NM_ jy cG 2 "_law_thing" := .of ψ
theorem rJ:NM_ jy cG 3 "_law_many" := .of ψ
theorem wk:NM_ jy cG 4 "_law_number" := .of ψ
theorem wj:NM_ jy cG 5 "_law_left_here" := .of ψ
theorem Ds:NM_ jy cG 6 "_law_word" := .of ψ
theorem Dr:NM_ jy cG 7 "_law_sets" := .of ψ
theorem Cu:GI_ cG "_law_left" := by decide +kernel
theorem Gu:GI_ cG "_law_own" := by decide +kernel
theorem Aj:GI_ cG "_law_steps" := by decide +kernel
theorem Jp:GI_ cG "any" := by decide +kernel
theorem uq:GI_ cG "isinstance" := by decide +kernel
theorem xH:GI_ cG "len" := by decide +kernel
theorem Gs:GI_ cG "list" := by decide +kernel
theorem Cr:GI_ cG "range" := by decide +kernel
theorem Jo:GI_ cG "sum" := by decide +kernel
theorem JR:Bn "_law_shows" := ⟨ψ,ψ⟩
theorem any_nums {ds:List AD}:(ds.map fun d=>!fZ d).any id=!(ds.map fZ).all id:=by
 induction ds with
 | nil=>rfl
 | cons d ds ih=>
  rw[DV,any_cons,ih,DV,all_cons];cases fZ d <;> rfl
theorem Qp {Sc:ScP}(hSc:W4 Sc) {n:Nat}(hn:n<=12) (hB:∀x:Str,x∈BLs->mg x=none) (CZLeft:Cal P w K mg base "_law_left" 1 q18_ (M9 n)) (CZSteps:Cal P w K mg base "_law_steps" 2 q11_ Hy) (CZOwn:Cal P w K mg base "_law_own" 1 q7_ (Tf Sc)) (F:Fun K "_law_shows" "_law_shows" cG f fd):dj P w K mg base CX0 3 f fd q1_ (spLShows Sc n):=by
 refine F.okq m5 (fun vs H Q E h=>?_) (fun cdv A outer s H vs Q E hr h=>?_)
 ·obtain⟨s,v,sc,ok,f,ss,d,rfl,_⟩:=h;rfl
 obtain⟨s,v,sc,ok,f',ss,d,rfl,hnw,ts,hsn,hsc,td,q⟩:=h;refine⟨_,(aG (bB rJ m5.nd (bU cO xH (hB "len" ig) B0 iu (ak (ao wu) aq rfl) rfl rfl) rfl (.inl rfl))
  (aG (eG (KC (Nr (vZ (jD (bU eE uq (hB "isinstance" bL) B1 bM (ak (ao rK) (ak (jT "list" Gs (hB "list" mC) GW mJ) aq rfl) rfl) rfl rfl) (fun _=>rfl))) (Kz (bW (v9 hr.dU) (bU cO xH (hB "len" ig) B0 iu (ak (ao rK) aq rfl) rfl rfl) (aL j4 au (ao rJ)) (bN _))))) (aN (aY jB)) cN)
  (aG (eG (jD (bU (RQ rfl) Jp (hB "any" abC) PyProof.Rows.Boot.«any» ab0 (ak (dG (NX:=jy) (kX:=(aj cG).names) ["_law_one"] [none] rfl rfl ⟨rfl,ψ,ψ,ψ,ψ⟩ rfl (cU (ao rK)) (fun _ _ _ _ _=>(cj 0 (show BM (["_law_one"]:List Str) from by decide +kernel) rfl (C2 rfl))) (fun _ _ _ _ _=>gF) (fun _ _ _ _ _=>(acr (bU eE rfl (hB "isinstance" bL) B1 bM (ak (bG 0) (ak (jT "bool" rfl (hB "bool" vg) boot_bool vK) aq rfl) rfl) rfl rfl) (KD (Um (bU eE rfl (hB "isinstance" bL) B1 bM (ak (bG 0) (ak (jT "int" rfl (hB "int" qF) HQ qQ) aq rfl) rfl) rfl rfl)))))) aq rfl) rfl rfl) (fun _=>rfl)) (aN (aY jB)) cN)
  (aG (iI BQ rfl (v7 Cr (hB "range" fY) (ak au (ak (aL j4 au (ao rJ)) aq rfl) rfl) rfl rfl) (fU wk m5.nd (.inl rfl))
  (aG (bB wj m5.nd (bf CZLeft (hr.mono δ) Cu ZW (ak (ao wk) (ak (ao rJ) aq rfl) rfl) rfl rfl) rfl (.inl rfl))
  (aN (iI BQ rfl (cU (bf CZSteps (hr.mono δ) Aj WK (ak (ao wu) (ak (ao wj) aq rfl) rfl) rfl rfl)) (nZ (n:=2) rfl (cR (fU Ds m5.nd (.inl rfl)) (cR (fU Dr m5.nd (.inl rfl)) j8 rfl) rfl) rfl rfl)
  (aN (eG (bW zx (aR bT (ao rK) (ao wk) (fun _ _=>rfl)) (aL bx (bf CZOwn (hr.mono δ) Gu ab2 (ak (ao wu) (ak (ao Qy) (ak (ao wj) (ak (ao Ds) aq rfl) rfl) rfl) rfl) rfl rfl) (bU (lu rfl) Jo (hB "sum" wA) boot_sum wN (ak (dG (NX:=jy) (kX:=(aj cG).names) ["_law_one","_law_thing"] [none,some 2] rfl rfl ⟨rfl,ψ,ψ,ψ,ψ⟩ rfl (cU (ao Dr)) (fun _ _ _ _ _=>(cj 0 (show BM (["_law_one","_law_thing"]:List Str) from by decide +kernel) rfl (C2 rfl))) (fun _ _ _ _ _=>gF) (fun _ _ _ _ _=>(aR bT (bG 1) (bG 0) (fun _ _=>rfl)))) aq rfl) rfl rfl)) (bN _)) (aN (aY jB)) cN)) (fun _=>rfl)))) (fun _=>rfl))
  (aN (aY jB)))))),?_⟩
 have p2:2^n<=4096:=BB (CH δ hn) δ;have p1:=EO n;have no:(¬ ∃N,O9 (2^n) d N)->∀H',Same H H'->Q (.bl false) H':=fun h H' s=>by
  have:=q H' s;rw[tG] at this
  ·exact this
  rintro⟨N,h1,_⟩;exact h ⟨N,h1⟩
 have nol:(∀ds,d≠.list ds)->∀H',Same H H'->Q (.bl false) H':=fun h=>no fun⟨N,h1,_⟩=>h _ h1;have ts0:=ts;cases ts with
 | lst os es zs tss=>
  rename_i sa sxs;have hsl:=tss.length;rw[AG,hsn] at hsl;refine aO fun k hk=>?_;push_cast [es];rw[hsl];subst hk;refine aO fun k hk=>?_;cases td with
  | non=>push_cast;exact nol (fun ds z=>by cases z) _ (Same.refl _)
  | bl b=>push_cast;exact nol (fun ds z=>by cases z) _ (Same.refl _)
  | int i=>push_cast;exact nol (fun ds z=>by cases z) _ (Same.refl _)
  | str x=>push_cast;exact nol (fun ds z=>by cases z) _ (Same.refl _)
  | tup o e z t=>push_cast [e];exact nol (fun ds z=>by cases z) _ (Same.refl _)
  | lst ov ev zv tv=>
   rename_i va vxs ds;have hvl:=tv.length;push_cast [ev];rw[EE,BO,show((2:Int)^n)=((2^n:Nat):Int) by rw[EB];rfl];refine⟨⟨ω,ω,δ⟩,?_⟩;by_cases hlen:vxs.length=2^n
   ·rw[hlen,decide_eq_true rfl,if_neg δ];subst hk;refine aO fun k hk=>?_;push_cast;refine eV fun R hR=>?_;push_cast [ev];obtain⟨Pc,hPc⟩:∃Pv:Nat->List V->L2.St->Hp->Prop,Pv=fun(i:Nat) acc τ H'=>∃(o0:Option V),Same H H'/\acc=((ds.take i).map fun d=>!fZ d).map V.bl/\τ=[o0]:=⟨_,rfl⟩;refine oW hR (xs:=vxs) (aX zv) Pc (by rw[hPc];exact⟨_,Same.refl _,rfl,rfl⟩) ?_ ?_ ?_ ?_
    ·intro i acc τ H2 pc;rw[hPc] at pc;obtain⟨_,_,rfl,_⟩:=pc;rw[AG,AG];exact G1 _ _
    ·intro i acc τ H2 pc;rw[hPc] at pc;obtain⟨_,s2,_⟩:=pc;exact SqL.of (s2 _ _ ev)
    ·intro i y acc τ H2 hy pc;rw[hPc] at pc;obtain⟨o0,s2,rfl,rfl⟩:=pc;obtain⟨d,hd,td⟩:=(tv.same s2).get hy;have fin:Pc (i+1) (((ds.take i).map fun d=>!fZ d).map V.bl++[V.bl (!fZ d)]) [some y] H2:=by
      rw[hPc];exact⟨_,s2,by rw[take_snoc hd,BC,BC];rfl,rfl⟩
     cases td with
     | non=>push_cast;exact fin
     | bl b=>push_cast;exact fin
     | int i=>push_cast;exact fin
     | str x=>push_cast;exact fin
     | tup o e z t=>push_cast [e];exact fin
     | lst o e z t=>push_cast [e];exact fin
    intro acc τ H2 d pc hd;rw[hPc] at pc;obtain⟨o0,s2,rfl,rfl⟩:=pc;rw[hvl,C0];have s3:=s2.trans (aA (o:=HO.lst ((ds.map fun d=>!fZ d).map V.bl)) hd);have e3:upd H2 d (HO.lst ((ds.map fun d=>!fZ d).map V.bl)) d=some (HO.lst ((ds.map fun d=>!fZ d).map V.bl)):=aB;generalize upd H2 d (HO.lst ((ds.map fun d=>!fZ d).map V.bl))=H3 at s3 e3 |-;push_cast [e3];refine⟨_,rfl,?_⟩;rw[any_nums];by_cases all:(ds.map fZ).all id=true
    ·rw[all,if_neg δ];obtain⟨N,rfl⟩:=Fy all;cases aH.ints tv;subst hk;rw[AG] at hlen;have ev0:=ev;clear all tv hvl e3 s2 no nol hPc hR ev;have out:¬Below f' ss n N (2^n)->∀H',Same H H'->Q (.bl false) H':=fun h H' s'=>by
      have:=q H' s';rw[tG] at this
      ·exact this
      rintro⟨M,⟨h1,h2⟩,h3⟩;cases Ip h1;exact h h3
     refine aO fun k hk=>?_;refine jV fun R hR=>?_;push_cast [Jh];rw[EE,BO,show((2:Int)^n)=((2^n:Nat):Int) by rw[EB];rfl];generalize hm:2^n=m at p1 p2 hlen |-;rw[show((m:Int)-1).toNat=m-1 by omega];refine⟨⟨ω,ω,δ⟩,⟨δ,δ,ω,ω⟩,?_⟩;obtain⟨Pv,hPv⟩:∃Pv:Nat->L2.St->Hp->Prop,Pv=fun(i:Nat) σ H'=>∃(o4 o5 o6 o7:Option V),Same H H'/\Below f' ss n N (i+1)/\σ=[some (.ref sa),some (.ref sc),some (.ref va),some (.int (n:Int)),o4,o5,o6,o7]:=⟨_,rfl⟩;refine xJ hR Pv (by rw[hPv];exact⟨_,_,_,_,s3,fun x h0 hx=>ω,rfl⟩) ?_ ?_
     ·intro i σ H4 hi pv;rw[hPv] at pv;obtain⟨o4,o5,o6,o7,s4,bl,rfl⟩:=pv;have him:i+1<2^n:=ω;have lf:=mK hsn (show 0<i+1 by omega) him;have hset:=lB him;have hbl:=lV n (i+1);refine aO fun k2 hk2=>?_;push_cast;rw[show(1:Int)+(i:Int)=((i+1:Nat):Int) by omega];refine⟨i+1,rfl,him,fun la H5 s5 hla el5=>?_⟩;have sH5:=s4.trans s5;subst hk2;refine jV fun R2 hR2=>?_;push_cast [lN];refine⟨_,la,ok,ss,bH n (i+1),rfl,hnw.same sH5,ts0.same sH5,el5,lf,ω,ω,fun st xs W H6 s6 hst est hW t6 hx6=>?_⟩;show itK K (V.ref st) H6 R2;rw[mF,est,oJ];have hxl:=t6.length;rw[AG] at hxl;have el6:=s6 _ _ el5;have sH6:=sH5.trans s6;clear s4 s5 sH5 el5 s6 hst;generalize hleft:bH n (i+1)=left at *;obtain⟨Pw,hPw⟩:∃Pv:Nat->L2.St->Hp->Prop,Pv=fun(j:Nat) σ H'=>∃(o6 o7:Option V),Same H6 H'/\(∀w∈W.take j,N.getD (i+1) 0<=jO f' N ss left w)/\σ=[some (.ref sa),some (.ref sc),some (.ref va),some (.int (n:Int)),some (.int ((i+1:Nat):Int)),some (.ref la),o6,o7]:=⟨_,rfl⟩;refine DQ hR2 (xs:=xs) Pw (by rw[hPw];exact⟨_,_,Same.refl _,(fun w h=>nomatch h),rfl⟩) ?_ ?_ ?_
      ·intro j σ H7 _ pw;rw[hPw] at pw;obtain⟨_,_,s7,_⟩:=pw;exact SqL.of (s7 _ _ est)
      ·intro j y σ H7 hy pw;rw[hPw] at pw;obtain⟨o6',o7',s7,le7,rfl⟩:=pw;obtain⟨d,hd,td⟩:=(t6.same s7).get hy;rw[A5] at hd;obtain⟨w1,hw1,rfl⟩:=B8.mp hd;have isw:=(hW w1).mp (AV hw1);unfold stW at td;rw[zu] at td;have sH7:=sH6.trans s7;have ev7:H7 va=some (.lst (N.map V.int)):=(sH6.trans s7) _ _ ev0;have nat:atI (N.map V.int) ((i+1:Nat):Int)=some (.int (N.getD (i+1) 0)):=yL ω;cases td with
       | tup ot et zt tt=>
        cases tt with
        | cons tc tt=>
         cases tt with
         | cons tp tt=>
          cases tt;cases tc;rename_i ta xp;obtain⟨lp,rfl,okl,elp,llp⟩:=tp.left;replace elp:H7 lp=some (.lst (nv ((gP ss left w1).map aZ))):=elp;push_cast [et,ev7,nat];refine⟨_,sc,la,ok,f',ss,left,w1,rfl,ts0.same sH7,hSc _ _ _ _ _ hsc sH7,s7 _ _ el6,lf,ω,ω,fun H8 s8=>?_⟩;refine eV fun R3 hR3=>?_;have elp8:=s8 _ _ elp;have ev8:=s8 _ _ ev7;push_cast [elp8];refine jn (fun k=>N.getD k 0) (fun τ=>∃o0,τ=[o0,some (.ref va)]) hR3 elp8 llp ⟨_,rfl⟩ ?_ ?_
          ·rintro j k' τ acc Pn hk' ⟨o0,rfl⟩ h1;have hmk:=AV hk';obtain⟨p,hp,rfl⟩:=D9.mp hmk;obtain⟨_,l2,_⟩:=lG lf isw p hp;have hwk:=yL (zs:=N) (i:=aZ p) ω;push_cast [ev8,hwk];exact h1 _ ⟨_,rfl⟩
          intro d2 hd2;have s9:=aA (o:=HO.lst ((((gP ss left w1).map aZ).map fun k=>N.getD k 0).map V.int)) hd2;have e9:upd H8 d2 (HO.lst ((((gP ss left w1).map aZ).map fun k=>N.getD k 0).map V.int)) d2=_:=aB;generalize upd H8 d2 (HO.lst ((((gP ss left w1).map aZ).map fun k=>N.getD k 0).map V.int))=H9 at s9 e9 |-;have s89:=s8.trans s9;push_cast [e9];refine⟨_,rfl,?_⟩;rw[show f' left (jP w1)+(((gP ss left w1).map aZ).map fun k=>N.getD k 0).sum=jO f' N ss left w1 by unfold jO;rw[map_map];rfl];split
          ·rename_i c;refine out (fun h=>?_) _ (sH7.trans s89);have:=h (i+1) ω ω w1 (by rw[hleft];exact isw);rw[hleft] at this;omega
          rename_i c;rw[hPw];refine⟨_,_,s7.trans s89,fun w hw=>?_,rfl⟩;rw[take_snoc hw1] at hw;rcases BS.mp hw with hw|hw
          ·exact le7 w hw
          rw[AJ.mp hw];omega
      intro σ H7 pw;rw[hPw] at pw;obtain⟨o6',o7',s7,le7,rfl⟩:=pw;rw[hxl,C0] at le7;show Pv (i+1) _ _;rw[hPv];refine⟨_,_,_,_,sH6.trans s7,fun x h0 hx w hw=>?_,rfl⟩;by_cases e:x=i+1
      ·subst e;rw[hleft] at hw |-;exact le7 w ((hW w).mpr hw)
      exact bl x h0 ω w hw
     intro σ H4 pv;rw[hPv] at pv;obtain⟨o4,o5,o6,o7,s4,bl,rfl⟩:=pv;rw[show m-1+1=2^n by omega] at bl;show k _ _;subst hk;push_cast;have:=q H4 s4;rw[Ed ⟨N,⟨rfl,ω⟩,bl⟩] at this;exact this
    rw[eq_false_iff.mpr all,if_pos δ];exact no (fun⟨N,h1,_⟩=>all (by cases AD.list.inj h1;exact zF N)) _ s3
   rw[decide_eq_false (show ¬((vxs.length:Nat):Int)=((2^n:Nat):Int) by omega),if_pos δ];exact no (fun⟨N,h1,h2⟩=>hlen (by rw[hvl,AD.list.inj h1,AG,h2])) _ (Same.refl _)
end
noncomputable abbrev rY:List Str:=["_law_thing","_law_found","_law_at","_law_one"]
noncomputable abbrev fG:Stmt:=top 40
theorem uN:bw rY q19_ (aj fG):=⟨rfl,rfl,rfl,ψ,rfl,ψ,ψ⟩
theorem Dq:NM_ rY fG 0 "_law_thing" := .of ψ
theorem rH:NM_ rY fG 1 "_law_found" := .of ψ
theorem Dp:NM_ rY fG 2 "_law_at" := .of ψ
theorem Dm:NM_ rY fG 3 "_law_one" := .of ψ
theorem Ai:GI_ fG "_law_spots" := by decide +kernel
theorem vB:GI_ fG "enumerate" := by decide +kernel
theorem uo:GI_ fG "isinstance" := by decide +kernel
theorem Gr:GI_ fG "list" := by decide +kernel
theorem Cq:GI_ fG "tuple" := by decide +kernel
theorem JQ:Bn "_law_spots" := ⟨ψ,ψ⟩
noncomputable def mZ (n:Nat):Sp:=fun vs H Q _=>∃v ok d,vs=[v]/\aJ ok H v d/\d.depth<n/\nodes d<=20000 /\
 ∀(l:Addr)(xs:List V)(ps:List (List Nat)) H',Same H H'->H' l=some (.lst xs)->bR H' xs ps->(∀p∈ps,valid d p/\p≠[])->ps.length+1=nodes d->Q (.ref l) H'
section
variable {P:AU}{w:Be}{K:Au}{mg:Str->Option An}{base:Heap}{f:Addr}{fd:BU}{bs:List Str}
theorem U8 {n:Nat}(hn9:n<=100) (hB:∀x:Str,x∈BLs->mg x=none) (CZSpots:Cal P w K mg base "_law_spots" n q19_ (mZ n)) (F:Fun K "_law_spots" "_law_spots" fG f fd):dj P w K mg base CX0 (n+1) f fd q19_ (mZ (n+1)):=by
 refine F.okq uN (fun vs H Q E h=>?_) (fun cdv A outer s H vs Q E hr h=>?_)
 ·obtain⟨v,ok,d,rfl,_⟩:=h;rfl
 obtain⟨v,ok,d,rfl,t,hd,hn,q⟩:=h;refine⟨_,(aG (bB rH uN.nd (bD aq) rfl (.inl rfl))
  (aG (eG (jD (bU Ea uo (hB "isinstance" bL) B1 bM (ak (ao Dq) (ak (bY (ak (jT "list" Gr (hB "list" mC) GW mJ) (ak (jT "tuple" Cq (hB "tuple" jt) Fn jw) aq rfl) rfl)) aq rfl) rfl) rfl rfl) (fun _=>rfl)) (aN (iI BQ rfl (Ul vB (hB "enumerate" Gi) (ak (ao Dq) aq rfl) rfl) (nZ (n:=2) rfl (cR (fU Dp uN.nd (.inl rfl)) (cR (fU Dm uN.nd (.inl rfl)) j8 rfl) rfl) rfl rfl)
  (aG (fJ (gK (ao rH) (bY (ak (ao Dp) aq rfl)) rfl rfl rfl rfl rfl) rfl)
  (aN (fJ (Ny (ao rH) (dG (NX:=rY) (kX:=(aj fG).names) ["_law_spot","_law_at"] [none,some 2] rfl rfl ⟨rfl,ψ,ψ,ψ,ψ⟩ rfl (cU (bf CZSpots (hr.mono ω) Ai JQ (ak (ao Dm) aq rfl) rfl rfl)) (fun _ _ _ _ _=>(cj 0 (show BM (["_law_spot","_law_at"]:List Str) from by decide +kernel) rfl (C2 rfl))) (fun _ _ _ _ _=>gF) (fun _ _ _ _ _=>(aL NQ (bY (ak (bG 1) aq rfl)) (bG 0)))) rfl rfl rfl rfl rfl) rfl))) (fun _=>rfl))) cN)
  (aN (aY (ao rH))))),?_⟩
 refine aO fun k hk=>?_;push_cast;refine⟨aX δ,fun l hl=>?_⟩;have s1:=aA (o:=HO.lst []) hl;have el:upd H l (HO.lst []) l=some (HO.lst []):=aB;have Hl:=hl;generalize upd H l (HO.lst [])=H1 at s1 el |-;have p1:bR H1 [] []:=.nil;subst hk;refine aO fun k hk=>?_;refine gb fun kt ke hkt hke=>?_;have leaf:∀H',Same H H'->H' l=some (HO.lst [])->bR H' [] []->nodes d=1->ke [some v,some (V.ref l),none,none] H':=fun H' sH e p hn1=>by
  subst hke;subst hk;push_cast;exact q l _ _ H' sH e p (fun x hx=>nomatch hx) (by rw[hn1];rfl)
 cases t with
 | non=>push_cast;exact⟨aX δ,fun t2 ht2=>leaf _ (s1.trans (aA ht2)) (aA ht2 _ _ el) (p1.same (aA ht2)) rfl⟩
 | bl b=>push_cast;exact⟨aX δ,fun t2 ht2=>leaf _ (s1.trans (aA ht2)) (aA ht2 _ _ el) (p1.same (aA ht2)) rfl⟩
 | int i=>push_cast;exact⟨aX δ,fun t2 ht2=>leaf _ (s1.trans (aA ht2)) (aA ht2 _ _ el) (p1.same (aA ht2)) rfl⟩
 | str x=>push_cast;exact⟨aX δ,fun t2 ht2=>leaf _ (s1.trans (aA ht2)) (aA ht2 _ _ el) (p1.same (aA ht2)) rfl⟩
 | lst o e z ts=>
  rename_i p xs0 ds;push_cast;refine⟨aX δ,fun t2 ht2=>?_⟩;have s2:=s1.trans (aA (o:=HO.tup [V.ty "list",V.ty "tuple"]) ht2);have e2:=s2 _ _ e;have el2:=aA (o:=HO.tup [V.ty "list",V.ty "tuple"]) ht2 _ _ el;have p2:=p1.same (aA (o:=HO.tup [V.ty "list",V.ty "tuple"]) ht2);generalize upd H1 t2 (HO.tup [V.ty "list",V.ty "tuple"])=H2 at s2 e2 el2 p2 |-;push_cast [e2];have hlen:=ts.length;have hdep:AD.depthAll ds+1<n+1:=by rw[<- AD.depth.eq_1];exact hd
  have hnod:1+aK ds<=20000:=hn;subst hkt;refine jV fun R hR=>?_;push_cast [DP,Ot,e2,Zr];obtain⟨Pv,hPv⟩:∃Pv:Nat->L2.St->Hp->Prop,Pv=fun(i:Nat) σ H'=>∃(ps:List (List Nat)) (xs:List V) (o2 o3:Option V),Same H H'/\aW l H2 H'/\H' l=some (HO.lst xs)/\bR H' xs ps/\(∀pp∈ps,valid (.list ds) pp/\pp≠[])/\ps.length=aK (ds.take i)/\σ=[some (V.ref p),some (V.ref l),o2,o3]:=⟨_,rfl⟩;have pl:p≠l:=aF e Hl;refine LQ hR xs0.length Pv (by rw[hPv];exact⟨[],_,_,_,s2,aW.refl _ _,el2,p2,(fun x hx=>nomatch hx),rfl,rfl⟩) ?_ ?_ ?_ ?_
  ·intro i σ H3 hi pv;rw[hPv] at pv;obtain⟨ps,xs,o2,o3,_,sx,_,_,_,_,rfl⟩:=pv;exact⟨_,_,SqL.of (sx _ _ pl e2),AF hi⟩
  ·intro σ H3 pv;rw[hPv] at pv;obtain⟨ps,xs,o2,o3,_,sx,_,_,_,_,rfl⟩:=pv;exact⟨_,SqL.of (sx _ _ pl e2),F1 (A9 _)⟩
  ·intro i σ H3 y H4 hi pv yl;rw[hPv] at pv;obtain⟨ps,xs,o2,o3,s3,sx3,e3,p3,v3,n3,rfl⟩:=pv;obtain⟨q1,x,rfl,hq1,rfl,hx⟩:=yl;have hx:=hx _ (SqL.of (sx3 _ _ pl e2));obtain⟨dx,hdx,tx⟩:=ts.get hx;have s4:=aA (o:=HO.tup [V.int (i:Nat),x]) hq1;have e4:=s4 _ _ e3;have p4:=p3.same s4;have sH4:=s3.trans s4;have sx4:=sx3.trans s4.x;have eq4:upd H3 q1 (HO.tup [V.int (i:Nat),x]) q1=some (HO.tup [V.int (i:Nat),x]):=aB;generalize upd H3 q1 (HO.tup [V.int (i:Nat),x])=H4 at s4 e4 p4 sH4 sx4 eq4 |-;have tx4:=tx.same sH4;have dmem:=AV hdx;have dd:=dX dmem;have nn:=jr dmem;have lx4:=p4.length;have ntk0:=iU i ds;push_cast [eq4,e4];refine⟨aX δ,fun qa hqa=>?_⟩;have sa:=aA (o:=HO.tup [V.int (i:Nat)]) hqa;have ea:=sa _ _ e4;have eqa:upd H4 qa (HO.tup [V.int (i:Nat)]) qa=some (HO.tup (m8 [i])):=aB;have pa:=(p4.same sa).append (.cons eqa .nil);have sHa:=sH4.trans sa;have sxa:=sx4.trans sa.x;generalize upd H4 qa (HO.tup [V.int (i:Nat)])=Ha at sa ea eqa pa sHa sxa |-;push_cast [ea];refine⟨Ng ω,?_⟩;have eb:upd Ha l (HO.lst (xs++[V.ref qa])) l=_:=aB;have pb:=pa.Pj (ys:=xs++[V.ref qa]) ea;have sHb:=eY (o:=HO.lst (xs++[V.ref qa])) sHa Hl;have sxb:=sxa.trans (aW.upd (p:=l) (o:=HO.lst (xs++[V.ref qa])));have e4:=eb;have p4:=pb;have sH4:=sHb;have sx4:=sxb;have tx4:=tx.same sHb;have v3b:∀pp∈ps++[[i]],valid (.list ds) pp/\pp≠[]:=fun pp hpp=>by
    rcases BS.mp hpp with z|z
    ·exact v3 pp z
    rw[AJ.mp z];exact⟨(qY hdx (by cases dx <;> trivial)).1,by simp⟩
   have n3b:(ps++[[i]]).length=aK (ds.take i)+1:=by rw[AI,BE,n3]
   generalize upd Ha l (HO.lst (xs++[V.ref qa]))=H4 at e4 p4 sH4 sx4 tx4 |-;clear eb pb sHb sxb;generalize hxs:xs++[V.ref qa]=xs at e4 p4 |-;generalize hps:ps++[[i]]=ps at p4 v3b n3b |-;push_cast [yQ,GQ,e4,yH];refine eV fun R2 hR2=>?_;push_cast;refine⟨x,ok,dx,rfl,tx4,ω,ω,fun l2 xs2 ps2 H5 s5 e5 p5 v5 n5=>?_⟩;push_cast [e5];have pl5:=p5.length;obtain⟨Pc,hPc⟩:∃Pv:Nat->List V->L2.St->Hp->Prop,Pv=fun(j:Nat) acc τ H'=>∃(o1:Option V),Same H5 H'/\bR H' acc ((ps2.take j).map fun pp=>i::pp)/\τ=[o1,some (V.int (i:Nat))]:=⟨_,rfl⟩;refine oW hR2 (xs:=xs2) (yW ω) Pc (by rw[hPc];exact⟨none,Same.refl _,.nil,rfl⟩) ?_ ?_ ?_ ?_
   ·intro j acc τ H6 pc;rw[hPc] at pc;obtain⟨o1,s6,p6,rfl⟩:=pc;have:=p6.length;rw[AG,DL] at this;omega
   ·intro j acc τ H6 pc;rw[hPc] at pc;obtain⟨o1,s6,p6,rfl⟩:=pc;exact SqL.of (s6 _ _ e5)
   ·intro j x2 acc τ H6 hx2 pc;rw[hPc] at pc;obtain⟨o1,s6,p6,rfl⟩:=pc;obtain⟨t7,pth,rfl,hp7,e7⟩:=p5.get hx2;have e7':=s6 _ _ e7;have nxt:∀(acc':V)(H':Hp),Same H6 H'->(∃tt,acc'=V.ref tt/\H' tt=some (HO.tup (m8 (i::pth))))->Pc (j+1) (acc++[acc']) [some (V.ref t7),some (V.int (i:Nat))] H':=fun acc' H' sH ⟨tt,ha,ht⟩=>by
     rw[hPc,ha];refine⟨_,s6.trans sH,?_,rfl⟩;rw[take_snoc hp7,BC];exact(p6.same sH).append (.cons ht .nil)
    push_cast;refine⟨aX δ,fun q7 hq7=>?_⟩;have s7:=aA (o:=HO.tup [V.int (i:Nat)]) hq7;have e7q:upd H6 q7 (HO.tup [V.int (i:Nat)]) q7=some (HO.tup [V.int (i:Nat)]):=aB;have e7t:=s7 _ _ e7';generalize upd H6 q7 (HO.tup [V.int (i:Nat)])=H7 at s7 e7q e7t |-;rw[Fq,e7q,e7t,Mg];refine⟨by simp,?_,fun z=>?_,fun z p8 hp8=>?_⟩
    ·have:=mX pth dx (v5 pth (AV hp7)).1;refine aX ?_;rw[Iv];show 1+pth.length<=1000000;omega
    ·refine nxt _ _ s7 ⟨q7,rfl,?_⟩;rw[e7q];cases pth with
     | nil=>rfl
     | cons a b=>cases z
    exact nxt _ _ (s7.trans (aA hp8)) ⟨p8,rfl,aB⟩
   intro acc τ H6 d6 pc hd6;rw[hPc] at pc;obtain⟨o1,s6,p6,rfl⟩:=pc;rw[pl5,C0] at p6;have s7:=aA (o:=HO.lst acc) hd6;have el7:upd H6 d6 (HO.lst acc) l=some (HO.lst xs):=s7 _ _ (s6 _ _ (s5 _ _ e4));have ed7:upd H6 d6 (HO.lst acc) d6=some (HO.lst acc):=aB;have p7:=p6.same s7;have px7:=((p4.same s5).same s6).same s7;have sH7:=((sH4.trans s5).trans s6).trans s7;have sx7:=((sx4.trans s5.x).trans s6.x).trans s7.x;generalize upd H6 d6 (HO.lst acc)=H7 at s7 el7 ed7 p7 px7 sH7 sx7 |-;have la:=p7.length;have lx:=px7.length;rw[AG] at la;have ntk:=iU (i+1) ds;rw[gm hdx] at ntk;rw[Bf,el7,ed7,Ma];refine⟨yW ω,?_⟩;show Pv _ _ _;rw[hPv];refine⟨ps++ps2.map (fun pp=>i::pp),_,_,_,eY sH7 Hl,sx7.trans aW.upd,aB,(px7.Pj el7).append (p7.Pj el7),?_,?_,rfl⟩
   ·intro pp hpp;rcases BS.mp hpp with z|z
    ·exact v3b pp z
    obtain⟨p9,hp9,rfl⟩:=D9.mp z;exact⟨(qY hdx (v5 p9 hp9).1).1,by simp⟩
   rw[AI,AG,n3b,gm hdx];omega
  intro σ H3 pv;rw[hPv] at pv;obtain⟨ps,xs,o2,o3,s3,sx3,e3,p3,v3,n3,rfl⟩:=pv;show k _ _;subst hk;push_cast;refine q l _ _ H3 s3 e3 p3 v3 ?_;rw[hlen,C0] at n3;rw[n3];exact add_comm _ _
 | tup o e z ts=>
  rename_i p xs0 ds;push_cast;refine⟨aX δ,fun t2 ht2=>?_⟩;have s2:=s1.trans (aA (o:=HO.tup [V.ty "list",V.ty "tuple"]) ht2);have e2:=s2 _ _ e;have el2:=aA (o:=HO.tup [V.ty "list",V.ty "tuple"]) ht2 _ _ el;have p2:=p1.same (aA (o:=HO.tup [V.ty "list",V.ty "tuple"]) ht2);generalize upd H1 t2 (HO.tup [V.ty "list",V.ty "tuple"])=H2 at s2 e2 el2 p2 |-;push_cast [e2];have hlen:=ts.length;have hdep:AD.depthAll ds+1<n+1:=by rw[<- AD.depth.eq_2];exact hd
  have hnod:1+aK ds<=20000:=hn;subst hkt;refine jV fun R hR=>?_;push_cast [DP,Ot,e2,Zq];obtain⟨Pv,hPv⟩:∃Pv:Nat->L2.St->Hp->Prop,Pv=fun(i:Nat) σ H'=>∃(ps:List (List Nat)) (xs:List V) (o2 o3:Option V),Same H H'/\aW l H2 H'/\H' l=some (HO.lst xs)/\bR H' xs ps/\(∀pp∈ps,valid (.tuple ds) pp/\pp≠[])/\ps.length=aK (ds.take i)/\σ=[some (V.ref p),some (V.ref l),o2,o3]:=⟨_,rfl⟩;have pl:p≠l:=aF e Hl;refine LQ hR xs0.length Pv (by rw[hPv];exact⟨[],_,_,_,s2,aW.refl _ _,el2,p2,(fun x hx=>nomatch hx),rfl,rfl⟩) ?_ ?_ ?_ ?_
  ·intro i σ H3 hi pv;rw[hPv] at pv;obtain⟨ps,xs,o2,o3,_,sx,_,_,_,_,rfl⟩:=pv;exact⟨_,_,SqT.of (sx _ _ pl e2),AF hi⟩
  ·intro σ H3 pv;rw[hPv] at pv;obtain⟨ps,xs,o2,o3,_,sx,_,_,_,_,rfl⟩:=pv;exact⟨_,SqT.of (sx _ _ pl e2),rfl⟩
  ·intro i σ H3 y H4 hi pv yl;rw[hPv] at pv;obtain⟨ps,xs,o2,o3,s3,sx3,e3,p3,v3,n3,rfl⟩:=pv;obtain⟨q1,x,rfl,hq1,rfl,hx⟩:=yl;have hx:=hx _ (SqT.of (sx3 _ _ pl e2));obtain⟨dx,hdx,tx⟩:=ts.get hx;have s4:=aA (o:=HO.tup [V.int (i:Nat),x]) hq1;have e4:=s4 _ _ e3;have p4:=p3.same s4;have sH4:=s3.trans s4;have sx4:=sx3.trans s4.x;have eq4:upd H3 q1 (HO.tup [V.int (i:Nat),x]) q1=some (HO.tup [V.int (i:Nat),x]):=aB;generalize upd H3 q1 (HO.tup [V.int (i:Nat),x])=H4 at s4 e4 p4 sH4 sx4 eq4 |-;have tx4:=tx.same sH4;have dmem:=AV hdx;have dd:=dX dmem;have nn:=jr dmem;have lx4:=p4.length;have ntk0:=iU i ds;push_cast [eq4,e4];refine⟨aX δ,fun qa hqa=>?_⟩;have sa:=aA (o:=HO.tup [V.int (i:Nat)]) hqa;have ea:=sa _ _ e4;have eqa:upd H4 qa (HO.tup [V.int (i:Nat)]) qa=some (HO.tup (m8 [i])):=aB;have pa:=(p4.same sa).append (.cons eqa .nil);have sHa:=sH4.trans sa;have sxa:=sx4.trans sa.x;generalize upd H4 qa (HO.tup [V.int (i:Nat)])=Ha at sa ea eqa pa sHa sxa |-;push_cast [ea];refine⟨Ng ω,?_⟩;have eb:upd Ha l (HO.lst (xs++[V.ref qa])) l=_:=aB;have pb:=pa.Pj (ys:=xs++[V.ref qa]) ea;have sHb:=eY (o:=HO.lst (xs++[V.ref qa])) sHa Hl;have sxb:=sxa.trans (aW.upd (p:=l) (o:=HO.lst (xs++[V.ref qa])));have e4:=eb;have p4:=pb;have sH4:=sHb;have sx4:=sxb;have tx4:=tx.same sHb;have v3b:∀pp∈ps++[[i]],valid (.tuple ds) pp/\pp≠[]:=fun pp hpp=>by
    rcases BS.mp hpp with z|z
    ·exact v3 pp z
    rw[AJ.mp z];exact⟨(qY hdx (by cases dx <;> trivial)).2,by simp⟩
   have n3b:(ps++[[i]]).length=aK (ds.take i)+1:=by rw[AI,BE,n3]
   generalize upd Ha l (HO.lst (xs++[V.ref qa]))=H4 at e4 p4 sH4 sx4 tx4 |-;clear eb pb sHb sxb;generalize hxs:xs++[V.ref qa]=xs at e4 p4 |-;generalize hps:ps++[[i]]=ps at p4 v3b n3b |-;push_cast [yQ,GQ,e4,yH];refine eV fun R2 hR2=>?_;push_cast;refine⟨x,ok,dx,rfl,tx4,ω,ω,fun l2 xs2 ps2 H5 s5 e5 p5 v5 n5=>?_⟩;push_cast [e5];have pl5:=p5.length;obtain⟨Pc,hPc⟩:∃Pv:Nat->List V->L2.St->Hp->Prop,Pv=fun(j:Nat) acc τ H'=>∃(o1:Option V),Same H5 H'/\bR H' acc ((ps2.take j).map fun pp=>i::pp)/\τ=[o1,some (V.int (i:Nat))]:=⟨_,rfl⟩;refine oW hR2 (xs:=xs2) (yW ω) Pc (by rw[hPc];exact⟨none,Same.refl _,.nil,rfl⟩) ?_ ?_ ?_ ?_
   ·intro j acc τ H6 pc;rw[hPc] at pc;obtain⟨o1,s6,p6,rfl⟩:=pc;have:=p6.length;rw[AG,DL] at this;omega
   ·intro j acc τ H6 pc;rw[hPc] at pc;obtain⟨o1,s6,p6,rfl⟩:=pc;exact SqL.of (s6 _ _ e5)
   ·intro j x2 acc τ H6 hx2 pc;rw[hPc] at pc;obtain⟨o1,s6,p6,rfl⟩:=pc;obtain⟨t7,pth,rfl,hp7,e7⟩:=p5.get hx2;have e7':=s6 _ _ e7;have nxt:∀(acc':V)(H':Hp),Same H6 H'->(∃tt,acc'=V.ref tt/\H' tt=some (HO.tup (m8 (i::pth))))->Pc (j+1) (acc++[acc']) [some (V.ref t7),some (V.int (i:Nat))] H':=fun acc' H' sH ⟨tt,ha,ht⟩=>by
     rw[hPc,ha];refine⟨_,s6.trans sH,?_,rfl⟩;rw[take_snoc hp7,BC];exact(p6.same sH).append (.cons ht .nil)
    push_cast;refine⟨aX δ,fun q7 hq7=>?_⟩;have s7:=aA (o:=HO.tup [V.int (i:Nat)]) hq7;have e7q:upd H6 q7 (HO.tup [V.int (i:Nat)]) q7=some (HO.tup [V.int (i:Nat)]):=aB;have e7t:=s7 _ _ e7';generalize upd H6 q7 (HO.tup [V.int (i:Nat)])=H7 at s7 e7q e7t |-;rw[Fq,e7q,e7t,Mg];refine⟨by simp,?_,fun z=>?_,fun z p8 hp8=>?_⟩
    ·have:=mX pth dx (v5 pth (AV hp7)).1;refine aX ?_;rw[Iv];show 1+pth.length<=1000000;omega
    ·refine nxt _ _ s7 ⟨q7,rfl,?_⟩;rw[e7q];cases pth with
     | nil=>rfl
     | cons a b=>cases z
    exact nxt _ _ (s7.trans (aA hp8)) ⟨p8,rfl,aB⟩
   intro acc τ H6 d6 pc hd6;rw[hPc] at pc;obtain⟨o1,s6,p6,rfl⟩:=pc;rw[pl5,C0] at p6;have s7:=aA (o:=HO.lst acc) hd6;have el7:upd H6 d6 (HO.lst acc) l=some (HO.lst xs):=s7 _ _ (s6 _ _ (s5 _ _ e4));have ed7:upd H6 d6 (HO.lst acc) d6=some (HO.lst acc):=aB;have p7:=p6.same s7;have px7:=((p4.same s5).same s6).same s7;have sH7:=((sH4.trans s5).trans s6).trans s7;have sx7:=((sx4.trans s5.x).trans s6.x).trans s7.x;generalize upd H6 d6 (HO.lst acc)=H7 at s7 el7 ed7 p7 px7 sH7 sx7 |-;have la:=p7.length;have lx:=px7.length;rw[AG] at la;have ntk:=iU (i+1) ds;rw[gm hdx] at ntk;rw[Bf,el7,ed7,Ma];refine⟨yW ω,?_⟩;show Pv _ _ _;rw[hPv];refine⟨ps++ps2.map (fun pp=>i::pp),_,_,_,eY sH7 Hl,sx7.trans aW.upd,aB,(px7.Pj el7).append (p7.Pj el7),?_,?_,rfl⟩
   ·intro pp hpp;rcases BS.mp hpp with z|z
    ·exact v3b pp z
    obtain⟨p9,hp9,rfl⟩:=D9.mp z;exact⟨(qY hdx (v5 p9 hp9).1).2,by simp⟩
   rw[AI,AG,n3b,gm hdx];omega
  intro σ H3 pv;rw[hPv] at pv;obtain⟨ps,xs,o2,o3,s3,sx3,e3,p3,v3,n3,rfl⟩:=pv;show k _ _;subst hk;push_cast;refine q l _ _ H3 s3 e3 p3 v3 ?_;rw[hlen,C0] at n3;rw[n3];exact add_comm _ _
theorem Km:dj P w K mg base CX0 0 f fd q19_ (mZ 0):=by
 have no:∀vs H Q E,¬mZ 0 vs H Q E:=fun vs H Q E h=>by
  obtain⟨_,_,_,_,_,h1,_⟩:=h;omega
 exact⟨fun vs H Q E h=>absurd h (no vs H Q E),fun A outer s H args us vs Q E _ _ _ _ h=>absurd h (no vs H Q E)⟩
end
noncomputable abbrev ab7:List Str:=["_law_thing","_law_inner"]
noncomputable abbrev BX:Stmt:=top 41
theorem acg:bw ab7 q12_ (aj BX):=⟨rfl,rfl,rfl,ψ,rfl,ψ,ψ⟩
theorem aby:NM_ ab7 BX 0 "_law_thing" := .of ψ
theorem Vm:NM_ ab7 BX 1 "_law_inner" := .of ψ
theorem ye:GI_ BX "isinstance" := by decide +kernel
theorem Ar:GI_ BX "tuple" := by decide +kernel
theorem JS:Bn "_law_as" := ⟨ψ,ψ⟩
noncomputable def Xh:Sp:=fun vs H Q _=>∃(th l:Addr)(xs ys:List V),vs=[.ref th,.ref l]/\H l=some (.lst xs)/\((H th=some (.tup ys)/\∀p,H p=none->Q (.ref p) (upd H p (.tup xs)))\/(H th=some (.lst ys)/\Q (.ref l) H))
section
variable {P:AU}{w:Be}{K:Au}{mg:Str->Option An}{base:Heap}{f:Addr}{fd:BU}{bs:List Str}
theorem acK (hB:∀x:Str,x∈BLs->mg x=none) (F:Fun K "_law_as" "_law_as" BX f fd):dj P w K mg base CX0 1 f fd q12_ Xh:=by
 refine F.okq acg (fun vs H Q E h=>?_) (fun cdv A outer s H vs Q E hr h=>?_)
 ·obtain⟨th,l,xs,ys,rfl,_⟩:=h;rfl
 obtain⟨th,l,xs,ys,rfl,el,h⟩:=h;refine⟨_,(aN (aY (Dk (jD (bU eE ye (hB "isinstance" bL) B1 bM (ak (ao aby) (ak (jT "tuple" Ar (hB "tuple" jt) Fn jw) aq rfl) rfl) rfl rfl) (fun _=>rfl)) (lF jc Ar (hB "tuple" jt) Fn jw (ak (ao Vm) aq rfl) rfl rfl) (ao Vm)))),?_⟩;rcases h with⟨e,q⟩|⟨e,q⟩
 ·push_cast [e];exact⟨xs,.inl ⟨SqL.of el,q⟩⟩
 push_cast [e];exact q
end
noncomputable abbrev wQ:List Str:=["_law_tape_here","_law_thing","_law_way","_law_at","_law_some"]
noncomputable abbrev fO:Stmt:=top 43
theorem uM:bw wQ q6_ (aj fO):=⟨rfl,rfl,rfl,ψ,rfl,ψ,ψ⟩
theorem zK:NM_ wQ fO 0 "_law_tape_here" := .of ψ
theorem b7:NM_ wQ fO 1 "_law_thing" := .of ψ
theorem u5:NM_ wQ fO 2 "_law_way" := .of ψ
theorem gY:NM_ wQ fO 3 "_law_at" := .of ψ
theorem u0:NM_ wQ fO 4 "_law_some" := .of ψ
theorem um:GI_ fO "_law_step_of_many" := by decide +kernel
theorem vz:GI_ fO "_law_take" := by decide +kernel
theorem Jm:GI_ fO "bool" := by decide +kernel
theorem Ls:GI_ fO "int" := by decide +kernel
theorem gO:GI_ fO "isinstance" := by decide +kernel
theorem Lr:GI_ fO "len" := by decide +kernel
theorem Jl:GI_ fO "list" := by decide +kernel
theorem Ah:GI_ fO "str" := by decide +kernel
theorem Gq:GI_ fO "tuple" := by decide +kernel
theorem ZV:Bn "_law_step" := ⟨ψ,ψ⟩
noncomputable abbrev qU:List Str:=["_law_tape_here","_law_thing","_law_spot","_law_inner"]
noncomputable abbrev fj:Stmt:=top 44
theorem Di:bw qU q3_ (aj fj):=⟨rfl,rfl,rfl,ψ,rfl,ψ,ψ⟩
theorem zP:NM_ qU fj 0 "_law_tape_here" := .of ψ
theorem tX:NM_ qU fj 1 "_law_thing" := .of ψ
theorem oE:NM_ qU fj 2 "_law_spot" := .of ψ
theorem oA:NM_ qU fj 3 "_law_inner" := .of ψ
theorem GD:GI_ fj "_law_as" := by decide +kernel
theorem wF:GI_ fj "_law_bent_at" := by decide +kernel
theorem Aq:GI_ fj "_law_step" := by decide +kernel
theorem Cz:GI_ fj "list" := by decide +kernel
theorem Ec:Bn "_law_bent_at" := ⟨ψ,ψ⟩
noncomputable def kY (n:Nat):Sp:=fun vs H Q _=>∃(p:Addr)(B:Int)(v:V)(d:AD)(a:Nat)(ok:Addr->Prop)(t:Addr)(path:List Nat),vs=[.ref p,v,.ref t]/\aP H p B/\0<=B/\B<=900000/\cJ ok H/\(∀a,ok a->a≠p)/\aJ ok H v d/\szD a d/\a<=1 /\
 H t=some (.tup (m8 path))/\valid d path/\path.length<n/\path.length<=100/\∀v' d' H',aW p H H'->aP H' p (B+10)->aJ ok H' v' d'->wV a d d'->(∀ds,d=.list ds->path≠[]->∃ds',d'=.list ds'/\ds'.length=ds.length)->Q v' H'
section
variable {P:AU}{w:Be}{K:Au}{mg:Str->Option An}{base:Heap}{f:Addr}{fd:BU}{bs:List Str}
theorem Qt {n:Nat}(hB:∀x:Str,x∈BLs->mg x=none) (CZStep:Cal P w K mg base "_law_step" (n+4) q6_ (uI false)) (CZAs:Cal P w K mg base "_law_as" 1 q12_ Xh) (CZBentAt:Cal P w K mg base "_law_bent_at" (n+4) q3_ (kY n)) (F:Fun K "_law_bent_at" "_law_bent_at" fj f fd):dj P w K mg base CX0 (n+1+4) f fd q3_ (kY (n+1)):=by
 refine F.okq Di (fun vs H Q E h=>?_) (fun cdv A outer s H vs Q E hr h=>?_)
 ·obtain⟨p,B,v,d,a,ok,t,path,rfl,_⟩:=h;rfl
 obtain⟨p,B,v,d,a,ok,t,path,rfl,tp,hB0,hB1,hnw,hok,tr,sz,ha,et,hv,hpl,hp100,q⟩:=h;refine⟨_,(aG (eG (bW (abp hr.dU) (ao oE) (bY aq) (bN _)) (aN (aY (bf CZStep (hr.mono ω) Aq ZV (ak (ao zP) (ak (ao tX) aq rfl) rfl) rfl rfl))) cN)
  (aG (bB oA Di.nd (lF kI Cz (hB "list" mC) GW mJ (ak (ao tX) aq rfl) rfl rfl) rfl (.inl rfl))
  (aG (qj (bf CZBentAt (hr.mono ω) wF Ec (ak (ao zP) (ak (aR bT (ao oA) (aR bT (ao oE) au (fun _ _=>rfl)) (fun _ _=>rfl)) (ak (cA vU (ao oE) (cZ au) dF) aq rfl) rfl) rfl) rfl rfl) (X8 (ao oA) (aR bT (ao oE) au (fun _ _=>rfl)) Nh) rfl rfl rfl)
  (aN (aY (bf CZAs (hr.mono ω) GD JS (ak (ao tX) (ak (ao oA) aq rfl) rfl) rfl rfl)))))),?_⟩
 refine aO fun k hk=>?_;refine gb fun kt ke hkt hke=>?_;push_cast;refine⟨aX δ,fun q1 hq1=>?_⟩;have s1:=aA (o:=HO.tup []) hq1;refine⟨t,q1,m8 path,[],rfl,rfl,s1 _ _ et,aB,Qw _,rfl,?_⟩;generalize upd H q1 (HO.tup [])=H1 at s1 |-;push_cast;cases path with
 | nil=>
  rw[show(m8 []).isEmpty=true from rfl,if_pos rfl];subst hkt;push_cast;exact⟨p,B,v,d,a,ok,rfl,tp.same s1,hB0,hB1,hnw.same s1,hok,tr.same s1,sz,ha,fun z=>(by cases z),fun v' d' H' sx tp' t' b'=>q v' d' H' (s1.x.trans sx) tp' t' b' fun _ _ z=>absurd rfl z⟩
 | cons i r=>
  rw[if_neg (by simp [m8])];subst hke;push_cast;subst hk;refine aO fun k hk=>?_;have et1:H t=some (HO.tup (V.int (i:Nat)::m8 r)):=et;have hpl':r.length<n:=by rw[BN] at hpl;omega
  have hp100':r.length<=100:=by rw[BN] at hp100;omega
  have e1':=et1;cases tr with
  | lst oo e z ts=>
   rename_i th xs0 ds;obtain⟨dc,hdc,vdc⟩:=hv;have hsd:ds.length<=210*5^a/\pA a ds:=sz;have hall:=iy.mp hsd.2;have hn0:nodes (.list ds)=1+aK ds:=rfl;have hd0:(AD.list ds).depth=AD.depthAll ds+1:=AD.depth.eq_1 ds;have hlx:=ts.length;obtain⟨x,hx⟩:∃x,xs0[i]?=some x:=⟨xs0[i]'(by have:=(AR.mp hdc).1;omega),AF _⟩;obtain⟨dc',hdc',tx⟩:=ts.get hx;rw[hdc] at hdc';cases hdc';have hil:i<xs0.length:=(AR.mp hx).1;push_cast;refine⟨_,.inl (SqL.of (s1 _ _ e)),fun l hl=>?_⟩;have s2:=(aA (o:=HO.lst xs0) hl);have okl:ok l:=(hnw.same s1).new hl;obtain⟨ok2,hok2⟩:∃ok2:Addr->Prop,ok2=fun a=>ok a/\a≠l:=⟨_,rfl⟩;have el2:upd H1 l (HO.lst xs0) l=some (HO.lst xs0):=aB;have ts2:aH ok2 (upd H1 l (HO.lst xs0)) xs0 ds:=(ts.same s1).keep fun a o h e=>by rw[hok2];exact⟨⟨h,aF e hl⟩,s2 _ _ e⟩
   have hnw2:cJ ok2 (upd H1 l (HO.lst xs0)):=fun H' q s' hq=>by
    rw[hok2];exact⟨((hnw.same s1).same s2) H' q s' hq,(aF (s' _ _ el2) hq).symm⟩
   have hok2p:∀a,ok2 a->a≠p:=fun a h=>by rw[hok2] at h;exact hok a h.1
   have et2:=s2 _ _ (s1 _ _ et1);have eth2:=s2 _ _ (s1 _ _ e);have tp2:=(tp.same s1).same s2;have sx2:aW p H (upd H1 l (HO.lst xs0)):=(s1.trans s2).x;generalize upd H1 l (HO.lst xs0)=H2 at s2 el2 ts2 hnw2 et2 eth2 tp2 sx2 |-;subst hk;refine aO fun k hk=>?_;have ex2:atI xs0 (i:Int)=some x:=dH hx;push_cast [et2,el2,ex2,JH];refine⟨Wr (V.int (i:Nat)) (m8 r),fun t9 ht9=>?_⟩;have s9:=aA (o:=HO.tup (m8 r)) ht9;have tx9:aJ ok2 (upd H2 t9 (HO.tup (m8 r))) x dc:=by
    obtain⟨dd,h1,h2⟩:=ts2.get hx;rw[hdc] at h1;cases h1;exact h2.same s9
   refine⟨p,B,x,dc,a,ok2,t9,r,rfl,tp2.same s9,hB0,hB1,hnw2.same s9,hok2p,tx9,hall dc (AV hdc),ha,aB,vdc,ω,ω,fun v3 d3 H3 s3 tp3 t3 bc _=>?_⟩;have lp:l≠p:=hok l okl;have el3:=s3 _ _ lp (s9 _ _ el2);have tnp:t≠p:=tp2.net et2;have et3:=s3 _ _ tnp (s9 _ _ et2);have eth3:=s3 _ _ (hok _ oo) (s9 _ _ eth2);push_cast [el3,et3];refine⟨i,yG (Int.natCast_nonneg i) ω,?_⟩;subst hk;have thl:th≠l:=aF (s1 _ _ e) hl;have kk:∀a o,ok2 a->H3 a=some o->ok a/\upd H3 l (HO.lst (xs0.set i v3)) a=some o:=fun a o h e=>by
    rw[hok2] at h;exact⟨h.1,by rw[aM h.2];exact e⟩
   have t4:aH ok (upd H3 l (HO.lst (xs0.set i v3))) (xs0.set i v3) (ds.set i d3):=(aH.set t3 i ((ts2.same s9).qg hok2p s3)).keep kk;have el4:upd H3 l (HO.lst (xs0.set i v3)) l=some (HO.lst (xs0.set i v3)):=aB;have eth4:upd H3 l (HO.lst (xs0.set i v3)) th=_:=(aM thl).trans eth3;have tp4:=tp3.upd (o:=HO.lst (xs0.set i v3)) lp;have Hl:H l=none:=by
    cases eh:H l with
    | none=>rfl
    | some o9=>rw[s1 _ _ eh] at hl;cases hl
   have sx4':aW p H (upd H3 l (HO.lst (xs0.set i v3))):=vX ((sx2.trans s9.x).trans s3) Hl;have hnw4:cJ ok (upd H3 l (HO.lst (xs0.set i v3))):=hnw.gW sx4' tp4;generalize upd H3 l (HO.lst (xs0.set i v3))=H4 at t4 el4 eth4 tp4 sx4' hnw4 |-;push_cast;refine⟨th,l,_,_,rfl,el4,.inr ⟨eth4,?_⟩⟩;exact q _ _ _ sx4' tp4 (.lst okl el4 (by rw[length_set];exact z) t4) (J0 hn0 hd0 hsd.1 hall hdc bc).1 fun ds9 e9 _=>⟨_,rfl,by cases e9;rw[length_set]⟩
  | tup oo e z ts=>
   rename_i th xs0 ds;obtain⟨dc,hdc,vdc⟩:=hv;have hsd:ds.length<=210*5^a/\pA a ds:=sz;have hall:=iy.mp hsd.2;have hn0:nodes (.tuple ds)=1+aK ds:=rfl;have hd0:(AD.tuple ds).depth=AD.depthAll ds+1:=AD.depth.eq_2 ds;have hlx:=ts.length;obtain⟨x,hx⟩:∃x,xs0[i]?=some x:=⟨xs0[i]'(by have:=(AR.mp hdc).1;omega),AF _⟩;obtain⟨dc',hdc',tx⟩:=ts.get hx;rw[hdc] at hdc';cases hdc';have hil:i<xs0.length:=(AR.mp hx).1;push_cast;refine⟨_,.inr (SqT.of (s1 _ _ e)),fun l hl=>?_⟩;have s2:=(aA (o:=HO.lst xs0) hl);have okl:ok l:=(hnw.same s1).new hl;obtain⟨ok2,hok2⟩:∃ok2:Addr->Prop,ok2=fun a=>ok a/\a≠l:=⟨_,rfl⟩;have el2:upd H1 l (HO.lst xs0) l=some (HO.lst xs0):=aB;have ts2:aH ok2 (upd H1 l (HO.lst xs0)) xs0 ds:=(ts.same s1).keep fun a o h e=>by rw[hok2];exact⟨⟨h,aF e hl⟩,s2 _ _ e⟩
   have hnw2:cJ ok2 (upd H1 l (HO.lst xs0)):=fun H' q s' hq=>by
    rw[hok2];exact⟨((hnw.same s1).same s2) H' q s' hq,(aF (s' _ _ el2) hq).symm⟩
   have hok2p:∀a,ok2 a->a≠p:=fun a h=>by rw[hok2] at h;exact hok a h.1
   have et2:=s2 _ _ (s1 _ _ et1);have eth2:=s2 _ _ (s1 _ _ e);have tp2:=(tp.same s1).same s2;have sx2:aW p H (upd H1 l (HO.lst xs0)):=(s1.trans s2).x;generalize upd H1 l (HO.lst xs0)=H2 at s2 el2 ts2 hnw2 et2 eth2 tp2 sx2 |-;subst hk;refine aO fun k hk=>?_;have ex2:atI xs0 (i:Int)=some x:=dH hx;push_cast [et2,el2,ex2,JH];refine⟨Wr (V.int (i:Nat)) (m8 r),fun t9 ht9=>?_⟩;have s9:=aA (o:=HO.tup (m8 r)) ht9;have tx9:aJ ok2 (upd H2 t9 (HO.tup (m8 r))) x dc:=by
    obtain⟨dd,h1,h2⟩:=ts2.get hx;rw[hdc] at h1;cases h1;exact h2.same s9
   refine⟨p,B,x,dc,a,ok2,t9,r,rfl,tp2.same s9,hB0,hB1,hnw2.same s9,hok2p,tx9,hall dc (AV hdc),ha,aB,vdc,ω,ω,fun v3 d3 H3 s3 tp3 t3 bc _=>?_⟩;have lp:l≠p:=hok l okl;have el3:=s3 _ _ lp (s9 _ _ el2);have tnp:t≠p:=tp2.net et2;have et3:=s3 _ _ tnp (s9 _ _ et2);have eth3:=s3 _ _ (hok _ oo) (s9 _ _ eth2);push_cast [el3,et3];refine⟨i,yG (Int.natCast_nonneg i) ω,?_⟩;subst hk;have thl:th≠l:=aF (s1 _ _ e) hl;have kk:∀a o,ok2 a->H3 a=some o->ok a/\upd H3 l (HO.lst (xs0.set i v3)) a=some o:=fun a o h e=>by
    rw[hok2] at h;exact⟨h.1,by rw[aM h.2];exact e⟩
   have t4:aH ok (upd H3 l (HO.lst (xs0.set i v3))) (xs0.set i v3) (ds.set i d3):=(aH.set t3 i ((ts2.same s9).qg hok2p s3)).keep kk;have el4:upd H3 l (HO.lst (xs0.set i v3)) l=some (HO.lst (xs0.set i v3)):=aB;have eth4:upd H3 l (HO.lst (xs0.set i v3)) th=_:=(aM thl).trans eth3;have tp4:=tp3.upd (o:=HO.lst (xs0.set i v3)) lp;have Hl:H l=none:=by
    cases eh:H l with
    | none=>rfl
    | some o9=>rw[s1 _ _ eh] at hl;cases hl
   have sx4':aW p H (upd H3 l (HO.lst (xs0.set i v3))):=vX ((sx2.trans s9.x).trans s3) Hl;have hnw4:cJ ok (upd H3 l (HO.lst (xs0.set i v3))):=hnw.gW sx4' tp4;generalize upd H3 l (HO.lst (xs0.set i v3))=H4 at t4 el4 eth4 tp4 sx4' hnw4 |-;push_cast;refine⟨th,l,_,_,rfl,el4,.inl ⟨eth4,fun l9 hl9=>?_⟩⟩;have s9':=aA (o:=HO.tup (xs0.set i v3)) hl9;exact q _ _ _ (sx4'.trans s9'.x) (tp4.same s9') (.tup (hnw4.new hl9) aB (by rw[length_set];exact z) (t4.same s9')) (J0 hn0 hd0 hsd.1 hall hdc bc).2 fun ds9 e9 _=>by cases e9
  | _=>exact hv.elim
theorem JZ:dj P w K mg base CX0 4 f fd q3_ (kY 0):=by
 have no:∀vs H Q E,¬kY 0 vs H Q E:=fun vs H Q E h=>by
  obtain⟨_,_,_,_,_,_,_,_,_,_,_,_,_,_,_,_,_,_,_,h1,_⟩:=h;omega
 exact⟨fun vs H Q E h=>absurd h (no vs H Q E),fun A outer s H args us vs Q E _ _ _ _ h=>absurd h (no vs H Q E)⟩
end
noncomputable abbrev wR:List Str:=["_law_tape_here","_law_handed","_law_found","_law_turn","_law_spots_here"]
noncomputable abbrev gD:Stmt:=top 45
theorem uO:bw wR q14_ (aj gD):=⟨rfl,rfl,rfl,ψ,rfl,ψ,ψ⟩
theorem zO:NM_ wR gD 0 "_law_tape_here" := .of ψ
theorem Vl:NM_ wR gD 1 "_law_handed" := .of ψ
theorem qx:NM_ wR gD 2 "_law_found" := .of ψ
theorem Vk:NM_ wR gD 3 "_law_turn" := .of ψ
theorem zN:NM_ wR gD 4 "_law_spots_here" := .of ψ
theorem Ao:GI_ gD "_law_bent_at" := by decide +kernel
theorem Cy:GI_ gD "_law_spots" := by decide +kernel
theorem vD:GI_ gD "_law_take" := by decide +kernel
theorem Lx:GI_ gD "int" := by decide +kernel
theorem Lw:GI_ gD "len" := by decide +kernel
theorem Jq:GI_ gD "list" := by decide +kernel
theorem GC:GI_ gD "range" := by decide +kernel
theorem ZX:Bn "_law_bent" := ⟨ψ,ψ⟩
structure Bnt (d0:AD)(j:Nat)(d:AD):Prop where
 sz:szD j (.list [d])
 nd:nodes (.list [d])<=4^j*nodes (.list [d0])+20*5^j
 dp:(AD.list [d]).depth<=(AD.list [d0]).depth+2*j
noncomputable def Nb:Sp:=fun vs H Q _=>∃(p h:Addr)(B:Int)(v0:V)(d0:AD),vs=[.ref p,.ref h]/\aP H p B/\0<=B/\B<=800000/\h≠p/\H h=some (.lst [v0])/\aJ (·≠p) H v0 d0/\szD 0 d0/\(AD.list [d0]).depth<=70/\nodes (.list [d0])<=1000 /\
 ∀(l:Addr)(d:AD)(j:Nat) H',aW p H H'->aP H' p (B+40)->aJ (·≠p) H' (.ref l) (.list [d])->1<=j->j<=2->Bnt d0 j d->Q (.ref l) H'
section
variable {P:AU}{w:Be}{K:Au}{mg:Str->Option An}{base:Heap}{f:Addr}{fd:BU}{bs:List Str}
theorem Y4 (hB:∀x:Str,x∈BLs->mg x=none) (CZTake:Cal P w K mg base "_law_take" 2 q0_ (lA 2)) (CZSpots:Cal P w K mg base "_law_spots" 81 q19_ (mZ 81)) (CZBentAt:Cal P w K mg base "_law_bent_at" 85 q3_ (kY 81)) (F:Fun K "_law_bent" "_law_bent" gD f fd):dj P w K mg base CX0 86 f fd q14_ Nb:=by
 refine F.okq uO (fun vs H Q E h=>?_) (fun cdv A outer s H vs Q E hr h=>?_)
 ·obtain⟨p,h,B,v0,d0,rfl,_⟩:=h;rfl
 obtain⟨p,h,B,v0,d0,rfl,tp,hB0,hB1,nh,eh,t0,sz0,hdp,hnd,q⟩:=h;refine⟨_,(aG (bB qx uO.nd (lF kI Jq (hB "list" mC) GW mJ (ak (ao Vl) aq rfl) rfl rfl) rfl (.inl rfl))
  (aG (iI BQ rfl (gB GC (hB "range" fY) (ak (aL bx au (lF lU Lx (hB "int" qF) HQ qQ (ak (v8 (jg hr.dU) (bf CZTake (hr.mono δ) vD cH (ak (ao zO) (ak au aq rfl) rfl) rfl rfl) au (bN _)) aq rfl) rfl rfl)) aq rfl) rfl) (fU Vk uO.nd (.inl rfl))
  (aG (bB zN uO.nd (bf CZSpots (hr.mono δ) Cy JQ (ak (ao qx) aq rfl) rfl rfl) rfl (.inl rfl))
  (aN (bB qx uO.nd (bf CZBentAt (hr.mono δ) Ao Ec (ak (ao zO) (ak (ao qx) (ak (aR bT (ao zN) (bf CZTake (hr.mono δ) vD cH (ak (ao zO) (ak (bU cO Lw (hB "len" ig) B0 iu (ak (ao zN) aq rfl) rfl rfl) aq rfl) rfl) rfl rfl) (fun _ _=>rfl)) aq rfl) rfl) rfl) rfl rfl) rfl (.inl rfl)))) (fun _=>rfl))
  (aN (aY (ao qx))))),?_⟩
 refine aO fun k hk=>?_;push_cast [eh];refine⟨_,.inl (SqL.of eh),fun l0 hl0=>?_⟩;have s1:=aA (o:=HO.lst [v0]) hl0;have tp1:=tp.same s1;have t1:aJ (·≠p) (upd H l0 (HO.lst [v0])) (.ref l0) (.list [d0]):=.lst (tp.ne hl0) aB (by show 1<=1000000;decide) (.cons (t0.same s1) .nil);generalize upd H l0 (HO.lst [v0])=H1 at s1 tp1 t1 |-;subst hk;refine aO fun k hk=>?_;refine jV fun R hR=>?_;push_cast [pG];refine⟨p,4,B,rfl,tp1,by show B+2<=1000100;omega,δ,δ,δ,fun z=>absurd z δ,fun r1 H2 r10 r11 s2 tp2=>?_⟩;push_cast;obtain⟨m,hm1,hm2,hm⟩:∃m:Nat,1<=m/\m<=2/\(1+if r1=0 then 1 else 0:Int)=(m:Int):=by
  split
  ·exact⟨2,δ,δ,rfl⟩
  exact⟨1,δ,δ,rfl⟩
 rw[hm];refine⟨ω,ω,?_⟩;rw[BO];have bn0:Bnt d0 0 d0:=⟨⟨by show 1<=210*5^0;decide,sz0,trivial⟩,by rw[pow_zero,one_mul];exact Nat.le_add_right _ _,A9 _⟩;obtain⟨Pv,hPv⟩:∃Pv:Nat->L2.St->Hp->Prop,Pv=fun(j:Nat) σ H'=>∃(l:Addr)(d:AD)(o3 o4:Option V),aW p H H'/\aP H' p (B+2+12*(j:Int))/\aJ (·≠p) H' (.ref l) (.list [d])/\Bnt d0 j d/\σ=[some (.ref p),some (.ref h),some (.ref l),o3,o4]:=⟨_,rfl⟩;refine xJ hR Pv (by rw[hPv];exact⟨l0,d0,_,_,s1.x.trans s2,tp2.le (by show B+2<=B+2+12*((0:Nat):Int);omega),t1.gW s2,bn0,rfl⟩) ?_ ?_
 ·intro j σ H3 hj pv;rw[hPv] at pv;obtain⟨l,d,o3,o4,s3,tp3,t3,bn,rfl⟩:=pv;have hj1:j=0\/j=1:=ω;have hnd3:nodes (.list [d])<=4100:=by
   have:=bn.nd;rcases hj1 with rfl|rfl
   ·simp only[pow_zero,one_mul] at this;omega
   simp only[pow_one] at this;omega
  have hdp3:(AD.list [d]).depth<=74:=by have:=bn.dp;omega
  refine aO fun k3 hk3=>?_;push_cast;refine⟨.ref l,_,_,rfl,t3,ω,ω,fun ls xs ps H4 s4 e4 p4 v4 n4=>?_⟩;push_cast;subst hk3;have tp4:=tp3.same s4;have np:2<=nodes (.list [d]):=by
   have:=Qv d;show 2<=1+(nodes d+0);omega
  have lp:=p4.nt tp4 e4 ω;have xl:=p4.length;push_cast [e4];refine⟨p,(xs.length:Int),B+2+12*(j:Int),rfl,tp4,ω,ω,ω,δ,fun z=>absurd z ω,fun at0 H5 a0 a1 s5 tp5=>?_⟩;have e5:=s5 _ _ lp e4;have p5:=p4.PB tp4 s5;have hj5:at0.toNat<xs.length:=ω;have hx:xs[at0.toNat]?=some xs[at0.toNat]:=AF hj5;have hxl:atI xs at0=some xs[at0.toNat]:=by
   have:=dH hx;rw[show((at0.toNat:Nat):Int)=at0 by omega] at this;exact this
  push_cast [e5,hxl];obtain⟨tt,pth,ett,hp,et⟩:=p5.get hx;rw[ett];obtain⟨vl,vne⟩:=v4 pth (AV hp);have pl:=mX pth _ vl;refine⟨p,_,.ref l,_,j,_,tt,pth,rfl,tp5,ω,ω,tp5.newOk,fun _ h=>h,(t3.same s4).gW s5,bn.sz,ω,et,vl,ω,ω,fun v' d' H6 s6 tp6 t6 b6 hl6=>?_⟩;obtain⟨ds',rfl,hl'⟩:=hl6 _ rfl vne;obtain⟨d2,rfl⟩:=Ee.mp hl';cases t6 with
  | lst o6 e6 z6 ts6=>
   rename_i l6 ys;show Pv _ _ _;rw[hPv];refine⟨l6,d2,_,_,((s3.trans s4.x).trans s5).trans s6,tp6.le ω,.lst o6 e6 z6 ts6,⟨b6.sz,?_,?_⟩,rfl⟩
   ·have h1:=b6.nd;have h2:=bn.nd;rcases hj1 with rfl|rfl
    ·simp only[pow_zero,one_mul,Nat.zero_add,pow_one] at h2 |-;omega
    simp only[pow_one] at h2;show nodes (.list [d2])<=16*nodes (.list [d0])+500;omega
   have h1:=b6.dp;have h2:=bn.dp;omega
 intro σ H3 pv;rw[hPv] at pv;obtain⟨l,d,o3,o4,s3,tp3,t3,bn,rfl⟩:=pv;show k _ _;subst hk;push_cast;exact q l d m H3 s3 (tp3.le ω) t3 hm1 hm2 bn
end
noncomputable abbrev gq:List Str:=["_law_tape_here","_law_thing","_law_inner","_law_at","_law_way","_law_more"]
noncomputable abbrev bF:Stmt:=top 42
theorem iR:bw gq q6_ (aj bF):=⟨rfl,rfl,rfl,ψ,rfl,ψ,ψ⟩
theorem lH:NM_ gq bF 0 "_law_tape_here" := .of ψ
theorem fV:NM_ gq bF 1 "_law_thing" := .of ψ
theorem bJ:NM_ gq bF 2 "_law_inner" := .of ψ
theorem dh:NM_ gq bF 3 "_law_at" := .of ψ
theorem eO:NM_ gq bF 4 "_law_way" := .of ψ
theorem qw:NM_ gq bF 5 "_law_more" := .of ψ
theorem iB:GI_ bF "_law_as" := by decide +kernel
theorem jj:GI_ bF "_law_take" := by decide +kernel
theorem nA:GI_ bF "isinstance" := by decide +kernel
theorem wD:GI_ bF "len" := by decide +kernel
theorem vA:GI_ bF "list" := by decide +kernel
theorem lO:GI_ bF "tuple" := by decide +kernel
theorem CK:Bn "_law_step_of_many" := ⟨ψ,ψ⟩
theorem Hj {ok:Addr->Prop}{σ:L2.St}{H:Hp}{D:Ends}{te:TE}{th:Addr}{xs0:List V}{ds':List AD}(n:cJ ok H)(h1:σ[1]?=some (some (.ref th)))(e:H th=some (.lst xs0)\/H th=some (.tup xs0))(h:Gv ok te σ H (.list ds'))
  (q:∀v' d' H',Same H H'->aJ ok H' v' d'->(d'=.list ds'\/d'=.tuple ds')->D.rt v' H'):Kh (pX Xh [] E0 (gU (tV 1) (gU te rZ))) D σ H:=by
 unfold Kh pX gU;refine Sv h1 ?_;refine h H (Same.refl _) _ fun v1 H1 s1 t1=>?_;cases t1 with
 | lst o e1 z ts=>
  rename_i l1 ys;refine⟨th,_,_,xs0,rfl,e1,?_⟩;rcases e with e|e
  ·exact .inr ⟨s1 _ _ e,q _ _ _ s1 (.lst o e1 z ts) (.inl rfl)⟩
  refine .inl ⟨s1 _ _ e,fun p hp=>?_⟩;have s2:=aA (o:=HO.tup ys) hp;exact q _ _ _ (s1.trans s2) (.tup (n _ _ s1 hp) aB z (ts.same s2)) (.inr rfl)
section
variable {P:AU}{w:Be}{K:Au}{mg:Str->Option An}{base:Heap}{f:Addr}{fd:BU}{bs:List Str}
theorem U9 (hB:∀x:Str,x∈BLs->mg x=none) (CZTake:Cal P w K mg base "_law_take" 2 q0_ (lA 2)) (CZAs:Cal P w K mg base "_law_as" 1 q12_ Xh) (F:Fun K "_law_step_of_many" "_law_step_of_many" bF f fd):dj P w K mg base CX0 3 f fd q6_ (uI true):=by
 refine F.okq iR (fun vs H Q E h=>?_) (fun cdv A outer s H vs Q E hr h=>?_)
 ·obtain⟨p,B,v,d,a,ok,rfl,_⟩:=h;rfl
 obtain⟨p,B,v,d,a,ok,rfl,tp,hB0,hB1,hnw,hok,t,sz,ha,hsq,q⟩:=h;refine⟨_,(aG (bB bJ iR.nd (lF kI vA (hB "list" mC) GW mJ (ak (ao fV) aq rfl) rfl rfl) rfl (.inl rfl))
  (aG (bB dh iR.nd (bf CZTake (hr.mono δ) jj cH (ak (ao lH) (ak (aL bx (bU cO wD (hB "len" ig) B0 iu (ak (ao bJ) aq rfl) rfl rfl) au) aq rfl) rfl) rfl rfl) rfl (.inl rfl))
  (aG (bB eO iR.nd (bf CZTake (hr.mono δ) jj cH (ak (ao lH) (ak au aq rfl) rfl) rfl rfl) rfl (.inl rfl))
  (aG (bB qw iR.nd (aR bT (bD (ak au (ak au (ak tQ (ak jB (ak (bY aq) (ak (Dk (bW (UW hr.dU) (ao bJ) (bD aq) (bN _)) (aR bT (ao bJ) (zp pW au) (fun _ _=>rfl)) (zp pW au)) aq rfl) rfl) rfl) rfl) rfl) rfl)) (bf CZTake (hr.mono δ) jj cH (ak (ao lH) (ak au aq rfl) rfl) rfl rfl) (fun _ _=>rfl)) rfl (.inl rfl))
  (aG (eG (bW Dl (ao eO) au (bN _)) (aN (aY (bf CZAs (hr.mono δ) iB JS (ak (ao fV) (ak (aL bx (cA vU (ao bJ) dF (cZ (ao dh))) (cA vU (ao bJ) (cZ (aL bx (ao dh) au)) dF)) aq rfl) rfl) rfl rfl))) cN)
  (aG (eG (bW (jg hr.dU) (ao eO) au (bN _)) (aN (aY (bf CZAs (hr.mono δ) iB JS (ak (ao fV) (ak (aL bx (aL bx (cA vU (ao bJ) dF (cZ (ao dh))) (cA vU (ao bJ) (cZ (ao dh)) (cZ (aL bx (ao dh) au)))) (cA vU (ao bJ) (cZ (ao dh)) dF)) aq rfl) rfl) rfl rfl))) cN)
  (aG (eG (bW (jg hr.dU) (ao eO) au (bN _)) (aN (aY (bf CZAs (hr.mono δ) iB JS (ak (ao fV) (ak (aaV (ao bJ)) aq rfl) rfl) rfl rfl))) cN)
  (aG (eG (bW (jg hr.dU) (ao eO) au (bN _)) (aN (aY (Dk (jD (bU eE nA (hB "isinstance" bL) B1 bM (ak (ao fV) (ak (jT "tuple" lO (hB "tuple" jt) Fn jw) aq rfl) rfl) rfl rfl) (fun _=>rfl)) (ao bJ) (lF jc lO (hB "tuple" jt) Fn jw (ak (ao bJ) aq rfl) rfl rfl)))) cN)
  (aG (eG (bW Dl (ao eO) au (bN _)) (aN (aY (bf CZAs (hr.mono δ) iB JS (ak (ao fV) (ak (aL bx (aL bx (cA vU (ao bJ) dF (cZ (ao dh))) (bD (ak (ao qw) aq rfl))) (cA vU (ao bJ) (cZ (ao dh)) dF)) aq rfl) rfl) rfl rfl))) cN)
  (aN (aY (aR bT (bD (ak (bY aq) (ak tQ aq rfl) rfl)) (aL gG (ao eO) au) (fun _ _=>rfl))))))))))))),?_⟩
 replace hsq:=hsq rfl;obtain⟨th,xs0,ds,rfl,oo,esq,z,ts,hsd,hn0,hd0⟩:∃(th:Addr)(xs0:List V)(ds:List AD),v=.ref th/\ok th/\(H th=some (.lst xs0)\/H th=some (.tup xs0))/\xs0.length<=1000000/\aH ok H xs0 ds/\(ds.length<=210*5^a/\pA a ds)/\nodes d=1+aK ds/\d.depth=AD.depthAll ds+1:=by
  cases t with
  | lst oo e z ts=>exact⟨_,_,_,rfl,oo,.inl e,z,ts,sz,rfl,AD.depth.eq_1 _⟩
  | tup oo e z ts=>exact⟨_,_,_,rfl,oo,.inr e,z,ts,sz,rfl,AD.depth.eq_2 _⟩
  | _=>cases hsq
 have hlx:=ts.length;have pw:=Ur ha;have l1:=hsd.1;have hall:=iy.mp hsd.2;refine aO fun k hk=>?_;push_cast;refine⟨xs0,esq.imp SqL.of SqT.of,fun li hli=>?_⟩;have s1:=aA (o:=HO.lst xs0) hli;have e1:upd H li (HO.lst xs0) li=some (HO.lst xs0):=aB;have okl:=hnw.new hli;have tin1:aJ ok (upd H li (HO.lst xs0)) (.ref li) (.list ds):=.lst okl aB z (ts.same s1);have esq1:upd H li (HO.lst xs0) th=some (.lst xs0)\/upd H li (HO.lst xs0) th=some (.tup xs0):=esq.imp (s1 _ _) (s1 _ _);have tp1:=tp.same s1;have hn1:=hnw.same s1;generalize upd H li (HO.lst xs0)=H1 at s1 e1 tin1 esq1 tp1 hn1 |-;subst hk;refine aO fun k hk=>?_;push_cast [e1];refine⟨p,(xs0.length:Int)+1,B,rfl,tp1,by show B+2<=1000100;omega,ω,ω,δ,fun z=>absurd z ω,fun at0 H2 a0 a1 s2 tp2=>?_⟩;push_cast;subst hk;refine aO fun k hk=>?_;push_cast;refine⟨p,9,B+2,rfl,tp2,by show B+2+2<=1000100;omega,δ,δ,δ,fun z=>absurd z δ,fun way H3 w0 w1 s3 tp3=>?_⟩;push_cast;subst hk;have sx3:aW p H H3:=(s1.x.trans s2).trans s3;have tin3:=(tin1.qg hok s2).qg hok s3;have hn3:=(hn1.gW s2 tp2).gW s3 tp3;have esq3:H3 th=some (.lst xs0)\/H3 th=some (.tup xs0):=esq1.imp (fun e=>s3 _ _ (hok _ oo) (s2 _ _ (hok _ oo) e)) (fun e=>s3 _ _ (hok _ oo) (s2 _ _ (hok _ oo) e))
 -- the one put in
 refine aO fun k hk=>?_;obtain⟨dl,hdl,gl⟩:=Rg (ok:=ok) (i:=2) (σ:=[some (.ref p),some (.ref th),some (.ref li),some (.int at0),some (.int way),none]) hn3 rfl tin3;refine VP (ok:=ok) (.list [.int 0,.int 1,.none,.bool true,.tuple [],dl]) rfl ?_ fun po xso H4 s4 e4 po4 t4=>?_
 ·exact dm hn3 (aD iM (aD iM (aD uh (aD xq (aD (eU hn3 aU (by show 0<=1000000;decide)) (aD gl aU)))))) (by show 6<=1000000;decide)
 have tp4:=tp3.same s4;push_cast;refine⟨p,6,B+2+2,rfl,tp4,by show B+2+2+2<=1000100;omega,δ,δ,δ,fun z=>absurd z δ,fun r5 H5 r50 r51 s5 tp5=>?_⟩;have e5:=s5 _ _ (hok _ po4) e4;obtain⟨xo,od,hxo,hod,todd⟩:=(t4.qg hok s5).at r50 (show r5<6 by omega);push_cast [e5,hxo];subst hk;have upo:szD (a+1) od/\od.depth<=AD.depthAll ds+2/\nodes od<=aK ds+4:=by
  have odd:∀{d:AD},yw d->szD (a+1) d/\d.depth<=AD.depthAll ds+2/\nodes d<=aK ds+4:=fun h=>⟨Es h.sz,by have:=h.dp;omega,by have:=h.nd;omega⟩;rcases AX.mp hod with rfl|hod
  ·exact odd (ou δ)
  rcases AX.mp hod with rfl|hod
  ·exact odd (ou δ)
  rcases AX.mp hod with rfl|hod
  ·exact odd uY
  rcases AX.mp hod with rfl|hod
  ·exact odd zB
  rcases AX.mp hod with rfl|hod
  ·exact odd yD.2
  rw[AJ.mp hod];rcases hdl with rfl|hm
  ·exact odd (ou δ)
  exact⟨tM (hall _ hm),by have:=dX hm;omega,by have:=jr hm;omega⟩
 have sx5:aW p H H5:=(sx3.trans s4.x).trans s5;have tin:=(tin3.same s4).qg hok s5;have hn:=(hn3.same s4).gW s5 tp5;have esq5:H5 th=some (.lst xs0)\/H5 th=some (.tup xs0):=esq3.imp (fun e=>s5 _ _ (hok _ oo) (s4 _ _ e)) (fun e=>s5 _ _ (hok _ oo) (s4 _ _ e));have tp5':aP H5 p (B+10):=tp5.le (by show B+2+2+2<=B+10;omega);have c0:=qO ds none (some at0);have n0:=j9 ds none (some at0);have c1:=qO ds (some (at0+1)) none;have n1:=j9 ds (some (at0+1)) none;have c3:=qO ds (some at0) none;have n3:=j9 ds (some at0) none;have c5:=qO ds (some at0) (some (at0+1));have n5:=j9 ds (some at0) (some (at0+1));have up:∀x∈ds,szD (a+1) x/\x.depth<=AD.depthAll ds+2:=fun x hx=>⟨tM (hall x hx),by have:=dX hx;omega⟩;have upc:∀{lo hi:Option Int},∀x∈cutD ds lo hi,szD (a+1) x/\x.depth<=AD.depthAll ds+2:=fun x hx=>up x (Ws hx);have app:∀{A1 A2:List AD},(∀x∈A1,szD (a+1) x/\x.depth<=AD.depthAll ds+2)->(∀x∈A2,szD (a+1) x/\x.depth<=AD.depthAll ds+2)->∀x∈A1++A2,szD (a+1) x/\x.depth<=AD.depthAll ds+2:=fun h1 h2 x hx=>(BS.mp hx).elim (h1 x) (h2 x);have Hg:∀{ds':List AD},(∀x∈ds',szD (a+1) x/\x.depth<=AD.depthAll ds+2)->ds'.length<=4*ds.length+1->aK ds'<=4*aK ds+10->wV a d (.list ds')/\wV a d (.tuple ds'):=fun hx hl hn=>Z2 hn0 hd0 (fun x h=>(hx x h).1) ω hn (fun x h=>(hx x h).2);have go:∀{ds':List AD}(v':V)(d':AD)(H':Hp),Same H5 H'->aJ ok H' v' d'->(d'=.list ds'\/d'=.tuple ds')->(∀x∈ds',szD (a+1) x/\x.depth<=AD.depthAll ds+2)->ds'.length<=4*ds.length+1->aK ds'<=4*aK ds+10->Q v' H':=fun v' d' H' sH t' hd' hx hl hn=>by
  have b:=Hg hx hl hn;refine q v' d' H' (sx5.trans sH.x) (tp5'.same sH) t' ?_;rcases hd' with rfl|rfl
  ·exact b.1
  exact b.2
 have g2:Gv ok (tV 2) [some (.ref p),some (.ref th),some (.ref li),some (.int at0),some (.int way),some xo] H5 (.list ds):=xY rfl tin;refine aO fun k hk=>?_;refine gb fun kt ke hkt hke=>?_;push_cast;split
 ·subst hkt;refine Hj hn rfl esq5 (qH hn (jb hn g2 (fun H Q q=>q) (fun H Q q=>⟨at0,rfl,q⟩)) (jb hn g2 (fun H Q q=>⟨at0+1,rfl,q⟩) (fun H Q q=>q)) ω) fun v' d' H' sH t' hd'=>?_;exact go v' d' H' sH t' hd' (app upc upc) (by rw[AI];omega) (by rw[b8];omega)
 subst hke;push_cast;subst hk;refine aO fun k hk=>?_;refine gb fun kt ke hkt hke=>?_;push_cast;split
 ·subst hkt;refine Hj hn rfl esq5 (qH hn (qH hn (jb hn g2 (fun H Q q=>q) (fun H Q q=>⟨at0,rfl,q⟩)) (jb hn g2 (fun H Q q=>⟨at0,rfl,q⟩) (fun H Q q=>⟨at0+1,rfl,q⟩)) ω) (jb hn g2 (fun H Q q=>⟨at0,rfl,q⟩) (fun H Q q=>q)) (by rw[AI];omega)) fun v' d' H' sH t' hd'=>?_;exact go v' d' H' sH t' hd' (app (app upc upc) upc) (by rw[AI,AI];omega) (by rw[b8,b8];omega)
 subst hke;push_cast;subst hk;refine aO fun k hk=>?_;refine gb fun kt ke hkt hke=>?_;push_cast;split
 ·subst hkt;refine Hj hn rfl esq5 (abS hn g2) fun v' d' H' sH t' hd'=>?_;exact go v' d' H' sH t' hd' (fun x hx=>up x (List.mem_reverse.mp hx)) (by rw[II];omega) (by rw[m7];omega)
 subst hke;push_cast;subst hk;refine aO fun k hk=>?_;refine gb fun kt ke hkt hke=>?_;push_cast;split
 ·subst hkt;have bt:=Hg up ω ω;rcases esq5 with e|e
  ·push_cast [e];cases tin with
   | lst o' e' z' ts'=>
    rename_i ys;refine⟨_,.inl ⟨SqL.of e',fun l9 hl9=>?_⟩⟩;have s9:=aA (o:=HO.tup ys) hl9;exact q _ _ _ (sx5.trans s9.x) (tp5'.same s9) (.tup (hn.new hl9) aB z' (ts'.same s9)) bt.2
  push_cast [e];exact q _ _ _ sx5 tp5' tin bt.1
 subst hke;push_cast;subst hk;refine aO fun k hk=>?_;refine gb fun kt ke hkt hke=>?_;push_cast;split
 ·subst hkt;refine Hj hn rfl esq5 (qH hn (qH hn (jb hn g2 (fun H Q q=>q) (fun H Q q=>⟨at0,rfl,q⟩)) (dm hn (aD (xY (i:=5) rfl todd) aU) (by show 1<=1000000;decide)) (by rw[BE];omega)) (jb hn g2 (fun H Q q=>⟨at0,rfl,q⟩) (fun H Q q=>q)) (by rw[AI,BE];omega)) fun v' d' H' sH t' hd'=>?_;exact go v' d' H' sH t' hd' (app (app upc (fun x hx=>by rw[AJ.mp hx];exact⟨upo.1,upo.2.1⟩)) upc) (by rw[AI,AI,BE];omega) (by rw[b8,b8,aK,aK];omega)
 subst hke;push_cast;subst hk;refine VP (ok:=ok) (.list [.tuple [],.none]) rfl ?_ fun p6 xs6 H6 s6 e6 po6 t6=>?_
 ·exact dm hn (aD (eU hn aU (by show 0<=1000000;decide)) (aD uh aU)) (by show 2<=1000000;decide)
 obtain⟨x7,d7,hx7,hd7,t7⟩:=t6.at (show 0<=way-7 by omega) (show way-7<2 by omega);push_cast [e6,hx7];have o7:yw d7:=by
  rcases AX.mp hd7 with rfl|hd7
  ·exact yD.2
  rw[AJ.mp hd7];exact uY
 exact q _ _ _ (sx5.trans s6.x) (tp5'.same s6) t7 o7.Hg
theorem YX (hB:∀x:Str,x∈BLs->mg x=none) (CZTake:Cal P w K mg base "_law_take" 2 q0_ (lA 2)) (CZStepOfMany:Cal P w K mg base "_law_step_of_many" 3 q6_ (uI true)) (F:Fun K "_law_step" "_law_step" fO f fd):dj P w K mg base CX0 4 f fd q6_ (uI false):=by
 refine F.okq uM (fun vs H Q E h=>?_) (fun cdv A outer s H vs Q E hr h=>?_)
 ·obtain⟨p,B,v,d,a,ok,rfl,_⟩:=h;rfl
 obtain⟨p,B,v,d,a,ok,rfl,tp,hB0,hB1,hnw,hok,t,sz,ha,_,q⟩:=h;refine⟨_,(aG (eG (jD (bU Ea gO (hB "isinstance" bL) B1 bM (ak (ao b7) (ak (bY (ak (jT "list" Jl (hB "list" mC) GW mJ) (ak (jT "tuple" Gq (hB "tuple" jt) Fn jw) aq rfl) rfl)) aq rfl) rfl) rfl rfl) (fun _=>rfl)) (aN (aY (bf CZStepOfMany (hr.mono δ) um CK (ak (ao zK) (ak (ao b7) aq rfl) rfl) rfl rfl))) cN)
  (aG (bB u5 uM.nd (bf CZTake (hr.mono δ) vz cH (ak (ao zK) (ak au aq rfl) rfl) rfl rfl) rfl (.inl rfl))
  (aG (eG (jD (bU eE gO (hB "isinstance" bL) B1 bM (ak (ao b7) (ak (jT "str" Ah (hB "str" Vv) boot_str Wz) aq rfl) rfl) rfl rfl) (fun _=>rfl)) (aG (bB gY uM.nd (bf CZTake (hr.mono δ) vz cH (ak (ao zK) (ak (aL fL (bU RL Lr (hB "len" ig) B0 iu (ak (ao b7) aq rfl) rfl rfl) au) aq rfl) rfl) rfl rfl) rfl (.inl rfl))
  (aG (bB u0 uM.nd (bD (ak (aL fL (aL fL (cA Bw (ao b7) dF (cZ (ao gY))) dg) (cA Bw (ao b7) (cZ (aL fL (ao gY) au)) dF)) (ak (aL fL (aL fL (cA Bw (ao b7) dF (cZ (ao gY))) dg) (cA Bw (ao b7) (cZ (aL fL (ao gY) au)) dF)) (ak (aL fL (aL fL (cA Bw (ao b7) dF (cZ (ao gY))) dg) (cA Bw (ao b7) (cZ (ao gY)) dF)) aq rfl) rfl) rfl)) rfl (.inl rfl))
  (aG (bB u0 uM.nd (aL fL (ao u0) (bD (ak (aL fL (cA Bw (ao b7) dF (cZ (ao gY))) (cA Bw (ao b7) (cZ (aL fL (ao gY) au)) dF)) (ak (aL fL (aL fL (cA Bw (ao b7) dF (cZ (ao gY))) dg) (cA Bw (ao b7) (cZ (aL fL (ao gY) au)) dF)) (ak dg (ak tQ (ak au (ak (bY (ak (ao b7) aq rfl)) aq rfl) rfl) rfl) rfl) rfl) rfl))) rfl (.inl rfl))
  (aN (aY (aR abO (ao u0) (ao u5) (fun _ _=>rfl))))))) cN)
  (aG (eG (KC (Ft (jD (bU eE gO (hB "isinstance" bL) B1 bM (ak (ao b7) (ak (jT "int" Ls (hB "int" qF) HQ qQ) aq rfl) rfl) rfl rfl) (fun _=>rfl)) (yC (vZ (jD (bU eE gO (hB "isinstance" bL) B1 bM (ak (ao b7) (ak (jT "bool" Jm (hB "bool" vg) boot_bool vK) aq rfl) rfl) rfl rfl) (fun _=>rfl)))))) (aN (aY (aR abO (bD (ak (aL fL (ao b7) au) (ak (aL gG (ao b7) au) (ak (aL gG au (ao b7)) (ak (aL fK au (ao b7)) (ak jB (ak tQ (ak (lF G4 Ah (hB "str" Vv) boot_str Wz (ak (ao b7) aq rfl) rfl rfl) (ak (bD (ak (ao b7) aq rfl)) (ak jB aq rfl) rfl) rfl) rfl) rfl) rfl) rfl) rfl) rfl)) (ao u5) (fun _ _=>rfl)))) cN)
  (aN (aY (aR abO (bD (ak au (ak au (ak (bY aq) (ak dg (ak tQ (ak jB (ak jB (ak (bD aq) (ak au aq rfl) rfl) rfl) rfl) rfl) rfl) rfl) rfl) rfl)) (ao u5) (fun _ _=>rfl)))))))),?_⟩
 have p2:=aa7 ha;refine aO fun k hk=>?_;refine gb fun kt ke hkt hke=>?_;have tt:=t;have all9:∀d∈([.int 0,.int 1,.tuple [],.str "",.none,.bool true,.bool false,.list [],.int 2]:List AD),Sm3 a d:=cg (ou δ).sm3 (cg (ou δ).sm3 (cg yD.2.sm3 (cg (NZ "" δ).sm3 (cg uY.sm3 (cg zB.sm3 (cg zB.sm3 (cg yD.1.sm3 (cg (ou δ).sm3 Kw))))))));cases t with
 | lst o e z ts=>
  push_cast;refine⟨aX δ,fun t2 ht2=>?_⟩;have s2:=aA (o:=HO.tup [V.ty "list",V.ty "tuple"]) ht2;have e2:=s2 _ _ e;push_cast [e2];subst hkt;push_cast;exact⟨p,B,_,_,a,ok,rfl,tp.same s2,hB0,hB1,hnw.same s2,hok,tt.same s2,sz,ha,fun _=>rfl,fun v' d' H' sx tp' t' b'=>q v' d' H' (s2.x.trans sx) tp' t' b'⟩
 | tup o e z ts=>
  push_cast;refine⟨aX δ,fun t2 ht2=>?_⟩;have s2:=aA (o:=HO.tup [V.ty "list",V.ty "tuple"]) ht2;have e2:=s2 _ _ e;push_cast [e2];subst hkt;push_cast;exact⟨p,B,_,_,a,ok,rfl,tp.same s2,hB0,hB1,hnw.same s2,hok,tt.same s2,sz,ha,fun _=>rfl,fun v' d' H' sx tp' t' b'=>q v' d' H' (s2.x.trans sx) tp' t' b'⟩
 | str x=>
  push_cast;refine⟨aX δ,fun t2 ht2=>?_⟩;have s2:=aA (o:=HO.tup [V.ty "list",V.ty "tuple"]) ht2;have tp2:=tp.same s2;generalize upd H t2 (HO.tup [V.ty "list",V.ty "tuple"])=H2 at s2 tp2 |-;subst hke;push_cast;subst hk;refine aO fun k hk=>?_;push_cast;refine⟨p,9,B,rfl,tp2,by show B+2<=1000100;omega,δ,δ,δ,fun z=>absurd z δ,fun way H3 w0 w1 s3 tp3=>?_⟩;push_cast;subst hk;have tp3':aP H3 p (B+2):=tp3;have sx3:aW p H H3:=s2.x.trans s3;have hn:=(hnw.same s2).gW s3 tp3;refine aO fun k hk=>?_;refine gb fun kt ke hkt hke=>?_;push_cast;subst hkt;have hx:okS a x:=sz;have hxl:=hx.1;have hxs:x.length<=AK:=aX ω;refine aO fun k2 hk2=>?_;push_cast [rdX];refine⟨hxs,p,(x.length:Int)+1,B+2,rfl,tp3',by show B+2+2<=1000100;omega,ω,ω,δ,fun z=>absurd z ω,fun at0 H4 a0 a1 s4 tp4=>?_⟩;push_cast;subst hk2;have sx4:aW p H H4:=sx3.trans s4;have hn4:=hn.gW s4 tp4;have tx:∀{H5:Hp},aJ ok H5 (.str x) (.str x):=.str x;refine aO fun k2 hk2=>?_;have hx1:x.length<=1000:=ω;refine WX (ok:=ok) (d:=.list [.str (AW x none (some at0)++("0" : Str)++AW x (some (at0+1)) none),.str (AW x none (some at0)++("1" : Str)++AW x (some (at0+1)) none),.str (AW x none (some at0)++("1" : Str)++AW x (some (at0)) none)]) ?_ fun v5 H5 s5 t5=>?_
  ·exact dm hn4 (aD (yI (vo rfl rfl hx1) (vm rfl rfl hx1) hx1 δ) (aD (yI (vo rfl rfl hx1) (vm rfl rfl hx1) hx1 δ) (aD (yI (vo rfl rfl hx1) (V6 rfl rfl hx1) hx1 δ) aU))) (by show 3<=1000000;decide)
  show k2 _ _;simp only[DB,DA];subst hk2;have hn5:=hn4.same s5;refine aO fun k2 hk2=>?_;refine WX (ok:=ok) (d:=.list ([.str (AW x none (some at0)++("0" : Str)++AW x (some (at0+1)) none),.str (AW x none (some at0)++("1" : Str)++AW x (some (at0+1)) none),.str (AW x none (some at0)++("1" : Str)++AW x (some (at0)) none)]++[.str (AW x none (some at0)++AW x (some (at0+1)) none),.str (AW x none (some at0)++("2" : Str)++AW x (some (at0+1)) none),.str "",.none,.int 0,.tuple [.str x]])) ?_ fun v6 H6 s6 t6=>?_
  ·exact Zw hn5 (xY rfl t5) (dm hn5 (aD (V7 (vo rfl rfl hx1) (vm rfl rfl hx1) hx1) (aD (yI (vo rfl rfl hx1) (vm rfl rfl hx1) hx1 δ) (aD ji (aD uh (aD iM (aD (eU hn5 (aD (xY rfl (.str x)) aU) (by show 1<=1000000;decide)) aU)))))) (by show 6<=1000000;decide)) (by show 3+6<=1000000;decide)
  show k2 _ _;simp only[DB,DA];subst hk2;refine Gm (ok:=ok) (.list [.str (AW x none (some at0)++("0" : Str)++AW x (some (at0+1)) none),.str (AW x none (some at0)++("1" : Str)++AW x (some (at0+1)) none),.str (AW x none (some at0)++("1" : Str)++AW x (some (at0)) none),.str (AW x none (some at0)++AW x (some (at0+1)) none),.str (AW x none (some at0)++("2" : Str)++AW x (some (at0+1)) none),.str "",.none,.int 0,.tuple [.str x]]) rfl (xY rfl t6) fun p7 xs7 H7 s7 e7 po7 t7=>?_;obtain⟨x8,d8,hx8,hd8,t8⟩:=t7.at w0 (show way<9 by omega);push_cast [rdX,e7,hx8];have b1:∀(m:Str),okS 0 m->m.length<=1->okS (a+1) (AW x none (some at0)++m++AW x (some (at0+1)) none):=fun m hm hl=>(zA hx a0 ω hm hl).1;have b0:okS (a+1) (AW x none (some at0)++("1" : Str)++AW x (some at0) none):=(zA hx a0 ω (tW "1" 0 δ) ψ).1;have b2:okS (a+1) (AW x none (some at0)++AW x (some (at0+1)) none):=(zA (m := "1") hx a0 ω (tW "1" 0 δ) ψ).2;have pw:=Ur ha;have st:Sm3 a (.tuple [.str x]):=⟨⟨by show 1<=210*5^(a+1);omega,(tM sz:szD (a+1) (.str x)),trivial⟩,by show 2<=20;decide,by show max 0 0+1<=2;decide⟩;have all8:∀d∈([.str (AW x none (some at0)++("0" : Str)++AW x (some (at0+1)) none),.str (AW x none (some at0)++("1" : Str)++AW x (some (at0+1)) none),.str (AW x none (some at0)++("1" : Str)++AW x (some (at0)) none),.str (AW x none (some at0)++AW x (some (at0+1)) none),.str (AW x none (some at0)++("2" : Str)++AW x (some (at0+1)) none),.str "",.none,.int 0,.tuple [.str x]]:List AD),Sm3 a d:=cg (vQ (b1 "0" (tW "0" 0 δ) ψ)) (cg (vQ (b1 "1" (tW "1" 0 δ) ψ)) (cg (vQ b0) (cg (vQ b2) (cg (vQ (b1 "2" (tW "2" 0 δ) ψ)) (cg (NZ "" δ).sm3 (cg uY.sm3 (cg (ou δ).sm3 (cg st Kw))))))));exact q _ _ _ (((sx4.trans s5.x).trans s6.x).trans s7.x) ((((tp4.same s5).same s6).same s7).le (by show B+2+2<=B+10;omega)) t8 (all8 d8 hd8).Hg
 | int i=>
  push_cast;refine⟨aX δ,fun t2 ht2=>?_⟩;have s2:=aA (o:=HO.tup [V.ty "list",V.ty "tuple"]) ht2;have tp2:=tp.same s2;generalize upd H t2 (HO.tup [V.ty "list",V.ty "tuple"])=H2 at s2 tp2 |-;subst hke;push_cast;subst hk;refine aO fun k hk=>?_;push_cast;refine⟨p,9,B,rfl,tp2,by show B+2<=1000100;omega,δ,δ,δ,fun z=>absurd z δ,fun way H3 w0 w1 s3 tp3=>?_⟩;push_cast;subst hk;have tp3':aP H3 p (B+2):=tp3;have sx3:aW p H H3:=s2.x.trans s3;have hn:=(hnw.same s2).gW s3 tp3;refine aO fun k hk=>?_;refine gb fun kt ke hkt hke=>?_;push_cast;subst hke;push_cast;subst hk;refine aO fun k hk=>?_;refine gb fun kt ke hkt hke=>?_;push_cast;subst hkt;have hi:i.natAbs<=10^20*2^a:=sz;have hlog:i.natAbs.log2<1920:=by
   by_cases z:i.natAbs=0
   ·rw[z];decide
   have:=(log2_lt (k:=70) z).mpr ω;omega
  have hts:okS (a+1) (D6 (toString i)):=tW _ _ (by have:=PySem.int_text_length_le10 (a:=i) (k:=21) δ ω;omega);have gi:Gv ok (tV 1) [some (.ref p),some (.int i),some (.int way),none,none] H3 (.int i):=xY rfl (.int i);refine Gm (ok:=ok) (.list [.int (i+1),.int (i-1),.int (0-i),.int (2*i),.bool true,.none,.str (toString i),.list [.int i],.bool false]) rfl ?_ fun p6 xs6 H6 s6 e6 po6 t6=>?_
  ·exact dm hn (aD (wC gi iM (fun H Q q=>q)) (aD (wC gi iM (fun H Q q=>⟨_,_,rfl,rfl,q⟩)) (aD (wC iM gi (fun H Q q=>⟨_,_,rfl,rfl,q⟩)) (aD (wC iM gi (fun H Q q=>⟨_,_,rfl,rfl,.inl ⟨δ,δ⟩,q⟩)) (aD xq (aD uh (aD (Rf gi hlog) (aD (dm hn (aD gi aU) (by show 1<=1000000;decide)) (aD xq aU))))))))) (by show 9<=1000000;decide)
  obtain⟨x7,d7,hx7,hd7,t7⟩:=t6.at w0 (show way<9 by omega);push_cast [rdX,e6,hx7];have all7:∀d∈([.int (i+1),.int (i-1),.int (0-i),.int (2*i),.bool true,.none,.str (toString i),.list [.int i],.bool false]:List AD),Sm3 a d:=cg (Ew ω) (cg (Ew ω) (cg (Ew ω) (cg (Ew ω) (cg zB.sm3 (cg uY.sm3 (cg (vQ hts) (cg (Xk ω).1 (cg zB.sm3 Kw))))))));exact q _ _ _ (sx3.trans s6.x) ((tp3'.same s6).le ω) t7 (all7 d7 hd7).Hg
 | non=>
  push_cast;refine⟨aX δ,fun t2 ht2=>?_⟩;have s2:=aA (o:=HO.tup [V.ty "list",V.ty "tuple"]) ht2;have tp2:=tp.same s2;generalize upd H t2 (HO.tup [V.ty "list",V.ty "tuple"])=H2 at s2 tp2 |-;subst hke;push_cast;subst hk;refine aO fun k hk=>?_;push_cast;refine⟨p,9,B,rfl,tp2,by show B+2<=1000100;omega,δ,δ,δ,fun z=>absurd z δ,fun way H3 w0 w1 s3 tp3=>?_⟩;push_cast;subst hk;have tp3':aP H3 p (B+2):=tp3;have sx3:aW p H H3:=s2.x.trans s3;have hn:=(hnw.same s2).gW s3 tp3;refine aO fun k hk=>?_;refine gb fun kt ke hkt hke=>?_;push_cast;subst hke;push_cast;subst hk;refine aO fun k hk=>?_;refine gb fun kt ke hkt hke=>?_;push_cast;subst hke;push_cast;subst hk;refine Gm (ok:=ok) (.list [.int 0,.int 1,.tuple [],.str "",.none,.bool true,.bool false,.list [],.int 2]) rfl ?_ fun p6 xs6 H6 s6 e6 po6 t6=>?_
  ·exact dm hn (aD iM (aD iM (aD (eU hn aU (by show 0<=1000000;decide)) (aD ji (aD uh (aD xq (aD xq (aD (dm hn aU (by show 0<=1000000;decide)) (aD iM aU))))))))) (by show 9<=1000000;decide)
  obtain⟨x7,d7,hx7,hd7,t7⟩:=t6.at w0 (show way<9 by omega);push_cast [rdX,e6,hx7];exact q _ _ _ (sx3.trans s6.x) ((tp3'.same s6).le ω) t7 (all9 d7 hd7).Hg
 | bl b=>
  push_cast;refine⟨aX δ,fun t2 ht2=>?_⟩;have s2:=aA (o:=HO.tup [V.ty "list",V.ty "tuple"]) ht2;have tp2:=tp.same s2;generalize upd H t2 (HO.tup [V.ty "list",V.ty "tuple"])=H2 at s2 tp2 |-;subst hke;push_cast;subst hk;refine aO fun k hk=>?_;push_cast;refine⟨p,9,B,rfl,tp2,by show B+2<=1000100;omega,δ,δ,δ,fun z=>absurd z δ,fun way H3 w0 w1 s3 tp3=>?_⟩;push_cast;subst hk;have tp3':aP H3 p (B+2):=tp3;have sx3:aW p H H3:=s2.x.trans s3;have hn:=(hnw.same s2).gW s3 tp3;refine aO fun k hk=>?_;refine gb fun kt ke hkt hke=>?_;push_cast;subst hke;push_cast;subst hk;refine aO fun k hk=>?_;refine gb fun kt ke hkt hke=>?_;push_cast;subst hke;push_cast;subst hk;refine Gm (ok:=ok) (.list [.int 0,.int 1,.tuple [],.str "",.none,.bool true,.bool false,.list [],.int 2]) rfl ?_ fun p6 xs6 H6 s6 e6 po6 t6=>?_
  ·exact dm hn (aD iM (aD iM (aD (eU hn aU (by show 0<=1000000;decide)) (aD ji (aD uh (aD xq (aD xq (aD (dm hn aU (by show 0<=1000000;decide)) (aD iM aU))))))))) (by show 9<=1000000;decide)
  obtain⟨x7,d7,hx7,hd7,t7⟩:=t6.at w0 (show way<9 by omega);push_cast [rdX,e6,hx7];exact q _ _ _ (sx3.trans s6.x) ((tp3'.same s6).le ω) t7 (all9 d7 hd7).Hg
end
noncomputable abbrev kO:List Str:=["_law_tape_here","_law_ask","_law_due","_law_handed","_law_turn","_law_some","_law_before","_law_found"]
noncomputable abbrev dO:Stmt:=top 46
theorem pZ:bw kO q8_ (aj dO):=⟨rfl,rfl,rfl,ψ,rfl,ψ,ψ⟩
theorem QF:NM_ kO dO 0 "_law_tape_here" := .of ψ
theorem QD:NM_ kO dO 1 "_law_ask" := .of ψ
theorem Qz:NM_ kO dO 2 "_law_due" := .of ψ
theorem Dv:NM_ kO dO 3 "_law_handed" := .of ψ
theorem Du:NM_ kO dO 4 "_law_turn" := .of ψ
theorem ni:NM_ kO dO 5 "_law_some" := .of ψ
theorem Dt:NM_ kO dO 6 "_law_before" := .of ψ
theorem wz:NM_ kO dO 7 "_law_found" := .of ψ
theorem Cw:GI_ dO "_law_bent" := by decide +kernel
theorem Gx:GI_ dO "bool" := by decide +kernel
theorem ur:GI_ dO "isinstance" := by decide +kernel
theorem Gw:GI_ dO "list" := by decide +kernel
theorem Cv:GI_ dO "range" := by decide +kernel
theorem vC:GI_ dO "repr" := by decide +kernel
theorem WL:Bn "_law_right" := ⟨ψ,ψ⟩
noncomputable def Pa (p:Addr)(H:Hp)(tr:AD->Bool)(s:V->Hp->VK->Prop):Prop:=∀(H':Hp)(B:Int)(l:Addr)(d:AD)(Q:VK),aW p H H'->aP H' p B->aJ (·≠p) H' (.ref l) (.list [d])->nodes d<=7000->d.depth<80->(∀H'',Same H' H''->Q (.bl (tr d)) H'')->s (.ref l) H' Q
noncomputable def M7 (P:AU)(w:Be)(K:Au)(mg:Str->Option An)(base:Heap):Sp:=fun vs H Q _=>∃(p fa fd h:Addr)(B:Int)(v0:V)(d0:AD)(tr:AD->Bool)(sa sd:V->Hp->VK->Prop),vs=[.ref p,.ref fa,.ref fd,.ref h]/\aP H p B/\0<=B/\B<=700000/\h≠p/\H h=some (.lst [v0])/\aJ (·≠p) H v0 d0/\szD 0 d0/\(AD.list [d0]).depth<=70/\nodes (.list [d0])<=400 /\
 El H fa/\El H fd/\Ek P w K mg base 83 fa sa/\Ek P w K mg base 83 fd sd/\Pa p H tr sa/\Pa p H tr sd/\∀H',aW p H H'->aP H' p (B+400)->Q (.bl true) H'
theorem rQ {H H':Hp}{p f:Addr}{B:Int}(h:El H f)(tp:aP H p B)(s:aW p H H'):El H' f:=by
 obtain⟨a,b,c,d,e⟩:=h;refine⟨a,b,c,d,s _ _ (fun z=>?_) e⟩;obtain⟨_,_,_,e2,_⟩:=tp.ex;rw[z,e2] at e;cases e
section
variable {P:AU}{w:Be}{K:Au}{mg:Str->Option An}{base:Heap}{f:Addr}{fd:BU}{bs:List Str}
theorem Vb (hB:∀x:Str,x∈BLs->mg x=none) (CZBent:Cal P w K mg base "_law_bent" 86 q14_ Nb) (F:Fun K "_law_right" "_law_right" dO f fd):dj P w K mg base CX0 87 f fd q8_ (M7 P w K mg base):=by
 refine F.okq pZ (fun vs H Q E h=>?_) (fun cdv A outer s H vs Q E hr h=>?_)
 ·obtain⟨p,fa,fd,h,B,v0,d0,tr,sa,sd,rfl,_⟩:=h;rfl
 obtain⟨p,fa,fd,h,B,v0,d0,tr,sa,sd,rfl,tp,hB0,hB1,nh,eh,t0,sz0,hdp,hnd,ha,hd,La,Ld,Aa,Ad,q⟩:=h;refine⟨_,(aG (iI BQ rfl (gB Cv (hB "range" fY) (ak au aq rfl) rfl) (fU Du pZ.nd (.inl rfl))
  (aG (bB ni pZ.nd (Dk (bW (jg hr.dU) (ao Du) au (bN _)) (lF kI Gw (hB "list" mC) GW mJ (ak (ao Dv) aq rfl) rfl rfl) (bf CZBent (hr.mono δ) Cw ZX (ak (ao QF) (ak (ao Dv) aq rfl) rfl) rfl rfl)) rfl (.inl rfl))
  (aG (bB Dt pZ.nd (bU (Bk hr.gd hr.aad) vC (hB "repr" Oe) boot_repr O5 (ak (ao ni) aq rfl) rfl rfl) rfl (.inl rfl))
  (aG (bB wz pZ.nd (Ij (k:=83) (hr.mono δ) QD (ak (ao ni) aq rfl) rfl rfl) rfl (.inl rfl))
  (aN (eG (KC (Nr (vZ (jD (bU eE ur (hB "isinstance" bL) B1 bM (ak (ao wz) (ak (jT "bool" Gx (hB "bool" vg) boot_bool vK) aq rfl) rfl) rfl rfl) (fun _=>rfl))) (Nr (bW (v9 hr.dU) (ao wz) (Ij (k:=83) (hr.mono δ) Qz (ak (ao ni) aq rfl) rfl rfl) (bN _)) (Kz (bW (v9 hr.dU) (bU (Bk hr.gd hr.aad) vC (hB "repr" Oe) boot_repr O5 (ak (ao ni) aq rfl) rfl rfl) (ao Dt) (bN _)))))) (aN (aY jB)) cN))))) (fun _=>rfl))
  (aN (aY jB))),?_⟩
 refine aO fun k hk=>?_;refine jV fun R hR=>?_;push_cast [pG];refine⟨δ,δ,?_⟩;obtain⟨Pv,hPv⟩:∃Pv:Nat->L2.St->Hp->Prop,Pv=fun(i:Nat) σ H'=>aW p H H'/\aP H' p (B+42*(i:Int))/\∃o4 o5 o6 o7,σ=[some (.ref p),some (.ref fa),some (.ref fd),some (.ref h),o4,o5,o6,o7]:=⟨_,rfl⟩;refine xJ hR Pv (by rw[hPv];exact⟨aW.refl _ _,tp.le ω,_,_,_,_,rfl⟩) ?_ ?_
 ·intro i σ H1 hi pv;rw[hPv] at pv;obtain⟨s1,tp1,o4,o5,o6,o7,rfl⟩:=pv;have hi9:i<9:=hi;refine aO fun k2 hk2=>?_;have eh1:=s1 _ _ nh eh;have t1:=t0.gW s1;have nl:∀d:AD,nodes (.list [d])=1+(nodes d+0):=fun d=>rfl;have dl:∀d:AD,(AD.list [d]).depth=d.depth+1:=fun d=>by rw[AD.depth.eq_1,AD.depthAll.eq_2,AD.depthAll.eq_1];simp
  have go:∀(l:Addr)(d:AD)(H2:Hp),aW p H1 H2->aP H2 p (B+42*(i:Int)+40)->aJ (·≠p) H2 (.ref l) (.list [d])->szD 2 (.list [d])->nodes (.list [d])<=7000->(AD.list [d]).depth<=80->k2 [some (.ref p),some (.ref fa),some (.ref fd),some (.ref h),some (.int (0+(i:Int))),some (.ref l),o6,o7] H2:=by
   intro l d H2 s2 tp2 t2 sz2 hn2 hd2;have hs:Shw (.list [d]):=aaH sz2 ω ω;rw[dl] at hd2;rw[nl] at hn2;have sH2:=s1.trans s2;subst hk2;refine aO fun k3 hk3=>?_;push_cast;refine⟨.ref l,_,_,rfl,t2,hs,?_⟩;push_cast;subst hk3;refine aO fun k3 hk3=>?_;push_cast [Er];refine⟨rQ ha tp sH2,rQ ha tp sH2,sa,La,?_⟩;refine Aa H2 _ l d _ sH2 tp2 t2 ω ω fun H3 s3=>?_;push_cast;subst hk3;have sH3:=sH2.trans s3.x;push_cast [Er];refine⟨rQ hd tp sH3,rQ hd tp sH3,sd,Ld,?_⟩;refine Ad H3 _ l d _ sH3 (tp2.same s3) (t2.same s3) ω ω fun H4 s4=>?_;push_cast;refine⟨.ref l,_,_,rfl,(t2.same s3).same s4,hs,?_⟩;push_cast;rw[hPv];exact⟨sH3.trans s4.x,((tp2.same s3).same s4).le ω,_,_,_,_,rfl⟩
  push_cast;split
  ·refine⟨_,.inl (SqL.of eh1),fun l hl=>?_⟩;have s2:=aA (o:=HO.lst [v0]) hl;refine go l d0 _ s2.x ((tp1.same s2).le ω) (.lst (tp1.ne hl) aB (by show 1<=1000000;decide) (.cons (t1.same s2) .nil)) ⟨by show 1<=210*5^2;decide,Es sz0,trivial⟩ ω ω
  refine⟨p,h,_,v0,d0,rfl,tp1,ω,ω,nh,eh1,t1,sz0,hdp,ω,fun l d j H2 s2 tp2 t2 j1 j2 bn=>?_⟩;have hnd2:=bn.nd;have hdp2:=bn.dp;have j12:j=1\/j=2:=ω;have sz2:szD 2 (.list [d]):=by
   rcases j12 with rfl|rfl
   ·exact tM bn.sz
   exact bn.sz
  have hn2:nodes (.list [d])<=7000:=by
   rcases j12 with rfl|rfl
   ·simp only[pow_one] at hnd2;omega
   rw[show(4:Nat)^2=16 from rfl,show(5:Nat)^2=25 from rfl] at hnd2;omega
  exact go l d H2 s2 tp2 t2 sz2 hn2 ω
 intro σ H3 pv;rw[hPv] at pv;obtain⟨s3,tp3,o4,o5,o6,o7,rfl⟩:=pv;show k _ _;subst hk;push_cast;exact q H3 s3 (tp3.le ω)
end
noncomputable abbrev pQ:List Str:=["_law_script","_law_k","_law_tape_here","_law_stretches_here","_law_many","_law_weights_here","_law_prices_here","_law_paper","_law_scale","_law_ask","_law_due","_law_odd","_law_deep","_law_turn","_law_thing","_law_found"]
noncomputable abbrev cQ:Stmt:=top 47
theorem jR:bw pQ ["_law_script"] (aj cQ):=⟨rfl,rfl,rfl,ψ,rfl,ψ,ψ⟩
theorem Vs:NM_ pQ cQ 0 "_law_script" := .of ψ
theorem Vr:NM_ pQ cQ 1 "_law_k" := .of ψ
theorem uc:NM_ pQ cQ 2 "_law_tape_here" := .of ψ
theorem zV:NM_ pQ cQ 3 "_law_stretches_here" := .of ψ
theorem Vq:NM_ pQ cQ 4 "_law_many" := .of ψ
theorem Gb:NM_ pQ cQ 5 "_law_weights_here" := .of ψ
theorem Ga:NM_ pQ cQ 6 "_law_prices_here" := .of ψ
theorem qC:NM_ pQ cQ 7 "_law_paper" := .of ψ
theorem Vp:NM_ pQ cQ 8 "_law_scale" := .of ψ
theorem Vo:NM_ pQ cQ 9 "_law_ask" := .of ψ
theorem Oc:NM_ pQ cQ 10 "_law_due" := .of ψ
theorem Ob:NM_ pQ cQ 11 "_law_odd" := .of ψ
theorem rM:NM_ pQ cQ 12 "_law_deep" := .of ψ
theorem Zb:NM_ pQ cQ 13 "_law_turn" := .of ψ
theorem Ge:NM_ pQ cQ 14 "_law_thing" := .of ψ
theorem Gd:NM_ pQ cQ 15 "_law_found" := .of ψ
theorem GJ:GI_ cQ "_law_prices" := by decide +kernel
theorem Jt:GI_ cQ "_law_right" := by decide +kernel
theorem Js:GI_ cQ "_law_shows" := by decide +kernel
theorem yp:GI_ cQ "_law_stretches" := by decide +kernel
theorem Ba:GI_ cQ "_law_take" := by decide +kernel
theorem LC:GI_ cQ "_law_tape" := by decide +kernel
theorem CG:GI_ cQ "_law_weights" := by decide +kernel
theorem Rm:GI_ cQ "bool" := by decide +kernel
theorem Bb:GI_ cQ "cost_paper" := by decide +kernel
theorem yo:GI_ cQ "isinstance" := by decide +kernel
theorem Jr:GI_ cQ "len" := by decide +kernel
theorem Wa:GI_ cQ "min" := by decide +kernel
theorem Az:GI_ cQ "range" := by decide +kernel
theorem yq:GI_ cQ "shows_costs" := by decide +kernel
theorem Lz:GI_ cQ "tuple" := by decide +kernel
noncomputable def acT:Stmt->List Stmt
 | .For _ _ b _ _=>b
 | _=>[]
noncomputable def sy:Stmt->D3
 | .Assign _ (.Lambda _ _ sc _) _=>sc
 | st=>aj st
noncomputable def Zi:Stmt->Fs
 | .Assign _ (.Lambda a _ _ _) _=>a
 | st=>aV st
noncomputable def Zh:Stmt->Expr
 | .Assign _ (.Lambda _ b _ _) _=>b
 | _=>.Name "" ⟨0,0,0,0⟩
noncomputable def lamP:Stmt->Pos
 | .Assign _ (.Lambda _ _ _ p) _=>p
 | _=>⟨0,0,0,0⟩
noncomputable def pN:Stmt:=(acT ((aQ cQ).getD 0 cQ)).getD 6 cQ
noncomputable def pK:Stmt:=(acT ((aQ cQ).getD 0 cQ)).getD 7 cQ
noncomputable def quL:Str := "law.<locals>.<lambda>"
noncomputable def xW:Str := "_law_weights_here"
noncomputable def xS:Str := "_law_stretches_here"
noncomputable def xC:Str := "_law_scale"
noncomputable def xP:Str := "_law_prices_here"
noncomputable def cl0 (n:Addr):List (Str×Addr):=[(xW,n+3),(xS,n+2),(xC,n+1),(xP,n)]
noncomputable def cl1 (n:Addr):List (Str×Addr):=[(xW,n+3),(xS,n+2),(xP,n)]
noncomputable def cl2 (n:Addr):List (Str×Addr):=[(xS,n+2),(xC,n+1)]
theorem wM (n:Nat):cellsFrom n (aj cQ).names []=cl0 n:=rfl
theorem gC {x y:Str}{c:Addr}{l:List (Str×Addr)}(h:(x == y)=false):((y,c)::l).lookup x=l.lookup x:=by rw[DM,h]
theorem Vy (n:Addr):(cl0 n).lookup xW=some (n+3)/\(cl0 n).lookup xS=some (n+2)/\(cl0 n).lookup xC=some (n+1)/\(cl0 n).lookup xP=some n:=
 ⟨De,(gC ψ).trans De,(gC ψ).trans ((gC ψ).trans De),(gC ψ).trans ((gC ψ).trans ((gC ψ).trans De))⟩
theorem aak (n:Addr):(cl1 n).lookup xW=some (n+3)/\(cl1 n).lookup xS=some (n+2)/\(cl1 n).lookup xP=some n:=
 ⟨De,(gC ψ).trans De,(gC ψ).trans ((gC ψ).trans De)⟩
theorem aaj (n:Addr):(cl2 n).lookup xS=some (n+2)/\(cl2 n).lookup xC=some (n+1):=
 ⟨De,(gC ψ).trans De⟩
theorem acY {env:Env}{n:Addr}(h:env.cells=cl0 n):EI (sy pN) env=pure (cl1 n):=by
 obtain⟨l1,l2,l3,l4⟩:=Vy n;have hW:GL env xW=pure (n+3):=by unfold GL;rw[h,l1]
 have hS:GL env xS=pure (n+2):=by unfold GL;rw[h,l2]
 have hP:GL env xP=pure n:=by unfold GL;rw[h,l4]
 have hn:(sy pN).names=([("_law_some",.local),(xP,.free),(xS,.free),(xW,.free),("shows_costs",.globalImplicit)]:List (Str×CM)):=rfl;unfold EI;rw[hn];simp only[EX,forIn_nil,hS,hW,hP];rfl
theorem acX {env:Env}{n:Addr}(h:env.cells=cl0 n):EI (sy pK) env=pure (cl2 n):=by
 obtain⟨l1,l2,l3,l4⟩:=Vy n;have hS:GL env xS=pure (n+2):=by unfold GL;rw[h,l2]
 have hC:GL env xC=pure (n+1):=by unfold GL;rw[h,l3]
 have hn:(sy pK).names=([("_law_some",.local),(xC,.free),(xS,.free),("_law_shows",.globalImplicit)]:List (Str×CM)):=rfl;unfold EI;rw[hn];simp only[EX,forIn_nil,hS,hC];rfl
theorem gl1:(sy pN).names.lookup ("shows_costs" : Str)=some .globalImplicit:=by decide +kernel
theorem gl2:(sy pK).names.lookup ("_law_shows" : Str)=some .globalImplicit:=by decide +kernel
theorem Mj {n c:Addr}{y:Str}(h:(cl1 n).lookup y=some c):(y=xW/\c=n+3)\/(y=xS/\c=n+2)\/(y=xP/\c=n):=by
 have m:=BD h;rcases AX.mp m with z|m
 ·cases z;exact .inl ⟨rfl,rfl⟩
 rcases AX.mp m with z|m
 ·cases z;exact .inr (.inl ⟨rfl,rfl⟩)
 cases AJ.mp m;exact .inr (.inr ⟨rfl,rfl⟩)
theorem Mi {n c:Addr}{y:Str}(h:(cl2 n).lookup y=some c):(y=xS/\c=n+2)\/(y=xC/\c=n+1):=by
 have m:=BD h;rcases AX.mp m with z|m
 ·cases z;exact .inl ⟨rfl,rfl⟩
 cases AJ.mp m;exact .inr ⟨rfl,rfl⟩
theorem Vh (n:Nat):n+3≠n+2/\n+3≠n/\n+2≠n/\n+2≠n+1:=by omega
theorem adl (n:Addr):yK "_law_some" [xS,xW,xP] (cl1 n) (sy pN):=by
 obtain⟨l1,l2,l3⟩:=aak n;obtain⟨n1,n2,n3,_⟩:=Vh n;refine⟨rfl,rfl,rfl,ψ,ψ,ψ,fun y h=>?_,fun y z c h1 h2=>?_⟩
 ·have m:=BD h;have a:∀x∈(sy pN).names,x.2=.free->x.1=xW\/x.1=xS\/x.1=xP:=by decide +kernel
  rcases a _ m rfl with e|e|e <;> (simp only at e;rw[e])
  ·exact⟨_,l1⟩
  ·exact⟨_,l2⟩
  exact⟨_,l3⟩
 rcases Mj h1 with⟨e1,f1⟩|⟨e1,f1⟩|⟨e1,f1⟩ <;> rcases Mj h2 with⟨e2,f2⟩|⟨e2,f2⟩|⟨e2,f2⟩ <;>
  first|exact e1.trans e2.symm|(rw[f1] at f2;exact absurd f2 n1)|(rw[f1] at f2;exact absurd f2 n2)|(rw[f1] at f2;exact absurd f2 n3)|(rw[f1] at f2;exact absurd f2.symm n1)|(rw[f1] at f2;exact absurd f2.symm n2)|(rw[f1] at f2;exact absurd f2.symm n3)
theorem adk (n:Addr):yK "_law_some" [xS,xC] (cl2 n) (sy pK):=by
 obtain⟨l1,l2⟩:=aaj n;obtain⟨_,_,_,n4⟩:=Vh n;refine⟨rfl,rfl,rfl,ψ,ψ,ψ,fun y h=>?_,fun y z c h1 h2=>?_⟩
 ·have m:=BD h;have a:∀x∈(sy pK).names,x.2=.free->x.1=xS\/x.1=xC:=by decide +kernel
  rcases a _ m rfl with e|e <;> (simp only at e;rw[e])
  ·exact⟨_,l1⟩
  exact⟨_,l2⟩
 rcases Mi h1 with⟨e1,f1⟩|⟨e1,f1⟩ <;> rcases Mi h2 with⟨e2,f2⟩|⟨e2,f2⟩ <;>
  first|exact e1.trans e2.symm|(rw[f1] at f2;exact absurd f2 n4)|(rw[f1] at f2;exact absurd f2.symm n4)
theorem qG {cs:List Addr}{H:Hp}{b:Addr}{o:HO}(hc:∀c∈cs,∃φ,H c=some (.ext φ))(e:H b=some o)(no:∀φ,o≠.ext φ):hidC cs H b=some o:=(if_neg fun hb=>by
 obtain⟨φ,h⟩:=hc b hb;rw[e] at h;exact no φ (A7 h)).trans e
noncomputable def trD (f:nR)(ss:Sts)(d:AD):Bool:=@decide (Mx f ss ss.length d) (FE _)
section
variable {P:AU}{w:Be}{K:Au}{mg:Str->Option An}{base:Heap}
theorem ado (hB:∀x:Str,x∈BLs->mg x=none) {ss:Sts}(CShowsCosts:Cal P w K mg base "shows_costs" 6 q4_ (spShowsC ss.length)) {H:Hp}{f c' n p l wa za:Addr}{pm ctv uS uW uP:An}{B:Int}{ws zs:List Int}(hf:H f=some (su f (Cn "<lambda>" quL (Zi pN) (Zh pN) (sy pN) (cl1 n) pm c' ctv))) (hc:H c'=some (qP c' quL))
  (cS:gJ H (n+2) uS) (rS:RelV (.ref l) uS) (cW:gJ H (n+3) uW) (rW:RelV (.ref wa) uW) (cP:gJ H n uP) (rP:RelV (.ref za) uP) (nf:∀c∈(cl1 n).map (·.2),f≠c/\c'≠c) (tp:aP H p B) (ts:aJ (·≠p) H (.ref l) (.list (ss.map stD))) (nw:wa≠p) (ew:H wa=some (.lst (ws.map V.int))) (hwl:ws.length=ss.length) (nz:za≠p) (ez:H za=some (.tup (zs.map V.int))) (h5:zs.length=5) (few:Few zs) :
  ∃s,Ek P w K mg base 83 f s/\Pa p H (trD (cT ws zs) ss) s:=by
 obtain⟨l1,l2,l3⟩:=aak n;have hp:∀(A:BA)(outer:List Env)(s:AC)(H:Hp)(E:XK),gH (82+1) A->QE (Rw P w K mg base ["_law_some",xS,xW,xP] quL (sy pN) (cl1 n) f (.ref c') A outer s H E) (Zh pN) (pX (spShowsC ss.length) [] E0 (gU (tV 1) (gU (tV 2) (gU (tV 3) (gU (tOp vY (tV 0) (tC (.int 0))) rZ))))):=
  fun A outer s H E hr=>bf CShowsCosts ((hr.deeper _).mono δ) gl1 vL (ak (bG 1) (ak (bG 2) (ak (bG 3) (ak (aR bT (bG 0) au (fun _ _=>rfl)) aq rfl) rfl) rfl) rfl) rfl rfl
 refine⟨_,Oh (name := "<lambda>") (qual:=quL) (params:=Zi pN) (pm:=pm) (ctv:=ctv) (k:=82) (vs:=[.ref l,.ref wa,.ref za]) (adl n) (fun u=>rfl) rfl (fun A outer s H E hr=>(hp A outer s H E hr).h),?_⟩;intro H' B' l' d Q s' tp' t' hn hd q;have e1:=s' _ _ (wJ tp hf) hf;have e2:=s' _ _ (wJ tp hc) hc;have cc:∀{c:Addr}{u:An},gJ H c u->gJ H' c u:=fun⟨o,e,r⟩=>⟨o,s' _ _ (wJ tp e) e,r⟩;have c1:=cc cS;have c2:=cc cW;have c3:=cc cP;have mem2:∀c∈(cl1 n).map (·.2),c=n+3\/c=n+2\/c=n:=fun c hc=>by
  rcases AX.mp hc with z|hc
  ·exact .inl z
  rcases AX.mp hc with z|hc
  ·exact .inr (.inl z)
  exact .inr (.inr (AJ.mp hc))
 have hcell:∀c∈(cl1 n).map (·.2),∃u,gJ H' c u:=fun c hc=>by
  rcases mem2 c hc with rfl|rfl|rfl
  ·exact⟨_,c2⟩
  ·exact⟨_,c1⟩
  exact⟨_,c3⟩
 have hext:∀c∈(cl1 n).map (·.2),∃φ,H' c=some (.ext φ):=fun c hc=>by
  obtain⟨u,h⟩:=hcell c hc;exact h.ext
 refine⟨e1,e2,fun y c e=>?_,fun i y z e3 e4=>?_,hcell,fun z=>(nf f z).1 rfl,fun z=>(nf c' z).2 rfl,?_⟩
 ·rcases Mj e with⟨_,rfl⟩|⟨_,rfl⟩|⟨_,rfl⟩
  ·exact⟨_,c2⟩
  ·exact⟨_,c1⟩
  exact⟨_,c3⟩
 ·match i,e3,e4 with
  | 0,e3,e4=>cases e3;cases e4;exact⟨uS,n+2,rS,l2,c1⟩
  | 1,e3,e4=>cases e3;cases e4;exact⟨uW,n+3,rW,l1,c2⟩
  | 2,e3,e4=>cases e3;cases e4;exact⟨uP,n,rP,l3,c3⟩
  | i+3,e3,e4=>cases e3
 have ts':=((ts.gW s').hid hext);have tpH:=tp'.hid hext;have tH:=t'.hid hext;cases tH with
 | lst o e z tt=>
  cases tt with
  | cons td r=>
   cases r;push_cast [e];exact⟨.ref l,_,wa,za,_,ss,ws,zs,d,rfl,tpH.newOk,ts',rfl,qG hext (s' _ _ nw ew) (fun φ z=>by cases z),hwl,qG hext (s' _ _ nz ez) (fun φ z=>by cases z),h5,few,td,fun H2 s2=>q _ (Dj s2)⟩
theorem adn (hB:∀x:Str,x∈BLs->mg x=none) {ss:Sts}(CZShows:Cal P w K mg base "_law_shows" 3 q1_ (spLShows qR ss.length)) {H:Hp}{f c' n p l sc:Addr}{wa za:Addr}{pm ctv uS uC:An}{B:Int}{ws zs:List Int}(hf:H f=some (su f (Cn "<lambda>" quL (Zi pK) (Zh pK) (sy pK) (cl2 n) pm c' ctv))) (hc:H c'=some (qP c' quL))
  (cS:gJ H (n+2) uS) (rS:RelV (.ref l) uS) (cC:gJ H (n+1) uC) (rC:RelV (.ref sc) uC) (nf:∀c∈(cl2 n).map (·.2),f≠c/\c'≠c) (tp:aP H p B) (ts:aJ (·≠p) H (.ref l) (.list (ss.map stD))) (nc:sc≠p) (esc:H sc=some (.tup [.str "cost",.ref wa,.ref za])) (nw:wa≠p) (ew:H wa=some (.lst (ws.map V.int))) (hwl:ws.length=ss.length) (nz:za≠p) (ez:H za=some (.tup (zs.map V.int))) (h5:zs.length=5) (few:Few zs) :
  ∃s,Ek P w K mg base 83 f s/\Pa p H (trD (cT ws zs) ss) s:=by
 obtain⟨l1,l2⟩:=aaj n;have hp:∀(A:BA)(outer:List Env)(s:AC)(H:Hp)(E:XK),gH (82+1) A->QE (Rw P w K mg base ["_law_some",xS,xC] quL (sy pK) (cl2 n) f (.ref c') A outer s H E) (Zh pK) (pX (spLShows qR ss.length) [] E0 (gU (tV 1) (gU (tV 2) (gU (tOp vY (tV 0) (tC (.int 0))) rZ)))):=
  fun A outer s H E hr=>bf CZShows ((hr.deeper _).mono δ) gl2 JR (ak (bG 1) (ak (bG 2) (ak (aR bT (bG 0) au (fun _ _=>rfl)) aq rfl) rfl) rfl) rfl rfl
 refine⟨_,Oh (name := "<lambda>") (qual:=quL) (params:=Zi pK) (pm:=pm) (ctv:=ctv) (k:=82) (vs:=[.ref l,.ref sc]) (adk n) (fun u=>rfl) rfl (fun A outer s H E hr=>(hp A outer s H E hr).h),?_⟩;intro H' B' l' d Q s' tp' t' hn hd q;have e1:=s' _ _ (wJ tp hf) hf;have e2:=s' _ _ (wJ tp hc) hc;have cc:∀{c:Addr}{u:An},gJ H c u->gJ H' c u:=fun⟨o,e,r⟩=>⟨o,s' _ _ (wJ tp e) e,r⟩;have c1:=cc cS;have c2:=cc cC;have mem2:∀c∈(cl2 n).map (·.2),c=n+2\/c=n+1:=fun c hc=>by
  rcases AX.mp hc with z|hc
  ·exact .inl z
  exact .inr (AJ.mp hc)
 have hcell:∀c∈(cl2 n).map (·.2),∃u,gJ H' c u:=fun c hc=>by
  rcases mem2 c hc with rfl|rfl
  ·exact⟨_,c1⟩
  exact⟨_,c2⟩
 have hext:∀c∈(cl2 n).map (·.2),∃φ,H' c=some (.ext φ):=fun c hc=>by
  obtain⟨u,h⟩:=hcell c hc;exact h.ext
 refine⟨e1,e2,fun y c e=>?_,fun i y z e3 e4=>?_,hcell,fun z=>(nf f z).1 rfl,fun z=>(nf c' z).2 rfl,?_⟩
 ·rcases Mi e with⟨_,rfl⟩|⟨_,rfl⟩
  ·exact⟨_,c1⟩
  exact⟨_,c2⟩
 ·match i,e3,e4 with
  | 0,e3,e4=>cases e3;cases e4;exact⟨uS,n+2,rS,l1,c1⟩
  | 1,e3,e4=>cases e3;cases e4;exact⟨uC,n+1,rC,l2,c2⟩
  | i+2,e3,e4=>cases e3
 have ts':=((ts.gW s').hid hext);have tpH:=tp'.hid hext;have tH:=t'.hid hext;cases tH with
 | lst o e z tt=>
  cases tt with
  | cons td r=>
   cases r;push_cast [e];exact⟨.ref l,_,sc,_,cT ws zs,ss,d,rfl,tpH.newOk,ts',rfl,⟨wa,za,ws,zs,rfl,qG hext (s' _ _ nc esc) (fun φ z=>by cases z),qG hext (s' _ _ nw ew) (fun φ z=>by cases z),hwl,qG hext (s' _ _ nz ez) (fun φ z=>by cases z),h5,few⟩,td,fun H2 s2=>q _ (Dj s2)⟩
end
noncomputable def M8 (K:Au)(T:Addr):Sp:=fun vs H Q _=>∃(a:Addr)(ns:List Int),vs=[.ref a]/\SqL K H a (ns.map V.int)/\ns.length<=63/\a≠T/\jA H T (lamP pN) quL/\jA H T (lamP pK) quL/\∀H',Q (.bl true) H'
theorem pne:(lamP pK).line≠(lamP pN).line\/(lamP pK).col≠(lamP pN).col:=by decide +kernel
theorem ade:(lamP pN).line≠(lamP pK).line\/(lamP pN).col≠(lamP pK).col:=by decide +kernel
section
variable {P:AU}{w:Be}{K:Au}{mg:Str->Option An}{base:Heap}{f:Addr}{fd:BU}{bs:List Str}
theorem abw (hB:∀x:Str,x∈BLs->mg x=none) (CZTape:Cal P w K mg base "_law_tape" 2 q10_ (Td K)) (CZTake:Cal P w K mg base "_law_take" 2 q0_ (lA 2)) (CZStretches:Cal P w K mg base "_law_stretches" 3 q0_ Te) (CZWeights:Cal P w K mg base "_law_weights" 3 q0_ Dc) (CZPrices:Cal P w K mg base "_law_prices" 3 q0_ Dd)
  (CCostPaper:Cal P w K mg base "cost_paper" 6 q2_ spPaperA) (CShowsCosts:Cal P w K mg base "shows_costs" 6 q4_ spShowsCA) (CShows1:∀n,n<=8->Cal P w K mg base "shows_costs" 6 q4_ (spShowsC n)) (CZShows:Cal P w K mg base "_law_shows" 3 q1_ spLShowsA) (CZShows1:∀n,n<=8->Cal P w K mg base "_law_shows" 3 q1_ (spLShows qR n)) (CZRight:Cal P w K mg base "_law_right" 87 q8_ (M7 P w K mg base))
  {c T:Addr} (CD:EA base c T) (hbu:base.BuiltinsAt mg T) {oc kV doc pm ct:An} {od an:Option Addr} {osl:Array (Option An)}
  (lk:K.lookup f=some ⟨oc,od,.func (fnOf "law" "law" (aV cQ) (aQ cQ) (aj cQ) .none kV doc pm an (.ref c) ct),osl⟩) (hcd:B9 K (.ref c) "law" = true) :
  dj P w K mg base CX0 88 f (fnOf "law" "law" (aV cQ) (aQ cQ) (aj cQ) .none kV doc pm an (.ref c) ct) ["_law_script"] (M8 K T):=by
 refine abX lk hcd jR (fun vs H Q E h=>?_) (fun A outer s H vs Q E hr h=>?_)
 ·obtain⟨a,ns,rfl,_⟩:=h;rfl
 obtain⟨a,ns,rfl,hS,h63,naT,hL1,hL2,q⟩:=h;have hcl1:EI (sy pN) (Fk "law" (aj cQ) s.heap.objs.size f (.ref c))=pure (cl1 (s.heap.objs.size+1)):=acY (wM _);have hcl2:EI (sy pK) (Fk "law" (aj cQ) s.heap.objs.size f (.ref c))=pure (cl2 (s.heap.objs.size+1)):=acX (wM _);have hqL:(Fk "law" (aj cQ) s.heap.objs.size f (.ref c)).qual ++ "<lambda>" = quL:=by
  show("law" ++ ".<locals>." : Str) ++ "<lambda>" = quL;decide +kernel
 generalize hn:s.heap.objs.size+1=n at hcl1 hcl2;obtain⟨csL,hcs⟩:∃csL:List (Nat×Addr),csL=[(3,n+2),(5,n+3),(6,n),(8,n+1)]:=⟨_,rfl⟩;have hcsL:∀i c',(i,c')∈csL->∃y,pQ[i]?=some y/\(Fk "law" (aj cQ) s.heap.objs.size f (.ref c)).kindOf y=some .cell/\(Fk "law" (aj cQ) s.heap.objs.size f (.ref c)).cells.lookup y=some c'/\true=true:=fun i c' hm=>by
  rw[hcs] at hm;have hce:(Fk "law" (aj cQ) s.heap.objs.size f (.ref c)).cells=cl0 n:=by rw[<- hn];exact wM _
  obtain⟨l1,l2,l3,l4⟩:=Vy n;rcases AX.mp hm with z|hm
  ·cases z;exact⟨xS,rfl,show(aj cQ).names.lookup _=_ by decide +kernel,by rw[hce];exact l2,rfl⟩
  rcases AX.mp hm with z|hm
  ·cases z;exact⟨xW,rfl,show(aj cQ).names.lookup _=_ by decide +kernel,by rw[hce];exact l1,rfl⟩
  rcases AX.mp hm with z|hm
  ·cases z;exact⟨xP,rfl,show(aj cQ).names.lookup _=_ by decide +kernel,by rw[hce];exact l4,rfl⟩
  cases AJ.mp hm;exact⟨xC,rfl,show(aj cQ).names.lookup _=_ by decide +kernel,by rw[hce];exact l3,rfl⟩
 refine⟨_,(aG (iI BQ rfl (gB Az (hB "range" fY) (ak (aL bx au (bU (Rz rfl) Wa (hB "min" zZ) boot_min Bl (ak au (ak (bU kJ Jr (hB "len" ig) B0 iu (ak (ao Vs) aq rfl) rfl rfl) aq rfl) rfl) rfl rfl)) aq rfl) rfl) (fU Vr jR.nd (.inl rfl))
  (aG (bB uc jR.nd (bf CZTape (hr.mono δ) LC ZS (ak (ao Vs) (ak (ao Vr) aq rfl) rfl) rfl rfl) rfl (.inl rfl))
  (aG (bB zV jR.nd (bf CZStretches (hr.mono δ) yp G6 (ak (ao uc) (ak (aL bx au (bf CZTake (hr.mono δ) Ba cH (ak (ao uc) (ak au aq rfl) rfl) rfl rfl)) aq rfl) rfl) rfl rfl) rfl (.inl rfl))
  (aG (bB Vq jR.nd (bU cO Jr (hB "len" ig) B0 iu (ak (ao zV) aq rfl) rfl rfl) rfl (.inl rfl))
  (aG (qj (bY (ak (bf CZWeights (hr.mono δ) CG Mp (ak (ao uc) (ak (ao Vq) aq rfl) rfl) rfl rfl) (ak (bf CZPrices (hr.mono δ) GJ RX (ak (ao uc) (ak au aq rfl) rfl) rfl rfl) aq rfl) rfl)) (nZ (n:=2) rfl (cR (fU Gb jR.nd (.inl rfl)) (cR (fU Ga jR.nd (.inl rfl)) j8 rfl) rfl) rfl rfl) rfl rfl rfl)
  (aG (bB qC jR.nd (bf CCostPaper (hr.mono δ) Bb JW (ak (ao zV) (ak (ao Gb) (ak (ao Ga) aq rfl) rfl) rfl) rfl rfl) rfl (.inl rfl))
  (aG (bB Vp jR.nd (bY (ak dg (ak (ao Gb) (ak (ao Ga) aq rfl) rfl) rfl)) rfl (.inl rfl))
  (aG (bB Vo jR.nd (Nu hcl1 rfl rfl CD hbu hqL) rfl (.inl rfl))
  (aG (bB Oc jR.nd (Nu hcl2 rfl rfl CD hbu hqL) rfl (.inl rfl))
  (aG (eG (vZ (jD (aaW CZRight (hr.mono δ) Jt WL hcsL (ak (ao uc) (ak (ao Vo) (ak (ao Oc) (ak (bD (ak (ao qC) aq rfl)) aq rfl) rfl) rfl) rfl) rfl rfl) (fun _=>rfl))) (aN (aY jB)) cN)
  (aG (bB Ob jR.nd (aR bT (bD (ak tQ (ak au (ak jB (ak dg (ak (bY aq) (ak (bD aq) (ak (bD (ak au aq rfl)) (ak (lF jc Lz (hB "tuple" jt) Fn jw (ak (ao qC) aq rfl) rfl rfl) (ak (bD (ak (ao qC) aq rfl)) (ak (aL bx (ao qC) (bD (ak au aq rfl))) (ak (cA vU (ao qC) (cZ au) dF) aq rfl) rfl) rfl) rfl) rfl) rfl) rfl) rfl) rfl) rfl) rfl)) (bf CZTake (hr.mono δ) Ba cH (ak (ao uc) (ak au aq rfl) rfl) rfl rfl) (fun _ _=>rfl)) rfl (.inl rfl))
  (aG (bB rM jR.nd au rfl (.inl rfl))
  (aG (iI BQ rfl (gB Az (hB "range" fY) (ak au aq rfl) rfl) (fU Zb jR.nd (.inl rfl))
  (aN (bB rM jR.nd (bY (ak (ao rM) aq rfl)) rfl (.inl rfl))) (fun _=>rfl))
  (aN (iI BQ rfl (cU (bY (ak (ao Ob) (ak (ao rM) (ak (aL bx (bD (ak (ao rM) aq rfl)) (cA vU (ao qC) (cZ au) dF)) (ak (aL bx (cA vU (ao qC) dF (cZ (zp pW au))) (bD (ak (ao rM) aq rfl))) aq rfl) rfl) rfl) rfl))) (fU Ge jR.nd (.inl rfl))
  (aG (bB Gd jR.nd (bf CShowsCosts (hr.mono δ) yq vL (ak (ao zV) (ak (ao Gb) (ak (ao Ga) (ak (ao Ge) aq rfl) rfl) rfl) rfl) rfl rfl) rfl (.inl rfl))
  (aN (eG (KC (Nr (vZ (jD (bU eE yo (hB "isinstance" bL) B1 bM (ak (ao Gd) (ak (jT "bool" Rm (hB "bool" vg) boot_bool vK) aq rfl) rfl) rfl rfl) (fun _=>rfl))) (Kz (bW (v9 hr.dU) (ao Gd) (bf CZShows (hr.mono δ) Js JR (ak (ao zV) (ak (ao Vp) (ak (ao Ge) aq rfl) rfl) rfl) rfl rfl) (bN _))))) (aN (aY jB)) cN))) (fun _=>rfl))))))))))))))) (fun _=>rfl))
  (aN (aY jB))),?_⟩
 refine aO fun k hk=>?_;refine jV fun R hR=>?_;push_cast [pG];refine⟨_,.inl hS,?_⟩;rw[AG];have m6:(0:Int)<=1+(if (ns.length:Int)<4 then (ns.length:Int) else 4)/\1+(if (ns.length:Int)<4 then (ns.length:Int) else 4)<=5:=by
  split <;> omega
 refine⟨ω,ω,?_⟩;obtain⟨Pv,hPv⟩:∃Pv:Nat->L2.St->Hp->Prop,Pv=fun(i:Nat) σ H'=>aW T H H'/\jA H' T (lamP pN) quL/\jA H' T (lamP pK) quL/\∃o1 o2 o3 o4 o5 o6 o7 o8 o9 o10 o11 o12 o13 o14 o15,σ=[some (.ref a),o1,o2,o3,o4,o5,o6,o7,o8,o9,o10,o11,o12,o13,o14,o15]:=⟨_,rfl⟩;refine xJ hR Pv (by rw[hPv];exact⟨aW.refl _ _,hL1,hL2,none,none,none,none,none,none,none,none,none,none,none,none,none,none,none,rfl⟩) ?_ ?_
 ·intro i σ H1 hi pv;rw[hPv] at pv;obtain⟨s1,hA1,hB1,o1,o2,o3,o4,o5,o6,o7,o8,o9,o10,o11,o12,o13,o14,o15,rfl⟩:=pv;refine aO fun k2 hk2=>?_;push_cast;refine⟨a,ns,(0:Int)+(i:Int),rfl,s1.seq naT hS,ω,ω,fun p H2 hp s2 tp2=>?_⟩;push_cast;subst hk2;refine aO fun k2 hk2=>?_;push_cast;refine⟨p,5,0,rfl,tp2,δ,δ,δ,δ,fun z=>absurd z δ,fun r3 H3 r30 r31 s3 tp3=>?_⟩;push_cast;obtain⟨m,rfl⟩:=Int.eq_ofNat_of_zero_le r30;rw[show(1:Int)+(m:Int)=((1+m:Nat):Int) by omega];refine⟨p,((1+m:Nat):Int),2,rfl,tp3,δ,δ,ω,ω,fun l ss H4 s4 tp4 tr4 hsl hrow hfst=>?_⟩;push_cast;have sx4:aW p H1 H4:=(s2.x.trans s3).trans s4;obtain⟨nn,hnn⟩:∃nn,nn=ss.length:=⟨_,rfl⟩;have hn5:1<=nn/\nn<=5:=ω;subst hk2;refine aO fun k2 hk2=>?_;have tr40:=tr4;cases tr4 with
  | lst okl el4 zl4 trs4=>
   rename_i xs;have hxl:=trs4.length;rw[AG,<- hnn] at hxl;push_cast [el4];rw[hxl];subst hk2;refine aO fun k2 hk2=>?_;push_cast;refine⟨p,nn,2002,rfl,tp4,δ,δ,ω,fun wa ws H5 s5 tp5 nwa hwa ewa hwl hwb=>?_⟩;push_cast;refine⟨p,2002+130,rfl,tp5,δ,δ,fun za zs H6 s6 tp6 nza hza eza hzl hzb=>?_⟩;push_cast;refine⟨aX δ,fun t7 ht7=>?_⟩;have s7:=aA (o:=HO.tup [V.ref wa,V.ref za]) ht7;have sx6:aW p H1 H6:=(sx4.trans s5).trans s6;have tp7:=tp6.same s7;have tr7:=((tr40.gW s5).gW s6).same s7;have ew7:=s7 _ _ (s6 _ _ nwa ewa);have ez7:=s7 _ _ eza;have sx7:=sx6.trans s7.x (p:=p);generalize upd H6 t7 (HO.tup [V.ref wa,V.ref za])=H7 at s7 tp7 tr7 ew7 ez7 sx7 |-;clear s7 s6 s5 sx6 tp6 tp5 tp4 tp3 s2 s3 s4 el4 trs4 tr40 ewa eza hza hwa;have few:Few zs:=fun z hz=>by have:=hzb z hz;omega
   have hzb':∀z∈zs,1<=z/\z<=99:=hzb;subst hk2;refine aO fun k2 hk2=>?_;push_cast;refine⟨nn,ω,.ref l,wa,za,(·≠p),ss,ws,zs,rfl,tp7.newOk,tr7,hnn.symm,ew7,hwl,ez7,hzl,few,fun na N H8 s8 ena tb=>?_⟩;push_cast;have hbd:=aav hnn.symm ω hwb hzb tb;have hNl:=tb.len;have p32:2^nn<=32:=BB (CH δ hn5.2) δ;have p2:2<=2^nn:=BB (show 2<=2^1 by decide) (CH δ hn5.1);have hNb:∀z∈N,z.natAbs<=10^20:=V9 fun x hx=>by
    have h1:=hbd x ω;have h2:=lV nn x;omega
   have nna:na≠p:=fun z=>by
    obtain⟨_,_,_,e2,_⟩:=(tp7.same s8).ex;rw[<- z,ena] at e2;have e3:=congrArg List.length (HO.lst.inj (A7 e2));rw[AG,hNl] at e3;have:nn=1\/nn=2\/nn=3\/nn=4\/nn=5:=by omega
    rcases this with rfl|rfl|rfl|rfl|rfl <;> cases e3
   have sx8:=sx7.trans s8.x (p:=p);subst hk2;refine aO fun k2 hk2=>?_;push_cast;refine⟨aX δ,fun sc hsc=>?_⟩;have s9:=s8.trans (aA (o:=HO.tup [V.str "cost",V.ref wa,V.ref za]) hsc);have esc:upd H8 sc (HO.tup [V.str "cost",V.ref wa,V.ref za]) sc=some (HO.tup [V.str "cost",V.ref wa,V.ref za]):=aB;have ena9:=aA (o:=HO.tup [V.str "cost",V.ref wa,V.ref za]) hsc _ _ ena;have tp9:=tp7.same s9;have nsc:sc≠p:=(tp7.same s8).ne hsc;change k2 _ (upd H8 sc (HO.tup [V.str "cost",V.ref wa,V.ref za]));generalize upd H8 sc (HO.tup [V.str "cost",V.ref wa,V.ref za])=H9 at s9 esc ena9 tp9 |-;have tr9:=tr7.same s9;have ew9:=s9 _ _ ew7;have ez9:=s9 _ _ ez7;have sx9:=sx7.trans s9.x (p:=p);have sH9:Same H1 H9:=Xr sx9 hp;have hA9:=hA1.same sH9;have hB9:=hB1.same sH9;clear s8 s9 sx8 sx7 tp7 tr7 ew7 ez7 ena hsc;subst hk2;refine aO fun k2 hk2=>?_;refine J4 hA9 fun f1 c1 ct1 pm1 H10 s10 hf1 ef1 ec1 hA10 oth10=>?_;have hB10:=oth10 _ _ pne hB9;show k2 _ _;simp only[DB,DA];subst hk2;refine aO fun k2 hk2=>?_;refine J4 hB10 fun f2 c2 ct2 pm2 H11 s11 hf2 ef2 ec2 hB11 oth11=>?_;have hA11:=oth11 _ _ ade hA10;show k2 _ _;simp only[DB,DA];have tbl:∀{x:V}{d:AD},aJ (·≠p) H9 x d->aJ (·≠p) H11 x d:=fun t=>(t.tbl hA9 s10).tbl hB10 s11;have keep:∀{b:Addr}{o:HO},(∀ps,o≠.tbl ps)->H9 b=some o->H11 b=some o:=fun h e=>s11 _ _ (hA10.ne (s10 _ _ (hA9.ne e h) e) h) (s10 _ _ (hA9.ne e h) e);have tp11:=aP.tbl hB10 s11 (aP.tbl hA9 s10 tp9);have tr11:=tbl tr9;have ew11:=keep (fun ps z=>by cases z) ew9;have ez11:=keep (fun ps z=>by cases z) ez9;have esc11:=keep (fun ps z=>by cases z) esc;have ena11:=keep (fun ps z=>by cases z) ena9;have ef111:=s11 _ _ (hA10.ne ef1 fun ps z=>by cases z) ef1;have ec111:=s11 _ _ (hA10.ne ec1 fun ps z=>by cases z) ec1;have sT11:aW T H H11:=((s1.trans sH9.x).trans s10).trans s11;clear s10 s11 tp9 tr9 ew9 ez9 esc ena9 hA9 hB9 hA10 hB10 oth10 oth11 ef1 ec1;subst hk2;refine aO fun k2 hk2=>?_;push_cast [Kl];refine⟨aX δ,fun h12 hh12=>?_⟩;have s12:=aA (o:=HO.lst [V.ref na]) hh12;have eh12:upd H11 h12 (HO.lst [V.ref na]) h12=some (HO.lst [V.ref na]):=aB;have nh12:=tp11.ne hh12;generalize upd H11 h12 (HO.lst [V.ref na])=H12 at s12 eh12 |-;have tp12:=tp11.same s12;have tr12:=tr11.same s12;have ew12:=s12 _ _ ew11;have ez12:=s12 _ _ ez11;have esc12:=s12 _ _ esc11;have ena12:=s12 _ _ ena11;have ef112:=s12 _ _ ef111;have ec112:=s12 _ _ ec111;have ef212:=s12 _ _ ef2;have ec212:=s12 _ _ ec2;have hA12:=hA11.same s12;have hB12:=hB11.same s12;have sT12:=sT11.trans s12.x;clear s12 tp11 tr11 ew11 ez11 esc11 ena11 ef111 ec111 ef2 ec2 hA11 hB11 sT11 hh12;have tna:∀{Hx:Hp},Hx na=some (.lst (N.map V.int))->aJ (·≠p) Hx (.ref na) (.list (N.map AD.int)):=fun e=>.lst nna e (by rw[AG];omega) (CW N);intro g G;have sG:=G.same;obtain⟨uS,rS,cS,fS⟩:=G.at (i:=3) (c:=n+2) (v:=.ref l) (by rw[hcs];simp) rfl;obtain⟨uW,rW,cW,fW⟩:=G.at (i:=5) (c:=n+3) (v:=.ref wa) (by rw[hcs];simp) rfl
   obtain⟨uP,rP,cP,fP⟩:=G.at (i:=6) (c:=n) (v:=.ref za) (by rw[hcs];simp) rfl;obtain⟨uC,rC,cC,fC⟩:=G.at (i:=8) (c:=n+1) (v:=.ref sc) (by rw[hcs];simp) rfl;obtain⟨sa,La,Aa⟩:=ado hB (CShows1 ss.length ω) (sG _ _ ef112) (sG _ _ ec112) cS rS cW rW cP rP (fun c hc=>by
    rcases AX.mp hc with z|hc
    ·rw[z];exact⟨aF ef112 fW,aF ec112 fW⟩
    rcases AX.mp hc with z|hc
    ·rw[z];exact⟨aF ef112 fS,aF ec112 fS⟩
    rw[AJ.mp hc];exact⟨aF ef112 fP,aF ec112 fP⟩) (tp12.same sG) (tr12.same sG) nwa (sG _ _ ew12) ω nza (sG _ _ ez12) hzl few
   obtain⟨sd,Ld,Ad⟩:=adn hB (CZShows1 ss.length ω) (sG _ _ ef212) (sG _ _ ec212) cS rS cC rC (fun c hc=>by
    rcases AX.mp hc with z|hc
    ·rw[z];exact⟨aF ef212 fS,aF ec212 fS⟩
    rw[AJ.mp hc];exact⟨aF ef212 fC,aF ec212 fC⟩) (tp12.same sG) (tr12.same sG) nsc (sG _ _ esc12) nwa (sG _ _ ew12) ω nza (sG _ _ ez12) hzl few
   have dpN:=K4 N;have ndN:=zE N;have dl:(AD.list [.list (N.map AD.int)]).depth=2:=by rw[AD.depth.eq_1,AD.depthAll.eq_2,AD.depthAll.eq_1,AD.depth.eq_1,dpN];rfl
   have nl:nodes (.list [.list (N.map AD.int)])=1+((1+N.length)+0):=by show 1+((1+aK (N.map AD.int))+0)=_;rw[ndN]
   refine⟨p,f1,f2,h12,2152,.ref na,.list (N.map AD.int),_,sa,sd,rfl,tp12.same sG,δ,δ,nh12,sG _ _ eh12,tna (sG _ _ ena12),Y6 ω hNb,ω,ω,⟨_,_,_,_,sG _ _ ef112⟩,⟨_,_,_,_,sG _ _ ef212⟩,La,Ld,Aa,Ad,fun H13 s13 tp13=>?_⟩;obtain⟨gk,s14⟩:=G.back tp12 s13;refine⟨gk,true,rfl,?_⟩;rw[if_neg δ];have tp14:=aP.drop G tp12 tp13;generalize nQ g H13=H14 at s14 tp14 |-;have tr14:=tr12.gW s14;have ew14:=s14 _ _ nwa ew12;have ez14:=s14 _ _ nza ez12;have esc14:=s14 _ _ nsc esc12;have ena14:=s14 _ _ nna ena12;clear G sG gk s13 tp13 cS cW cP cC fS fW fP fC La Ld Aa Ad;subst hk2;refine aO fun k2 hk2=>?_;have n14:=tp14.newOk;have t14:=tna ena14;obtain⟨Nd,hNd⟩:∃Nd,Nd=N.map AD.int:=⟨_,rfl⟩;have hNdl:Nd.length<=32:=by rw[hNd,AG];omega
   rw[<- hNd] at t14;have gp:Gv (·≠p) (tV 7) [some (.ref a),some (.int (0+(i:Int))),some (.ref p),some (.ref l),some (.int (nn:Int)),some (.ref wa),some (.ref za),some (.ref na),some (.ref sc),some (.ref f1),some (.ref f2),o11,o12,o13,o14,o15] H14 (.list Nd):=xY rfl t14;refine VP (ok:=(·≠p)) (.list [.none,.int 0,.bool true,.str "",.tuple [],.list [],.list [.int 0],.tuple Nd,.list [.list Nd],.list (Nd++[.int 0]),.list (cutD Nd (some 1) none)]) rfl ?_ fun po xso H15 s15 e15 po15 t15=>?_
   ·exact dm n14 (aD uh (aD iM (aD xq (aD ji (aD (eU n14 aU (by show 0<=1000000;decide)) (aD (dm n14 aU (by show 0<=1000000;decide)) (aD (dm n14 (aD iM aU) (by show 1<=1000000;decide)) (aD (V5 n14 gp) (aD (dm n14 (aD gp aU) (by show 1<=1000000;decide)) (aD (qH n14 gp (dm n14 (aD iM aU) (by show 1<=1000000;decide)) (by show Nd.length+1<=1000000;omega)) (aD (jb n14 gp (fun H Q q=>⟨_,rfl,q⟩) (fun H Q q=>q)) aU))))))))))) (by show 11<=1000000;decide)
   have tp15:=tp14.same s15;push_cast;refine⟨p,11,_,rfl,tp15,δ,δ,δ,δ,fun z=>absurd z δ,fun r5 H16 r50 r51 s16 tp16=>?_⟩;have e16:=s16 _ _ po15 e15;obtain⟨xo,od,hxo,hod,todd⟩:=(t15.qg (fun a h=>h) s16).at r50 (show r5<11 by omega);push_cast [e16,hxo];have s1416:=(s15.x (p:=p)).trans s16;clear e15 e16 t15 gp s15 s16 tp15 n14;subst hk2;refine aO fun k2 hk2=>?_;push_cast;subst hk2;refine aO fun k2 hk2=>?_;refine jV fun R2 hR2=>?_;push_cast [pG];refine⟨δ,δ,?_⟩;obtain⟨Pd,hPd⟩:∃Pv:Nat->L2.St->Hp->Prop,Pv=fun(j:Nat) σ H'=>∃(v:V)(o13:Option V),Same H16 H'/\aJ (·≠p) H' v (JF j)/\σ=[some (.ref a),some (.int (0+(i:Int))),some (.ref p),some (.ref l),some (.int (nn:Int)),some (.ref wa),some (.ref za),some (.ref na),some (.ref sc),some (.ref f1),some (.ref f2),some xo,some v,o13,o14,o15]:=⟨_,rfl⟩;refine xJ hR2 Pd (by rw[hPd];exact⟨_,_,Same.refl _,.int 0,rfl⟩) ?_ ?_
   ·intro j σ H17 hj pd;rw[hPd] at pd;obtain⟨v,o13',s17,t17,rfl⟩:=pd;push_cast;refine⟨aX δ,fun l7 hl7=>?_⟩;rw[hPd];have s18:=aA (o:=HO.tup [v]) hl7;exact⟨_,_,s17.trans s18,.tup ((tp16.same s17).ne hl7) aB (by show 1<=1000000;decide) (.cons (t17.same s18) .nil),rfl⟩
   intro σ H17 pd;rw[hPd] at pd;obtain⟨v,o13',s17,t17,rfl⟩:=pd;show k2 _ _;subst hk2;refine jV fun R3 hR3=>?_;have s1417:=s1416.trans s17.x;have n17:=(tp16.same s17).newOk;have tp17:=tp16.same s17;have tod17:=todd.same s17;have tr17:=tr14.gW s1417;have ew17:=s1417 _ _ nwa ew14;have ez17:=s1417 _ _ nza ez14;have esc17:=s1417 _ _ nsc esc14;have tna17:=t14.gW s1417;have gx:∀{j:Nat}{x:V}{d:AD},[some (V.ref a),some (V.int (0+(i:Int))),some (V.ref p),some (V.ref l),some (V.int (nn:Int)),some (V.ref wa),some (V.ref za),some (V.ref na),some (V.ref sc),some (V.ref f1),some (V.ref f2),some xo,some v,o13',o14,o15][j]?=some (some x)->aJ (·≠p) H17 x d->Gv (·≠p) (tV j) [some (V.ref a),some (V.int (0+(i:Int))),some (V.ref p),some (V.ref l),some (V.int (nn:Int)),some (V.ref wa),some (V.ref za),some (V.ref na),some (V.ref sc),some (V.ref f1),some (V.ref f2),some xo,some v,o13',o14,o15] H17 d:=fun h t=>xY h t;have cl:∀lo hi,(cutD Nd lo hi).length<=32:=fun lo hi=>BB (qO _ _ _) hNdl;refine V1 (ok:=(·≠p)) (ds:=[od,JF 78,.list ([JF 78]++cutD Nd (some 1) none),.list (cutD Nd none (some (-1))++[JF 78])]) ?_ fun pt xt H18 s18 e18 t18=>?_
   ·exact eU n17 (aD (gx rfl tod17) (aD (gx rfl t17) (aD (qH n17 (dm n17 (aD (gx rfl t17) aU) (by show 1<=1000000;decide)) (jb n17 (gx rfl tna17) (fun H Q q=>⟨_,rfl,q⟩) (fun H Q q=>q)) (by have:=cl (some 1) none;show 1+_<=1000000;omega)) (aD (qH n17 (jb n17 (gx rfl tna17) (fun H Q q=>q) (fun H Q q=>⟨1,rfl,-1,rfl,q⟩)) (dm n17 (aD (gx rfl t17) aU) (by show 1<=1000000;decide)) (by have:=cl none (some (-1));show _+1<=1000000;omega)) aU)))) (by show 4<=1000000;decide)
   have tp18:=tp17.same s18;have tr18:=tr17.same s18;have ew18:=s18 _ _ ew17;have ez18:=s18 _ _ ez17;have esc18:=s18 _ _ esc17;have sx18:=s1417.trans s18.x;clear gx n17 tp17 tod17 tr17 ew17 ez17 esc17 tna17 t17;obtain⟨Px,hPx⟩:∃Pv:Nat->L2.St->Hp->Prop,Pv=fun(_:Nat) σ H'=>∃(o14 o15:Option V),Same H18 H'/\σ=[some (.ref a),some (.int (0+(i:Int))),some (.ref p),some (.ref l),some (.int (nn:Int)),some (.ref wa),some (.ref za),some (.ref na),some (.ref sc),some (.ref f1),some (.ref f2),some xo,some v,o13',o14,o15]:=⟨_,rfl⟩;refine acS hR3 (xs:=xt) Px (by rw[hPx];exact⟨_,_,Same.refl _,rfl⟩) (fun j σ H' px=>?_) ?_ ?_
   ·rw[hPx] at px;obtain⟨_,_,s',_⟩:=px;exact s' _ _ e18
   ·intro j2 y σ H20 hy px;rw[hPx] at px;obtain⟨o14',o15',s20,rfl⟩:=px;obtain⟨d,hd,td⟩:=(t18.same s20).get hy;refine aO fun k4 hk4=>?_;push_cast;refine⟨nn,ω,.ref l,y,wa,za,(·≠p),ss,ws,zs,d,rfl,(tp18.same s20).newOk,tr18.same s20,hnn.symm,s20 _ _ ew18,hwl,s20 _ _ ez18,hzl,few,td,fun H21 s21=>?_⟩;push_cast;subst hk4;have s2021:=s20.trans s21;push_cast;refine⟨"bool",rfl,?_⟩;rw[if_neg (show ¬(!gh "bool" "bool")=true by decide +kernel)];refine⟨nn,ω,.ref l,y,sc,(·≠p),cT ws zs,ss,d,rfl,(tp18.same s2021).newOk,tr18.same s2021,hnn.symm,⟨wa,za,ws,zs,rfl,s2021 _ _ esc18,s2021 _ _ ew18,ω,s2021 _ _ ez18,hzl,few⟩,td.same s21,fun H22 s22=>?_⟩;unfold blP;push_cast;rw[hPx];exact⟨_,_,s2021.trans s22,rfl⟩
   intro σ H20 px;rw[hPx] at px;obtain⟨o14',o15',s20,rfl⟩:=px;show Pv _ _ _;rw[hPv];have nap:∀b o,b≠T->H b=some o->b≠p:=fun b o nb e=>aF (s1 _ _ nb e) hp;have sx20:=sx18.trans s20.x;exact⟨fun b o nb e=>sx20 _ _ (nap b o nb e) (s14 _ _ (nap b o nb e) (sT12 _ _ nb e)),(hA12.PB tp12 s14).PB tp14 sx20,(hB12.PB tp12 s14).PB tp14 sx20,_,_,_,_,_,_,_,_,_,_,_,_,_,_,_,rfl⟩
 intro σ H1 pv;rw[hPv] at pv;obtain⟨s1,hA1,hB1,o1,o2,o3,o4,o5,o6,o7,o8,o9,o10,o11,o12,o13,o14,o15,rfl⟩:=pv;show k _ _;subst hk;push_cast;exact q _
end
theorem all_mk {l:PySem.W.OpenLaw}{w:Be}{K:Au}{h:Heap}{mg:Str->Option An}{fa cb T:Addr}{f1:Addr}{od1 an1:Option Addr}{sl1:Array (Option An)}{oc1 kV1 dc1 pm1 cd1 ct1:An}{f2:Addr}{od2 an2:Option Addr}{sl2:Array (Option An)}{oc2 kV2 dc2 pm2 cd2 ct2:An}{f3:Addr}{od3 an3:Option Addr}{sl3:Array (Option An)}{oc3 kV3 dc3 pm3 cd3 ct3:An}{f4:Addr}{od4 an4:Option Addr}{sl4:Array (Option An)}{oc4 kV4 dc4 pm4 cd4 ct4:An}{f5:Addr}{od5 an5:Option Addr}{sl5:Array (Option An)}{oc5 kV5 dc5 pm5 cd5 ct5:An}{f6:Addr}{od6 an6:Option Addr}{sl6:Array (Option An)}{oc6 kV6 dc6 pm6 cd6 ct6:An}{f7:Addr}{od7 an7:Option Addr}{sl7:Array (Option An)}{oc7 kV7 dc7 pm7 cd7 ct7:An}{f8:Addr}{od8 an8:Option Addr}{sl8:Array (Option An)}{oc8 kV8 dc8 pm8 cd8 ct8:An}{f9:Addr}{od9 an9:Option Addr}{sl9:Array (Option An)}{oc9 kV9 dc9 pm9 cd9 ct9:An}{f10:Addr}{od10 an10:Option Addr}{sl10:Array (Option An)}{oc10 kV10 dc10 pm10 cd10 ct10:An}{f11:Addr}{od11 an11:Option Addr}{sl11:Array (Option An)}{oc11 kV11 dc11 pm11 cd11 ct11:An}{f12:Addr}{od12 an12:Option Addr}{sl12:Array (Option An)}{oc12 kV12 dc12 pm12 cd12 ct12:An}{f13:Addr}{od13 an13:Option Addr}{sl13:Array (Option An)}{oc13 kV13 dc13 pm13 cd13 ct13:An}{f14:Addr}{od14 an14:Option Addr}{sl14:Array (Option An)}{oc14 kV14 dc14 pm14 cd14 ct14:An}{f15:Addr}{od15 an15:Option Addr}{sl15:Array (Option An)}{oc15 kV15 dc15 pm15 cd15 ct15:An}{f16:Addr}{od16 an16:Option Addr}{sl16:Array (Option An)}{oc16 kV16 dc16 pm16 cd16 ct16:An}{f17:Addr}{od17 an17:Option Addr}{sl17:Array (Option An)}{oc17 kV17 dc17 pm17 cd17 ct17:An}{f18:Addr}{od18 an18:Option Addr}{sl18:Array (Option An)}{oc18 kV18 dc18 pm18 cd18 ct18:An}{f19:Addr}{od19 an19:Option Addr}{sl19:Array (Option An)}{oc19 kV19 dc19 pm19 cd19 ct19:An}{f20:Addr}{od20 an20:Option Addr}{sl20:Array (Option An)}{oc20 kV20 dc20 pm20 cd20 ct20:An}{f21:Addr}{od21 an21:Option Addr}{sl21:Array (Option An)}{oc21 kV21 dc21 pm21 cd21 ct21:An}{f22:Addr}{od22 an22:Option Addr}{sl22:Array (Option An)}{oc22 kV22 dc22 pm22 cd22 ct22:An}{f23:Addr}{od23 an23:Option Addr}{sl23:Array (Option An)}{oc23 kV23 dc23 pm23 cd23 ct23:An}{f24:Addr}{od24 an24:Option Addr}{sl24:Array (Option An)}{oc24 kV24 dc24 pm24 cd24 ct24:An}{f25:Addr}{od25 an25:Option Addr}{sl25:Array (Option An)}{oc25 kV25 dc25 pm25 cd25 ct25:An}{f26:Addr}{od26 an26:Option Addr}{sl26:Array (Option An)}{oc26 kV26 dc26 pm26 cd26 ct26:An}{f27:Addr}{od27 an27:Option Addr}{sl27:Array (Option An)}{oc27 kV27 dc27 pm27 cd27 ct27:An}{f28:Addr}{od28 an28:Option Addr}{sl28:Array (Option An)}{oc28 kV28 dc28 pm28 cd28 ct28:An}{f29:Addr}{od29 an29:Option Addr}{sl29:Array (Option An)}{oc29 kV29 dc29 pm29 cd29 ct29:An}{f30:Addr}{od30 an30:Option Addr}{sl30:Array (Option An)}{oc30 kV30 dc30 pm30 cd30 ct30:An}{f31:Addr}{od31 an31:Option Addr}{sl31:Array (Option An)}{oc31 kV31 dc31 pm31 cd31 ct31:An}{f32:Addr}{od32 an32:Option Addr}{sl32:Array (Option An)}{oc32 kV32 dc32 pm32 cd32 ct32:An}{f33:Addr}{od33 an33:Option Addr}{sl33:Array (Option An)}{oc33 kV33 dc33 pm33 cd33 ct33:An}{f34:Addr}{od34 an34:Option Addr}{sl34:Array (Option An)}{oc34 kV34 dc34 pm34 cd34 ct34:An}{f35:Addr}{od35 an35:Option Addr}{sl35:Array (Option An)}{oc35 kV35 dc35 pm35 cd35 ct35:An}{f36:Addr}{od36 an36:Option Addr}{sl36:Array (Option An)}{oc36 kV36 dc36 pm36 cd36 ct36:An}{f37:Addr}{od37 an37:Option Addr}{sl37:Array (Option An)}{oc37 kV37 dc37 pm37 cd37 ct37:An}{ckMostInMask:Tok}{ckMostInTable:Tok}{aTests:Addr}{nTests:Nat}{slTests:Array (Option An)}{kTests0 kTests1 kTests2 kTests3 kTests4:Tok}(X:K.In h) (G:h.Ns AH mg) (hfa:mg "law" = some (.ref fa))
  (a1:nsIn K AH "is_number" = some (some (.ref f1))) (l1:K.lookup f1=some ⟨oc1,od1,.func (fnOf "is_number" "is_number" (aV gA) (aQ gA) (aj gA) .none kV1 dc1 pm1 an1 cd1 ct1),sl1⟩) (c1:B9 K cd1 "is_number" = true) (k1:Cc K (.ref f1)=true)
  (a2:nsIn K AH "numbers_across" = some (some (.ref f2))) (l2:K.lookup f2=some ⟨oc2,od2,.func (fnOf "numbers_across" "numbers_across" (aV dI) (aQ dI) (aj dI) .none kV2 dc2 pm2 an2 cd2 ct2),sl2⟩) (c2:B9 K cd2 "numbers_across" = true) (k2:Cc K (.ref f2)=true)
  (a3:nsIn K AH "labels_left" = some (some (.ref f3))) (l3:K.lookup f3=some ⟨oc3,od3,.func (fnOf "labels_left" "labels_left" (aV gj) (aQ gj) (aj gj) .none kV3 dc3 pm3 an3 cd3 ct3),sl3⟩) (c3:B9 K cd3 "labels_left" = true) (k3:Cc K (.ref f3)=true)
  (a4:nsIn K AH "step_costs" = some (some (.ref f4))) (l4:K.lookup f4=some ⟨oc4,od4,.func (fnOf "step_costs" "step_costs" (aV cL) (aQ cL) (aj cL) .none kV4 dc4 pm4 an4 cd4 ct4),sl4⟩) (c4:B9 K cd4 "step_costs" = true) (k4:Cc K (.ref f4)=true)
  (a5:nsIn K AH "bounds_of" = some (some (.ref f5))) (l5:K.lookup f5=some ⟨oc5,od5,.func (fnOf "bounds_of" "bounds_of" (aV jk) (aQ jk) (aj jk) .none kV5 dc5 pm5 an5 cd5 ct5),sl5⟩) (c5:B9 K cd5 "bounds_of" = true) (k5:Cc K (.ref f5)=true)
  (a6:nsIn K AH "is_list_of_numbers" = some (some (.ref f6))) (l6:K.lookup f6=some ⟨oc6,od6,.func (fnOf "is_list_of_numbers" "is_list_of_numbers" (aV bC) (aQ bC) (aj bC) .none kV6 dc6 pm6 an6 cd6 ct6),sl6⟩) (c6:B9 K cd6 "is_list_of_numbers" = true) (k6:Cc K (.ref f6)=true)
  (a7:nsIn K AH "stretches_in" = some (some (.ref f7))) (l7:K.lookup f7=some ⟨oc7,od7,.func (fnOf "stretches_in" "stretches_in" (aV dW) (aQ dW) (aj dW) .none kV7 dc7 pm7 an7 cd7 ct7),sl7⟩) (c7:B9 K cd7 "stretches_in" = true) (k7:Cc K (.ref f7)=true)
  (a8:nsIn K AH "set_of" = some (some (.ref f8))) (l8:K.lookup f8=some ⟨oc8,od8,.func (fnOf "set_of" "set_of" (aV nY) (aQ nY) (aj nY) .none kV8 dc8 pm8 an8 cd8 ct8),sl8⟩) (c8:B9 K cd8 "set_of" = true) (k8:Cc K (.ref f8)=true)
  (a9:nsIn K AH "ways_by_label" = some (some (.ref f9))) (l9:K.lookup f9=some ⟨oc9,od9,.func (fnOf "ways_by_label" "ways_by_label" (aV bh) (aQ bh) (aj bh) .none kV9 dc9 pm9 an9 cd9 ct9),sl9⟩) (c9:B9 K cd9 "ways_by_label" = true) (k9:Cc K (.ref f9)=true)
  (a10:nsIn K AH "ways_by_stretch" = some (some (.ref f10))) (l10:K.lookup f10=some ⟨oc10,od10,.func (fnOf "ways_by_stretch" "ways_by_stretch" (aV bI) (aQ bI) (aj bI) .none kV10 dc10 pm10 an10 cd10 ct10),sl10⟩) (c10:B9 K cd10 "ways_by_stretch" = true) (k10:Cc K (.ref f10)=true)
  (a11:nsIn K AH "ways_of_set" = some (some (.ref f11))) (l11:K.lookup f11=some ⟨oc11,od11,.func (fnOf "ways_of_set" "ways_of_set" (aV cY) (aQ cY) (aj cY) .none kV11 dc11 pm11 an11 cd11 ct11),sl11⟩) (c11:B9 K cd11 "ways_of_set" = true) (k11:Cc K (.ref f11)=true)
  (a12:nsIn K AH "cost_charges" = some (some (.ref f12))) (l12:K.lookup f12=some ⟨oc12,od12,.func (fnOf "cost_charges" "cost_charges" (aV dz) (aQ dz) (aj dz) .none kV12 dc12 pm12 an12 cd12 ct12),sl12⟩) (c12:B9 K cd12 "cost_charges" = true) (k12:Cc K (.ref f12)=true)
  (a13:nsIn K AH "charged_ways" = some (some (.ref f13))) (l13:K.lookup f13=some ⟨oc13,od13,.func (fnOf "charged_ways" "charged_ways" (aV dB) (aQ dB) (aj dB) .none kV13 dc13 pm13 an13 cd13 ct13),sl13⟩) (c13:B9 K cd13 "charged_ways" = true) (k13:Cc K (.ref f13)=true)
  (a14:nsIn K AH "shows_least" = some (some (.ref f14))) (l14:K.lookup f14=some ⟨oc14,od14,.func (fnOf "shows_least" "shows_least" (aV bZ) (aQ bZ) (aj bZ) .none kV14 dc14 pm14 an14 cd14 ct14),sl14⟩) (c14:B9 K cd14 "shows_least" = true) (k14:Cc K (.ref f14)=true)
  (a15:nsIn K AH "shows_costs" = some (some (.ref f15))) (l15:K.lookup f15=some ⟨oc15,od15,.func (fnOf "shows_costs" "shows_costs" (aV cB) (aQ cB) (aj cB) .none kV15 dc15 pm15 an15 cd15 ct15),sl15⟩) (c15:B9 K cd15 "shows_costs" = true) (k15:Cc K (.ref f15)=true)
  (a16:nsIn K AH "least_by" = some (some (.ref f16))) (l16:K.lookup f16=some ⟨oc16,od16,.func (fnOf "least_by" "least_by" (aV dJ) (aQ dJ) (aj dJ) .none kV16 dc16 pm16 an16 cd16 ct16),sl16⟩) (c16:B9 K cd16 "least_by" = true) (k16:Cc K (.ref f16)=true)
  (a17:nsIn K AH "leasts_of_sets" = some (some (.ref f17))) (l17:K.lookup f17=some ⟨oc17,od17,.func (fnOf "leasts_of_sets" "leasts_of_sets" (aV bA) (aQ bA) (aj bA) .none kV17 dc17 pm17 an17 cd17 ct17),sl17⟩) (c17:B9 K cd17 "leasts_of_sets" = true) (k17:Cc K (.ref f17)=true)
  (a18:nsIn K AH "cost_paper" = some (some (.ref f18))) (l18:K.lookup f18=some ⟨oc18,od18,.func (fnOf "cost_paper" "cost_paper" (aV dw) (aQ dw) (aj dw) .none kV18 dc18 pm18 an18 cd18 ct18),sl18⟩) (c18:B9 K cd18 "cost_paper" = true) (k18:Cc K (.ref f18)=true)
  (a19:nsIn K AH "_law_cell_at" = some (some (.ref f19))) (l19:K.lookup f19=some ⟨oc19,od19,.func (fnOf "_law_cell_at" "_law_cell_at" (aV jq) (aQ jq) (aj jq) .none kV19 dc19 pm19 an19 cd19 ct19),sl19⟩) (c19:B9 K cd19 "_law_cell_at" = true) (k19:Cc K (.ref f19)=true)
  (a20:nsIn K AH "_law_tape" = some (some (.ref f20))) (l20:K.lookup f20=some ⟨oc20,od20,.func (fnOf "_law_tape" "_law_tape" (aV jY) (aQ jY) (aj jY) .none kV20 dc20 pm20 an20 cd20 ct20),sl20⟩) (c20:B9 K cd20 "_law_tape" = true) (k20:Cc K (.ref f20)=true)
  (a21:nsIn K AH "_law_take" = some (some (.ref f21))) (l21:K.lookup f21=some ⟨oc21,od21,.func (fnOf "_law_take" "_law_take" (aV jZ) (aQ jZ) (aj jZ) .none kV21 dc21 pm21 an21 cd21 ct21),sl21⟩) (c21:B9 K cd21 "_law_take" = true) (k21:Cc K (.ref f21)=true)
  (a22:nsIn K AH "_law_stretches" = some (some (.ref f22))) (l22:K.lookup f22=some ⟨oc22,od22,.func (fnOf "_law_stretches" "_law_stretches" (aV bO) (aQ bO) (aj bO) .none kV22 dc22 pm22 an22 cd22 ct22),sl22⟩) (c22:B9 K cd22 "_law_stretches" = true) (k22:Cc K (.ref f22)=true)
  (a23:nsIn K AH "_law_weights" = some (some (.ref f23))) (l23:K.lookup f23=some ⟨oc23,od23,.func (fnOf "_law_weights" "_law_weights" (aV eZ) (aQ eZ) (aj eZ) .none kV23 dc23 pm23 an23 cd23 ct23),sl23⟩) (c23:B9 K cd23 "_law_weights" = true) (k23:Cc K (.ref f23)=true)
  (a24:nsIn K AH "_law_prices" = some (some (.ref f24))) (l24:K.lookup f24=some ⟨oc24,od24,.func (fnOf "_law_prices" "_law_prices" (aV fQ) (aQ fQ) (aj fQ) .none kV24 dc24 pm24 an24 cd24 ct24),sl24⟩) (c24:B9 K cd24 "_law_prices" = true) (k24:Cc K (.ref f24)=true)
  (a25:nsIn K AH "_law_left" = some (some (.ref f25))) (l25:K.lookup f25=some ⟨oc25,od25,.func (fnOf "_law_left" "_law_left" (aV nW) (aQ nW) (aj nW) .none kV25 dc25 pm25 an25 cd25 ct25),sl25⟩) (c25:B9 K cd25 "_law_left" = true) (k25:Cc K (.ref f25)=true)
  (a26:nsIn K AH "_law_set" = some (some (.ref f26))) (l26:K.lookup f26=some ⟨oc26,od26,.func (fnOf "_law_set" "_law_set" (aV uU) (aQ uU) (aj uU) .none kV26 dc26 pm26 an26 cd26 ct26),sl26⟩) (c26:B9 K cd26 "_law_set" = true) (k26:Cc K (.ref f26)=true)
  (a27:nsIn K AH "_law_steps" = some (some (.ref f27))) (l27:K.lookup f27=some ⟨oc27,od27,.func (fnOf "_law_steps" "_law_steps" (aV cF) (aQ cF) (aj cF) .none kV27 dc27 pm27 an27 cd27 ct27),sl27⟩) (c27:B9 K cd27 "_law_steps" = true) (k27:Cc K (.ref f27)=true)
  (a28:nsIn K AH "_law_own" = some (some (.ref f28))) (l28:K.lookup f28=some ⟨oc28,od28,.func (fnOf "_law_own" "_law_own" (aV lE) (aQ lE) (aj lE) .none kV28 dc28 pm28 an28 cd28 ct28),sl28⟩) (c28:B9 K cd28 "_law_own" = true) (k28:Cc K (.ref f28)=true)
  (a29:nsIn K AH "_law_shows" = some (some (.ref f29))) (l29:K.lookup f29=some ⟨oc29,od29,.func (fnOf "_law_shows" "_law_shows" (aV cG) (aQ cG) (aj cG) .none kV29 dc29 pm29 an29 cd29 ct29),sl29⟩) (c29:B9 K cd29 "_law_shows" = true) (k29:Cc K (.ref f29)=true)
  (a30:nsIn K AH "_law_spots" = some (some (.ref f30))) (l30:K.lookup f30=some ⟨oc30,od30,.func (fnOf "_law_spots" "_law_spots" (aV fG) (aQ fG) (aj fG) .none kV30 dc30 pm30 an30 cd30 ct30),sl30⟩) (c30:B9 K cd30 "_law_spots" = true) (k30:Cc K (.ref f30)=true)
  (a31:nsIn K AH "_law_as" = some (some (.ref f31))) (l31:K.lookup f31=some ⟨oc31,od31,.func (fnOf "_law_as" "_law_as" (aV BX) (aQ BX) (aj BX) .none kV31 dc31 pm31 an31 cd31 ct31),sl31⟩) (c31:B9 K cd31 "_law_as" = true) (k31:Cc K (.ref f31)=true)
  (a32:nsIn K AH "_law_step_of_many" = some (some (.ref f32))) (l32:K.lookup f32=some ⟨oc32,od32,.func (fnOf "_law_step_of_many" "_law_step_of_many" (aV bF) (aQ bF) (aj bF) .none kV32 dc32 pm32 an32 cd32 ct32),sl32⟩) (c32:B9 K cd32 "_law_step_of_many" = true) (k32:Cc K (.ref f32)=true)
  (a33:nsIn K AH "_law_step" = some (some (.ref f33))) (l33:K.lookup f33=some ⟨oc33,od33,.func (fnOf "_law_step" "_law_step" (aV fO) (aQ fO) (aj fO) .none kV33 dc33 pm33 an33 cd33 ct33),sl33⟩) (c33:B9 K cd33 "_law_step" = true) (k33:Cc K (.ref f33)=true)
  (a34:nsIn K AH "_law_bent_at" = some (some (.ref f34))) (l34:K.lookup f34=some ⟨oc34,od34,.func (fnOf "_law_bent_at" "_law_bent_at" (aV fj) (aQ fj) (aj fj) .none kV34 dc34 pm34 an34 cd34 ct34),sl34⟩) (c34:B9 K cd34 "_law_bent_at" = true) (k34:Cc K (.ref f34)=true)
  (a35:nsIn K AH "_law_bent" = some (some (.ref f35))) (l35:K.lookup f35=some ⟨oc35,od35,.func (fnOf "_law_bent" "_law_bent" (aV gD) (aQ gD) (aj gD) .none kV35 dc35 pm35 an35 cd35 ct35),sl35⟩) (c35:B9 K cd35 "_law_bent" = true) (k35:Cc K (.ref f35)=true)
  (a36:nsIn K AH "_law_right" = some (some (.ref f36))) (l36:K.lookup f36=some ⟨oc36,od36,.func (fnOf "_law_right" "_law_right" (aV dO) (aQ dO) (aj dO) .none kV36 dc36 pm36 an36 cd36 ct36),sl36⟩) (c36:B9 K cd36 "_law_right" = true) (k36:Cc K (.ref f36)=true)
  (a37:nsIn K AH "law" = some (some (.ref f37))) (l37:K.lookup f37=some ⟨oc37,od37,.func (fnOf "law" "law" (aV cQ) (aQ cQ) (aj cQ) .none kV37 dc37 pm37 an37 cd37 ct37),sl37⟩) (c37:B9 K cd37 "law" = true) (k37:Cc K (.ref f37)=true)
  (z1:nsIn K AH "abs" = some none)
  (z2:nsIn K AH "all" = some none)
  (z3:nsIn K AH "any" = some none)
  (z4:nsIn K AH "bool" = some none)
  (z5:nsIn K AH "enumerate" = some none)
  (z6:nsIn K AH "int" = some none)
  (z7:nsIn K AH "isinstance" = some none)
  (z8:nsIn K AH "len" = some none)
  (z9:nsIn K AH "list" = some none)
  (z10:nsIn K AH "max" = some none)
  (z11:nsIn K AH "min" = some none)
  (z12:nsIn K AH "range" = some none)
  (z13:nsIn K AH "repr" = some none)
  (z14:nsIn K AH "set" = some none)
  (z15:nsIn K AH "sorted" = some none)
  (z16:nsIn K AH "str" = some none)
  (z17:nsIn K AH "sum" = some none)
  (z18:nsIn K AH "tuple" = some none)
  (z19:nsIn K AH "zip" = some none)
  (w1:nsIn K AH "MOST_IN_MASK" = some (some (.int 64 ckMostInMask)))
  (w2:nsIn K AH "MOST_IN_TABLE" = some (some (.int 200 ckMostInTable)))
  (t1:nsIn K AH "TESTS" = some (some (.ref aTests))) (u1:K.lookup aTests=some ⟨.type "tuple",none,.seq #[.str "is" kTests0,.str "within" kTests1,.str "below" kTests2,.str "mask" kTests3,.str "table" kTests4] nTests,slTests⟩) (e37:cd37=.ref cb) (hd37:PySem.W.codeHdIn K cb T=true) :
  ∃fd:BU,(∀(s:AC)(v:An),BindsTo s fd ⟨[v],[]⟩ [("_law_script",v)])/\∀base:Heap,K.In base->base.Ns AH mg->base.BuiltinsAt mg T->dj l.prog w K mg base CX0 88 fa fd ["_law_script"] (M8 K T):=by
 have e:=hfa.symm.trans (mg_of X G a37);cases e;subst e37;have DIsNumber:=bV (st:=gA) (ps:=["thing"]) X G a1 l1 c1 k1 fun _ _ _ _ _ _ us hl=>by obtain⟨z0,rfl⟩:=ln1 hl;rfl
 have DNumbersAcross:=bV (st:=dI) (ps:=["stretches","left"]) X G a2 l2 c2 k2 fun _ _ _ _ _ _ us hl=>by obtain⟨z0,z1,rfl⟩:=ln2 hl;rfl
 have DLabelsLeft:=bV (st:=gj) (ps:=["stretches","left"]) X G a3 l3 c3 k3 fun _ _ _ _ _ _ us hl=>by obtain⟨z0,z1,rfl⟩:=ln2 hl;rfl
 have DStepCosts:=bV (st:=cL) (ps:=["weights","prices","left"]) X G a4 l4 c4 k4 fun _ _ _ _ _ _ us hl=>by obtain⟨z0,z1,z2,rfl⟩:=ln3 hl;rfl
 have DBoundsOf:=bV (st:=jk) (ps:=["ways","numbers"]) X G a5 l5 c5 k5 fun _ _ _ _ _ _ us hl=>by obtain⟨z0,z1,rfl⟩:=ln2 hl;rfl
 have DIsListOfNumbers:=bV (st:=bC) (ps:=["thing","many"]) X G a6 l6 c6 k6 fun _ _ _ _ _ _ us hl=>by obtain⟨z0,z1,rfl⟩:=ln2 hl;rfl
 have DStretchesIn:=bV (st:=dW) (ps:=["some"]) X G a7 l7 c7 k7 fun _ _ _ _ _ _ us hl=>by obtain⟨z0,rfl⟩:=ln1 hl;rfl
 have DSetOf:=bV (st:=nY) (ps:=["left"]) X G a8 l8 c8 k8 fun _ _ _ _ _ _ us hl=>by obtain⟨z0,rfl⟩:=ln1 hl;rfl
 have DWaysByLabel:=bV (st:=bh) (ps:=["stretches","left"]) X G a9 l9 c9 k9 fun _ _ _ _ _ _ us hl=>by obtain⟨z0,z1,rfl⟩:=ln2 hl;rfl
 have DWaysByStretch:=bV (st:=bI) (ps:=["stretches","left"]) X G a10 l10 c10 k10 fun _ _ _ _ _ _ us hl=>by obtain⟨z0,z1,rfl⟩:=ln2 hl;rfl
 have DWaysOfSet:=bV (st:=cY) (ps:=["stretches","some"]) X G a11 l11 c11 k11 fun _ _ _ _ _ _ us hl=>by obtain⟨z0,z1,rfl⟩:=ln2 hl;rfl
 have DCostCharges:=bV (st:=dz) (ps:=["stretches","weights","prices"]) X G a12 l12 c12 k12 fun _ _ _ _ _ _ us hl=>by obtain⟨z0,z1,z2,rfl⟩:=ln3 hl;rfl
 have DChargedWays:=bV (st:=dB) (ps:=["stretches","charges","some"]) X G a13 l13 c13 k13 fun _ _ _ _ _ _ us hl=>by obtain⟨z0,z1,z2,rfl⟩:=ln3 hl;rfl
 have DShowsLeast:=bV (st:=bZ) (ps:=["stretches","charges","numbers"]) X G a14 l14 c14 k14 fun _ _ _ _ _ _ us hl=>by obtain⟨z0,z1,z2,rfl⟩:=ln3 hl;rfl
 have DShowsCosts:=bV (st:=cB) (ps:=["stretches","weights","prices","thing"]) X G a15 l15 c15 k15 fun _ _ _ _ _ _ us hl=>by obtain⟨z0,z1,z2,z3,rfl⟩:=ln4 hl;rfl
 have DLeastBy:=bV (st:=dJ) (ps:=["ways","numbers","plans"]) X G a16 l16 c16 k16 fun _ _ _ _ _ _ us hl=>by obtain⟨z0,z1,z2,rfl⟩:=ln3 hl;rfl
 have DLeastsOfSets:=bV (st:=bA) (ps:=["stretches","charges"]) X G a17 l17 c17 k17 fun _ _ _ _ _ _ us hl=>by obtain⟨z0,z1,rfl⟩:=ln2 hl;rfl
 have DCostPaper:=bV (st:=dw) (ps:=["stretches","weights","prices"]) X G a18 l18 c18 k18 fun _ _ _ _ _ _ us hl=>by obtain⟨z0,z1,z2,rfl⟩:=ln3 hl;rfl
 have DZCellAt:=bV (st:=jq) (ps:=["_law_script","_law_k"]) X G a19 l19 c19 k19 fun _ _ _ _ _ _ us hl=>by obtain⟨z0,z1,rfl⟩:=ln2 hl;rfl
 have DZTape:=bV (st:=jY) (ps:=["_law_script","_law_k"]) X G a20 l20 c20 k20 fun _ _ _ _ _ _ us hl=>by obtain⟨z0,z1,rfl⟩:=ln2 hl;rfl
 have DZTake:=bV (st:=jZ) (ps:=["_law_tape_here","_law_many"]) X G a21 l21 c21 k21 fun _ _ _ _ _ _ us hl=>by obtain⟨z0,z1,rfl⟩:=ln2 hl;rfl
 have DZStretches:=bV (st:=bO) (ps:=["_law_tape_here","_law_many"]) X G a22 l22 c22 k22 fun _ _ _ _ _ _ us hl=>by obtain⟨z0,z1,rfl⟩:=ln2 hl;rfl
 have DZWeights:=bV (st:=eZ) (ps:=["_law_tape_here","_law_many"]) X G a23 l23 c23 k23 fun _ _ _ _ _ _ us hl=>by obtain⟨z0,z1,rfl⟩:=ln2 hl;rfl
 have DZPrices:=bV (st:=fQ) (ps:=["_law_tape_here","_law_many"]) X G a24 l24 c24 k24 fun _ _ _ _ _ _ us hl=>by obtain⟨z0,z1,rfl⟩:=ln2 hl;rfl
 have DZLeft:=bV (st:=nW) (ps:=["_law_number","_law_many"]) X G a25 l25 c25 k25 fun _ _ _ _ _ _ us hl=>by obtain⟨z0,z1,rfl⟩:=ln2 hl;rfl
 have DZSet:=bV (st:=uU) (ps:=["_law_left_here"]) X G a26 l26 c26 k26 fun _ _ _ _ _ _ us hl=>by obtain⟨z0,rfl⟩:=ln1 hl;rfl
 have DZSteps:=bV (st:=cF) (ps:=["_law_stretches_here","_law_left_here"]) X G a27 l27 c27 k27 fun _ _ _ _ _ _ us hl=>by obtain⟨z0,z1,rfl⟩:=ln2 hl;rfl
 have DZOwn:=bV (st:=lE) (ps:=["_law_stretches_here","_law_scale","_law_left_here","_law_word"]) X G a28 l28 c28 k28 fun _ _ _ _ _ _ us hl=>by obtain⟨z0,z1,z2,z3,rfl⟩:=ln4 hl;rfl
 have DZShows:=bV (st:=cG) (ps:=["_law_stretches_here","_law_scale","_law_thing"]) X G a29 l29 c29 k29 fun _ _ _ _ _ _ us hl=>by obtain⟨z0,z1,z2,rfl⟩:=ln3 hl;rfl
 have DZSpots:=bV (st:=fG) (ps:=["_law_thing"]) X G a30 l30 c30 k30 fun _ _ _ _ _ _ us hl=>by obtain⟨z0,rfl⟩:=ln1 hl;rfl
 have DZAs:=bV (st:=BX) (ps:=["_law_thing","_law_inner"]) X G a31 l31 c31 k31 fun _ _ _ _ _ _ us hl=>by obtain⟨z0,z1,rfl⟩:=ln2 hl;rfl
 have DZStepOfMany:=bV (st:=bF) (ps:=["_law_tape_here","_law_thing"]) X G a32 l32 c32 k32 fun _ _ _ _ _ _ us hl=>by obtain⟨z0,z1,rfl⟩:=ln2 hl;rfl
 have DZStep:=bV (st:=fO) (ps:=["_law_tape_here","_law_thing"]) X G a33 l33 c33 k33 fun _ _ _ _ _ _ us hl=>by obtain⟨z0,z1,rfl⟩:=ln2 hl;rfl
 have DZBentAt:=bV (st:=fj) (ps:=["_law_tape_here","_law_thing","_law_spot"]) X G a34 l34 c34 k34 fun _ _ _ _ _ _ us hl=>by obtain⟨z0,z1,z2,rfl⟩:=ln3 hl;rfl
 have DZBent:=bV (st:=gD) (ps:=["_law_tape_here","_law_handed"]) X G a35 l35 c35 k35 fun _ _ _ _ _ _ us hl=>by obtain⟨z0,z1,rfl⟩:=ln2 hl;rfl
 have DZRight:=bV (st:=dO) (ps:=["_law_tape_here","_law_ask","_law_due","_law_handed"]) X G a36 l36 c36 k36 fun _ _ _ _ _ _ us hl=>by obtain⟨z0,z1,z2,z3,rfl⟩:=ln4 hl;rfl
 have DLaw:=bV (st:=cQ) (ps:=["_law_script"]) X G a37 l37 c37 k37 fun _ _ _ _ _ _ us hl=>by obtain⟨z0,rfl⟩:=ln1 hl;rfl
 have cgMostInMask:mg "MOST_IN_MASK" = some (.int 64 ckMostInMask):=mg_of X G w1;have cgMostInTable:mg "MOST_IN_TABLE" = some (.int 200 ckMostInTable):=mg_of X G w2;have cgTests:mg "TESTS" = some (.ref aTests):=mg_of X G t1;have ktTests:KTup K aTests ([("is" : Str),("within" : Str),("below" : Str),("mask" : Str),("table" : Str)].map V.str):=⟨_,_,_,u1,rfl,rfl,rfl,aX (show 5<=1000000 by decide),(.cons ⟨_,rfl⟩ (.cons ⟨_,rfl⟩ (.cons ⟨_,rfl⟩ (.cons ⟨_,rfl⟩ (.cons ⟨_,rfl⟩ .nil)))))⟩;have hB:∀x:Str,x∈BLs->mg x=none:=by
  intro x hx;replace hx:x∈(["abs","all","any","bool","enumerate","int","isinstance","len","list","max","min","range","repr","set","sorted","str","sum","tuple","zip"]:List Str):=hx;simp only[AX,Bz,or_false] at hx;rcases hx with rfl|rfl|rfl|rfl|rfl|rfl|rfl|rfl|rfl|rfl|rfl|rfl|rfl|rfl|rfl|rfl|rfl|rfl|rfl
  ·exact CC X G z1
  ·exact CC X G z2
  ·exact CC X G z3
  ·exact CC X G z4
  ·exact CC X G z5
  ·exact CC X G z6
  ·exact CC X G z7
  ·exact CC X G z8
  ·exact CC X G z9
  ·exact CC X G z10
  ·exact CC X G z11
  ·exact CC X G z12
  ·exact CC X G z13
  ·exact CC X G z14
  ·exact CC X G z15
  ·exact CC X G z16
  ·exact CC X G z17
  ·exact CC X G z18
  exact CC X G z19
 refine⟨fnOf "law" "law" (aV cQ) (aQ cQ) (aj cQ) .none kV37 dc37 pm37 an37 (.ref cb) ct37,fun s v=>.of_eq rfl,fun base kb nb hbu=>?_⟩;have CCell:=DZCellAt.cal (Y0 (P:=l.prog) (w:=w) (base:=base) hB DZCellAt.fn);have CTape:=DZTape.cal (YW hB CCell DZTape.fn);have CTake0:=DZTake.cal (PJ (P:=l.prog) (w:=w) (mg:=mg) (base:=base));have CTake1:=DZTake.cal (NT (n:=0) hB δ CTake0 DZTake.fn);have CTake2:=DZTake.cal (NT (n:=1) hB δ CTake1 DZTake.fn);have CSts:=DZStretches.cal (abv hB CTake2 DZStretches.fn);have CWts:=DZWeights.cal (KY hB CTake2 DZWeights.fn);have CPrs:=DZPrices.cal (Qo hB CTake2 DZPrices.fn);have CAcross:=DNumbersAcross.cal (Qu (P:=l.prog) (w:=w) (base:=base) hB DNumbersAcross.fn);have CLabs:=DLabelsLeft.cal (YZ (P:=l.prog) (w:=w) (base:=base) hB DLabelsLeft.fn);have CNum:=DIsNumber.cal (Ve (P:=l.prog) (w:=w) (base:=base) hB DIsNumber.fn);have CSetOf:=DSetOf.cal (Va (P:=l.prog) (w:=w) (base:=base) hB DSetOf.fn);have CWayS:=DWaysByStretch.cal (U4 hB CSetOf DWaysByStretch.fn);have CWayL:=DWaysByLabel.cal (U5 hB cgMostInMask cgMostInTable CAcross CLabs CSetOf DWaysByLabel.fn);have CStepC:=DStepCosts.cal (U7 (P:=l.prog) (w:=w) (base:=base) hB cgTests ktTests DStepCosts.fn);have CStrIn:∀n,n<=60->Cal l.prog w K mg base "stretches_in" 1 ["some"] (Xg n):=fun n hn=>DStretchesIn.cal (U6 (n:=n) (P:=l.prog) (w:=w) (base:=base) hn hB DStretchesIn.fn);have CChg:∀n,n<=8->Cal l.prog w K mg base "cost_charges" 2 q2_ (rz n):=fun n hn=>DCostCharges.cal (K1 (n:=n) ω hB (CStrIn n ω) CStepC DCostCharges.fn);have CChW:∀n,n<=8->∀f',Cal l.prog w K mg base "charged_ways" 4 q9_ (rA f' n):=fun n hn f'=>DChargedWays.cal (K3 (n:=n) ω hB (DWaysOfSet.cal (abu (n:=n) ω hB (CStrIn n ω) CWayL CWayS DWaysOfSet.fn)) DChargedWays.fn);have CBnd:∀f',Cal l.prog w K mg base "bounds_of" 1 q15_ (uJ f'):=fun f'=>DBoundsOf.cal (Qs (f':=f') (P:=l.prog) (w:=w) (base:=base) hB DBoundsOf.fn);have CPaper:=DCostPaper.cal (GK (sp:=Eu) fun n hn=>Vc (n:=n) ω hB (fun ws zs=>DLeastsOfSets.cal (Qq (Pu ws zs) ω hB (DLeastBy.cal (KZ hB (CBnd _) DLeastBy.fn)) (CChW n hn _) DLeastsOfSets.fn)) (CChg n hn) DCostPaper.fn);have CListN:=DIsListOfNumbers.cal (Vd hB CNum DIsListOfNumbers.fn);have FShows:∀n,n<=8->dj l.prog w K mg base CX0 6 _ _ q4_ (spShowsC n):=fun n hn=>Qn (n:=n) hB CListN (CChg n hn) (fun ws zs=>DShowsLeast.cal (Qm ω hB (CChW n hn _) (CBnd _) DShowsLeast.fn)) ω DShowsCosts.fn;have CZSet:=DZSet.cal (YS (P:=l.prog) (w:=w) (base:=base) hB DZSet.fn);have CZSteps:=DZSteps.cal (Ql hB CZSet DZSteps.fn);have CZOwn:=DZOwn.cal (YT (P:=l.prog) (w:=w) (base:=base) hB DZOwn.fn);have FLShows:∀n,n<=8->dj l.prog w K mg base CX0 3 _ _ q1_ (spLShows qR n):=fun n hn=>Qp HJ ω hB (DZLeft.cal (U3 (n:=n) (P:=l.prog) (w:=w) (base:=base) ω hB DZLeft.fn)) CZSteps CZOwn DZShows.fn;have CAs:=DZAs.cal (acK (P:=l.prog) (w:=w) (base:=base) hB DZAs.fn);have CSMany:=DZStepOfMany.cal (U9 hB CTake2 CAs DZStepOfMany.fn)
 have CStp:∀n,Cal l.prog w K mg base "_law_step" (n+4) q6_ (uI false):=fun n=>DZStep.cal ((YX hB CTake2 CSMany DZStep.fn).mono ω);have CSp:∀n,n<=100->Cal l.prog w K mg base "_law_spots" n q19_ (mZ n):=by
  intro n
  induction n with
  | zero=>exact fun _=>DZSpots.cal (Km (P:=l.prog) (w:=w) (mg:=mg) (base:=base))
  | succ n ih=>exact fun h=>DZSpots.cal (U8 ω hB (ih ω) DZSpots.fn)
 have CBt:∀n,Cal l.prog w K mg base "_law_bent_at" (n+4) q3_ (kY n):=by
  intro n
  induction n with
  | zero=>exact DZBentAt.cal (JZ (P:=l.prog) (w:=w) (mg:=mg) (base:=base))
  | succ n ih=>exact DZBentAt.cal (Qt hB (CStp n) CAs ih DZBentAt.fn)
 have CBent:=DZBent.cal (Y4 hB CTake2 (CSp 81 δ) (CBt 81) DZBent.fn);have CRight:=DZRight.cal (Vb hB CBent DZRight.fn);exact abw hB CTape CTake2 CSts CWts CPrs CPaper (DShowsCosts.cal (GK (sp:=spShowsC) FShows)) (fun n hn=>DShowsCosts.cal (FShows n hn)) (DZShows.cal (GK (sp:=spLShows qR) FLShows)) (fun n hn=>DZShows.cal (FLShows n hn)) CRight (PySem.W.codeHd_of_K kb hd37) hbu l37 c37
theorem walk {l:PySem.W.OpenLaw}{q:AU}{loose:List Str}{XP:(Str->Option An)->Heap->Prop}{YP:Be->Heap->Prop}{d:DefRec}{K:Params->Au}(cb T:Addr)(hn:l.most=some 63)(hdf:d.params.defaults=[])
  (hY:∀(w:Be)(h:Heap),YP w h->(K w.params).In h/\h.get? T=some (IR #[])/\(K w.params).lookup T=none/\EA h cb T)
  (F:∀(w:Be)(mg:Str->Option An)(fa:Addr)(h:Heap),(K w.params).In h->h.Ns AH mg->mg d.name=some (.ref fa) ->
   ∃fd:BU,(∀(s:AC)(u:An),BindsTo s fd ⟨[u],[]⟩ [("_law_script",u)])/\∀base:Heap,(K w.params).In base->base.Ns AH mg->base.BuiltinsAt mg T->dj l.prog w (K w.params) mg base CX0 88 fa fd ["_law_script"] (M8 (K w.params) T))
  (hKT:∀w:Be,(K w.params).lookup T=none) :
  PySem.W.WalkO q loose XP YP l.row.toRowW d [] (fun f vs=>PySem.call f vs):=
 L2.Sh (n:=63) (k:=88) (x := "_law_script") (c:=cb) (T:=T) (CX:=fun _=>CX0) (sp:=fun w=>M8 (K w.params) T) hn δ hdf ⟨rfl,δ,δ,rfl⟩ hY F (fun w H a ns hl hT hS=>⟨a,ns,rfl,hS,hl,(fun z=>by
  subst z;rcases hS with h|⟨o,vs,e,h,_⟩
  ·rcases h with h|⟨o,h⟩
   ·rw[hT] at h;cases h
   rw[hT] at h;cases h
  rw[hKT] at h;cases h),⟨#[],hT,trivial,.inl rfl⟩,⟨#[],hT,trivial,.inl rfl⟩,fun _=>rfl⟩) fun _ _ _ _ _ z=>z
end K35
namespace PySem.W.Fast
theorem tw10286523445267022610:True:=⟨⟩
theorem tw1112822158917447733:True:=⟨⟩
theorem tw16686846190747982574:True:=⟨⟩
theorem tw5805299238555567507:True:=⟨⟩
theorem tw9755174717198949131:True:=⟨⟩
end PySem.W.Fast
open PySem PySem.W PyProof.Rows
set_option maxRecDepth 100000 in
set_option maxHeartbeats 0 in
theorem PySem.Challenge.cw_caseways_k35_papers_of_costs_spoilt_holds : PySem.Challenge.rw_caseways_k35_papers_of_costs_spoilt.Holds := by
 w_on; o_law; k_head; (case hw=>w_witness2)
 k_fill
 refine K35.walk 237 233 (l:=PySem.Challenge.rw_caseways_k35_papers_of_costs_spoilt) rfl rfl (fun w h Y=>⟨PySem.W.km_in_of Y,PySem.W.km_tabs_of Y 233 (by k_mem),by kernel_rfl,PySem.W.codeHd_of_K (PySem.W.km_in_of Y) (by kernel_rfl)⟩) ?F (fun w=>by kernel_rfl)
 case F=>
  intro w mg fa h KX G hmg
  refine' K35.all_mk (cb:=237) KX G hmg ?a1 ?l1 ?c1 ?k1 ?a2 ?l2 ?c2 ?k2 ?a3 ?l3 ?c3 ?k3 ?a4 ?l4 ?c4 ?k4 ?a5 ?l5 ?c5 ?k5 ?a6 ?l6 ?c6 ?k6 ?a7 ?l7 ?c7 ?k7 ?a8 ?l8 ?c8 ?k8 ?a9 ?l9 ?c9 ?k9 ?a10 ?l10 ?c10 ?k10 ?a11 ?l11 ?c11 ?k11 ?a12 ?l12 ?c12 ?k12 ?a13 ?l13 ?c13 ?k13 ?a14 ?l14 ?c14 ?k14 ?a15 ?l15 ?c15 ?k15 ?a16 ?l16 ?c16 ?k16 ?a17 ?l17 ?c17 ?k17 ?a18 ?l18 ?c18 ?k18 ?a19 ?l19 ?c19 ?k19 ?a20 ?l20 ?c20 ?k20 ?a21 ?l21 ?c21 ?k21 ?a22 ?l22 ?c22 ?k22 ?a23 ?l23 ?c23 ?k23 ?a24 ?l24 ?c24 ?k24 ?a25 ?l25 ?c25 ?k25 ?a26 ?l26 ?c26 ?k26 ?a27 ?l27 ?c27 ?k27 ?a28 ?l28 ?c28 ?k28 ?a29 ?l29 ?c29 ?k29 ?a30 ?l30 ?c30 ?k30 ?a31 ?l31 ?c31 ?k31 ?a32 ?l32 ?c32 ?k32 ?a33 ?l33 ?c33 ?k33 ?a34 ?l34 ?c34 ?k34 ?a35 ?l35 ?c35 ?k35 ?a36 ?l36 ?c36 ?k36 ?a37 ?l37 ?c37 ?k37 ?z1 ?z2 ?z3 ?z4 ?z5 ?z6 ?z7 ?z8 ?z9 ?z10 ?z11 ?z12 ?z13 ?z14 ?z15 ?z16 ?z17 ?z18 ?z19 ?w1 ?w2 ?t1 ?u1 ?e37 ?hd37
  case a1|l1|c1|k1|a2|l2|c2|k2|a3|l3|c3|k3|a4|l4|c4|k4|a5|l5|c5|k5|a6|l6|c6|k6|a7|l7|c7|k7|a8|l8|c8|k8|a9|l9|c9|k9|a10|l10|c10|k10|a11|l11|c11|k11|a12|l12|c12|k12|a13|l13|c13|k13|a14|l14|c14|k14|a15|l15|c15|k15|a16|l16|c16|k16|a17|l17|c17|k17|a18|l18|c18|k18|a19|l19|c19|k19|a20|l20|c20|k20|a21|l21|c21|k21|a22|l22|c22|k22|a23|l23|c23|k23|a24|l24|c24|k24|a25|l25|c25|k25|a26|l26|c26|k26|a27|l27|c27|k27|a28|l28|c28|k28|a29|l29|c29|k29|a30|l30|c30|k30|a31|l31|c31|k31|a32|l32|c32|k32|a33|l33|c33|k33|a34|l34|c34|k34|a35|l35|c35|k35|a36|l36|c36|k36|a37|l37|c37|k37|z1|z2|z3|z4|z5|z6|z7|z8|z9|z10|z11|z12|z13|z14|z15|z16|z17|z18|z19|w1|w2|t1|u1=>k_is
  case e37=>rfl
  case hd37=>kernel_rfl
#print axioms PySem.Challenge.cw_caseways_k35_papers_of_costs_spoilt_holds
